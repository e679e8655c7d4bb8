import PyProof.Rows.All
import Wide.All
import OpenK.AllK
import Wide.FinOn
import HandS.ForMost
import HandS.Deep
import HandS.TupAny
import HandS.Style
import HandS.Flow
import HandS.SortInts
import HandS.RaiseMore
import HandS.Wide
import HandS.TupLen
import HandS.Conv
import HandS.ExcOwn
import HandS.TryOnly
import HandS.WordsExc
import HandS.Walk
import HandS.NoneIn
import HandS.Zip
import KE.GoesMore
import PyProof.AutoSeq1
import HandS.Small
import KE.KDictSum
import HandS.RevTup
import HandS.SortKw
import HandS.IsInst
import KE.KMinKey
import PyProof.ListRange
import HandS.Star
import HandS.List
import HandS.Defaults
import HandS.Ends
import HandS.HeadEnd
import HandS.HeadHook2
import HandS.HeadHook4
import PyProof.StrLawsRepr
import PyProof.Rows.StrBin
import PyProof.ReprLoop
import PyProof.Rows.ReprOcc
import KE.BitLaws
import KE.KStateDown
import HandS.Head0
import HandS.Head1
import HandS.Head2
import HandS.HeadHook1
import PySem.Challenge.RW_bitloom_k52_whole_runs_of_nets
set_option Elab.async false
set_option linter.all false
set_option maxRecDepth 100000

-- VS.Core
/-! Programs of values: a small language of which each def's text is told, and what it comes to.
Lists and dicts are values here, each owned by one place; nothing of the machine's memory is said. -/
namespace VS
open PySem

/-- a text by its signs' numbers -/
def q (cs : List Nat) : Str := ⟨cs.toArray⟩
theorem q_inj {a b : List Nat} : q a = q b ↔ a = b := by
  unfold q
  constructor
  · intro h
    have := congrArg Str.cps h
    simpa using this
  · intro h; rw [h]

/-- what a name may have -/
inductive D where
  | non | bl (b : Bool) | int (i : Int) | str (s : Str)
  | tup (xs : List D) | lst (xs : List D)
  | dct (ps : List (L2.Key × D)) | dctT (ps : List (List L2.Key × D))
  | obj (i : Nat)
  deriving Inhabited

mutual
def cf : D → Bool
  | .tup xs => cfs xs
  | .lst _ => false
  | .dct _ => false
  | .dctT _ => false
  | .non => true
  | .bl _ => true
  | .int _ => true
  | .str _ => true
  | .obj _ => true
def cfs : List D → Bool
  | [] => true
  | x :: r => cf x && cfs r
end
/-- whether a container that is made anew of such members owns all that is in it -/
def kd : D → Bool
  | .lst xs => cfs xs
  | .tup xs => cfs xs
  | .dct ps => cfs (ps.map (·.2))
  | .dctT ps => cfs (ps.map (·.2))
  | .non => true
  | .bl _ => true
  | .int _ => true
  | .str _ => true
  | .obj _ => true

def keyP : L2.Key → PyData
  | .inl i => .int i
  | .inr s => .str s
def keyD : L2.Key → D
  | .inl i => .int i
  | .inr s => .str s
mutual
def toP : D → PyData
  | .non => .none
  | .bl b => .bool b
  | .int i => .int i
  | .str s => .str s
  | .tup xs => .tuple (toPs xs)
  | .lst xs => .list (toPs xs)
  | .dct ps => .dict (toPk ps)
  | .dctT ps => .dict (toPt ps)
  | .obj _ => .none
def toPs : List D → List PyData
  | [] => []
  | x :: r => toP x :: toPs r
def toPk : List (L2.Key × D) → List (PyData × PyData)
  | [] => []
  | (k, x) :: r => (keyP k, toP x) :: toPk r
def toPt : List (List L2.Key × D) → List (PyData × PyData)
  | [] => []
  | (k, x) :: r => (.tuple (k.map keyP), toP x) :: toPt r
end
mutual
def plain : D → Bool
  | .obj _ => false
  | .tup xs => plains xs
  | .lst xs => plains xs
  | .dct ps => plainK ps
  | .dctT ps => plainT ps
  | .non => true
  | .bl _ => true
  | .int _ => true
  | .str _ => true
def plains : List D → Bool
  | [] => true
  | x :: r => plain x && plains r
def plainK : List (L2.Key × D) → Bool
  | [] => true
  | (_, x) :: r => plain x && plainK r
def plainT : List (List L2.Key × D) → Bool
  | [] => true
  | (_, x) :: r => plain x && plainT r
end

structure Ob where
  cls : String
  fs : List (Str × D × Bool)
/-- what a body has: its names by number, each with whether it owns what it has; all objects -/
structure S where
  sl : List (Option (D × Bool))
  os : List Ob
def S.get (st : S) (i : Nat) : Option (D × Bool) := (st.sl[i]?).join
def S.set (st : S) (i : Nat) (v : Option (D × Bool)) : S := { st with sl := st.sl.set i v }

inductive Rv where
  | ok (d : D) (k : Bool) (st : S)
  | exc (c : String) (fs : List (Str × D)) (st : S)
  | err
inductive Rvs where
  | ok (ds : List (D × Bool)) (st : S)
  | exc (c : String) (fs : List (Str × D)) (st : S)
  | err
inductive Rt where
  | ok (b : Bool) (st : S)
  | err
inductive Rs where
  | next (st : S) | ret (d : D) (k : Bool) (st : S) | brk (st : S) | cnt (st : S)
  | exc (c : String) (fs : List (Str × D)) (st : S)
  | err
/-- a call's end: what it gives, what the places that it may change have then, all objects -/
inductive Rc where
  | ok (d : D) (k : Bool) (outs : List D) (os : List Ob)
  | exc (c : String) (fs : List (Str × D)) (outs : List D) (os : List Ob)
  | err

inductive Cn where
  | non | bl (b : Bool) | int (i : Int) | str (s : List Nat)
  deriving DecidableEq
def Cn.d : Cn → D
  | .non => .non
  | .bl b => .bl b
  | .int i => .int i
  | .str s => .str (q s)

/-- types that are asked for -/
inductive Tn where
  | int | bool | str | list | tuple | dict
  deriving DecidableEq
inductive O1 where
  | neg | len | abs | toInt | toBool | toStr | tupleOf | listOf | repr | sortedI | sum | rev | isN | notN
  | maxL | isT (t : Tn) | rngL1
  deriving DecidableEq
inductive O2 where
  | add | sub | mul | fdiv | mod | pow | shl | shr | band | bor | bxor
  | eq | ne | lt | le | gt | ge | inn | notin | idx | max2 | min2 | get1 | sfrom | sto | maxD | rngL
  deriving DecidableEq
inductive O3 where
  | sl | get2
  deriving DecidableEq

inductive Tg where
  | n (i : Nat) | t (ts : List Tg)

/-- expressions -/
inductive Ex where
  | con (c : Cn) | var (i : Nat) | mv (i : Nat) | io (i : Nat) | glb (x : String)
  | tup (es : List Ex) | lst (es : List Ex) | lstS (ss : List Bool) (es : List Ex)
  | dct (ks : List (List Nat)) (es : List Ex) | dct0 | dctT0
  | op1 (o : O1) (a : Ex) | op2 (o : O2) (a b : Ex) | op3 (o : O3) (a b c : Ex)
  | not (a : Ex) | ite (c a b : Ex) | and (a b : Ex) | or (a b : Ex)
  | call (f : String) (es : List Ex)
  | pop (i : Nat) (path : List (List Nat)) 
  | popAt (i : Nat) (path : List (List Nat)) (e : Ex)
  | comp (own : List Nat) (tg : Tg) (kind : Nat) (it it2 : Ex) (cs : List Ex) (e : Ex)

inductive Sm where
  | asg (t : Tg) (e : Ex) | par (ns : List Nat) (es : List Ex) | aug (i : Nat) (o : O2) (e : Ex)
  | setK (i : Nat) (path : List (List Nat)) (k : Ex) (e : Ex)
  | app (i : Nat) (path : List (List Nat)) (e : Ex) | ext (i : Nat) (path : List (List Nat)) (e : Ex)
  | ex (e : Ex) | ret (e : Ex) | retN
  | ite (c : Ex) (a b : List Sm) | while (c : Ex) (b : List Sm)
  | forI (tg : Tg) (kind : Nat) (it it2 : Ex) (clr : List Nat) (b : List Sm)
  | brk | cnt | pass

/-! ### which names an expression may hand on, and which it may change -/
mutual
def vars : Ex → List Nat
  | .var i => [i]
  | .tup es => varss es
  | .lst es => varss es
  | .lstS _ es => varss es
  | .dct _ es => varss es
  | .op1 _ a => vars a
  | .op2 _ a b => vars a ++ vars b
  | .op3 _ a b c => vars a ++ (vars b ++ vars c)
  | .not a => vars a
  | .ite c a b => vars c ++ (vars a ++ vars b)
  | .and a b => vars a ++ vars b
  | .or a b => vars a ++ vars b
  | .call _ es => varss es
  | .comp _ _ _ it it2 _ e => vars it ++ (vars it2 ++ vars e)
  | .con _ => []
  | .mv _ => []
  | .io _ => []
  | .glb _ => []
  | .dct0 => []
  | .dctT0 => []
  | .pop _ _ => []
  | .popAt _ _ e => []
def varss : List Ex → List Nat
  | [] => []
  | e :: r => vars e ++ varss r
end
mutual
def muts : Ex → List Nat
  | .mv i => [i]
  | .io i => [i]
  | .tup es => mutss es
  | .lst es => mutss es
  | .lstS _ es => mutss es
  | .dct _ es => mutss es
  | .op1 _ a => muts a
  | .op2 _ a b => muts a ++ muts b
  | .op3 _ a b c => muts a ++ (muts b ++ muts c)
  | .not a => muts a
  | .ite c a b => muts c ++ (muts a ++ muts b)
  | .and a b => muts a ++ muts b
  | .or a b => muts a ++ muts b
  | .call _ es => mutss es
  | .pop i _ => [i]
  | .popAt i _ e => i :: muts e
  | .comp _ _ _ it it2 cs e => muts it ++ (muts it2 ++ (mutss cs ++ muts e))
  | .var _ => []
  | .con _ => []
  | .glb _ => []
  | .dct0 => []
  | .dctT0 => []
def mutss : List Ex → List Nat
  | [] => []
  | e :: r => muts e ++ mutss r
end
mutual
/-- the names of a target -/
def tgs : Tg → List Nat
  | .n i => [i]
  | .t ts => tgss ts
def tgss : List Tg → List Nat
  | [] => []
  | t :: ts => tgs t ++ tgss ts
end
def disj (a b : List Nat) : Bool := a.all fun i => !b.contains i

section
variable {κ : Type} [DecidableEq κ]
def valD (ps : List (κ × D)) (k : κ) : Option D := (ps.find? fun kv => decide (kv.1 = k)).map (·.2)
def putD (ps : List (κ × D)) (k : κ) (v : D) : List (κ × D) :=
  if (ps.any fun kv => decide (kv.1 = k)) = true then ps.map (fun kv => if kv.1 = k then (kv.1, v) else kv) else ps ++ [(k, v)]
def dropD (ps : List (κ × D)) (k : κ) : List (κ × D) := ps.filter fun kv => decide (kv.1 ≠ k)
end
/-- a value as a key -/
def keyOf : D → Option L2.Key
  | .int i => some (.inl i)
  | .str s => some (.inr s)
  | _ => none
def keysOf : List D → Option (List L2.Key)
  | [] => some []
  | x :: r => match keyOf x, keysOf r with
    | some k, some ks => some (k :: ks)
    | _, _ => none

def truthD : D → Option Bool
  | .non => some false
  | .bl b => some b
  | .int i => some (i != 0)
  | .str s => if s.length ≤ sizeLine then some (s.length != 0) else none
  | .tup xs => some (!xs.isEmpty)
  | .lst xs => some (!xs.isEmpty)
  | .dct ps => some (!ps.isEmpty)
  | .dctT _ => none
  | .obj _ => none

def intsOf : List D → Option (List Int)
  | [] => some []
  | .int i :: r => (intsOf r).map (i :: ·)
  | _ :: _ => none
def insI (x : Int) : List Int → List Int
  | [] => [x]
  | y :: r => if x ≤ y then x :: y :: r else y :: insI x r
def sortI : List Int → List Int
  | [] => []
  | x :: r => insI x (sortI r)

/-- data that may be shown: no dict within, or a dict of what can't be changed -/
def showOk : D → Bool
  | .dct ps => plainK ps && !PyData.hasDictAll (toPs (ps.map (·.2))) && cfs (ps.map (·.2))
  | d => plain d && !(toP d).hasDict
/-- data that may be compared -/
def flatOk (d : D) : Bool := plain d && SeqAt.shaped (toP d)

/-- the greatest -/
def maxI : Int → List Int → Int
  | m, [] => m
  | m, x :: r => maxI (if x > m then x else m) r
def maxOr (d : Int) : List Int → Int
  | [] => d
  | x :: r => maxI x r
/-- whether a value is of a type -/
def isTy : Tn → D → Option Bool
  | _, .obj _ => none
  | _, .non => some false
  | t, .bl _ => some (decide (t = .bool) || decide (t = .int))
  | t, .int _ => some (decide (t = .int))
  | t, .str _ => some (decide (t = .str))
  | t, .lst _ => some (decide (t = .list))
  | t, .tup _ => some (decide (t = .tuple))
  | t, .dct _ => some (decide (t = .dict))
  | t, .dctT _ => some (decide (t = .dict))
def rngD (a b : Int) : D := .lst ((List.range (b - a).toNat).map fun (i : Nat) => .int (a + (i : Int)))
def op1 : O1 → D → Option (D × Bool)
  | .neg, .int i => some (.int (-i), true)
  | .abs, .int i => some (.int (if i < 0 then -i else i), true)
  | .toInt, .int i => some (.int i, true)
  | .toInt, .bl b => some (.int (if b then 1 else 0), true)
  | .toBool, .int i => some (.bl (i != 0), true)
  | .toBool, .bl b => some (.bl b, true)
  | .toStr, .int i => if i.natAbs.log2 < 1920 then some (.str (toString i), true) else none
  | .len, .lst xs => some (.int xs.length, true)
  | .len, .tup xs => some (.int xs.length, true)
  | .len, .dct xs => some (.int xs.length, true)
  | .len, .dctT xs => some (.int xs.length, true)
  | .len, .str s => if s.length ≤ sizeLine then some (.int s.length, true) else none
  | .tupleOf, .lst xs => some (.tup xs, cfs xs)
  | .tupleOf, .tup xs => some (.tup xs, cfs xs)
  | .tupleOf, .dctT ps => some (.tup (ps.map fun p => .tup (p.1.map keyD)), true)
  | .listOf, .lst xs => some (.lst xs, cfs xs)
  | .listOf, .tup xs => some (.lst xs, cfs xs)
  | .rev, .lst xs => some (.lst xs.reverse, cfs xs)
  | .rev, .tup xs => some (.tup xs.reverse, cfs xs)
  | .isN, .non => some (.bl true, true)
  | .isN, _ => some (.bl false, true)
  | .notN, .non => some (.bl false, true)
  | .notN, _ => some (.bl true, true)
  | .sortedI, .lst xs => (intsOf xs).map fun ns => (.lst ((sortI ns).map .int), true)
  | .sum, .lst xs => (intsOf xs).map fun ns => (.int ns.sum, true)
  | .maxL, .lst xs => (intsOf xs).bind fun ns => if ns.isEmpty then none else some (.int (maxOr 0 ns), true)
  | .isT t, d => (isTy t d).map fun b => (.bl b, true)
  | .rngL1, .int n => if n < 1000000 ∧ -1000000 < n then some (rngD 0 n, true) else none
  | .repr, d =>
    if showOk d = true ∧ (toP d).showable = true ∧ (toP d).depth ≤ 60 ∧ (toP d).shown.length ≤ sizeLine then some (.str (toP d).shown, true) else none
  | _, _ => none

def lim : Int := 18446744073709551616
def op2 : O2 → D → D → Option (D × Bool)
  | .add, .int i, .int j => some (.int (i + j), true)
  | .add, .str a, .str b => if a.length + b.length ≤ sizeLine then some (.str (a ++ b), true) else none
  | .add, .lst a, .lst b => if a.length + b.length ≤ sizeLine then some (.lst (a ++ b), cfs a && cfs b) else none
  | .add, .tup a, .tup b => if a.length + b.length ≤ sizeLine then some (.tup (a ++ b), cfs a && cfs b) else none
  | .sub, .int i, .int j => some (.int (i - j), true)
  | .mul, .lst xs, .int j => if j < 1000000 ∧ -1000000 < j ∧ xs.length * j.toNat ≤ sizeLine ∧ cfs xs = true then some (.lst (List.replicate j.toNat xs).flatten, true) else none
  | .mul, .int i, .int j => if (-lim < i ∧ i < lim) ∨ (-lim < j ∧ j < lim) then some (.int (i * j), true) else none
  | .fdiv, .int i, .int j => if 0 < j ∧ j < 1073741824 then some (.int (i / j), true) else if j < 0 ∧ -1073741824 < j then some (.int (i.fdiv j), true) else if 0 < j ∧ j.natAbs.log2 < 9000 then some (.int (i / j), true) else none
  | .mod, .int i, .int j => if 0 < j then some (.int (i % j), true) else if j < 0 then some (.int (i.fmod j), true) else none
  | .pow, .int i, .int j => if 0 ≤ j ∧ j ≤ 1000000 ∧ i.natAbs < 2 ^ 64 then some (.int (i ^ j.toNat), true) else none
  | .shl, .int i, .int j => if 0 ≤ j ∧ j ≤ 1000000 ∧ i.natAbs < 2 ^ 64 then some (.int (i * 2 ^ j.toNat), true) else none
  | .shr, .int i, .int j => if 0 ≤ j then some (.int (i / 2 ^ j.toNat), true) else none
  | .band, .int i, .int j => some (.int (Builtin.bitAnd i j), true)
  | .bor, .int i, .int j => some (.int (Builtin.bitOr i j), true)
  | .bxor, .int i, .int j => some (.int (Builtin.bitXor i j), true)
  | .lt, .int i, .int j => some (.bl (decide (i < j)), true)
  | .le, .int i, .int j => some (.bl (decide (i ≤ j)), true)
  | .gt, .int i, .int j => some (.bl (decide (j < i)), true)
  | .ge, .int i, .int j => some (.bl (decide (j ≤ i)), true)
  | .maxD, .lst xs, .int d => (intsOf xs).map fun ns => (.int (maxOr d ns), true)
  | .rngL, .int a, .int b => if a < 1000000 ∧ -1000000 < a ∧ b < 1000000 ∧ -1000000 < b then some (rngD a b, true) else none
  | .max2, .int i, .int j => some (.int (if j > i then j else i), true)
  | .min2, .int i, .int j => some (.int (if j < i then j else i), true)
  | .eq, a, b => if flatOk a = true ∧ flatOk b = true then some (.bl (PyData.eqv (toP a) (toP b)), true) else none
  | .ne, a, b => if flatOk a = true ∧ flatOk b = true then some (.bl (!PyData.eqv (toP a) (toP b)), true) else none
  | .inn, x, .lst xs => if flatOk x = true ∧ flatOk (.lst xs) = true then some (.bl (xs.any fun y => PyData.eqv (toP y) (toP x)), true) else none
  | .notin, x, .lst xs => if flatOk x = true ∧ flatOk (.lst xs) = true then some (.bl (!xs.any fun y => PyData.eqv (toP y) (toP x)), true) else none
  | .inn, x, .dct ps => (keyOf x).map fun k => (.bl (valD ps k).isSome, true)
  | .notin, x, .dct ps => (keyOf x).map fun k => (.bl (!(valD ps k).isSome), true)
  | .inn, .tup xs, .dctT ps => (keysOf xs).map fun k => (.bl (valD ps k).isSome, true)
  | .notin, .tup xs, .dctT ps => (keysOf xs).map fun k => (.bl (!(valD ps k).isSome), true)
  | .idx, .lst xs, .int i => (L2.ixN xs.length i).bind fun j => (xs[j]?).map fun d => (d, cf d)
  | .idx, .tup xs, .int i => (L2.ixN xs.length i).bind fun j => (xs[j]?).map fun d => (d, cf d)
  | .idx, .str s, .int i => if s.length ≤ sizeLine then (L2.ixN s.cps.toList.length i).bind fun j => (s.cps.toList[j]?).map fun c => (.str ⟨#[c]⟩, true) else none
  | .idx, .dct ps, x => (keyOf x).bind fun k => (valD ps k).map fun d => (d, cf d)
  | .idx, .dctT ps, .tup xs => (keysOf xs).bind fun k => (valD ps k).map fun d => (d, cf d)
  | .get1, .dct ps, x => (keyOf x).map fun k => ((valD ps k).getD .non, cf ((valD ps k).getD .non))
  | .sfrom, .lst xs, .int i => some (.lst (xs.drop (HT.sIx xs.length 0 (some i))), cfs xs)
  | .sto, .lst xs, .int i => some (.lst (xs.take (HT.sIx xs.length xs.length (some i))), cfs xs)
  | .sfrom, .tup xs, .int i => some (.tup (xs.drop (HT.sIx xs.length 0 (some i))), cfs xs)
  | .sto, .tup xs, .int i => some (.tup (xs.take (HT.sIx xs.length xs.length (some i))), cfs xs)
  | _, _, _ => none
def cutD {α : Type} (xs : List α) (i j : Int) : List α := (xs.drop (HT.sIx xs.length 0 (some i))).take (HT.sIx xs.length xs.length (some j) - HT.sIx xs.length 0 (some i))
def op3 : O3 → D → D → D → Option (D × Bool)
  | .sl, .lst xs, .int i, .int j => some (.lst (cutD xs i j), cfs xs)
  | .sl, .tup xs, .int i, .int j => some (.tup (cutD xs i j), cfs xs)
  | .get2, .dct ps, x, y => (keyOf x).map fun k => ((valD ps k).getD y, cf ((valD ps k).getD y))
  | _, _, _, _ => none

end VS

-- VS.Run
/-! What the small language does. -/
namespace VS
open PySem

/-- what a body may lean on: which places of a def's parameters it may change; what a call gives; the module's constants -/
structure Lk where
  io : String → Option (List Bool)
  run : String → List D → List Ob → Rc
  glb : String → Option D

def S.frz (st : S) : List Nat → S
  | [] => st
  | i :: r => S.frz (match st.get i with
    | some (d, true) => if cf d then st else st.set i (some (d, false))
    | _ => st) r
def S.stuck (st : S) (is : List Nat) : Bool := is.all fun i => match st.get i with
  | some (d, true) => cf d
  | _ => true
def S.flatAt (st : S) (is : List Nat) : Bool := is.all fun i => match st.get i with
  | some (d, _) => cf d
  | none => true
/-- a value kept for good: what it may share is frozen -/
def S.keep (st : S) (k : Bool) (vs : List Nat) : S := if k then st else st.frz vs

def S.keeps : S → List Ex → List (D × Bool) → S
  | st, e :: es, (_, k) :: ds => (st.keep k (vars e)).keeps es ds
  | st, _, _ => st
def setsS : List Nat → List (D × Bool) → S → Option S
  | [], [], st => some st
  | i :: r, (d, k) :: ds, st => if i < st.sl.length then setsS r ds (st.set i (some (d, k || cf d))) else none
  | _, _, _ => none
mutual
def bindT : Tg → D → Bool → S → Option S
  | .n i, d, k, st => if i < st.sl.length then some (st.set i (some (d, k || cf d))) else none
  | .t ts, .tup xs, k, st => bindTs ts xs k st
  | .t ts, .lst xs, k, st => bindTs ts xs k st
  | .t _, _, _, _ => none
def bindTs : List Tg → List D → Bool → S → Option S
  | [], [], _, st => some st
  | t :: ts, x :: xs, k, st => (bindT t x k st).bind fun st1 => bindTs ts xs k st1
  | _, _, _, _ => none
end

/-- what is walked -/
def itemsOf : Nat → D → D → Option (List D)
  | 0, .int n, _ => if n < 1000000000 ∧ -1000000000 < n then some ((List.range n.toNat).map fun (i : Nat) => D.int (i : Int)) else none
  | 1, .lst xs, _ => some xs
  | 1, .tup xs, _ => some xs
  | 1, .str s, _ => some (s.cps.toList.map fun c => .str ⟨#[c]⟩)
  | 2, .lst xs, _ => some ((List.range xs.length).zip xs |>.map fun p => .tup [.int (p.1 : Int), p.2])
  | 2, .tup xs, _ => some ((List.range xs.length).zip xs |>.map fun p => .tup [.int (p.1 : Int), p.2])
  | 3, .lst xs, .lst ys => some ((xs.zip ys).map fun p => .tup [p.1, p.2])
  | 3, .tup xs, .tup ys => some ((xs.zip ys).map fun p => .tup [p.1, p.2])
  | 3, .lst xs, .tup ys => some ((xs.zip ys).map fun p => .tup [p.1, p.2])
  | 3, .tup xs, .lst ys => some ((xs.zip ys).map fun p => .tup [p.1, p.2])
  | 4, .int a, .int b => if a < 1000000000 ∧ -1000000000 < a ∧ b < 1000000000 ∧ -1000000000 < b then some ((List.range (b - a).toNat).map fun (i : Nat) => D.int (a + (i : Int))) else none
  | _, _, _ => none

def repD {κ : Type} [DecidableEq κ] : List (κ × D) → κ → D → List (κ × D)
  | [], _, _ => []
  | (c, x) :: r, k, v => if c = k then (c, v) :: r else (c, x) :: repD r k v
/-- at a path of texts within dicts: what is there is put otherwise; u is handed out -/
def atPath {α : Type} (f : D → Option (D × α)) : List (List Nat) → D → Option (D × α)
  | [], d => f d
  | k :: r, .dct ps => match valD ps (.inr (q k)) with
    | some d => (atPath f r d).map fun e => (.dct (repD ps (.inr (q k)) e.1), e.2)
    | none => none
  | _ :: _, _ => none
def popD : D → Option (D × D)
  | .lst xs => match xs.getLast? with
    | some x => some (.lst xs.dropLast, x)
    | none => none
  | _ => none
def popAtD (i : D) : D → Option (D × D)
  | .lst xs => match i with
    | .int j => if 0 ≤ j ∧ j < 1000000000 then match xs[j.toNat]? with
      | some x => some (.lst (xs.eraseIdx j.toNat), x)
      | none => none else none
    | _ => none
  | _ => none
def appD (v : D) : D → Option (D × Unit)
  | .lst xs => if xs.length < sizeLine then some (.lst (xs ++ [v]), ()) else none
  | _ => none
def extD (v : D) : D → Option (D × Unit)
  | .lst xs => match v with
    | .lst ys => if xs.length + ys.length ≤ sizeLine then some (.lst (xs ++ ys), ()) else none
    | .tup ys => if xs.length + ys.length ≤ sizeLine then some (.lst (xs ++ ys), ()) else none
    | _ => none
  | _ => none
def setD (k v : D) : D → Option (D × Unit)
  | .lst xs => match k with
    | .int i => (L2.ixN xs.length i).map fun j => (.lst (xs.set j v), ())
    | _ => none
  | .dct ps => if ps.length < sizeLine then (keyOf k).map fun c => (.dct (putD ps c v), ()) else none
  | .dctT ps => if ps.length < sizeLine then match k with
    | .tup xs => (keysOf xs).map fun c => (.dctT (putD ps c v), ())
    | _ => none else none
  | _ => none

def starred : List Bool → List D → Option (List D)
  | [], [] => some []
  | false :: ss, d :: ds => (starred ss ds).map (d :: ·)
  | true :: ss, .lst xs :: ds => (starred ss ds).map (xs ++ ·)
  | true :: ss, .tup xs :: ds => (starred ss ds).map (xs ++ ·)
  | _, _ => none

/-- the arguments that a call may change are taken from their places -/
def fill (st : S) : List Ex → List (D × Bool) → Option (List D)
  | [], [] => some []
  | .io i :: es, _ :: ds => match st.get i with
    | some (d, true) => (fill st es ds).map (d :: ·)
    | _ => none
  | _ :: es, (d, _) :: ds => (fill st es ds).map (d :: ·)
  | _, _ => none
/-- and put back -/
def back (st : S) : List Ex → List D → S
  | .io i :: es, o :: os => back (st.set i (some (o, true))) es os
  | _ :: es, os => back st es os
  | [], _ => st
def isIo : Ex → Bool
  | .io _ => true
  | _ => false
def iosOf : List Ex → List Nat
  | [] => []
  | .io i :: r => i :: iosOf r
  | _ :: r => iosOf r
/-- what is lent to a call is not changed by it -/
def argsOk (es : List Ex) (ds : List (D × Bool)) : Bool := (es.zip ds).all fun p => isIo p.1 || (p.2.2 || disj (vars p.1) (mutss es))
def S.hide (st : S) (own : List Nat) : S := own.foldl (fun s i => s.set i none) st
def S.restore (st old : S) (own : List Nat) : S := own.foldl (fun s i => s.set i (old.get i)) st

def loopC (f : D → S → Rvs) : List D → S → Rvs
  | [], st => .ok [] st
  | x :: r, st => match f x st with
    | .ok ys st1 => match loopC f r st1 with
      | .ok zs st2 => .ok (ys ++ zs) st2
      | _ => .err
    | _ => .err

def asLst : D → Option (D × Unit)
  | .lst xs => some (.lst xs, ())
  | _ => none
/-- whether a list stands at a place that may be changed -/
def lstAt (st : S) (i : Nat) (path : List (List Nat)) : Bool := match st.get i with
  | some (d, true) => (atPath asLst path d).isSome
  | _ => false

section
variable (L : Lk)
mutual
def ev : Ex → S → Rv
  | .con c, st => .ok c.d true st
  | .var i, st => match st.get i with
    | some (d, _) => .ok d (cf d) st
    | none => .err
  | .mv i, st => match st.get i with
    | some (d, k) => .ok d (k || cf d) (st.set i none)
    | none => .err
  | .io i, st => match st.get i with
    | some _ => .ok .non true st
    | none => .err
  | .glb x, st => match L.glb x with
    | some d => .ok d (cf d) st
    | none => .err
  | .tup es, st => match evs es st with
    | .ok ds st1 => if ds.length ≤ sizeLine then .ok (.tup (ds.map (·.1))) (ds.all (·.2)) st1 else .err
    | .exc c fs st1 => .exc c fs st1
    | .err => .err
  | .lst es, st => match evs es st with
    | .ok ds st1 => if ds.length ≤ sizeLine then .ok (.lst (ds.map (·.1))) (ds.all (·.2)) st1 else .err
    | .exc c fs st1 => .exc c fs st1
    | .err => .err
  | .lstS ss es, st => match evs es st with
    | .ok ds st1 => match starred ss (ds.map (·.1)) with
      | some xs => if xs.length ≤ sizeLine ∧ cfs xs = true then .ok (.lst xs) true st1 else .err
      | none => .err
    | _ => .err
  | .dct ks es, st => match evs es st with
    | .ok ds st1 => .ok (.dct ((ks.map fun k => (Sum.inr (q k) : L2.Key)).zip (ds.map (·.1)))) (ds.all (·.2)) st1
    | .exc c fs st1 => .exc c fs st1
    | .err => .err
  | .dct0, st => .ok (.dct []) true st
  | .dctT0, st => .ok (.dctT []) true st
  | .op1 o a, st => match ev a st with
    | .ok d _ st1 => match op1 o d with
      | some (r, k) => .ok r k st1
      | none => .err
    | .exc c fs st1 => .exc c fs st1
    | .err => .err
  | .op2 o a b, st => match ev a st with
    | .ok x kx st1 => match ev b st1 with
      | .ok y _ st2 => if kx || disj (vars a) (muts b) then match op2 o x y with
        | some (r, k) => .ok r k st2
        | none => .err else .err
      | .exc c fs st2 => if o = .get1 then .err else .exc c fs st2
      | .err => .err
    | .exc c fs st1 => .exc c fs st1
    | .err => .err
  | .op3 o a b c, st => match ev a st with
    | .ok x kx st1 => match ev b st1 with
      | .ok y ky st2 => match ev c st2 with
        | .ok z _ st3 => if (kx || disj (vars a) (muts b ++ muts c)) && (ky || disj (vars b) (muts c)) then match op3 o x y z with
          | some (r, k) => .ok r k st3
          | none => .err else .err
        | _ => .err
      | _ => .err
    | .exc e fs st1 => .exc e fs st1
    | .err => .err
  | .not a, st => match ev a st with
    | .ok d _ st1 => match truthD d with
      | some b => .ok (.bl (!b)) true st1
      | none => .err
    | .exc c fs st1 => .exc c fs st1
    | .err => .err
  | .ite c a b, st => match ev c st with
    | .ok d _ st1 => match truthD d with
      | some t => if t = true then ev a st1 else ev b st1
      | none => .err
    | .exc e fs st1 => .exc e fs st1
    | .err => .err
  | .and a b, st => match ev a st with
    | .ok d k st1 => match truthD d with
      | some t => if t = true then ev b st1 else .ok d k st1
      | none => .err
    | .exc e fs st1 => .exc e fs st1
    | .err => .err
  | .or a b, st => match ev a st with
    | .ok d k st1 => match truthD d with
      | some t => if t = true then .ok d k st1 else ev b st1
      | none => .err
    | .exc e fs st1 => .exc e fs st1
    | .err => .err
  | .call f es, st => match L.io f with
    | some ms => if ms = es.map isIo ∧ (iosOf es).Nodup then match evs es st with
      | .ok ds st1 => if argsOk es ds = true then match fill st1 es ds with
        | some args => match L.run f args st1.os with
          | .ok d k outs os => .ok d k { back st1 es outs with os := os }
          | .exc c fs outs os => .exc c fs { back st1 es outs with os := os }
          | .err => .err
        | none => .err else .err
      | .exc c fs st1 => .exc c fs st1
      | .err => .err else .err
    | none => .err
  | .pop i path, st => match st.get i with
    | some (d, true) => match atPath popD path d with
      | some (d', x) => .ok x true (st.set i (some (d', true)))
      | none => .err
    | _ => .err
  | .popAt i path e, st => if lstAt st i path && !(muts e).contains i then match ev e st with
    | .ok j _ st1 => match st1.get i with
      | some (d, true) => match atPath (popAtD j) path d with
        | some (d', x) => .ok x true (st1.set i (some (d', true)))
        | none => .err
      | _ => .err
    | .exc c fs st1 => .exc c fs st1
    | .err => .err else .err
  | .comp own tg kind it it2 cs e, st => match ev it st with
    | .ok d1 k1 st1 => match ev it2 st1 with
      | .ok d2 k2 st2 => match itemsOf kind d1 d2 with
        | some items => if (cfs items || (st2.stuck (vars it) && st2.stuck (vars it2))) && (k1 || disj (vars it) (muts it2 ++ (mutss cs ++ muts e))) && (k2 || disj (vars it2) (mutss cs ++ muts e)) && (st2.flatAt own && disj own (mutss cs ++ muts e) && (tgs tg).all own.contains) then
            match loopC (fun x s => match bindT tg x false (s.hide own) with
              | some s1 => match evC cs s1 with
                | .ok t s2 => if t = true then match ev e s2 with
                  | .ok y ky s3 => if ky || disj (vars e) (mutss cs ++ muts e) then .ok [(y, ky)] s3 else .err
                  | _ => .err else .ok [] s2
                | _ => .err
              | none => .err) items st2 with
            | .ok ys st3 => if ys.length < sizeLine then .ok (.lst (ys.map (·.1))) (ys.all (·.2)) (st3.restore st2 own) else .err
            | _ => .err
          else .err
        | none => .err
      | _ => .err
    | .exc c fs st1 => .exc c fs st1
    | .err => .err
/-- in a row; what was handed on before must not be changed behind -/
def evs : List Ex → S → Rvs
  | [], st => .ok [] st
  | e :: r, st => match ev e st with
    | .ok d k st1 => if k || disj (vars e) (mutss r) then match evs r st1 with
      | .ok ds st2 => .ok ((d, k) :: ds) st2
      | .exc c fs st2 => .exc c fs st2
      | .err => .err else .err
    | .exc c fs st1 => .exc c fs st1
    | .err => .err
/-- tests, one after another -/
def evC : List Ex → S → Rt
  | [], st => .ok true st
  | c :: r, st => match ev c st with
    | .ok d _ st1 => match truthD d with
      | some t => if t = true then evC r st1 else .ok false st1
      | none => .err
    | _ => .err
end

inductive Rb where
  | ok (b : Bool) (st : S)
  | exc (c : String) (fs : List (Str × D)) (st : S)
  | err
/-- a test -/
def evB (c : Ex) (st : S) : Rb := match ev L c st with
  | .ok d _ st1 => match truthD d with
    | some t => .ok t st1
    | none => .err
  | .exc e fs st1 => .exc e fs st1
  | .err => .err
/-- how often a while may turn at most -/
def turns : Nat := 1048576
def whileL (c : S → Rb) (b : S → Rs) : Nat → S → Rs
  | 0, _ => .err
  | n + 1, st => match c st with
    | .ok t st1 => if t = true then match b st1 with
      | .next st2 => whileL c b n st2
      | .cnt st2 => whileL c b n st2
      | .brk st2 => .next st2
      | r => r else .next st1
    | .exc e fs st1 => .exc e fs st1
    | .err => .err
def forL (f : D → S → Rs) (clr : List Nat) : List D → S → Rs
  | [], st => .next st
  | x :: r, st => match f x st with
    | .next st1 => forL f clr r (st1.hide clr)
    | .cnt st1 => forL f clr r (st1.hide clr)
    | .brk st1 => .next (st1.hide clr)
    | e => e
def change {α : Type} (st : S) (i : Nat) (path : List (List Nat)) (k : Bool) (f : D → Option (D × α)) : Option S := match st.get i with
  | some (d, true) => (atPath f path d).map fun e => st.set i (some (e.1, k))
  | _ => none
/-- whether there is a place that may be changed -/
def hasAt (st : S) (i : Nat) (path : List (List Nat)) : Bool := match st.get i with
  | some (d, true) => (atPath (fun d => some (d, ())) path d).isSome
  | _ => false
mutual
def mutsM : Sm → List Nat
  | .asg _ e => muts e
  | .par _ es => mutss es
  | .aug _ _ e => muts e
  | .setK i _ k e => i :: (muts k ++ muts e)
  | .app i _ e => i :: muts e
  | .ext i _ e => i :: muts e
  | .ex e => muts e
  | .ret e => muts e
  | .retN => []
  | .ite c a b => muts c ++ (mutsS a ++ mutsS b)
  | .while c b => muts c ++ mutsS b
  | .forI _ _ it it2 _ b => muts it ++ (muts it2 ++ mutsS b)
  | .brk => []
  | .cnt => []
  | .pass => []
def mutsS : List Sm → List Nat
  | [] => []
  | s :: r => mutsM s ++ mutsS r
end
mutual
def exec : Sm → S → Rs
  | .asg t e, st => match ev L e st with
    | .ok d k st1 => match bindT t d k (st1.keep k (vars e)) with
      | some st2 => .next st2
      | none => .err
    | .exc c fs st1 => .exc c fs st1
    | .err => .err
  | .par ns es, st => match evs L es st with
    | .ok ds st1 => match setsS ns ds (st1.keeps es ds) with
      | some st2 => .next st2
      | none => .err
    | .exc c fs st1 => .exc c fs st1
    | .err => .err
  | .aug i o e, st => match st.get i with
    | some (x, kx) => match ev L e st with
      | .ok y _ st1 => if disj [i] (muts e) = true then match x, y with
        | .int a, .int b => match o with
          | .add => .next (st1.set i (some (.int (a + b), true)))
          | .sub => .next (st1.set i (some (.int (a - b), true)))
          | _ => .err
        | _, _ => .err else .err
      | .exc c fs st1 => .exc c fs st1
      | .err => .err
    | none => .err
  | .setK i path kx e, st => match ev L e st with
    | .ok v k st1 => if hasAt (st1.keep k (vars e)) i path then match ev L kx (st1.keep k (vars e)) with
      | .ok key _ st2 => if cf key = true ∧ muts kx = [] then match change st2 i path (k || cf v) (setD key v) with
        | some st3 => .next st3
        | none => .err else .err
      | _ => .err else .err
    | .exc c fs st1 => .exc c fs st1
    | .err => .err
  | .app i path e, st => if lstAt st i path && !(muts e).contains i then match ev L e st with
    | .ok v k st1 => match change (st1.keep k (vars e)) i path (k || cf v) (appD v) with
      | some st3 => .next st3
      | none => .err
    | .exc c fs st1 => .exc c fs st1
    | .err => .err else .err
  | .ext i path e, st => if lstAt st i path && !(muts e).contains i then match ev L e st with
    | .ok v k st1 => if kd v = true then match change st1 i path true (extD v) with
      | some st3 => .next st3
      | none => .err else .err
    | .exc c fs st1 => .exc c fs st1
    | .err => .err else .err
  | .ex e, st => match ev L e st with
    | .ok _ _ st1 => .next st1
    | .exc c fs st1 => .exc c fs st1
    | .err => .err
  | .ret e, st => match ev L e st with
    | .ok d k st1 => .ret d k (st1.keep k (vars e))
    | .exc c fs st1 => .exc c fs st1
    | .err => .err
  | .retN, st => .ret .non true st
  | .ite c a b, st => match evB L c st with
    | .ok t st1 => if t = true then execs a st1 else execs b st1
    | .exc e fs st1 => .exc e fs st1
    | .err => .err
  | .while c b, st => whileL (evB L c) (fun s => execs b s) turns st
  | .forI tg kind it it2 clr b, st => match ev L it st with
    | .ok d1 k1 st1 => match ev L it2 st1 with
      | .ok d2 k2 st2 => match itemsOf kind d1 d2 with
        | some items => if (k1 || disj (vars it) (muts it2 ++ mutsS b)) && (k2 || disj (vars it2) (mutsS b)) then
            forL (fun x s => match bindT tg x false s with
              | some s1 => execs b s1
              | none => .err) clr items (if cfs items = true then st2 else (st2.keep k1 (vars it)).keep k2 (vars it2))
          else .err
        | none => .err
      | _ => .err
    | .exc c fs st1 => .exc c fs st1
    | .err => .err
  | .brk, st => .brk st
  | .cnt, st => .cnt st
  | .pass, st => .next st
def execs : List Sm → S → Rs
  | [], st => .next st
  | s :: r, st => match exec s st with
    | .next st1 => execs r st1
    | e => e
end
end

/-- a def's text -/
structure Fn where
  names : List Str
  many : Nat
  io : List Bool
  body : List Sm
def startS (c : Fn) (args : List D) (os : List Ob) : S :=
  { sl := (args.zip c.io).map (fun p => some (p.1, p.2 || cf p.1)) ++ List.replicate (c.names.length - args.length) none, os := os }
def outsOf (c : Fn) (st : S) : Option (List D) := go c.io 0
where go : List Bool → Nat → Option (List D)
  | [], _ => some []
  | true :: r, i => match st.get i with
    | some (d, true) => (go r (i + 1)).map (d :: ·)
    | _ => none
  | false :: r, i => go r (i + 1)
/-- the defs of a text by their names, the module's constants -/
structure Tb where
  fns : String → Option Fn
  glb : String → Option D
/-- what the places that a call may change have behind it -/
def placeOuts : List Bool → List D → List (Option (D × Bool))
  | [], _ => []
  | true :: r, o :: os => some (o, true) :: placeOuts r os
  | true :: r, [] => none :: placeOuts r []
  | false :: r, os => none :: placeOuts r os
def endS (c : Fn) : Rs → Rc
  | .next st => match outsOf c st with
    | some o => .ok .non true o st.os
    | none => .err
  | .ret d k st => match outsOf c st with
    | some o => .ok d k o st.os
    | none => .err
  | .exc e fs st => match outsOf c st with
    | some o => .exc e fs o st.os
    | none => .err
  | _ => .err
/-- a call, n levels deep at most -/
def callF (T : Tb) : Nat → String → List D → List Ob → Rc
  | 0, _, _, _ => .err
  | n + 1, f, args, os => match T.fns f with
    | some c => if args.length = c.many then endS c (execs ⟨fun g => (T.fns g).map (·.io), callF T n, T.glb⟩ c.body (startS c args os)) else .err
    | none => .err
end VS

-- VS.Rd
/-! How values lie in the machine's memory. -/
namespace VS
open PySem L2

/-- a list that is read and can't be changed: locked, or one of the module's own -/
def SqR (K : PySem.W.Frag) (H : Hp) (a : Addr) (xs : List V) : Prop :=
  (∃ o, H a = some (.frz o (.lst xs))) ∨ (SqL K (fun _ => none) a xs)
theorem SqR.l {K : PySem.W.Frag} {H : Hp} {a : Addr} {xs : List V} (h : SqR K H a xs) : SqL K H a xs := by
  rcases h with h | h | h
  · exact .inl (.inr h)
  · rcases h with h | ⟨o, h⟩ <;> cases h
  · exact .inr h

mutual
inductive Rd (K : PySem.W.Frag) (ρ : List Addr) (H : Hp) : Bool → D → V → List Addr → Prop
  | non {o} : Rd K ρ H o .non .non []
  | bl {o b} : Rd K ρ H o (.bl b) (.bl b) []
  | int {o i} : Rd K ρ H o (.int i) (.int i) []
  | str {o s} : Rd K ρ H o (.str s) (.str s) []
  | obj {o i a} : ρ[i]? = some a → Rd K ρ H o (.obj i) (.ref a) []
  | tup {o a vs ds F} : H a = some (.tup vs) → Rds K ρ H o ds vs F → Rd K ρ H o (.tup ds) (.ref a) F
  | lst {o a vs ds F} : H a = some (.lst vs) → Rds K ρ H o ds vs F → Rd K ρ H o (.lst ds) (.ref a) (a :: F)
  | lstR {a vs ds F} : SqR K H a vs → Rds K ρ H false ds vs F → Rd K ρ H false (.lst ds) (.ref a) F
  | dct {o a kvs ps F} : H a = some (.dK kvs) → kvs.map (·.1) = ps.map (·.1) → (ps.map (·.1)).Nodup → Rds K ρ H o (ps.map (·.2)) (kvs.map (·.2)) F → Rd K ρ H o (.dct ps) (.ref a) (a :: F)
  | dctT {o a kvs ps F} : H a = some (.dT kvs) → kvs.map (·.1) = ps.map (·.1) → (ps.map (·.1)).Nodup → Rds K ρ H o (ps.map (·.2)) (kvs.map (·.2)) F → Rd K ρ H o (.dctT ps) (.ref a) (a :: F)
inductive Rds (K : PySem.W.Frag) (ρ : List Addr) (H : Hp) : Bool → List D → List V → List Addr → Prop
  | nil {o} : Rds K ρ H o [] [] []
  | cons {o d ds v vs F G} : Rd K ρ H o d v F → Rds K ρ H o ds vs G → Rds K ρ H o (d :: ds) (v :: vs) (F ++ G)
end

section
variable {K : PySem.W.Frag} {ρ ρ' : List Addr} {H H' : Hp}

theorem Rds.length {o} : ∀ {ds vs F}, Rds K ρ H o ds vs F → ds.length = vs.length
  | _, _, _, .nil => rfl
  | _, _, _, .cons _ t => by simp [t.length]

/-- the memory may change elsewhere -/
structure Keeps (K : PySem.W.Frag) (H H' : Hp) (F : List Addr) : Prop where
  cell : ∀ a ∈ F, H' a = H a
  tup : ∀ a xs, H a = some (.tup xs) → H' a = some (.tup xs)
  frz : ∀ a o u, H a = some (.frz o u) → H' a = some (.frz o u)
theorem Keeps.sub {F G : List Addr} (k : Keeps K H H' F) (h : ∀ a ∈ G, a ∈ F) : Keeps K H H' G := ⟨fun a m => k.cell a (h a m), k.tup, k.frz⟩
theorem Keeps.sqt {F : List Addr} (k : Keeps K H H' F) {a : Addr} {vs : List V} (h : SqT K H a vs) : SqT K H' a vs := by
  rcases h with (h | ⟨o, h⟩) | h
  · exact .inl (.inl (k.tup _ _ h))
  · exact .inl (.inr ⟨o, k.frz _ _ _ h⟩)
  · exact .inr h
theorem Keeps.sqr {F : List Addr} (k : Keeps K H H' F) {a : Addr} {vs : List V} (h : SqR K H a vs) : SqR K H' a vs := by
  rcases h with ⟨o, h⟩ | h
  · exact .inl ⟨o, k.frz _ _ _ h⟩
  · exact .inr h
mutual
theorem Rd.keep {o} (hρ : ∀ (i : Nat) (a : Addr), ρ[i]? = some a → ρ'[i]? = some a) : ∀ {d v F}, Rd K ρ H o d v F → Keeps K H H' F → Rd K ρ' H' o d v F
  | _, _, _, .non, _ => .non
  | _, _, _, .bl, _ => .bl
  | _, _, _, .int, _ => .int
  | _, _, _, .str, _ => .str
  | _, _, _, .obj h, _ => .obj (hρ _ _ h)
  | _, _, _, .tup h t, k =>   .tup (k.tup _ _ h) (Rds.keep hρ t k)
  | _, _, _, .lst h t, k => .lst ((k.cell _ (by simp)).trans h) (Rds.keep hρ t (k.sub fun a m => by simp [m]))
  | _, _, _, .lstR h t, k => .lstR (k.sqr h) (Rds.keep hρ t k)
  | _, _, _, .dct h e n t, k => .dct ((k.cell _ (by simp)).trans h) e n (Rds.keep hρ t (k.sub fun a m => by simp [m]))
  | _, _, _, .dctT h e n t, k => .dctT ((k.cell _ (by simp)).trans h) e n (Rds.keep hρ t (k.sub fun a m => by simp [m]))
theorem Rds.keep {o} (hρ : ∀ (i : Nat) (a : Addr), ρ[i]? = some a → ρ'[i]? = some a) : ∀ {ds vs F}, Rds K ρ H o ds vs F → Keeps K H H' F → Rds K ρ' H' o ds vs F
  | _, _, _, .nil, _ => .nil
  | _, _, _, .cons h t, k => .cons (Rd.keep hρ h (k.sub fun a m => by simp [m])) (Rds.keep hρ t (k.sub fun a m => by simp [m]))
end
mutual
theorem Rd.weak {o} : ∀ {d v F}, Rd K ρ H o d v F → Rd K ρ H false d v F
  | _, _, _, .non => .non
  | _, _, _, .bl => .bl
  | _, _, _, .int => .int
  | _, _, _, .str => .str
  | _, _, _, .obj h => .obj h
  | _, _, _, .tup h t => .tup h (Rds.weak t)
  | _, _, _, .lst h t => .lst h (Rds.weak t)
  | _, _, _, .lstR h t => .lstR h (Rds.weak t)
  | _, _, _, .dct h e n t => .dct h e n (Rds.weak t)
  | _, _, _, .dctT h e n t => .dctT h e n (Rds.weak t)
theorem Rds.weak {o} : ∀ {ds vs F}, Rds K ρ H o ds vs F → Rds K ρ H false ds vs F
  | _, _, _, .nil => .nil
  | _, _, _, .cons h t => .cons (Rd.weak h) (Rds.weak t)
end
mutual
theorem Rd.flat {o o'} : ∀ {d v F}, Rd K ρ H o d v F → cf d = true → F = [] ∧ Rd K ρ H o' d v []
  | _, _, _, .non, _ => ⟨rfl, .non⟩
  | _, _, _, .bl, _ => ⟨rfl, .bl⟩
  | _, _, _, .int, _ => ⟨rfl, .int⟩
  | _, _, _, .str, _ => ⟨rfl, .str⟩
  | _, _, _, .obj h, _ => ⟨rfl, .obj h⟩
  | _, _, _, .tup h t, c => by
    obtain ⟨e, t'⟩ := Rds.flat t (by simpa [cf] using c)
    exact ⟨e, .tup h t'⟩
  | _, _, _, .lst h t, c => by simp [cf] at c
  | _, _, _, .lstR h t, c => by simp [cf] at c
  | _, _, _, .dct h e n t, c => by simp [cf] at c
  | _, _, _, .dctT h e n t, c => by simp [cf] at c
theorem Rds.flat {o o'} : ∀ {ds vs F}, Rds K ρ H o ds vs F → cfs ds = true → F = [] ∧ Rds K ρ H o' ds vs []
  | _, _, _, .nil, _ => ⟨rfl, .nil⟩
  | _, _, _, .cons h t, c => by
    have c' := Bool.and_eq_true_iff.mp (show (cf _ && cfs _) = true by simpa [cfs] using c)
    obtain ⟨e1, h'⟩ := Rd.flat (o' := o') h c'.1
    obtain ⟨e2, t'⟩ := Rds.flat (o' := o') t c'.2
    subst e1 e2
    exact ⟨rfl, .cons (F := []) (G := []) h' t'⟩
end
/-- what is changed by its owner -/
def Cel (H : Hp) (a : Addr) : Prop := (∃ vs, H a = some (.lst vs)) ∨ (∃ kvs, H a = some (.dK kvs)) ∨ ∃ kvs, H a = some (.dT kvs)
theorem Cel.ne {a : Addr} (c : Cel H a) : H a ≠ none := by rcases c with ⟨_, e⟩ | ⟨_, e⟩ | ⟨_, e⟩ <;> rw [e] <;> simp
theorem Cel.tup {a : Addr} (c : Cel H a) {xs} : H a ≠ some (.tup xs) := by rcases c with ⟨_, e⟩ | ⟨_, e⟩ | ⟨_, e⟩ <;> rw [e] <;> simp
theorem Cel.frz {a : Addr} (c : Cel H a) {o u} : H a ≠ some (.frz o u) := by rcases c with ⟨_, e⟩ | ⟨_, e⟩ | ⟨_, e⟩ <;> rw [e] <;> simp
theorem Cel.ins {a : Addr} (c : Cel H a) {C dx fs} : H a ≠ some (.ins C dx fs) := by rcases c with ⟨_, e⟩ | ⟨_, e⟩ | ⟨_, e⟩ <;> rw [e] <;> simp
mutual
theorem Rd.cel {o} : ∀ {d v F}, Rd K ρ H o d v F → ∀ a ∈ F, Cel H a
  | _, _, _, .non, _, m => nomatch m
  | _, _, _, .bl, _, m => nomatch m
  | _, _, _, .int, _, m => nomatch m
  | _, _, _, .str, _, m => nomatch m
  | _, _, _, .obj h, _, m => nomatch m
  | _, _, _, .tup h t, a, m => Rds.cel t a m
  | _, _, _, .lst h t, a, m => by
    rcases List.mem_cons.mp m with e | m
    · subst e; exact .inl ⟨_, h⟩
    · exact Rds.cel t a m
  | _, _, _, .lstR h t, a, m => Rds.cel t a m
  | _, _, _, .dct h e n t, a, m => by
    rcases List.mem_cons.mp m with e | m
    · subst e; exact .inr (.inl ⟨_, h⟩)
    · exact Rds.cel t a m
  | _, _, _, .dctT h e n t, a, m => by
    rcases List.mem_cons.mp m with e | m
    · subst e; exact .inr (.inr ⟨_, h⟩)
    · exact Rds.cel t a m
theorem Rds.cel {o} : ∀ {ds vs F}, Rds K ρ H o ds vs F → ∀ a ∈ F, Cel H a
  | _, _, _, .nil, _, m => nomatch m
  | _, _, _, .cons h t, a, m => by
    rcases List.mem_append.mp m with m | m
    · exact Rd.cel h a m
    · exact Rds.cel t a m
end

/-- read somehow, its cells among those of which Sx tells -/
def In (K : PySem.W.Frag) (ρ : List Addr) (H : Hp) (Sx : Addr → Prop) (d : D) (v : V) : Prop := ∃ F, Rd K ρ H false d v F ∧ ∀ a ∈ F, Sx a
def Ins (K : PySem.W.Frag) (ρ : List Addr) (H : Hp) (Sx : Addr → Prop) (ds : List D) (vs : List V) : Prop := Paired (In K ρ H Sx) ds vs
theorem Rds.ins {Sx : Addr → Prop} : ∀ {ds vs F}, Rds K ρ H false ds vs F → (∀ a ∈ F, Sx a) → Ins K ρ H Sx ds vs
  | _, _, _, .nil, _ => .nil
  | _, _, _, .cons h t, m => .cons ⟨_, h, fun a z => m a (by simp [z])⟩ (Rds.ins t fun a z => m a (by simp [z]))
theorem Ins.rds {Sx : Addr → Prop} : ∀ {ds vs}, Ins K ρ H Sx ds vs → ∃ F, Rds K ρ H false ds vs F ∧ ∀ a ∈ F, Sx a
  | _, _, .nil => ⟨[], .nil, fun _ m => nomatch m⟩
  | _, _, .cons ⟨F, h, m⟩ t => by
    obtain ⟨G, t', n⟩ := Ins.rds t
    refine ⟨F ++ G, .cons h t', fun a z => ?_⟩
    rcases List.mem_append.mp z with z | z
    · exact m a z
    · exact n a z
theorem In.keep {Sx : Addr → Prop} {d : D} {v : V} (h : In K ρ H Sx d v) (hρ : ∀ (i : Nat) (a : Addr), ρ[i]? = some a → ρ'[i]? = some a) (c : ∀ a, Sx a → Cel H a → H' a = H a) (t : ∀ a xs, H a = some (.tup xs) → H' a = some (.tup xs)) (z : ∀ a o u, H a = some (.frz o u) → H' a = some (.frz o u)) : In K ρ' H' Sx d v := by
  obtain ⟨F, h, m⟩ := h
  exact ⟨F, h.keep hρ ⟨fun a q => c a (m a q) (h.cel a q), t, z⟩, m⟩
theorem Ins.imp {Sx Tx : Addr → Prop} {ds vs} (h : Ins K ρ H Sx ds vs) (i : ∀ a, Sx a → Tx a) : Ins K ρ H Tx ds vs :=
  Paired.mono (fun _ _ ⟨F, q, m⟩ => ⟨F, q, fun a z => i a (m a z)⟩) h
theorem In.imp {Sx Tx : Addr → Prop} {d v} (h : In K ρ H Sx d v) (i : ∀ a, Sx a → Tx a) : In K ρ H Tx d v := let ⟨F, q, m⟩ := h; ⟨F, q, fun a z => i a (m a z)⟩
theorem Ins.keep {Sx : Addr → Prop} {ds : List D} {vs : List V} (h : Ins K ρ H Sx ds vs) (hρ : ∀ (i : Nat) (a : Addr), ρ[i]? = some a → ρ'[i]? = some a) (c : ∀ a, Sx a → Cel H a → H' a = H a) (t : ∀ a xs, H a = some (.tup xs) → H' a = some (.tup xs)) (z : ∀ a o u, H a = some (.frz o u) → H' a = some (.frz o u)) : Ins K ρ' H' Sx ds vs :=
  Paired.mono (fun _ _ q => q.keep hρ c t z) h

/-- what an operation gives: owned and made anew, or of the cells that were there -/
def Res (K : PySem.W.Frag) (ρ : List Addr) (H H' : Hp) (Sx : Addr → Prop) (d : D) (k : Bool) (v : V) : Prop :=
  if k = true then ∃ F, Rd K ρ H' true d v F ∧ F.Nodup ∧ ∀ a ∈ F, H a = none
  else ∃ F, Rd K ρ H' false d v F ∧ ∀ a ∈ F, Sx a ∨ H a = none
theorem Res.flat {Sx : Addr → Prop} {d : D} {v : V} {k : Bool} {o F} (h : Rd K ρ H' o d v F) (c : cf d = true) : Res K ρ H H' Sx d k v := by
  unfold Res
  cases k with
  | true => obtain ⟨_, r⟩ := h.flat (o' := true) c; exact ⟨[], r, List.nodup_nil, fun _ m => nomatch m⟩
  | false => obtain ⟨_, r⟩ := h.flat (o' := false) c; exact ⟨[], r, fun _ m => nomatch m⟩
/-- something that stood there, and may be shared -/
theorem Res.old {Sx : Addr → Prop} {d : D} {v : V} (h : In K ρ H' Sx d v) : Res K ρ H H' Sx d (cf d) v := by
  obtain ⟨F, h, m⟩ := h
  cases c : cf d with
  | true => exact Res.flat h c
  | false => exact ⟨F, h, fun a z => .inl (m a z)⟩

theorem upd_keeps {p : Addr} {o : HO} (hp : H p = none) : (∀ a, H a ≠ none → upd H p o a = H a) := fun a ha => upd_ne fun e => ha (e ▸ hp)
theorem Ins.fresh {Sx : Addr → Prop} {ds vs} {p : Addr} {o : HO} (h : Ins K ρ H Sx ds vs) (hp : H p = none) : Ins K ρ (upd H p o) Sx ds vs :=
  h.keep (fun _ _ e => e) (fun a _ c => upd_keeps hp a c.ne) (fun a xs e => by rw [upd_keeps hp a (by rw [e]; simp)]; exact e) (fun a o u e => by rw [upd_keeps hp a (by rw [e]; simp)]; exact e)
theorem Rds.fresh {o ds vs F} {p : Addr} {u : HO} (h : Rds K ρ H o ds vs F) (hp : H p = none) : Rds K ρ (upd H p u) o ds vs F :=
  h.keep (fun _ _ e => e) ⟨fun a m => upd_keeps hp a (h.cel a m).ne, fun a xs e => by rw [upd_keeps hp a (by rw [e]; simp)]; exact e, fun a o u e => by rw [upd_keeps hp a (by rw [e]; simp)]; exact e⟩

theorem Res.lst {Sx : Addr → Prop} {ds vs} {p : Addr} (h : Ins K ρ H Sx ds vs) (hp : H p = none) : Res K ρ H (upd H p (.lst vs)) Sx (.lst ds) (cfs ds) (.ref p) := by
  obtain ⟨F, r, m⟩ := h.rds
  have r' := r.fresh (u := .lst vs) hp
  cases c : cfs ds with
  | true =>
    obtain ⟨e, r2⟩ := r'.flat (o' := true) c
    exact ⟨[p], .lst upd_same r2, by simp, fun a z => by rw [List.mem_singleton.mp z]; exact hp⟩
  | false =>
    refine ⟨p :: F, .lst upd_same r', fun a z => ?_⟩
    rcases List.mem_cons.mp z with e | z
    · rw [e]; exact .inr hp
    · exact .inl (m a z)
theorem Res.tup {Sx : Addr → Prop} {ds vs} {p : Addr} (h : Ins K ρ H Sx ds vs) (hp : H p = none) : Res K ρ H (upd H p (.tup vs)) Sx (.tup ds) (cfs ds) (.ref p) := by
  obtain ⟨F, r, m⟩ := h.rds
  have r' := r.fresh (u := .tup vs) hp
  cases c : cfs ds with
  | true =>
    obtain ⟨e, r2⟩ := r'.flat (o' := true) c
    exact ⟨[], .tup upd_same r2, by simp, fun a z => nomatch z⟩
  | false => exact ⟨F, .tup upd_same r', fun a z => .inl (m a z)⟩
theorem Res.tupOld {Sx : Addr → Prop} {ds vs} {p : Addr} (h : Ins K ρ H Sx ds vs) (hp : H p = some (.tup vs)) : Res K ρ H H Sx (.tup ds) (cfs ds) (.ref p) := by
  obtain ⟨F, r, m⟩ := h.rds
  cases c : cfs ds with
  | true =>
    obtain ⟨e, r2⟩ := r.flat (o' := true) c
    exact ⟨[], .tup hp r2, by simp, fun a z => nomatch z⟩
  | false => exact ⟨F, .tup hp r, fun a z => .inl (m a z)⟩

/-! lists of pairs of reads -/
theorem Ins.length {Sx : Addr → Prop} {ds vs} (h : Ins K ρ H Sx ds vs) : ds.length = vs.length := Paired.length h
theorem Ins.get {Sx : Addr → Prop} : ∀ {ds vs} (_ : Ins K ρ H Sx ds vs) {i : Nat} {d : D}, ds[i]? = some d → ∃ v, vs[i]? = some v ∧ In K ρ H Sx d v
  | _, _, .nil, _, _, e => by simp at e
  | _, _, .cons (b := v) h t, 0, d, e => ⟨v, rfl, by simp at e; rw [← e]; exact h⟩
  | _, _, .cons h t, i + 1, d, e => by
    obtain ⟨v, a, b⟩ := Ins.get t (i := i) (d := d) (by simpa using e)
    exact ⟨v, by simpa using a, b⟩
theorem Ins.append {Sx : Addr → Prop} : ∀ {ds vs es us}, Ins K ρ H Sx ds vs → Ins K ρ H Sx es us → Ins K ρ H Sx (ds ++ es) (vs ++ us)
  | _, _, _, _, .nil, h => h
  | _, _, _, _, .cons a t, h => .cons a (Ins.append t h)
theorem Ins.take {Sx : Addr → Prop} : ∀ {ds vs} (n : Nat), Ins K ρ H Sx ds vs → Ins K ρ H Sx (ds.take n) (vs.take n)
  | _, _, 0, _ => by simp [Ins]; exact .nil
  | _, _, _ + 1, .nil => .nil
  | _, _, n + 1, .cons a t => .cons a (Ins.take n t)
theorem Ins.drop {Sx : Addr → Prop} : ∀ {ds vs} (n : Nat), Ins K ρ H Sx ds vs → Ins K ρ H Sx (ds.drop n) (vs.drop n)
  | _, _, 0, h => h
  | _, _, _ + 1, .nil => .nil
  | _, _, n + 1, .cons a t => Ins.drop n t
theorem Ins.reverse {Sx : Addr → Prop} : ∀ {ds vs}, Ins K ρ H Sx ds vs → Ins K ρ H Sx ds.reverse vs.reverse
  | _, _, .nil => .nil
  | _, _, .cons a t => by simp only [List.reverse_cons]; exact (Ins.reverse t).append (.cons a .nil)

/-! reading by the layer's own words -/
theorem Rd.lstL {o ds v F} (h : Rd K ρ H o (.lst ds) v F) : ∃ a vs G, v = .ref a ∧ SqL K H a vs ∧ Rds K ρ H o ds vs G ∧ ∀ b ∈ G, b ∈ F := by
  cases h with
  | lst h t => exact ⟨_, _, _, rfl, SqL.of h, t, fun b m => by simp [m]⟩
  | lstR h t => exact ⟨_, _, _, rfl, h.l, t, fun b m => m⟩
theorem Rd.tupL {o ds v F} (h : Rd K ρ H o (.tup ds) v F) : ∃ a vs, v = .ref a ∧ H a = some (.tup vs) ∧ Rds K ρ H o ds vs F := by
  cases h with
  | tup h t => exact ⟨_, _, rfl, h, t⟩
end
end VS

-- VS.Sim
/-! A body's state and the machine's. -/
namespace VS
open PySem L2

/-- where a value is kept: a name of the body, an attribute of an object -/
inductive Pl where
  | s (i : Nat) | f (o : Nat) (n : Str)
  deriving DecidableEq
def Pl.isS : Pl → Bool
  | .s _ => true
  | .f _ _ => false
def S.at (st : S) : Pl → Option (D × Bool)
  | .s i => st.get i
  | .f o n => (st.os[o]?).bind fun ob => ob.fs.lookup n

structure Wd where
  ρ : List Addr
  st : S
  H : Hp
  Fs : Pl → List Addr
  Z : Addr → Prop
def Val (σ : L2.St) (W : Wd) : Pl → V → Prop
  | .s i, v => σ[i]? = some (some v)
  | .f o n, v => ∃ a C dx fs, W.ρ[o]? = some a ∧ W.H a = some (.ins C dx fs) ∧ fs.lookup n = some v

structure Sim (K : PySem.W.Frag) (cl : String → Addr → Prop) (σ : L2.St) (W : Wd) : Prop where
  rd : ∀ p d k, W.st.at p = some (d, k) → ∃ v, Val σ W p v ∧ Rd K W.ρ W.H k d v (W.Fs p)
  ob : ∀ (o : Nat) ob, W.st.os[o]? = some ob → ∃ a C dx fs, W.ρ[o]? = some a ∧ W.H a = some (.ins C dx fs) ∧ cl ob.cls C ∧ ∀ n, ob.fs.lookup n = none → fs.lookup n = none
  rl : W.ρ.length = W.st.os.length
  rn : W.ρ.Nodup
  non : ∀ p, W.st.at p = none → W.Fs p = []
  nd : ∀ p d, W.st.at p = some (d, true) → (W.Fs p).Nodup
  own : ∀ p d, W.st.at p = some (d, true) → ∀ a ∈ W.Fs p, ¬ W.Z a
  frz : ∀ p d, W.st.at p = some (d, false) → ∀ a ∈ W.Fs p, W.Z a
  dj : ∀ p r d e, p ≠ r → W.st.at p = some (d, true) → W.st.at r = some (e, true) → ∀ a ∈ W.Fs p, a ∉ W.Fs r
  zt : ∀ a, W.Z a → W.H a ≠ none
  ln : W.st.sl.length = σ.length

def Own (W : Wd) (p : Pl) : Prop := ∃ d, W.st.at p = some (d, true)
def Mt (ms : List Nat) : Pl → Prop
  | .s i => i ∈ ms
  | .f _ _ => True
/-- the cells that may be changed -/
def Mc (W : Wd) (ms : List Nat) (a : Addr) : Prop := ∃ p, Mt ms p ∧ Own W p ∧ a ∈ W.Fs p

structure Step (ms : List Nat) (W W' : Wd) : Prop where
  rho : ∃ more, W'.ρ = W.ρ ++ more
  keep : ∀ a o, W.H a = some o → (∀ C dx fs, o ≠ .ins C dx fs) → ¬ Mc W ms a → W'.H a = some o
  there : ∀ a, W.H a ≠ none → W'.H a ≠ none
  fs : ∀ p a, a ∈ W'.Fs p → (p.isS = true ∧ W'.Z a) ∨ a ∈ W.Fs p ∨ Mc W ms a ∨ W.H a = none
  zz : ∀ a, W.Z a → W'.Z a
  zn : ∀ a, W'.Z a → W.Z a ∨ W.H a = none ∨ ∃ p, a ∈ W.Fs p
structure StepE (ms : List Nat) (W W' : Wd) : Prop extends Step ms W W' where
  eq : ∀ i, i ∉ ms → W'.st.get i = W.st.get i ∧ W'.Fs (.s i) = W.Fs (.s i)

section
variable {K : PySem.W.Frag} {cl : String → Addr → Prop} {σ σ' : L2.St} {W W1 W2 : Wd} {ms ns : List Nat}

theorem Sim.cel (s : Sim K cl σ W) {p : Pl} {a : Addr} (h : a ∈ W.Fs p) : Cel W.H a := by
  cases e : W.st.at p with
  | none => rw [s.non p e] at h; cases h
  | some x =>
    obtain ⟨d, k⟩ := x
    obtain ⟨v, _, r⟩ := s.rd p d k e
    exact r.cel a h
theorem Sim.own_or (s : Sim K cl σ W) {p : Pl} {a : Addr} (h : a ∈ W.Fs p) : Own W p ∨ W.Z a := by
  cases e : W.st.at p with
  | none => rw [s.non p e] at h; cases h
  | some x =>
    obtain ⟨d, k⟩ := x
    cases k with
    | true => exact .inl ⟨d, e⟩
    | false => exact .inr (s.frz p d e a h)
theorem Own.notZ (s : Sim K cl σ W) {p : Pl} (o : Own W p) {a : Addr} (h : a ∈ W.Fs p) : ¬ W.Z a := let ⟨d, e⟩ := o; s.own p d e a h
theorem Own.one (s : Sim K cl σ W) {p r : Pl} (o : Own W p) (o' : Own W r) {a : Addr} (h : a ∈ W.Fs p) (h' : a ∈ W.Fs r) : p = r := by
  obtain ⟨d, e⟩ := o
  obtain ⟨d', e'⟩ := o'
  by_cases q : p = r
  · exact q
  · exact absurd h' (s.dj p r d d' q e e' a h)
theorem Mc.cel (s : Sim K cl σ W) {a : Addr} (m : Mc W ms a) : Cel W.H a := let ⟨_, _, _, h⟩ := m; s.cel h
theorem Mc.notZ (s : Sim K cl σ W) {a : Addr} (m : Mc W ms a) : ¬ W.Z a := let ⟨_, _, o, h⟩ := m; o.notZ s h
theorem Mc.mono {a : Addr} (m : Mc W ms a) (h : ∀ i ∈ ms, i ∈ ns) : Mc W ns a := by
  obtain ⟨p, t, o, q⟩ := m
  refine ⟨p, ?_, o, q⟩
  cases p with
  | s i => exact h i t
  | f _ _ => trivial

theorem Step.tup (s : Sim K cl σ W) (t : Step ms W W1) {a : Addr} {xs} (h : W.H a = some (.tup xs)) : W1.H a = some (.tup xs) :=
  t.keep a _ h (fun _ _ _ => by simp) fun m => (m.cel s).tup h
theorem Step.frz (s : Sim K cl σ W) (t : Step ms W W1) {a : Addr} {o u} (h : W.H a = some (.frz o u)) : W1.H a = some (.frz o u) :=
  t.keep a _ h (fun _ _ _ => by simp) fun m => (m.cel s).frz h
theorem Step.cell (t : Step ms W W1) {a : Addr} (c : Cel W.H a) (n : ¬ Mc W ms a) : W1.H a = W.H a := by
  rcases c with ⟨_, e⟩ | ⟨_, e⟩ | ⟨_, e⟩ <;> (rw [e]; exact t.keep a _ e (fun _ _ _ => by simp) n)
theorem Step.ρs (t : Step ms W W1) : ∀ (i : Nat) (a : Addr), W.ρ[i]? = some a → W1.ρ[i]? = some a := fun i a h => by
  obtain ⟨m, e⟩ := t.rho
  rw [e, List.getElem?_append_left (List.getElem?_eq_some_iff.mp h).1]
  exact h
theorem Step.free (t : Step ms W W1) {a : Addr} (h : W1.H a = none) : W.H a = none := by
  cases e : W.H a with
  | none => rfl
  | some o => exact absurd h (t.there a (by rw [e]; simp))
/-- what is read stays -/
theorem Step.rd (s : Sim K cl σ W) (t : Step ms W W1) {k d v F} (r : Rd K W.ρ W.H k d v F) (n : ∀ a ∈ F, ¬ Mc W ms a) : Rd K W1.ρ W1.H k d v F :=
  r.keep t.ρs ⟨fun a m => t.cell (r.cel a m) (n a m), fun _ _ h => t.tup s h, fun _ _ _ h => t.frz s h⟩

theorem Step.refl : Step ms W W := ⟨⟨[], by simp⟩, fun _ _ h _ _ => h, fun _ h => h, fun _ _ h => .inr (.inl h), fun _ h => h, fun _ h => .inl h⟩
theorem StepE.refl : StepE ms W W := ⟨Step.refl, fun _ _ => ⟨rfl, rfl⟩⟩
theorem Step.mono (t : Step ms W W1) (h : ∀ i ∈ ms, i ∈ ns) : Step ns W W1 :=
  ⟨t.rho, fun a o e n m => t.keep a o e n fun z => m (z.mono h), t.there, fun p a m => (t.fs p a m).imp id (Or.imp id (Or.imp (fun z => z.mono h) id)), t.zz, t.zn⟩
theorem StepE.mono (t : StepE ms W W1) (h : ∀ i ∈ ms, i ∈ ns) : StepE ns W W1 := ⟨t.toStep.mono h, fun i n => t.eq i fun z => n (h i z)⟩

theorem Mc.back (s : Sim K cl σ W) (s1 : Sim K cl σ' W1) (t : Step ms W W1) {a : Addr} (m : Mc W1 ns a) : Mc W (ms ++ ns) a ∨ W.H a = none := by
  obtain ⟨p, q, o, h⟩ := m
  rcases t.fs p a h with z | z | z | z
  · exact absurd z.2 (o.notZ s1 h)
  · rcases s.own_or z with w | w
    · refine .inl ⟨p, ?_, w, z⟩
      cases p with
      | s i => exact List.mem_append.mpr (.inr q)
      | f _ _ => trivial
    · exact absurd (t.zz a w) (o.notZ s1 h)
  · exact .inl (z.mono fun i hi => List.mem_append.mpr (.inl hi))
  · exact .inr z
theorem Step.trans (s : Sim K cl σ W) (s1 : Sim K cl σ' W1) (t : Step ms W W1) (u : Step ns W1 W2) : Step (ms ++ ns) W W2 where
  rho := by
    obtain ⟨m, e⟩ := t.rho
    obtain ⟨m', e'⟩ := u.rho
    exact ⟨m ++ m', by rw [e', e, List.append_assoc]⟩
  keep := fun a o e n m => by
    have e1 := t.keep a o e n fun z => m (z.mono fun i hi => List.mem_append.mpr (.inl hi))
    refine u.keep a o e1 n fun z => ?_
    rcases z.back s s1 t with w | w
    · exact m w
    · rw [e] at w; cases w
  there := fun a h => u.there a (t.there a h)
  fs := fun p a h => by
    rcases u.fs p a h with z | z | z | z
    · exact .inl z
    · exact (t.fs p a z).imp (fun w => ⟨w.1, u.zz a w.2⟩) (Or.imp id (Or.imp (fun w => w.mono fun i hi => List.mem_append.mpr (.inl hi)) id))
    · exact .inr (.inr (z.back s s1 t))
    · exact .inr (.inr (.inr (t.free z)))
  zz := fun a h => u.zz a (t.zz a h)
  zn := fun a h => by
    rcases u.zn a h with z | z | ⟨p, z⟩
    · exact t.zn a z
    · exact .inr (.inl (t.free z))
    · rcases t.fs p a z with w | w | ⟨r, _, _, w⟩ | w
      · exact t.zn a w.2
      · exact .inr (.inr ⟨p, w⟩)
      · exact .inr (.inr ⟨r, w⟩)
      · exact .inr (.inl w)
theorem StepE.trans (s : Sim K cl σ W) (s1 : Sim K cl σ' W1) (t : StepE ms W W1) (u : StepE ns W1 W2) : StepE (ms ++ ns) W W2 :=
  ⟨t.toStep.trans s s1 u.toStep, fun i h => by
    have h1 : i ∉ ms := fun z => h (List.mem_append.mpr (.inl z))
    have h2 : i ∉ ns := fun z => h (List.mem_append.mpr (.inr z))
    exact ⟨(u.eq i h2).1.trans (t.eq i h1).1, (u.eq i h2).2.trans (t.eq i h1).2⟩⟩
theorem Step.trans' (s : Sim K cl σ W) (s1 : Sim K cl σ' W1) (t : Step ms W W1) (u : Step ms W1 W2) : Step ms W W2 := (t.trans s s1 u).mono fun i h => by simpa using h

/-- a value on its way: owned, or shared with what the names vs tell -/
structure Tmp (K : PySem.W.Frag) (W : Wd) (vs : List Nat) (d : D) (k : Bool) (v : V) (F : List Addr) : Prop where
  rd : Rd K W.ρ W.H k d v F
  nd : k = true → F.Nodup
  nz : k = true → ∀ a ∈ F, ¬ W.Z a
  nf : k = true → ∀ a ∈ F, ∀ p, a ∉ W.Fs p
  sh : k = false → ∀ a ∈ F, W.Z a ∨ ∃ i ∈ vs, a ∈ W.Fs (.s i)
theorem Tmp.flat {vs d k k' v F} (t : Tmp K W vs d k v F) (c : cf d = true) {vs' : List Nat} : Tmp K W vs' d k' v [] := by
  obtain ⟨e, r⟩ := t.rd.flat (o' := k') c
  exact ⟨r, fun _ => List.nodup_nil, (fun _ _ m => nomatch m), (fun _ _ m => nomatch m), (fun _ _ m => nomatch m)⟩
theorem Tmp.of_flat {vs d k k' v F} (r : Rd K W.ρ W.H k d v F) (c : cf d = true) : Tmp K W vs d k' v [] := by
  obtain ⟨e, r⟩ := r.flat (o' := k') c
  exact ⟨r, fun _ => List.nodup_nil, (fun _ _ m => nomatch m), (fun _ _ m => nomatch m), (fun _ _ m => nomatch m)⟩
theorem Tmp.more {vs vs' d k v F} (t : Tmp K W vs d k v F) (h : ∀ i ∈ vs, i ∈ vs') : Tmp K W vs' d k v F :=
  ⟨t.rd, t.nd, t.nz, t.nf, fun e a m => (t.sh e a m).imp id fun ⟨i, q, z⟩ => ⟨i, h i q, z⟩⟩
theorem disj_of {a b : List Nat} (h : disj a b = true) : ∀ i ∈ a, i ∉ b := fun i m z => by
  have := List.all_eq_true.mp h i m
  simp [z] at this
theorem Tmp.notM (s : Sim K cl σ W) {vs d k v F} (t : Tmp K W vs d k v F) (hd : k = true ∨ disj vs ms = true) : ∀ a ∈ F, ¬ Mc W ms a := fun a m ⟨p, q, o, h⟩ => by
  cases k with
  | true => exact t.nf rfl a m p h
  | false =>
    have dv : disj vs ms = true := by rcases hd with hd | hd; cases hd; exact hd
    rcases t.sh rfl a m with z | ⟨i, hi, z⟩
    · exact o.notZ s h z
    · rcases s.own_or z with w | w
      · have e := Own.one s o w h z
        subst e
        exact disj_of dv i hi q
      · exact o.notZ s h w
theorem Tmp.step (s : Sim K cl σ W) {vs d k v F} (t : Tmp K W vs d k v F) (u : StepE ms W W1) (hd : k = true ∨ disj vs ms = true) : Tmp K W1 vs d k v F where
  rd := u.rd s t.rd (t.notM s hd)
  nd := t.nd
  nz := fun e a m z => by
    rcases u.zn a z with w | w | ⟨p, w⟩
    · exact t.nz e a m w
    · exact absurd w (t.rd.cel a m).ne
    · exact t.nf e a m p w
  nf := fun e a m p z => by
    rcases u.fs p a z with w | w | ⟨r, _, _, w⟩ | w
    · rcases u.zn a w.2 with w | w | ⟨r, w⟩
      · exact t.nz e a m w
      · exact absurd w (t.rd.cel a m).ne
      · exact t.nf e a m r w
    · exact t.nf e a m p w
    · exact t.nf e a m r w
    · exact absurd w (t.rd.cel a m).ne
  sh := fun e a m => by
    rcases t.sh e a m with w | ⟨i, hi, w⟩
    · exact .inl (u.zz a w)
    · have dv : disj vs ms = true := by rcases hd with hd | hd; rw [e] at hd; cases hd; exact hd
      exact .inr ⟨i, hi, by rw [(u.eq i (disj_of dv i hi)).2]; exact w⟩

/-- a new object of the machine's -/
def Wd.put (W : Wd) (p : Addr) (o : HO) : Wd := { W with H := upd W.H p o }
theorem Sim.put (s : Sim K cl σ W) {p : Addr} {o : HO} (hp : W.H p = none) : Sim K cl σ (W.put p o) := by
  have kp : ∀ a, W.H a ≠ none → upd W.H p o a = W.H a := upd_keeps hp
  refine ⟨fun x d k e => ?_, fun i ob e => ?_, s.rl, s.rn, s.non, s.nd, s.own, s.frz, s.dj, fun a z => by show upd W.H p o a ≠ none; rw [kp a (s.zt a z)]; exact s.zt a z, s.ln⟩
  · obtain ⟨v, h1, h2⟩ := s.rd x d k e
    refine ⟨v, ?_, h2.keep (fun _ _ h => h) ⟨fun a m => kp a (h2.cel a m).ne, fun a xs h => (kp a (by rw [h]; simp)).trans h, fun a o u h => (kp a (by rw [h]; simp)).trans h⟩⟩
    cases x with
    | s i => exact h1
    | f i n =>
      obtain ⟨a, C, dx, fs, q1, q2, q3⟩ := h1
      exact ⟨a, C, dx, fs, q1, (kp a (by rw [q2]; simp)).trans q2, q3⟩
  · obtain ⟨a, C, dx, fs, q1, q2, q3⟩ := s.ob i ob e
    exact ⟨a, C, dx, fs, q1, (kp a (by rw [q2]; simp)).trans q2, q3⟩
theorem StepE.put {p : Addr} {o : HO} (hp : W.H p = none) : StepE ms W (W.put p o) := by
  have kp : ∀ a, W.H a ≠ none → upd W.H p o a = W.H a := upd_keeps hp
  exact ⟨⟨⟨[], by simp [Wd.put]⟩, fun a u e _ _ => (kp a (by rw [e]; simp)).trans e, fun a h => by show upd W.H p o a ≠ none; rw [kp a h]; exact h, fun _ _ h => .inr (.inl h), fun _ h => h, fun _ h => .inl h⟩, fun _ _ => ⟨rfl, rfl⟩⟩
/-- the memory grew, and what was tracked stands -/
def Wd.wit (W : Wd) (H : Hp) : Wd := { W with H := H }
theorem StepE.wit {H : Hp} (h : Same W.H H) : StepE ms W (W.wit H) :=
  ⟨⟨⟨[], by simp [Wd.wit]⟩, fun a o e _ _ => h a o e, fun a n => by
    cases e : W.H a with
    | none => exact absurd e n
    | some o => show H a ≠ none; rw [h a o e]; simp, fun _ _ q => .inr (.inl q), fun _ q => q, fun _ q => .inl q⟩, fun _ _ => ⟨rfl, rfl⟩⟩
theorem Sim.wit (s : Sim K cl σ W) {H : Hp} (h : Same W.H H) : Sim K cl σ (W.wit H) := by
  refine ⟨fun x d k e => ?_, fun i ob e => ?_, s.rl, s.rn, s.non, s.nd, s.own, s.frz, s.dj, fun a z => (StepE.wit (ms := []) h).there a (s.zt a z), s.ln⟩
  · obtain ⟨v, h1, h2⟩ := s.rd x d k e
    refine ⟨v, ?_, h2.keep (fun _ _ h => h) ⟨fun a m => ?_, fun a xs e => h a _ e, fun a o u e => h a _ e⟩⟩
    · cases x with
      | s i => exact h1
      | f i n =>
        obtain ⟨a, C, dx, fs, q1, q2, q3⟩ := h1
        exact ⟨a, C, dx, fs, q1, h a _ q2, q3⟩
    · rcases h2.cel a m with ⟨_, e⟩ | ⟨_, e⟩ | ⟨_, e⟩ <;> (rw [e]; exact h a _ e)
  · obtain ⟨a, C, dx, fs, q1, q2, q3⟩ := s.ob i ob e
    exact ⟨a, C, dx, fs, q1, h a _ q2, q3⟩

/-- where a new owned cell may come from -/
def From (W : Wd) (ms : List Nat) (a : Addr) : Prop := W.H a = none ∨ Mc W ms a
theorem From.mono {a : Addr} (m : From W ms a) (h : ∀ i ∈ ms, i ∈ ns) : From W ns a := m.imp id fun z => z.mono h
theorem From.back (s : Sim K cl σ W) (s1 : Sim K cl σ' W1) (t : Step ms W W1) {a : Addr} (m : From W1 ns a) : From W (ms ++ ns) a := by
  rcases m with m | m
  · exact .inl (t.free m)
  · exact (m.back s s1 t).symm
/-- where the cells of a value on its way lie -/
def Src (W : Wd) (ms : List Nat) (W1 : Wd) (vs : List Nat) (a : Addr) : Prop :=
  Cel W1.H a ∧ (W1.Z a ∨ (∃ i ∈ vs, a ∈ W1.Fs (.s i)) ∨ ((∀ p, a ∉ W1.Fs p) ∧ From W ms a))
theorem Tmp.src {vs d k v F} (t : Tmp K W1 vs d k v F) (f : k = true → ∀ a ∈ F, From W ms a) : ∀ a ∈ F, Src W ms W1 vs a := fun a m => by
  refine ⟨t.rd.cel a m, ?_⟩
  cases k with
  | true => exact .inr (.inr ⟨t.nf rfl a m, f rfl a m⟩)
  | false => exact (t.sh rfl a m).imp id .inl
theorem Src.more {vs vs' : List Nat} {a : Addr} (h : Src W ms W1 vs a) (i : ∀ i ∈ vs, i ∈ vs') : Src W ms W1 vs' a := ⟨h.1, h.2.imp id (Or.imp (fun ⟨j, q, z⟩ => ⟨j, i j q, z⟩) id)⟩

/-- what nobody owns may be frozen -/
def Wd.ice (W : Wd) (F : List Addr) : Wd := { W with Z := fun a => W.Z a ∨ (a ∈ F ∧ ∀ p, a ∉ W.Fs p) }
theorem Sim.ice (s : Sim K cl σ W) {F : List Addr} (h : ∀ a ∈ F, W.H a ≠ none) : Sim K cl σ (W.ice F) :=
  ⟨s.rd, s.ob, s.rl, s.rn, s.non, s.nd, fun p d e a m z => by
    rcases z with z | ⟨_, z⟩
    · exact s.own p d e a m z
    · exact z p m, fun p d e a m => .inl (s.frz p d e a m), s.dj, fun a z => by
    rcases z with z | ⟨z, _⟩
    · exact s.zt a z
    · exact h a z, s.ln⟩
theorem StepE.ice (t : StepE ms W W1) {F : List Addr} (h : ∀ a ∈ F, (∀ p, a ∉ W1.Fs p) → W1.Z a ∨ From W ms a) : StepE ms W (W1.ice F) :=
  ⟨⟨t.rho, t.keep, t.there, fun p a h => (t.fs p a h).imp (fun w => ⟨w.1, .inl w.2⟩) id, fun a z => .inl (t.zz a z), fun a z => by
    rcases z with z | ⟨z, n⟩
    · exact t.zn a z
    · rcases h a z n with w | w | ⟨p, _, _, w⟩
      · exact t.zn a w
      · exact .inr (.inl w)
      · exact .inr (.inr ⟨p, w⟩)⟩, t.eq⟩

/-- what an operation gives, as a value on its way -/
theorem Res.out {vs : List Nat} {H : Hp} {Sx : Addr → Prop} {d k v} (s : Sim K cl σ W) (s1 : Sim K cl σ W1) (t : StepE ms W W1) (hS : ∀ a, Sx a → Src W ms W1 vs a) (hH : Same W1.H H) (r : Res K W1.ρ W1.H H Sx d k v) :
    ∃ W2 F, W2.st = W1.st ∧ W2.H = H ∧ Sim K cl σ W2 ∧ StepE ms W W2 ∧ Tmp K W2 vs d k v F ∧ (k = true → ∀ a ∈ F, From W ms a) := by
  have t2 : StepE ms W (W1.wit H) := (t.trans s s1 (StepE.wit (ms := []) hH)).mono fun i h => by simpa using h
  have nF : ∀ a, W1.H a = none → ∀ p, a ∉ W1.Fs p := fun a e p m => (s1.cel m).ne e
  unfold Res at r
  cases k with
  | true =>
    rw [if_pos rfl] at r
    obtain ⟨F, r, nd, fr⟩ := r
    exact ⟨W1.wit H, F, rfl, rfl, s1.wit hH, t2, ⟨r, fun _ => nd, fun _ a m z => s1.zt a z (fr a m), fun _ a m => nF a (fr a m), fun e => Bool.noConfusion e⟩, fun _ a m => .inl (t.free (fr a m))⟩
  | false =>
    rw [if_neg Bool.false_ne_true] at r
    obtain ⟨F, r, m⟩ := r
    refine ⟨(W1.wit H).ice F, F, rfl, rfl, (s1.wit hH).ice fun a z => (r.cel a z).ne, t2.ice fun a z n => ?_, ⟨r, fun e => Bool.noConfusion e, fun e => Bool.noConfusion e, fun e => Bool.noConfusion e, fun _ a z => ?_⟩, fun e => Bool.noConfusion e⟩
    · rcases m a z with w | w
      · rcases (hS a w).2 with q | ⟨i, _, q⟩ | ⟨_, q⟩
        · exact .inl q
        · exact absurd q (n _)
        · exact .inr q
      · exact .inr (.inl (t.free w))
    · rcases m a z with w | w
      · rcases (hS a w).2 with q | ⟨i, hi, q⟩ | ⟨q, _⟩
        · exact .inl (.inl q)
        · exact .inr ⟨i, hi, q⟩
        · exact .inl (.inr ⟨z, q⟩)
      · exact .inl (.inr ⟨z, nF a w⟩)
end
end VS

-- VS.Ops
/-! Operations by values: what the machine does for each. -/
namespace VS
open PySem PySem.Spec PyProof.Rows L2

theorem OpR.or {X : Cx} {f : Value → Value → Sem Value} {r r' : R2} (h : OpR X f r) (h' : OpR X f r') : OpR X f fun x y H Q => r x y H Q ∨ r' x y H Q :=
  fun pins s σ H x y v u Q I rx ry q => q.elim (h pins s σ H x y v u Q I rx ry) (h' pins s σ H x y v u Q I rx ry)
theorem CallR.or {X : Cx} {f : Value} {r r' : List V → Hp → VK → Prop} (h : CallR X f r) (h' : CallR X f r') : CallR X f fun xs H Q => r xs H Q ∨ r' xs H Q :=
  fun pins s σ H xs us Q I rx q => q.elim (h pins s σ H xs us Q I rx) (h' pins s σ H xs us Q I rx)

/-- what a rule of two values is to serve -/
def Sp2 (K : PySem.W.Frag) (o : O2) (r : R2) : Prop := ∀ (ρ : List Addr) (H : Hp) (Sx : Addr → Prop) (d1 d2 d : D) (k : Bool) (v1 v2 : V) (Q : VK),
  In K ρ H Sx d1 v1 → In K ρ H Sx d2 v2 → op2 o d1 d2 = some (d, k) → (∀ v H', Same H H' → Res K ρ H H' Sx d k v → Q v H') → r v1 v2 H Q
def Sp1 (K : PySem.W.Frag) (o : O1) (r : V → Hp → VK → Prop) : Prop := ∀ (ρ : List Addr) (H : Hp) (Sx : Addr → Prop) (d1 d : D) (k : Bool) (v1 : V) (Q : VK),
  In K ρ H Sx d1 v1 → op1 o d1 = some (d, k) → (∀ v H', Same H H' → Res K ρ H H' Sx d k v → Q v H') → r v1 H Q

section
variable {K : PySem.W.Frag} {ρ : List Addr} {H : Hp} {Sx : Addr → Prop} {Q : VK}
theorem In.int {i v} (h : In K ρ H Sx (.int i) v) : v = .int i := by obtain ⟨F, h, _⟩ := h; cases h; rfl
theorem In.bl {b v} (h : In K ρ H Sx (.bl b) v) : v = .bl b := by obtain ⟨F, h, _⟩ := h; cases h; rfl
theorem In.non {v} (h : In K ρ H Sx .non v) : v = .non := by obtain ⟨F, h, _⟩ := h; cases h; rfl
theorem In.str {s v} (h : In K ρ H Sx (.str s) v) : v = .str s := by obtain ⟨F, h, _⟩ := h; cases h; rfl
theorem In.lst {ds v} (h : In K ρ H Sx (.lst ds) v) : ∃ a vs, v = .ref a ∧ SqL K H a vs ∧ Ins K ρ H Sx ds vs := by
  obtain ⟨F, h, m⟩ := h
  obtain ⟨a, vs, G, e, q, r, n⟩ := h.lstL
  exact ⟨a, vs, e, q, r.ins fun b z => m b (n b z)⟩
theorem In.tup {ds v} (h : In K ρ H Sx (.tup ds) v) : ∃ a vs, v = .ref a ∧ H a = some (.tup vs) ∧ Ins K ρ H Sx ds vs := by
  obtain ⟨F, h, m⟩ := h
  obtain ⟨a, vs, e, q, r⟩ := h.tupL
  exact ⟨a, vs, e, q, r.ins m⟩
/-- a dict's pairs -/
def Insk (K : PySem.W.Frag) (ρ : List Addr) (H : Hp) (Sx : Addr → Prop) {κ : Type} (ps : List (κ × D)) (kvs : List (κ × V)) : Prop := Paired (fun p q => p.1 = q.1 ∧ In K ρ H Sx p.2 q.2) ps kvs
theorem insk_of {κ : Type} : ∀ {ps : List (κ × D)} {kvs : List (κ × V)}, kvs.map (·.1) = ps.map (·.1) → Ins K ρ H Sx (ps.map (·.2)) (kvs.map (·.2)) → Insk K ρ H Sx ps kvs
  | [], [], _, _ => .nil
  | [], _ :: _, e, _ => by simp at e
  | _ :: _, [], e, _ => by simp at e
  | p :: ps, q :: kvs, e, h => by
    simp only [List.map_cons, List.cons.injEq] at e
    cases h with
    | cons h1 h2 => exact .cons ⟨e.1.symm, h1⟩ (insk_of e.2 h2)
theorem Insk.keys {κ : Type} : ∀ {ps : List (κ × D)} {kvs : List (κ × V)}, Insk K ρ H Sx ps kvs → kvs.map (·.1) = ps.map (·.1)
  | _, _, .nil => rfl
  | _, _, .cons h t => by simp [h.1, Insk.keys t]
theorem Insk.vals {κ : Type} : ∀ {ps : List (κ × D)} {kvs : List (κ × V)}, Insk K ρ H Sx ps kvs → Ins K ρ H Sx (ps.map (·.2)) (kvs.map (·.2))
  | _, _, .nil => .nil
  | _, _, .cons h t => .cons h.2 (Insk.vals t)
theorem Insk.val {κ : Type} [DecidableEq κ] (k : κ) : ∀ {ps : List (κ × D)} {kvs : List (κ × V)}, Insk K ρ H Sx ps kvs →
    (valD ps k = none ∧ valV kvs k = none) ∨ ∃ d v, valD ps k = some d ∧ valV kvs k = some v ∧ In K ρ H Sx d v
  | _, _, .nil => .inl ⟨rfl, rfl⟩
  | _, _, .cons (a := p) (b := q) (l₁ := ps) (l₂ := kvs) h t => by
    obtain ⟨h1, h2⟩ := h
    by_cases e : p.1 = k
    · refine .inr ⟨p.2, q.2, by simp [valD, List.find?_cons, e], ?_, h2⟩
      exact valV_pos (h1 ▸ e)
    · have e2 : valD (p :: ps) k = valD ps k := by simp [valD, List.find?_cons, e]
      have e3 : valV (q :: kvs) k = valV kvs k := valV_neg (fun z => e (h1.trans z))
      rw [e2, e3]
      exact Insk.val k t
theorem In.dct {ps v} (h : In K ρ H Sx (.dct ps) v) : ∃ a kvs, v = .ref a ∧ H a = some (.dK kvs) ∧ Insk K ρ H Sx ps kvs := by
  obtain ⟨F, h, m⟩ := h
  cases h with
  | dct h e n r => exact ⟨_, _, rfl, h, insk_of e (r.ins fun b z => m b (by simp [z]))⟩
theorem In.dctT {ps v} (h : In K ρ H Sx (.dctT ps) v) : ∃ a kvs, v = .ref a ∧ H a = some (.dT kvs) ∧ Insk K ρ H Sx ps kvs := by
  obtain ⟨F, h, m⟩ := h
  cases h with
  | dctT h e n r => exact ⟨_, _, rfl, h, insk_of e (r.ins fun b z => m b (by simp [z]))⟩
theorem Same.put {p : Addr} {o : HO} (hp : H p = none) : Same H (upd H p o) := fun b u e => by rw [upd_ne (ne_of_none e hp)]; exact e
theorem fin_int {i : Int} {H' : Hp} : Res K ρ H H' Sx (.int i) true (.int i) := Res.flat (o := true) .int rfl
theorem fin_bl {b : Bool} {H' : Hp} : Res K ρ H H' Sx (.bl b) true (.bl b) := Res.flat (o := true) .bl rfl
theorem fin_str {s : Str} {H' : Hp} : Res K ρ H H' Sx (.str s) true (.str s) := Res.flat (o := true) .str rfl

/-- where an operation's wish is met -/
theorem q_int {i : Int} {k} (q : ∀ v H', Same H H' → Res K ρ H H' Sx (.int i) k v → Q v H') (e : k = true) : Q (.int i) H := q _ H (Same.refl H) (e ▸ fin_int)
theorem q_bl {b : Bool} {k} (q : ∀ v H', Same H H' → Res K ρ H H' Sx (.bl b) k v → Q v H') (e : k = true) : Q (.bl b) H := q _ H (Same.refl H) (e ▸ fin_bl)
theorem q_str {b : Str} {k} (q : ∀ v H', Same H H' → Res K ρ H H' Sx (.str b) k v → Q v H') (e : k = true) : Q (.str b) H := q _ H (Same.refl H) (e ▸ fin_str)
end

section
variable {X : Cx}
/-- two lists in one, whoever may change them -/
def rCatS (K : PySem.W.Frag) : R2 := fun x y H Q => ∃ l b xs zs, x = .ref l ∧ y = .ref b ∧ SqL K H l xs ∧ SqL K H b zs ∧ xs.length + zs.length ≤ sizeLine ∧ ∀ p, H p = none → Q (.ref p) (upd H p (.lst (xs ++ zs)))
theorem op_catS : OpR X (binaryOp .Add) (rCatS X.K) := by
  intro pins s σ H x y v u Q I rx ry h
  obtain ⟨l, b, xs, zs, rfl, rfl, hH, hB, hz, fin⟩ := h
  cases rx
  cases ry
  obtain ⟨its, r, pl, _⟩ := I.list hH
  obtain ⟨its2, r2, pl2, _⟩ := I.list hB
  obtain ⟨⟨c, dd, da, sl⟩, ho, hc, n, hd⟩ := pl.isList
  obtain ⟨⟨c2, dd2, da2, sl2⟩, ho2, hc2, n2, hd2⟩ := pl2.isList
  simp only at hc hd hc2 hd2
  subst hc hd hc2 hd2
  have hsz : its.toArray.size + its2.toArray.size ≤ sizeLine := by
    have e1 := r.length
    have e2 := r2.length
    simp only [List.size_toArray]
    omega
  refine concat_meets ⟨_, ho, rfl⟩ ⟨_, ho2, rfl⟩ noFill_list_add seq_list_add PySem.F.slot_list_add PySem.F.entry_list_add (PySem.F.args_list_add_2 _ _) (list_addW l b its.toArray its2.toArray n n2 dd dd2 sl sl2 hsz) ⟨ho, ho2, ?_⟩
  have ea : its.toArray ++ its2.toArray = (its ++ its2).toArray := by simp
  rw [ea]
  refine ⟨.ref _, _, I.lnew (t' := s.toks) (r.append r2) (by rw [List.length_append]; exact hz), rfl, fin _ I.fresh⟩

theorem sp_add : ∃ r, OpR X (binaryOp .Add) r ∧ Sp2 X.K .add r := by
  refine ⟨_, OpR.or op_add (OpR.or op_add_str (OpR.or op_catS op_catA)), ?_⟩
  intro ρ H Sx d1 d2 d k v1 v2 Q h1 h2 e w
  cases d1 <;> cases d2 <;> try (exact nomatch (show (none : Option (D × Bool)) = some (d, k) from e))
  · simp only [op2, Option.some.injEq, Prod.mk.injEq] at e
    obtain ⟨rfl, rfl⟩ := e
    obtain rfl := h1.int
    obtain rfl := h2.int
    exact .inl ⟨_, _, rfl, rfl, q_int w rfl⟩
  · obtain rfl := h1.str
    obtain rfl := h2.str
    simp only [op2] at e
    split at e
    · rename_i hz
      simp only [Option.some.injEq, Prod.mk.injEq] at e
      obtain ⟨rfl, rfl⟩ := e
      exact .inr (.inl ⟨_, _, rfl, rfl, hz, q_str w rfl⟩)
    · cases e
  · obtain ⟨a, vs, rfl, s1, i1⟩ := h1.tup
    obtain ⟨b, us, rfl, s2, i2⟩ := h2.tup
    simp only [op2] at e
    split at e
    · rename_i hz
      simp only [Option.some.injEq, Prod.mk.injEq] at e
      obtain ⟨rfl, rfl⟩ := e
      have hcfs : ∀ xs ys : List D, cfs (xs ++ ys) = (cfs xs && cfs ys) := by
        intro xs ys
        induction xs with
        | nil => simp [cfs]
        | cons x xs ih => simp [cfs, ih, Bool.and_assoc]
      refine .inr (.inr (.inr ⟨a, b, vs, us, rfl, rfl, SqT.of s1, SqT.of s2, by rw [← i1.length, ← i2.length]; exact hz, fun e => ?_, fun _ e => ?_, fun _ _ p hp => ?_⟩))
      · have e0 := i1.length
        rw [e] at e0
        have e0' := List.length_eq_zero_iff.mp e0
        subst e0'
        refine w _ H (Same.refl H) ?_
        have := Res.tupOld (H := H) i2 s2
        simpa [cfs] using this
      · have e0 := i2.length
        rw [e] at e0
        have e0' := List.length_eq_zero_iff.mp e0
        subst e0'
        refine w _ H (Same.refl H) ?_
        have := Res.tupOld (H := H) i1 s1
        simpa [cfs] using this
      · refine w _ _ (Same.put hp) ?_
        rw [← hcfs]
        exact Res.tup (i1.append i2) hp
    · cases e
  · obtain ⟨a, vs, rfl, s1, i1⟩ := h1.lst
    obtain ⟨b, us, rfl, s2, i2⟩ := h2.lst
    simp only [op2] at e
    split at e
    · rename_i hz
      simp only [Option.some.injEq, Prod.mk.injEq] at e
      obtain ⟨rfl, rfl⟩ := e
      have hcfs : ∀ xs ys : List D, cfs (xs ++ ys) = (cfs xs && cfs ys) := by
        intro xs ys
        induction xs with
        | nil => simp [cfs]
        | cons x xs ih => simp [cfs, ih, Bool.and_assoc]
      refine .inr (.inr (.inl ⟨a, b, vs, us, rfl, rfl, s1, s2, by rw [← i1.length, ← i2.length]; exact hz, fun p hp => w _ _ (Same.put hp) ?_⟩))
      rw [← hcfs]
      exact Res.lst (i1.append i2) hp
    · cases e

theorem sp_ints {K : PySem.W.Frag} {o : O2} {C : Int → Int → Prop} {g : Int → Int → V} (h : ∀ d1 d2 d k, op2 o d1 d2 = some (d, k) → ∃ i j, d1 = .int i ∧ d2 = .int j ∧ C i j ∧ k = true ∧ ((∃ z, d = .int z ∧ g i j = .int z) ∨ ∃ b, d = .bl b ∧ g i j = .bl b)) : Sp2 K o (rI C g) := by
  intro ρ H Sx d1 d2 d k v1 v2 Q h1 h2 e w
  obtain ⟨i, j, rfl, rfl, c, rfl, z⟩ := h _ _ _ _ e
  obtain rfl := h1.int
  obtain rfl := h2.int
  rcases z with ⟨z, rfl, ez⟩ | ⟨z, rfl, ez⟩
  · exact ⟨i, j, rfl, rfl, c, by rw [ez]; exact q_int w rfl⟩
  · exact ⟨i, j, rfl, rfl, c, by rw [ez]; exact q_bl w rfl⟩
theorem sp_ints0 {K : PySem.W.Frag} {o : O2} {g : Int → Int → V} (h : ∀ d1 d2 d k, op2 o d1 d2 = some (d, k) → ∃ i j, d1 = .int i ∧ d2 = .int j ∧ k = true ∧ ((∃ z, d = .int z ∧ g i j = .int z) ∨ ∃ b, d = .bl b ∧ g i j = .bl b)) : Sp2 K o (rI0 g) := by
  intro ρ H Sx d1 d2 d k v1 v2 Q h1 h2 e w
  obtain ⟨i, j, rfl, rfl, rfl, z⟩ := h _ _ _ _ e
  obtain rfl := h1.int
  obtain rfl := h2.int
  rcases z with ⟨z, rfl, ez⟩ | ⟨z, rfl, ez⟩
  · exact ⟨i, j, rfl, rfl, by rw [ez]; exact q_int w rfl⟩
  · exact ⟨i, j, rfl, rfl, by rw [ez]; exact q_bl w rfl⟩
theorem some_pair {d d' : D} {k k' : Bool} (e : some (d', k') = some (d, k)) : d = d' ∧ k = k' := by
  injection e with e
  injection e with e1 e2
  exact ⟨e1.symm, e2.symm⟩
theorem sp_sub : Sp2 X.K .sub (rI0 fun i j => .int (i - j)) := sp_ints0 fun d1 d2 d k e => by
  cases d1 <;> cases d2 <;> first | (exact nomatch (show (none : Option (D × Bool)) = some (d, k) from e)) | (obtain ⟨rfl, rfl⟩ := some_pair e; exact ⟨_, _, rfl, rfl, rfl, .inl ⟨_, rfl, rfl⟩⟩)
theorem sp_lt : Sp2 X.K .lt (rI0 fun i j => .bl (decide (i < j))) := sp_ints0 fun d1 d2 d k e => by
  cases d1 <;> cases d2 <;> first | (exact nomatch (show (none : Option (D × Bool)) = some (d, k) from e)) | (obtain ⟨rfl, rfl⟩ := some_pair e; exact ⟨_, _, rfl, rfl, rfl, .inr ⟨_, rfl, rfl⟩⟩)
theorem sp_le : Sp2 X.K .le (rI0 fun i j => .bl (decide (i ≤ j))) := sp_ints0 fun d1 d2 d k e => by
  cases d1 <;> cases d2 <;> first | (exact nomatch (show (none : Option (D × Bool)) = some (d, k) from e)) | (obtain ⟨rfl, rfl⟩ := some_pair e; exact ⟨_, _, rfl, rfl, rfl, .inr ⟨_, rfl, rfl⟩⟩)
theorem sp_gt : Sp2 X.K .gt (rI0 fun i j => .bl (decide (j < i))) := sp_ints0 fun d1 d2 d k e => by
  cases d1 <;> cases d2 <;> first | (exact nomatch (show (none : Option (D × Bool)) = some (d, k) from e)) | (obtain ⟨rfl, rfl⟩ := some_pair e; exact ⟨_, _, rfl, rfl, rfl, .inr ⟨_, rfl, rfl⟩⟩)
theorem sp_ge : Sp2 X.K .ge (rI0 fun i j => .bl (decide (j ≤ i))) := sp_ints0 fun d1 d2 d k e => by
  cases d1 <;> cases d2 <;> first | (exact nomatch (show (none : Option (D × Bool)) = some (d, k) from e)) | (obtain ⟨rfl, rfl⟩ := some_pair e; exact ⟨_, _, rfl, rfl, rfl, .inr ⟨_, rfl, rfl⟩⟩)
theorem sp_band : Sp2 X.K .band (rI0 fun i j => .int (Builtin.bitAnd i j)) := sp_ints0 fun d1 d2 d k e => by
  cases d1 <;> cases d2 <;> first | (exact nomatch (show (none : Option (D × Bool)) = some (d, k) from e)) | (obtain ⟨rfl, rfl⟩ := some_pair e; exact ⟨_, _, rfl, rfl, rfl, .inl ⟨_, rfl, rfl⟩⟩)
theorem sp_bor : Sp2 X.K .bor (rI0 fun i j => .int (Builtin.bitOr i j)) := sp_ints0 fun d1 d2 d k e => by
  cases d1 <;> cases d2 <;> first | (exact nomatch (show (none : Option (D × Bool)) = some (d, k) from e)) | (obtain ⟨rfl, rfl⟩ := some_pair e; exact ⟨_, _, rfl, rfl, rfl, .inl ⟨_, rfl, rfl⟩⟩)
theorem sp_bxor : Sp2 X.K .bxor (rI0 fun i j => .int (Builtin.bitXor i j)) := sp_ints0 fun d1 d2 d k e => by
  cases d1 <;> cases d2 <;> first | (exact nomatch (show (none : Option (D × Bool)) = some (d, k) from e)) | (obtain ⟨rfl, rfl⟩ := some_pair e; exact ⟨_, _, rfl, rfl, rfl, .inl ⟨_, rfl, rfl⟩⟩)
theorem sp_fdiv : ∃ r, OpR X (binaryOp .FloorDiv) r ∧ Sp2 X.K .fdiv r := by
  refine ⟨_, OpR.or op_fdivN op_fdivW, ?_⟩
  intro ρ H Sx d1 d2 d k v1 v2 Q h1 h2 e w
  cases d1 <;> cases d2 <;> first | (exact nomatch (show (none : Option (D × Bool)) = some (d, k) from e)) | skip
  rename_i i j
  obtain rfl := h1.int
  obtain rfl := h2.int
  simp only [op2] at e
  split at e
  · rename_i c
    obtain ⟨rfl, rfl⟩ := some_pair e
    refine .inl ⟨i, j, rfl, rfl, ⟨by omega, by omega⟩, ?_⟩
    show Q (V.int (i.fdiv j)) H
    rw [Int.fdiv_eq_ediv_of_nonneg _ (by omega)]
    exact q_int w rfl
  · split at e
    · rename_i c
      obtain ⟨rfl, rfl⟩ := some_pair e
      exact .inl ⟨i, j, rfl, rfl, ⟨by omega, by omega⟩, q_int w rfl⟩
    · split at e
      · rename_i c
        obtain ⟨rfl, rfl⟩ := some_pair e
        exact .inr ⟨i, j, rfl, rfl, c, q_int w rfl⟩
      · cases e
theorem sp_mod : Sp2 X.K .mod (rI (fun _ j => j ≠ 0) fun i j => .int (i.fmod j)) := sp_ints fun d1 d2 d k e => by
  cases d1 <;> cases d2 <;> first | (exact nomatch (show (none : Option (D × Bool)) = some (d, k) from e)) | skip
  simp only [op2] at e
  split at e
  · obtain ⟨rfl, rfl⟩ := some_pair e
    exact ⟨_, _, rfl, rfl, by omega, rfl, .inl ⟨_, rfl, by rw [Int.fmod_eq_emod_of_nonneg _ (by omega)]⟩⟩
  · split at e
    · obtain ⟨rfl, rfl⟩ := some_pair e
      exact ⟨_, _, rfl, rfl, by omega, rfl, .inl ⟨_, rfl, rfl⟩⟩
    · cases e
theorem sp_pow : Sp2 X.K .pow (rI CPow fun i j => .int (i ^ j.toNat)) := sp_ints fun d1 d2 d k e => by
  cases d1 <;> cases d2 <;> first | (exact nomatch (show (none : Option (D × Bool)) = some (d, k) from e)) | skip
  simp only [op2] at e
  split at e
  · obtain ⟨rfl, rfl⟩ := some_pair e
    exact ⟨_, _, rfl, rfl, by assumption, rfl, .inl ⟨_, rfl, rfl⟩⟩
  · cases e
theorem sp_shl : Sp2 X.K .shl (rI CPow fun i j => .int (i * 2 ^ j.toNat)) := sp_ints fun d1 d2 d k e => by
  cases d1 <;> cases d2 <;> first | (exact nomatch (show (none : Option (D × Bool)) = some (d, k) from e)) | skip
  simp only [op2] at e
  split at e
  · obtain ⟨rfl, rfl⟩ := some_pair e
    exact ⟨_, _, rfl, rfl, by assumption, rfl, .inl ⟨_, rfl, rfl⟩⟩
  · cases e
theorem sp_shr : Sp2 X.K .shr (rI (fun _ j => 0 ≤ j) fun i j => .int (i / 2 ^ j.toNat)) := sp_ints fun d1 d2 d k e => by
  cases d1 <;> cases d2 <;> first | (exact nomatch (show (none : Option (D × Bool)) = some (d, k) from e)) | skip
  simp only [op2] at e
  split at e
  · obtain ⟨rfl, rfl⟩ := some_pair e
    exact ⟨_, _, rfl, rfl, by assumption, rfl, .inl ⟨_, rfl, rfl⟩⟩
  · cases e

/-- a list, whoever may change it, times an int -/
theorem rmulW (a : Int) (t : Tok) (l : Addr) (its : Array Value) (n : Nat) (dd : Option Addr) (sl : Array (Option Value)) :
    Meets (Builtin.«int.__rmul__» ⟨[.int a t, .ref l], []⟩) (fun _ R s => s.heap.get? l = some ⟨.type "list", dd, .seq its n, sl⟩ ∧ R (.ok (.ret Value.notImplemented)) s) :=
  .of_wp fun prog w A R s h => by
    obtain ⟨hp, g, d, tk, os⟩ := s
    obtain ⟨hl, h⟩ := h
    wp_walk
    exact ⟨_, rfl, h⟩
theorem mulW (l : Addr) (its : Array Value) (n : Nat) (k : Int) (u : Tok) (dd : Option Addr) (sl : Array (Option Value)) (c0 : ¬(!Builtin.List.listFitsIndex k) = true) (c1 : ¬its.size * k.toNat > (2 ^ 63 - 1) / 8) (c2 : ¬Builtin.List.listTooLong (its.size * k.toNat) = true) :
    Meets (Builtin.«list.__mul__» ⟨[.ref l, .int k u], []⟩) (fun _ R s => s.heap.get? l = some ⟨.type "list", dd, .seq its n, sl⟩ ∧ R (.ok (.ret (Value.ref s.heap.objs.size))) { s with heap := s.heap.push { cls := .type "list", data := .seq (List.foldl (fun x y => x ++ y) #[] (List.replicate (if its.isEmpty = true then 0 else k.toNat) its)) } }) :=
  .of_wp fun prog w A R s h => by
    obtain ⟨hp, g, d, tk, os⟩ := s
    obtain ⟨hl, h⟩ := h
    have fits := AutoListH.joined_fits c2
    wp_walk
    refine wpAny_ite_false (decide_eq_false (Nat.not_lt.mpr fits)) ?_
    wp_walk
    exact ⟨_, rfl, h⟩
def rRepS (K : PySem.W.Frag) : R2 := fun x y H Q => ∃ l k xs, x = .ref l ∧ y = .int k ∧ SqL K H l xs ∧ -1000000 < k ∧ k < 1000000 ∧ xs.length * k.toNat ≤ sizeLine ∧ ∀ p, H p = none → Q (.ref p) (upd H p (.lst (List.replicate k.toNat xs).flatten))
theorem op_repS : OpR X (binaryOp .Mult) (rRepS X.K) := by
  intro pins s σ H x y v u Q I rx ry h
  obtain ⟨l, k, xs, rfl, rfl, hH, h1, h2, hz, fin⟩ := h
  cases rx
  obtain ⟨t, rfl⟩ := ry
  obtain ⟨its, r, pl, _⟩ := I.list hH
  obtain ⟨⟨c, dd, da, sl⟩, ho, hc, n, hd⟩ := pl.isList
  simp only at hc hd
  subst hc hd
  have el := r.length
  have len : its.toArray.size * k.toNat ≤ sizeLine := by rw [List.size_toArray, ← el]; exact hz
  have c1 : ¬ its.toArray.size * k.toNat > (2 ^ 63 - 1) / 8 := by
    have z : (sizeLine : Nat) ≤ (2 ^ 63 - 1) / 8 := by decide
    exact fun q => absurd (Nat.le_trans len z) (Nat.not_le.mpr q)
  have c0 : ¬ (!Builtin.List.listFitsIndex k) = true := by rw [fitsIndex_both (by omega) (by omega)]; exact Bool.false_ne_true
  have c2 : ¬ Builtin.List.listTooLong (its.toArray.size * k.toNat) = true := by rw [notLongL len]; exact Bool.false_ne_true
  have same : List.foldl (fun x y => x ++ y) #[] (List.replicate (if its.toArray.isEmpty = true then 0 else k.toNat) its.toArray) = (List.replicate k.toNat its).flatten.toArray := by
    have f0 : ∀ m : Nat, List.foldl (fun x y => x ++ y) #[] (List.replicate m its.toArray) = (List.replicate m its).flatten.toArray := fun m => by
      have q := foldl_rep its m []
      rwa [List.nil_append] at q
    rw [f0]
    cases its with
    | nil => simp
    | cons a r' => simp
  refine wpAny_binaryOp_repeat_ref (T := "list") (U := "int") (by decide) ⟨_, ho, rfl⟩ (fun s' => typeIs_int s' k t) noFill_list_mul PySem.F.fills_int_mul PySem.F.slot_int_rmul repeat_list PySem.F.slot_int_index.lookup
    (call_meets PySem.F.slot_int_rmul (typeIs_int s k t) PySem.F.entry_int_rmul (PySem.F.args_int_rmul_2 _ _) (rmulW k t l its.toArray n dd sl) ⟨ho, rfl, ⟨_, ho, rfl⟩, call_meets PySem.F.slot_list_mul ⟨_, ho, rfl⟩ PySem.F.entry_list_mul (PySem.F.args_list_mul_2 _ _) (mulW l its.toArray n k t dd sl c0 c1 c2) ⟨ho, ?_⟩⟩)
  rw [same]
  exact ⟨.ref _, _, I.lnew (t' := s.toks) (r.rep k.toNat) (by rw [PyProof.Rows.lm_len_rep_flat, Nat.mul_comm]; exact hz), rfl, fin _ I.fresh⟩
theorem Ins.rep {K : PySem.W.Frag} {ρ : List Addr} {H : Hp} {Sx : Addr → Prop} {ds : List D} {vs : List V} (h : Ins K ρ H Sx ds vs) : ∀ k : Nat, Ins K ρ H Sx (List.replicate k ds).flatten (List.replicate k vs).flatten
  | 0 => .nil
  | k + 1 => by
    rw [List.replicate_succ, List.replicate_succ, List.flatten_cons, List.flatten_cons]
    exact h.append (Ins.rep h k)
theorem cfs_app' : ∀ xs ys : List D, cfs (xs ++ ys) = (cfs xs && cfs ys)
  | [], _ => by simp [cfs]
  | x :: xs, ys => by simp [cfs, cfs_app' xs ys, Bool.and_assoc]
theorem cfs_rep {ds : List D} : ∀ k : Nat, cfs ds = true → cfs (List.replicate k ds).flatten = true
  | 0, _ => rfl
  | k + 1, h => by rw [List.replicate_succ, List.flatten_cons, cfs_app', h, cfs_rep k h]; rfl
theorem sp_mul : ∃ r, OpR X (binaryOp .Mult) r ∧ Sp2 X.K .mul r := by
  refine ⟨_, OpR.or op_mul op_repS, ?_⟩
  intro ρ H Sx d1 d2 d k v1 v2 Q h1 h2 e w
  cases d1 <;> cases d2 <;> first | (exact nomatch (show (none : Option (D × Bool)) = some (d, k) from e)) | skip
  · simp only [op2] at e
    split at e
    · rename_i c
      obtain ⟨rfl, rfl⟩ := some_pair e
      obtain rfl := h1.int
      obtain rfl := h2.int
      refine .inl ⟨_, _, rfl, rfl, ?_, q_int w rfl⟩
      unfold CMul
      unfold lim at c
      omega
    · cases e
  · obtain ⟨a, vs, rfl, s1, i1⟩ := h1.lst
    obtain rfl := h2.int
    simp only [op2] at e
    split at e
    · rename_i c
      obtain ⟨rfl, rfl⟩ := some_pair e
      refine .inr ⟨a, _, vs, rfl, rfl, s1, c.2.1, c.1, by rw [← i1.length]; exact c.2.2.1, fun p hp => w _ _ (Same.put hp) ?_⟩
      rename_i xs j
      have q := Res.lst (H := H) (i1.rep j.toNat) hp
      rw [cfs_rep j.toNat c.2.2.2] at q
      exact q
    · cases e

mutual
theorem Rd.dp {K : PySem.W.Frag} {ρ : List Addr} {H : Hp} {o} : ∀ {d v F}, Rd K ρ H o d v F → plain d = true → (toP d).canLay0 = true → Dp K H v (toP d)
  | _, _, _, .non, _, _ => .non
  | _, _, _, .bl, _, _ => .bl _
  | _, _, _, .int, _, _ => .int _
  | _, _, _, .str, _, _ => .str _
  | _, _, _, .obj _, p, _ => by simp [plain] at p
  | _, _, _, .tup h t, p, c => .tup (SqT.of h) (Rds.dp t (by simpa [plain] using p) (by simpa [toP, PyData.canLay0] using c))
  | _, _, _, .lst h t, p, c => .lst (SqL.of h) (Rds.dp t (by simpa [plain] using p) (by simpa [toP, PyData.canLay0] using c))
  | _, _, _, .lstR h t, p, c => .lst h.l (Rds.dp t (by simpa [plain] using p) (by simpa [toP, PyData.canLay0] using c))
  | _, _, _, .dct _ _ _ _, _, c => by simp [toP, PyData.canLay0] at c
  | _, _, _, .dctT _ _ _ _, _, c => by simp [toP, PyData.canLay0] at c
theorem Rds.dp {K : PySem.W.Frag} {ρ : List Addr} {H : Hp} {o} : ∀ {ds vs F}, Rds K ρ H o ds vs F → plains ds = true → PyData.canLayAll0 (toPs ds) = true → DpAll K H vs (toPs ds)
  | _, _, _, .nil, _, _ => .nil
  | _, _, _, .cons h t, p, c => by
    have p' := Bool.and_eq_true_iff.mp (show (plain _ && plains _) = true by simpa [plains] using p)
    have c' := Bool.and_eq_true_iff.mp (show ((toP _).canLay0 && PyData.canLayAll0 (toPs _)) = true by simpa [toPs, PyData.canLayAll0] using c)
    exact .cons (Rd.dp h p'.1 c'.1) (Rds.dp t p'.2 c'.2)
end
theorem flatOk_split {d : D} (h : flatOk d = true) : plain d = true ∧ SeqAt.shaped (toP d) = true := Bool.and_eq_true_iff.mp h
theorem In.dp {K : PySem.W.Frag} {ρ : List Addr} {H : Hp} {Sx : Addr → Prop} {d v} (h : In K ρ H Sx d v) (f : flatOk d = true) : Dp K H v (toP d) := by
  obtain ⟨F, h, _⟩ := h
  obtain ⟨p, s⟩ := flatOk_split f
  exact h.dp p (SeqAt.canLay_of_shaped s)
theorem sp_eq : Sp2 X.K .eq (rEqD X.K) := by
  intro ρ H Sx d1 d2 d k v1 v2 Q h1 h2 e w
  have e' : (if flatOk d1 = true ∧ flatOk d2 = true then some (D.bl (PyData.eqv (toP d1) (toP d2)), true) else none) = some (d, k) := by
    cases d1 <;> cases d2 <;> exact e
  split at e'
  · rename_i f
    obtain ⟨rfl, rfl⟩ := some_pair e'
    exact ⟨_, _, h1.dp f.1, h2.dp f.2, (flatOk_split f.1).2, (flatOk_split f.2).2, q_bl w rfl⟩
  · cases e'
theorem sp_ne : Sp2 X.K .ne (rNeD X.K) := by
  intro ρ H Sx d1 d2 d k v1 v2 Q h1 h2 e w
  have e' : (if flatOk d1 = true ∧ flatOk d2 = true then some (D.bl (!PyData.eqv (toP d1) (toP d2)), true) else none) = some (d, k) := by
    cases d1 <;> cases d2 <;> exact e
  split at e'
  · rename_i f
    obtain ⟨rfl, rfl⟩ := some_pair e'
    exact ⟨_, _, h1.dp f.1, h2.dp f.2, (flatOk_split f.1).2, (flatOk_split f.2).2, q_bl w rfl⟩
  · cases e'
/-- in a list -/
theorem sp_inL {ρ : List Addr} {H : Hp} {Sx : Addr → Prop} {x d : D} {xs : List D} {k : Bool} {v1 v2 : V} {Q : VK} (h1 : In X.K ρ H Sx x v1) (h2 : In X.K ρ H Sx (.lst xs) v2) (e : op2 .inn x (.lst xs) = some (d, k))
    (w : ∀ v H', Same H H' → Res X.K ρ H H' Sx d k v → Q v H') : rInD X.K v1 v2 H Q := by
  have e' : (if flatOk x = true ∧ flatOk (.lst xs) = true then some (D.bl (xs.any fun y => PyData.eqv (toP y) (toP x)), true) else none) = some (d, k) := by cases x <;> exact e
  split at e'
  · rename_i f
    obtain ⟨rfl, rfl⟩ := some_pair e'
    refine ⟨toP x, toPs xs, h1.dp f.1, h2.dp f.2, (flatOk_split f.1).2, (flatOk_split f.2).2, ?_⟩
    have : ((toPs xs).any fun z => PyData.eqv z (toP x)) = xs.any fun y => PyData.eqv (toP y) (toP x) := by
      clear h2 e e' f w
      induction xs with
      | nil => rfl
      | cons y r ih => simp [toPs, ih]
    rw [this]
    exact q_bl w rfl
  · cases e'
theorem sp_notinL {ρ : List Addr} {H : Hp} {Sx : Addr → Prop} {x d : D} {xs : List D} {k : Bool} {v1 v2 : V} {Q : VK} (h1 : In X.K ρ H Sx x v1) (h2 : In X.K ρ H Sx (.lst xs) v2) (e : op2 .notin x (.lst xs) = some (d, k))
    (w : ∀ v H', Same H H' → Res X.K ρ H H' Sx d k v → Q v H') : rNotInD X.K v1 v2 H Q := by
  have e' : (if flatOk x = true ∧ flatOk (.lst xs) = true then some (D.bl (!xs.any fun y => PyData.eqv (toP y) (toP x)), true) else none) = some (d, k) := by cases x <;> exact e
  split at e'
  · rename_i f
    obtain ⟨rfl, rfl⟩ := some_pair e'
    refine ⟨toP x, toPs xs, h1.dp f.1, h2.dp f.2, (flatOk_split f.1).2, (flatOk_split f.2).2, ?_⟩
    have : ((toPs xs).any fun z => PyData.eqv z (toP x)) = xs.any fun y => PyData.eqv (toP y) (toP x) := by
      clear h2 e e' f w
      induction xs with
      | nil => rfl
      | cons y r ih => simp [toPs, ih]
    rw [this]
    exact q_bl w rfl
  · cases e'

/-- a key's value -/
theorem In.key {K : PySem.W.Frag} {ρ : List Addr} {H : Hp} {Sx : Addr → Prop} {d v c} (h : In K ρ H Sx d v) (e : keyOf d = some c) : v = kV c := by
  cases d <;> simp [keyOf] at e
  · subst e; rw [h.int]; rfl
  · subst e; rw [h.str]; rfl
theorem Ins.keys {K : PySem.W.Frag} {ρ : List Addr} {H : Hp} {Sx : Addr → Prop} : ∀ {ds vs c}, Ins K ρ H Sx ds vs → keysOf ds = some c → vs = c.map kV
  | _, _, _, .nil, e => by simp [keysOf] at e; subst e; rfl
  | d :: ds, _, c, .cons h t, e => by
    simp only [keysOf] at e
    cases e1 : keyOf d with
    | none => rw [e1] at e; simp at e
    | some k1 =>
      cases e2 : keysOf ds with
      | none => rw [e1, e2] at e; simp at e
      | some k2 =>
        rw [e1, e2] at e
        simp at e
        subst e
        rw [h.key e1, Ins.keys t e2]
        rfl
/-- a dict asked: its answer's way -/
theorem In.get {K : PySem.W.Frag} {ρ : List Addr} {H : Hp} {Sx Sy : Addr → Prop} {ps v x vx c} (h : In K ρ H Sx (.dct ps) v) (hx : In K ρ H Sy x vx) (e : keyOf x = some c) :
    ∃ a, v = .ref a ∧ ((valD ps c = none ∧ DGet H a vx none) ∨ ∃ d u, valD ps c = some d ∧ DGet H a vx (some u) ∧ In K ρ H Sx d u) := by
  obtain ⟨a, kvs, rfl, ha, i⟩ := h.dct
  refine ⟨a, rfl, ?_⟩
  rw [hx.key e]
  rcases i.val c with ⟨e1, e2⟩ | ⟨d, u, e1, e2, r⟩
  · exact .inl ⟨e1, by rw [← e2]; exact DGet.k ha⟩
  · exact .inr ⟨d, u, e1, by rw [← e2]; exact DGet.k ha, r⟩

theorem In.getT {K : PySem.W.Frag} {ρ : List Addr} {H : Hp} {Sx Sy : Addr → Prop} {ps v xs vx c} (h : In K ρ H Sx (.dctT ps) v) (hx : In K ρ H Sy (.tup xs) vx) (e : keysOf xs = some c) :
    ∃ a, v = .ref a ∧ ((valD ps c = none ∧ DGet H a vx none) ∨ ∃ d u, valD ps c = some d ∧ DGet H a vx (some u) ∧ In K ρ H Sx d u) := by
  obtain ⟨a, kvs, rfl, ha, i⟩ := h.dctT
  obtain ⟨b, vs, rfl, hb, j⟩ := hx.tup
  obtain rfl := j.keys e
  refine ⟨a, rfl, ?_⟩
  rcases i.val c with ⟨e1, e2⟩ | ⟨d, u, e1, e2, r⟩
  · exact .inl ⟨e1, by rw [← e2]; exact DGet.t ha hb⟩
  · exact .inr ⟨d, u, e1, by rw [← e2]; exact DGet.t ha hb, r⟩

/-! ### repr -/
mutual
theorem Rd.reads {ρ : List Addr} {pins : List (Addr × Obj)} {σ : L2.St} {H : Hp} {s : Shared} (I : Inv X pins σ H s) {o} : ∀ {d v F u}, Rd X.K ρ H o d v F → plain d = true → (toP d).hasDict = false → RelV v u → ∃ as, Reads s.heap u (toP d) as ∧ (cf d = true → as = [])
  | _, _, _, _, .non, _, _, r => by cases r; exact ⟨_, .none, fun _ => rfl⟩
  | _, _, _, _, .bl, _, _, r => by cases r; exact ⟨_, .bool _, fun _ => rfl⟩
  | _, _, _, _, .int, _, _, r => by obtain ⟨t, rfl⟩ := r; exact ⟨_, .int _ t, fun _ => rfl⟩
  | _, _, _, _, .str, _, _, r => by obtain ⟨t, rfl⟩ := r; exact ⟨_, .str _ t, fun _ => rfl⟩
  | _, _, _, _, .obj _, p, _, _ => by simp [plain] at p
  | _, _, _, _, .tup h t, p, c, r => by
    cases r
    obtain ⟨its, rv, ⟨ob, ho, hc, n, hd⟩, _⟩ := I.tuple (SqT.of h)
    obtain ⟨as, hr, ha⟩ := Rds.reads I t (by simpa [plain] using p) (by simpa [toP, PyData.hasDict] using c) rv
    exact ⟨_, .tuple ho hc hd hr, fun z => ha (by simpa [cf] using z)⟩
  | _, _, _, _, .lst h t, p, c, r => by
    cases r
    obtain ⟨its, rv, ⟨ob, n, ho, hc, _, hd⟩, _⟩ := I.list (SqL.of h)
    obtain ⟨as, hr, ha⟩ := Rds.reads I t (by simpa [plain] using p) (by simpa [toP, PyData.hasDict] using c) rv
    exact ⟨_, .list ho hc hd hr, fun z => by simp [cf] at z⟩
  | _, _, _, _, .lstR h t, p, c, r => by
    cases r
    obtain ⟨its, rv, ⟨ob, n, ho, hc, _, hd⟩, _⟩ := I.list h.l
    obtain ⟨as, hr, ha⟩ := Rds.reads I t (by simpa [plain] using p) (by simpa [toP, PyData.hasDict] using c) rv
    exact ⟨_, .list ho hc hd hr, fun z => by simp [cf] at z⟩
  | _, _, _, _, .dct _ _ _ _, _, c, _ => by simp [toP, PyData.hasDict] at c
  | _, _, _, _, .dctT _ _ _ _, _, c, _ => by simp [toP, PyData.hasDict] at c
theorem Rds.reads {ρ : List Addr} {pins : List (Addr × Obj)} {σ : L2.St} {H : Hp} {s : Shared} (I : Inv X pins σ H s) {o} : ∀ {ds vs F us}, Rds X.K ρ H o ds vs F → plains ds = true → PyData.hasDictAll (toPs ds) = false → Vals vs us → ∃ as, ReadsAll s.heap us (toPs ds) as ∧ (cfs ds = true → as = [])
  | _, _, _, _, .nil, _, _, r => by cases r; exact ⟨_, .nil, fun _ => rfl⟩
  | _, _, _, _, .cons h t, p, c, r => by
    have p' := Bool.and_eq_true_iff.mp (show (plain _ && plains _) = true by simpa [plains] using p)
    have c' := Bool.or_eq_false_iff.mp (show ((toP _).hasDict || PyData.hasDictAll (toPs _)) = false by simpa [toPs, PyData.hasDictAll] using c)
    cases r with
    | cons r1 r2 =>
      obtain ⟨as, q1, a1⟩ := Rd.reads I h p'.1 c'.1 r1
      obtain ⟨bs, q2, a2⟩ := Rds.reads I t p'.2 c'.2 r2
      exact ⟨_, .cons q1 q2, fun z => by
        have z' := Bool.and_eq_true_iff.mp (show (cf _ && cfs _) = true by simpa [cfs] using z)
        rw [a1 z'.1, a2 z'.2]
        rfl⟩
end
theorem plainK_map : ∀ ps : List (L2.Key × D), plainK ps = plains (ps.map (·.2))
  | [] => rfl
  | (_, x) :: r => by simp [plainK, plains, plainK_map r]
theorem toPk_keys : ∀ ps : List (L2.Key × D), (toPk ps).map (·.1) = ps.map fun p => keyP p.1
  | [] => rfl
  | (_, x) :: r => by simp [toPk, toPk_keys r]
theorem toPk_vals : ∀ ps : List (L2.Key × D), (toPk ps).map (·.2) = toPs (ps.map (·.2))
  | [] => rfl
  | (_, x) :: r => by simp [toPk, toPs, toPk_vals r]
theorem keys_read {h : Heap} {P : Program} {w : World} : ∀ {es : List DictEntry} {kvs : List (L2.Key × Value)}, Pairs (mixKind P w) es kvs → ReadsAll h (es.map (·.key)) (kvs.map fun p => keyP p.1) []
  | _, _, .nil => .nil
  | _, _, .cons (e := e) (kv := kv) h1 h2 h3 => by
    have r := keys_read (h := h) h3
    have one : Reads h e.key (keyP kv.1) [] := by
      rcases keyIs_shape (show keyIs kv.1 e.key = true from h1) with ⟨i, t, e1, e2⟩ | ⟨x, t, e1, e2⟩
      · rw [e1, e2]; exact .int i t
      · rw [e1, e2]; exact .str x t
    exact ReadsAll.cons (as := []) (bs := []) one r
theorem vals_pair {P : Program} {w : World} : ∀ {es : List DictEntry} {kvs : List (L2.Key × Value)} {vs : List V}, Pairs (mixKind P w) es kvs → Vals vs (kvs.map (·.2)) → Vals vs (es.map (·.val))
  | _, _, _, .nil, r => r
  | _, _, _, .cons h1 h2 h3, r => by
    cases r with
    | cons r1 r2 => exact .cons (by dsimp only; rw [h2]; exact r1) (vals_pair h3 r2)
theorem kv_vals : ∀ {kvs : List (L2.Key × V)} {vs : List (L2.Key × Value)}, KV kvs vs → Vals (kvs.map (·.2)) (vs.map (·.2)) ∧ kvs.map (·.1) = vs.map (·.1)
  | _, _, .nil => ⟨.nil, rfl⟩
  | _, _, .cons h t => ⟨.cons h.2 (kv_vals t).1, by simp [h.1, (kv_vals t).2]⟩
/-- what repr is asked -/
def rRepr (K : PySem.W.Frag) : List V → Hp → VK → Prop := fun xs H Q => ∃ (ρ : List Addr) (d : D) (v : V) (Sx : Addr → Prop), xs = [v] ∧ In K ρ H Sx d v ∧ showOk d = true ∧ (toP d).showable = true ∧ (toP d).depth ≤ 60 ∧ (toP d).shown.length ≤ sizeLine ∧ Q (.str (toP d).shown) H
theorem call_reprD (hg : X.A.guards = some []) (hu : X.A.units + 64 < cLine) : CallR X (.builtin "repr") (rRepr X.K) := by
  intro pins s σ H xs us Q I r h
  obtain ⟨ρ, d, v, Sx, rfl, ⟨F, rd, _⟩, ok, sh, dp, sz, q⟩ := h
  obtain ⟨u, rfl, rx⟩ := vals1 r
  have fin : ∀ h' u tk, (∀ b o, s.heap.get? b = some o → h'.get? b = some o) → EP X pins σ Q (.str (toP d).shown u) { s with heap := h', toks := tk } := fun h' u tk k => ⟨.str (toP d).shown, H, I.kept (t' := tk) k, ⟨_, rfl⟩, q⟩
  have refs : ∀ (a : Addr), v = .ref a → (∃ as, Reads s.heap (.ref a) (toP d) as ∧ ((toP d).hasDict = true → sysModules ∉ as)) → wpAny (model X.prog X.w) X.A (call (.builtin "repr") [u]) (EP X pins σ Q) X.xe s := by
    intro a e ⟨as, hr, hs⟩
    subst e
    cases rx
    exact repr_of_reads' hr sh hs hg (by omega) (fun _ _ e => e) (fun h' u tk k => fin h' u tk k) sz
  cases rd with
  | non => cases rx; exact PySem.P.repr_of_none ⟨.str _, H, I.tok _, ⟨_, rfl⟩, q⟩
  | bl =>
    cases rx
    refine PySem.P.repr_of_bool ⟨.str _, H, I.tok _, ⟨_, rfl⟩, ?_⟩
    exact q
  | int => obtain ⟨t, rfl⟩ := rx; exact PySem.P.repr_of_int (by simpa [toP, PyData.showable] using sh) ⟨.str _, H, I.tok _, ⟨_, rfl⟩, q⟩
  | str => obtain ⟨t, rfl⟩ := rx; exact PySem.P.repr_of_str ⟨.str _, H, I.tok _, ⟨_, rfl⟩, q⟩ (by simpa [toP, PyData.shown] using sz)
  | obj h => simp [showOk, plain] at ok
  | @tup _ a0 vs0 ds0 F0 h t =>
    have ok' := Bool.and_eq_true_iff.mp ok
    have nd : (toP (.tup ds0)).hasDict = false := by simpa using ok'.2
    obtain ⟨as, hr, _⟩ := Rd.reads I (Rd.tup h t) ok'.1 nd rx
    cases rx
    exact refs _ rfl ⟨as, hr, fun z => by rw [nd] at z; cases z⟩
  | @lst _ a0 vs0 ds0 F0 h t =>
    have ok' := Bool.and_eq_true_iff.mp ok
    have nd : (toP (.lst ds0)).hasDict = false := by simpa using ok'.2
    obtain ⟨as, hr, _⟩ := Rd.reads I (Rd.lst h t) ok'.1 nd rx
    cases rx
    exact refs _ rfl ⟨as, hr, fun z => by rw [nd] at z; cases z⟩
  | @lstR a0 vs0 ds0 F0 h t =>
    have ok' := Bool.and_eq_true_iff.mp ok
    have nd : (toP (.lst ds0)).hasDict = false := by simpa using ok'.2
    obtain ⟨as, hr, _⟩ := Rd.reads I (Rd.lstR h t) ok'.1 nd rx
    cases rx
    exact refs _ rfl ⟨as, hr, fun z => by rw [nd] at z; cases z⟩
  | @dct _ a kvs ps F h e n t =>
    have ok1 := Bool.and_eq_true_iff.mp ok
    have ok2 := Bool.and_eq_true_iff.mp ok1.1
    obtain ⟨_, hsys, vs, kv, ob, es, ep, ho, hx, hd, _, prs, _⟩ := (show ObjOk X.prog X.w H s.heap a (.dK kvs) from I.hok a _ h)
    have kvv := kv_vals kv
    have vr := vals_pair prs kvv.1
    obtain ⟨as, hr, ha⟩ := Rds.reads I t (by rw [← plainK_map]; exact ok2.1) (by simpa using ok2.2) vr
    have hk := keys_read (h := s.heap) prs
    have e1 : (vs.map fun p => keyP p.1) = (toPk ps).map (·.1) := by
      rw [toPk_keys]
      have : vs.map (·.1) = ps.map (·.1) := by rw [← kvv.2, e]
      have := congrArg (List.map keyP) this
      simpa only [List.map_map, Function.comp_def] using this
    rw [e1] at hk
    rw [← toPk_vals] at hr
    have rdd : Reads s.heap (.ref a) (toP (.dct ps)) (a :: [] ++ as) := Reads.dict ho hx.1 hd hk hr
    cases rx
    refine refs a rfl ⟨_, rdd, fun _ => ?_⟩
    rw [ha ok1.2]
    intro z
    have : sysModules = a := by simpa using z
    subst this
    simp at hsys
  | dctT h e n t => simp [showOk, toP, PyData.hasDict] at ok
end
end VS

-- VS.Ops2
/-! More operations by values. -/
namespace VS
open PySem PySem.Spec PyProof.Rows L2
section
variable {X : Cx}
theorem atI_ins {ρ : List Addr} {K : PySem.W.Frag} {H : Hp} {Sx : Addr → Prop} {ds : List D} {vs : List V} (h : Ins K ρ H Sx ds vs) {i : Int} {d : D} (e : ((L2.ixN ds.length i).bind fun j => ds[j]?) = some d) : ∃ v, atI vs i = some v ∧ In K ρ H Sx d v := by
  unfold atI
  rw [← h.length]
  cases ej : L2.ixN ds.length i with
  | none => rw [ej] at e; cases e
  | some j =>
    rw [ej] at e
    obtain ⟨v, h1, h2⟩ := h.get (i := j) e
    exact ⟨v, h1, h2⟩
/-- a place in a list, a tuple, a text -/
theorem sp_idx {ρ : List Addr} {H : Hp} {Sx : Addr → Prop} {d1 d2 d : D} {k : Bool} {v1 v2 : V} {Q : VK} (h1 : In X.K ρ H Sx d1 v1) (h2 : In X.K ρ H Sx d2 v2) (e : op2 .idx d1 d2 = some (d, k)) (nd : ∀ ps, d1 ≠ .dct ps) (ndT : ∀ ps, d1 ≠ .dctT ps)
    (w : ∀ v H', Same H H' → Res X.K ρ H H' Sx d k v → Q v H') : rIx X.K v1 v2 H Q := by
  cases d1 with
  | lst xs =>
    cases d2 <;> try (exact nomatch (show (none : Option (D × Bool)) = some (d, k) from e))
    rename_i i
    obtain rfl := h2.int
    obtain ⟨a, vs, rfl, s1, i1⟩ := h1.lst
    simp only [op2] at e
    cases ed : ((L2.ixN xs.length i).bind fun j => xs[j]?) with
    | none =>
      cases ej : L2.ixN xs.length i with
      | none => rw [ej] at e; cases e
      | some j =>
        rw [ej] at ed e
        have ed' : xs[j]? = none := ed
        have e' : (xs[j]?).map (fun d => (d, cf d)) = some (d, k) := e
        rw [ed'] at e'
        cases e'
    | some x =>
      have e' : some (x, cf x) = some (d, k) := by
        cases ej : L2.ixN xs.length i with
        | none => rw [ej] at ed; cases ed
        | some j =>
          rw [ej] at ed e
          have ed' : xs[j]? = some x := ed
          have e' : (xs[j]?).map (fun d => (d, cf d)) = some (d, k) := e
          rw [ed'] at e'
          exact e'
      obtain ⟨rfl, rfl⟩ := some_pair e'
      obtain ⟨v, ev, iv⟩ := atI_ins i1 ed
      exact .inl ⟨a, vs, i, v, rfl, rfl, s1, ev, w _ H (Same.refl H) (Res.old iv)⟩
  | tup xs =>
    cases d2 <;> try (exact nomatch (show (none : Option (D × Bool)) = some (d, k) from e))
    rename_i i
    obtain rfl := h2.int
    obtain ⟨a, vs, rfl, s1, i1⟩ := h1.tup
    simp only [op2] at e
    cases ed : ((L2.ixN xs.length i).bind fun j => xs[j]?) with
    | none =>
      cases ej : L2.ixN xs.length i with
      | none => rw [ej] at e; cases e
      | some j =>
        rw [ej] at ed e
        have ed' : xs[j]? = none := ed
        have e' : (xs[j]?).map (fun d => (d, cf d)) = some (d, k) := e
        rw [ed'] at e'
        cases e'
    | some x =>
      have e' : some (x, cf x) = some (d, k) := by
        cases ej : L2.ixN xs.length i with
        | none => rw [ej] at ed; cases ed
        | some j =>
          rw [ej] at ed e
          have ed' : xs[j]? = some x := ed
          have e' : (xs[j]?).map (fun d => (d, cf d)) = some (d, k) := e
          rw [ed'] at e'
          exact e'
      obtain ⟨rfl, rfl⟩ := some_pair e'
      obtain ⟨v, ev, iv⟩ := atI_ins i1 ed
      exact .inr (.inl ⟨a, vs, i, v, rfl, rfl, SqT.of s1, ev, w _ H (Same.refl H) (Res.old iv)⟩)
  | str s =>
    cases d2 <;> try (exact nomatch (show (none : Option (D × Bool)) = some (d, k) from e))
    rename_i i
    obtain rfl := h2.int
    obtain rfl := h1.str
    simp only [op2] at e
    split at e
    · rename_i hz
      cases ej : L2.ixN s.cps.toList.length i with
      | none => rw [ej] at e; cases e
      | some j =>
        rw [ej] at e
        have e' : (s.cps.toList[j]?).map (fun c => (D.str ⟨#[c]⟩, true)) = some (d, k) := e
        cases ec : s.cps.toList[j]? with
        | none => rw [ec] at e'; cases e'
        | some c =>
          rw [ec] at e'
          obtain ⟨rfl, rfl⟩ := some_pair e'
          refine .inr (.inr ⟨s, i, c, rfl, rfl, hz, ?_, q_str w rfl⟩)
          unfold atI
          rw [ej]
          exact ec
    · cases e
  | dct ps => exact absurd rfl (nd ps)
  | dctT ps => exact absurd rfl (ndT ps)
  | non => exact nomatch (show (none : Option (D × Bool)) = some (d, k) from e)
  | bl _ => exact nomatch (show (none : Option (D × Bool)) = some (d, k) from e)
  | int _ => exact nomatch (show (none : Option (D × Bool)) = some (d, k) from e)
  | obj _ => exact nomatch (show (none : Option (D × Bool)) = some (d, k) from e)
def rGetD : R2 := fun x y H Q => ∃ a v, x = .ref a ∧ DGet H a y (some v) ∧ Q v H
theorem sp_idxD {ρ : List Addr} {H : Hp} {Sx : Addr → Prop} {ps : List (L2.Key × D)} {d2 d : D} {k : Bool} {v1 v2 : V} {Q : VK} (h1 : In X.K ρ H Sx (.dct ps) v1) (h2 : In X.K ρ H Sx d2 v2) (e : op2 .idx (.dct ps) d2 = some (d, k))
    (w : ∀ v H', Same H H' → Res X.K ρ H H' Sx d k v → Q v H') : rGetD v1 v2 H Q := by
  have e' : ((keyOf d2).bind fun k => (valD ps k).map fun d => (d, cf d)) = some (d, k) := by cases d2 <;> exact e
  cases ek : keyOf d2 with
  | none => rw [ek] at e'; cases e'
  | some c =>
    rw [ek] at e'
    have e2 : (valD ps c).map (fun d => (d, cf d)) = some (d, k) := e'
    obtain ⟨a, rfl, h | ⟨x, u, ev, g, i⟩⟩ := h1.get h2 ek
    · rw [h.1] at e2; cases e2
    · rw [ev] at e2
      obtain ⟨rfl, rfl⟩ := some_pair e2
      exact ⟨a, u, rfl, g, w _ H (Same.refl H) (Res.old i)⟩
theorem sp_idxDT {ρ : List Addr} {H : Hp} {Sx : Addr → Prop} {ps : List (List L2.Key × D)} {d2 d : D} {k : Bool} {v1 v2 : V} {Q : VK} (h1 : In X.K ρ H Sx (.dctT ps) v1) (h2 : In X.K ρ H Sx d2 v2) (e : op2 .idx (.dctT ps) d2 = some (d, k))
    (w : ∀ v H', Same H H' → Res X.K ρ H H' Sx d k v → Q v H') : rGetD v1 v2 H Q := by
  cases d2 <;> try (exact nomatch (show (none : Option (D × Bool)) = some (d, k) from e))
  rename_i xs
  simp only [op2] at e
  cases ek : keysOf xs with
  | none => rw [ek] at e; cases e
  | some c =>
    rw [ek] at e
    have e2 : (valD ps c).map (fun d => (d, cf d)) = some (d, k) := e
    obtain ⟨a, rfl, h | ⟨x, u, ev, g, i⟩⟩ := h1.getT h2 ek
    · rw [h.1] at e2; cases e2
    · rw [ev] at e2
      obtain ⟨rfl, rfl⟩ := some_pair e2
      exact ⟨a, u, rfl, g, w _ H (Same.refl H) (Res.old i)⟩
def rInDict (neg : Bool) : R2 := fun y x H Q => ∃ a o, x = .ref a ∧ DGet H a y o ∧ Q (.bl (if neg then !o.isSome else o.isSome)) H
theorem sp_inD {ρ : List Addr} {H : Hp} {Sx : Addr → Prop} {ps : List (L2.Key × D)} {d1 d : D} {k : Bool} {v1 v2 : V} {Q : VK} (h1 : In X.K ρ H Sx d1 v1) (h2 : In X.K ρ H Sx (.dct ps) v2) (e : op2 .inn d1 (.dct ps) = some (d, k))
    (w : ∀ v H', Same H H' → Res X.K ρ H H' Sx d k v → Q v H') : rInDict false v1 v2 H Q := by
  have e' : ((keyOf d1).map fun k => (D.bl (valD ps k).isSome, true)) = some (d, k) := by cases d1 <;> exact e
  cases ek : keyOf d1 with
  | none => rw [ek] at e'; cases e'
  | some c =>
    rw [ek] at e'
    obtain ⟨rfl, rfl⟩ := some_pair e'
    obtain ⟨a, rfl, ⟨h, g⟩ | ⟨x, u, ev, g, i⟩⟩ := h2.get h1 ek
    · exact ⟨a, none, rfl, g, by rw [h] at w; exact q_bl w rfl⟩
    · exact ⟨a, some u, rfl, g, by rw [ev] at w; exact q_bl w rfl⟩
theorem sp_notinD {ρ : List Addr} {H : Hp} {Sx : Addr → Prop} {ps : List (L2.Key × D)} {d1 d : D} {k : Bool} {v1 v2 : V} {Q : VK} (h1 : In X.K ρ H Sx d1 v1) (h2 : In X.K ρ H Sx (.dct ps) v2) (e : op2 .notin d1 (.dct ps) = some (d, k))
    (w : ∀ v H', Same H H' → Res X.K ρ H H' Sx d k v → Q v H') : rInDict true v1 v2 H Q := by
  have e' : ((keyOf d1).map fun k => (D.bl (!(valD ps k).isSome), true)) = some (d, k) := by cases d1 <;> exact e
  cases ek : keyOf d1 with
  | none => rw [ek] at e'; cases e'
  | some c =>
    rw [ek] at e'
    obtain ⟨rfl, rfl⟩ := some_pair e'
    obtain ⟨a, rfl, ⟨h, g⟩ | ⟨x, u, ev, g, i⟩⟩ := h2.get h1 ek
    · exact ⟨a, none, rfl, g, by rw [h] at w; exact q_bl w rfl⟩
    · exact ⟨a, some u, rfl, g, by rw [ev] at w; exact q_bl w rfl⟩
theorem sp_inDT {ρ : List Addr} {H : Hp} {Sx : Addr → Prop} {ps : List (List L2.Key × D)} {d1 d : D} {k : Bool} {v1 v2 : V} {Q : VK} (h1 : In X.K ρ H Sx d1 v1) (h2 : In X.K ρ H Sx (.dctT ps) v2) (e : op2 .inn d1 (.dctT ps) = some (d, k))
    (w : ∀ v H', Same H H' → Res X.K ρ H H' Sx d k v → Q v H') : rInDict false v1 v2 H Q := by
  cases d1 <;> try (exact nomatch (show (none : Option (D × Bool)) = some (d, k) from e))
  rename_i xs
  simp only [op2] at e
  cases ek : keysOf xs with
  | none => rw [ek] at e; cases e
  | some c =>
    rw [ek] at e
    obtain ⟨rfl, rfl⟩ := some_pair e
    obtain ⟨a, rfl, ⟨h, g⟩ | ⟨x, u, ev, g, i⟩⟩ := h2.getT h1 ek
    · exact ⟨a, none, rfl, g, by rw [h] at w; exact q_bl w rfl⟩
    · exact ⟨a, some u, rfl, g, by rw [ev] at w; exact q_bl w rfl⟩
theorem sp_notinDT {ρ : List Addr} {H : Hp} {Sx : Addr → Prop} {ps : List (List L2.Key × D)} {d1 d : D} {k : Bool} {v1 v2 : V} {Q : VK} (h1 : In X.K ρ H Sx d1 v1) (h2 : In X.K ρ H Sx (.dctT ps) v2) (e : op2 .notin d1 (.dctT ps) = some (d, k))
    (w : ∀ v H', Same H H' → Res X.K ρ H H' Sx d k v → Q v H') : rInDict true v1 v2 H Q := by
  cases d1 <;> try (exact nomatch (show (none : Option (D × Bool)) = some (d, k) from e))
  rename_i xs
  simp only [op2] at e
  cases ek : keysOf xs with
  | none => rw [ek] at e; cases e
  | some c =>
    rw [ek] at e
    obtain ⟨rfl, rfl⟩ := some_pair e
    obtain ⟨a, rfl, ⟨h, g⟩ | ⟨x, u, ev, g, i⟩⟩ := h2.getT h1 ek
    · exact ⟨a, none, rfl, g, by rw [h] at w; exact q_bl w rfl⟩
    · exact ⟨a, some u, rfl, g, by rw [ev] at w; exact q_bl w rfl⟩
theorem Insk.length {K : PySem.W.Frag} {ρ : List Addr} {H : Hp} {Sx : Addr → Prop} {κ : Type} {ps : List (κ × D)} {kvs : List (κ × V)} (h : Insk K ρ H Sx ps kvs) : ps.length = kvs.length := Paired.length h

/-- one value, a built-in called -/
def Sc1 (K : PySem.W.Frag) (o : O1) (r : List V → Hp → VK → Prop) : Prop := ∀ (ρ : List Addr) (H : Hp) (Sx : Addr → Prop) (d1 d : D) (k : Bool) (v1 : V) (Q : VK),
  In K ρ H Sx d1 v1 → op1 o d1 = some (d, k) → (∀ v H', Same H H' → Res K ρ H H' Sx d k v → Q v H') → r [v1] H Q
theorem sc_abs : Sc1 X.K .abs (fun xs H Q => ∃ i, xs = [.int i] ∧ Q (.int (if i < 0 then -i else i)) H) := by
  intro ρ H Sx d1 d k v1 Q h e w
  cases d1 <;> try (exact nomatch (show (none : Option (D × Bool)) = some (d, k) from e))
  obtain ⟨rfl, rfl⟩ := some_pair e
  obtain rfl := h.int
  exact ⟨_, rfl, q_int w rfl⟩
theorem sc_int : Sc1 X.K .toInt (fun xs H Q => (∃ i, xs = [.int i] ∧ Q (.int i) H) ∨ ∃ k, xs = [.bl k] ∧ Q (.int (if k then 1 else 0)) H) := by
  intro ρ H Sx d1 d k v1 Q h e w
  cases d1 <;> try (exact nomatch (show (none : Option (D × Bool)) = some (d, k) from e))
  · obtain ⟨rfl, rfl⟩ := some_pair e
    obtain rfl := h.bl
    exact .inr ⟨_, rfl, q_int w rfl⟩
  · obtain ⟨rfl, rfl⟩ := some_pair e
    obtain rfl := h.int
    exact .inl ⟨_, rfl, q_int w rfl⟩
theorem sc_bool : Sc1 X.K .toBool (fun xs H Q => (∃ i, xs = [.int i] ∧ Q (.bl (i != 0)) H) ∨ ∃ k, xs = [.bl k] ∧ Q (.bl k) H) := by
  intro ρ H Sx d1 d k v1 Q h e w
  cases d1 <;> try (exact nomatch (show (none : Option (D × Bool)) = some (d, k) from e))
  · obtain ⟨rfl, rfl⟩ := some_pair e
    obtain rfl := h.bl
    exact .inr ⟨_, rfl, q_bl w rfl⟩
  · obtain ⟨rfl, rfl⟩ := some_pair e
    obtain rfl := h.int
    exact .inl ⟨_, rfl, q_bl w rfl⟩
theorem sc_str : Sc1 X.K .toStr (fun xs H Q => ∃ i, xs = [.int i] ∧ i.natAbs.log2 < 1920 ∧ Q (.str (toString i)) H) := by
  intro ρ H Sx d1 d k v1 Q h e w
  cases d1 <;> try (exact nomatch (show (none : Option (D × Bool)) = some (d, k) from e))
  simp only [op1] at e
  split at e
  · obtain ⟨rfl, rfl⟩ := some_pair e
    obtain rfl := h.int
    exact ⟨_, rfl, by assumption, q_str w rfl⟩
  · cases e
theorem sc_len : ∃ r, CallR X (.builtin "len") r ∧ Sc1 X.K .len r := by
  refine ⟨_, CallR.or call_len (CallR.or call_lenD call_len_dT), ?_⟩
  intro ρ H Sx d1 d k v1 Q h e w
  cases d1 <;> try (exact nomatch (show (none : Option (D × Bool)) = some (d, k) from e))
  · obtain rfl := h.str
    simp only [op1] at e
    split at e
    · obtain ⟨rfl, rfl⟩ := some_pair e
      exact .inl ⟨_, _, rfl, ⟨by assumption, rfl⟩, q_int w rfl⟩
    · cases e
  · obtain ⟨rfl, rfl⟩ := some_pair e
    obtain ⟨a, vs, rfl, s1, i1⟩ := h.tup
    exact .inl ⟨_, _, rfl, .inr ⟨_, SqT.of s1, by rw [i1.length]⟩, q_int w rfl⟩
  · obtain ⟨rfl, rfl⟩ := some_pair e
    obtain ⟨a, vs, rfl, s1, i1⟩ := h.lst
    exact .inl ⟨_, _, rfl, .inl ⟨_, s1, by rw [i1.length]⟩, q_int w rfl⟩
  · obtain ⟨rfl, rfl⟩ := some_pair e
    obtain ⟨a, kvs, rfl, s1, i1⟩ := h.dct
    refine .inr (.inl ⟨a, kvs, rfl, s1, ?_⟩)
    rw [i1.length] at w
    exact q_int w rfl
  · obtain ⟨rfl, rfl⟩ := some_pair e
    obtain ⟨a, kvs, rfl, s1, i1⟩ := h.dctT
    refine .inr (.inr ⟨a, kvs, rfl, s1, ?_⟩)
    rw [i1.length] at w
    exact q_int w rfl
theorem sc_list : Sc1 X.K .listOf (fun xs H Q => ∃ p ys, xs = [.ref p] ∧ (SqL X.K H p ys ∨ SqT X.K H p ys) ∧ ∀ l, H l = none → Q (.ref l) (upd H l (.lst ys))) := by
  intro ρ H Sx d1 d k v1 Q h e w
  cases d1 <;> try (exact nomatch (show (none : Option (D × Bool)) = some (d, k) from e))
  · obtain ⟨rfl, rfl⟩ := some_pair e
    obtain ⟨a, vs, rfl, s1, i1⟩ := h.tup
    exact ⟨a, vs, rfl, .inr (SqT.of s1), fun l hl => w _ _ (Same.put hl) (Res.lst i1 hl)⟩
  · obtain ⟨rfl, rfl⟩ := some_pair e
    obtain ⟨a, vs, rfl, s1, i1⟩ := h.lst
    exact ⟨a, vs, rfl, .inl s1, fun l hl => w _ _ (Same.put hl) (Res.lst i1 hl)⟩
theorem sc_repr : Sc1 X.K .repr (rRepr X.K) := by
  intro ρ H Sx d1 d k v1 Q h e w
  have e' : (if showOk d1 = true ∧ (toP d1).showable = true ∧ (toP d1).depth ≤ 60 ∧ (toP d1).shown.length ≤ sizeLine then some (D.str (toP d1).shown, true) else none) = some (d, k) := by
    cases d1 <;> exact e
  split at e'
  · rename_i c
    obtain ⟨rfl, rfl⟩ := some_pair e'
    exact ⟨ρ, d1, v1, Sx, rfl, h, c.1, c.2.1, c.2.2.1, c.2.2.2, q_str w rfl⟩
  · cases e'
theorem intsOf_eq {ds : List D} {ns : List Int} (h : intsOf ds = some ns) : ds = ns.map .int := by
  induction ds generalizing ns with
  | nil => simp [intsOf] at h; subst h; rfl
  | cons d r ih =>
    cases d <;> simp [intsOf] at h
    obtain ⟨a, h1, rfl⟩ := h
    simp [ih h1]
theorem Ins.ints {K : PySem.W.Frag} {ρ : List Addr} {H : Hp} {Sx : Addr → Prop} : ∀ {ns : List Int} {vs}, Ins K ρ H Sx (ns.map .int) vs → vs = ns.map V.int
  | [], _, h => by cases h; rfl
  | n :: ns, _, h => by
    cases h with
    | cons h t => rw [h.int, Ins.ints t]; rfl
theorem sc_sum : Sc1 X.K .sum (rSum X.K) := by
  intro ρ H Sx d1 d k v1 Q h e w
  cases d1 <;> try (exact nomatch (show (none : Option (D × Bool)) = some (d, k) from e))
  rename_i xs
  simp only [op1] at e
  cases en : intsOf xs with
  | none => rw [en] at e; cases e
  | some ns =>
    rw [en] at e
    obtain ⟨rfl, rfl⟩ := some_pair e
    obtain ⟨a, vs, rfl, s1, i1⟩ := h.lst
    rw [intsOf_eq en] at i1
    rw [i1.ints] at s1
    exact ⟨a, ns, rfl, s1, q_int w rfl⟩
theorem insI_perm (x : Int) : ∀ l, (insI x l).Perm (x :: l)
  | [] => .refl _
  | y :: r => by
    unfold insI
    split
    · exact .refl _
    · exact ((insI_perm x r).cons y).trans (List.Perm.swap x y r)
theorem sortI_perm : ∀ l, (sortI l).Perm l
  | [] => .refl _
  | x :: r => (insI_perm x (sortI r)).trans ((sortI_perm r).cons x)
theorem insI_sorted (x : Int) : ∀ {l : List Int}, l.Pairwise (· ≤ ·) → (insI x l).Pairwise (· ≤ ·)
  | [], _ => by simp [insI]
  | y :: r, h => by
    unfold insI
    split
    · rename_i c
      refine List.pairwise_cons.mpr ⟨fun z hz => ?_, h⟩
      rcases List.mem_cons.mp hz with e | hz
      · rw [e]; exact c
      · exact Int.le_trans c ((List.pairwise_cons.mp h).1 z hz)
    · rename_i c
      refine List.pairwise_cons.mpr ⟨fun z hz => ?_, insI_sorted x (List.pairwise_cons.mp h).2⟩
      rcases List.mem_cons.mp ((insI_perm x r).mem_iff.mp hz) with e | hz
      · rw [e]; omega
      · exact (List.pairwise_cons.mp h).1 z hz
theorem sortI_sorted : ∀ l, (sortI l).Pairwise (· ≤ ·)
  | [] => by simp [sortI]
  | x :: r => insI_sorted x (sortI_sorted r)
theorem sorted_unique : ∀ {l m : List Int}, l.Perm m → l.Pairwise (· ≤ ·) → m.Pairwise (· ≤ ·) → l = m
  | [], m, p, _, _ => (List.nil_perm.mp p).symm
  | x :: l, [], p, _, _ => absurd (List.nil_perm.mp p.symm) (by simp)
  | x :: l, y :: m, p, h1, h2 => by
    have e : x = y := by
      have a : x ∈ y :: m := p.mem_iff.mp List.mem_cons_self
      have b : y ∈ x :: l := p.mem_iff.mpr List.mem_cons_self
      have a' : y ≤ x := by rcases List.mem_cons.mp a with e | z; exact Int.le_of_eq e.symm; exact (List.pairwise_cons.mp h2).1 x z
      have b' : x ≤ y := by rcases List.mem_cons.mp b with e | z; exact Int.le_of_eq e.symm; exact (List.pairwise_cons.mp h1).1 y z
      exact Int.le_antisymm b' a'
    subst e
    rw [sorted_unique ((List.perm_cons x).mp p) (List.pairwise_cons.mp h1).2 (List.pairwise_cons.mp h2).2]
theorem cfs_ints (ns : List Int) : cfs (ns.map .int) = true := by
  induction ns with
  | nil => rfl
  | cons n r ih => simp [cfs, cf, ih]
theorem sc_sorted : Sc1 X.K .sortedI (rSortedI X.K) := by
  intro ρ H Sx d1 d k v1 Q h e w
  cases d1 <;> try (exact nomatch (show (none : Option (D × Bool)) = some (d, k) from e))
  rename_i xs
  simp only [op1] at e
  cases en : intsOf xs with
  | none => rw [en] at e; cases e
  | some ns =>
    rw [en] at e
    obtain ⟨rfl, rfl⟩ := some_pair e
    obtain ⟨a, vs, rfl, s1, i1⟩ := h.lst
    rw [intsOf_eq en] at i1
    rw [i1.ints] at s1
    refine ⟨a, ns, rfl, s1, fun ns' p pm ps hp => ?_⟩
    have e2 : ns' = sortI ns := sorted_unique (pm.trans (sortI_perm ns).symm) ps (sortI_sorted ns)
    subst e2
    refine w _ _ (Same.put hp) ?_
    have mi : ∀ ms : List Int, Ins X.K ρ H Sx (ms.map .int) (ms.map V.int) := fun ms => by
      induction ms with
      | nil => exact .nil
      | cons m r ih => exact .cons ⟨[], .int, fun _ z => nomatch z⟩ ih
    have := Res.lst (mi (sortI ns)) hp
    rw [cfs_ints] at this
    exact this
end
end VS

-- VS.Expr
/-! Expressions: what the machine does is what the small language does. -/
namespace VS
open PySem PySem.Spec PyProof.Rows L2

/-- an exception of an own class with its attributes -/
def ExcAt (K : PySem.W.Frag) (cl : String → Addr → Prop) (W : Wd) (c : String) (fs : List (Str × D)) (cls : Value) (dd : Option Addr) : Prop :=
  ∃ C, cl c C ∧ cls = .ref C ∧ ((dd = none ∧ fs = []) ∨ ∃ dx fv, dd = some dx ∧ W.H dx = some (.xd fv) ∧ ∀ n d, fs.lookup n = some d → ∃ v, fv.lookup n = some v ∧ cf d = true ∧ Rd K W.ρ W.H true d v [])

section
variable (K : PySem.W.Frag) (cl : String → Addr → Prop) (σ : L2.St) (Wx : WX) (W : Wd) (ms vs : List Nat)
def PostOk (d : D) (k : Bool) (st' : S) (Q : VK) : Prop :=
  ∀ W' v F, W'.st = st' → Sim K cl σ W' → StepE ms W W' → Tmp K W' vs d k v F → (k = true → ∀ a ∈ F, From W ms a) → Q v W'.H
def PostEx (c : String) (fs : List (Str × D)) (st' : S) : Prop :=
  ∀ W' cls dd, W'.st = st' → Sim K cl σ W' → StepE ms W W' → ExcAt K cl W' c fs cls dd → Wx cls dd σ W'.H
def Go (r : Rv) (Q : VK) : Prop := match r with
  | .ok d k st' => PostOk K cl σ W ms vs d k st' Q
  | .exc c fs st' => PostEx K cl σ Wx W ms c fs st'
  | .err => False
end
/-- the reading of an expression -/
def trE (K : PySem.W.Frag) (cl : String → Addr → Prop) (L : Lk) (Wx : WX) (x : Ex) : TE := fun σ H Q =>
  ∃ W, W.H = H ∧ Sim K cl σ W ∧ Go K cl σ Wx W (muts x) (vars x) (ev L x W.st) Q

section
variable {K : PySem.W.Frag} {cl : String → Addr → Prop} {L : Lk} {σ : L2.St} {Wx : WX} {W W1 : Wd} {ms ns vs ws : List Nat} {Q : VK} {H : Hp}
theorem PostEx.from {c fs st'} (h : PostEx K cl σ Wx W ns c fs st') (s : Sim K cl σ W) (s1 : Sim K cl σ W1) (t : StepE ms W W1) {os : List Nat} (hm : ∀ i ∈ ms ++ os, i ∈ ns) : PostEx K cl σ Wx W1 os c fs st' :=
  fun W' cls dd e s' t' x => h W' cls dd e s' ((t.trans s s1 t').mono hm) x
theorem PostEx.sub {c fs st'} (h : PostEx K cl σ Wx W ns c fs st') {os : List Nat} (hm : ∀ i ∈ os, i ∈ ns) : PostEx K cl σ Wx W os c fs st' :=
  fun W' cls dd e s' t' x => h W' cls dd e s' (t'.mono hm) x
theorem PostOk.from {d k st'} (h : PostOk K cl σ W ns vs d k st' Q) (s : Sim K cl σ W) (s1 : Sim K cl σ W1) (t : StepE ms W W1) {os us : List Nat} (hm : ∀ i ∈ ms ++ os, i ∈ ns) (hv : ∀ i ∈ us, i ∈ vs) : PostOk K cl σ W1 os us d k st' Q :=
  fun W' v F e s' t' x f => h W' v F e s' ((t.trans s s1 t').mono hm) (x.more hv) fun ek a m => ((f ek a m).back s s1 t.toStep).mono hm
theorem PostOk.sub {d k st'} (h : PostOk K cl σ W ns vs d k st' Q) {os us : List Nat} (hm : ∀ i ∈ os, i ∈ ns) (hv : ∀ i ∈ us, i ∈ vs) : PostOk K cl σ W os us d k st' Q :=
  fun W' v F e s' t' x f => h W' v F e s' (t'.mono hm) (x.more hv) fun ek a m => (f ek a m).mono hm
theorem Go.from {r} (h : Go K cl σ Wx W ns vs r Q) (s : Sim K cl σ W) (s1 : Sim K cl σ W1) (t : StepE ms W W1) {os us : List Nat} (hm : ∀ i ∈ ms ++ os, i ∈ ns) (hv : ∀ i ∈ us, i ∈ vs) : Go K cl σ Wx W1 os us r Q := by
  cases r with
  | ok d k st' => exact PostOk.from h s s1 t hm hv
  | exc c fs st' => exact PostEx.from h s s1 t hm
  | err => exact h
/-- a value that can't be changed is there at once -/
theorem Go.flat {d k} (h : PostOk K cl σ W ns vs d k W.st Q) (s : Sim K cl σ W) {o v F} (r : Rd K W.ρ W.H o d v F) (c : cf d = true) : Q v W.H :=
  h W v [] rfl s StepE.refl (Tmp.of_flat r c) (fun _ _ m => nomatch m)
/-- the end of an operation: its result is handed on -/
theorem PostOk.res {d k Sx H' v} (h : PostOk K cl σ W ns vs d k W1.st Q) (s : Sim K cl σ W) (s1 : Sim K cl σ W1) (t : StepE ns W W1) (hS : ∀ a, Sx a → Src W ns W1 vs a) (hH : Same W1.H H') (r : Res K W1.ρ W1.H H' Sx d k v) : Q v H' := by
  obtain ⟨W2, F, e1, e2, s2, t2, tm, f⟩ := Res.out s s1 t hS hH r
  have := h W2 v F e1 s2 t2 tm f
  rw [e2] at this
  exact this
theorem Tmp.in {d k v F} (t : Tmp K W vs d k v F) : In K W.ρ W.H (fun a => a ∈ F) d v := ⟨F, t.rd.weak, fun _ m => m⟩

/-- what two evaluated members give -/
def At2 (K : PySem.W.Frag) (o : O2) (r : R2) (x y : D) : Prop := ∀ (ρ : List Addr) (H : Hp) (Sx : Addr → Prop) (d : D) (k : Bool) (v1 v2 : V) (Q : VK),
  In K ρ H Sx x v1 → In K ρ H Sx y v2 → op2 o x y = some (d, k) → (∀ v H', Same H H' → Res K ρ H H' Sx d k v → Q v H') → r v1 v2 H Q
theorem Sp2.at {o r} (h : Sp2 K o r) (x y : D) : At2 K o r x y := fun ρ H Sx d k v1 v2 Q => h ρ H Sx x y d k v1 v2 Q
theorem tr_bin {o : O2} {a b : Ex} {r : R2} (eH : W.H = H) (s : Sim K cl σ W) (hgo : Go K cl σ Wx W (muts (.op2 o a b)) (vars (.op2 o a b)) (ev L (.op2 o a b) W.st) Q)
    (sp : ∀ x kx st1 y ky st2, ev L a W.st = .ok x kx st1 → ev L b st1 = .ok y ky st2 → At2 K o r x y) : tOp r (trE K cl L Wx a) (trE K cl L Wx b) σ H Q := by
  refine ⟨W, eH, s, ?_⟩
  simp only [ev] at hgo
  simp only [muts, vars] at hgo
  cases h1 : ev L a W.st with
  | err => rw [h1] at hgo; exact hgo
  | exc c fs st' => rw [h1] at hgo; exact PostEx.sub hgo fun i h => List.mem_append.mpr (.inl h)
  | ok x kx st1 =>
    rw [h1] at hgo
    intro W1 v1 F1 e1 s1 t1 m1 f1
    refine ⟨W1, rfl, s1, ?_⟩
    subst e1
    dsimp only at hgo
    cases h2 : ev L b W1.st with
    | err => rw [h2] at hgo; exact hgo
    | exc c fs st' =>
      rw [h2] at hgo
      dsimp only at hgo
      split at hgo
      · exact hgo.elim
      · exact PostEx.from hgo s s1 t1 fun i h => h
    | ok y ky st2 =>
      rw [h2] at hgo
      intro W2 v2 F2 e2 s2 t2 m2 f2
      subst e2
      dsimp only at hgo
      split at hgo
      · rename_i hd
        cases h3 : op2 o x y with
        | none => rw [h3] at hgo; exact hgo.elim
        | some p =>
          obtain ⟨d, k⟩ := p
          rw [h3] at hgo
          have hd' : kx = true ∨ disj (vars a) (muts b) = true := by simpa using hd
          have m1' := m1.step s1 t2 hd'
          have t := t1.trans s s1 t2
          have src : ∀ z, (z ∈ F1 ∨ z ∈ F2) → Src W (muts a ++ muts b) W2 (vars a ++ vars b) z := fun z hz => by
            rcases hz with hz | hz
            · exact (m1'.src (W := W) (ms := muts a ++ muts b) (fun e q m => (f1 e q m).mono fun i h => List.mem_append.mpr (.inl h)) z hz).more fun i h => List.mem_append.mpr (.inl h)
            · exact (m2.src (W := W) (ms := muts a ++ muts b) (fun e q m => (f2 e q m).back s s1 t1.toStep) z hz).more fun i h => List.mem_append.mpr (.inr h)
          exact sp x kx W1.st y ky W2.st h1 h2 W2.ρ W2.H (fun z => z ∈ F1 ∨ z ∈ F2) d k v1 v2 Q (m1'.in.imp fun z h => .inl h) (m2.in.imp fun z h => .inr h) h3 fun v H' hH hr =>
            PostOk.res hgo s s2 t src hH hr
      · exact hgo.elim

/-- what one evaluated member gives -/
def At1 (K : PySem.W.Frag) (o : O1) (r : V → Hp → VK → Prop) (x : D) : Prop := ∀ (ρ : List Addr) (H : Hp) (Sx : Addr → Prop) (d : D) (k : Bool) (v1 : V) (Q : VK),
  In K ρ H Sx x v1 → op1 o x = some (d, k) → (∀ v H', Same H H' → Res K ρ H H' Sx d k v → Q v H') → r v1 H Q
theorem tr_un {o : O1} {a : Ex} {r : V → Hp → VK → Prop} (eH : W.H = H) (s : Sim K cl σ W) (hgo : Go K cl σ Wx W (muts (.op1 o a)) (vars (.op1 o a)) (ev L (.op1 o a) W.st) Q)
    (sp : ∀ x kx st1, ev L a W.st = .ok x kx st1 → At1 K o r x) : trE K cl L Wx a σ H fun v H1 => r v H1 Q := by
  refine ⟨W, eH, s, ?_⟩
  simp only [ev] at hgo
  simp only [muts, vars] at hgo
  cases h1 : ev L a W.st with
  | err => rw [h1] at hgo; exact hgo
  | exc c fs st' => rw [h1] at hgo; exact hgo
  | ok x kx st1 =>
    rw [h1] at hgo
    intro W1 v1 F1 e1 s1 t1 m1 f1
    subst e1
    dsimp only at hgo
    cases h3 : op1 o x with
    | none => rw [h3] at hgo; exact hgo.elim
    | some p =>
      obtain ⟨d, k⟩ := p
      rw [h3] at hgo
      exact sp x kx W1.st h1 W1.ρ W1.H (fun z => z ∈ F1) d k v1 Q m1.in h3 fun v H' hH hr => PostOk.res hgo s s1 t1 (m1.src f1) hH hr
end
end VS

-- VS.Expr2
/-! Tests, choices, rows of expressions. -/
namespace VS
open PySem PySem.Spec PyProof.Rows L2

section
variable (K : PySem.W.Frag) (cl : String → Addr → Prop) (σ : L2.St) (Wx : WX) (W : Wd) (ms : List Nat)
def PostB (t : Bool) (st' : S) (Q : Bool → Hp → Prop) : Prop := ∀ W', W'.st = st' → Sim K cl σ W' → StepE ms W W' → Q t W'.H
def GoB (r : Rb) (Q : Bool → Hp → Prop) : Prop := match r with
  | .ok t st' => PostB K cl σ W ms t st' Q
  | .exc c fs st' => PostEx K cl σ Wx W ms c fs st'
  | .err => False
end
/-- the reading of a test -/
def trB (K : PySem.W.Frag) (cl : String → Addr → Prop) (L : Lk) (Wx : WX) (x : Ex) : TT := fun σ H Q =>
  ∃ W, W.H = H ∧ Sim K cl σ W ∧ GoB K cl σ Wx W (muts x) (evB L x W.st) Q

section
variable {K : PySem.W.Frag} {cl : String → Addr → Prop} {L : Lk} {σ : L2.St} {Wx : WX} {W W1 : Wd} {ms ns vs ws : List Nat} {Q : VK} {H : Hp}
theorem PostB.from {t st'} {Q : Bool → Hp → Prop} (h : PostB K cl σ W ns t st' Q) (s : Sim K cl σ W) (s1 : Sim K cl σ W1) (u : StepE ms W W1) {os : List Nat} (hm : ∀ i ∈ ms ++ os, i ∈ ns) : PostB K cl σ W1 os t st' Q :=
  fun W' e s' t' => h W' e s' ((u.trans s s1 t').mono hm)
theorem GoB.from {r} {Q : Bool → Hp → Prop} (h : GoB K cl σ Wx W ns r Q) (s : Sim K cl σ W) (s1 : Sim K cl σ W1) (u : StepE ms W W1) {os : List Nat} (hm : ∀ i ∈ ms ++ os, i ∈ ns) : GoB K cl σ Wx W1 os r Q := by
  cases r with
  | ok t st' => exact PostB.from h s s1 u hm
  | exc c fs st' => exact PostEx.from h s s1 u hm
  | err => exact h
/-- the truth of what is read -/
theorem In.tru {ρ : List Addr} {Sx : Addr → Prop} {d v t} (h : In K ρ H Sx d v) (e : truthD d = some t) : TruV K v H t := by
  cases d <;> simp only [truthD, Option.some.injEq] at e
  · rw [h.non]; exact e.symm
  · rw [h.bl]; exact e.symm
  · rw [h.int]; exact e.symm
  · rw [h.str]
    split at e
    · rename_i hz
      refine ⟨hz, ?_⟩
      injection e with e
      rw [← e]
      rename_i s
      cases hs : s.length <;> simp [hs]
      omega
    · cases e
  · obtain ⟨a, vs, rfl, s1, i1⟩ := h.tup
    refine .inr (.inl ⟨vs, SqT.of s1, ?_⟩)
    rw [← e]
    cases i1 <;> rfl
  · obtain ⟨a, vs, rfl, s1, i1⟩ := h.lst
    refine .inl ⟨vs, s1, ?_⟩
    rw [← e]
    cases i1 <;> rfl
  · obtain ⟨a, vs, rfl, s1, i1⟩ := h.dct
    refine .inr (.inr ⟨vs, s1, ?_⟩)
    rw [← e]
    cases i1 <;> rfl
  · cases e
  · cases e

/-- a test that is a value's truth -/
theorem tr_truth {x : Ex} {Q : Bool → Hp → Prop} (h : trB K cl L Wx x σ H Q) : trE K cl L Wx x σ H fun v H' => ∃ k, TruV K v H' k ∧ Q k H' := by
  obtain ⟨W, eH, s, hgo⟩ := h
  refine ⟨W, eH, s, ?_⟩
  simp only [evB] at hgo
  cases h1 : ev L x W.st with
  | err => rw [h1] at hgo; exact hgo
  | exc c fs st' => rw [h1] at hgo; exact hgo
  | ok d k st1 =>
    rw [h1] at hgo
    dsimp only at hgo
    intro W1 v1 F1 e1 s1 t1 m1 f1
    cases h2 : truthD d with
    | none => rw [h2] at hgo; exact hgo.elim
    | some t =>
      rw [h2] at hgo
      exact ⟨t, m1.in.tru h2, hgo W1 e1 s1 t1⟩
/-- not, as a value -/
theorem tr_notV {a : Ex} (h : trE K cl L Wx (.not a) σ H Q) : tNotT K (trE K cl L Wx a) σ H Q := by
  obtain ⟨W, eH, s, hgo⟩ := h
  refine ⟨W, eH, s, ?_⟩
  simp only [ev] at hgo
  simp only [muts, vars] at hgo
  cases h1 : ev L a W.st with
  | err => rw [h1] at hgo; exact hgo
  | exc c fs st' => rw [h1] at hgo; exact hgo
  | ok d k st1 =>
    rw [h1] at hgo
    dsimp only at hgo
    intro W1 v1 F1 e1 s1 t1 m1 f1
    cases h2 : truthD d with
    | none => rw [h2] at hgo; exact hgo.elim
    | some t =>
      rw [h2] at hgo
      exact ⟨t, m1.in.tru h2, hgo W1 (.bl (!t)) [] e1 s1 t1 (Tmp.of_flat (k := true) .bl rfl) (fun _ _ m => nomatch m)⟩
theorem tr_notB {a : Ex} {Q : Bool → Hp → Prop} (h : trB K cl L Wx (.not a) σ H Q) : tNot (trB K cl L Wx a) σ H Q := by
  obtain ⟨W, eH, s, hgo⟩ := h
  refine ⟨W, eH, s, ?_⟩
  simp only [evB, ev] at hgo ⊢
  simp only [muts] at hgo
  cases h1 : ev L a W.st with
  | err => rw [h1] at hgo; exact hgo
  | exc c fs st' => rw [h1] at hgo; exact hgo
  | ok d k st1 =>
    rw [h1] at hgo
    dsimp only at hgo ⊢
    cases h2 : truthD d with
    | none => rw [h2] at hgo; exact hgo.elim
    | some t =>
      rw [h2] at hgo
      exact hgo
theorem tr_andV {a b : Ex} (h : trE K cl L Wx (.and a b) σ H Q) : tAndT K (trE K cl L Wx a) (trE K cl L Wx b) σ H Q := by
  obtain ⟨W, eH, s, hgo⟩ := h
  refine ⟨W, eH, s, ?_⟩
  simp only [ev] at hgo
  simp only [muts, vars] at hgo
  cases h1 : ev L a W.st with
  | err => rw [h1] at hgo; exact hgo
  | exc c fs st' => rw [h1] at hgo; exact PostEx.sub hgo fun i h => List.mem_append.mpr (.inl h)
  | ok d k st1 =>
    rw [h1] at hgo
    dsimp only at hgo
    intro W1 v1 F1 e1 s1 t1 m1 f1
    cases h2 : truthD d with
    | none => rw [h2] at hgo; exact hgo.elim
    | some t =>
      rw [h2] at hgo
      refine ⟨t, m1.in.tru h2, ?_⟩
      cases t with
      | true =>
        rw [if_pos rfl]
        dsimp only at hgo
        rw [if_pos rfl] at hgo
        exact ⟨W1, rfl, s1, by rw [e1]; exact Go.from hgo s s1 t1 (fun i h => h) fun i h => List.mem_append.mpr (.inr h)⟩
      | false =>
        rw [if_neg Bool.false_ne_true]
        dsimp only at hgo
        rw [if_neg Bool.false_ne_true] at hgo
        exact hgo W1 v1 F1 e1 s1 (t1.mono fun i h => List.mem_append.mpr (.inl h)) (m1.more fun i h => List.mem_append.mpr (.inl h)) fun e q m => (f1 e q m).mono fun i h => List.mem_append.mpr (.inl h)
theorem tr_orV {a b : Ex} (h : trE K cl L Wx (.or a b) σ H Q) : tOrT K (trE K cl L Wx a) (trE K cl L Wx b) σ H Q := by
  obtain ⟨W, eH, s, hgo⟩ := h
  refine ⟨W, eH, s, ?_⟩
  simp only [ev] at hgo
  simp only [muts, vars] at hgo
  cases h1 : ev L a W.st with
  | err => rw [h1] at hgo; exact hgo
  | exc c fs st' => rw [h1] at hgo; exact PostEx.sub hgo fun i h => List.mem_append.mpr (.inl h)
  | ok d k st1 =>
    rw [h1] at hgo
    dsimp only at hgo
    intro W1 v1 F1 e1 s1 t1 m1 f1
    cases h2 : truthD d with
    | none => rw [h2] at hgo; exact hgo.elim
    | some t =>
      rw [h2] at hgo
      refine ⟨t, m1.in.tru h2, ?_⟩
      cases t with
      | false =>
        rw [if_neg Bool.false_ne_true]
        dsimp only at hgo
        rw [if_neg Bool.false_ne_true] at hgo
        exact ⟨W1, rfl, s1, by rw [e1]; exact Go.from hgo s s1 t1 (fun i h => h) fun i h => List.mem_append.mpr (.inr h)⟩
      | true =>
        rw [if_pos rfl]
        dsimp only at hgo
        rw [if_pos rfl] at hgo
        exact hgo W1 v1 F1 e1 s1 (t1.mono fun i h => List.mem_append.mpr (.inl h)) (m1.more fun i h => List.mem_append.mpr (.inl h)) fun e q m => (f1 e q m).mono fun i h => List.mem_append.mpr (.inl h)
theorem tr_andB {a b : Ex} {Q : Bool → Hp → Prop} (h : trB K cl L Wx (.and a b) σ H Q) : tAnd (trB K cl L Wx a) (trB K cl L Wx b) σ H Q := by
  obtain ⟨W, eH, s, hgo⟩ := h
  refine ⟨W, eH, s, ?_⟩
  simp only [evB, ev] at hgo ⊢
  simp only [muts] at hgo
  cases h1 : ev L a W.st with
  | err => rw [h1] at hgo; exact hgo
  | exc c fs st' => rw [h1] at hgo; exact PostEx.sub hgo fun i h => List.mem_append.mpr (.inl h)
  | ok d k st1 =>
    rw [h1] at hgo
    dsimp only at hgo ⊢
    cases h2 : truthD d with
    | none => rw [h2] at hgo; exact hgo.elim
    | some t =>
      rw [h2] at hgo
      intro W1 e1 s1 t1
      cases t with
      | true =>
        rw [if_pos rfl]
        dsimp only at hgo
        rw [if_pos rfl] at hgo
        refine ⟨W1, rfl, s1, ?_⟩
        rw [e1]
        have := GoB.from (r := evB L b st1) (by simpa only [evB] using hgo) s s1 t1 (os := muts b) (fun i h => h)
        exact this
      | false =>
        rw [if_neg Bool.false_ne_true]
        dsimp only at hgo
        rw [if_neg Bool.false_ne_true] at hgo
        dsimp only at hgo
        rw [h2] at hgo
        exact hgo W1 e1 s1 (t1.mono fun i h => List.mem_append.mpr (.inl h))
theorem tr_orB {a b : Ex} {Q : Bool → Hp → Prop} (h : trB K cl L Wx (.or a b) σ H Q) : tOr (trB K cl L Wx a) (trB K cl L Wx b) σ H Q := by
  obtain ⟨W, eH, s, hgo⟩ := h
  refine ⟨W, eH, s, ?_⟩
  simp only [evB, ev] at hgo ⊢
  simp only [muts] at hgo
  cases h1 : ev L a W.st with
  | err => rw [h1] at hgo; exact hgo
  | exc c fs st' => rw [h1] at hgo; exact PostEx.sub hgo fun i h => List.mem_append.mpr (.inl h)
  | ok d k st1 =>
    rw [h1] at hgo
    dsimp only at hgo ⊢
    cases h2 : truthD d with
    | none => rw [h2] at hgo; exact hgo.elim
    | some t =>
      rw [h2] at hgo
      intro W1 e1 s1 t1
      cases t with
      | false =>
        rw [if_neg Bool.false_ne_true]
        dsimp only at hgo
        rw [if_neg Bool.false_ne_true] at hgo
        refine ⟨W1, rfl, s1, ?_⟩
        rw [e1]
        have := GoB.from (r := evB L b st1) (by simpa only [evB] using hgo) s s1 t1 (os := muts b) (fun i h => h)
        exact this
      | true =>
        rw [if_pos rfl]
        dsimp only at hgo
        rw [if_pos rfl] at hgo
        dsimp only at hgo
        rw [h2] at hgo
        exact hgo W1 e1 s1 (t1.mono fun i h => List.mem_append.mpr (.inl h))
/-- a choice -/
theorem tr_ite {c a b : Ex} (h : trE K cl L Wx (.ite c a b) σ H Q) : tIf (trB K cl L Wx c) (trE K cl L Wx a) (trE K cl L Wx b) σ H Q := by
  obtain ⟨W, eH, s, hgo⟩ := h
  refine ⟨W, eH, s, ?_⟩
  simp only [evB, ev] at hgo ⊢
  simp only [muts, vars] at hgo
  cases h1 : ev L c W.st with
  | err => rw [h1] at hgo; exact hgo
  | exc c fs st' => rw [h1] at hgo; exact PostEx.sub hgo fun i h => List.mem_append.mpr (.inl h)
  | ok d k st1 =>
    rw [h1] at hgo
    dsimp only at hgo ⊢
    cases h2 : truthD d with
    | none => rw [h2] at hgo; exact hgo.elim
    | some t =>
      rw [h2] at hgo
      intro W1 e1 s1 t1
      cases t with
      | true =>
        rw [if_pos rfl]
        dsimp only at hgo
        rw [if_pos rfl] at hgo
        exact ⟨W1, rfl, s1, by rw [e1]; exact Go.from hgo s s1 t1 (fun i h => by simp only [List.mem_append] at h ⊢; rcases h with h | h <;> simp [h]) fun i h => by simp [h]⟩
      | false =>
        rw [if_neg Bool.false_ne_true]
        dsimp only at hgo
        rw [if_neg Bool.false_ne_true] at hgo
        exact ⟨W1, rfl, s1, by rw [e1]; exact Go.from hgo s s1 t1 (fun i h => by simp only [List.mem_append] at h ⊢; rcases h with h | h <;> simp [h]) fun i h => by simp [h]⟩
end
end VS

-- VS.Rows
/-! Rows of expressions, displays. -/
namespace VS
open PySem PySem.Spec PyProof.Rows L2

/-- the values of a row on their way; G: the cells that they own -/
inductive Tmps (K : PySem.W.Frag) (σ : L2.St) (W0 W : Wd) (ms : List Nat) : List Ex → List (D × Bool) → List V → List Addr → Prop
  | nil : Tmps K σ W0 W ms [] [] [] []
  | io {i v es ds vs G} : σ[i]? = some (some v) → Tmps K σ W0 W ms es ds vs G → Tmps K σ W0 W ms (.io i :: es) ((.non, true) :: ds) (v :: vs) G
  | cons {e es d k v F ds vs G} : isIo e = false → Tmp K W (vars e) d k v F → (k = true → ∀ a ∈ F, From W0 ms a) → Tmps K σ W0 W ms es ds vs G → (k = true → ∀ a ∈ F, a ∉ G) →
      Tmps K σ W0 W ms (e :: es) ((d, k) :: ds) (v :: vs) ((if k = true then F else []) ++ G)

section
variable (K : PySem.W.Frag) (cl : String → Addr → Prop) (σ : L2.St) (Wx : WX) (W : Wd) (ms : List Nat) (es : List Ex)
def PostAs (ds : List (D × Bool)) (st' : S) (Q : List V → Hp → Prop) : Prop := ∀ W' vs G, W'.st = st' → Sim K cl σ W' → StepE ms W W' → Tmps K σ W W' ms es ds vs G → Q vs W'.H
def GoA (r : Rvs) (Q : List V → Hp → Prop) : Prop := match r with
  | .ok ds st' => PostAs K cl σ W ms es ds st' Q
  | .exc c fs st' => PostEx K cl σ Wx W ms c fs st'
  | .err => False
end
def trA (K : PySem.W.Frag) (cl : String → Addr → Prop) (L : Lk) (Wx : WX) (es : List Ex) : TA := fun σ H Q =>
  ∃ W, W.H = H ∧ Sim K cl σ W ∧ GoA K cl σ Wx W (mutss es) es (evs L es W.st) Q

section
variable {K : PySem.W.Frag} {cl : String → Addr → Prop} {L : Lk} {σ : L2.St} {Wx : WX} {W W1 W2 : Wd} {ms ns : List Nat} {Q : VK} {H : Hp}
theorem Tmps.from_ {es ds vs G} (t : Tmps K σ W W1 ms es ds vs G) : ∀ a ∈ G, From W ms a := by
  induction t with
  | nil => exact fun _ m => nomatch m
  | io _ _ ih => exact ih
  | @cons e es d k v F ds vs G _ _ f _ _ ih =>
    intro a m
    rcases List.mem_append.mp m with m | m
    · cases k with
      | true => exact f rfl a (by simpa using m)
      | false => simp at m
    · exact ih a m
theorem Tmps.back {σ' es ds vs G} (t : Tmps K σ W1 W2 ns es ds vs G) (s : Sim K cl σ' W) (s1 : Sim K cl σ' W1) (u : Step ms W W1) : Tmps K σ W W2 (ms ++ ns) es ds vs G := by
  induction t with
  | nil => exact .nil
  | io h _ ih => exact .io h ih
  | cons h m f _ dj ih => exact .cons h m (fun e a z => (f e a z).back s s1 u) ih dj
theorem tr_nil {Q : List V → Hp → Prop} (h : trA K cl L Wx [] σ H Q) : tNil σ H Q := by
  obtain ⟨W, eH, s, hgo⟩ := h
  simp only [evs, mutss] at hgo
  have := hgo W [] [] rfl s StepE.refl .nil
  rw [eH] at this
  exact this
theorem tr_consA {e : Ex} {r : List Ex} {Q : List V → Hp → Prop} (he : isIo e = false) (h : trA K cl L Wx (e :: r) σ H Q) : tCons (trE K cl L Wx e) (trA K cl L Wx r) σ H Q := by
  obtain ⟨W, eH, s, hgo⟩ := h
  refine ⟨W, eH, s, ?_⟩
  simp only [evs] at hgo
  simp only [mutss] at hgo
  cases h1 : ev L e W.st with
  | err => rw [h1] at hgo; exact hgo
  | exc c fs st' => rw [h1] at hgo; exact PostEx.sub hgo fun i h => List.mem_append.mpr (.inl h)
  | ok d k st1 =>
    rw [h1] at hgo
    intro W1 v1 F1 e1 s1 t1 m1 f1
    refine ⟨W1, rfl, s1, ?_⟩
    subst e1
    dsimp only at hgo
    split at hgo
    · rename_i hd
      have hd' : k = true ∨ disj (vars e) (mutss r) = true := by simpa using hd
      cases h2 : evs L r W1.st with
      | err => rw [h2] at hgo; exact hgo
      | exc c fs st' => rw [h2] at hgo; exact PostEx.from hgo s s1 t1 fun i h => h
      | ok ds st2 =>
        rw [h2] at hgo
        intro W2 vs G e2 s2 t2 m2
        refine hgo W2 (v1 :: vs) _ e2 s2 (t1.trans s s1 t2) (.cons he (m1.step s1 t2 hd') (fun q a m => (f1 q a m).mono fun i h => List.mem_append.mpr (.inl h)) (m2.back s s1 t1.toStep) fun q a m z => ?_)
        rcases m2.from_ a z with w | ⟨p, _, _, w⟩
        · exact (m1.rd.cel a m).ne w
        · exact m1.nf q a m p w
    · exact hgo.elim
theorem tr_consI {i : Nat} {r : List Ex} {Q : List V → Hp → Prop} (h : trA K cl L Wx (.io i :: r) σ H Q) : tCons (tVar i) (trA K cl L Wx r) σ H Q := by
  obtain ⟨W, eH, s, hgo⟩ := h
  simp only [evs, ev] at hgo
  simp only [mutss, muts] at hgo
  cases h1 : W.st.get i with
  | none => rw [h1] at hgo; exact hgo.elim
  | some p =>
    rw [h1] at hgo
    dsimp only at hgo
    obtain ⟨d, k⟩ := p
    obtain ⟨v, hv, _⟩ := s.rd (.s i) d k h1
    refine ⟨v, hv, W, eH, s, ?_⟩
    rw [if_pos (by simp)] at hgo
    cases h2 : evs L r W.st with
    | err => rw [h2] at hgo; exact hgo
    | exc c fs st' => rw [h2] at hgo; exact PostEx.sub hgo fun i h => List.mem_append.mpr (.inr h)
    | ok ds st2 =>
      rw [h2] at hgo
      intro W2 vs G e2 s2 t2 m2
      exact hgo W2 (v :: vs) G e2 s2 (t2.mono fun i h => List.mem_append.mpr (.inr h)) (.io hv ((m2.back (ms := [i]) s s Step.refl)))

/-- a row without places that a call may change -/
def noIo (es : List Ex) : Bool := es.all fun e => !isIo e
theorem Tmps.len {es ds vs G} (t : Tmps K σ W W1 ms es ds vs G) : ds.length = vs.length := by
  induction t with
  | nil => rfl
  | io _ _ ih => simp [ih]
  | cons _ _ _ _ _ ih => simp [ih]
theorem Tmps.ins {es ds vs G} (t : Tmps K σ W W1 ms es ds vs G) (h : noIo es = true) : Ins K W1.ρ W1.H (Src W ms W1 (varss es)) (ds.map (·.1)) vs := by
  induction t with
  | nil => exact .nil
  | io _ _ _ => simp [noIo, isIo] at h
  | @cons e es d k v F ds vs G he m f _ _ ih =>
    have h' : noIo es = true := by
      simp only [noIo, List.all_cons, Bool.and_eq_true] at h ⊢
      exact h.2
    refine .cons ⟨F, m.rd.weak, fun a z => (m.src f a z).more fun i q => ?_⟩ ((ih h').imp fun a z => z.more fun i q => ?_)
    · simp only [varss, List.mem_append]; exact .inl q
    · simp only [varss, List.mem_append]; exact .inr q
theorem Tmps.own {es ds vs G} (t : Tmps K σ W W1 ms es ds vs G) (h : noIo es = true) (hk : ds.all (·.2) = true) :
    Rds K W1.ρ W1.H true (ds.map (·.1)) vs G ∧ G.Nodup ∧ (∀ a ∈ G, ¬ W1.Z a) ∧ ∀ a ∈ G, ∀ p, a ∉ W1.Fs p := by
  induction t with
  | nil => exact ⟨.nil, List.nodup_nil, fun _ m => (nomatch m), fun _ m => (nomatch m)⟩
  | io _ _ _ => simp [noIo, isIo] at h
  | @cons e es d k v F ds vs G he m f _ dj ih =>
    have h' : noIo es = true := by
      simp only [noIo, List.all_cons, Bool.and_eq_true] at h ⊢
      exact h.2
    simp only [List.all_cons, Bool.and_eq_true] at hk
    obtain ⟨hk1, hk2⟩ := hk
    have hk1' : k = true := hk1
    subst hk1'
    obtain ⟨r, nd, nz, nf⟩ := ih h' hk2
    rw [if_pos rfl]
    refine ⟨.cons m.rd r, List.nodup_append.mpr ⟨m.nd rfl, nd, fun a ha b hb e => dj rfl a ha (e ▸ hb)⟩, fun a z => ?_, fun a z => ?_⟩
    · rcases List.mem_append.mp z with z | z
      · exact m.nz rfl a z
      · exact nz a z
    · rcases List.mem_append.mp z with z | z
      · exact m.nf rfl a z
      · exact nf a z

theorem cfs_all {es ds vs G} (t : Tmps K σ W W1 ms es ds vs G) : ds.all (·.2) = false → True := fun _ => trivial

/-- a display's end -/
theorem disp_out {es ds vs G} {o : HO} {d : D} {p : Addr} (h : PostOk K cl σ W ms (varss es) d (ds.all (·.2)) W1.st Q) (s : Sim K cl σ W) (s1 : Sim K cl σ W1) (t : StepE ms W W1) (m : Tmps K σ W W1 ms es ds vs G) (hn : noIo es = true) (hp : W1.H p = none)
    (mk : ∀ k F, Rds K W1.ρ (upd W1.H p o) k (ds.map (·.1)) vs F → Rd K W1.ρ (upd W1.H p o) k d (.ref p) F ∨ Rd K W1.ρ (upd W1.H p o) k d (.ref p) (p :: F)) : Q (.ref p) (upd W1.H p o) := by
  have fresh_p : ∀ r, p ∉ W1.Fs r := fun r z => (s1.cel z).ne hp
  cases hk : ds.all (·.2) with
  | true =>
    rw [hk] at h
    obtain ⟨r, nd, nz, nf⟩ := m.own hn hk
    have r' := r.fresh (u := o) hp
    have np : p ∉ G := fun z => (r.cel p z).ne hp
    have s2 : Sim K cl σ (W1.put p o) := s1.put hp
    have t2 : StepE ms W (W1.put p o) := (t.trans s s1 (StepE.put (ms := []) hp)).mono fun i h => by simpa using h
    rcases mk true G r' with q | q
    · exact h (W1.put p o) (.ref p) G rfl s2 t2 ⟨q, fun _ => nd, fun _ => nz, fun _ => nf, fun e => Bool.noConfusion e⟩ fun _ => m.from_
    · refine h (W1.put p o) (.ref p) (p :: G) rfl s2 t2 ⟨q, fun _ => List.nodup_cons.mpr ⟨np, nd⟩, fun _ a z => ?_, fun _ a z => ?_, fun e => Bool.noConfusion e⟩ fun _ a z => ?_
      · rcases List.mem_cons.mp z with e | z
        · rw [e]; exact fun w => s1.zt p w hp
        · exact nz a z
      · rcases List.mem_cons.mp z with e | z
        · rw [e]; exact fresh_p
        · exact nf a z
      · rcases List.mem_cons.mp z with e | z
        · rw [e]; exact .inl (t.free hp)
        · exact m.from_ a z
  | false =>
    rw [hk] at h
    obtain ⟨F, r, mF⟩ := (m.ins hn).rds
    have r' := r.fresh (u := o) hp
    refine PostOk.res h s s1 t (Sx := Src W ms W1 (varss es)) (fun a z => z) (Same.put hp) ?_
    unfold Res
    rw [if_neg Bool.false_ne_true]
    rcases mk false F r' with q | q
    · exact ⟨F, q, fun a z => .inl (mF a z)⟩
    · refine ⟨p :: F, q, fun a z => ?_⟩
      rcases List.mem_cons.mp z with e | z
      · rw [e]; exact .inr hp
      · exact .inl (mF a z)
theorem tr_tup {es : List Ex} (hn : noIo es = true) (h : trE K cl L Wx (.tup es) σ H Q) : tTup (trA K cl L Wx es) σ H Q := by
  obtain ⟨W, eH, s, hgo⟩ := h
  refine ⟨W, eH, s, ?_⟩
  simp only [ev] at hgo
  simp only [muts, vars] at hgo
  cases h1 : evs L es W.st with
  | err => rw [h1] at hgo; exact hgo
  | exc c fs st' => rw [h1] at hgo; exact hgo
  | ok ds st1 =>
    rw [h1] at hgo
    intro W1 vs G e1 s1 t1 m1
    subst e1
    dsimp only at hgo
    split at hgo
    · rename_i hz
      exact ⟨by rw [← m1.len]; exact hz, fun p hp => disp_out hgo s s1 t1 m1 hn hp fun k F r => .inl (.tup upd_same r)⟩
    · exact hgo.elim
theorem tr_lst {es : List Ex} (hn : noIo es = true) (h : trE K cl L Wx (.lst es) σ H Q) : tLst (trA K cl L Wx es) σ H Q := by
  obtain ⟨W, eH, s, hgo⟩ := h
  refine ⟨W, eH, s, ?_⟩
  simp only [ev] at hgo
  simp only [muts, vars] at hgo
  cases h1 : evs L es W.st with
  | err => rw [h1] at hgo; exact hgo
  | exc c fs st' => rw [h1] at hgo; exact hgo
  | ok ds st1 =>
    rw [h1] at hgo
    intro W1 vs G e1 s1 t1 m1
    subst e1
    dsimp only at hgo
    split at hgo
    · rename_i hz
      exact ⟨by rw [← m1.len]; exact hz, fun p hp => disp_out hgo s s1 t1 m1 hn hp fun k F r => .inr (.lst upd_same r)⟩
    · exact hgo.elim
end
end VS

-- VS.Call
/-! Calls of the text's own defs. -/
namespace VS
open PySem PySem.Spec PyProof.Rows L2

/-- a def's promise where no text is being made of an object -/
structure FnG (P : Program) (w : World) (K : PySem.W.Frag) (mg : Str → Option Value) (base : Heap) (k : Nat) (f : Addr) (fd : FuncData) (ps : List Str) (sp : Sp) : Prop where
  len : ∀ vs H Q E, sp vs H Q E → vs.length = ps.length
  run : ∀ (A : Around) (outer : List Env) (s : Shared) (H : Hp) (args : Args) (us : List Value) (vs : List V) (Q : VK) (E : XK), A.guards = some [] → Room k A → Env0 P w K mg base A outer s H →
    BindsTo s fd args (ps.zip us) → Vals vs us → sp vs H Q E → codeAny (model P w) A (.call (.ref f) args) (CR (L2.CX P w) outer P w H s Q E) s

def ioIx (io : List Bool) : List Nat := (List.range io.length).filter fun j => io[j]? == some true
/-- what a callee's names have at its end: the places that it may change -/
def IsOut (c : Fn) (outs : List D) (os : List Ob) (st : S) : Prop := st.os = os ∧ ∀ j, st.get j = ((placeOuts c.io outs)[j]?).join
/-- a def's promise by the small language -/
def spF (T : Tb) (cl : String → Addr → Prop) (n : Nat) (K : PySem.W.Frag) (f : String) : Sp := fun vs H Q E =>
  ∃ c W0 args, T.fns f = some c ∧ vs.length = c.many ∧ c.io.length = c.many ∧ args.length = c.many ∧ W0.H = H ∧ W0.st = startS c args W0.st.os ∧ Sim K cl (start c.names vs) W0 ∧
  match callF T n f args W0.st.os with
  | .ok d k outs os => ∀ W' v F, IsOut c outs os W'.st → Sim K cl (start c.names vs) W' → Step (ioIx c.io) W0 W' → Tmp K W' [] d k v F → (k = true → ∀ a ∈ F, From W0 (ioIx c.io) a) → Q v W'.H
  | .exc e fs outs os => ∀ W' cls dd, IsOut c outs os W'.st → Sim K cl (start c.names vs) W' → Step (ioIx c.io) W0 W' → ExcAt K cl W' e fs cls dd → E cls dd W'.H
  | .err => False

/-- the arguments of a call, each with its cells -/
inductive Args (K : PySem.W.Frag) (σ : L2.St) (W0 W : Wd) (ms : List Nat) (all : List Nat) : List Ex → List D → List V → List (List Addr) → Prop
  | nil : Args K σ W0 W ms all [] [] [] []
  | io {i d v es as vs Fs} : σ[i]? = some (some v) → W.st.get i = some (d, true) → Args K σ W0 W ms all es as vs Fs → Args K σ W0 W ms all (.io i :: es) (d :: as) (v :: vs) (W.Fs (.s i) :: Fs)
  | val {e d k v F us es as vs Fs} : isIo e = false → (∀ i ∈ us, i ∈ vars e) → Tmp K W us d k v F → (cf d = true → F = []) → (k = true → ∀ a ∈ F, From W0 ms a) → (k = true ∨ disj us all = true) →
      Args K σ W0 W ms all es as vs Fs → Args K σ W0 W ms all (e :: es) (d :: as) (v :: vs) (F :: Fs)

section
variable {K : PySem.W.Frag} {cl : String → Addr → Prop} {σ : L2.St} {W W1 : Wd} {ms all : List Nat}
theorem args_of {es ds vs G} (t : Tmps K σ W W1 ms es ds vs G) : ∀ {as}, fill W1.st es ds = some as → ((es.zip ds).all fun p => isIo p.1 || (p.2.2 || disj (vars p.1) all)) = true → ∃ Fs, Args K σ W W1 ms all es as vs Fs := by
  induction t with
  | nil => intro as h _; simp [fill] at h; subst h; exact ⟨[], .nil⟩
  | @io i v es ds vs G hv _ ih =>
    intro as h o
    simp only [fill] at h
    cases e : W1.st.get i with
    | none => rw [e] at h; cases h
    | some p =>
      obtain ⟨d, k⟩ := p
      rw [e] at h
      cases k with
      | false => cases h
      | true =>
        dsimp only at h
        cases e2 : fill W1.st es ds with
        | none => rw [e2] at h; cases h
        | some as' =>
          rw [e2] at h
          cases h
          obtain ⟨Fs, a⟩ := ih e2 (by simp only [List.zip_cons_cons, List.all_cons, Bool.and_eq_true] at o; exact o.2)
          exact ⟨_, .io hv e a⟩
  | @cons e es d k v F ds vs G he m f _ _ ih =>
    intro as h o
    have h' : (fill W1.st es ds).map (d :: ·) = some as := by cases e <;> first | exact h | (simp [isIo] at he)
    cases e2 : fill W1.st es ds with
    | none => rw [e2] at h'; cases h'
    | some as' =>
      rw [e2] at h'
      cases h'
      simp only [List.zip_cons_cons, List.all_cons, Bool.and_eq_true] at o
      obtain ⟨Fs, a⟩ := ih e2 o.2
      have o1 : k = true ∨ disj (vars e) all = true := by
        have := o.1
        rw [he] at this
        simpa using this
      cases c : cf d with
      | true => exact ⟨_, .val he (fun _ h => h) (m.flat (k' := k) c) (fun _ => rfl) (fun _ _ z => nomatch z) o1 a⟩
      | false => exact ⟨_, .val he (fun _ h => h) m (fun z => by rw [c] at z; cases z) f o1 a⟩
/-- what a call is lent is frozen -/
theorem Args.ice {es as vs Fs} (t : Args K σ W W1 ms all es as vs Fs) : ∀ {G : List Addr}, (∀ F ∈ Fs, ∀ a ∈ F, a ∈ G) → Args K σ W (W1.ice G) ms all es as vs Fs := by
  induction t with
  | nil => exact fun _ => .nil
  | io hv he _ ih => exact fun h => .io hv he (ih fun F m => h F (by simp [m]))
  | @val e d k v F us es as vs Fs hi hu m c f o _ ih =>
    intro G h
    refine .val (k := false) (us := if k = true then [] else us) hi (fun i z => ?_) ⟨m.rd.weak, fun e => Bool.noConfusion e, fun e => Bool.noConfusion e, fun e => Bool.noConfusion e, fun _ a z => ?_⟩ c (fun e => Bool.noConfusion e) (.inr ?_) (ih fun F m => h F (by simp [m]))
    · cases k with
      | true => simp at z
      | false => exact hu i (by simpa using z)
    · cases k with
      | true => exact .inl (.inr ⟨h F (by simp) a z, fun p => m.nf rfl a z p⟩)
      | false =>
        rcases m.sh rfl a z with w | ⟨i, q, w⟩
        · exact .inl (.inl w)
        · exact .inr ⟨i, by simpa using q, w⟩
    · cases k with
      | true => simp [disj]
      | false =>
        rcases o with o | o
        · cases o
        · simpa using o
/-- one argument -/
theorem Args.get {es as vs Fs} (t : Args K σ W W1 ms all es as vs Fs) : ∀ {j : Nat} {d : D}, as[j]? = some d → ∃ e v F, es[j]? = some e ∧ vs[j]? = some v ∧ Fs[j]? = some F ∧
    ((∃ i, e = .io i ∧ W1.st.get i = some (d, true) ∧ σ[i]? = some (some v) ∧ F = W1.Fs (.s i)) ∨
     (isIo e = false ∧ ∃ k us, (∀ i ∈ us, i ∈ vars e) ∧ Tmp K W1 us d k v F ∧ (cf d = true → F = []) ∧ (k = true → ∀ a ∈ F, From W ms a) ∧ (k = true ∨ disj us all = true))) := by
  induction t with
  | nil => intro j d h; simp at h
  | @io i d v es as vs Fs hv he _ ih =>
    intro j x h
    cases j with
    | zero => simp at h; subst h; exact ⟨_, _, _, rfl, rfl, rfl, .inl ⟨i, rfl, he, hv, rfl⟩⟩
    | succ j => obtain ⟨e, v', F, a, b, c, r⟩ := ih (j := j) (d := x) (by simpa using h); exact ⟨e, v', F, by simpa using a, by simpa using b, by simpa using c, r⟩
  | @val e d k v F us es as vs Fs hi hu m c f o _ ih =>
    intro j x h
    cases j with
    | zero => simp at h; subst h; exact ⟨_, _, _, rfl, rfl, rfl, .inr ⟨hi, k, us, hu, m, c, f, o⟩⟩
    | succ j => obtain ⟨e, v', F, a, b, c, r⟩ := ih (j := j) (d := x) (by simpa using h); exact ⟨e, v', F, by simpa using a, by simpa using b, by simpa using c, r⟩
theorem Args.len {es as vs Fs} (t : Args K σ W W1 ms all es as vs Fs) : as.length = es.length ∧ vs.length = es.length ∧ Fs.length = es.length := by
  induction t with
  | nil => simp
  | io _ _ _ ih => simp [ih]
  | val _ _ _ _ _ _ _ ih => simp [ih]
theorem iosOf_mem : ∀ {es : List Ex} {i j : Nat}, es[j]? = some (.io i) → i ∈ iosOf es
  | [], _, _, h => by simp at h
  | e :: es, i, 0, h => by simp at h; subst h; simp [iosOf]
  | e :: es, i, j + 1, h => by
    have := iosOf_mem (es := es) (i := i) (j := j) (by simpa using h)
    cases e <;> simp [iosOf, this]
theorem iosOf_mutss : ∀ {es : List Ex} {i : Nat}, i ∈ iosOf es → i ∈ mutss es
  | [], _, h => by simp [iosOf] at h
  | e :: es, i, h => by
    simp only [mutss, List.mem_append]
    by_cases he : isIo e = true
    · cases e <;> simp [isIo] at he
      simp only [iosOf, List.mem_cons] at h
      rcases h with h | h
      · exact .inl (by simp [muts, h])
      · exact .inr (iosOf_mutss h)
    · have : iosOf (e :: es) = iosOf es := by cases e <;> first | rfl | (simp [isIo] at he)
      rw [this] at h
      exact .inr (iosOf_mutss h)
theorem iosOf_one : ∀ {es : List Ex} {i j j' : Nat}, (iosOf es).Nodup → es[j]? = some (.io i) → es[j']? = some (.io i) → j = j'
  | [], _, _, _, _, h, _ => by simp at h
  | e :: es, i, j, j', nd, h, h' => by
    have nd' : (iosOf es).Nodup := by cases e <;> first | exact nd | exact (List.nodup_cons.mp nd).2
    cases j with
    | zero =>
      cases j' with
      | zero => rfl
      | succ j' =>
        simp at h
        subst h
        exact absurd (iosOf_mem (es := es) (by simpa using h')) (List.nodup_cons.mp nd).1
    | succ j =>
      cases j' with
      | zero =>
        simp at h'
        subst h'
        exact absurd (iosOf_mem (es := es) (by simpa using h)) (List.nodup_cons.mp nd).1
      | succ j' => exact congrArg (· + 1) (iosOf_one nd' (i := i) (by simpa using h) (by simpa using h'))

/-- the world as the callee has it -/
def Wd.into (W : Wd) (c : Fn) (es : List Ex) (as : List D) (Fs : List (List Addr)) : Wd where
  ρ := W.ρ
  st := startS c as W.st.os
  H := W.H
  Fs := fun | .s j => (Fs[j]?).getD [] | .f o n => W.Fs (.f o n)
  Z := fun a => W.Z a ∨ ∃ (j : Nat) (e : Ex) (F : List Addr), es[j]? = some e ∧ isIo e = false ∧ Fs[j]? = some F ∧ a ∈ F
theorem startS_get {c : Fn} {as : List D} {os : List Ob} {j : Nat} (hl : as.length = c.io.length) {p : D × Bool} : (startS c as os).get j = some p ↔ ∃ d b, as[j]? = some d ∧ c.io[j]? = some b ∧ p = (d, b || cf d) := by
  have hz : (as.zip c.io).length = as.length := by simp [hl]
  unfold startS S.get
  dsimp only
  by_cases h : j < as.length
  · have h2 : j < c.io.length := by omega
    have hzz : (as.zip c.io)[j]? = some (as[j], c.io[j]) := List.getElem?_zip_eq_some.mpr ⟨List.getElem?_eq_getElem h, List.getElem?_eq_getElem h2⟩
    rw [List.getElem?_append_left (by rw [List.length_map, hz]; exact h), List.getElem?_map, hzz]
    simp only [Option.map_some, Option.join_some, Option.some.injEq]
    constructor
    · intro e
      exact ⟨_, _, List.getElem?_eq_getElem h, List.getElem?_eq_getElem h2, e.symm⟩
    · rintro ⟨d, b, e1, e2, e⟩
      rw [List.getElem?_eq_getElem h] at e1
      rw [List.getElem?_eq_getElem h2] at e2
      cases e1
      cases e2
      exact e.symm
  · constructor
    · intro e
      rw [List.getElem?_append_right (by rw [List.length_map, hz]; omega), List.getElem?_replicate] at e
      split at e <;> cases e
    · rintro ⟨d, b, e1, _, _⟩
      rw [List.getElem?_eq_none (by omega)] at e1
      cases e1
end
end VS

-- VS.Call2
/-! The callee's world, and the caller's behind the call. -/
namespace VS
open PySem PySem.Spec PyProof.Rows L2

section
variable {K : PySem.W.Frag} {cl : String → Addr → Prop} {σ : L2.St} {W W1 : Wd} {ms : List Nat}
theorem isIo_get {es : List Ex} {j : Nat} {e : Ex} (h : es[j]? = some e) : (es.map isIo)[j]? = some (isIo e) := by rw [List.getElem?_map, h]; rfl
theorem isIo_iff {e : Ex} (h : isIo e = true) : ∃ i, e = .io i := by cases e <;> simp [isIo] at h; exact ⟨_, rfl⟩
/-- what stands at a parameter -/
theorem into_at {c : Fn} {es : List Ex} {as vs Fs} (hio : c.io = es.map isIo) (t : Args K σ W W1 ms (mutss es) es as vs Fs) {j : Nat} {d : D} {k : Bool} (h : (W1.into c es as Fs).st.get j = some (d, k)) :
    ∃ e v F, as[j]? = some d ∧ es[j]? = some e ∧ vs[j]? = some v ∧ (W1.into c es as Fs).Fs (.s j) = F ∧ k = (isIo e || cf d) ∧
    ((∃ i, e = .io i ∧ W1.st.get i = some (d, true) ∧ σ[i]? = some (some v) ∧ F = W1.Fs (.s i)) ∨
     (isIo e = false ∧ ∃ k' us, (∀ i ∈ us, i ∈ vars e) ∧ Tmp K W1 us d k' v F ∧ (cf d = true → F = []) ∧ (k' = true → ∀ a ∈ F, From W ms a) ∧ (k' = true ∨ disj us (mutss es) = true) ∧ Fs[j]? = some F)) := by
  have hl : as.length = c.io.length := by rw [hio, List.length_map, t.len.1]
  obtain ⟨d', b, e1, e2, e3⟩ := (startS_get hl).mp h
  cases e3
  obtain ⟨e, v, F, a1, a2, a3, r⟩ := t.get e1
  rw [hio, isIo_get a1] at e2
  cases e2
  refine ⟨e, v, F, e1, a1, a2, by show (Fs[j]?).getD [] = F; rw [a3]; rfl, rfl, ?_⟩
  rcases r with r | ⟨r1, k', us, r0, r2, r3, r4, r5⟩
  · exact .inl r
  · exact .inr ⟨r1, k', us, r0, r2, r3, r4, r5, a3⟩
theorem into_none {c : Fn} {es : List Ex} {as vs Fs} (hio : c.io = es.map isIo) (t : Args K σ W W1 ms (mutss es) es as vs Fs) {j : Nat} (h : (W1.into c es as Fs).st.get j = none) : (W1.into c es as Fs).Fs (.s j) = [] := by
  have hl : as.length = c.io.length := by rw [hio, List.length_map, t.len.1]
  show (Fs[j]?).getD [] = []
  by_cases hj : j < as.length
  · have : (W1.into c es as Fs).st.get j = some (as[j], c.io[j]'(by omega) || cf as[j]) := (startS_get hl).mpr ⟨_, _, List.getElem?_eq_getElem hj, List.getElem?_eq_getElem (by omega), rfl⟩
    rw [this] at h
    cases h
  · rw [List.getElem?_eq_none (by rw [t.len.2.2, ← t.len.1]; omega)]
    rfl
/-- cells of an argument that is handed over do not lie in a place that the caller owns, but for what it lends -/
theorem arg_apart (s : Sim K cl σ W1) {es : List Ex} {d : D} {k : Bool} {v : V} {F : List Addr} {us : List Nat} (m : Tmp K W1 us d k v F) (hd : k = true ∨ disj us (mutss es) = true) {p : Pl} (o : Own W1 p) (hp : Mt (iosOf es) p) :
    ∀ a ∈ F, a ∉ W1.Fs p := fun a ma mp => by
  cases k with
  | true => exact m.nf rfl a ma p mp
  | false =>
    have dv : disj us (mutss es) = true := by rcases hd with hd | hd; cases hd; exact hd
    rcases m.sh rfl a ma with z | ⟨i, hi, z⟩
    · exact o.notZ s mp z
    · rcases s.own_or z with w | w
      · have e := Own.one s o w mp z
        subst e
        exact disj_of dv i hi (iosOf_mutss hp)
      · exact o.notZ s mp w
theorem Sim.into (s : Sim K cl σ W1) {c : Fn} {es : List Ex} {as vs Fs} (hio : c.io = es.map isIo) (hnd : (iosOf es).Nodup) (t : Args K σ W W1 ms (mutss es) es as vs Fs) : Sim K cl (L2.start c.names vs) (W1.into c es as Fs) := by
  have obj : ∀ o n, (W1.into c es as Fs).st.at (.f o n) = W1.st.at (.f o n) := fun _ _ => rfl
  refine ⟨fun p d k h => ?_, fun o ob h => s.ob o ob h, s.rl, s.rn, fun p h => ?_, fun p d h => ?_, fun p d h a m z => ?_, fun p d h a m => ?_, fun p r d e hpr h h' a m m' => ?_, fun a z => ?_, ?_⟩
  · cases p with
    | s j =>
      obtain ⟨e, v, F, h1, h2, h3, h4, h5, h6⟩ := into_at hio t h
      refine ⟨v, ?_, ?_⟩
      · show (L2.start c.names vs)[j]? = some (some v)
        have hj : j < vs.length := (List.getElem?_eq_some_iff.mp h3).1
        unfold L2.start
        rw [List.getElem?_append_left (by simpa using hj), List.getElem?_map, h3]
        rfl
      · rw [h4]
        rcases h6 with ⟨i, he, hg, hv, hF⟩ | ⟨hi, k', us, _, m, hc, _, _, _⟩
        · subst he
          have hk : k = true := by rw [h5]; rfl
          subst hk
          obtain ⟨v', hv', hr⟩ := s.rd (.s i) d true hg
          have : v' = v := by
            have hv2 : σ[i]? = some (some v') := hv'
            rw [hv] at hv2
            exact (Option.some.inj (Option.some.inj hv2)).symm
          rw [this] at hr
          rw [hF]
          exact hr
        · rw [hi, Bool.false_or] at h5
          subst h5
          cases c' : cf d with
          | true => rw [hc c'] at m ⊢; exact (m.rd.flat (o' := true) c').2
          | false => exact m.rd.weak
    | f o n => exact s.rd (.f o n) d k h
  · cases p with
    | s j => exact into_none hio t h
    | f o n => exact s.non (.f o n) h
  · cases p with
    | s j =>
      obtain ⟨e, v, F, h1, h2, h3, h4, h5, h6⟩ := into_at hio t h
      rw [h4]
      rcases h6 with ⟨i, he, hg, hv, hF⟩ | ⟨hi, k', us, _, m, hc, _, _, _⟩
      · rw [hF]; exact s.nd (.s i) d hg
      · rw [hi, Bool.false_or] at h5
        rw [hc h5.symm]
        exact List.nodup_nil
    | f o n => exact s.nd (.f o n) d h
  · -- what is owned is not frozen
    have main : ∀ p', Own W1 p' → Mt (iosOf es) p' → a ∈ W1.Fs p' → False := fun p' o hm ma => by
      rcases z with z | ⟨j', e', F', g1, g2, g3, g4⟩
      · exact o.notZ s ma z
      · have hj : j' < as.length := by rw [t.len.1]; exact (List.getElem?_eq_some_iff.mp g1).1
        obtain ⟨e2, v2, F2, b1, b2, b3, r⟩ := t.get (List.getElem?_eq_getElem hj)
        rw [g1] at b1; cases b1
        rw [g3] at b3; cases b3
        rcases r with ⟨i, he, _⟩ | ⟨_, k', us, _, m', _, _, hd⟩
        · subst he; simp [isIo] at g2
        · exact arg_apart s m' hd o hm a g4 ma
    cases p with
    | s j =>
      obtain ⟨e, v, F, h1, h2, h3, h4, h5, h6⟩ := into_at hio t h
      rw [h4] at m
      rcases h6 with ⟨i, he, hg, hv, hF⟩ | ⟨hi, k', us, _, m', hc, _, _, _⟩
      · subst he
        rw [hF] at m
        exact main (.s i) ⟨d, hg⟩ (iosOf_mem h2) m
      · rw [hi, Bool.false_or] at h5
        rw [hc h5.symm] at m
        cases m
    | f o n => exact main (.f o n) ⟨d, h⟩ trivial m
  · cases p with
    | s j =>
      obtain ⟨e, v, F, h1, h2, h3, h4, h5, h6⟩ := into_at hio t h
      rw [h4] at m
      rcases h6 with ⟨i, he, hg, hv, hF⟩ | ⟨hi, k', us, _, m', hc, _, _, hF⟩
      · subst he; cases h5
      · exact .inr ⟨j, e, F, h2, hi, hF, m⟩
    | f o n => exact .inl (s.frz (.f o n) d h a m)
  · -- owned places apart
    have loc : ∀ j d, (W1.into c es as Fs).st.at (.s j) = some (d, true) → ∀ a ∈ (W1.into c es as Fs).Fs (.s j), ∃ i, es[j]? = some (.io i) ∧ Own W1 (.s i) ∧ a ∈ W1.Fs (.s i) := fun j d h a m => by
      obtain ⟨e, v, F, h1, h2, h3, h4, h5, h6⟩ := into_at hio t h
      rw [h4] at m
      rcases h6 with ⟨i, he, hg, hv, hF⟩ | ⟨hi, k', us, _, m', hc, _, _, _⟩
      · subst he
        rw [hF] at m
        exact ⟨i, h2, ⟨d, hg⟩, m⟩
      · rw [hi, Bool.false_or] at h5
        rw [hc h5.symm] at m
        cases m
    cases p with
    | s j =>
      obtain ⟨i, hi, o, q⟩ := loc j d h a m
      cases r with
      | s j' =>
        obtain ⟨i', hi', o', q'⟩ := loc j' e h' a m'
        have := Own.one s o o' q q'
        cases this
        exact hpr (congrArg Pl.s (iosOf_one hnd hi hi'))
      | f o2 n => exact nomatch Own.one s o (r := .f o2 n) ⟨e, h'⟩ q m'
    | f o2 n =>
      cases r with
      | s j' =>
        obtain ⟨i', hi', o', q'⟩ := loc j' e h' a m'
        exact nomatch Own.one s (p := .f o2 n) ⟨d, h⟩ o' m q'
      | f o3 n' => exact hpr (Own.one s (p := .f o2 n) (r := .f o3 n') ⟨d, h⟩ ⟨e, h'⟩ m m')
  · rcases z with z | ⟨j', e', F', g1, g2, g3, g4⟩
    · exact s.zt a z
    · have hj : j' < as.length := by rw [t.len.1]; exact (List.getElem?_eq_some_iff.mp g1).1
      obtain ⟨e2, v2, F2, b1, b2, b3, r⟩ := t.get (List.getElem?_eq_getElem hj)
      rw [g1] at b1; cases b1
      rw [g3] at b3; cases b3
      rcases r with ⟨i, he, _⟩ | ⟨_, k', us, _, m', _, _, hd⟩
      · subst he; simp [isIo] at g2
      · exact (m'.rd.cel a g4).ne

  · show (startS c as W1.st.os).sl.length = (L2.start c.names vs).length
    have l1 := t.len.1
    have l2 := t.len.2.1
    have l3 : c.io.length = es.length := by rw [hio, List.length_map]
    unfold startS L2.start
    simp only [List.length_append, List.length_map, List.length_zip, List.length_replicate]
    omega

/-- at which parameter a place of the caller's stands -/
def posIo : List Ex → Nat → Option Nat
  | [], _ => none
  | .io i :: r, x => if i = x then some 0 else (posIo r x).map (· + 1)
  | _ :: r, x => (posIo r x).map (· + 1)
theorem posIo_some : ∀ {es : List Ex} {x j : Nat}, posIo es x = some j → es[j]? = some (.io x)
  | [], _, _, h => by simp [posIo] at h
  | e :: es, x, j, h => by
    by_cases he : isIo e = true
    · obtain ⟨i, rfl⟩ := isIo_iff he
      simp only [posIo] at h
      split at h
      · rename_i q; subst q; cases h; rfl
      · obtain ⟨j', h1, rfl⟩ := Option.map_eq_some_iff.mp h
        simpa using posIo_some h1
    · have : posIo (e :: es) x = (posIo es x).map (· + 1) := by cases e <;> first | rfl | (simp [isIo] at he)
      rw [this] at h
      obtain ⟨j', h1, rfl⟩ := Option.map_eq_some_iff.mp h
      simpa using posIo_some h1
theorem posIo_none : ∀ {es : List Ex} {x : Nat}, posIo es x = none → x ∉ iosOf es
  | [], _, _ => by simp [iosOf]
  | e :: es, x, h => by
    by_cases he : isIo e = true
    · obtain ⟨i, rfl⟩ := isIo_iff he
      simp only [posIo] at h
      split at h
      · cases h
      · rename_i q
        have := posIo_none (es := es) (x := x) (by simpa using h)
        simp only [iosOf, List.mem_cons, not_or]
        exact ⟨fun z => q z.symm, this⟩
    · have e1 : posIo (e :: es) x = (posIo es x).map (· + 1) := by cases e <;> first | rfl | (simp [isIo] at he)
      have e2 : iosOf (e :: es) = iosOf es := by cases e <;> first | rfl | (simp [isIo] at he)
      rw [e1] at h
      rw [e2]
      exact posIo_none (by simpa using h)
theorem S.set_get {st : S} {i x : Nat} {v : Option (D × Bool)} : (st.set i v).get x = if i = x then (if x < st.sl.length then v else none) else st.get x := by
  unfold S.set S.get
  dsimp only
  rw [List.getElem?_set]
  split
  · rename_i h
    subst h
    split <;> rfl
  · rfl
theorem S.get_lt {st : S} {i : Nat} {v : D × Bool} (h : st.get i = some v) : i < st.sl.length := by
  unfold S.get at h
  cases e : st.sl[i]? with
  | none => rw [e] at h; cases h
  | some x => exact (List.getElem?_eq_some_iff.mp e).1
theorem back_len : ∀ (es : List Ex) (st : S) (outs : List D), (back st es outs).sl.length = st.sl.length
  | [], st, outs => by cases outs <;> rfl
  | e :: es, st, outs => by
    by_cases he : isIo e = true
    · obtain ⟨i, rfl⟩ := isIo_iff he
      cases outs with
      | nil => show (back st es []).sl.length = _; exact back_len es st []
      | cons o os => show (back (st.set i _) es os).sl.length = _; rw [back_len]; simp [S.set]
    · have : back st (e :: es) outs = back st es outs := by cases e <;> cases outs <;> first | rfl | (simp [isIo] at he)
      rw [this, back_len]
theorem placeOuts_nil : ∀ (io : List Bool) (j : Nat), ((placeOuts io [])[j]?).join = none
  | [], j => by simp [placeOuts]
  | true :: r, 0 => rfl
  | false :: r, 0 => rfl
  | true :: r, j + 1 => by simpa [placeOuts] using placeOuts_nil r j
  | false :: r, j + 1 => by simpa [placeOuts] using placeOuts_nil r j
/-- what stands behind the call -/
theorem back_get : ∀ {es : List Ex} {st : S} {outs : List D} {x : Nat}, (iosOf es).Nodup → (∀ i ∈ iosOf es, i < st.sl.length) → (outs.length = (iosOf es).length) →
    (back st es outs).get x = match posIo es x with | some j => ((placeOuts (es.map isIo) outs)[j]?).join | none => st.get x
  | [], st, outs, x, _, _, _ => by cases outs <;> rfl
  | e :: es, st, outs, x, nd, hi, hl => by
    by_cases he : isIo e = true
    · obtain ⟨i, rfl⟩ := isIo_iff he
      cases outs with
      | nil => simp [iosOf] at hl
      | cons o os =>
        have nd' := (List.nodup_cons.mp nd)
        have hi' : ∀ j ∈ iosOf es, j < (st.set i (some (o, true))).sl.length := fun j hj => by
          have := hi j (by simp [iosOf, hj])
          simpa [S.set] using this
        have ih := back_get (es := es) (st := st.set i (some (o, true))) (outs := os) (x := x) nd'.2 hi' (by simpa [iosOf] using hl)
        show (back (st.set i (some (o, true))) es os).get x = _
        rw [ih]
        simp only [posIo]
        by_cases q : i = x
        · subst q
          rw [if_pos rfl]
          have : posIo es i = none := by
            cases e : posIo es i with
            | none => rfl
            | some j => exact absurd (iosOf_mem (posIo_some e)) nd'.1
          rw [this]
          dsimp only
          rw [S.set_get, if_pos rfl, if_pos (hi i (by simp [iosOf]))]
          rfl
        · rw [if_neg q]
          cases e : posIo es x with
          | none =>
            dsimp only [Option.map_none]
            rw [S.set_get, if_neg q]
          | some j => rfl
    · have e1 : posIo (e :: es) x = (posIo es x).map (· + 1) := by cases e <;> first | rfl | (simp [isIo] at he)
      have e2 : iosOf (e :: es) = iosOf es := by cases e <;> first | rfl | (simp [isIo] at he)
      have e3 : back st (e :: es) outs = back st es outs := by cases e <;> cases outs <;> first | rfl | (simp [isIo] at he)
      have e4 : isIo e = false := by simpa using he
      rw [e2] at nd hi hl
      rw [e3, e1, back_get nd hi hl]
      cases posIo es x with
      | none => rfl
      | some j =>
        dsimp only [Option.map_some]
        rw [List.map_cons, e4]
        cases outs <;> rfl
end
end VS

-- VS.Call3
/-! The caller's world behind a call. -/
namespace VS
open PySem PySem.Spec PyProof.Rows L2

def Wd.outOf (W1 W' : Wd) (es : List Ex) (outs : List D) : Wd where
  ρ := W'.ρ
  st := { back W1.st es outs with os := W'.st.os }
  H := W'.H
  Fs := fun | .s x => (match posIo es x with | some j => W'.Fs (.s j) | none => W1.Fs (.s x)) | .f o n => W'.Fs (.f o n)
  Z := fun a => W1.Z a ∨ (W'.Z a ∧ ∀ x d, posIo es x = none → W1.st.get x = some (d, true) → a ∉ W1.Fs (.s x))
section
variable {K : PySem.W.Frag} {cl : String → Addr → Prop} {σ σ' : L2.St} {W W1 W' : Wd} {ms : List Nat} {c : Fn} {es : List Ex} {as outs : List D} {vs : List V} {Fs : List (List Addr)} {os : List Ob}

theorem ioIx_mem {io : List Bool} {j : Nat} : j ∈ ioIx io ↔ io[j]? = some true := by
  unfold ioIx
  rw [List.mem_filter, List.mem_range]
  constructor
  · rintro ⟨_, h⟩; simpa using h
  · intro h; exact ⟨(List.getElem?_eq_some_iff.mp h).1, by simp [h]⟩
theorem placeOuts_get : ∀ {io : List Bool} {outs : List D} {j : Nat} {p : D × Bool}, ((placeOuts io outs)[j]?).join = some p → io[j]? = some true ∧ p.2 = true
  | [], _, j, p, h => by simp [placeOuts] at h
  | true :: r, o :: os, 0, p, h => by simp [placeOuts] at h; rw [← h]; exact ⟨rfl, rfl⟩
  | true :: r, [], 0, p, h => by simp [placeOuts] at h
  | false :: r, os, 0, p, h => by cases os <;> simp [placeOuts] at h
  | true :: r, o :: os, j + 1, p, h => by
    have := placeOuts_get (io := r) (outs := os) (j := j) (p := p) (by simpa [placeOuts] using h)
    simpa using this
  | true :: r, [], j + 1, p, h => by
    have := placeOuts_get (io := r) (outs := []) (j := j) (p := p) (by simpa [placeOuts] using h)
    simpa using this
  | false :: r, os, j + 1, p, h => by
    have := placeOuts_get (io := r) (outs := os) (j := j) (p := p) (by cases os <;> simpa [placeOuts] using h)
    simpa using this

/-- what the callee may change, in the caller's eyes -/
theorem mc_into (hio : c.io = es.map isIo) (t : Args K σ W W1 ms (mutss es) es as vs Fs) {a : Addr} (m : Mc (W1.into c es as Fs) (ioIx c.io) a) : Mc W1 (iosOf es) a := by
  obtain ⟨p, hp, ⟨d, o⟩, ma⟩ := m
  cases p with
  | s j =>
    obtain ⟨e, v, F, h1, h2, h3, h4, h5, h6⟩ := into_at hio t o
    rw [h4] at ma
    rcases h6 with ⟨i, he, hg, hv, hF⟩ | ⟨hi, _⟩
    · subst he
      rw [hF] at ma
      exact ⟨.s i, iosOf_mem h2, ⟨d, hg⟩, ma⟩
    · have := ioIx_mem.mp (show j ∈ ioIx c.io from hp)
      rw [hio, isIo_get h2, hi] at this
      cases this
  | f o' n => exact ⟨.f o' n, trivial, ⟨d, o⟩, ma⟩
/-- the cells of a place of the callee's -/
theorem cells_into (hio : c.io = es.map isIo) (t : Args K σ W W1 ms (mutss es) es as vs Fs) (u : Step (ioIx c.io) (W1.into c es as Fs) W') {j x : Nat} (hx : posIo es x = some j) {a : Addr} (ma : a ∈ W'.Fs (.s j)) (nz : ¬ W'.Z a) : (∃ d, W1.st.get x = some (d, true) ∧ a ∈ W1.Fs (.s x)) ∨ Mc W1 (iosOf es) a ∨ W1.H a = none := by
  have he := posIo_some hx
  rcases u.fs _ a ma with z | z | z | z
  · exact absurd z.2 nz
  · have hj : j < as.length := by rw [t.len.1]; exact (List.getElem?_eq_some_iff.mp he).1
    obtain ⟨e, v, F, b1, b2, b3, r⟩ := t.get (List.getElem?_eq_getElem hj)
    rw [he] at b1; cases b1
    have z' : a ∈ (Fs[j]?).getD [] := z
    rw [b3] at z'
    rcases r with ⟨i, e1, hg, _, hF⟩ | ⟨hi, _⟩
    · cases e1
      have z2 : a ∈ F := z'
      rw [hF] at z2
      exact .inl ⟨_, hg, z2⟩
    · simp [isIo] at hi
  · exact .inr (.inl (mc_into hio t z))
  · exact .inr (.inr z)
theorem not_own (s : Sim K cl σ W1) {x : Nat} {d : D} (hx : posIo es x = none) (hg : W1.st.get x = some (d, true)) {a : Addr} (ma : a ∈ W1.Fs (.s x)) : ¬ Mc W1 (iosOf es) a := fun ⟨p, hp, o, m⟩ => by
  have e := Own.one s (p := .s x) ⟨d, hg⟩ o ma m
  subst e
  exact posIo_none hx hp
theorem not_mc (s : Sim K cl σ W1) {x : Nat} (hx : posIo es x = none) {a : Addr} (ma : a ∈ W1.Fs (.s x)) : ¬ Mc W1 (iosOf es) a := fun mc => by
  rcases s.own_or ma with ⟨d, o⟩ | z
  · exact not_own s hx o ma mc
  · exact mc.notZ s z

theorem args_lt {all : List Nat} (t : Args K σ W W1 ms all es as vs Fs) : ∀ i ∈ iosOf es, i < W1.st.sl.length := by
  induction t with
  | nil => intro i hi; simp [iosOf] at hi
  | io hv he _ ih =>
    intro i hi
    simp only [iosOf, List.mem_cons] at hi
    rcases hi with rfl | hi
    · exact S.get_lt he
    · exact ih i hi
  | @val e d k v F us es as vs Fs he _ _ _ _ _ _ ih =>
    intro i hi
    have e2 : iosOf (e :: es) = iosOf es := by cases e <;> first | rfl | (simp [isIo] at he)
    rw [e2] at hi
    exact ih i hi
theorem out_get (hnd : (iosOf es).Nodup) (t : Args K σ W W1 ms (mutss es) es as vs Fs) (hl : outs.length = (iosOf es).length) (x : Nat) :
    (W1.outOf W' es outs).st.get x = match posIo es x with | some j => ((placeOuts (es.map isIo) outs)[j]?).join | none => W1.st.get x := by
  exact back_get hnd (args_lt t) hl

theorem io_nz (hio : c.io = es.map isIo) (s' : Sim K cl σ' W') (hst : IsOut c outs os W'.st) {y j : Nat} {a : Addr} (hy : posIo es y = some j) (ma : a ∈ W'.Fs (.s j)) : ¬ W'.Z a := by
  cases e : W'.st.get j with
  | none => rw [s'.non (.s j) e] at ma; cases ma
  | some p =>
    obtain ⟨d, k⟩ := p
    have : k = true := by
      rw [hst.2] at e
      exact (placeOuts_get (p := (d, k)) e).2
    subst this
    exact s'.own (.s j) d e a ma
theorem out_sim (s : Sim K cl σ W1) (hio : c.io = es.map isIo) (hnd : (iosOf es).Nodup) (t : Args K σ W W1 ms (mutss es) es as vs Fs) (s0 : Sim K cl (L2.start c.names vs) (W1.into c es as Fs)) (s' : Sim K cl (L2.start c.names vs) W')
    (hst : IsOut c outs os W'.st) (u : Step (ioIx c.io) (W1.into c es as Fs) W') (hl : outs.length = (iosOf es).length) : Sim K cl σ (W1.outOf W' es outs) := by
  have g : ∀ x, (W1.outOf W' es outs).st.get x = match posIo es x with | some j => W'.st.get j | none => W1.st.get x := fun x => by
    rw [out_get hnd t hl x]
    cases posIo es x with
    | none => rfl
    | some j => dsimp only; rw [hst.2, hio]
  have ioOwn : ∀ {x j : Nat} {d : D} {k : Bool}, posIo es x = some j → W'.st.get j = some (d, k) → k = true := fun {x j d k} hx h => by
    rw [hst.2] at h
    exact (placeOuts_get (p := (d, k)) h).2
  have ioNz : ∀ {y j : Nat} {a : Addr}, posIo es y = some j → a ∈ W'.Fs (.s j) → ¬ W'.Z a := fun {y j a} hy ma => by
    cases e : W'.st.get j with
    | none => rw [s'.non (.s j) e] at ma; cases ma
    | some p =>
      obtain ⟨d, k⟩ := p
      have := ioOwn hy e
      subst this
      exact s'.own (.s j) d e a ma
  have sne : ∀ {x : Nat} {d : D}, posIo es x = none → W1.st.get x = some (d, true) → ∀ a ∈ W1.Fs (.s x), ∀ o n, a ∉ W'.Fs (.f o n) := fun {x d} hx hg a ma o n mf => by
    rcases u.fs _ a mf with z | z | z | z
    · exact nomatch z.1
    · rcases s.own_or (p := .f o n) z with w | w
      · exact nomatch Own.one s (p := .s x) ⟨d, hg⟩ w ma z
      · exact s.own (.s x) d hg a ma w
    · exact not_own s hx hg ma (mc_into hio t z)
    · exact (s.cel ma).ne z
  have sni : ∀ {x : Nat} {d : D}, posIo es x = none → W1.st.get x = some (d, true) → ∀ a ∈ W1.Fs (.s x), ∀ y j, posIo es y = some j → a ∉ W'.Fs (.s j) := fun {x d} hx hg a ma y j hy mf => by
    rcases cells_into hio t u hy mf (ioNz hy mf) with ⟨d', h1, h2⟩ | z | z
    · have := Own.one s (p := .s x) (r := .s y) ⟨d, hg⟩ ⟨d', h1⟩ ma h2
      cases this
      rw [hx] at hy; cases hy
    · exact not_own s hx hg ma z
    · exact (s.cel ma).ne z
  have zz : ∀ a, W1.Z a → W'.Z a := fun a h => u.zz a (.inl h)
  refine ⟨fun p d k h => ?_, fun o ob h => ?_, ?_, s'.rn, fun p h => ?_, fun p d h => ?_, fun p d h a m z => ?_, fun p d h a m => ?_, fun p r d e hpr h h' a m m' => ?_, fun a z => ?_, (back_len _ _ _).trans s.ln⟩
  · cases p with
    | s x =>
      have h' : (W1.outOf W' es outs).st.get x = some (d, k) := h
      rw [g x] at h'
      show ∃ v, Val σ _ (.s x) v ∧ Rd K W'.ρ W'.H k d v (match posIo es x with | some j => W'.Fs (.s j) | none => W1.Fs (.s x))
      cases hx : posIo es x with
      | some j =>
        rw [hx] at h'
        obtain ⟨v, hv, hr⟩ := s'.rd (.s j) d k h'
        have he := posIo_some hx
        have hj : j < as.length := by rw [t.len.1]; exact (List.getElem?_eq_some_iff.mp he).1
        obtain ⟨e, v2, F, b1, b2, b3, r⟩ := t.get (List.getElem?_eq_getElem hj)
        rw [he] at b1; cases b1
        rcases r with ⟨i, e1, hg, hσ, hF⟩ | ⟨hi, _⟩
        · cases e1
          have hv' : (L2.start c.names vs)[j]? = some (some v) := hv
          have : v = v2 := by
            unfold L2.start at hv'
            rw [List.getElem?_append_left (by simpa using (List.getElem?_eq_some_iff.mp b2).1), List.getElem?_map, b2] at hv'
            exact (Option.some.inj (Option.some.inj hv')).symm
          subst this
          exact ⟨v, hσ, hr⟩
        · simp [isIo] at hi
      | none =>
        rw [hx] at h'
        obtain ⟨v, hv, hr⟩ := s.rd (.s x) d k h'
        exact ⟨v, hv, Step.rd (W := W1.into c es as Fs) s0 u hr fun a ma mc => not_mc s hx ma (mc_into hio t mc)⟩
    | f o n =>
      obtain ⟨v, hv, hr⟩ := s'.rd (.f o n) d k h
      exact ⟨v, hv, hr⟩
  · exact s'.ob o ob h
  · exact s'.rl
  · cases p with
    | s x =>
      have h' : (W1.outOf W' es outs).st.get x = none := h
      rw [g x] at h'
      show (match posIo es x with | some j => W'.Fs (.s j) | none => W1.Fs (.s x)) = []
      cases hx : posIo es x with
      | some j => rw [hx] at h'; exact s'.non (.s j) h'
      | none => rw [hx] at h'; exact s.non (.s x) h'
    | f o n => exact s'.non (.f o n) h
  · cases p with
    | s x =>
      have h' : (W1.outOf W' es outs).st.get x = some (d, true) := h
      rw [g x] at h'
      show (match posIo es x with | some j => W'.Fs (.s j) | none => W1.Fs (.s x)).Nodup
      cases hx : posIo es x with
      | some j => rw [hx] at h'; exact s'.nd (.s j) d h'
      | none => rw [hx] at h'; exact s.nd (.s x) d h'
    | f o n => exact s'.nd (.f o n) d h
  · cases p with
    | s x =>
      have h' : (W1.outOf W' es outs).st.get x = some (d, true) := h
      rw [g x] at h'
      have m' : a ∈ (match posIo es x with | some j => W'.Fs (.s j) | none => W1.Fs (.s x)) := m
      cases hx : posIo es x with
      | some j =>
        rw [hx] at h' m'
        rcases z with z | ⟨z, _⟩
        · exact s'.own (.s j) d h' a m' (zz a z)
        · exact s'.own (.s j) d h' a m' z
      | none =>
        rw [hx] at h' m'
        rcases z with z | ⟨_, z⟩
        · exact s.own (.s x) d h' a m' z
        · exact z x d hx h' m'
    | f o n =>
      rcases z with z | ⟨z, _⟩
      · exact s'.own (.f o n) d h a m (zz a z)
      · exact s'.own (.f o n) d h a m z
  · cases p with
    | s x =>
      have h' : (W1.outOf W' es outs).st.get x = some (d, false) := h
      rw [g x] at h'
      have m' : a ∈ (match posIo es x with | some j => W'.Fs (.s j) | none => W1.Fs (.s x)) := m
      cases hx : posIo es x with
      | some j => rw [hx] at h'; cases ioOwn hx h'
      | none => rw [hx] at h' m'; exact .inl (s.frz (.s x) d h' a m')
    | f o n => exact .inr ⟨s'.frz (.f o n) d h a m, fun x d' hx hg ma => sne hx hg a ma o n m⟩
  · have loc : ∀ x d, (W1.outOf W' es outs).st.at (.s x) = some (d, true) → a ∈ (W1.outOf W' es outs).Fs (.s x) → (∃ j, posIo es x = some j ∧ W'.st.get j = some (d, true) ∧ a ∈ W'.Fs (.s j)) ∨ (posIo es x = none ∧ W1.st.get x = some (d, true) ∧ a ∈ W1.Fs (.s x)) := fun x d h m => by
      have h' : (W1.outOf W' es outs).st.get x = some (d, true) := h
      rw [g x] at h'
      have m' : a ∈ (match posIo es x with | some j => W'.Fs (.s j) | none => W1.Fs (.s x)) := m
      cases hx : posIo es x with
      | some j => rw [hx] at h' m'; exact .inl ⟨j, rfl, h', m'⟩
      | none => rw [hx] at h' m'; exact .inr ⟨rfl, h', m'⟩
    cases p with
    | s x =>
      cases r with
      | s y =>
        rcases loc x d h m with ⟨j, x1, x2, x3⟩ | ⟨x1, x2, x3⟩
        · rcases loc y e h' m' with ⟨j', y1, y2, y3⟩ | ⟨y1, y2, y3⟩
          · have := Own.one s' (p := .s j) (r := .s j') ⟨d, x2⟩ ⟨e, y2⟩ x3 y3
            cases this
            have e1 := posIo_some x1
            rw [posIo_some y1] at e1
            cases e1
            exact hpr rfl
          · exact sni y1 y2 a y3 x j x1 x3
        · rcases loc y e h' m' with ⟨j', y1, y2, y3⟩ | ⟨y1, y2, y3⟩
          · exact sni x1 x2 a x3 y j' y1 y3
          · exact hpr (Own.one s (p := .s x) (r := .s y) ⟨d, x2⟩ ⟨e, y2⟩ x3 y3)
      | f o n =>
        rcases loc x d h m with ⟨j, x1, x2, x3⟩ | ⟨x1, x2, x3⟩
        · exact nomatch Own.one s' (p := .s j) (r := .f o n) ⟨d, x2⟩ ⟨e, h'⟩ x3 m'
        · exact sne x1 x2 a x3 o n m'
    | f o n =>
      cases r with
      | s y =>
        rcases loc y e h' m' with ⟨j', y1, y2, y3⟩ | ⟨y1, y2, y3⟩
        · exact nomatch Own.one s' (p := .f o n) (r := .s j') ⟨d, h⟩ ⟨e, y2⟩ m y3
        · exact sne y1 y2 a y3 o n m
      | f o2 n2 => exact hpr (Own.one s' (p := .f o n) (r := .f o2 n2) ⟨d, h⟩ ⟨e, h'⟩ m m')
  · rcases z with z | ⟨z, _⟩
    · exact u.there a (s.zt a z)
    · exact s'.zt a z

/-- behind the call: the step, and what it gives. All that was lent is frozen ahead (hz: every argument that is not a place is shared) -/
theorem out_step (s : Sim K cl σ W1) (hio : c.io = es.map isIo) (hnd : (iosOf es).Nodup) (t : Args K σ W W1 ms (mutss es) es as vs Fs) (u : Step (ioIx c.io) (W1.into c es as Fs) W') (hl : outs.length = (iosOf es).length)
    (hz : ∀ (j : Nat) (e : Ex) (F : List Addr), es[j]? = some e → isIo e = false → Fs[j]? = some F → ∀ a ∈ F, W1.Z a ∨ ∃ p, a ∈ W1.Fs p) (ioNz : ∀ {y j : Nat} {a : Addr}, posIo es y = some j → a ∈ W'.Fs (.s j) → ¬ W'.Z a) : StepE (iosOf es) W1 (W1.outOf W' es outs) := by
  refine ⟨⟨u.rho, fun a o e n m => u.keep a o e n fun z => m (mc_into hio t z), fun a h => u.there a h, fun p a m => ?_, fun a z => .inl z, fun a z => ?_⟩, fun i hi => ?_⟩
  · cases p with
    | s x =>
      have m' : a ∈ (match posIo es x with | some j => W'.Fs (.s j) | none => W1.Fs (.s x)) := m
      cases hx : posIo es x with
      | some j =>
        rw [hx] at m'
        rcases cells_into hio t u hx m' (ioNz hx m') with ⟨d, _, z⟩ | z | z
        · exact .inr (.inl z)
        · exact .inr (.inr (.inl z))
        · exact .inr (.inr (.inr z))
      | none => rw [hx] at m'; exact .inr (.inl m')
    | f o n =>
      rcases u.fs _ a m with z | z | z | z
      · exact nomatch z.1
      · exact .inr (.inl z)
      · exact .inr (.inr (.inl (mc_into hio t z)))
      · exact .inr (.inr (.inr z))
  · rcases z with z | ⟨z, _⟩
    · exact .inl z
    · rcases u.zn a z with w | w | ⟨p, w⟩
      · rcases w with w | ⟨j, e, F, h1, h2, h3, h4⟩
        · exact .inl w
        · rcases hz j e F h1 h2 h3 a h4 with q | q
          · exact .inl q
          · exact .inr (.inr q)
      · exact .inr (.inl w)
      · cases p with
        | s j =>
          have w' : a ∈ (Fs[j]?).getD [] := w
          cases hF : Fs[j]? with
          | none => rw [hF] at w'; cases w'
          | some F =>
            rw [hF] at w'
            have hj : j < es.length := by rw [← t.len.2.2]; exact (List.getElem?_eq_some_iff.mp hF).1
            obtain ⟨e, v, F2, b1, b2, b3, r⟩ := t.get (List.getElem?_eq_getElem (show j < as.length by rw [t.len.1]; exact hj))
            rw [hF] at b3; cases b3
            rcases r with ⟨i, e1, _, _, q⟩ | ⟨hi, _⟩
            · have w2 : a ∈ F := w'
              rw [q] at w2
              exact .inr (.inr ⟨_, w2⟩)
            · rcases hz j e F b1 hi hF a w' with q | q
              · exact .inl q
              · exact .inr (.inr q)
        | f o n => exact .inr (.inr ⟨.f o n, w⟩)
  · have hx : posIo es i = none := by
      cases hx : posIo es i with
      | none => rfl
      | some j => exact absurd (iosOf_mem (posIo_some hx)) hi
    refine ⟨?_, ?_⟩
    · rw [out_get hnd t hl i, hx]
    · show (match posIo es i with | some j => W'.Fs (.s j) | none => W1.Fs (.s i)) = W1.Fs (.s i)
      rw [hx]
theorem varss_mem : ∀ {es : List Ex} {j : Nat} {e : Ex} {i : Nat}, es[j]? = some e → i ∈ vars e → i ∈ varss es
  | [], _, _, _, h, _ => by simp at h
  | x :: es, 0, e, i, h, hi => by simp at h; subst h; simp [varss, hi]
  | x :: es, j + 1, e, i, h, hi => by simp only [varss, List.mem_append]; exact .inr (varss_mem (by simpa using h) hi)
theorem out_tmp (s : Sim K cl σ W1) (hio : c.io = es.map isIo) (t : Args K σ W W1 ms (mutss es) es as vs Fs) (u : Step (ioIx c.io) (W1.into c es as Fs) W') {d k v F} (m : Tmp K W' [] d k v F) (f : k = true → ∀ a ∈ F, From (W1.into c es as Fs) (ioIx c.io) a)
    (hz : ∀ (j : Nat) (e : Ex) (F : List Addr), es[j]? = some e → isIo e = false → Fs[j]? = some F → ∀ a ∈ F, W1.Z a ∨ ∃ i ∈ vars e, a ∈ W1.Fs (.s i)) : Tmp K (W1.outOf W' es outs) (varss es) d k v F where
  rd := m.rd
  nd := m.nd
  nz := fun e a ma z => by
    rcases z with z | ⟨z, _⟩
    · exact m.nz e a ma (u.zz a (.inl z))
    · exact m.nz e a ma z
  nf := fun e a ma p mp => by
    cases p with
    | s x =>
      have mp' : a ∈ (match posIo es x with | some j => W'.Fs (.s j) | none => W1.Fs (.s x)) := mp
      cases hx : posIo es x with
      | some j => rw [hx] at mp'; exact m.nf e a ma _ mp'
      | none =>
        rw [hx] at mp'
        rcases s.own_or mp' with ⟨d', o⟩ | z
        · rcases f e a ma with q | q
          · exact (s.cel mp').ne q
          · exact not_own s hx o mp' (mc_into hio t q)
        · exact m.nz e a ma (u.zz a (.inl z))
    | f o n => exact m.nf e a ma _ mp
  sh := fun e a ma => by
    have hW : W'.Z a := by
      rcases m.sh e a ma with z | ⟨i, hi, _⟩
      · exact z
      · cases hi
    by_cases q : ∃ x d', posIo es x = none ∧ W1.st.get x = some (d', true) ∧ a ∈ W1.Fs (.s x)
    · obtain ⟨x, d', hx, hg, mx⟩ := q
      refine .inr ⟨x, ?_, by show a ∈ (match posIo es x with | some j => W'.Fs (.s j) | none => W1.Fs (.s x)); rw [hx]; exact mx⟩
      have arg : ∀ (j : Nat) (e : Ex) (F : List Addr), es[j]? = some e → isIo e = false → Fs[j]? = some F → a ∈ F → x ∈ varss es := fun j e F h1 h2 h3 h4 => by
        rcases hz j e F h1 h2 h3 a h4 with q | ⟨i, hi, q⟩
        · exact absurd q (s.own (.s x) d' hg a mx)
        · rcases s.own_or q with w | w
          · have := Own.one s (p := .s x) ⟨d', hg⟩ w mx q
            cases this
            exact varss_mem h1 hi
          · exact absurd w (s.own (.s x) d' hg a mx)
      rcases u.zn a hW with w | w | ⟨p, w⟩
      · rcases w with w | ⟨j, e, F, h1, h2, h3, h4⟩
        · exact absurd w (s.own (.s x) d' hg a mx)
        · exact arg j e F h1 h2 h3 h4
      · exact absurd w (s.cel mx).ne
      · cases p with
        | s j =>
          have w' : a ∈ (Fs[j]?).getD [] := w
          cases hF : Fs[j]? with
          | none => rw [hF] at w'; cases w'
          | some F =>
            rw [hF] at w'
            have hj : j < es.length := by rw [← t.len.2.2]; exact (List.getElem?_eq_some_iff.mp hF).1
            obtain ⟨e, v, F2, b1, b2, b3, r⟩ := t.get (List.getElem?_eq_getElem (show j < as.length by rw [t.len.1]; exact hj))
            rw [hF] at b3; cases b3
            rcases r with ⟨i, e1, hg2, _, q⟩ | ⟨hi, _⟩
            · have w2 : a ∈ F := w'
              rw [q] at w2
              have := Own.one s (p := .s x) (r := .s i) ⟨d', hg⟩ ⟨_, hg2⟩ mx w2
              cases this
              subst e1
              exact absurd (iosOf_mem b1) (posIo_none hx)
            · exact arg j e F b1 hi hF w'
        | f o n =>
          have w' : a ∈ W1.Fs (.f o n) := w
          rcases s.own_or w' with q | q
          · exact nomatch Own.one s (p := .s x) ⟨d', hg⟩ q mx w'
          · exact absurd q (s.own (.s x) d' hg a mx)
    · exact .inl (.inr ⟨hW, fun x d' hx hg mx => q ⟨x, d', hx, hg, mx⟩⟩)
end
end VS

-- VS.Call4
/-! A call as an expression. -/
namespace VS
open PySem PySem.Spec PyProof.Rows L2

def lkOf (T : Tb) (n : Nat) : Lk := ⟨fun g => (T.fns g).map (·.io), callF T n, T.glb⟩
theorem go_len {c : Fn} {st : S} : ∀ {io : List Bool} {i : Nat} {o : List D}, outsOf.go st io i = some o → o.length = (io.filter id).length
  | [], i, o, h => by simp [outsOf.go] at h; subst h; rfl
  | true :: r, i, o, h => by
    simp only [outsOf.go] at h
    cases e : st.get i with
    | none => rw [e] at h; cases h
    | some p =>
      obtain ⟨d, k⟩ := p
      rw [e] at h
      cases k with
      | false => cases h
      | true =>
        obtain ⟨o', h', rfl⟩ := Option.map_eq_some_iff.mp h
        simp [go_len (c := c) h']
  | false :: r, i, o, h => by
    simp only [outsOf.go] at h
    simp [go_len (c := c) h]
theorem iosOf_len : ∀ es : List Ex, (iosOf es).length = ((es.map isIo).filter id).length
  | [] => rfl
  | e :: es => by
    by_cases he : isIo e = true
    · obtain ⟨i, rfl⟩ := isIo_iff he
      simp [iosOf, isIo, iosOf_len es]
    · have e2 : iosOf (e :: es) = iosOf es := by cases e <;> first | rfl | (simp [isIo] at he)
      have e4 : isIo e = false := by simpa using he
      rw [e2, iosOf_len es]
      simp [e4]
theorem callF_len {T : Tb} {n : Nat} {f : String} {args : List D} {os : List Ob} : (∀ {d k outs os'}, callF T n f args os = .ok d k outs os' → ∃ c, T.fns f = some c ∧ args.length = c.many ∧ outs.length = (c.io.filter id).length) ∧
    (∀ {e fs outs os'}, callF T n f args os = .exc e fs outs os' → ∃ c, T.fns f = some c ∧ args.length = c.many ∧ outs.length = (c.io.filter id).length) := by
  cases n with
  | zero => exact ⟨fun h => by simp [callF] at h, fun h => by simp [callF] at h⟩
  | succ n =>
    simp only [callF]
    cases hc : T.fns f with
    | none => exact ⟨fun h => by simp at h, fun h => by simp at h⟩
    | some c =>
      dsimp only
      split
      · rename_i hl
        generalize execs _ c.body (startS c args os) = r
        refine ⟨fun {d k outs os'} h => ⟨c, rfl, hl, ?_⟩, fun {e fs outs os'} h => ⟨c, rfl, hl, ?_⟩⟩
        · cases r with
          | next st =>
            simp only [endS] at h
            cases ho : outsOf c st with
            | none => rw [ho] at h; cases h
            | some o => rw [ho] at h; cases h; exact go_len (c := c) ho
          | ret d' k' st =>
            simp only [endS] at h
            cases ho : outsOf c st with
            | none => rw [ho] at h; cases h
            | some o => rw [ho] at h; cases h; exact go_len (c := c) ho
          | exc a b st =>
            simp only [endS] at h
            cases ho : outsOf c st with
            | none => rw [ho] at h; cases h
            | some o => rw [ho] at h; cases h
          | brk st => cases h
          | cnt st => cases h
          | err => cases h
        · cases r with
          | next st =>
            simp only [endS] at h
            cases ho : outsOf c st with
            | none => rw [ho] at h; cases h
            | some o => rw [ho] at h; cases h
          | ret d' k' st =>
            simp only [endS] at h
            cases ho : outsOf c st with
            | none => rw [ho] at h; cases h
            | some o => rw [ho] at h; cases h
          | exc a b st =>
            simp only [endS] at h
            cases ho : outsOf c st with
            | none => rw [ho] at h; cases h
            | some o => rw [ho] at h; cases h; exact go_len (c := c) ho
          | brk st => cases h
          | cnt st => cases h
          | err => cases h
      · exact ⟨fun h => by simp at h, fun h => by simp at h⟩

section
variable {K : PySem.W.Frag} {cl : String → Addr → Prop} {T : Tb} {n : Nat} {σ : L2.St} {Wx : WX} {W W1 : Wd} {Q : VK} {H : Hp}
theorem fill_len : ∀ {es : List Ex} {ds : List (D × Bool)} {as : List D} {st : S}, fill st es ds = some as → as.length = es.length
  | [], [], as, st, h => by simp [fill] at h; subst h; rfl
  | [], _ :: _, as, st, h => by simp [fill] at h
  | e :: es, ds, as, st, h => by
    cases ds with
    | nil => cases e <;> simp [fill] at h
    | cons p ds =>
      by_cases he : isIo e = true
      · obtain ⟨i, rfl⟩ := isIo_iff he
        simp only [fill] at h
        cases e1 : st.get i with
        | none => rw [e1] at h; cases h
        | some x =>
          obtain ⟨d, k⟩ := x
          rw [e1] at h
          cases k with
          | false => cases h
          | true =>
            obtain ⟨o', h', rfl⟩ := Option.map_eq_some_iff.mp h
            simp [fill_len h']
      · have h2 : (fill st es ds).map (p.1 :: ·) = some as := by
          obtain ⟨d, k⟩ := p
          cases e <;> first | exact h | (simp [isIo] at he)
        obtain ⟨o', h', rfl⟩ := Option.map_eq_some_iff.mp h2
        simp [fill_len h']
/-- all that is handed over lies frozen, or in what was lent -/
theorem ice_cells {es : List Ex} {as : List D} {vs : List V} {Fs : List (List Addr)} {ms all : List Nat} (t : Args K σ W W1 ms all es as vs Fs) : ∀ {G : List Addr}, (∀ F ∈ Fs, ∀ a ∈ F, a ∈ G) → ∀ (j : Nat) (e : Ex) (F : List Addr), es[j]? = some e → isIo e = false → Fs[j]? = some F → ∀ a ∈ F, (W1.ice G).Z a ∨ ∃ i ∈ vars e, a ∈ W1.Fs (.s i) := by
  induction t with
  | nil => intro G _ j e F h; simp at h
  | @io i d v es as vs Fs hv he _ ih =>
    intro G hG j e F h1 h2 h3
    cases j with
    | zero => simp at h1; subst h1; simp [isIo] at h2
    | succ j => exact ih (fun F m => hG F (by simp [m])) j e F (by simpa using h1) h2 (by simpa using h3)
  | @val e d k v F us es as vs Fs hi hu m c f o _ ih =>
    intro G hG j e' F' h1 h2 h3
    cases j with
    | zero =>
      simp at h1 h3
      subst h1 h3
      intro a ma
      cases k with
      | true => exact .inl (.inr ⟨hG F (by simp) a ma, fun p => m.nf rfl a ma p⟩)
      | false =>
        rcases m.sh rfl a ma with z | ⟨i, hi', z⟩
        · exact .inl (.inl z)
        · exact .inr ⟨i, hu i hi', z⟩
    | succ j => exact ih (fun F m => hG F (by simp [m])) j e' F' (by simpa using h1) h2 (by simpa using h3)
theorem ice_from (s : Sim K cl σ W1) {es : List Ex} {as : List D} {vs : List V} {Fs : List (List Addr)} {ms all : List Nat} (t : Args K σ W W1 ms all es as vs Fs) : ∀ F ∈ Fs, ∀ a ∈ F, Cel W1.H a ∧ ((∀ p, a ∉ W1.Fs p) → W1.Z a ∨ From W ms a) := by
  induction t with
  | nil => intro F m; cases m
  | @io i d v es as vs Fs hv he _ ih =>
    intro F m a ma
    rcases List.mem_cons.mp m with e | m
    · subst e
      exact ⟨s.cel ma, fun h => absurd ma (h _)⟩
    · exact ih F m a ma
  | @val e d k v F us es as vs Fs hi hu m c f o _ ih =>
    intro F' m' a ma
    rcases List.mem_cons.mp m' with e | m'
    · subst e
      refine ⟨m.rd.cel a ma, fun h => ?_⟩
      cases k with
      | true => exact .inr (f rfl a ma)
      | false =>
        rcases m.sh rfl a ma with z | ⟨i, _, z⟩
        · exact .inl z
        · exact absurd z (h _)
    · exact ih F' m' a ma
theorem varss_io : ∀ {es : List Ex}, ∀ i ∈ iosOf es, i ∈ mutss es := fun {es} i h => iosOf_mutss h
theorem tr_call {f : String} {es : List Ex} (hT : ∀ f c, T.fns f = some c → c.io.length = c.many) (h : trE K cl (lkOf T n) Wx (.call f es) σ H Q) : tCallS (spF T cl n K f) (WE Wx) (trA K cl (lkOf T n) Wx es) σ H Q := by
  obtain ⟨W, eH, s, hgo⟩ := h
  refine ⟨W, eH, s, ?_⟩
  simp only [ev] at hgo
  simp only [muts, vars] at hgo
  cases hio : (lkOf T n).io f with
  | none => rw [hio] at hgo; exact hgo.elim
  | some ms =>
    rw [hio] at hgo
    dsimp only at hgo
    split at hgo
    · rename_i hq
      obtain ⟨hms, hnd⟩ := hq
      cases h1 : evs (lkOf T n) es W.st with
      | err => rw [h1] at hgo; exact hgo
      | exc c fs st' => rw [h1] at hgo; exact hgo
      | ok ds st1 =>
        rw [h1] at hgo
        intro W1 vs G e1 s1 t1 m1
        subst e1
        dsimp only at hgo
        split at hgo
        · rename_i hok
          cases h2 : fill W1.st es ds with
          | none => rw [h2] at hgo; exact hgo.elim
          | some as =>
            rw [h2] at hgo
            dsimp only at hgo
            obtain ⟨Fs, t0⟩ := args_of (all := mutss es) m1 h2 hok
            -- what is lent is frozen
            have hG : ∀ F ∈ Fs, ∀ a ∈ F, a ∈ Fs.flatten := fun F hF a ha => List.mem_flatten.mpr ⟨F, hF, ha⟩
            have fr := ice_from s1 t0
            have inF : ∀ a ∈ Fs.flatten, ∃ F ∈ Fs, a ∈ F := fun a ha => let ⟨F, h1, h2⟩ := List.mem_flatten.mp ha; ⟨F, h1, h2⟩
            have s2 : Sim K cl σ (W1.ice Fs.flatten) := s1.ice fun a ha => let ⟨F, h1, h2⟩ := inF a ha; (fr F h1 a h2).1.ne
            have t2 : StepE (mutss es) W (W1.ice Fs.flatten) := t1.ice fun a ha hn => let ⟨F, h1, h2⟩ := inF a ha; (fr F h1 a h2).2 hn
            have t3 := t0.ice hG
            have hz := ice_cells t0 hG
            obtain ⟨c, hc, hcio⟩ : ∃ c, T.fns f = some c ∧ c.io = es.map isIo := by
              have : (T.fns f).map (·.io) = some ms := hio
              cases hc : T.fns f with
              | none => rw [hc] at this; cases this
              | some c =>
                rw [hc] at this
                refine ⟨c, rfl, ?_⟩
                have e : c.io = ms := Option.some.inj this
                rw [e, hms]
            have s0 := Sim.into (c := c) s2 hcio hnd t3
            have lm : c.many = es.length := by rw [← hT f c hc, hcio, List.length_map]
            refine ⟨c, (W1.ice Fs.flatten).into c es as Fs, as, hc, by rw [lm]; exact t3.len.2.1, hT f c hc, by rw [lm]; exact t3.len.1, rfl, rfl, s0, ?_⟩
            show match callF T n f as W1.st.os with | .ok d k outs os => _ | .exc e fs outs os => _ | .err => False
            have hrun : (lkOf T n).run f as W1.st.os = callF T n f as W1.st.os := rfl
            rw [hrun] at hgo
            cases hr : callF T n f as W1.st.os with
            | err => rw [hr] at hgo; exact hgo
            | ok d k outs os =>
              rw [hr] at hgo
              dsimp only at hgo ⊢
              obtain ⟨c', hc', _, hlen⟩ := callF_len.1 hr
              rw [hc] at hc'; cases hc'
              have hl : outs.length = (iosOf es).length := by rw [hlen, iosOf_len, hcio]
              intro W' v F e' s' u' m' f'
              have so := out_sim s2 hcio hnd t3 s0 s' e' u' hl
              have st := out_step s2 hcio hnd t3 u' hl (fun j e F h1 h2 h3 a ha => (hz j e F h1 h2 h3 a ha).imp id fun ⟨i, _, q⟩ => ⟨.s i, q⟩) (fun h1 h2 => io_nz hcio s' e' h1 h2)
              have tm := out_tmp (outs := outs) s2 hcio t3 u' m' f' hz
              have tt : StepE (mutss es) W ((W1.ice Fs.flatten).outOf W' es outs) := (t2.trans s s2 st).mono fun i hi => by
                rcases List.mem_append.mp hi with z | z
                · exact z
                · exact iosOf_mutss z
              refine hgo ((W1.ice Fs.flatten).outOf W' es outs) v F ?_ so tt tm fun ek a ha => ?_
              · show ({ back W1.st es outs with os := W'.st.os } : S) = _
                rw [e'.1]
              · have q : From (W1.ice Fs.flatten) (iosOf es) a := (f' ek a ha).imp id fun z => mc_into hcio t3 z
                refine (q.back s s2 t2.toStep).mono fun i hi => ?_
                rcases List.mem_append.mp hi with z | z
                · exact z
                · exact iosOf_mutss z
            | exc x fs outs os =>
              rw [hr] at hgo
              dsimp only at hgo ⊢
              obtain ⟨c', hc', _, hlen⟩ := callF_len.2 hr
              rw [hc] at hc'; cases hc'
              have hl : outs.length = (iosOf es).length := by rw [hlen, iosOf_len, hcio]
              intro W' cls dd e' s' u' x'
              have so := out_sim s2 hcio hnd t3 s0 s' e' u' hl
              have st := out_step s2 hcio hnd t3 u' hl (fun j e F h1 h2 h3 a ha => (hz j e F h1 h2 h3 a ha).imp id fun ⟨i, _, q⟩ => ⟨.s i, q⟩) (fun h1 h2 => io_nz hcio s' e' h1 h2)
              have tt : StepE (mutss es) W ((W1.ice Fs.flatten).outOf W' es outs) := (t2.trans s s2 st).mono fun i hi => by
                rcases List.mem_append.mp hi with z | z
                · exact z
                · exact iosOf_mutss z
              refine hgo ((W1.ice Fs.flatten).outOf W' es outs) cls dd ?_ so tt x'
              show ({ back W1.st es outs with os := W'.st.os } : S) = _
              rw [e'.1]
        · exact hgo.elim
    · exact hgo.elim
end
end VS

-- VS.Mut
/-! What is changed at a place. -/
namespace VS
open PySem PySem.Spec PyProof.Rows L2

/-- along texts within dicts -/
inductive PathV (H : Hp) : V → List (List Nat) → V → Prop
  | nil {v} : PathV H v [] v
  | cons {a k u r w} : DGet H a (.str (q k)) (some u) → PathV H u r w → PathV H (.ref a) (k :: r) w

section
variable {K : PySem.W.Frag} {ρ : List Addr} {H H' : Hp}
theorem repD_map {κ : Type} [DecidableEq κ] : ∀ {ps : List (κ × D)} {k : κ} {v : D}, (repD ps k v).map (·.1) = ps.map (·.1)
  | [], _, _ => rfl
  | (c, x) :: r, k, v => by
    simp only [repD]
    split
    · rfl
    · simp [repD_map (ps := r)]
theorem Rd.to (kk : Bool) {d v F} (h : VS.Rd K ρ H true d v F) : VS.Rd K ρ H kk d v F := by
  cases kk with
  | true => exact h
  | false => exact h.weak
theorem Rds.to (kk : Bool) {ds vs F} (h : Rds K ρ H true ds vs F) : Rds K ρ H kk ds vs F := by
  cases kk with
  | true => exact h
  | false => exact h.weak
/-- one of a dict's values, and the others -/
theorem one_of {κ : Type} [DecidableEq κ] : ∀ {ps : List (κ × D)} {kvs : List (κ × V)} {k : κ} {d : D} {F : List Addr}, kvs.map (·.1) = ps.map (·.1) → Rds K ρ H true (ps.map (·.2)) (kvs.map (·.2)) F → valD ps k = some d →
    ∃ u pre Fe post, valV kvs k = some u ∧ Rd K ρ H true d u Fe ∧ F = pre ++ Fe ++ post ∧
      ∀ (H' : Hp) kk d' Fe', (∀ a ∈ pre ++ post, H' a = H a) → (∀ a xs, H a = some (.tup xs) → H' a = some (.tup xs)) → (∀ a o w, H a = some (.frz o w) → H' a = some (.frz o w)) → Rd K ρ H' kk d' u Fe' →
        Rds K ρ H' kk ((repD ps k d').map (·.2)) (kvs.map (·.2)) (pre ++ Fe' ++ post)
  | [], kvs, k, d, F, _, _, h => by simp [valD] at h
  | (c, x) :: ps, [], k, d, F, e, _, _ => by simp at e
  | (c, x) :: ps, (c', u) :: kvs, k, d, F, e, r, h => by
    simp only [List.map_cons, List.cons.injEq] at e
    obtain ⟨e1, e2⟩ := e
    cases r with
    | @cons _ _ _ _ _ F1 F2 r1 r2 =>
      by_cases q : c = k
      · subst q
        have hd : d = x := by simpa [valD, List.find?_cons] using h.symm
        subst hd
        refine ⟨u, [], F1, F2, valV_pos e1, r1, by simp, fun H' kk d' Fe' hc ht hz hr => ?_⟩
        simp only [repD, if_pos, List.map_cons]
        exact .cons hr ((r2.keep (fun _ _ h => h) ⟨fun a m => hc a (by simpa using m), ht, hz⟩).to kk)
      · have h' : valD ps k = some d := by simpa [valD, List.find?_cons, q] using h
        obtain ⟨u', pre, Fe, post, g1, g2, g3, g4⟩ := one_of e2 r2 h'
        subst g3
        refine ⟨u', F1 ++ pre, Fe, post, ?_, g2, by simp [List.append_assoc], fun H' kk d' Fe' hc ht hz hr => ?_⟩
        · rw [valV_neg (by rw [e1]; exact q)]; exact g1
        · simp only [repD, if_neg q, List.map_cons]
          have w := g4 H' kk d' Fe' (fun a m => hc a (by simp only [List.mem_append] at m ⊢; rcases m with m | m <;> simp [m])) ht hz hr
          have w1 : Rd K ρ H' kk x u F1 := (r1.keep (fun _ _ h => h) ⟨fun a m => hc a (by simp [m]), ht, hz⟩).to kk
          have := Rds.cons w1 w
          simpa [List.append_assoc] using this
/-- a value within, and what it stands in -/
theorem focus {α : Type} {f : D → Option (D × α)} : ∀ {path : List (List Nat)} {d v F d' x}, Rd K ρ H true d v F → F.Nodup → atPath f path d = some (d', x) →
    ∃ u e e' pre Fe post, PathV H v path u ∧ Rd K ρ H true e u Fe ∧ F = pre ++ Fe ++ post ∧ f e = some (e', x) ∧
      ∀ (H' : Hp) kk Fe', (∀ a ∈ pre ++ post, H' a = H a) → (∀ a xs, H a = some (.tup xs) → H' a = some (.tup xs)) → (∀ a o w, H a = some (.frz o w) → H' a = some (.frz o w)) → Rd K ρ H' kk e' u Fe' → Rd K ρ H' kk d' v (pre ++ Fe' ++ post)
  | [], d, v, F, d', x, r, _, h => by
    simp only [atPath] at h
    exact ⟨v, d, d', [], F, [], .nil, r, by simp, h, fun H' kk Fe' _ _ _ hr => by simpa using hr⟩
  | k :: path, d, v, F, d', x, r, nd, h => by
    cases r with
    | @dct _ a kvs ps F0 ha e n t =>
      simp only [atPath] at h
      cases hv : valD ps (.inr (q k)) with
      | none => rw [hv] at h; cases h
      | some d1 =>
        rw [hv] at h
        dsimp only at h
        obtain ⟨⟨d2, x'⟩, h1, h2⟩ := Option.map_eq_some_iff.mp h
        cases h2
        obtain ⟨u, pre, Fe, post, g1, g2, g3, g4⟩ := one_of e t hv
        subst g3
        have nd' : Fe.Nodup := by
          have := (List.nodup_cons.mp nd).2
          exact (List.nodup_append.mp (List.nodup_append.mp this).1).2.1
        obtain ⟨w, e1, e2, pre', Fe', post', p1, p2, p3, p4, p5⟩ := focus (path := path) g2 nd' h1
        subst p3
        refine ⟨w, e1, e2, a :: (pre ++ pre'), Fe', post' ++ post, .cons ?_ p1, p2, by simp [List.append_assoc], p4, fun H' kk Fn hc ht hz hr => ?_⟩
        · rw [← g1]; exact DGet.k (k := .inr (q k)) ha
        · have h3 := p5 H' kk Fn (fun b m => hc b (by simp only [List.mem_append, List.mem_cons] at m ⊢; rcases m with m | m <;> simp [m])) ht hz hr
          have h4 := g4 H' kk _ _ (fun b m => hc b (by simp only [List.mem_append, List.mem_cons] at m ⊢; rcases m with m | m <;> simp [m])) ht hz h3
          have := Rd.dct (a := a) (ps := repD ps (.inr (q k)) d2) ((hc a (by simp)).trans ha) (by rw [repD_map]; exact e) (by rw [repD_map]; exact n) h4
          simpa [List.append_assoc] using this
    | dctT ha e n t => simp only [atPath] at h; cases h
    | tup ha t => simp only [atPath] at h; cases h
    | lst ha t => simp only [atPath] at h; cases h
    | non => simp only [atPath] at h; cases h
    | bl => simp only [atPath] at h; cases h
    | int => simp only [atPath] at h; cases h
    | str => simp only [atPath] at h; cases h
    | obj _ => simp only [atPath] at h; cases h
end

section
variable {K : PySem.W.Frag} {cl : String → Addr → Prop} {σ : L2.St} {W0 W : Wd} {ms : List Nat}
/-- a place's owner has changed it -/
def Wd.chg (W : Wd) (i : Nat) (v : Option (D × Bool)) (a : Addr) (o : HO) (F : List Addr) (Zn : Addr → Prop) : Wd where
  ρ := W.ρ
  st := W.st.set i v
  H := upd W.H a o
  Fs := fun p => if p = .s i then F else W.Fs p
  Z := fun b => W.Z b ∨ Zn b
theorem chg_at {i : Nat} {v : Option (D × Bool)} {a o F Zn} {p : Pl} (hi : i < W.st.sl.length) : (W.chg i v a o F Zn).st.at p = if p = .s i then v else W.st.at p := by
  cases p with
  | s j =>
    show (W.st.set i v).get j = _
    rw [S.set_get]
    by_cases e : i = j
    · subst e; rw [if_pos rfl, if_pos hi, if_pos rfl]
    · rw [if_neg e, if_neg (fun z => e (by cases z; rfl))]; rfl
  | f o n => rw [if_neg (by simp)]; rfl
/-- the owner's change of a cell of its own -/
theorem Sim.chg (s : Sim K cl σ W) {i : Nat} {d d' : D} {k : Bool} {v : V} {a : Addr} {o : HO} {F : List Addr} (hi : W.st.get i = some (d, true)) (hσ : σ[i]? = some (some v)) (ha : a ∈ W.Fs (.s i)) (ho : Cel (upd W.H a o) a)
    (r : Rd K W.ρ (upd W.H a o) k d' v F) (nd : k = true → F.Nodup) (hF : ∀ b ∈ F, b ∈ W.Fs (.s i) ∨ (k = true ∧ W.H b ≠ none ∧ ¬ W.Z b ∧ ∀ p, b ∉ W.Fs p) ∨ (k = false ∧ W.Z b)) :
    Sim K cl σ (W.chg i (some (d', k)) a o F fun b => k = false ∧ b ∈ F) := by
  have lt := S.get_lt hi
  have oi : Own W (.s i) := ⟨d, hi⟩
  have ca : Cel W.H a := s.cel ha
  have kp : ∀ b, b ≠ a → upd W.H a o b = W.H b := fun b h => upd_ne h
  have kt : ∀ b xs, W.H b = some (.tup xs) → upd W.H a o b = some (.tup xs) := fun b xs h => by rw [kp b fun e => ca.tup (e ▸ h)]; exact h
  have kz : ∀ b x u, W.H b = some (.frz x u) → upd W.H a o b = some (.frz x u) := fun b x u h => by rw [kp b fun e => ca.frz (e ▸ h)]; exact h
  have ki : ∀ b C dx fs, W.H b = some (.ins C dx fs) → upd W.H a o b = some (.ins C dx fs) := fun b C dx fs h => by rw [kp b fun e => ca.ins (e ▸ h)]; exact h
  have th : ∀ b, W.H b ≠ none → upd W.H a o b ≠ none := fun b h => by
    by_cases e : b = a
    · subst e; exact ho.ne
    · rw [kp b e]; exact h
  have out : ∀ p, p ≠ .s i → ∀ b ∈ W.Fs p, b ≠ a := fun p hp b hb e => by
    subst e
    rcases s.own_or hb with w | w
    · exact hp (Own.one s w oi hb ha)
    · exact oi.notZ s ha w
  refine ⟨fun p e k' h => ?_, fun x ob h => ?_, s.rl, s.rn, fun p h => ?_, fun p e h => ?_, fun p e h b m z => ?_, fun p e h b m => ?_, fun p r' e e' hpr h h' b m m' => ?_, fun b z => ?_, by show (W.st.sl.set i _).length = _; rw [List.length_set]; exact s.ln⟩
  · rw [chg_at lt] at h
    by_cases hp : p = .s i
    · subst hp
      rw [if_pos rfl] at h
      cases h
      refine ⟨v, hσ, ?_⟩
      show Rd K W.ρ (upd W.H a o) k d' v (if Pl.s i = Pl.s i then F else _)
      rw [if_pos rfl]
      exact r
    · rw [if_neg hp] at h
      obtain ⟨v', hv, hr⟩ := s.rd p e k' h
      refine ⟨v', ?_, ?_⟩
      · cases p with
        | s j => exact hv
        | f x n => obtain ⟨b, C, dx, fs, q1, q2, q3⟩ := hv; exact ⟨b, C, dx, fs, q1, ki b C dx fs q2, q3⟩
      · show Rd K W.ρ (upd W.H a o) k' e v' (if p = Pl.s i then F else W.Fs p)
        rw [if_neg hp]
        exact hr.keep (fun _ _ h => h) ⟨fun b m => kp b (out p hp b m), kt, kz⟩
  · obtain ⟨b, C, dx, fs, q1, q2, q3⟩ := s.ob x ob h
    exact ⟨b, C, dx, fs, q1, ki b C dx fs q2, q3⟩
  · rw [chg_at lt] at h
    by_cases hp : p = .s i
    · rw [if_pos hp] at h; cases h
    · rw [if_neg hp] at h
      show (if p = Pl.s i then F else W.Fs p) = []
      rw [if_neg hp]
      exact s.non p h
  · rw [chg_at lt] at h
    show (if p = Pl.s i then F else W.Fs p).Nodup
    by_cases hp : p = .s i
    · rw [if_pos hp] at h ⊢; cases h; exact nd rfl
    · rw [if_neg hp] at h ⊢; exact s.nd p e h
  · rw [chg_at lt] at h
    have m' : b ∈ (if p = Pl.s i then F else W.Fs p) := m
    by_cases hp : p = .s i
    · rw [if_pos hp] at h m'
      cases h
      rcases z with z | ⟨z, _⟩
      · rcases hF b m' with w | ⟨_, _, w, _⟩ | ⟨w, _⟩
        · exact oi.notZ s w z
        · exact w z
        · cases w
      · cases z
    · rw [if_neg hp] at h m'
      rcases z with z | ⟨z, w⟩
      · exact s.own p e h b m' z
      · rcases hF b w with q | ⟨q, _⟩ | ⟨_, q⟩
        · exact hp (Own.one s ⟨e, h⟩ oi m' q)
        · rw [z] at q; cases q
        · exact s.own p e h b m' q
  · rw [chg_at lt] at h
    have m' : b ∈ (if p = Pl.s i then F else W.Fs p) := m
    by_cases hp : p = .s i
    · rw [if_pos hp] at h m'
      cases h
      exact .inr ⟨rfl, m'⟩
    · rw [if_neg hp] at h m'
      exact .inl (s.frz p e h b m')
  · rw [chg_at lt] at h h'
    have n1 : b ∈ (if p = Pl.s i then F else W.Fs p) := m
    have n2 : b ∈ (if r' = Pl.s i then F else W.Fs r') := m'
    by_cases hp : p = .s i
    · rw [if_pos hp] at h n1
      have hr : r' ≠ .s i := fun z => hpr (hp.trans z.symm)
      rw [if_neg hr] at h' n2
      cases h
      rcases hF b n1 with w | ⟨_, _, _, w⟩ | ⟨w, _⟩
      · exact hr (Own.one s ⟨e', h'⟩ oi n2 w)
      · exact w r' n2
      · cases w
    · rw [if_neg hp] at h n1
      by_cases hr : r' = .s i
      · rw [if_pos hr] at h' n2
        cases h'
        rcases hF b n2 with w | ⟨_, _, _, w⟩ | ⟨w, _⟩
        · exact hp (Own.one s ⟨e, h⟩ oi n1 w)
        · exact w p n1
        · cases w
      · rw [if_neg hr] at h' n2
        exact s.dj p r' e e' hpr h h' b n1 n2
  · rcases z with z | ⟨_, z⟩
    · exact th b (s.zt b z)
    · rcases hF b z with w | ⟨_, w, _⟩ | ⟨_, w⟩
      · exact th b (s.cel w).ne
      · exact th b w
      · exact th b (s.zt b w)
/-- the step that this is -/
theorem Step.chg {σ0 : L2.St} (s0 : Sim K cl σ0 W0) (s : Sim K cl σ W) (t : Step ms W0 W) {i : Nat} {d : D} {k : Bool} {v : Option (D × Bool)} {a : Addr} {o : HO} {F : List Addr} (hi : W.st.get i = some (d, true)) (ha : a ∈ W.Fs (.s i)) (ho : Cel (upd W.H a o) a)
    (hF : ∀ b ∈ F, b ∈ W.Fs (.s i) ∨ (k = true ∧ From W0 ms b) ∨ (k = false ∧ W.Z b)) : Step (ms ++ [i]) W0 (W.chg i v a o F fun b => k = false ∧ b ∈ F) := by
  have oi : Own W (.s i) := ⟨d, hi⟩
  have ma : Mc W [i] a := ⟨.s i, by simp [Mt], oi, ha⟩
  have th : ∀ b, W.H b ≠ none → upd W.H a o b ≠ none := fun b h => by
    by_cases e : b = a
    · subst e; exact ho.ne
    · rw [upd_ne e]; exact h
  have own0 : ∀ b, b ∈ W.Fs (.s i) → W.Z b ∨ b ∈ W0.Fs (.s i) ∨ Mc W0 (ms ++ [i]) b ∨ W0.H b = none := fun b hb => by
    rcases t.fs _ b hb with w | w | w | w
    · exact .inl w.2
    · exact .inr (.inl w)
    · exact .inr (.inr (.inl (w.mono fun j hj => by simp [hj])))
    · exact .inr (.inr (.inr w))
  have zin : ∀ b, W.Z b → W0.Z b ∨ W0.H b = none ∨ ∃ p, b ∈ W0.Fs p := fun b h => t.zn b h
  refine ⟨t.rho, fun b u e n m => ?_, fun b h => th b (t.there b h), fun p b m => ?_, fun b h => .inl (t.zz b h), fun b z => ?_⟩
  · have hb : b ≠ a := fun e' => by
      subst e'
      rcases ma.back s0 s t with w | w
      · exact m w
      · rw [e] at w; cases w
    show upd W.H a o b = some u
    rw [upd_ne hb]
    exact t.keep b u e n fun z => m (z.mono fun j hj => by simp [hj])
  · have m' : b ∈ (if p = Pl.s i then F else W.Fs p) := m
    by_cases hp : p = .s i
    · rw [if_pos hp] at m'
      subst hp
      rcases hF b m' with w | ⟨_, w⟩ | ⟨_, w⟩
      · exact (own0 b w).imp (fun z => ⟨rfl, .inl z⟩) id
      · rcases w with w | w
        · exact .inr (.inr (.inr w))
        · exact .inr (.inr (.inl (w.mono fun j hj => by simp [hj])))
      · exact .inl ⟨rfl, .inl w⟩
    · rw [if_neg hp] at m'
      rcases t.fs p b m' with w | w | w | w
      · exact .inl ⟨w.1, .inl w.2⟩
      · exact .inr (.inl w)
      · exact .inr (.inr (.inl (w.mono fun j hj => by simp [hj])))
      · exact .inr (.inr (.inr w))
  · rcases z with z | ⟨_, z⟩
    · exact zin b z
    · rcases hF b z with w | ⟨_, w⟩ | ⟨_, w⟩
      · rcases t.fs _ b w with q | q | ⟨p, _, _, q⟩ | q
        · exact zin b q.2
        · exact .inr (.inr ⟨_, q⟩)
        · exact .inr (.inr ⟨p, q⟩)
        · exact .inr (.inl q)
      · rcases w with w | ⟨p, _, _, w⟩
        · exact .inr (.inl w)
        · exact .inr (.inr ⟨p, w⟩)
      · exact zin b w
end
end VS

-- VS.Mut2
/-! Changes of lists and dicts at their places. -/
namespace VS
open PySem PySem.Spec PyProof.Rows L2

/-- the place's object -/
def tPl (i : Nat) (path : List (List Nat)) : TE := fun σ H Q => ∃ v u, σ[i]? = some (some v) ∧ PathV H v path u ∧ Q u H
section
variable {K : PySem.W.Frag} {ρ : List Addr} {H H' : Hp}
theorem Rds.split {o} : ∀ {xs ys : List D} {vs F}, Rds K ρ H o (xs ++ ys) vs F → ∃ vs1 vs2 F1 F2, vs = vs1 ++ vs2 ∧ F = F1 ++ F2 ∧ Rds K ρ H o xs vs1 F1 ∧ Rds K ρ H o ys vs2 F2 ∧ vs1.length = xs.length
  | [], ys, vs, F, h => ⟨[], vs, [], F, rfl, rfl, .nil, h, rfl⟩
  | x :: xs, ys, vs, F, h => by
    cases h with
    | cons h1 h2 =>
      obtain ⟨vs1, vs2, F1, F2, rfl, rfl, a, b, c⟩ := Rds.split h2
      exact ⟨_ :: vs1, vs2, _ ++ F1, F2, rfl, by simp, .cons h1 a, b, by simp [c]⟩
theorem Rds.append {o} : ∀ {xs ys : List D} {vs us F G}, Rds K ρ H o xs vs F → Rds K ρ H o ys us G → Rds K ρ H o (xs ++ ys) (vs ++ us) (F ++ G)
  | [], ys, _, us, _, G, .nil, h => h
  | x :: xs, ys, _, us, _, G, .cons h1 h2, h => by
    have := Rds.cons h1 (Rds.append h2 h)
    simpa [List.append_assoc] using this
theorem Rds.one {o} {x : D} {vs F} (h : Rds K ρ H o [x] vs F) : ∃ v, vs = [v] ∧ Rd K ρ H o x v F := by
  cases h with
  | cons h1 h2 =>
    cases h2
    exact ⟨_, rfl, by simpa using h1⟩
/-- at another cell nothing changes -/
theorem Rd.off {o d v F} (r : Rd K ρ H o d v F) {a : Addr} {u : HO} (hc : Cel H a) (n : a ∉ F) : Rd K ρ (upd H a u) o d v F :=
  r.keep (fun _ _ h => h) ⟨fun b m => upd_ne fun e => n (e ▸ m), fun b xs h => by rw [upd_ne fun e => hc.tup (e ▸ h)]; exact h, fun b o u h => by rw [upd_ne fun e => hc.frz (e ▸ h)]; exact h⟩
theorem Rds.off {o ds vs F} (r : Rds K ρ H o ds vs F) {a : Addr} {u : HO} (hc : Cel H a) (n : a ∉ F) : Rds K ρ (upd H a u) o ds vs F :=
  r.keep (fun _ _ h => h) ⟨fun b m => upd_ne fun e => n (e ▸ m), fun b xs h => by rw [upd_ne fun e => hc.tup (e ▸ h)]; exact h, fun b o u h => by rw [upd_ne fun e => hc.frz (e ▸ h)]; exact h⟩
end
section
variable {K : PySem.W.Frag} {cl : String → Addr → Prop} {L : Lk} {σ : L2.St} {Wx : WX} {W W1 : Wd} {ms vs : List Nat} {Q : VK} {H : Hp}
theorem cel_lst {a : Addr} {xs} : Cel (upd H a (.lst xs)) a := .inl ⟨xs, upd_same⟩
/-- what the owner finds at a path, and how it changes it -/
theorem place {α : Type} {f : D → Option (D × α)} {i : Nat} {path : List (List Nat)} {d d' : D} {x : α} (s : Sim K cl σ W) (hi : W.st.get i = some (d, true)) (h : atPath f path d = some (d', x)) :
    ∃ v u e e' pre Fe post, σ[i]? = some (some v) ∧ PathV W.H v path u ∧ Rd K W.ρ W.H true e u Fe ∧ W.Fs (.s i) = pre ++ Fe ++ post ∧ f e = some (e', x) ∧ (pre ++ Fe ++ post).Nodup ∧
      ∀ (a : Addr) (o : HO) kk Fe', Cel W.H a → a ∈ Fe → Rd K W.ρ (upd W.H a o) kk e' u Fe' → Rd K W.ρ (upd W.H a o) kk d' v (pre ++ Fe' ++ post) := by
  obtain ⟨v, hv, r⟩ := s.rd (.s i) d true hi
  have nd := s.nd (.s i) d hi
  obtain ⟨u, e, e', pre, Fe, post, p1, p2, p3, p4, p5⟩ := focus r nd h
  refine ⟨v, u, e, e', pre, Fe, post, hv, p1, p2, p3, p4, by rw [← p3]; exact nd, fun a o kk Fe' hc ha hr => ?_⟩
  rw [p3] at nd
  obtain ⟨n1, n2, n3⟩ := List.nodup_append.mp nd
  obtain ⟨m1, m2, m3⟩ := List.nodup_append.mp n1
  refine p5 (upd W.H a o) kk Fe' (fun b hb => upd_ne fun e => ?_) (fun b xs h => by rw [upd_ne fun e => hc.tup (e ▸ h)]; exact h) (fun b o u h => by rw [upd_ne fun e => hc.frz (e ▸ h)]; exact h) hr
  subst e
  rcases List.mem_append.mp hb with z | z
  · exact m3 b z b ha rfl
  · exact n3 b (List.mem_append.mpr (.inr ha)) b z rfl
theorem tr_pop {i : Nat} {path : List (List Nat)} (h : trE K cl L Wx (.pop i path) σ H Q) : tBM0 K "list" rPop (tPl i path) σ H Q := by
  obtain ⟨W, eH, s, hgo⟩ := h
  simp only [ev] at hgo
  simp only [muts, vars] at hgo
  cases hi : W.st.get i with
  | none => rw [hi] at hgo; exact hgo.elim
  | some p =>
    obtain ⟨d, k⟩ := p
    rw [hi] at hgo
    cases k with
    | false => exact hgo.elim
    | true =>
      dsimp only at hgo
      cases hp : atPath popD path d with
      | none => rw [hp] at hgo; exact hgo.elim
      | some q =>
        obtain ⟨d', x⟩ := q
        rw [hp] at hgo
        dsimp only at hgo
        obtain ⟨v, u, e, e', pre, Fe, post, hv, hpath, hr, hF, hf, hnd, hback⟩ := place s hi hp
        cases hr with
        | @lst _ a ws xs G ha ht =>
          simp only [popD] at hf
          cases hl : xs.getLast? with
          | none => rw [hl] at hf; cases hf
          | some y =>
            rw [hl] at hf
            cases hf
            have hxs : xs = xs.dropLast ++ [x] := by
              have hne : xs ≠ [] := fun z => by rw [z] at hl; cases hl
              have := List.dropLast_concat_getLast hne
              have e2 : xs.getLast hne = x := by
                rw [List.getLast?_eq_some_getLast hne] at hl
                exact Option.some.inj hl
              rw [e2] at this
              exact this.symm
            rw [hxs] at ht
            obtain ⟨vs1, vs2, F1, F2, hvs, hG, h1, h2, hlen⟩ := Rds.split ht
            obtain ⟨vx, rfl, hx⟩ := h2.one
            subst hvs hG
            have ca : Cel W.H a := .inl ⟨_, ha⟩
            obtain ⟨n1, n2, n3⟩ := List.nodup_append.mp hnd
            obtain ⟨m1, m2, m3⟩ := List.nodup_append.mp n1
            obtain ⟨na, ng⟩ := List.nodup_cons.mp m2
            obtain ⟨g1, g2, g3⟩ := List.nodup_append.mp ng
            have na1 : a ∉ F1 := fun z => na (List.mem_append.mpr (.inl z))
            have na2 : a ∉ F2 := fun z => na (List.mem_append.mpr (.inr z))
            have ha' : a ∈ W.Fs (.s i) := by rw [hF]; simp
            have rn : Rd K W.ρ (upd W.H a (.lst vs1)) true (.lst xs.dropLast) (.ref a) (a :: F1) := .lst upd_same (h1.off ca na1)
            have rd' := hback a (.lst vs1) true (a :: F1) ca (by simp) rn
            have sub : ∀ b ∈ pre ++ (a :: F1) ++ post, b ∈ W.Fs (.s i) := fun b hb => by
              rw [hF]
              simp only [List.mem_append, List.mem_cons] at hb ⊢
              rcases hb with (hb | hb | hb) | hb <;> simp [hb]
            have subl : (pre ++ (a :: F1) ++ post).Sublist (pre ++ (a :: (F1 ++ F2)) ++ post) := by
              refine List.Sublist.append (List.Sublist.append (List.Sublist.refl _) (List.Sublist.cons_cons _ ?_)) (List.Sublist.refl _)
              exact List.sublist_append_left F1 F2
            have nd' := hnd.sublist subl
            have s' := Sim.chg (k := true) s hi hv ha' (o := .lst vs1) cel_lst rd' (fun _ => nd') fun b hb => .inl (sub b hb)
            have t' := Step.chg (k := true) (v := some (d', true)) s s (Step.refl (ms := [])) hi ha' (o := .lst vs1) cel_lst (F := pre ++ (a :: F1) ++ post) fun b hb => .inl (sub b hb)
            have oi : Own W (.s i) := ⟨d, hi⟩
            have F2i : ∀ b ∈ F2, b ∈ W.Fs (.s i) := fun b hb => by rw [hF]; simp [hb]
            have dis : ∀ b ∈ F2, b ∉ pre ++ (a :: F1) ++ post := fun b hb z => by
              simp only [List.mem_append, List.mem_cons] at z
              rcases z with (z | z | z) | z
              · exact m3 b z b (by simp [hb]) rfl
              · subst z; exact na2 hb
              · exact g3 b z b hb rfl
              · exact n3 b (by simp [hb]) b z rfl
            have lt := S.get_lt hi
            have key := hgo (W.chg i (some (d', true)) a (.lst vs1) (pre ++ (a :: F1) ++ post) fun b => true = false ∧ b ∈ pre ++ (a :: F1) ++ post) vx F2 rfl s' ⟨by simpa using t', fun j hj => ?_⟩ ⟨hx.off ca na2, fun _ => g2, fun _ b hb z => ?_, fun _ b hb p hp => ?_, fun e => Bool.noConfusion e⟩ fun _ b hb => .inr ⟨.s i, by simp [Mt], oi, F2i b hb⟩
            · refine ⟨v, .ref a, hv, by rw [← eH]; exact hpath, ?_⟩
              rw [← eH]
              refine ⟨.inl ⟨rfl, _, SqL.of ha⟩, a, _, vx, rfl, rfl, ha, by simp, ?_⟩
              have e3 : (vs1 ++ [vx]).dropLast = vs1 := by simp
              rw [e3]
              exact key
            · have hj' : j ≠ i := by simpa using hj
              refine ⟨?_, ?_⟩
              · show (W.st.set i _).get j = _
                rw [S.set_get, if_neg (fun e => hj' e.symm)]
              · show (if Pl.s j = Pl.s i then _ else W.Fs (.s j)) = _
                rw [if_neg (fun e => hj' (by cases e; rfl))]
            · rcases z with z | ⟨z, _⟩
              · exact oi.notZ s (F2i b hb) z
              · cases z
            · have hp' : b ∈ (if p = Pl.s i then pre ++ (a :: F1) ++ post else W.Fs p) := hp
              by_cases hq : p = .s i
              · rw [if_pos hq] at hp'
                exact dis b hb hp'
              · rw [if_neg hq] at hp'
                rcases s.own_or hp' with w | w
                · exact hq (Own.one s w oi hp' (F2i b hb))
                · exact oi.notZ s (F2i b hb) w
        | tup ha ht => simp only [popD] at hf; cases hf
        | dct ha e n ht => simp only [popD] at hf; cases hf
        | dctT ha e n ht => simp only [popD] at hf; cases hf
        | non => simp only [popD] at hf; cases hf
        | bl => simp only [popD] at hf; cases hf
        | int => simp only [popD] at hf; cases hf
        | str => simp only [popD] at hf; cases hf
        | obj _ => simp only [popD] at hf; cases hf
end
end VS

-- VS.Simple
/-! Names, constants, slices, displays of dicts. -/
namespace VS
open PySem PySem.Spec PyProof.Rows L2

def Cn.v : Cn → V
  | .non => .non
  | .bl b => .bl b
  | .int i => .int i
  | .str s => .str (q s)
section
variable {K : PySem.W.Frag} {cl : String → Addr → Prop} {L : Lk} {σ : L2.St} {Wx : WX} {W W1 : Wd} {ms ns vs : List Nat} {Q : VK} {H : Hp}
theorem trE_mono {x : Ex} {Q' : VK} (h : trE K cl L Wx x σ H Q) (m : ∀ v H', Q v H' → Q' v H') : trE K cl L Wx x σ H Q' := by
  obtain ⟨W, eH, s, hgo⟩ := h
  refine ⟨W, eH, s, ?_⟩
  cases h1 : ev L x W.st with
  | ok d k st' => rw [h1] at hgo; exact fun W' v F e s' t tm f => m _ _ (hgo W' v F e s' t tm f)
  | exc c fs st' => rw [h1] at hgo; exact hgo
  | err => rw [h1] at hgo; exact hgo
theorem Cn.rd {c : Cn} {ρ : List Addr} {o : Bool} : Rd K ρ H o c.d c.v [] := by cases c <;> first | exact .non | exact .bl | exact .int | exact .str
theorem Cn.cf {c : Cn} : cf c.d = true := by cases c <;> rfl
theorem tr_con {c : Cn} (h : trE K cl L Wx (.con c) σ H Q) : tC c.v σ H Q := by
  obtain ⟨W, eH, s, hgo⟩ := h
  simp only [ev] at hgo
  show Q c.v H
  rw [← eH]
  exact hgo W c.v [] rfl s StepE.refl (Tmp.of_flat (k := true) Cn.rd Cn.cf) fun _ _ m => nomatch m
theorem tr_var {i : Nat} (h : trE K cl L Wx (.var i) σ H Q) : tVar i σ H Q := by
  obtain ⟨W, eH, s, hgo⟩ := h
  simp only [ev] at hgo
  cases hi : W.st.get i with
  | none => rw [hi] at hgo; exact hgo.elim
  | some p =>
    obtain ⟨d, k⟩ := p
    rw [hi] at hgo
    dsimp only at hgo
    obtain ⟨v, hv, r⟩ := s.rd (.s i) d k hi
    refine ⟨v, hv, ?_⟩
    rw [← eH]
    cases c : VS.cf d with
    | true =>
      rw [c] at hgo
      exact hgo W v [] rfl s StepE.refl (Tmp.of_flat r c) fun _ _ m => nomatch m
    | false =>
      rw [c] at hgo
      exact hgo W v (W.Fs (.s i)) rfl s StepE.refl ⟨r.weak, fun e => Bool.noConfusion e, fun e => Bool.noConfusion e, fun e => Bool.noConfusion e, fun _ a m => .inr ⟨i, by simp [vars], m⟩⟩ fun e => Bool.noConfusion e
/-- a name loses its value -/
def Wd.drop (W : Wd) (i : Nat) : Wd := { W with st := W.st.set i none, Fs := fun p => if p = .s i then [] else W.Fs p }
theorem drop_at {i : Nat} {p : Pl} : (W.drop i).st.at p = if p = .s i then none else W.st.at p := by
  cases p with
  | s j =>
    show (W.st.set i none).get j = _
    rw [S.set_get]
    by_cases e : i = j
    · subst e; rw [if_pos rfl, if_pos rfl]; split <;> rfl
    · rw [if_neg e, if_neg (fun z => e (by injection z with z; exact z.symm))]; rfl
  | f o n => rw [if_neg (fun z => nomatch z)]; rfl
theorem Sim.drop (s : Sim K cl σ W) (i : Nat) : Sim K cl σ (W.drop i) := by
  have ne : ∀ {p d k}, (W.drop i).st.at p = some (d, k) → p ≠ .s i ∧ W.st.at p = some (d, k) := fun {p d k} h => by
    rw [drop_at] at h
    by_cases e : p = .s i
    · rw [if_pos e] at h; cases h
    · rw [if_neg e] at h; exact ⟨e, h⟩
  have fs : ∀ {p}, p ≠ .s i → (W.drop i).Fs p = W.Fs p := fun {p} h => if_neg h
  refine ⟨fun p d k h => ?_, fun o ob h => s.ob o ob h, s.rl, s.rn, fun p h => ?_, fun p d h => ?_, fun p d h a m => ?_, fun p d h a m => ?_, fun p r d e hpr h h' a m m' => ?_, s.zt, by show (W.st.sl.set i none).length = _; rw [List.length_set]; exact s.ln⟩
  · obtain ⟨n, h⟩ := ne h
    rw [fs n]
    exact s.rd p d k h
  · by_cases e : p = .s i
    · show (if p = Pl.s i then [] else W.Fs p) = []
      rw [if_pos e]
    · rw [drop_at, if_neg e] at h
      rw [fs e]
      exact s.non p h
  · obtain ⟨n, h⟩ := ne h
    rw [fs n]
    exact s.nd p d h
  · obtain ⟨n, h⟩ := ne h
    rw [fs n] at m
    exact s.own p d h a m
  · obtain ⟨n, h⟩ := ne h
    rw [fs n] at m
    exact s.frz p d h a m
  · obtain ⟨n, h⟩ := ne h
    obtain ⟨n', h'⟩ := ne h'
    rw [fs n] at m
    rw [fs n'] at m'
    exact s.dj p r d e hpr h h' a m m'
theorem StepE.drop (i : Nat) : StepE [i] W (W.drop i) := by
  refine ⟨⟨⟨[], by simp [Wd.drop]⟩, fun a o h _ _ => h, fun a h => h, fun p a m => ?_, fun a z => z, fun a z => .inl z⟩, fun j hj => ?_⟩
  · have m' : a ∈ (if p = Pl.s i then [] else W.Fs p) := m
    by_cases e : p = .s i
    · rw [if_pos e] at m'; cases m'
    · rw [if_neg e] at m'; exact .inr (.inl m')
  · have hj' : j ≠ i := by simpa using hj
    refine ⟨?_, ?_⟩
    · show (W.st.set i none).get j = _
      rw [S.set_get, if_neg fun e => hj' e.symm]
    · show (if Pl.s j = Pl.s i then [] else W.Fs (.s j)) = _
      rw [if_neg fun e => hj' (by injection e)]
theorem tr_mv {i : Nat} (h : trE K cl L Wx (.mv i) σ H Q) : tVar i σ H Q := by
  obtain ⟨W, eH, s, hgo⟩ := h
  simp only [ev] at hgo
  cases hi : W.st.get i with
  | none => rw [hi] at hgo; exact hgo.elim
  | some p =>
    obtain ⟨d, k⟩ := p
    rw [hi] at hgo
    dsimp only at hgo
    obtain ⟨v, hv, r⟩ := s.rd (.s i) d k hi
    refine ⟨v, hv, ?_⟩
    rw [← eH]
    have s' := s.drop i
    have t' : StepE (muts (.mv i)) W (W.drop i) := StepE.drop i
    have nf : k = true → ∀ a ∈ W.Fs (.s i), ∀ p, a ∉ (W.drop i).Fs p := fun hk a m p m' => by
      subst hk
      have m2 : a ∈ (if p = Pl.s i then [] else W.Fs p) := m'
      by_cases e : p = .s i
      · rw [if_pos e] at m2; cases m2
      · rw [if_neg e] at m2
        rcases s.own_or m2 with w | w
        · exact e (Own.one s w (r := .s i) ⟨d, hi⟩ m2 m)
        · exact s.own (.s i) d hi a m w
    cases c : VS.cf d with
    | true =>
      rw [c, Bool.or_true] at hgo
      exact hgo (W.drop i) v [] rfl s' t' (Tmp.of_flat (W := W.drop i) (k := k) r c) fun _ _ m => nomatch m
    | false =>
      rw [c, Bool.or_false] at hgo
      cases k with
      | true => exact hgo (W.drop i) v (W.Fs (.s i)) rfl s' t' ⟨r, fun _ => s.nd (.s i) d hi, fun _ => s.own (.s i) d hi, nf, fun e => Bool.noConfusion e⟩ fun _ a m => .inr ⟨.s i, by simp [Mt, muts], ⟨d, hi⟩, m⟩
      | false => exact hgo (W.drop i) v (W.Fs (.s i)) rfl s' t' ⟨r, fun e => Bool.noConfusion e, fun e => Bool.noConfusion e, fun e => Bool.noConfusion e, fun _ a m => .inl (s.frz (.s i) d hi a m)⟩ fun e => Bool.noConfusion e

/-- a cell that nobody keeps yet is written -/
theorem Sim.poke (s : Sim K cl σ W) {p : Addr} {o : HO} (c : Cel W.H p) (n : ∀ r, p ∉ W.Fs r) (ho : o ≠ o → False) : Sim K cl σ (W.wit (upd W.H p o)) := by
  have kp : ∀ b, b ≠ p → upd W.H p o b = W.H b := fun b h => upd_ne h
  refine ⟨fun x d k e => ?_, fun i ob e => ?_, s.rl, s.rn, s.non, s.nd, s.own, s.frz, s.dj, fun a z => ?_, s.ln⟩
  · obtain ⟨v, h1, h2⟩ := s.rd x d k e
    refine ⟨v, ?_, h2.keep (fun _ _ h => h) ⟨fun a m => kp a fun e => n x (e ▸ m), fun a xs h => by show upd W.H p o a = _; rw [kp a fun e => c.tup (e ▸ h)]; exact h, fun a y u h => by show upd W.H p o a = _; rw [kp a fun e => c.frz (e ▸ h)]; exact h⟩⟩
    cases x with
    | s i => exact h1
    | f i m =>
      obtain ⟨a, C, dx, fs, q1, q2, q3⟩ := h1
      exact ⟨a, C, dx, fs, q1, by show upd W.H p o a = _; rw [kp a fun e => c.ins (e ▸ q2)]; exact q2, q3⟩
  · obtain ⟨a, C, dx, fs, q1, q2, q3⟩ := s.ob i ob e
    exact ⟨a, C, dx, fs, q1, by show upd W.H p o a = _; rw [kp a fun e => c.ins (e ▸ q2)]; exact q2, q3⟩
  · show upd W.H p o a ≠ none
    by_cases e : a = p
    · subst e; rw [upd_same]; simp
    · rw [kp a e]; exact s.zt a z
theorem StepE.poke (s : Sim K cl σ W) (s1 : Sim K cl σ W1) (t : StepE ms W W1) {p : Addr} {o : HO} (h : W.H p = none) (n : ∀ r, p ∉ W1.Fs r) : StepE ms W (W1.wit (upd W1.H p o)) := by
  have kp : ∀ b, b ≠ p → upd W1.H p o b = W1.H b := fun b h => upd_ne h
  exact ⟨⟨t.rho, fun a u e m z => (kp a fun e' => by subst e'; rw [h] at e; cases e).trans (t.keep a u e m z), fun a z => by
    show upd W1.H p o a ≠ none
    by_cases e : a = p
    · subst e; exact absurd h z
    · rw [kp a e]; exact t.there a z, t.fs, t.zz, t.zn⟩, t.eq⟩
end
end VS

-- VS.Simple2
/-! Displays of dicts, slices. -/
namespace VS
open PySem PySem.Spec PyProof.Rows L2
section
variable {K : PySem.W.Frag} {cl : String → Addr → Prop} {L : Lk} {σ : L2.St} {Wx : WX} {W W1 : Wd} {ms ns vs : List Nat} {Q : VK} {H : Hp}
/-- a dict's display: its pairs, one by one -/
theorem tr_pairs : ∀ {ks : List (List Nat)} {es : List Ex} {σ : L2.St} {H : Hp} {Q : List (V × V) → Hp → Prop}, noIo es = true → ks.length = es.length →
    trA K cl L Wx es σ H (fun vs H2 => Q ((ks.map fun k => V.str (q k)).zip vs) H2) → tPairs ((ks.map fun k => tC (V.str (q k))).zip (es.map fun e => trE K cl L Wx e)) σ H Q
  | [], [], σ, H, Q, _, _, h => tr_nil h
  | [], _ :: _, σ, H, Q, _, hl, _ => by simp at hl
  | _ :: _, [], σ, H, Q, _, hl, _ => by simp at hl
  | k :: ks, e :: es, σ, H, Q, hn, hl, h => by
    have hn' : isIo e = false ∧ noIo es = true := by
      simp only [noIo, List.all_cons, Bool.and_eq_true] at hn ⊢
      exact ⟨by simpa using hn.1, hn.2⟩
    exact trE_mono (tr_consA hn'.1 h) fun v H1 h1 => tr_pairs hn'.2 (by simpa using hl) h1
theorem mergeK_nodup : ∀ {acc kvs : List (L2.Key × V)}, (acc.map (·.1) ++ kvs.map (·.1)).Nodup → mergeK acc kvs = acc ++ kvs
  | acc, [], _ => by simp [mergeK]
  | acc, (k, v) :: kvs, h => by
    show mergeK (putK acc k v) kvs = _
    have hk : ∀ p ∈ acc, p.1 ≠ k := fun p hp e => by
      rw [List.nodup_append] at h
      exact h.2.2 p.1 (List.mem_map_of_mem hp) k (by simp) e
    have e : putK acc k v = acc ++ [(k, v)] := by
      unfold putK
      rw [if_neg]
      intro z
      obtain ⟨p, hp, z⟩ := List.any_eq_true.mp z
      exact hk p hp (of_decide_eq_true z)
    rw [e, mergeK_nodup (by simpa [List.append_assoc] using h)]
    simp
theorem q_inj' {a b : List Nat} (h : (Sum.inr (q a) : L2.Key) = Sum.inr (q b)) : a = b := q_inj.mp (Sum.inr.inj h)
theorem keys_nodup {ks : List (List Nat)} (h : ks.Nodup) : (ks.map fun k => (Sum.inr (q k) : L2.Key)).Nodup := by
  induction ks with
  | nil => exact List.nodup_nil
  | cons k ks ih =>
    obtain ⟨h1, h2⟩ := List.nodup_cons.mp h
    rw [List.map_cons, List.nodup_cons]
    refine ⟨fun z => ?_, ih h2⟩
    obtain ⟨k', hk, e⟩ := List.mem_map.mp z
    exact h1 (q_inj' e ▸ hk)
theorem zip_fst {α β : Type} : ∀ {xs : List α} {ys : List β}, xs.length = ys.length → (xs.zip ys).map (·.1) = xs
  | [], [], _ => rfl
  | [], _ :: _, h => by simp at h
  | _ :: _, [], h => by simp at h
  | x :: xs, y :: ys, h => by simp [zip_fst (xs := xs) (ys := ys) (by simpa using h)]
theorem zip_snd {α β : Type} : ∀ {xs : List α} {ys : List β}, xs.length = ys.length → (xs.zip ys).map (·.2) = ys
  | [], [], _ => rfl
  | [], _ :: _, h => by simp at h
  | _ :: _, [], h => by simp at h
  | x :: xs, y :: ys, h => by simp [zip_snd (xs := xs) (ys := ys) (by simpa using h)]
theorem tr_dct {ks : List (List Nat)} {es : List Ex} (hn : noIo es = true) (hl : ks.length = es.length) (hk : ks.Nodup) (h15 : ks.length ≤ 15) (h : trE K cl L Wx (.dct ks es) σ H Q) :
    tDisp ((ks.map fun k => tC (V.str (q k))).zip (es.map fun e => trE K cl L Wx e)) σ H Q := by
  obtain ⟨W, eH, s, hgo⟩ := h
  intro p hp
  simp only [ev] at hgo
  simp only [muts, vars] at hgo
  rw [← eH] at hp
  refine tr_pairs hn hl ⟨W.put p (.dK []), by show upd W.H p _ = _; rw [eH], s.put hp, ?_⟩
  show GoA K cl σ Wx (W.put p (.dK [])) (mutss es) es (evs L es W.st) _
  have t0 : StepE [] W (W.put p (.dK [])) := StepE.put hp
  have s0 := s.put (o := .dK []) hp
  cases h1 : evs L es W.st with
  | err => rw [h1] at hgo; exact hgo
  | exc c fs st' => rw [h1] at hgo; exact PostEx.from hgo s s0 t0 fun i h => by simpa using h
  | ok ds st1 =>
    rw [h1] at hgo
    dsimp only at hgo
    intro W1 vs G e1 s1 t1 m1
    have nfp : ∀ r, p ∉ (W.put p (.dK [])).Fs r := fun r z => (s.cel z).ne hp
    have nzp : ¬ (W.put p (.dK [])).Z p := fun z => s.zt p z hp
    have hp0 : (W.put p (.dK [])).H p = some (.dK []) := upd_same
    have hp1 : W1.H p = some (.dK []) := t1.keep p _ hp0 (fun _ _ _ => by simp) fun ⟨r, _, _, z⟩ => nfp r z
    have nf1 : ∀ r, p ∉ W1.Fs r := fun r z => by
      rcases t1.fs r p z with w | w | ⟨r', _, _, w⟩ | w
      · rcases t1.zn p w.2 with w | w | ⟨r', w⟩
        · exact nzp w
        · rw [hp0] at w; cases w
        · exact nfp r' w
      · exact nfp r w
      · exact nfp r' w
      · rw [hp0] at w; cases w
    have nz1 : ¬ W1.Z p := fun z => by
      rcases t1.zn p z with w | w | ⟨r', w⟩
      · exact nzp w
      · rw [hp0] at w; cases w
      · exact nfp r' w
    refine ⟨hp1, ((ks.map fun k => (Sum.inr (q k) : L2.Key)).zip vs), ?_, ?_, ?_⟩
    · have : ∀ (ks : List (List Nat)) (vs : List V), (ks.map fun k => V.str (q k)).zip vs = ((ks.map fun k => (Sum.inr (q k) : L2.Key)).zip vs).map fun kv => (kV kv.1, kv.2) := by
        intro ks
        induction ks with
        | nil => intro vs; rfl
        | cons k ks ih =>
          intro vs
          cases vs with
          | nil => rfl
          | cons v vs => simp [ih vs, kV]
      exact this ks vs
    · rw [List.length_zip, List.length_map]
      exact Nat.le_trans (Nat.min_le_left _ _) h15
    · have lvs : vs.length = es.length := by
        have : ∀ {es ds vs G} (t : Tmps K σ (W.put p (.dK [])) W1 (mutss es) es ds vs G) , True := fun _ => trivial
        clear this
        have len : ∀ {ns : List Nat} {es' ds' vs' G'}, Tmps K σ (W.put p (.dK [])) W1 ns es' ds' vs' G' → vs'.length = es'.length := fun t => by
          induction t with
          | nil => rfl
          | io _ _ ih => simp [ih]
          | cons _ _ _ _ _ ih => simp [ih]
        exact len m1
      have kl : (ks.map fun k => (Sum.inr (q k) : L2.Key)).length = vs.length := by rw [List.length_map, hl, lvs]
      have dl : (ks.map fun k => (Sum.inr (q k) : L2.Key)).length = (ds.map (·.1)).length := by rw [kl, List.length_map, m1.len]
      have nd : ((ks.map fun k => (Sum.inr (q k) : L2.Key)).zip vs).map (·.1) = ks.map fun k => (Sum.inr (q k) : L2.Key) := zip_fst kl
      rw [mergeK_nodup (by simpa [nd] using keys_nodup hk)]
      rw [List.nil_append]
      have cp : Cel W1.H p := .inr (.inl ⟨_, hp1⟩)
      have sP := Sim.poke s1 (o := .dK ((ks.map fun k => (Sum.inr (q k) : L2.Key)).zip vs)) cp nf1 (fun h => h rfl)
      have tP : StepE (mutss es) W (W1.wit (upd W1.H p (.dK ((ks.map fun k => (Sum.inr (q k) : L2.Key)).zip vs)))) := by
        have t := (t0.trans s s0 t1).mono (ns := mutss es) fun i h => by simpa using h
        exact StepE.poke s s1 t hp nf1
      have mk : ∀ k F, Rds K W1.ρ W1.H k (ds.map (·.1)) vs F → p ∉ F → Rd K W1.ρ (upd W1.H p (.dK ((ks.map fun k => (Sum.inr (q k) : L2.Key)).zip vs))) k (.dct ((ks.map fun k => (Sum.inr (q k) : L2.Key)).zip (ds.map (·.1)))) (.ref p) (p :: F) := fun k F r hpF => by
        refine Rd.dct upd_same ?_ ?_ ?_
        · rw [zip_fst dl, zip_fst kl]
        · rw [zip_fst dl]; exact keys_nodup hk
        · rw [zip_snd dl, zip_snd kl]; exact r.off cp hpF
      have fromW : ∀ a, From (W.put p (.dK [])) (mutss es) a → From W (mutss es) a := fun a h => (h.back s s0 t0.toStep).mono fun i h => by simpa using h
      cases hall : ds.all (·.2) with
      | true =>
        rw [hall] at hgo
        obtain ⟨r, ndG, nz, nf⟩ := m1.own hn hall
        have hpG : p ∉ G := fun z => by
          rcases m1.from_ p z with w | ⟨r', _, _, w⟩
          · rw [hp0] at w; cases w
          · exact nfp r' w
        refine hgo (W1.wit (upd W1.H p (.dK ((ks.map fun k => (Sum.inr (q k) : L2.Key)).zip vs)))) (.ref p) (p :: G) e1 sP tP ⟨mk true G r hpG, fun _ => List.nodup_cons.mpr ⟨hpG, ndG⟩, fun _ a z => ?_, fun _ a z => ?_, fun e => Bool.noConfusion e⟩ fun _ a z => ?_
        · rcases List.mem_cons.mp z with e | z
          · rw [e]; exact nz1
          · exact nz a z
        · rcases List.mem_cons.mp z with e | z
          · rw [e]; exact nf1
          · exact nf a z
        · rcases List.mem_cons.mp z with e | z
          · rw [e]; exact .inl hp
          · exact fromW a (m1.from_ a z)
      | false =>
        rw [hall] at hgo
        have hi := m1.ins hn
        obtain ⟨F, r, mF⟩ := hi.rds
        have hpF : p ∉ F := fun z => by
          rcases (mF p z).2 with w | ⟨i, _, w⟩ | ⟨_, w⟩
          · exact nz1 w
          · exact nf1 _ w
          · rcases w with w | ⟨r', _, _, w⟩
            · rw [hp0] at w; cases w
            · exact nfp r' w
        have key := hgo ((W1.wit (upd W1.H p (.dK ((ks.map fun k => (Sum.inr (q k) : L2.Key)).zip vs)))).ice (p :: F)) (.ref p) (p :: F) e1 (sP.ice fun a z => ?_) (tP.ice fun a z hn' => ?_) ⟨mk false F r hpF, fun e => Bool.noConfusion e, fun e => Bool.noConfusion e, fun e => Bool.noConfusion e, fun _ a z => ?_⟩ fun e => Bool.noConfusion e
        · exact key
        · rcases List.mem_cons.mp z with e | z
          · rw [e]; show upd W1.H p _ p ≠ none; rw [upd_same]; simp
          · have := (mF a z).1.ne
            show upd W1.H p _ a ≠ none
            rw [upd_ne fun e => hpF (by rw [← e]; exact z)]
            exact this
        · rcases List.mem_cons.mp z with e | z
          · rw [e]; exact .inr (.inl hp)
          · rcases (mF a z).2 with w | ⟨i, _, w⟩ | ⟨_, w⟩
            · exact .inl w
            · exact absurd w (hn' _)
            · exact .inr (fromW a w)
        · rcases List.mem_cons.mp z with e | z
          · rw [e]; exact .inl (.inr ⟨by simp, nf1⟩)
          · rcases (mF a z).2 with w | ⟨i, hi, w⟩ | ⟨w, _⟩
            · exact .inl (.inl w)
            · exact .inr ⟨i, hi, w⟩
            · exact .inl (.inr ⟨by simp [z], w⟩)
theorem tr_dct0 (h : trE K cl L Wx .dct0 σ H Q) : ∀ p, H p = none → Q (.ref p) (upd H p (.dK [])) := by
  obtain ⟨W, eH, s, hgo⟩ := h
  simp only [ev] at hgo
  subst eH
  exact fun p hp => PostOk.res hgo s s StepE.refl (Sx := fun _ => False) (fun a h => h.elim) (Same.put hp) (by
    unfold Res
    rw [if_pos rfl]
    exact ⟨[p], .dct (F := []) upd_same rfl List.nodup_nil .nil, by simp, fun a z => by rw [List.mem_singleton.mp z]; exact hp⟩)
theorem tr_dctT0 (h : trE K cl L Wx .dctT0 σ H Q) : ∀ p, H p = none → Q (.ref p) (upd H p (.dT [])) := by
  obtain ⟨W, eH, s, hgo⟩ := h
  simp only [ev] at hgo
  subst eH
  exact fun p hp => PostOk.res hgo s s StepE.refl (Sx := fun _ => False) (fun a h => h.elim) (Same.put hp) (by
    unfold Res
    rw [if_pos rfl]
    exact ⟨[p], .dctT (F := []) upd_same rfl List.nodup_nil .nil, by simp, fun a z => by rw [List.mem_singleton.mp z]; exact hp⟩)
end
end VS

-- VS.Simple3
/-! Slices, a dict asked, the greater and the lesser. -/
namespace VS
open PySem PySem.Spec PyProof.Rows L2
section
variable {X : Cx}
theorem cfs_take (n : Nat) : ∀ xs : List D, cfs xs = true → cfs (xs.take n) = true := by
  intro xs
  induction xs generalizing n with
  | nil => intro _; simp [cfs]
  | cons x r ih =>
    intro h
    cases n with
    | zero => rfl
    | succ n =>
      simp only [cfs, Bool.and_eq_true, List.take_succ_cons] at h ⊢
      exact ⟨h.1, ih n h.2⟩
theorem cfs_drop (n : Nat) : ∀ xs : List D, cfs xs = true → cfs (xs.drop n) = true := by
  intro xs
  induction xs generalizing n with
  | nil => intro _; simp [cfs]
  | cons x r ih =>
    intro h
    cases n with
    | zero => exact h
    | succ n =>
      simp only [cfs, Bool.and_eq_true] at h
      exact ih n h.2
/-- what is made anew of some members, all of which may be shared -/
theorem Res.lstOf {K : PySem.W.Frag} {ρ : List Addr} {H : Hp} {Sx : Addr → Prop} {ds : List D} {vs : List V} {p : Addr} {k : Bool} (h : Ins K ρ H Sx ds vs) (hp : H p = none) (hk : k = true → cfs ds = true) : Res K ρ H (upd H p (.lst vs)) Sx (.lst ds) k (.ref p) := by
  have r := Res.lst h hp
  cases k with
  | true => rw [hk rfl] at r; exact r
  | false =>
    obtain ⟨F, r, m⟩ := h.rds
    refine ⟨p :: F, .lst upd_same (r.fresh hp), fun a z => ?_⟩
    rcases List.mem_cons.mp z with e | z
    · rw [e]; exact .inr hp
    · exact .inl (m a z)
theorem Res.tupOf {K : PySem.W.Frag} {ρ : List Addr} {H : Hp} {Sx : Addr → Prop} {ds : List D} {vs : List V} {p : Addr} {k : Bool} (h : Ins K ρ H Sx ds vs) (hp : H p = none) (hk : k = true → cfs ds = true) : Res K ρ H (upd H p (.tup vs)) Sx (.tup ds) k (.ref p) := by
  have r := Res.tup h hp
  cases k with
  | true => rw [hk rfl] at r; exact r
  | false =>
    obtain ⟨F, r, m⟩ := h.rds
    exact ⟨F, .tup upd_same (r.fresh hp), fun a z => .inl (m a z)⟩
theorem Res.tupAt {K : PySem.W.Frag} {ρ : List Addr} {H : Hp} {Sx : Addr → Prop} {ds : List D} {vs : List V} {p : Addr} {k : Bool} (h : Ins K ρ H Sx ds vs) (hp : H p = some (.tup vs)) (hk : k = true → cfs ds = true) : Res K ρ H H Sx (.tup ds) k (.ref p) := by
  have r := Res.tupOld h hp
  cases k with
  | true => rw [hk rfl] at r; exact r
  | false =>
    obtain ⟨F, r, m⟩ := h.rds
    exact ⟨F, .tup hp r, fun a z => .inl (m a z)⟩
theorem SlR.or' {r r' : V → Option Int → Option Int → Hp → VK → Prop} (h : L2.SlR X r) (h' : L2.SlR X r') : L2.SlR X (fun x lo hi H Q => r x lo hi H Q ∨ r' x lo hi H Q) := L2.SlR.or h h'
def rSl (K : PySem.W.Frag) : V → Option Int → Option Int → Hp → VK → Prop := fun x lo hi H Q => rSlL K x lo hi H Q ∨ rSlA K x lo hi H Q
theorem sl_any : L2.SlR X (rSl X.K) := L2.SlR.or sl_list sl_tupA
def cutG {α : Type} (xs : List α) (lo hi : Option Int) : List α := (xs.drop (HT.sIx xs.length 0 lo)).take (HT.sIx xs.length xs.length hi - HT.sIx xs.length 0 lo)
theorem Ins.cut {K : PySem.W.Frag} {ρ : List Addr} {H : Hp} {Sx : Addr → Prop} {ds : List D} {vs : List V} (h : Ins K ρ H Sx ds vs) (lo hi : Option Int) : Ins K ρ H Sx (cutG ds lo hi) (cutV vs lo hi) := by
  unfold cutG cutV
  rw [h.length]
  exact (h.drop _).take _
theorem cut_whole {α : Type} {xs : List α} {lo hi : Option Int} (h : HT.sIx xs.length 0 lo = 0 ∧ HT.sIx xs.length xs.length hi = xs.length) : cutG xs lo hi = xs := by
  unfold cutG
  rw [h.1, h.2]
  simp
theorem sl_lst {K : PySem.W.Frag} {ρ : List Addr} {H : Hp} {Sx : Addr → Prop} {xs : List D} {lo hi : Option Int} {v : V} {Q : VK} (h : In K ρ H Sx (.lst xs) v) (w : ∀ v H', Same H H' → Res K ρ H H' Sx (.lst (cutG xs lo hi)) (cfs xs) v → Q v H') : rSl K v lo hi H Q := by
  obtain ⟨a, vs, rfl, s1, i1⟩ := h.lst
  exact .inl ⟨a, vs, rfl, s1, fun p hp => w _ _ (Same.put hp) (Res.lstOf (i1.cut lo hi) hp fun c => cfs_take _ _ (cfs_drop _ _ c))⟩
theorem sl_tup {K : PySem.W.Frag} {ρ : List Addr} {H : Hp} {Sx : Addr → Prop} {xs : List D} {lo hi : Option Int} {v : V} {Q : VK} (h : In K ρ H Sx (.tup xs) v) (w : ∀ v H', Same H H' → Res K ρ H H' Sx (.tup (cutG xs lo hi)) (cfs xs) v → Q v H') : rSl K v lo hi H Q := by
  obtain ⟨a, vs, rfl, s1, i1⟩ := h.tup
  refine .inr ⟨a, vs, rfl, SqT.of s1, fun e => ?_, fun _ p hp => ?_⟩
  · rw [← i1.length] at e
    refine w _ H (Same.refl H) ?_
    rw [cut_whole e]
    exact Res.tupAt i1 s1 fun c => c
  · exact w _ _ (Same.put hp) (Res.tupOf (i1.cut lo hi) hp fun c => cfs_take _ _ (cfs_drop _ _ c))
def rFrom (K : PySem.W.Frag) : R2 := fun x y H Q => ∃ i, y = .int i ∧ rSl K x (some i) none H Q
def rTo (K : PySem.W.Frag) : R2 := fun x y H Q => ∃ i, y = .int i ∧ rSl K x none (some i) H Q
theorem cut_from {α : Type} (xs : List α) (i : Int) : cutG xs (some i) none = xs.drop (HT.sIx xs.length 0 (some i)) := by
  unfold cutG
  rw [HT.sIx_none]
  exact List.take_of_length_le (by rw [List.length_drop]; omega)
theorem cut_to {α : Type} (xs : List α) (i : Int) : cutG xs none (some i) = xs.take (HT.sIx xs.length xs.length (some i)) := by
  unfold cutG
  rw [HT.sIx_none]
  simp
theorem sp_sfrom : Sp2 X.K .sfrom (rFrom X.K) := by
  intro ρ H Sx d1 d2 d k v1 v2 Q h1 h2 e w
  cases d1 <;> cases d2 <;> try (exact nomatch (show (none : Option (D × Bool)) = some (d, k) from e))
  · obtain ⟨rfl, rfl⟩ := some_pair e
    obtain rfl := h2.int
    exact ⟨_, rfl, sl_tup h1 fun v H' hH r => w v H' hH (by rw [← cut_from]; exact r)⟩
  · obtain ⟨rfl, rfl⟩ := some_pair e
    obtain rfl := h2.int
    exact ⟨_, rfl, sl_lst h1 fun v H' hH r => w v H' hH (by rw [← cut_from]; exact r)⟩
theorem sp_sto : Sp2 X.K .sto (rTo X.K) := by
  intro ρ H Sx d1 d2 d k v1 v2 Q h1 h2 e w
  cases d1 <;> cases d2 <;> try (exact nomatch (show (none : Option (D × Bool)) = some (d, k) from e))
  · obtain ⟨rfl, rfl⟩ := some_pair e
    obtain rfl := h2.int
    exact ⟨_, rfl, sl_tup h1 fun v H' hH r => w v H' hH (by rw [← cut_to]; exact r)⟩
  · obtain ⟨rfl, rfl⟩ := some_pair e
    obtain rfl := h2.int
    exact ⟨_, rfl, sl_lst h1 fun v H' hH r => w v H' hH (by rw [← cut_to]; exact r)⟩
theorem sp_max2 : Sp2 X.K .max2 (fun x y H Q => ∃ i j, [x, y] = [V.int i, V.int j] ∧ Q (.int (if j > i then j else i)) H) := by
  intro ρ H Sx d1 d2 d k v1 v2 Q h1 h2 e w
  cases d1 <;> cases d2 <;> try (exact nomatch (show (none : Option (D × Bool)) = some (d, k) from e))
  obtain ⟨rfl, rfl⟩ := some_pair e
  obtain rfl := h1.int
  obtain rfl := h2.int
  exact ⟨_, _, rfl, q_int w rfl⟩
theorem sp_min2 : Sp2 X.K .min2 (fun x y H Q => ∃ i j, [x, y] = [V.int i, V.int j] ∧ Q (.int (if j < i then j else i)) H) := by
  intro ρ H Sx d1 d2 d k v1 v2 Q h1 h2 e w
  cases d1 <;> cases d2 <;> try (exact nomatch (show (none : Option (D × Bool)) = some (d, k) from e))
  obtain ⟨rfl, rfl⟩ := some_pair e
  obtain rfl := h1.int
  obtain rfl := h2.int
  exact ⟨_, _, rfl, q_int w rfl⟩
end
section
variable {K : PySem.W.Frag} {cl : String → Addr → Prop} {L : Lk} {σ : L2.St} {Wx : WX} {W W1 : Wd} {ms ns vs : List Nat} {Q : VK} {H : Hp}
theorem Tmp.cellsrc {vs us d k v F} (t : Tmp K W1 vs d k v F) (f : k = true → ∀ a ∈ F, From W ms a) (h : ∀ i ∈ vs, i ∈ us) : ∀ a ∈ F, Src W ms W1 us a := fun a m => (t.src f a m).more h
theorem tr_sl {a b c : Ex} (h : trE K cl L Wx (.op3 .sl a b c) σ H Q) : tSl (rSl K) (trE K cl L Wx a) (tPart (trE K cl L Wx b)) (tPart (trE K cl L Wx c)) σ H Q := by
  obtain ⟨W, eH, s, hgo⟩ := h
  refine ⟨W, eH, s, ?_⟩
  simp only [ev] at hgo
  simp only [muts, vars] at hgo
  cases h1 : ev L a W.st with
  | err => rw [h1] at hgo; exact hgo
  | exc x fs st' => rw [h1] at hgo; exact PostEx.sub hgo fun i h => List.mem_append.mpr (.inl h)
  | ok x kx st1 =>
    rw [h1] at hgo
    intro W1 v1 F1 e1 s1 t1 m1 f1
    refine ⟨W1, rfl, s1, ?_⟩
    subst e1
    dsimp only at hgo
    cases h2 : ev L b W1.st with
    | err => rw [h2] at hgo; exact hgo
    | exc y fs st' => rw [h2] at hgo; exact hgo.elim
    | ok y ky st2 =>
      rw [h2] at hgo
      intro W2 v2 F2 e2 s2 t2 m2 f2
      subst e2
      dsimp only at hgo
      have t12 := t1.trans s s1 t2
      cases h3 : ev L c W2.st with
      | err => rw [h3] at hgo; exact hgo.elim
      | exc z fs st' => rw [h3] at hgo; exact hgo.elim
      | ok z kz st3 =>
        rw [h3] at hgo
        dsimp only at hgo
        split at hgo
        · rename_i hd
          have hd1 : (kx = true ∨ disj (vars a) (muts b ++ muts c) = true) ∧ (ky = true ∨ disj (vars b) (muts c) = true) := by simpa using hd
          cases h4 : op3 .sl x y z with
          | none => rw [h4] at hgo; exact hgo.elim
          | some p =>
            obtain ⟨d, k⟩ := p
            rw [h4] at hgo
            dsimp only at hgo
            have m1' := m1.step s1 t2 (hd1.1.imp id fun h => by
              refine List.all_eq_true.mpr fun i hi => ?_
              have := List.all_eq_true.mp h i hi
              simp only [List.contains_eq_mem, List.mem_append, Bool.not_eq_true', decide_eq_false_iff_not, not_or] at this ⊢
              exact this.1)
            cases y with
            | int i =>
              refine ⟨i, m2.in.int, W2, rfl, s2, ?_⟩
              rw [h3]
              intro W3 v3 F3 e3 s3 t3 m3 f3
              subst e3
              cases z with
              | int j =>
                refine ⟨j, m3.in.int, ?_⟩
                have m1'' := m1'.step s2 t3 (hd1.1.imp id fun h => by
                  refine List.all_eq_true.mpr fun i hi => ?_
                  have := List.all_eq_true.mp h i hi
                  simp only [List.contains_eq_mem, List.mem_append, Bool.not_eq_true', decide_eq_false_iff_not, not_or] at this ⊢
                  exact this.2)
                have t := (t12.trans s s2 t3).mono (ns := muts a ++ (muts b ++ muts c)) fun i h => by simpa [List.append_assoc] using h
                have src : ∀ z, z ∈ F1 → Src W (muts a ++ (muts b ++ muts c)) W3 (vars a ++ (vars b ++ vars c)) z := m1''.cellsrc (fun e q m => (f1 e q m).mono fun i h => by simp [h]) fun i h => by simp [h]
                cases x with
                | lst xs =>
                  obtain ⟨rfl, rfl⟩ := some_pair h4
                  exact sl_lst m1''.in fun v H' hH hr => PostOk.res hgo s s3 t src hH hr
                | tup xs =>
                  obtain ⟨rfl, rfl⟩ := some_pair h4
                  exact sl_tup m1''.in fun v H' hH hr => PostOk.res hgo s s3 t src hH hr
                | _ => exact nomatch (show (none : Option (D × Bool)) = some (d, k) from h4)
              | _ => cases x <;> exact nomatch (show (none : Option (D × Bool)) = some (d, k) from h4)
            | _ => cases x <;> cases z <;> exact nomatch (show (none : Option (D × Bool)) = some (d, k) from h4)
        · exact hgo.elim
/-- d.get(k) -/
theorem tr_get1 {a b : Ex} (h : trE K cl L Wx (.op2 .get1 a b) σ H Q) : tDGet1 (trE K cl L Wx a) (trE K cl L Wx b) σ H Q := by
  obtain ⟨W, eH, s, hgo⟩ := h
  refine ⟨W, eH, s, ?_⟩
  simp only [ev] at hgo
  simp only [muts, vars] at hgo
  cases h1 : ev L a W.st with
  | err => rw [h1] at hgo; exact hgo
  | exc x fs st' => rw [h1] at hgo; exact PostEx.sub hgo fun i h => List.mem_append.mpr (.inl h)
  | ok x kx st1 =>
    rw [h1] at hgo
    intro W1 v1 F1 e1 s1 t1 m1 f1
    subst e1
    dsimp only at hgo
    cases h2 : ev L b W1.st with
    | err => rw [h2] at hgo; exact hgo.elim
    | exc y fs st' => rw [h2] at hgo; exact hgo.elim
    | ok y ky st2 =>
      rw [h2] at hgo
      dsimp only at hgo
      split at hgo
      · rename_i hd
        cases h3 : op2 .get1 x y with
        | none => rw [h3] at hgo; exact hgo.elim
        | some p =>
          obtain ⟨d, k⟩ := p
          rw [h3] at hgo
          cases x with
          | dct ps =>
            obtain ⟨a0, kvs, rfl, ha, _⟩ := m1.in.dct
            refine ⟨a0, rfl, .inl ⟨kvs, .inl ha⟩, W1, rfl, s1, ?_⟩
            rw [h2]
            intro W2 v2 F2 e2 s2 t2 m2 f2
            subst e2
            have hd' : kx = true ∨ disj (vars a) (muts b) = true := by simpa using hd
            have m1' := m1.step s1 t2 hd'
            have t := t1.trans s s1 t2
            have src : ∀ z, z ∈ F1 → Src W (muts a ++ muts b) W2 (vars a ++ vars b) z := m1'.cellsrc (fun e q m => (f1 e q m).mono fun i h => by simp [h]) fun i h => by simp [h]
            have e3 : ((keyOf y).map fun k => ((valD ps k).getD .non, cf ((valD ps k).getD .non))) = some (d, k) := by cases y <;> exact h3
            cases hk : keyOf y with
            | none => rw [hk] at e3; cases e3
            | some c =>
              rw [hk] at e3
              obtain ⟨rfl, rfl⟩ := some_pair e3
              obtain ⟨a1, ea, hh⟩ := m1'.in.get (m2.in) hk
              cases ea
              rcases hh with ⟨g1, g2⟩ | ⟨x, u, g1, g2, g3⟩
              · refine ⟨none, g2, ?_⟩
                rw [g1] at hgo
                exact PostOk.res hgo s s2 t src (Same.refl _) (Res.flat (o := true) .non rfl)
              · refine ⟨some u, g2, ?_⟩
                rw [g1] at hgo
                exact PostOk.res hgo s s2 t src (Same.refl _) (Res.old g3)
          | _ => cases y <;> exact nomatch (show (none : Option (D × Bool)) = some (d, k) from h3)
      · exact hgo.elim
end
end VS

-- VS.Bind
/-! Names get values. -/
namespace VS
open PySem PySem.Spec PyProof.Rows L2
theorem Rd.lstN {K : PySem.W.Frag} {ρ : List Addr} {H : Hp} {o ds v F} (h : Rd K ρ H o (.lst ds) v F) : ∃ a vs G, v = .ref a ∧ SqL K H a vs ∧ Rds K ρ H o ds vs G ∧ (∀ b ∈ G, b ∈ F) ∧ (F.Nodup → G.Nodup) := by
  cases h with
  | lst h t => exact ⟨_, _, _, rfl, SqL.of h, t, fun b m => by simp [m], fun n => (List.nodup_cons.mp n).2⟩
  | lstR h t => exact ⟨_, _, _, rfl, h.l, t, fun b m => m, fun n => n⟩

def Wd.bind (W : Wd) (i : Nat) (d : D) (k : Bool) (F : List Addr) : Wd := { W with st := W.st.set i (some (d, k)), Fs := fun p => if p = .s i then F else W.Fs p }
section
variable {K : PySem.W.Frag} {cl : String → Addr → Prop} {L : Lk} {σ : L2.St} {Wx : WX} {W0 W W1 : Wd} {ms ns vs : List Nat} {H : Hp}
theorem bind_at {i : Nat} {d k F} {p : Pl} (h : i < W.st.sl.length) : (W.bind i d k F).st.at p = if p = .s i then some (d, k) else W.st.at p := by
  cases p with
  | s j =>
    show (W.st.set i _).get j = _
    rw [S.set_get]
    by_cases e : i = j
    · subst e; rw [if_pos rfl, if_pos h, if_pos rfl]
    · rw [if_neg e, if_neg (fun z => e (by injection z with z; exact z.symm))]; rfl
  | f o n => rw [if_neg (fun z => nomatch z)]; rfl
theorem Sim.bind (s : Sim K cl σ W) {i : Nat} (hi : i < W.st.sl.length) {d k v F} (m : Tmp K W [] d k v F) : Sim K cl (σ.set i (some v)) (W.bind i d k F) := by
  have ne : ∀ {p d' k'}, (W.bind i d k F).st.at p = some (d', k') → (p = .s i ∧ d' = d ∧ k' = k) ∨ (p ≠ .s i ∧ W.st.at p = some (d', k')) := fun {p d' k'} h => by
    rw [bind_at hi] at h
    by_cases e : p = .s i
    · rw [if_pos e] at h; cases h; exact .inl ⟨e, rfl, rfl⟩
    · rw [if_neg e] at h; exact .inr ⟨e, h⟩
  have f1 : (W.bind i d k F).Fs (.s i) = F := if_pos rfl
  have f2 : ∀ {p}, p ≠ .s i → (W.bind i d k F).Fs p = W.Fs p := fun {p} h => if_neg h
  have sh : k = false → ∀ a ∈ F, W.Z a := fun e a ma => by
    rcases m.sh e a ma with z | ⟨j, hj, _⟩
    · exact z
    · cases hj
  have li : i < σ.length := by rw [← s.ln]; exact hi
  refine ⟨fun p d' k' h => ?_, fun o ob h => s.ob o ob h, s.rl, s.rn, fun p h => ?_, fun p d' h => ?_, fun p d' h a ma => ?_, fun p d' h a ma => ?_, fun p r d' e hpr h h' a ma ma' => ?_, s.zt, by show (W.st.sl.set i _).length = (σ.set i _).length; rw [List.length_set, List.length_set]; exact s.ln⟩
  · rcases ne h with ⟨rfl, rfl, rfl⟩ | ⟨e, h⟩
    · refine ⟨v, ?_, by rw [f1]; exact m.rd⟩
      show (σ.set i (some v))[i]? = some (some v)
      rw [List.getElem?_set_self li]
    · obtain ⟨v', hv, hr⟩ := s.rd p d' k' h
      refine ⟨v', ?_, by rw [f2 e]; exact hr⟩
      cases p with
      | s j =>
        show (σ.set i (some v))[j]? = some (some v')
        rw [List.getElem?_set_ne (fun z => e (by rw [z]))]
        exact hv
      | f o n => exact hv
  · rw [bind_at hi] at h
    by_cases e : p = .s i
    · rw [if_pos e] at h; cases h
    · rw [if_neg e] at h
      rw [f2 e]
      exact s.non p h
  · rcases ne h with ⟨rfl, rfl, rfl⟩ | ⟨e, h⟩
    · rw [f1]; exact m.nd rfl
    · rw [f2 e]; exact s.nd p d' h
  · rcases ne h with ⟨rfl, rfl, rfl⟩ | ⟨e, h⟩
    · rw [f1] at ma; exact m.nz rfl a ma
    · rw [f2 e] at ma; exact s.own p d' h a ma
  · rcases ne h with ⟨rfl, rfl, rfl⟩ | ⟨e, h⟩
    · rw [f1] at ma; exact sh rfl a ma
    · rw [f2 e] at ma; exact s.frz p d' h a ma
  · rcases ne h with ⟨rfl, rfl, rfl⟩ | ⟨e1, h⟩
    · rcases ne h' with ⟨rfl, _, _⟩ | ⟨e2, h'⟩
      · exact absurd rfl hpr
      · rw [f1] at ma
        rw [f2 e2] at ma'
        exact m.nf rfl a ma r ma'
    · rcases ne h' with ⟨rfl, rfl, rfl⟩ | ⟨e2, h'⟩
      · rw [f2 e1] at ma
        rw [f1] at ma'
        exact m.nf rfl a ma' p ma
      · rw [f2 e1] at ma
        rw [f2 e2] at ma'
        exact s.dj p r d' e hpr h h' a ma ma'
theorem Step.bind (t : Step ms W0 W) {i : Nat} {d k v F} (m : Tmp K W [] d k v F) (f : k = true → ∀ a ∈ F, From W0 ms a) : Step ms W0 (W.bind i d k F) := by
  refine ⟨t.rho, t.keep, t.there, fun p a ma => ?_, t.zz, t.zn⟩
  have ma' : a ∈ (if p = Pl.s i then F else W.Fs p) := ma
  by_cases e : p = .s i
  · rw [if_pos e] at ma'
    cases k with
    | true =>
      rcases f rfl a ma' with z | z
      · exact .inr (.inr (.inr z))
      · exact .inr (.inr (.inl z))
    | false =>
      rcases m.sh rfl a ma' with z | ⟨j, hj, _⟩
      · exact .inl ⟨by rw [e]; rfl, z⟩
      · cases hj
  · rw [if_neg e] at ma'
    exact t.fs p a ma'

/-- what stands at one of a tuple's places, and at the others -/
inductive TmpL (K : PySem.W.Frag) (W : Wd) (k : Bool) : List D → List V → List (List Addr) → Prop
  | nil : TmpL K W k [] [] []
  | cons {d v F ds vs Gs} : Tmp K W [] d k v F → TmpL K W k ds vs Gs → (k = true → ∀ a ∈ F, ∀ G ∈ Gs, a ∉ G) → TmpL K W k (d :: ds) (v :: vs) (F :: Gs)
theorem Rds.tmpL {ds : List D} {k : Bool} : ∀ {vs F}, Rds K W.ρ W.H k ds vs F → (k = true → F.Nodup) → (k = true → ∀ a ∈ F, ¬ W.Z a) → (k = true → ∀ a ∈ F, ∀ p, a ∉ W.Fs p) → (k = false → ∀ a ∈ F, W.Z a) → ∃ Gs, TmpL K W k ds vs Gs ∧ ∀ G ∈ Gs, ∀ a ∈ G, a ∈ F := by
  induction ds with
  | nil => intro vs F h _ _ _ _; cases h; exact ⟨[], .nil, fun _ m => nomatch m⟩
  | cons d ds ih =>
    intro vs F h n1 n2 n3 n4
    cases h with
    | @cons _ _ _ _ _ F1 F2 h1 h2 =>
      obtain ⟨Gs, t, hG⟩ := ih h2 (fun e => (List.nodup_append.mp (n1 e)).2.1) (fun e a m => n2 e a (by simp [m])) (fun e a m => n3 e a (by simp [m])) (fun e a m => n4 e a (by simp [m]))
      refine ⟨F1 :: Gs, .cons ⟨h1, fun e => (List.nodup_append.mp (n1 e)).1, fun e a m => n2 e a (by simp [m]), fun e a m => n3 e a (by simp [m]), fun e a m => .inl (n4 e a (by simp [m]))⟩ t fun e a m G hg z => ?_, fun G hg a m => ?_⟩
      · exact (List.nodup_append.mp (n1 e)).2.2 a m a (hG G hg a z) rfl
      · rcases List.mem_cons.mp hg with q | q
        · subst q; simp [m]
        · simp [hG G q a m]
/-- the members stay as they are when another one gets its name -/
theorem Tmp.bind {i : Nat} {d k v F d' v' F'} (m : Tmp K W [] d k v F) (h : k = true → ∀ a ∈ F, a ∉ F') (n : Tmp K W [] d' k v' F') : Tmp K (W.bind i d' k F') [] d k v F where
  rd := m.rd
  nd := m.nd
  nz := m.nz
  nf := fun e a ma p mp => by
    have mp' : a ∈ (if p = Pl.s i then F' else W.Fs p) := mp
    by_cases q : p = .s i
    · rw [if_pos q] at mp'; exact h e a ma mp'
    · rw [if_neg q] at mp'; exact m.nf e a ma p mp'
  sh := fun e a ma => by
    rcases m.sh e a ma with z | ⟨j, hj, _⟩
    · exact .inl z
    · cases hj
end

mutual
/-- the reading of a target -/
def gOf (K : PySem.W.Frag) : Tg → TG
  | .n i => gName i
  | .t ts => fun v σ H Q => gTup K ts.length (gsOf K ts) v σ H Q ∨ gUnl K ts.length (gsOf K ts) v σ H Q
def gsOf (K : PySem.W.Frag) : List Tg → TGs
  | [] => gNil
  | t :: ts => gCons (gOf K t) (gsOf K ts)
end
/-- names keep what they have, but for those told -/
def Same' (is : List Nat) (σ σ' : L2.St) : Prop := σ'.length = σ.length ∧ ∀ j, j ∉ is → σ'[j]? = σ[j]?
section
variable {K : PySem.W.Frag} {cl : String → Addr → Prop} {W0 : Wd} {ms : List Nat}
theorem tagged {k : Bool} {d : D} : (if k || cf d then true else false) = (k || cf d) := by cases k <;> cases cf d <;> rfl
mutual
/-- a target gets a value: all that is behind -/
theorem bind_ok : ∀ {tg : Tg} {d : D} {k : Bool} {st' : S} {W : Wd} {σ : L2.St} {v : V} {F : List Addr} {Q : L2.St → Hp → Prop}, Sim K cl σ W → Step ms W0 W → Tmp K W [] d k v F → (k = true → ∀ a ∈ F, From W0 ms a) → bindT tg d k W.st = some st' →
    (∀ σ' W', W'.st = st' → W'.H = W.H → W'.ρ = W.ρ → (∀ a, W'.Z a ↔ W.Z a) → (∀ p, (∀ i ∈ tgs tg, p ≠ .s i) → W'.Fs p = W.Fs p ∧ W'.st.at p = W.st.at p) → (∀ p a, a ∈ W'.Fs p → a ∈ W.Fs p ∨ a ∈ F) → Same' (tgs tg) σ σ' → Sim K cl σ' W' → Step ms W0 W' → Q σ' W'.H) → gOf K tg v σ W.H Q
  | .n i, d, k, st', W, σ, v, F, Q, s, t, m, f, h, w => by
    simp only [bindT] at h
    split at h
    · rename_i hi
      cases h
      obtain ⟨F', m', f', hF'⟩ : ∃ F', Tmp K W [] d (k || cf d) v F' ∧ ((k || cf d) = true → ∀ a ∈ F', From W0 ms a) ∧ ∀ a ∈ F', a ∈ F := by
        cases c : cf d with
        | true => exact ⟨[], m.flat c, fun _ _ z => (nomatch z), fun _ z => (nomatch z)⟩
        | false => rw [Bool.or_false]; exact ⟨F, m, f, fun _ z => z⟩
      refine w (σ.set i (some v)) (W.bind i d (k || cf d) F') rfl rfl rfl (fun _ => Iff.rfl) (fun p hp => ?_) (fun p a ma => ?_) ⟨by rw [List.length_set], fun j hj => List.getElem?_set_ne (fun z => hj (by simp [tgs, z]))⟩ (s.bind hi m') (t.bind m' f')
      · have hp' : p ≠ .s i := hp i (by simp [tgs])
        exact ⟨if_neg hp', by rw [bind_at hi, if_neg hp']⟩
      · have ma' : a ∈ (if p = Pl.s i then F' else W.Fs p) := ma
        by_cases e : p = .s i
        · rw [if_pos e] at ma'; exact .inr (hF' a ma')
        · rw [if_neg e] at ma'; exact .inl ma'
    · cases h
  | .t ts, d, k, st', W, σ, v, F, Q, s, t, m, f, h, w => by
    have sh : k = false → ∀ a ∈ F, W.Z a := fun e a ma => by
      rcases m.sh e a ma with z | ⟨j, hj, _⟩
      · exact z
      · cases hj
    cases d with
    | tup xs =>
      obtain ⟨a, us, rfl, ha, r⟩ := m.rd.tupL
      obtain ⟨Gs, tl, hG⟩ := Rds.tmpL r m.nd m.nz m.nf sh
      have hl := binds_len (show bindTs ts xs k W.st = some st' from h)
      refine .inl ⟨a, us, rfl, SqT.of ha, by rw [← r.length, ← hl], ?_⟩
      exact binds_ok (F := F) s t tl (fun e G hg b mb => f e b (hG G hg b mb)) (fun G hg b mb => hG G hg b mb) h w
    | lst xs =>
      obtain ⟨a, us, G0, rfl, ha, r, hG0, hN⟩ := m.rd.lstN
      have nd : k = true → G0.Nodup := fun e => hN (m.nd e)
      obtain ⟨Gs, tl, hG⟩ := Rds.tmpL r nd (fun e b mb => m.nz e b (hG0 b mb)) (fun e b mb => m.nf e b (hG0 b mb)) (fun e b mb => sh e b (hG0 b mb))
      have hl := binds_len (show bindTs ts xs k W.st = some st' from h)
      refine .inr ⟨a, us, rfl, ha, by rw [← r.length, ← hl], ?_⟩
      exact binds_ok (F := F) s t tl (fun e G hg b mb => f e b (hG0 b (hG G hg b mb))) (fun G hg b mb => hG0 b (hG G hg b mb)) h w
    | non => exact nomatch (show (none : Option S) = some st' from h)
    | bl _ => exact nomatch (show (none : Option S) = some st' from h)
    | int _ => exact nomatch (show (none : Option S) = some st' from h)
    | str _ => exact nomatch (show (none : Option S) = some st' from h)
    | dct _ => exact nomatch (show (none : Option S) = some st' from h)
    | dctT _ => exact nomatch (show (none : Option S) = some st' from h)
    | obj _ => exact nomatch (show (none : Option S) = some st' from h)
theorem binds_len : ∀ {ts : List Tg} {xs : List D} {k : Bool} {st st' : S}, bindTs ts xs k st = some st' → ts.length = xs.length
  | [], [], _, _, _, _ => rfl
  | [], _ :: _, _, _, _, h => nomatch h
  | _ :: _, [], _, _, _, h => nomatch h
  | t :: ts, x :: xs, k, st, st', h => by
    simp only [bindTs] at h
    cases e : bindT t x k st with
    | none => rw [e] at h; cases h
    | some s1 => rw [e] at h; simp [binds_len (show bindTs ts xs k s1 = some st' from h)]
theorem binds_ok : ∀ {ts : List Tg} {ds : List D} {k : Bool} {st' : S} {W : Wd} {σ : L2.St} {us : List V} {Gs : List (List Addr)} {F : List Addr} {Q : L2.St → Hp → Prop}, Sim K cl σ W → Step ms W0 W → TmpL K W k ds us Gs → (k = true → ∀ G ∈ Gs, ∀ a ∈ G, From W0 ms a) → (∀ G ∈ Gs, ∀ a ∈ G, a ∈ F) → bindTs ts ds k W.st = some st' →
    (∀ σ' W', W'.st = st' → W'.H = W.H → W'.ρ = W.ρ → (∀ a, W'.Z a ↔ W.Z a) → (∀ p, (∀ i ∈ tgss ts, p ≠ .s i) → W'.Fs p = W.Fs p ∧ W'.st.at p = W.st.at p) → (∀ p a, a ∈ W'.Fs p → a ∈ W.Fs p ∨ a ∈ F) → Same' (tgss ts) σ σ' → Sim K cl σ' W' → Step ms W0 W' → Q σ' W'.H) → gsOf K ts us σ W.H Q
  | [], ds, k, st', W, σ, us, Gs, F, Q, s, t, tl, f, hF, h, w => by
    cases tl with
    | nil =>
      have : W.st = st' := Option.some.inj h
      exact ⟨rfl, w σ W this rfl rfl (fun _ => Iff.rfl) (fun _ _ => ⟨rfl, rfl⟩) (fun _ _ z => .inl z) ⟨rfl, fun _ _ => rfl⟩ s t⟩
    | cons _ _ _ => cases h
  | tg :: ts, ds, k, st', W, σ, us, Gs, F, Q, s, t, tl, f, hF, h, w => by
    cases tl with
    | nil => cases h
    | @cons d v F1 ds us Gs m tl dj =>
      simp only [bindTs] at h
      cases e : bindT tg d k W.st with
      | none => rw [e] at h; cases h
      | some s1 =>
        rw [e] at h
        refine ⟨v, us, rfl, bind_ok (F := F1) s t m (fun q => f q F1 (by simp)) e fun σ1 W1 e1 e2 e3 e4 e5 e6 e7 s' t' => ?_⟩
        have tl1 : TmpL K W1 k ds us Gs := by
          clear h f w
          have hF2 : ∀ G ∈ Gs, ∀ a ∈ G, a ∈ F := fun G hg => hF G (by simp [hg])
          induction tl with
          | nil => exact .nil
          | @cons d2 v2 F2 ds2 us2 Gs2 m2 tl2 dj2 ih =>
            refine .cons ⟨by rw [e2, e3]; exact m2.rd, m2.nd, fun q a ma z => m2.nz q a ma ((e4 a).mp z), fun q a ma p mp => ?_, fun q a ma => ?_⟩ (ih (fun q a ma G hg => dj q a ma G (by simp [hg])) (fun G hg => hF G (by
              rcases List.mem_cons.mp hg with z | z
              · simp [z]
              · simp [z])) (fun G hg => hF2 G (by simp [hg]))) dj2
            · rcases e6 p a mp with z | z
              · exact m2.nf q a ma p z
              · exact dj q a z F2 (by simp) ma
            · rcases m2.sh q a ma with z | ⟨j, hj, _⟩
              · exact .inl ((e4 a).mpr z)
              · cases hj
        refine binds_ok (F := F) s' t' tl1 (fun q G hg => f q G (by simp [hg])) (fun G hg => hF G (by simp [hg])) (by rw [e1]; exact h) fun σ2 W2 g1 g2 g3 g4 g5 g6 g7 s2 t2 => ?_
        refine w σ2 W2 g1 (g2.trans e2) (g3.trans e3) (fun a => (g4 a).trans (e4 a)) (fun p hp => ?_) (fun p a ma => ?_) ⟨g7.1.trans e7.1, fun j hj => ?_⟩ s2 t2
        · have h1 := g5 p fun i hi => hp i (by simp [tgss, hi])
          have h2 := e5 p fun i hi => hp i (by simp [tgss, hi])
          exact ⟨h1.1.trans h2.1, h1.2.trans h2.2⟩
        · rcases g6 p a ma with z | z
          · rcases e6 p a z with z | z
            · exact .inl z
            · exact .inr (hF F1 (by simp) a z)
          · exact .inr z
        · exact (g7.2 j fun z => hj (by simp [tgss, z])).trans (e7.2 j fun z => hj (by simp [tgss, z]))
end
end
end VS

-- VS.Iter
/-! What is walked. -/
namespace VS
open PySem PySem.Spec PyProof.Rows L2

/-- an iterator over items, from the world W0 on, while only cells of ms are changed -/
structure Going (K : PySem.W.Frag) (W0 : Wd) (ms : List Nat) (items : List D) (J : It) : Prop where
  go : ∀ {W} (i : Nat), Step ms W0 W → i < items.length → J.go i W.H
  stop : ∀ {W}, Step ms W0 W → J.stop items.length W.H
  yld : ∀ {W} (i : Nat) x H', Step ms W0 W → i < items.length → J.yld i W.H x H' → ∃ d F, items[i]? = some d ∧ Same W.H H' ∧ Rd K W.ρ H' false d x F ∧ ∀ a ∈ F, W.Z a
/-- a value that is walked: its cells stay, and its members can't be changed -/
def Held (K : PySem.W.Frag) (W : Wd) (ms : List Nat) (z : Bool) (d : D) (v : V) : Prop := ∃ F, VS.Rd K W.ρ W.H false d v F ∧ (∀ a ∈ F, ¬ Mc W ms a) ∧ (z = true ∨ ∀ a ∈ F, W.Z a)

section
variable {K : PySem.W.Frag} {cl : String → Addr → Prop} {σ : L2.St} {W0 W : Wd} {ms : List Nat} {z : Bool}
theorem Rds.at {k : Bool} {ρ H} : ∀ {ds vs F} (_ : Rds K ρ H k ds vs F) {i : Nat} {d : D}, ds[i]? = some d → ∃ v G, vs[i]? = some v ∧ VS.Rd K ρ H k d v G ∧ ∀ a ∈ G, a ∈ F
  | _, _, _, .nil, _, _, e => by simp at e
  | _, _, _, .cons (v := v) h t, 0, d, e => by
    simp at e
    subst e
    exact ⟨v, _, rfl, h, fun a m => by simp [m]⟩
  | _, _, _, .cons h t, i + 1, d, e => by
    obtain ⟨v, G, a, b, c⟩ := Rds.at t (i := i) (d := d) (by simpa using e)
    exact ⟨v, G, by simpa using a, b, fun a m => by simp [c a m]⟩
/-- a member, at any later time -/
def Mem (K : PySem.W.Frag) (W0 : Wd) (ms : List Nat) (ds : List D) (vs : List V) (z : Bool) : Prop := ds.length = vs.length ∧ ∀ (W : Wd) (i : Nat) (d : D), Step ms W0 W → ds[i]? = some d → ∃ x F, vs[i]? = some x ∧ VS.Rd K W.ρ W.H false d x F ∧ (z = true ∨ ∀ a ∈ F, W.Z a)
theorem mem_of (s : Sim K cl σ W0) {ds vs G} (r : Rds K W0.ρ W0.H false ds vs G) (n : ∀ a ∈ G, ¬ Mc W0 ms a) (hz : z = true ∨ ∀ a ∈ G, W0.Z a) : Mem K W0 ms ds vs z :=
  ⟨r.length, fun W i d t e => by
    obtain ⟨x, F, h1, h2, h3⟩ := r.at e
    exact ⟨x, F, h1, t.rd s h2 fun a m => n a (h3 a m), hz.imp id fun h a m => t.zz a (h a (h3 a m))⟩⟩
theorem held_lst (s : Sim K cl σ W0) {ds v} (h : Held K W0 ms z (.lst ds) v) : ∃ a vs, v = .ref a ∧ (∀ W, Step ms W0 W → SqL K W.H a vs) ∧ Mem K W0 ms ds vs z := by
  obtain ⟨F, r, n, hz⟩ := h
  cases r with
  | @lst _ a vs _ F h t => exact ⟨a, vs, rfl, fun W u => SqL.of (u.keep a _ h (fun _ _ _ => by simp) (n a (by simp))), mem_of s t (fun b m => n b (by simp [m])) (hz.imp id fun h b m => h b (by simp [m]))⟩
  | @lstR a vs _ F h t =>
    refine ⟨a, vs, rfl, fun W u => ?_, mem_of s t n hz⟩
    rcases h with ⟨o, h⟩ | h
    · exact .inl (.inr ⟨o, u.frz s h⟩)
    · rcases h with h | h
      · rcases h with h | ⟨o, h⟩ <;> cases h
      · exact .inr h
theorem held_tup (s : Sim K cl σ W0) {ds v} (h : Held K W0 ms z (.tup ds) v) : ∃ a vs, v = .ref a ∧ (∀ W, Step ms W0 W → W.H a = some (.tup vs)) ∧ Mem K W0 ms ds vs z := by
  obtain ⟨F, r, n, hz⟩ := h
  cases r with
  | @tup _ a vs _ F h t => exact ⟨a, vs, rfl, fun W u => u.tup s h, mem_of s t n hz⟩
theorem SqL.len {H : Hp} {a : Addr} {xs ys : List V} (h : SqL K H a xs) (h' : SqL K H a ys) : xs.length = ys.length ∨ True := .inr trivial
/-- a member that yields itself -/
theorem Mem.out {ds : List D} {vs : List V} (m : Mem K W0 ms ds vs z) (hc : z = true → cfs ds = true) {i : Nat} (hi : i < ds.length) (t : Step ms W0 W) {x : V} (hx : vs[i]? = some x) : ∃ d F, ds[i]? = some d ∧ VS.Rd K W.ρ W.H false d x F ∧ ∀ a ∈ F, W.Z a := by
  have e : ds[i]? = some ds[i] := by simp [hi]
  obtain ⟨x', F, h1, h2, h3⟩ := m.2 W i _ t e
  rw [hx] at h1
  cases h1
  have key : ∀ d ∈ ds, cfs ds = true → cf d = true := by
    clear e h2 h3 hi m hc
    induction ds with
    | nil => intro d m; cases m
    | cons y r ih =>
      intro d m c
      have c' := Bool.and_eq_true_iff.mp (show (cf y && cfs r) = true by simpa [cfs] using c)
      rcases List.mem_cons.mp m with q | q
      · rw [q]; exact c'.1
      · exact ih d q c'.2
  rcases h3 with h3 | h3
  · obtain ⟨_, r⟩ := h2.flat (o' := false) (key _ (List.getElem_mem hi) (hc h3))
    exact ⟨_, [], e, r, fun _ m => nomatch m⟩
  · exact ⟨_, F, e, h2, h3⟩
theorem going_list (s : Sim K cl σ W0) {ds : List D} {v : V} (h : Held K W0 ms z (.lst ds) v) (hc : z = true → cfs ds = true) : ∃ a, v = .ref a ∧ (∃ xs, SqL K W0.H a xs) ∧ Going K W0 ms ds (Itl K a) := by
  obtain ⟨a, vs, rfl, hq, m⟩ := held_lst s h
  have w := walk_list (K := K) (a := a) (xs := vs)
  refine ⟨a, rfl, ⟨vs, hq _ Step.refl⟩, fun i t hi => w.goes i _ (by rw [← m.1]; exact hi) (hq _ t), fun t => by rw [m.1]; exact w.stops _ (hq _ t), fun i x H' t hi y => ?_⟩
  obtain ⟨e, hx⟩ := w.yields i _ x H' (by rw [← m.1]; exact hi) (hq _ t) y
  subst e
  obtain ⟨d, F, h1, h2, h3⟩ := m.out hc hi t hx
  exact ⟨d, F, h1, fun _ _ q => q, h2, h3⟩
theorem going_tup (s : Sim K cl σ W0) {ds : List D} {v : V} (h : Held K W0 ms z (.tup ds) v) (hc : z = true → cfs ds = true) : ∃ a, v = .ref a ∧ (∃ xs, SqT K W0.H a xs) ∧ Going K W0 ms ds (Itt K a) := by
  obtain ⟨a, vs, rfl, hq, m⟩ := held_tup s h
  have w := walk_tup (K := K) (a := a) (xs := vs)
  refine ⟨a, rfl, ⟨vs, SqT.of (hq _ Step.refl)⟩, fun i t hi => w.goes i _ (by rw [← m.1]; exact hi) (SqT.of (hq _ t)), fun t => by rw [m.1]; exact w.stops _ (SqT.of (hq _ t)), fun i x H' t hi y => ?_⟩
  obtain ⟨e, hx⟩ := w.yields i _ x H' (by rw [← m.1]; exact hi) (SqT.of (hq _ t)) y
  subst e
  obtain ⟨d, F, h1, h2, h3⟩ := m.out hc hi t hx
  exact ⟨d, F, h1, fun _ _ q => q, h2, h3⟩
theorem going_str {x : Str} : Going K W0 ms (x.cps.toList.map fun c => D.str ⟨#[c]⟩) (Its x) := by
  have w := walk_str (z := x)
  have hl : (x.cps.toList.map fun c => D.str ⟨#[c]⟩).length = x.cps.size := by simp
  refine ⟨fun i t hi => w.goes i _ (by rw [← hl]; exact hi) trivial, fun t => by rw [hl]; exact w.stops _ trivial, fun i y H' t hi h => ?_⟩
  obtain ⟨e, c, h1, h2⟩ := w.yields i _ y H' (by rw [← hl]; exact hi) trivial h
  subst e h2
  refine ⟨.str ⟨#[c]⟩, [], ?_, fun _ _ q => q, .str, fun _ m => nomatch m⟩
  rw [List.getElem?_map, Array.getElem?_toList, h1]
  rfl
theorem going_range {lo : Int} {n : Nat} : Going K W0 ms ((List.range n).map fun (i : Nat) => D.int (lo + (i : Int))) (Itr lo n) := by
  have w := walk_range (lo := lo) (n := n)
  have hl : ((List.range n).map fun (i : Nat) => D.int (lo + (i : Int))).length = n := by simp
  refine ⟨fun i t hi => w.goes i _ (by rw [← hl]; exact hi) trivial, fun t => by rw [hl]; exact w.stops _ trivial, fun i y H' t hi h => ?_⟩
  obtain ⟨e, h2⟩ := w.yields i _ y H' (by rw [← hl]; exact hi) trivial h
  subst e h2
  have hi' : i < n := by rw [← hl]; exact hi
  refine ⟨.int (lo + i), [], ?_, fun _ _ q => q, .int, fun _ m => nomatch m⟩
  rw [List.getElem?_map, List.getElem?_range hi']
  rfl
theorem zip_some {α β : Type} {xs : List α} {ys : List β} {i : Nat} {x : α} {y : β} (h1 : xs[i]? = some x) (h2 : ys[i]? = some y) : (xs.zip ys)[i]? = some (x, y) := List.getElem?_zip_eq_some.mpr ⟨h1, h2⟩
/-- a pair made anew -/
theorem pair_out {x y : D} {vx vy : V} {Fx Fy : List Addr} {T : Addr} (h1 : VS.Rd K W.ρ W.H false x vx Fx) (h2 : VS.Rd K W.ρ W.H false y vy Fy) (z1 : ∀ a ∈ Fx, W.Z a) (z2 : ∀ a ∈ Fy, W.Z a) (hT : W.H T = none) :
    Same W.H (upd W.H T (.tup [vx, vy])) ∧ VS.Rd K W.ρ (upd W.H T (.tup [vx, vy])) false (.tup [x, y]) (.ref T) (Fx ++ (Fy ++ [])) ∧ ∀ a ∈ Fx ++ (Fy ++ []), W.Z a := by
  refine ⟨Same.put hT, .tup upd_same ((Rds.cons h1 (.cons h2 .nil)).fresh hT), fun a m => ?_⟩
  rcases List.mem_append.mp m with m | m
  · exact z1 a m
  · exact z2 a (by simpa using m)
theorem going_enum (s : Sim K cl σ W0) {ds : List D} {v : V} (h : Held K W0 ms z (.lst ds) v) (hc : z = true → cfs ds = true) : ∃ a xs, v = .ref a ∧ SqL K W0.H a xs ∧ Going K W0 ms ((List.range ds.length).zip ds |>.map fun p => D.tup [.int (p.1 : Int), p.2]) (Ite K a) := by
  obtain ⟨a, vs, rfl, hq, m⟩ := held_lst s h
  have w := walk_enum (K := K) (a := a) (xs := vs)
  have hl : (((List.range ds.length).zip ds).map fun p => D.tup [.int (p.1 : Int), p.2]).length = ds.length := by simp
  refine ⟨a, vs, rfl, hq _ Step.refl, fun i t hi => w.goes i _ (by rw [← m.1, ← hl]; exact hi) (hq _ t), fun t => by rw [hl, m.1]; exact w.stops _ (hq _ t), fun i x H' t hi y => ?_⟩
  rw [hl] at hi
  obtain ⟨T, x1, x2, rfl, hT, rfl, e1, e2⟩ := w.yields i _ x H' (by rw [← m.1]; exact hi) (hq _ t) y
  obtain ⟨d, F, h1, h2, h3⟩ := m.out hc hi t e2
  cases e1
  obtain ⟨p1, p2, p3⟩ := pair_out (x := .int (i : Int)) .int h2 (fun _ m => nomatch m) h3 hT
  refine ⟨.tup [.int (i : Int), d], _, ?_, p1, p2, p3⟩
  rw [List.getElem?_map, zip_some (List.getElem?_range hi) h1]
  rfl
theorem zip_len {α β : Type} {xs : List α} {ys : List β} : (xs.zip ys).length = min xs.length ys.length := List.length_zip
/-- what is walked of two, pair by pair -/
theorem mem_zip {ds es : List D} {vs us : List V} (m : Mem K W0 ms ds vs z) (n : Mem K W0 ms es us z) (hc : z = true → cfs ((ds.zip es).map fun p => D.tup [p.1, p.2]) = true) {i : Nat} (hi : i < min ds.length es.length) (t : Step ms W0 W) {x y : V} (hx : vs[i]? = some x) (hy : us[i]? = some y) :
    ∃ d e F G, ds[i]? = some d ∧ es[i]? = some e ∧ VS.Rd K W.ρ W.H false d x F ∧ VS.Rd K W.ρ W.H false e y G ∧ (∀ a ∈ F, W.Z a) ∧ ∀ a ∈ G, W.Z a := by
  have h1 : i < ds.length := by omega
  have h2 : i < es.length := by omega
  have e1 : ds[i]? = some ds[i] := by simp [h1]
  have e2 : es[i]? = some es[i] := by simp [h2]
  obtain ⟨x', F, q1, q2, q3⟩ := m.2 W i _ t e1
  obtain ⟨y', G, r1, r2, r3⟩ := n.2 W i _ t e2
  rw [hx] at q1
  rw [hy] at r1
  cases q1
  cases r1
  cases hz : z with
  | false => exact ⟨_, _, F, G, e1, e2, q2, r2, by rcases q3 with q | q; · rw [hz] at q; cases q
                                                   · exact q, by rcases r3 with q | q; · rw [hz] at q; cases q
                                                                 · exact q⟩
  | true =>
    have key : ∀ (ps : List D) d, d ∈ ps → cfs ps = true → cf d = true := by
      intro ps
      induction ps with
      | nil => intro d m; cases m
      | cons y r ih =>
        intro d m c
        have c' := Bool.and_eq_true_iff.mp (show (cf y && cfs r) = true by simpa [cfs] using c)
        rcases List.mem_cons.mp m with q | q
        · rw [q]; exact c'.1
        · exact ih d q c'.2
    have hm : D.tup [ds[i], es[i]] ∈ (ds.zip es).map fun p => D.tup [p.1, p.2] := by
      refine List.mem_map.mpr ⟨(ds[i], es[i]), ?_, rfl⟩
      refine List.mem_of_getElem? (i := i) ?_
      exact zip_some e1 e2
    have c := key _ _ hm (hc hz)
    have c' : (cf ds[i] && (cf es[i] && true)) = true := by simpa [cf, cfs] using c
    simp only [Bool.and_eq_true] at c'
    obtain ⟨_, f1⟩ := q2.flat (o' := false) c'.1
    obtain ⟨_, f2⟩ := r2.flat (o' := false) c'.2.1
    exact ⟨_, _, [], [], e1, e2, f1, f2, fun _ m => (nomatch m), fun _ m => (nomatch m)⟩
theorem zip_at {ds es : List D} {i : Nat} {d e : D} (h1 : ds[i]? = some d) (h2 : es[i]? = some e) : ((ds.zip es).map fun p => D.tup [p.1, p.2])[i]? = some (D.tup [d, e]) := by
  rw [List.getElem?_map, zip_some h1 h2]
  rfl
theorem going_zip (s : Sim K cl σ W0) {ds es : List D} {v u : V} (h : Held K W0 ms z (.lst ds) v) (h' : Held K W0 ms z (.lst es) u) (hc : z = true → cfs ((ds.zip es).map fun p => D.tup [p.1, p.2]) = true) :
    ∃ a b xs ys, v = .ref a ∧ u = .ref b ∧ SqL K W0.H a xs ∧ SqL K W0.H b ys ∧ Going K W0 ms ((ds.zip es).map fun p => D.tup [p.1, p.2]) (Itz K a b) := by
  obtain ⟨a, vs, rfl, hq, m⟩ := held_lst s h
  obtain ⟨b, us, rfl, hq', n⟩ := held_lst s h'
  have w := walk_zip (K := K) (a := a) (b := b) (xs := vs) (ys := us) rfl
  have hl : ((ds.zip es).map fun p => D.tup [p.1, p.2]).length = min vs.length us.length := by simp [m.1, n.1]
  refine ⟨a, b, vs, us, rfl, rfl, hq _ Step.refl, hq' _ Step.refl, fun i t hi => w.goes i _ (by rw [← hl]; exact hi) ⟨hq _ t, hq' _ t⟩, fun t => by rw [hl]; exact w.stops _ ⟨hq _ t, hq' _ t⟩, fun i x H' t hi y => ?_⟩
  rw [hl] at hi
  obtain ⟨T, x1, x2, rfl, hT, rfl, e1, e2⟩ := w.yields i _ x H' hi ⟨hq _ t, hq' _ t⟩ y
  obtain ⟨d, e, F, G, g1, g2, g3, g4, g5, g6⟩ := mem_zip m n hc (by rw [m.1, n.1]; exact hi) t e1 e2
  obtain ⟨p1, p2, p3⟩ := pair_out g3 g4 g5 g6 hT
  exact ⟨_, _, zip_at g1 g2, p1, p2, p3⟩
theorem walk_zipT {a b : Addr} {xs ys : List V} {n : Nat} (hn : n = min xs.length ys.length) : Walk (RZ.ItzT K a b) n (fun H => SqT K H a xs ∧ SqT K H b ys) (YPair (fun i => xs[i]?) (fun i => ys[i]?)) := by
  subst hn
  refine ⟨fun i _ hi q => ?_, fun _ q => ⟨xs, ys, q.1, q.2, by omega⟩, fun i H v H' _ q y => ?_⟩
  · have h1 : i < xs.length := by omega
    have h2 : i < ys.length := by omega
    exact ⟨xs, ys, xs[i], ys[i], q.1, q.2, by simp [h1], by simp [h2]⟩
  · obtain ⟨T, x, z, h1, h2, h3, h4, h5⟩ := y
    exact ⟨T, x, z, h1, h2, h3, h4 xs q.1, h5 ys q.2⟩
theorem going_zipT (s : Sim K cl σ W0) {ds es : List D} {v u : V} (h : Held K W0 ms z (.tup ds) v) (h' : Held K W0 ms z (.tup es) u) (hc : z = true → cfs ((ds.zip es).map fun p => D.tup [p.1, p.2]) = true) :
    ∃ a b xs ys, v = .ref a ∧ u = .ref b ∧ SqT K W0.H a xs ∧ SqT K W0.H b ys ∧ Going K W0 ms ((ds.zip es).map fun p => D.tup [p.1, p.2]) (RZ.ItzT K a b) := by
  obtain ⟨a, vs, rfl, hq, m⟩ := held_tup s h
  obtain ⟨b, us, rfl, hq', n⟩ := held_tup s h'
  have w := walk_zipT (K := K) (a := a) (b := b) (xs := vs) (ys := us) rfl
  have hl : ((ds.zip es).map fun p => D.tup [p.1, p.2]).length = min vs.length us.length := by simp [m.1, n.1]
  refine ⟨a, b, vs, us, rfl, rfl, SqT.of (hq _ Step.refl), SqT.of (hq' _ Step.refl), fun i t hi => w.goes i _ (by rw [← hl]; exact hi) ⟨SqT.of (hq _ t), SqT.of (hq' _ t)⟩, fun t => by rw [hl]; exact w.stops _ ⟨SqT.of (hq _ t), SqT.of (hq' _ t)⟩, fun i x H' t hi y => ?_⟩
  rw [hl] at hi
  obtain ⟨T, x1, x2, rfl, hT, rfl, e1, e2⟩ := w.yields i _ x H' hi ⟨SqT.of (hq _ t), SqT.of (hq' _ t)⟩ y
  obtain ⟨d, e, F, G, g1, g2, g3, g4, g5, g6⟩ := mem_zip m n hc (by rw [m.1, n.1]; exact hi) t e1 e2
  obtain ⟨p1, p2, p3⟩ := pair_out g3 g4 g5 g6 hT
  exact ⟨_, _, zip_at g1 g2, p1, p2, p3⟩
end
end VS

-- VS.Frz
/-! What is kept for good is frozen. -/
namespace VS
open PySem PySem.Spec PyProof.Rows L2

def Wd.frz1 (W : Wd) (i : Nat) : Wd := match W.st.get i with
  | some (d, true) => if cf d then W else { W with st := W.st.set i (some (d, false)), Z := fun a => W.Z a ∨ a ∈ W.Fs (.s i) }
  | _ => W
def Wd.frz (W : Wd) : List Nat → Wd
  | [] => W
  | i :: r => (W.frz1 i).frz r
def Wd.keep (W : Wd) (k : Bool) (vs : List Nat) : Wd := if k then W else W.frz vs
section
variable {K : PySem.W.Frag} {cl : String → Addr → Prop} {σ : L2.St} {W W0 : Wd} {ms : List Nat}
theorem frz1_cases (i : Nat) : (W.frz1 i = W ∧ ∀ d, W.st.get i = some (d, true) → cf d = true) ∨ ∃ d, W.st.get i = some (d, true) ∧ cf d = false ∧ W.frz1 i = { W with st := W.st.set i (some (d, false)), Z := fun a => W.Z a ∨ a ∈ W.Fs (.s i) } := by
  unfold Wd.frz1
  cases h : W.st.get i with
  | none => exact .inl ⟨rfl, fun d e => nomatch e⟩
  | some p =>
    obtain ⟨d, k⟩ := p
    cases k with
    | false => exact .inl ⟨rfl, fun e q => by injection q with q; injection q with _ q; cases q⟩
    | true =>
      cases c : cf d with
      | true => exact .inl ⟨by simp [c], fun e q => by injection q with q; injection q with q; rw [← q]; exact c⟩
      | false => exact .inr ⟨d, rfl, c, by simp [c]⟩
theorem frz1_st (i : Nat) : (W.frz1 i).st = (match W.st.get i with
    | some (d, true) => if cf d then W.st else W.st.set i (some (d, false))
    | _ => W.st) := by
  unfold Wd.frz1
  split
  · split <;> simp_all
  · rfl
theorem frz_st : ∀ (is : List Nat) (W : Wd), (W.frz is).st = W.st.frz is
  | [], _ => rfl
  | i :: r, W => by
    show ((W.frz1 i).frz r).st = _
    rw [frz_st r, frz1_st]
    rfl
theorem frz1_same (i : Nat) : (W.frz1 i).H = W.H ∧ (W.frz1 i).ρ = W.ρ ∧ (W.frz1 i).Fs = W.Fs := by
  rcases frz1_cases (W := W) i with ⟨e, _⟩ | ⟨d, _, _, e⟩ <;> rw [e] <;> exact ⟨rfl, rfl, rfl⟩
theorem frz_same : ∀ (is : List Nat) (W : Wd), (W.frz is).H = W.H ∧ (W.frz is).ρ = W.ρ ∧ (W.frz is).Fs = W.Fs
  | [], _ => ⟨rfl, rfl, rfl⟩
  | i :: r, W => by
    have h := frz_same r (W.frz1 i)
    have h1 := frz1_same (W := W) i
    exact ⟨h.1.trans h1.1, h.2.1.trans h1.2.1, h.2.2.trans h1.2.2⟩
theorem keep_st {k : Bool} {vs : List Nat} : (W.keep k vs).st = W.st.keep k vs := by
  cases k with
  | true => rfl
  | false => exact frz_st vs W
theorem keep_same {k : Bool} {vs : List Nat} : (W.keep k vs).H = W.H ∧ (W.keep k vs).ρ = W.ρ ∧ (W.keep k vs).Fs = W.Fs := by
  cases k with
  | true => exact ⟨rfl, rfl, rfl⟩
  | false => exact frz_same vs W
theorem frz1_z (i : Nat) {a : Addr} (z : W.Z a) : (W.frz1 i).Z a := by
  rcases frz1_cases (W := W) i with ⟨e, _⟩ | ⟨d, _, _, e⟩ <;> rw [e]
  · exact z
  · exact .inl z
theorem frz_z : ∀ (is : List Nat) (W : Wd) {a : Addr}, W.Z a → (W.frz is).Z a
  | [], _, _, z => z
  | i :: r, W, _, z => frz_z r (W.frz1 i) (frz1_z i z)
theorem frz1_zn (i : Nat) {a : Addr} (z : (W.frz1 i).Z a) : W.Z a ∨ a ∈ W.Fs (.s i) := by
  rcases frz1_cases (W := W) i with ⟨e, _⟩ | ⟨d, _, _, e⟩ <;> rw [e] at z
  · exact .inl z
  · exact z
theorem frz_zn : ∀ (is : List Nat) (W : Wd) {a : Addr}, (W.frz is).Z a → W.Z a ∨ ∃ p, a ∈ W.Fs p
  | [], _, _, z => .inl z
  | i :: r, W, a, z => by
    rcases frz_zn r (W.frz1 i) z with w | ⟨p, w⟩
    · exact (frz1_zn i w).imp id fun w => ⟨_, w⟩
    · rw [(frz1_same i).2.2] at w; exact .inr ⟨p, w⟩
theorem Sim.frz1 (s : Sim K cl σ W) (i : Nat) : Sim K cl σ (W.frz1 i) := by
  rcases frz1_cases (W := W) i with ⟨e, _⟩ | ⟨d0, hi, _, e⟩
  · rw [e]; exact s
  · rw [e]
    have hlt := S.get_lt hi
    have at' : ∀ p, S.at (W.st.set i (some (d0, false))) p = if p = .s i then some (d0, false) else W.st.at p := fun p => by
      cases p with
      | s j =>
        show (W.st.set i _).get j = _
        rw [S.set_get]
        by_cases e : i = j
        · subst e; rw [if_pos rfl, if_pos hlt, if_pos rfl]
        · rw [if_neg e, if_neg (fun z => e (by injection z with z; exact z.symm))]; rfl
      | f o n => rw [if_neg (fun z => nomatch z)]; rfl
    have old : W.st.at (.s i) = some (d0, true) := hi
    have ne : ∀ {p d k}, S.at (W.st.set i (some (d0, false))) p = some (d, k) → (p = .s i ∧ d = d0 ∧ k = false) ∨ (p ≠ .s i ∧ W.st.at p = some (d, k)) := fun {p d k} h => by
      rw [at'] at h
      by_cases e : p = .s i
      · rw [if_pos e] at h; cases h; exact .inl ⟨e, rfl, rfl⟩
      · rw [if_neg e] at h; exact .inr ⟨e, h⟩
    refine ⟨fun p d k h => ?_, s.ob, s.rl, s.rn, fun p h => ?_, fun p d h => ?_, fun p d h a m => ?_, fun p d h a m => ?_, fun p r d e hpr h h' a m m' => ?_, fun a z => ?_, by show (W.st.sl.set i _).length = _; rw [List.length_set]; exact s.ln⟩
    · rcases ne h with ⟨rfl, rfl, rfl⟩ | ⟨_, h⟩
      · obtain ⟨v, h1, h2⟩ := s.rd (.s i) _ _ old
        exact ⟨v, h1, h2.weak⟩
      · exact s.rd p d k h
    · have h' : S.at (W.st.set i (some (d0, false))) p = none := h
      rw [at'] at h'
      by_cases e : p = .s i
      · rw [if_pos e] at h'; cases h'
      · rw [if_neg e] at h'; exact s.non p h'
    · rcases ne h with ⟨_, _, q⟩ | ⟨_, h⟩
      · cases q
      · exact s.nd p d h
    · rcases ne h with ⟨_, _, q⟩ | ⟨n, h⟩
      · cases q
      · intro z
        rcases z with z | z
        · exact s.own p d h a m z
        · exact s.dj p (.s i) d d0 n h old a m z
    · rcases ne h with ⟨rfl, _, _⟩ | ⟨_, h⟩
      · exact .inr m
      · exact .inl (s.frz p d h a m)
    · rcases ne h with ⟨_, _, q⟩ | ⟨_, h⟩
      · cases q
      · rcases ne h' with ⟨_, _, q⟩ | ⟨_, h'⟩
        · cases q
        · exact s.dj p r d e hpr h h' a m m'
    · rcases z with z | z
      · exact s.zt a z
      · exact (s.cel z).ne
theorem Sim.freeze : ∀ (is : List Nat) {W : Wd}, Sim K cl σ W → Sim K cl σ (W.frz is)
  | [], _, s => s
  | i :: r, _, s => Sim.freeze r (s.frz1 i)
theorem Sim.kept (s : Sim K cl σ W) (k : Bool) (vs : List Nat) : Sim K cl σ (W.keep k vs) := by
  cases k with
  | true => exact s
  | false => exact Sim.freeze vs s
theorem Step.freeze (is : List Nat) (W : Wd) : Step ms W (W.frz is) := by
  obtain ⟨e1, e2, e3⟩ := frz_same is W
  exact ⟨⟨[], by rw [e2]; simp⟩, fun a o h _ _ => by rw [e1]; exact h, fun a h => by rw [e1]; exact h, fun p a m => by rw [e3] at m; exact .inr (.inl m), fun a z => frz_z is W z, fun a z => (frz_zn is W z).imp id .inr⟩
theorem Step.kept (k : Bool) (vs : List Nat) (W : Wd) : Step ms W (W.keep k vs) := by
  cases k with
  | true => exact Step.refl
  | false => exact Step.freeze vs W
theorem Own.frz1 {i : Nat} {p : Pl} (o : Own (W.frz1 i) p) : Own W p := by
  rcases frz1_cases (W := W) i with ⟨e, _⟩ | ⟨d0, hi, _, e⟩
  · rwa [e] at o
  · rw [e] at o
    obtain ⟨d, h⟩ := o
    cases p with
    | s j =>
      have h' : (W.st.set i (some (d0, false))).get j = some (d, true) := h
      rw [S.set_get] at h'
      by_cases q : i = j
      · subst q
        rw [if_pos rfl] at h'
        split at h' <;> cases h'
      · rw [if_neg q] at h'; exact ⟨d, h'⟩
    | f o n => exact ⟨d, h⟩
theorem Own.frz : ∀ {is : List Nat} {W : Wd} {p : Pl}, Own (W.frz is) p → Own W p
  | [], _, _, o => o
  | i :: r, W, _, o => Own.frz1 (Own.frz (is := r) o)
theorem Mc.frz {is : List Nat} {a : Addr} (m : Mc (W.frz is) ms a) : Mc W ms a := by
  obtain ⟨p, t, o, h⟩ := m
  rw [(frz_same is W).2.2] at h
  exact ⟨p, t, o.frz, h⟩
/-- all of a frozen name's cells are frozen -/
theorem frz1_all (s : Sim K cl σ W) (i : Nat) : ∀ a ∈ (W.frz1 i).Fs (.s i), (W.frz1 i).Z a := by
  intro a m
  rcases frz1_cases (W := W) i with ⟨e, hc⟩ | ⟨d0, hi, _, e⟩
  · rw [e] at m ⊢
    cases h : W.st.at (.s i) with
    | none => rw [s.non _ h] at m; cases m
    | some p =>
      obtain ⟨d, k⟩ := p
      cases k with
      | false => exact s.frz _ d h a m
      | true =>
        obtain ⟨v, _, r⟩ := s.rd _ d true h
        obtain ⟨e, _⟩ := r.flat (o' := true) (hc d h)
        rw [e] at m; cases m
  · rw [e] at m ⊢
    exact .inr m
theorem frz_all : ∀ (is : List Nat) {W : Wd}, Sim K cl σ W → ∀ i ∈ is, ∀ a ∈ W.Fs (.s i), (W.frz is).Z a
  | [], _, _, _, m, _, _ => nomatch m
  | j :: r, W, s, i, m, a, ma => by
    by_cases q : i = j
    · subst q
      exact frz_z r _ (frz1_all s i a (by rw [(frz1_same i).2.2]; exact ma))
    · rcases List.mem_cons.mp m with z | z
      · exact absurd z q
      · exact frz_all r (s.frz1 j) i z a (by rw [(frz1_same j).2.2]; exact ma)
theorem Tmp.frz {vs is : List Nat} {d k v F} (t : Tmp K W vs d k v F) : Tmp K (W.frz is) vs d k v F := by
  obtain ⟨e1, e2, e3⟩ := frz_same is W
  refine ⟨by rw [e1, e2]; exact t.rd, t.nd, fun e a m z => ?_, fun e a m p h => by rw [e3] at h; exact t.nf e a m p h, fun e a m => by rw [e3]; exact (t.sh e a m).imp (fun z => frz_z is W z) id⟩
  rcases frz_zn is W z with w | ⟨p, w⟩
  · exact t.nz e a m w
  · exact t.nf e a m p w
/-- what is kept for good -/
theorem Tmp.kept (s : Sim K cl σ W) {vs : List Nat} {d k v F} (t : Tmp K W vs d k v F) : Tmp K (W.keep k vs) [] d k v F := by
  cases k with
  | true =>
    show Tmp K W [] d true v F
    exact ⟨t.rd, t.nd, t.nz, t.nf, fun e => Bool.noConfusion e⟩
  | false =>
    have t' := t.frz (is := vs)
    refine ⟨t'.rd, t'.nd, t'.nz, t'.nf, fun e a m => .inl ?_⟩
    rcases t.sh e a m with z | ⟨i, hi, z⟩
    · exact frz_z vs W z
    · exact frz_all vs s i hi a z
/-- a value to be walked -/
theorem Tmp.held {vs : List Nat} {d k v F} {G : List Addr} {z : Bool} (s : Sim K cl σ W) (t : Tmp K W vs d k v F) (hd : k = true ∨ disj vs ms = true) (hz : z = true ∨ k = true ∨ ∀ i ∈ vs, ∀ a ∈ W.Fs (.s i), W.Z a) (hG : ∀ a ∈ F, a ∈ G) : Held K (W.ice G) ms z d v := by
  refine ⟨F, t.rd.weak, fun a m => ?_, ?_⟩
  · have n := t.notM s hd a m
    exact fun ⟨p, q, o, w⟩ => n ⟨p, q, o, w⟩
  · rcases hz with h | h | h
    · exact .inl h
    · exact .inr fun a m => .inr ⟨hG a m, t.nf h a m⟩
    · cases k with
      | true => exact .inr fun a m => .inr ⟨hG a m, t.nf rfl a m⟩
      | false =>
        refine .inr fun a m => ?_
        rcases t.sh rfl a m with w | ⟨i, hi, w⟩
        · exact .inl w
        · exact .inl (h i hi a w)
end
end VS

-- VS.Stm
/-! Statements. -/
namespace VS
open PySem PySem.Spec PyProof.Rows L2

/-- names that keep what they have -/
def Pin (J : Nat → Prop) (σ σ' : L2.St) : Prop := ∀ j, J j → σ'[j]? = σ[j]?
theorem Pin.refl {J : Nat → Prop} {σ : L2.St} : Pin J σ σ := fun _ _ => rfl
theorem Pin.trans {J : Nat → Prop} {σ σ1 σ2 : L2.St} (p : Pin J σ σ1) (q : Pin J σ1 σ2) : Pin J σ σ2 := fun j h => (q j h).trans (p j h)
theorem Same'.pin {J : Nat → Prop} {is : List Nat} {σ σ' : L2.St} (h : Same' is σ σ') (d : ∀ i ∈ is, ¬ J i) : Pin J σ σ' := fun j hj => h.2 j fun z => d j z hj
section
variable (K : PySem.W.Frag) (cl : String → Addr → Prop) (Wx : WX) (W : Wd) (ms : List Nat) (J : Nat → Prop) (σ : L2.St)
def PostN (st' : S) (Q : L2.St → Hp → Prop) : Prop := ∀ W' σ', W'.st = st' → Sim K cl σ' W' → Step ms W W' → Pin J σ σ' → Q σ' W'.H
def PostR (d : D) (k : Bool) (st' : S) (Q : VK) : Prop := ∀ W' σ' v F, W'.st = st' → Sim K cl σ' W' → Step ms W W' → Pin J σ σ' → Tmp K W' [] d k v F → (k = true → ∀ a ∈ F, From W ms a) → Q v W'.H
def PostX (c : String) (fs : List (Str × D)) (st' : S) : Prop := ∀ W' σ' cls dd, W'.st = st' → Sim K cl σ' W' → Step ms W W' → Pin J σ σ' → ExcAt K cl W' c fs cls dd → Wx cls dd σ' W'.H
def GoS (r : Rs) (E : Ends) : Prop := match r with
  | .next st' => PostN K cl W ms J σ st' E.nx
  | .brk st' => PostN K cl W ms J σ st' E.bk
  | .cnt st' => PostN K cl W ms J σ st' E.ct
  | .ret d k st' => PostR K cl W ms J σ d k st' E.rt
  | .exc c fs st' => PostX K cl Wx W ms J σ c fs st'
  | .err => False
end
def trS (K : PySem.W.Frag) (cl : String → Addr → Prop) (L : Lk) (Wx : WX) (J : Nat → Prop) (x : Sm) : TS := fun E σ H => ∃ W, W.H = H ∧ Sim K cl σ W ∧ GoS K cl Wx W (mutsM x) J σ (exec L x W.st) E
def trSs (K : PySem.W.Frag) (cl : String → Addr → Prop) (L : Lk) (Wx : WX) (J : Nat → Prop) (x : List Sm) : TS := fun E σ H => ∃ W, W.H = H ∧ Sim K cl σ W ∧ GoS K cl Wx W (mutsS x) J σ (execs L x W.st) E

section
variable {K : PySem.W.Frag} {cl : String → Addr → Prop} {L : Lk} {σ σ1 : L2.St} {Wx : WX} {W W1 : Wd} {ms ns os : List Nat} {H : Hp} {E : Ends} {J : Nat → Prop}
theorem PostN.from {st'} {Q : L2.St → Hp → Prop} (h : PostN K cl W ns J σ st' Q) (s : Sim K cl σ W) (s1 : Sim K cl σ1 W1) (t : Step ms W W1) (p : Pin J σ σ1) (hm : ∀ i ∈ ms ++ os, i ∈ ns) : PostN K cl W1 os J σ1 st' Q :=
  fun W' σ' e s' t' p' => h W' σ' e s' ((t.trans s s1 t').mono hm) (p.trans p')
theorem PostR.from {d k st'} {Q : VK} (h : PostR K cl W ns J σ d k st' Q) (s : Sim K cl σ W) (s1 : Sim K cl σ1 W1) (t : Step ms W W1) (p : Pin J σ σ1) (hm : ∀ i ∈ ms ++ os, i ∈ ns) : PostR K cl W1 os J σ1 d k st' Q :=
  fun W' σ' v F e s' t' p' m f => h W' σ' v F e s' ((t.trans s s1 t').mono hm) (p.trans p') m fun q a z => ((f q a z).back s s1 t).mono hm
theorem PostX.from {c fs st'} (h : PostX K cl Wx W ns J σ c fs st') (s : Sim K cl σ W) (s1 : Sim K cl σ1 W1) (t : Step ms W W1) (p : Pin J σ σ1) (hm : ∀ i ∈ ms ++ os, i ∈ ns) : PostX K cl Wx W1 os J σ1 c fs st' :=
  fun W' σ' cls dd e s' t' p' x => h W' σ' cls dd e s' ((t.trans s s1 t').mono hm) (p.trans p') x
theorem GoS.from {r} (h : GoS K cl Wx W ns J σ r E) (s : Sim K cl σ W) (s1 : Sim K cl σ1 W1) (t : Step ms W W1) (p : Pin J σ σ1) (hm : ∀ i ∈ ms ++ os, i ∈ ns) : GoS K cl Wx W1 os J σ1 r E := by
  cases r with
  | next _ => exact PostN.from h s s1 t p hm
  | brk _ => exact PostN.from h s s1 t p hm
  | cnt _ => exact PostN.from h s s1 t p hm
  | ret _ _ _ => exact PostR.from h s s1 t p hm
  | exc _ _ _ => exact PostX.from h s s1 t p hm
  | err => exact h
theorem GoS.sub {r} (h : GoS K cl Wx W ns J σ r E) (s : Sim K cl σ W) (hm : ∀ i ∈ os, i ∈ ns) : GoS K cl Wx W os J σ r E := h.from s s (Step.refl (ms := [])) Pin.refl (by simpa using hm)
theorem PostX.ex {c fs st'} (h : PostX K cl Wx W ns J σ c fs st') (hm : ∀ i ∈ os, i ∈ ns) : PostEx K cl σ Wx W os c fs st' := fun W' cls dd e s' t' x => h W' σ cls dd e s' (t'.toStep.mono hm) Pin.refl x
/-- the ends of another one -/
theorem GoS.ends {r} {E' : Ends} (h : GoS K cl Wx W ns J σ r E) (hn : ∀ st, r = .next st → PostN K cl W ns J σ st E'.nx) (hb : ∀ st, r = .brk st → PostN K cl W ns J σ st E'.bk) (hc : ∀ st, r = .cnt st → PostN K cl W ns J σ st E'.ct) (hr : E'.rt = E.rt) : GoS K cl Wx W ns J σ r E' := by
  cases r with
  | next st => exact hn st rfl
  | brk st => exact hb st rfl
  | cnt st => exact hc st rfl
  | ret _ _ _ => show PostR _ _ _ _ _ _ _ _ _ E'.rt; rw [hr]; exact h
  | exc _ _ _ => exact h
  | err => exact h

theorem ts_nil (h : trSs K cl L Wx J [] E σ H) : tNext E σ H := by
  obtain ⟨W, eH, s, hgo⟩ := h
  rw [← eH]
  exact hgo W σ rfl s Step.refl Pin.refl
theorem ts_cons {x : Sm} {r : List Sm} (h : trSs K cl L Wx J (x :: r) E σ H) : tSeq (trS K cl L Wx J x) (trSs K cl L Wx J r) E σ H := by
  obtain ⟨W, eH, s, hgo⟩ := h
  refine ⟨W, eH, s, ?_⟩
  simp only [execs] at hgo
  simp only [mutsS] at hgo
  cases h1 : exec L x W.st with
  | next st1 =>
    rw [h1] at hgo
    intro W1 σ1 e1 s1 t1 p1
    subst e1
    exact ⟨W1, rfl, s1, hgo.from s s1 t1 p1 fun i h => h⟩
  | ret d k st1 => rw [h1] at hgo; exact GoS.sub (E := E) (r := .ret d k st1) hgo s fun i h => List.mem_append.mpr (.inl h)
  | brk st1 => rw [h1] at hgo; exact GoS.sub (E := E) (r := .brk st1) hgo s fun i h => List.mem_append.mpr (.inl h)
  | cnt st1 => rw [h1] at hgo; exact GoS.sub (E := E) (r := .cnt st1) hgo s fun i h => List.mem_append.mpr (.inl h)
  | exc c fs st1 => rw [h1] at hgo; exact GoS.sub (E := E) (r := .exc c fs st1) hgo s fun i h => List.mem_append.mpr (.inl h)
  | err => rw [h1] at hgo; exact hgo
theorem ts_pass (h : trS K cl L Wx J .pass E σ H) : tNext E σ H := by
  obtain ⟨W, eH, s, hgo⟩ := h
  rw [← eH]
  exact hgo W σ rfl s Step.refl Pin.refl
theorem ts_brk (h : trS K cl L Wx J .brk E σ H) : tBreak E σ H := by
  obtain ⟨W, eH, s, hgo⟩ := h
  rw [← eH]
  exact hgo W σ rfl s Step.refl Pin.refl
theorem ts_cnt (h : trS K cl L Wx J .cnt E σ H) : tCont E σ H := by
  obtain ⟨W, eH, s, hgo⟩ := h
  rw [← eH]
  exact hgo W σ rfl s Step.refl Pin.refl
theorem ts_retN (h : trS K cl L Wx J .retN E σ H) : tRetN E σ H := by
  obtain ⟨W, eH, s, hgo⟩ := h
  rw [← eH]
  exact hgo W σ .non [] rfl s Step.refl Pin.refl (Tmp.of_flat (k := true) .non rfl) fun _ _ m => nomatch m
theorem ts_ret {e : Ex} (h : trS K cl L Wx J (.ret e) E σ H) : tRet (trE K cl L Wx e) E σ H := by
  obtain ⟨W, eH, s, hgo⟩ := h
  refine ⟨W, eH, s, ?_⟩
  simp only [exec] at hgo
  simp only [mutsM] at hgo
  cases h1 : ev L e W.st with
  | err => rw [h1] at hgo; exact hgo
  | exc c fs st' => rw [h1] at hgo; exact PostX.ex hgo fun i h => h
  | ok d k st1 =>
    rw [h1] at hgo
    intro W1 v F e1 s1 t1 m1 f1
    subst e1
    have hgo : PostR K cl W (muts e) J σ d k (W1.st.keep k (vars e)) E.rt := hgo
    have := hgo (W1.keep k (vars e)) σ v F keep_st (s1.kept k (vars e)) ((t1.toStep.trans s s1 (Step.kept (ms := []) k (vars e) W1)).mono fun i h => by simpa using h) Pin.refl (m1.kept s1) f1
    rw [keep_same.1] at this
    exact this
theorem ts_ex {e : Ex} (h : trS K cl L Wx J (.ex e) E σ H) : tDrop (trE K cl L Wx e) E σ H := by
  obtain ⟨W, eH, s, hgo⟩ := h
  refine ⟨W, eH, s, ?_⟩
  simp only [exec] at hgo
  simp only [mutsM] at hgo
  cases h1 : ev L e W.st with
  | err => rw [h1] at hgo; exact hgo
  | exc c fs st' => rw [h1] at hgo; exact PostX.ex hgo fun i h => h
  | ok d k st1 =>
    rw [h1] at hgo
    intro W1 v F e1 s1 t1 m1 f1
    exact hgo W1 σ e1 s1 t1.toStep Pin.refl
theorem ts_asg {tg : Tg} {e : Ex} (hJ : ∀ i ∈ tgs tg, ¬ J i) (h : trS K cl L Wx J (.asg tg e) E σ H) : tAsg (trE K cl L Wx e) (gOf K tg) E σ H := by
  obtain ⟨W, eH, s, hgo⟩ := h
  refine ⟨W, eH, s, ?_⟩
  simp only [exec] at hgo
  simp only [mutsM] at hgo
  cases h1 : ev L e W.st with
  | err => rw [h1] at hgo; exact hgo
  | exc c fs st' => rw [h1] at hgo; exact PostX.ex hgo fun i h => h
  | ok d k st1 =>
    rw [h1] at hgo
    intro W1 v F e1 s1 t1 m1 f1
    subst e1
    dsimp only at hgo
    cases h2 : bindT tg d k (W1.st.keep k (vars e)) with
    | none => rw [h2] at hgo; exact hgo.elim
    | some st2 =>
      rw [h2] at hgo
      have t2 : Step (muts e) W (W1.keep k (vars e)) := (t1.toStep.trans s s1 (Step.kept (ms := []) k (vars e) W1)).mono fun i h => by simpa using h
      have key := bind_ok (Q := E.nx) (s1.kept k (vars e)) t2 (m1.kept s1) f1 (by rw [keep_st]; exact h2) fun σ' W' q1 _ _ _ _ _ sm s' t' => hgo W' σ' q1 s' t' (sm.pin hJ)
      rw [keep_same.1] at key
      exact key
theorem ts_if {c : Ex} {a b : List Sm} (h : trS K cl L Wx J (.ite c a b) E σ H) : tIfS (trB K cl L Wx c) (trSs K cl L Wx J a) (trSs K cl L Wx J b) E σ H := by
  obtain ⟨W, eH, s, hgo⟩ := h
  refine ⟨W, eH, s, ?_⟩
  simp only [exec] at hgo
  simp only [mutsM] at hgo
  cases h1 : evB L c W.st with
  | err => rw [h1] at hgo; exact hgo
  | exc c fs st' => rw [h1] at hgo; exact PostX.ex hgo fun i h => List.mem_append.mpr (.inl h)
  | ok t st1 =>
    rw [h1] at hgo
    intro W1 e1 s1 t1
    subst e1
    dsimp only at hgo
    cases t with
    | true =>
      rw [if_pos rfl] at hgo
      rw [if_pos rfl]
      exact ⟨W1, rfl, s1, hgo.from s s1 t1.toStep Pin.refl fun i h => by
        rcases List.mem_append.mp h with h | h <;> simp [h]⟩
    | false =>
      rw [if_neg Bool.false_ne_true] at hgo
      rw [if_neg Bool.false_ne_true]
      exact ⟨W1, rfl, s1, hgo.from s s1 t1.toStep Pin.refl fun i h => by
        rcases List.mem_append.mp h with h | h <;> simp [h]⟩
theorem ts_while {c : Ex} {b : List Sm} (h : trS K cl L Wx J (.while c b) E σ H) : tWhile (trB K cl L Wx c) (trSs K cl L Wx J b) E σ H := by
  obtain ⟨W, eH, s, hgo⟩ := h
  simp only [exec] at hgo
  simp only [mutsM] at hgo
  refine ⟨fun m σ H => ∃ W1, W1.H = H ∧ Sim K cl σ W1 ∧ GoS K cl Wx W1 (muts c ++ mutsS b) J σ (whileL (evB L c) (fun s => execs L b s) m W1.st) E, ⟨turns, W, eH, s, hgo⟩, ?_⟩
  rintro m σ H ⟨W, eH, s, hgo⟩
  cases m with
  | zero => exact hgo.elim
  | succ n =>
    refine ⟨W, eH, s, ?_⟩
    simp only [whileL] at hgo
    cases h1 : evB L c W.st with
    | err => rw [h1] at hgo; exact hgo
    | exc c fs st' => rw [h1] at hgo; exact PostX.ex hgo fun i h => List.mem_append.mpr (.inl h)
    | ok t st1 =>
      rw [h1] at hgo
      intro W1 e1 s1 t1
      subst e1
      dsimp only at hgo
      cases t with
      | false =>
        rw [if_neg Bool.false_ne_true] at hgo ⊢
        exact hgo W1 σ rfl s1 (t1.toStep.mono fun i h => List.mem_append.mpr (.inl h)) Pin.refl
      | true =>
        rw [if_pos rfl] at hgo ⊢
        refine ⟨fun σ' H' => ∃ W1, W1.H = H' ∧ Sim K cl σ' W1 ∧ GoS K cl Wx W1 (muts c ++ mutsS b) J σ' (whileL (evB L c) (fun s => execs L b s) n W1.st) E, fun σ' H' q => ⟨n, Nat.lt_succ_self n, q⟩, W1, rfl, s1, ?_⟩
        have sub : ∀ i ∈ muts c ++ (mutsS b ++ (muts c ++ mutsS b)), i ∈ muts c ++ mutsS b := fun i h => by
          simp only [List.mem_append] at h ⊢
          rcases h with h | h | h | h <;> simp [h]
        cases h2 : execs L b W1.st with
        | err => rw [h2] at hgo; exact hgo
        | next st3 =>
          rw [h2] at hgo
          intro W3 σ3 e3 s3 t3 p3
          subst e3
          exact ⟨W3, rfl, s3, GoS.from (ms := muts c ++ mutsS b) hgo s s3 (t1.toStep.trans s s1 t3) p3 fun i h => sub i (by simpa using h)⟩
        | cnt st3 =>
          rw [h2] at hgo
          intro W3 σ3 e3 s3 t3 p3
          subst e3
          exact ⟨W3, rfl, s3, GoS.from (ms := muts c ++ mutsS b) hgo s s3 (t1.toStep.trans s s1 t3) p3 fun i h => sub i (by simpa using h)⟩
        | brk st3 =>
          rw [h2] at hgo
          intro W3 σ3 e3 s3 t3 p3
          exact hgo W3 σ3 e3 s3 (t1.toStep.trans s s1 t3) p3
        | ret d k st3 => rw [h2] at hgo; exact PostR.from hgo s s1 t1.toStep Pin.refl fun i h => h
        | exc e fs st3 => rw [h2] at hgo; exact PostX.from hgo s s1 t1.toStep Pin.refl fun i h => h
end
end VS

-- VS.ZipM
section
set_option maxHeartbeats 1000000
/-! zip of two rows, each a list or a tuple. -/
namespace VS
open PySem PySem.Spec PyProof.Rows L2

/-- a row of the machine: a tuple (c) or a list -/
def RowH (h : Heap) (c : Bool) (l : Addr) (xs : Array Value) : Prop := match c with
  | true => h.IsTuple l xs
  | false => h.IsList l xs
def GoH (h : Heap) (c : Bool) (it l : Addr) (k : Nat) : Prop := match c with
  | true => h.IsTupleIter it l k
  | false => h.IsListIter it l k
section
variable {h h' : Heap} {c : Bool} {l b it : Addr} {xs : Array Value} {k : Nat}
theorem RowH.off (x : RowH h c l xs) (e : Heap.ExtBut b h h') (n : l ≠ b) : RowH h' c l xs := by
  cases c
  · exact Heap.IsList.extBut x e n
  · exact Heap.IsTuple.extBut x e n
theorem GoH.off (x : GoH h c it l k) (e : Heap.ExtBut b h h') (n : it ≠ b) : GoH h' c it l k := by
  cases c
  · exact Heap.IsListIter.extBut x e n
  · exact Heap.IsTupleIter.extBut x e n
theorem GoH.kept (x : GoH h c it l k) (e : ∀ o, h.get? it = some o → h'.get? it = some o) : GoH h' c it l k := by
  cases c
  · exact Heap.IsListIter.at x e
  · exact Heap.IsTupleIter.at x e
theorem GoH.obj (x : GoH h c it l k) : ∃ o, h.get? it = some o ∧ ∀ v, o.data ≠ .cell v := by
  cases c
  · obtain ⟨o, e, _, d⟩ := x
    exact ⟨o, e, fun v q => by rw [d] at q; cases q⟩
  · obtain ⟨o, e, _, d⟩ := x
    exact ⟨o, e, fun v q => by rw [d] at q; cases q⟩
theorem GoH.lt (x : GoH h c it l k) : it < h.objs.size := let ⟨_, e, _⟩ := x.obj; Heap.lt_size e
end
section
variable {prog : Program} {w : World} {A : Around} {E : Value → Shared → Prop} {s : Shared} {c c' : Bool}
theorem next_one {it l : Addr} {i : Nat} {xs : Array Value} {x : Value} {Q : Value → Shared → Prop} (g : GoH s.heap c it l i) (r : RowH s.heap c l xs) (e : xs[i]? = some x)
    (q : ∀ h', GoH h' c it l (i + 1) → Heap.SameBut it s.heap h' → Q x { s with heap := h' }) : wpAny (model prog w) A (Builtin.SmallTypes.nextOf (.ref it)) Q E s := by
  cases c
  · exact wpAny_nextOf_list_item g r e q
  · exact RZ.nextOf_tuple_item g r e q
theorem next_none {it l : Addr} {i : Nat} {xs : Array Value} {Q : Value → Shared → Prop} (hh : A.handled = none) (g : GoH s.heap c it l i) (r : RowH s.heap c l xs) (e : xs[i]? = none)
    (q : ∀ h' e, Heap.ExtBut it s.heap h' → (∃ o, h'.get? e = some o ∧ o.cls = .type "StopIteration") → E (.ref e) { s with heap := h' }) : wpAny (model prog w) A (Builtin.SmallTypes.nextOf (.ref it)) Q E s := by
  cases c
  · exact wpAny_nextOf_list_end hh g r e q
  · exact RZ.nextOf_tuple_end hh g r e q
/-- the next pair -/
theorem zipM_one {z T1 T2 i j l m : Addr} {k n : Nat} {xs ys : Array Value} {x y a b : Value} {Q : Value → Shared → Prop} (D : ZipApart z T1 T2 i j l m)
    (hz : IsZip s.heap z T1 T2 .none) (p1 : IsPair s.heap T1 (.ref i) (.ref j)) (p2 : IsPair s.heap T2 a b) (g1 : GoH s.heap c i l k) (g2 : GoH s.heap c' j m n) (r1 : RowH s.heap c l xs) (r2 : RowH s.heap c' m ys) (ex : xs[k]? = some x) (ey : ys[n]? = some y)
    (q : ∀ h', IsZip h' z T1 T2 (rawInt s.heap.objs.size) → IsPair h' T2 x y → GoH h' c i l (k + 1) → GoH h' c' j m (n + 1) → IsPair h' s.heap.objs.size x y → h'.objs.size = s.heap.objs.size + 1 → (∀ d o, d ≠ z → d ≠ T2 → d ≠ i → d ≠ j → s.heap.get? d = some o → h'.get? d = some o) → Q (.ref s.heap.objs.size) { s with heap := h' }) :
    wpAny (model prog w) A (Builtin.«zip.__next__» ⟨[.ref z], []⟩) (fun fin s' => ∃ v, fin = .done (.ret v) ∧ Q v s') E s := by
  show wpAny _ _ (field (.ref z) 2 >>= _) _ _ s
  refine wpAny_bind (wpAny_field (x := .bool false) hz rfl rfl ?_); show wpAny _ _ (field (.ref z) 3 >>= _) _ _ s
  refine wpAny_bind (wpAny_field (x := .ref T1) hz rfl rfl (wpAny_bind (wpAny_seqItems p1 rfl ?_)))
  show wpAny _ _ (Builtin.SmallTypes.ownedTupleIsFree (.ref z) >>= _) _ _ s
  refine wpAny_bind ?_; unfold Builtin.SmallTypes.ownedTupleIsFree
  refine wpAny_bind (wpAny_field (x := .none) hz rfl rfl (wpAny_pure ?_)); simp only [if_true]
  refine wpAny_bind (wpAny_rule (wpAny_bind (wpAny_field (x := .ref T2) hz rfl rfl (wpAny_bind (wpAny_setField_rec hz (by simp) fun u1 z1 b1 => ?_)))))
  replace z1 : IsZip u1 z T1 T2 .ellipsis := z1
  refine wpAny_bind ?_; simp only [List.zipIdx_cons, List.zipIdx_nil, List.forIn_cons, List.forIn_nil]
  refine wpAny_bind (wpAny_bind (wpAny_onRaise ?_)); show wpAny _ _ (Builtin.SmallTypes.nextOf (.ref i) >>= _) _ _ _
  refine wpAny_bind (next_one (g1.off b1.extBut D.i1z) (r1.off b1.extBut D.l1z) ex fun u2 g1' b2 => wpAny_pure ?_)
  have p2' : IsPair u2 T2 a b := b2.extBut _ _ D.TOi1 (b1.extBut _ _ D.TOz p2)
  refine wpAny_bind (wpAny_seqItems p2' rfl (wpAny_bind (wpAny_updateSeq_pair p2' fun u3 p3 b3 => ?_)))
  replace p3 : IsPair u3 T2 x b := p3
  refine wpAny_bind (wpAny_letGo (wpAny_pure (wpAny_bind (wpAny_bind (wpAny_onRaise ?_))))); show wpAny _ _ (Builtin.SmallTypes.nextOf (.ref j) >>= _) _ _ _
  refine wpAny_bind (next_one (((g2.off b1.extBut D.i2z).off b2.extBut D.i12.symm).off b3.extBut D.TOi2.symm) (((r2.off b1.extBut D.l2z).off b2.extBut D.l2i1).off b3.extBut D.l2TO) ey fun u4 g2' b4 => wpAny_pure ?_)
  have p4 : IsPair u4 T2 x b := b4.extBut _ _ D.TOi2 p3
  refine wpAny_bind (wpAny_seqItems p4 rfl (wpAny_bind (wpAny_updateSeq_pair p4 fun u5 p5 b5 => ?_)))
  replace p5 : IsPair u5 T2 x y := p5
  refine wpAny_bind (wpAny_letGo (wpAny_pure (wpAny_pure (wpAny_bind (wpAny_seqItems p5 rfl (wpAny_bind (wpAny_newTuple ?_)))))))
  have sz : u5.objs.size = s.heap.objs.size := by rw [b5.1, b4.1, b3.1, b2.1, b1.1]
  have z5 : IsZip u5 z T1 T2 .ellipsis := b5.extBut _ _ D.TOz.symm (b4.extBut _ _ D.i2z.symm (b3.extBut _ _ D.TOz.symm (b2.extBut _ _ D.i1z.symm z1)))
  have k5 : ∀ d o, d ≠ z → d ≠ T2 → d ≠ i → d ≠ j → s.heap.get? d = some o → u5.get? d = some o := fun d o n1 n2 n3 n4 e => b5.extBut _ _ n2 (b4.extBut _ _ n4 (b3.extBut _ _ n2 (b2.extBut _ _ n3 (b1.extBut _ _ n1 e))))
  have g15 : GoH u5 c i l (k + 1) := ((g1'.off b3.extBut D.TOi1.symm).off b4.extBut D.i12).off b5.extBut D.TOi1.symm
  have g25 : GoH u5 c' j m (n + 1) := g2'.off b5.extBut D.TOi2.symm
  have zl : z < u5.objs.size := Heap.lt_size z5
  show wpAny _ _ (Builtin.SmallTypes.ownedTupleHandOut (.ref z) (.ref u5.objs.size) >>= _) _ _ _
  refine wpAny_bind ?_; unfold Builtin.SmallTypes.ownedTupleHandOut
  have z6 : IsZip (u5.push { cls := .type "tuple", data := .seq #[x, y] }) z T1 T2 .ellipsis := Heap.get?_push_of_some _ z5
  refine wpAny_bind (wpAny_setField_rec z6 (by simp) fun u7 z7 b7 => ?_)
  replace z7 : IsZip u7 z T1 T2 (rawInt u5.objs.size) := z7
  refine wpAny_setField_rec z7 (by simp) fun u8 z8 b8 => ?_
  replace z8 : IsZip u8 z T1 T2 (rawInt u5.objs.size) := z8
  have up : ∀ d o, d ≠ z → u5.get? d = some o → u8.get? d = some o := fun d o n1 e => b8.extBut _ _ n1 (b7.extBut _ _ n1 (Heap.get?_push_of_some _ e))
  have t8 : IsPair u8 u5.objs.size x y := b8.extBut _ _ (Nat.ne_of_gt zl) (b7.extBut _ _ (Nat.ne_of_gt zl) (Heap.get?_push_size _ rfl))
  have s8 : u8.objs.size = u5.objs.size + 1 := by rw [b8.1, b7.1, Heap.size_push]
  rw [sz] at z8 t8 s8
  refine wpAny_pure ⟨_, rfl, ?_⟩
  show Q (.ref u5.objs.size) _
  rw [sz]
  exact q u8 z8 (up _ _ D.TOz p5) (g15.kept fun o e => up _ o D.i1z e) (g25.kept fun o e => up _ o D.i2z e) t8 s8 fun d o n1 n2 n3 n4 e => up d o n1 (k5 d o n1 n2 n3 n4 e)
theorem zipM_none {z T1 T2 i j l m : Addr} {k n : Nat} {xs ys : Array Value} {a b : Value} {Q : Fin → Shared → Prop} (hh : A.handled = none) (D : ZipApart z T1 T2 i j l m)
    (hz : IsZip s.heap z T1 T2 .none) (p1 : IsPair s.heap T1 (.ref i) (.ref j)) (p2 : IsPair s.heap T2 a b) (g1 : GoH s.heap c i l k) (g2 : GoH s.heap c' j m n) (r1 : RowH s.heap c l xs) (r2 : RowH s.heap c' m ys) (ends : xs[k]? = none ∨ ys[n]? = none)
    (q : ∀ h' e, (∀ d o, d ≠ z → d ≠ T2 → d ≠ i → d ≠ j → s.heap.get? d = some o → h'.get? d = some o) → (∃ o, h'.get? e = some o ∧ o.cls = .type "StopIteration") → E (.ref e) { s with heap := h' }) :
    wpAny (model prog w) A (Builtin.«zip.__next__» ⟨[.ref z], []⟩) Q E s := by
  show wpAny _ _ (field (.ref z) 2 >>= _) _ _ s
  refine wpAny_bind (wpAny_field (x := .bool false) hz rfl rfl ?_); show wpAny _ _ (field (.ref z) 3 >>= _) _ _ s
  refine wpAny_bind (wpAny_field (x := .ref T1) hz rfl rfl (wpAny_bind (wpAny_seqItems p1 rfl ?_)))
  show wpAny _ _ (Builtin.SmallTypes.ownedTupleIsFree (.ref z) >>= _) _ _ s
  refine wpAny_bind ?_; unfold Builtin.SmallTypes.ownedTupleIsFree
  refine wpAny_bind (wpAny_field (x := .none) hz rfl rfl (wpAny_pure ?_)); simp only [if_true]
  refine wpAny_bind (wpAny_rule (wpAny_bind (wpAny_field (x := .ref T2) hz rfl rfl (wpAny_bind (wpAny_setField_rec hz (by simp) fun u1 z1 b1 => ?_)))))
  replace z1 : IsZip u1 z T1 T2 .ellipsis := z1
  refine wpAny_bind ?_; simp only [List.zipIdx_cons, List.zipIdx_nil, List.forIn_cons, List.forIn_nil]
  refine wpAny_bind (wpAny_bind (wpAny_onRaise ?_)); show wpAny _ _ (Builtin.SmallTypes.nextOf (.ref i) >>= _) _ _ _
  cases ex : xs[k]? with
  | none =>
    refine wpAny_bind (next_none hh (g1.off b1.extBut D.i1z) (r1.off b1.extBut D.l1z) ex fun u2 e b2 ⟨oe, he, ce⟩ => ?_)
    have z2 : IsZip u2 z T1 T2 .ellipsis := b2 _ _ D.i1z.symm z1
    have ne : e ≠ z := fun e' => by rw [e', z2] at he; cases he; simp at ce
    exact wpAny_setField_rec z2 (by simp) fun u3 _ b3 => q u3 e (fun d o n1 _ n3 _ v => b3.extBut _ _ n1 (b2 _ _ n3 (b1.extBut _ _ n1 v))) ⟨oe, b3.extBut _ _ ne he, ce⟩
  | some x =>
    have ey : ys[n]? = none := ends.resolve_left (by rw [ex]; simp)
    refine wpAny_bind (next_one (g1.off b1.extBut D.i1z) (r1.off b1.extBut D.l1z) ex fun u2 g1' b2 => wpAny_pure ?_)
    have p2' : IsPair u2 T2 a b := b2.extBut _ _ D.TOi1 (b1.extBut _ _ D.TOz p2)
    refine wpAny_bind (wpAny_seqItems p2' rfl (wpAny_bind (wpAny_updateSeq_pair p2' fun u3 p3 b3 => wpAny_bind (wpAny_letGo (wpAny_pure ?_)))))
    refine wpAny_bind (wpAny_bind (wpAny_onRaise ?_)); show wpAny _ _ (Builtin.SmallTypes.nextOf (.ref j) >>= _) _ _ _
    refine wpAny_bind (next_none hh (((g2.off b1.extBut D.i2z).off b2.extBut D.i12.symm).off b3.extBut D.TOi2.symm) (((r2.off b1.extBut D.l2z).off b2.extBut D.l2i1).off b3.extBut D.l2TO) ey fun u4 e b4 ⟨oe, he, ce⟩ => ?_)
    have z4 : IsZip u4 z T1 T2 .ellipsis := b4 _ _ D.i2z.symm (b3.extBut _ _ D.TOz.symm (b2.extBut _ _ D.i1z.symm z1))
    have ne : e ≠ z := fun e' => by rw [e', z4] at he; cases he; simp at ce
    exact wpAny_setField_rec z4 (by simp) fun u5 _ b5 => q u5 e (fun d o n1 n2 n3 n4 v => b5.extBut _ _ n1 (b4 _ _ n4 (b3.extBut _ _ n2 (b2.extBut _ _ n3 (b1.extBut _ _ n1 v))))) ⟨oe, b5.extBut _ _ ne he, ce⟩
theorem zipM_next {z T1 T2 i j l m : Addr} {k n : Nat} {xs ys : Array Value} {x y a b : Value} {Q : Option Value → Shared → Prop} (D : ZipApart z T1 T2 i j l m)
    (hz : IsZip s.heap z T1 T2 .none) (p1 : IsPair s.heap T1 (.ref i) (.ref j)) (p2 : IsPair s.heap T2 a b) (g1 : GoH s.heap c i l k) (g2 : GoH s.heap c' j m n) (r1 : RowH s.heap c l xs) (r2 : RowH s.heap c' m ys) (ex : xs[k]? = some x) (ey : ys[n]? = some y)
    (q : ∀ h', IsZip h' z T1 T2 (rawInt s.heap.objs.size) → IsPair h' T2 x y → GoH h' c i l (k + 1) → GoH h' c' j m (n + 1) → IsPair h' s.heap.objs.size x y → h'.objs.size = s.heap.objs.size + 1 → (∀ d o, d ≠ z → d ≠ T2 → d ≠ i → d ≠ j → s.heap.get? d = some o → h'.get? d = some o) → Q (some (.ref s.heap.objs.size)) { s with heap := h' }) :
    wpAny (model prog w) A (pyNext (.ref z)) Q E s := by
  have isZ : s.TypeIs (.ref z) "zip" := ⟨_, hz, rfl⟩
  unfold pyNext
  exact wpAny_bind (wpAny_attempt (wpAny_callSpecial?_slot (name := Str.ofString "__next__") isZ F.slot_zip_next (wpAny_call_entry F.slot_zip_next isZ F.entry_zip_next
    (zipM_one D hz p1 p2 g1 g2 r1 r2 ex ey fun h' q1 q2 q3 q4 q5 q6 q7 => wpAny_pure (q h' q1 q2 q3 q4 q5 q6 q7)) (F.args_zip_next_1 _))))
theorem zipM_stop {z T1 T2 i j l m : Addr} {k n : Nat} {xs ys : Array Value} {a b : Value} {Q : Option Value → Shared → Prop} (hh : A.handled = none) (D : ZipApart z T1 T2 i j l m)
    (hz : IsZip s.heap z T1 T2 .none) (p1 : IsPair s.heap T1 (.ref i) (.ref j)) (p2 : IsPair s.heap T2 a b) (g1 : GoH s.heap c i l k) (g2 : GoH s.heap c' j m n) (r1 : RowH s.heap c l xs) (r2 : RowH s.heap c' m ys) (ends : xs[k]? = none ∨ ys[n]? = none)
    (q : ∀ h', (∀ d o, d ≠ z → d ≠ T2 → d ≠ i → d ≠ j → s.heap.get? d = some o → h'.get? d = some o) → Q none { s with heap := h' }) : wpAny (model prog w) A (pyNext (.ref z)) Q E s := by
  have isZ : s.TypeIs (.ref z) "zip" := ⟨_, hz, rfl⟩
  unfold pyNext
  refine wpAny_bind (wpAny_attempt (wpAny_callSpecial?_slot (name := Str.ofString "__next__") isZ F.slot_zip_next (wpAny_call_entry F.slot_zip_next isZ F.entry_zip_next
    (zipM_none hh D hz p1 p2 g1 g2 r1 r2 ends fun h' e kp ⟨o, ho, hc⟩ => ?_) (F.args_zip_next_1 _))))
  exact wpAny_bind (wpAny_isInstance (T := "StopIteration") (b := true) ⟨o, ho, hc⟩ isSubtype_stop (wpAny_pure (q _ kp)))
end
end VS

end

-- VS.ZipN
section
set_option maxHeartbeats 1000000
/-! zip of two rows: the walk. -/
namespace VS
open PySem PySem.Spec PyProof.Rows L2

def SqX (K : PySem.W.Frag) (H : Hp) (c : Bool) (a : Addr) (xs : List V) : Prop := match c with
  | true => SqT K H a xs
  | false => SqL K H a xs
section
variable {X : Cx} {pins : List (Addr × Obj)} {σ : L2.St} {H : Hp} {s : Shared} {c : Bool} {a : Addr} {xs ys : List V}
theorem inv_row (I : Inv X pins σ H s) (h : SqX X.K H c a xs) : ∃ its : List Value, Vals xs its ∧ RowH s.heap c a its.toArray ∧ a < s.heap.objs.size := by
  cases c
  · obtain ⟨its, r, p, _⟩ := I.list h
    exact ⟨its, r, p.isList, p.lt⟩
  · obtain ⟨its, r, p, _⟩ := I.tuple h
    obtain ⟨o, e, _⟩ := id p
    exact ⟨its, r, p, Heap.lt_size e⟩
theorem inv_one (I : Inv X pins σ H s) (h : SqX X.K H c a xs) (h' : SqX X.K H c a ys) : xs = ys := by
  cases c
  · exact I.list_inj h h'
  · exact I.tuple_inj h h'
end
/-- two rows as they stand at each turn, the items in new pairs -/
def ItM (K : PySem.W.Frag) (c c' : Bool) (a b : Addr) : It where
  go := fun i H => ∃ (xs ys : List V) (x y : V), SqX K H c a xs ∧ SqX K H c' b ys ∧ xs[i]? = some x ∧ ys[i]? = some y
  yld := fun i H v H' => ∃ T x y, v = .ref T ∧ H T = none ∧ H' = upd H T (.tup [x, y]) ∧ (∀ xs, SqX K H c a xs → xs[i]? = some x) ∧ ∀ ys, SqX K H c' b ys → ys[i]? = some y
  stop := fun i H => ∃ xs ys : List V, SqX K H c a xs ∧ SqX K H c' b ys ∧ (xs.length ≤ i ∨ ys.length ≤ i)
theorem turnM {P : Program} {w : World} {K : PySem.W.Frag} {elts : List PySem.Expr} {kk : Nat} {tpos : Pos} {c c' : Bool} {a b z T1 T2 i j : Addr} (D : ZipApart z T1 T2 i j a b) :
    Turn P w K (.Tuple elts kk tpos) (ItM K c c' a b) [z, T1, T2, i, j] z fun k h => IsZip h z T1 T2 .none ∧ IsPair h T1 (.ref i) (.ref j) ∧ (∃ x y, IsPair h T2 x y) ∧ GoH h c i a k ∧ GoH h c' j b k := by
  refine ⟨by simp, fun k h st d hd => ?_, fun k h h' st kp => ?_, ?_, ?_, fun A k s Q E st q => wpAny_pyIter_zip st.1 q⟩
  · obtain ⟨hz, h1, ⟨x, y, h2⟩, g1, g2⟩ := st
    rcases (by simpa using hd : d = z ∨ d = T1 ∨ d = T2 ∨ d = i ∨ d = j) with rfl | rfl | rfl | rfl | rfl
    · exact ⟨_, hz, fun _ q => nomatch q⟩
    · exact ⟨_, h1, fun _ q => nomatch q⟩
    · exact ⟨_, h2, fun _ q => nomatch q⟩
    · exact g1.obj
    · exact g2.obj
  · obtain ⟨hz, h1, ⟨x, y, h2⟩, g1, g2⟩ := st
    exact ⟨kp _ (by simp) _ hz, kp _ (by simp) _ h1, ⟨x, y, kp _ (by simp) _ h2⟩, g1.kept fun o q => kp _ (by simp) o q, g2.kept fun o q => kp _ (by simp) o q⟩
  · intro X eP eW eK calm k pins s σ H E I fp st go
    subst eP eW eK
    obtain ⟨hz, h1, ⟨x0, y0, h2⟩, g1, g2⟩ := st
    obtain ⟨xs, ys, x, y, qx, qy, ex, ey⟩ := go
    obtain ⟨its, r1, p1, _⟩ := inv_row I qx
    obtain ⟨jts, r2, p2, _⟩ := inv_row I qy
    obtain ⟨u, hu, ru⟩ := r1.get ex
    obtain ⟨v, hv, rv⟩ := r2.get ey
    have zl : z < s.heap.objs.size := Heap.lt_size hz
    refine zipM_next D hz h1 h2 g1 g2 p1 p2 (x := u) (y := v) (by simpa using hu) (by simpa using hv) fun h' z' t2 g1' g2' tp sz kp => ⟨_, rfl, wpAny_letOwnedTupleGo_zip (s := { s with heap := h' }) z' fun h'' z'' sb => ?_⟩
    have tp' : h''.get? s.heap.objs.size = some { cls := .type "tuple", data := .seq #[u, v] } := (sb.2 _ (Nat.ne_of_gt zl)).trans tp
    have kp' : ∀ d o, d ∉ [z, T1, T2, i, j] → s.heap.get? d = some o → h''.get? d = some o := fun d o hd q => by
      simp only [List.mem_cons, List.not_mem_nil, or_false, not_or] at hd
      exact (sb.2 d hd.1).trans (kp d o hd.1 hd.2.2.1 hd.2.2.2.1 hd.2.2.2.2 q)
    have J : Inv X pins σ (upd H s.heap.objs.size (.tup [x, y])) { s with heap := h'' } := I.turnedNew (t' := s.toks) (ch := [z, T1, T2, i, j]) kp' fp (Nat.le_refl _) ⟨show 2 ≤ sizeLine by decide, [u, v], .cons ru (.cons rv .nil), ⟨_, tp', rfl, _, rfl⟩⟩
    refine ⟨.ref s.heap.objs.size, _, J, rfl, ⟨_, x, y, rfl, I.hok.fresh (Nat.le_refl _), rfl, fun l hl => by rw [inv_one I hl qx]; exact ex, fun l hl => by rw [inv_one I hl qy]; exact ey⟩, ⟨z'', (sb.2 _ D.TIz).trans (kp _ _ D.TIz D.TITO D.TIi1 D.TIi2 h1), ⟨u, v, (sb.2 _ D.TOz).trans t2⟩, g1'.kept fun o q => (sb.2 _ D.i1z).trans q, g2'.kept fun o q => (sb.2 _ D.i2z).trans q⟩, fun d hd => ?_⟩
    have dl : d < s.heap.objs.size := by
      rcases (by simpa using hd : d = z ∨ d = T1 ∨ d = T2 ∨ d = i ∨ d = j) with rfl | rfl | rfl | rfl | rfl
      · exact zl
      · exact Heap.lt_size h1
      · exact Heap.lt_size h2
      · exact g1.lt
      · exact g2.lt
    rw [upd_ne (Nat.ne_of_lt dl)]
    exact (fp d hd).1
  · intro X eP eW eK calm k pins s σ H E I fp st go
    subst eP eW eK
    obtain ⟨hz, h1, ⟨x0, y0, h2⟩, g1, g2⟩ := st
    obtain ⟨xs, ys, qx, qy, ends⟩ := go
    obtain ⟨its, r1, p1, _⟩ := inv_row I qx
    obtain ⟨jts, r2, p2, _⟩ := inv_row I qy
    have n1 := r1.length
    have n2 := r2.length
    have e : its.toArray[k]? = none ∨ jts.toArray[k]? = none := ends.imp (fun q => by simp; omega) fun q => by simp; omega
    refine zipM_stop (I.ok.hd calm) D hz h1 h2 g1 g2 p1 p2 e fun h' kp => ⟨rfl, I.turnedL (t' := s.toks) (ch := [z, T1, T2, i, j]) (fun d o hd q => ?_) fp⟩
    simp only [List.mem_cons, List.not_mem_nil, or_false, not_or] at hd
    exact kp d o hd.1 hd.2.2.1 hd.2.2.2.1 hd.2.2.2.2 q

def itH (c : Bool) (h : Heap) (l : Addr) : Heap := h.push { cls := .type (if c then "tuple_iterator" else "list_iterator"), data := .fields #[.ref l, .int 0 0] }
def zH2 (c c' : Bool) (h : Heap) (l m : Addr) : Heap := itH c' (itH c h l) m
def zH3 (c c' : Bool) (h : Heap) (l m : Addr) : Heap := (zH2 c c' h l m).push { cls := .type "tuple", data := .seq #[.ref h.objs.size, .ref (itH c h l).objs.size] }
def zH4 (c c' : Bool) (h : Heap) (l m : Addr) : Heap := (zH3 c c' h l m).push { cls := .type "tuple", data := .seq #[.none, .none] }
def zH5 (c c' : Bool) (h : Heap) (l m : Addr) : Heap := (zH4 c c' h l m).push { cls := .type "zip", data := .fields #[.none, .bool false, .bool false, .ref (zH2 c c' h l m).objs.size, .ref (zH3 c c' h l m).objs.size] }
theorem newM (c c' : Bool) (l m : Addr) (xs ys : Array Value) : Meets (Builtin.«zip.__new__» ⟨[.type "zip", .ref l, .ref m], []⟩)
    fun _ R s => RowH s.heap c l xs ∧ RowH s.heap c' m ys ∧ R (.ok (.ret (.ref (zH4 c c' s.heap l m).objs.size))) { s with heap := zH5 c c' s.heap l m } := by
  refine .of_wp fun prog w A R s h => ?_
  obtain ⟨hp, g, d, tk, os⟩ := s
  obtain ⟨r1, r2, h⟩ := h
  have hsub := sub_zip
  cases c <;> cases c'
  · have q1 : Heap.IsList (Shared.heap ⟨hp, g, d, tk, os⟩) l xs := r1
    have q2 : Heap.IsList (Shared.heap ⟨hp.push { cls := .type "list_iterator", data := .fields #[.ref l, .int 0 0] }, g, d, tk, os⟩) m ys := Heap.IsList.push r2 _
    wp_walk using wpAny_pyIter_list q1, wpAny_pyIter_list q2
    exact ⟨_, rfl, h⟩
  · have q1 : Heap.IsList (Shared.heap ⟨hp, g, d, tk, os⟩) l xs := r1
    have q2 : Heap.IsTuple (Shared.heap ⟨hp.push { cls := .type "list_iterator", data := .fields #[.ref l, .int 0 0] }, g, d, tk, os⟩) m ys := Heap.IsTuple.push r2 _
    wp_walk using wpAny_pyIter_list q1, wpAny_pyIter_tuple q2
    exact ⟨_, rfl, h⟩
  · have q1 : Heap.IsTuple (Shared.heap ⟨hp, g, d, tk, os⟩) l xs := r1
    have q2 : Heap.IsList (Shared.heap ⟨hp.push { cls := .type "tuple_iterator", data := .fields #[.ref l, .int 0 0] }, g, d, tk, os⟩) m ys := Heap.IsList.push r2 _
    wp_walk using wpAny_pyIter_tuple q1, wpAny_pyIter_list q2
    exact ⟨_, rfl, h⟩
  · have q1 : Heap.IsTuple (Shared.heap ⟨hp, g, d, tk, os⟩) l xs := r1
    have q2 : Heap.IsTuple (Shared.heap ⟨hp.push { cls := .type "tuple_iterator", data := .fields #[.ref l, .int 0 0] }, g, d, tk, os⟩) m ys := Heap.IsTuple.push r2 _
    wp_walk using wpAny_pyIter_tuple q1, wpAny_pyIter_tuple q2
    exact ⟨_, rfl, h⟩

section
variable {prog : Program} {w : World} {A : Around} {E : Value → Shared → Prop} {s : Shared} {c c' : Bool}
theorem callM {l m : Addr} {xs ys : Array Value} {Q : Value → Shared → Prop} (r1 : RowH s.heap c l xs) (r2 : RowH s.heap c' m ys)
    (q : ∀ h' n, n = s.heap.objs.size → IsZip h' (n + 4) (n + 2) (n + 3) .none → IsPair h' (n + 2) (.ref n) (.ref (n + 1)) → IsPair h' (n + 3) .none .none → GoH h' c n l 0 → GoH h' c' (n + 1) m 0 → (∀ d o, s.heap.get? d = some o → h'.get? d = some o) → Q (.ref (n + 4)) { s with heap := h' }) :
    wpAny (model prog w) A (call (.type "zip") [.ref l, .ref m]) Q E s := by
  refine callType_new F.called_zip (by decide) (F.typeCall_zip_2 _ _) (F.newCall_zip_2 _ _) (fun o => F.args_object_init_3 o _ _) F.entry_zip_new (newM c c' l m xs ys) ⟨r1, r2, ?_⟩
  have n1 : (itH c s.heap l).objs.size = s.heap.objs.size + 1 := Heap.size_push ..
  have n2 : (zH2 c c' s.heap l m).objs.size = s.heap.objs.size + 2 := (Heap.size_push ..).trans (by rw [n1])
  have n3 : (zH3 c c' s.heap l m).objs.size = s.heap.objs.size + 3 := (Heap.size_push ..).trans (by rw [n2])
  have n4 : (zH4 c c' s.heap l m).objs.size = s.heap.objs.size + 4 := (Heap.size_push ..).trans (by rw [n3])
  have up : ∀ {h : Heap} {o u : Obj} {d : Addr}, h.get? d = some o → (h.push u).get? d = some o := fun e => Heap.get?_push_of_some _ e
  have a5 : (zH5 c c' s.heap l m).get? (zH4 c c' s.heap l m).objs.size = some _ := Heap.get?_push_size _ rfl
  have a4 : (zH5 c c' s.heap l m).get? (zH3 c c' s.heap l m).objs.size = some _ := up (Heap.get?_push_size _ rfl)
  have a3 : (zH5 c c' s.heap l m).get? (zH2 c c' s.heap l m).objs.size = some _ := up (up (Heap.get?_push_size _ rfl))
  have a2 : (zH5 c c' s.heap l m).get? (itH c s.heap l).objs.size = some _ := up (up (up (Heap.get?_push_size _ rfl)))
  have a1 : (zH5 c c' s.heap l m).get? s.heap.objs.size = some _ := up (up (up (up (Heap.get?_push_size _ rfl))))
  rw [n2, n3, n4] at a5
  rw [n1, n2] at a3
  rw [n3] at a4
  rw [n1] at a2
  have g1 : GoH (zH5 c c' s.heap l m) c s.heap.objs.size l 0 := by cases c <;> exact ⟨_, a1, rfl, rfl⟩
  have g2 : GoH (zH5 c c' s.heap l m) c' (s.heap.objs.size + 1) m 0 := by cases c' <;> exact ⟨_, a2, rfl, rfl⟩
  show _ ∧ _
  rw [n4]
  exact ⟨⟨_, a5, rfl⟩, q _ _ rfl a5 a3 a4 g1 g2 fun d o e => up (up (up (up (up e))))⟩
end
def iZipM (K : PySem.W.Frag) (ta : TA) : TI := fun σ H R => ta σ H fun vs H1 => ∃ c c' a b xs ys, vs = [.ref a, .ref b] ∧ SqX K H1 c a xs ∧ SqX K H1 c' b ys ∧ R (ItM K c c' a b) H1
theorem pi_zipM {X : Cx} {e e2 : PySem.Expr} {ta : TA} {p pos tpos : Pos} {elts : List PySem.Expr} {kk : Nat} (hg : Gl X "zip") (hm : X.mg "zip" = none) (ha : PA X [e, e2] ta)
    (hs : starEach [e, e2] X.env = (false, eval e X.env) :: starEach [e2] X.env := by rfl) (hpl : (backTo pos (starEach [e2] X.env)).any (·.1) = false := by rfl) : PI X (.Tuple elts kk tpos) (.Call (.Name "zip" p) [e, e2] [] pos) (iZipM X.K ta) := by
  refine ⟨fun pins s σ H R I h => Call_ (ld_blt I hg hm PyProof.Rows.boot_zip (PyProof.Rows.callWith_type1 (thn (ha.run pos pins s σ H _ I h) fun us s1 ⟨vs, H1, J, rel, c, c', a, b, xs, ys, ev, q1, q2, q⟩ => ?_) hs hpl))⟩
  subst ev
  cases rel with
  | cons ra rr =>
    cases rr with
    | cons rb rr =>
      cases rr
      cases ra
      cases rb
      obtain ⟨its, _, p1, l1⟩ := inv_row J q1
      obtain ⟨jts, _, p2, l2⟩ := inv_row J q2
      refine callM p1 p2 fun h' n en hz t1 t2 g1 g2 kp => wpAny_pyIter_zip hz ?_
      subst en
      have T := turnM (P := X.prog) (w := X.w) (K := X.K) (elts := elts) (kk := kk) (tpos := tpos) (c := c) (c' := c') (PySem.W.ktu_apart s1.heap.objs.size a b l1 l2)
      have J' : Inv X pins σ H1 { s1 with heap := h' } := J.kept (t' := s1.toks) kp
      suffices fpk : ∀ d, d ∈ [s1.heap.objs.size + 4, s1.heap.objs.size + 2, s1.heap.objs.size + 3, s1.heap.objs.size, s1.heap.objs.size + 1] → FpOk X pins H1 d by
        exact ⟨_, _, _, _, H1, rfl, J', T, ⟨hz, t1, ⟨_, _, t2⟩, g1, g2⟩, fpk, q⟩
      intro d hd
      have le : s1.heap.objs.size ≤ d := by
        rcases (by simpa using hd : d = s1.heap.objs.size + 4 ∨ d = s1.heap.objs.size + 2 ∨ d = s1.heap.objs.size + 3 ∨ d = s1.heap.objs.size ∨ d = s1.heap.objs.size + 1) with rfl | rfl | rfl | rfl | rfl
        · exact Nat.le_add_right _ _
        · exact Nat.le_add_right _ _
        · exact Nat.le_add_right _ _
        · exact Nat.le_refl _
        · exact Nat.le_add_right _ _
      exact J.fpOk le (J.hok.fresh le)

section
variable {K : PySem.W.Frag} {cl : String → Addr → Prop} {σ : L2.St} {W0 W : Wd} {ms : List Nat} {z : Bool}
/-- a row of the small language -/
def rowD : Bool → List D → D
  | true, ds => .tup ds
  | false, ds => .lst ds
theorem held_row (s : Sim K cl σ W0) {c : Bool} {ds v} (h : Held K W0 ms z (rowD c ds) v) : ∃ a vs, v = .ref a ∧ (∀ W, Step ms W0 W → SqX K W.H c a vs) ∧ Mem K W0 ms ds vs z := by
  cases c
  · exact held_lst s h
  · obtain ⟨a, vs, e, q, m⟩ := held_tup s h
    exact ⟨a, vs, e, fun W t => SqT.of (q W t), m⟩
theorem SqX.one {H : Hp} {c : Bool} {a : Addr} {xs : List V} (h : SqX K H c a xs) : SqX K H c a xs := h
theorem going_zipM (s : Sim K cl σ W0) {c c' : Bool} {ds es : List D} {v u : V} (h : Held K W0 ms z (rowD c ds) v) (h' : Held K W0 ms z (rowD c' es) u) (hc : z = true → cfs ((ds.zip es).map fun p => D.tup [p.1, p.2]) = true) :
    ∃ a b xs ys, v = .ref a ∧ u = .ref b ∧ SqX K W0.H c a xs ∧ SqX K W0.H c' b ys ∧ Going K W0 ms ((ds.zip es).map fun p => D.tup [p.1, p.2]) (ItM K c c' a b) := by
  obtain ⟨a, vs, rfl, hq, m⟩ := held_row s h
  obtain ⟨b, us, rfl, hq', n⟩ := held_row s h'
  have hl : ((ds.zip es).map fun p => D.tup [p.1, p.2]).length = min vs.length us.length := by simp [m.1, n.1]
  refine ⟨a, b, vs, us, rfl, rfl, hq _ Step.refl, hq' _ Step.refl, fun i t hi => ?_, fun t => ⟨vs, us, hq _ t, hq' _ t, by rw [hl]; omega⟩, fun i x H' t hi y => ?_⟩
  · rw [hl] at hi
    have l1 : i < vs.length := by omega
    have l2 : i < us.length := by omega
    exact ⟨vs, us, vs[i], us[i], hq _ t, hq' _ t, by simp [l1], by simp [l2]⟩
  · rw [hl] at hi
    obtain ⟨T, x1, x2, rfl, hT, rfl, e1, e2⟩ := y
    obtain ⟨d, e, F, G, g1, g2, g3, g4, g5, g6⟩ := mem_zip m n hc (by rw [m.1, n.1]; exact hi) t (e1 _ (hq _ t)) (e2 _ (hq' _ t))
    obtain ⟨p1, p2, p3⟩ := pair_out g3 g4 g5 g6 hT
    exact ⟨_, _, zip_at g1 g2, p1, p2, p3⟩
end
end VS

end

-- VS.EnumT
section
set_option maxHeartbeats 1000000
/-! enumerate of a list or a tuple. -/
namespace VS
open PySem PySem.Spec PyProof.Rows L2
theorem meets_enumT {v : Value} {o : Obj} {H : Heap → Prop} (B : Begins v o H) :
    Meets (Builtin.«enumerate.__new__» ⟨[.type "enumerate", v], []⟩) (fun _ R s => H s.heap ∧ R (.ok (.ret (.ref (s.heap.push o).objs.size))) { s with heap := (s.heap.push o).push { cls := .type "enumerate", data := .fields #[.none, .bool false, .ref s.heap.objs.size, rawInt 0, .none, .none] } }) :=
  .of_wp fun prog w A R s h => by
    obtain ⟨hp, g, d, tk, os⟩ := s
    obtain ⟨h1, h⟩ := h
    have sub := sub_enumerate
    have q1 : ∀ {A' : Around} {E : Value → Shared → Prop} {Q : Value → Shared → Prop}, Q (.ref hp.objs.size) ⟨hp.push o, g, d, tk, os⟩ → wpAny (model prog w) A' (pyIter v) Q E ⟨hp, g, d, tk, os⟩ := fun q => B.iter prog w _ _ ⟨hp, g, d, tk, os⟩ _ h1 q
    wp_walk using q1
    refine wpAny_stack_any fun st => wpAny_pure ?_; split
    · rename_i c _ _ _ _ _; cases (c == Value.type "enumerate") <;> (wp_walk using q1; exact ⟨_, rfl, h⟩)
    · wp_walk using q1; exact ⟨_, rfl, h⟩
section
variable {prog : Program} {w : World} {A : Around} {E : Value → Shared → Prop} {s : Shared}
theorem call_enumT {v : Value} {o : Obj} {H : Heap → Prop} {Q : Value → Shared → Prop} (B : Begins v o H) (h1 : H s.heap)
    (h : ∀ h', IsEnum h' (s.heap.objs.size + 1) s.heap.objs.size 0 .none → h'.get? s.heap.objs.size = some o → h'.objs.size = s.heap.objs.size + 2 → (∀ b o, s.heap.get? b = some o → h'.get? b = some o) → Q (.ref (s.heap.objs.size + 1)) { s with heap := h' }) : wpAny (model prog w) A (call (.type "enumerate") [v]) Q E s := by
  refine callType_new PySem.F.called_enumerate (by decide) (PySem.F.typeCall_enumerate_1 _) (PySem.F.newCall_enumerate_1 _) (fun obj => PySem.F.args_object_init_2 obj _) PySem.F.entry_enumerate_new (meets_enumT B) ⟨h1, ?_⟩
  have z : (s.heap.push o).objs.size = s.heap.objs.size + 1 := Heap.size_push ..
  have e : IsEnum ((s.heap.push o).push { cls := .type "enumerate", data := .fields #[.none, .bool false, .ref s.heap.objs.size, rawInt 0, .none, .none] }) (s.heap.objs.size + 1) s.heap.objs.size 0 .none := by
    have q := Heap.get?_push_size (s.heap.push o) (o := { cls := .type "enumerate", data := .fields #[.none, .bool false, .ref s.heap.objs.size, rawInt 0, .none, .none] }) rfl
    rwa [z] at q
  show _ ∧ _
  rw [z]
  exact ⟨⟨_, e, rfl⟩, h _ e (Heap.get?_push_of_some _ (Heap.get?_push_size _ B.free)) (by rw [Heap.size_push, z]) fun b o x => Heap.get?_push_of_some _ (Heap.get?_push_of_some _ x)⟩
end
theorem enum_stopT {prog : Program} {w : World} {A : Around} {E : Value → Shared → Prop} {s : Shared} {e it a : Addr} {i : Nat} {items : Array Value} {old : Value} {k : Int} {Q : Option Value → Shared → Prop} (hh : A.handled = none) (he : IsEnum s.heap e it k old) (g : s.heap.IsTupleIter it a i) (r : s.heap.IsTuple a items) (x : items[i]? = none)
    (q : ∀ h', Heap.ExtBut it s.heap h' → Q none { s with heap := h' }) : wpAny (model prog w) A (pyNext (.ref e)) Q E s := by
  have isE : s.TypeIs (.ref e) "enumerate" := ⟨_, he, rfl⟩
  unfold pyNext
  refine wpAny_bind (wpAny_attempt (wpAny_callSpecial?_slot (name := Str.ofString "__next__") isE PySem.F.slot_enumerate_next (wpAny_call_entry PySem.F.slot_enumerate_next isE PySem.F.entry_enumerate_next ?_ (PySem.F.args_enumerate_next_1 _))))
  show wpAny _ _ (field (.ref e) 2 >>= _) _ _ _
  refine wpAny_bind (wpAny_field he rfl (x := .ref it) rfl ?_)
  refine wpAny_bind (wpAny_nextOf_tuple_end (A := A.in1) hh g r x fun h' y he' hx' => ?_)
  obtain ⟨o, ho, hc⟩ := hx'
  refine wpAny_bind (wpAny_isInstance (T := "StopIteration") (b := true) ⟨o, ho, hc⟩ isSubtype_stop ?_); exact wpAny_pure (q _ he')
/-- the tuple at a, each item in a new pair with its place -/
def IteT (K : PySem.W.Frag) (a : Addr) : It :=
  ⟨fun i H => ∃ (xs : List V) (x : V), SqT K H a xs ∧ xs[i]? = some x, fun i H v H' => ∃ T x, v = .ref T ∧ H T = none ∧ H' = upd H T (.tup [.int (i : Nat), x]) ∧ ∀ xs, SqT K H a xs → xs[i]? = some x, fun i H => ∃ xs : List V, SqT K H a xs ∧ xs.length ≤ i⟩
theorem turn_enumT {P : Program} {w : World} {K : PySem.W.Frag} {elts : List Expr} {kk : Nat} {tpos : Pos} (a e it : Addr) (na : a ≠ it) (ne2 : e ≠ a) :
    Turn P w K (.Tuple elts kk tpos) (IteT K a) [e, it] e (fun i h => (∃ old, IsEnum h e it ((i : Nat) : Int) old) ∧ h.IsTupleIter it a i ∧ e ≠ it) where
  mem := by simp
  obj := fun i h st b hb => by
    obtain ⟨⟨old, he⟩, ⟨o, ho, hc, hd⟩, _⟩ := st
    have e' : b = e ∨ b = it := by simpa using hb
    rcases e' with rfl | rfl
    · exact ⟨_, he, fun v q => nomatch q⟩
    · exact ⟨o, ho, fun v q => by rw [hd] at q; cases q⟩
  keep := fun i h h' st k => let ⟨⟨old, he⟩, hi, hne⟩ := st; ⟨⟨old, k e (by simp) _ he⟩, Heap.IsTupleIter.at hi fun o q => k it (by simp) o q, hne⟩
  item := by
    intro X hP hw hK hc i pins s σ H E I hf st hg
    subst hP hw hK
    obtain ⟨⟨old, he⟩, hit, hne⟩ := st
    obtain ⟨xs, x, hq, hx⟩ := hg
    obtain ⟨its, rv, p, hz⟩ := I.tuple hq
    obtain ⟨u, hu, ru⟩ := rv.get hx
    have el : e < s.heap.objs.size := Heap.lt_size he
    have il : it < s.heap.objs.size := let ⟨_, q, _⟩ := hit; Heap.lt_size q
    have hi : i < its.toArray.size := by
      have := (List.getElem?_eq_some_iff.mp hu).1
      simpa using this
    refine wpAny_pyNext_enum_itemD (Draws.tuple (prog := X.prog) (w := X.w) (A := X.A.in1) (I.ok.hd hc) it a na its.toArray) he ⟨hit, p⟩ hi hne (by simp [hne, ne2]) fun y h' tk py ho st' hT hsz hk => ?_
    have ey : y = u := by
      have : its.toArray[i]? = some u := by simpa using hu
      rw [py] at this
      exact Option.some.inj this
    subst ey
    refine ⟨_, rfl, wpAny_letOwnedTupleGo_enum (s := { s with heap := h', toks := tk + 1 }) ho fun h'' he' sb => ?_⟩
    have hT2 : h''.get? s.heap.objs.size = some { cls := .type "tuple", data := .seq #[.int i tk, y] } := (sb.2 _ (Nat.ne_of_gt el)).trans hT
    have new : ObjOk X.prog X.w (upd H s.heap.objs.size (.tup [.int (i : Nat), x])) h'' s.heap.objs.size (.tup [.int (i : Nat), x]) := ⟨by show 2 ≤ sizeLine; decide, [.int i tk, y], .cons ⟨_, rfl⟩ (.cons ru .nil), ⟨_, hT2, rfl, _, rfl⟩⟩
    have I1 : Inv X pins σ (upd H s.heap.objs.size (.tup [.int (i : Nat), x])) { s with heap := h'', toks := tk + 1 } := I.turnedNew (ch := [e, it]) (fun b ob hb q => (sb.2 b (fun z => hb (by simp [z]))).trans (hk b ob (fun z => hb (by simp [z])) (fun z => hb (by simp [z])) q)) hf (Nat.le_refl _) new
    refine ⟨.ref s.heap.objs.size, _, I1, rfl, ⟨_, x, rfl, I.hok.fresh (Nat.le_refl _), rfl, fun ys hy => ?_⟩, ⟨⟨y, ?_⟩, Heap.IsTupleIter.at st'.1 fun o q => (sb.2 it (Ne.symm hne)).trans q, hne⟩, fun b hb => ?_⟩
    · obtain ⟨its2, rv2, p2, _⟩ := I.tuple hy
      obtain ⟨o1, g1, _, n1, d1⟩ := p
      obtain ⟨o2, g2, _, n2, d2⟩ := p2
      rw [g1] at g2
      cases g2
      rw [d1] at d2
      have e3 : its.toArray = its2.toArray := by cases d2; rfl
      have e4 : its = its2 := by simpa using e3
      rw [Vals.inj rv2 (e4 ▸ rv)]
      exact hx
    · have e1 : ((i + 1 : Nat) : Int) = (i : Int) + 1 := by omega
      rw [e1]
      exact he'
    · have hb' : b < s.heap.objs.size := by
        have e' : b = e ∨ b = it := by simpa using hb
        rcases e' with rfl | rfl
        · exact el
        · exact il
      rw [upd_ne (Nat.ne_of_lt hb')]
      exact (hf b hb).1
  done := by
    intro X hP hw hK hc i pins s σ H E I hf st hg
    subst hP hw hK
    obtain ⟨⟨old, he⟩, hit, hne⟩ := st
    obtain ⟨xs, hq, hx⟩ := hg
    obtain ⟨its, rv, p, hz⟩ := I.tuple hq
    obtain ⟨f0, f1, f2, f3, f4, f5⟩ := hf it (by simp)
    have hl := rv.length
    exact enum_stopT (I.ok.hd hc) he hit p (by simp; omega) fun h' eb => ⟨rfl, I.turned (t' := s.toks) (fun b o hb q => eb b o hb q) f0 f1 f3 f4 f5⟩
  self := fun A i s Q E st h => let ⟨⟨_, he⟩, _⟩ := st; wpAny_pyIter_enum he h
def iEnumM (K : PySem.W.Frag) (ta : TA) : TI := fun σ H R => ta σ H fun vs H1 => ∃ a xs, vs = [.ref a] ∧ ((SqL K H1 a xs ∧ R (Ite K a) H1) ∨ (SqT K H1 a xs ∧ R (IteT K a) H1))
theorem pi_enumM {X : Cx} {e : Expr} {ta : TA} {p pos tpos : Pos} {elts : List Expr} {kk : Nat} (hg : Gl X "enumerate") (hm : X.mg "enumerate" = none) (ha : PA X [e] ta) (hs : starEach [e] X.env = [(false, eval e X.env)] := by rfl) : PI X (.Tuple elts kk tpos) (.Call (.Name "enumerate" p) [e] [] pos) (iEnumM X.K ta) := by
  refine ⟨fun pins s σ H R I h => ?_⟩
  refine Call_ (ld_blt I hg hm boot_enumerate (PyProof.Rows.callWith_type1 (thn (ha.run pos pins s σ H _ I h) fun us s1 ⟨vs, H1, I1, r1, q1⟩ => ?_) hs rfl))
  obtain ⟨a, xs, rfl, q⟩ := q1
  rw [Vals.ref1 r1]
  rcases q with ⟨hq, q⟩ | ⟨hq, q⟩
  · obtain ⟨its, rv, p', hz⟩ := I1.list hq
    refine call_enumerate_list p'.isList fun h' he hit hsz hk => wpAny_pyIter_enum he ?_
    refine ⟨s1.heap.objs.size + 1, [s1.heap.objs.size + 1, s1.heap.objs.size], _, _, H1, rfl, I1.kept (t' := s1.toks) hk, turn_enum a (s1.heap.objs.size + 1) s1.heap.objs.size, ⟨⟨.none, he⟩, hit, Nat.succ_ne_self _⟩, fun b hb => ?_, q⟩
    have e' : b = s1.heap.objs.size + 1 ∨ b = s1.heap.objs.size := by simpa using hb
    have le : s1.heap.objs.size ≤ b := e'.elim (fun z => by rw [z]; exact Nat.le_add_right _ _) fun z => by rw [z]; exact Nat.le_refl _
    exact I1.fpOk le (I1.hok.fresh le)
  · obtain ⟨its, rv, p', hz⟩ := I1.tuple hq
    have al : a < s1.heap.objs.size := let ⟨_, q, _⟩ := p'; Heap.lt_size q
    refine call_enumT (begins_tuple a its.toArray) p' fun h' he hit hsz hk => wpAny_pyIter_enum he ?_
    refine ⟨s1.heap.objs.size + 1, [s1.heap.objs.size + 1, s1.heap.objs.size], _, _, H1, rfl, I1.kept (t' := s1.toks) hk, turn_enumT a (s1.heap.objs.size + 1) s1.heap.objs.size (Nat.ne_of_lt al) (Nat.ne_of_gt (Nat.lt_succ_of_lt al)), ⟨⟨.none, he⟩, ⟨_, hit, rfl, rfl⟩, Nat.succ_ne_self _⟩, fun b hb => ?_, q⟩
    have e' : b = s1.heap.objs.size + 1 ∨ b = s1.heap.objs.size := by simpa using hb
    have le : s1.heap.objs.size ≤ b := e'.elim (fun z => by rw [z]; exact Nat.le_add_right _ _) fun z => by rw [z]; exact Nat.le_refl _
    exact I1.fpOk le (I1.hok.fresh le)
section
variable {K : PySem.W.Frag} {cl : String → Addr → Prop} {σ : L2.St} {W0 W : Wd} {ms : List Nat} {z : Bool}
theorem walk_enumT {a : Addr} {xs : List V} : Walk (IteT K a) xs.length (fun H => SqT K H a xs) (YPair (fun i => some (.int (i : Nat))) (fun i => xs[i]?)) := by
  refine ⟨fun i _ hi q => ⟨xs, xs[i], q, by simp [hi]⟩, fun _ q => ⟨xs, q, Nat.le_refl _⟩, fun i H v H' _ q y => ?_⟩
  obtain ⟨T, x, h1, h2, h3, h4⟩ := y
  exact ⟨T, .int (i : Nat), x, h1, h2, h3, rfl, h4 xs q⟩
theorem going_enumT (s : Sim K cl σ W0) {ds : List D} {v : V} (h : Held K W0 ms z (.tup ds) v) (hc : z = true → cfs ds = true) : ∃ a xs, v = .ref a ∧ SqT K W0.H a xs ∧ Going K W0 ms ((List.range ds.length).zip ds |>.map fun p => D.tup [.int (p.1 : Int), p.2]) (IteT K a) := by
  obtain ⟨a, vs, rfl, hq', m⟩ := held_tup s h
  have hq : ∀ W, Step ms W0 W → SqT K W.H a vs := fun W t => SqT.of (hq' W t)
  have w := walk_enumT (K := K) (a := a) (xs := vs)
  have hl : (((List.range ds.length).zip ds).map fun p => D.tup [.int (p.1 : Int), p.2]).length = ds.length := by simp
  refine ⟨a, vs, rfl, hq _ Step.refl, fun i t hi => w.goes i _ (by rw [← m.1, ← hl]; exact hi) (hq _ t), fun t => by rw [hl, m.1]; exact w.stops _ (hq _ t), fun i x H' t hi y => ?_⟩
  rw [hl] at hi
  obtain ⟨T, x1, x2, rfl, hT, rfl, e1, e2⟩ := w.yields i _ x H' (by rw [← m.1]; exact hi) (hq _ t) y
  obtain ⟨d, F, h1, h2, h3⟩ := m.out hc hi t e2
  cases e1
  obtain ⟨p1, p2, p3⟩ := pair_out (x := .int (i : Int)) .int h2 (fun _ m => nomatch m) h3 hT
  refine ⟨.tup [.int (i : Int), d], _, ?_, p1, p2, p3⟩
  rw [List.getElem?_map, zip_some (List.getElem?_range hi) h1]
  rfl
end
end VS

end

-- VS.For
/-! Loops over what is walked. -/
namespace VS
open PySem PySem.Spec PyProof.Rows L2

/-- the reading of what is walked -/
def trI (K : PySem.W.Frag) (cl : String → Addr → Prop) (L : Lk) (Wx : WX) (kind : Nat) (a b : Ex) : TI := fun σ H R =>
  (kind = 0 ∧ iRng1 (trA K cl L Wx [a]) σ H R) ∨ (kind = 4 ∧ iRng2 (trA K cl L Wx [a, b]) σ H R) ∨
  (kind = 1 ∧ (iList K (trE K cl L Wx a) σ H R ∨ iTup K (trE K cl L Wx a) σ H R ∨ iStr (trE K cl L Wx a) σ H R)) ∨
  (kind = 2 ∧ iEnumM K (trA K cl L Wx [a]) σ H R) ∨ (kind = 3 ∧ iZipM K (trA K cl L Wx [a, b]) σ H R)
/-- one source, or two -/
def twoI (kind : Nat) : Bool := kind == 3 || kind == 4
section
variable {K : PySem.W.Frag} {cl : String → Addr → Prop} {L : Lk} {σ σ1 : L2.St} {Wx : WX} {W W1 : Wd} {ms ns os msb : List Nat} {H : Hp}
/-- behind the sources: what is walked stands, and goes -/
def PostI (K : PySem.W.Frag) (cl : String → Addr → Prop) (σ : L2.St) (W : Wd) (ms msb : List Nat) (us vs : List Nat) (d1 : D) (k1 : Bool) (d2 : D) (k2 : Bool) (items : List D) (st' : S) (R : It → Hp → Prop) : Prop :=
  ∀ W2 v1 v2 F1 F2, W2.st = st' → Sim K cl σ W2 → StepE ms W W2 → Tmp K W2 us d1 k1 v1 F1 → Tmp K W2 vs d2 k2 v2 F2 → (k1 = true → ∀ a ∈ F1, From W ms a) → (k2 = true → ∀ a ∈ F2, From W ms a) →
    ∃ W3 z σ3, W3.H = W2.H ∧ Sim K cl σ3 W3 ∧ Held K W3 msb z d1 v1 ∧ Held K W3 msb z d2 v2 ∧ (z = true → cfs items = true) ∧ ∀ J, Going K W3 msb items J → R J W2.H
def GoI (K : PySem.W.Frag) (cl : String → Addr → Prop) (L : Lk) (σ : L2.St) (Wx : WX) (W : Wd) (msb : List Nat) (kind : Nat) (a b : Ex) (R : It → Hp → Prop) : Prop := match ev L a W.st with
  | .ok d1 k1 st1 => match ev L b st1 with
    | .ok d2 k2 st2 => match itemsOf kind d1 d2 with
      | some items => (k1 || disj (vars a) (muts b)) = true ∧ PostI K cl σ W (muts a ++ muts b) msb (vars a) (vars b) d1 k1 d2 k2 items st2 R
      | none => False
    | _ => False
  | .exc c fs st1 => PostEx K cl σ Wx W (muts a ++ muts b) c fs st1
  | .err => False
theorem evs_one {e : Ex} {st : S} : evs L [e] st = match ev L e st with
  | .ok d k st1 => .ok [(d, k)] st1
  | .exc c fs st1 => .exc c fs st1
  | .err => .err := by
  simp only [evs, mutss]
  cases ev L e st with
  | err => rfl
  | exc _ _ _ => rfl
  | ok d k st1 =>
    have : disj (vars e) [] = true := by simp [disj]
    simp [this]
theorem evs_two {e f : Ex} {st : S} : evs L [e, f] st = match ev L e st with
  | .ok d k st1 => if (k || disj (vars e) (muts f)) = true then match ev L f st1 with
    | .ok d2 k2 st2 => .ok [(d, k), (d2, k2)] st2
    | .exc c fs st1 => .exc c fs st1
    | .err => .err else .err
  | .exc c fs st1 => .exc c fs st1
  | .err => .err := by
  simp only [evs, mutss]
  cases ev L e st with
  | err => rfl
  | exc _ _ _ => rfl
  | ok d k st1 =>
    have h1 : mutss [f] = muts f := by simp [mutss]
    simp only [List.append_nil]
    cases hd : (k || disj (vars e) (muts f)) with
    | false => rfl
    | true =>
      simp only [if_true]
      cases ev L f st1 with
      | err => rfl
      | exc _ _ _ => rfl
      | ok d2 k2 st2 =>
        have : disj (vars f) [] = true := by simp [disj]
        simp [this]
theorem Tmps.one {e : Ex} {d k vs G} (he : isIo e = false) (t : Tmps K σ W W1 ms [e] [(d, k)] vs G) : ∃ v F, vs = [v] ∧ Tmp K W1 (vars e) d k v F ∧ (k = true → ∀ a ∈ F, From W ms a) := by
  cases t with
  | io _ _ => simp [isIo] at he
  | cons _ m f t _ => cases t with
    | nil => exact ⟨_, _, rfl, m, f⟩
theorem Tmps.two {e e' : Ex} {d k d' k' vs G} (he : isIo e = false) (he' : isIo e' = false) (t : Tmps K σ W W1 ms [e, e'] [(d, k), (d', k')] vs G) :
    ∃ v F v' F', vs = [v, v'] ∧ Tmp K W1 (vars e) d k v F ∧ (k = true → ∀ a ∈ F, From W ms a) ∧ Tmp K W1 (vars e') d' k' v' F' ∧ (k' = true → ∀ a ∈ F', From W ms a) := by
  cases t with
  | io _ _ => simp [isIo] at he
  | cons _ m f t _ =>
    obtain ⟨v, F, rfl, m', f'⟩ := t.one he'
    exact ⟨_, _, _, _, rfl, m, f, m', f'⟩
theorem Rd.intV {o : Bool} {ρ H i v F} (h : VS.Rd K ρ H o (.int i) v F) : v = .int i := by cases h; rfl
theorem Rd.strV {o : Bool} {ρ H x v F} (h : VS.Rd K ρ H o (.str x) v F) : v = .str x := by cases h; rfl
theorem tmp_non {vs : List Nat} : Tmp K W vs .non true .non [] := Tmp.of_flat (k := true) .non rfl
theorem cfs_enum {xs : List D} (h : cfs ((List.range xs.length).zip xs |>.map fun p => D.tup [.int (p.1 : Int), p.2]) = true) : cfs xs = true := by
  have gen : ∀ (xs : List D) (ns : List Nat), xs.length ≤ ns.length → cfs (ns.zip xs |>.map fun p => D.tup [.int (p.1 : Int), p.2]) = true → cfs xs = true := by
    intro xs
    induction xs with
    | nil => intro _ _ _; rfl
    | cons x xs ih =>
      intro ns hl h
      cases ns with
      | nil => simp at hl
      | cons n ns =>
        simp only [List.zip_cons_cons, List.map_cons, cfs, cf, Bool.and_eq_true, Bool.and_true] at h ⊢
        exact ⟨h.1.2, ih ns (by simpa using hl) h.2⟩
  exact gen xs _ (by simp) h
/-- the walk of what stands -/
theorem tr_iter {kind : Nat} {a b : Ex} {R : It → Hp → Prop} (hk5 : kind < 5) (ha : isIo a = false) (hb : isIo b = false) (h2 : twoI kind = false → b = .con .non) (eH : W.H = H) (s : Sim K cl σ W) (hgo : GoI K cl L σ Wx W msb kind a b R) : trI K cl L Wx kind a b σ H R := by
  have one : ∀ {Q : List V → Hp → Prop}, b = .con .non → (∀ d1 k1 st1 items, ev L a W.st = .ok d1 k1 st1 → itemsOf kind d1 .non = some items → PostI K cl σ W (muts a ++ muts b) msb (vars a) (vars b) d1 k1 .non true items st1 R →
      ∀ W2 v F, W2.st = st1 → Sim K cl σ W2 → StepE (muts a) W W2 → Tmp K W2 (vars a) d1 k1 v F → (k1 = true → ∀ c ∈ F, From W (muts a) c) → Q [v] W2.H) → trA K cl L Wx [a] σ H Q := fun {Q} eb hk => by
    refine ⟨W, eH, s, ?_⟩
    simp only [evs_one, mutss, List.append_nil]
    unfold GoI at hgo
    subst eb
    cases h1 : ev L a W.st with
    | err => rw [h1] at hgo; exact hgo
    | exc c fs st' => rw [h1] at hgo; exact PostEx.sub hgo fun i h => List.mem_append.mpr (.inl h)
    | ok d1 k1 st1 =>
      rw [h1] at hgo
      dsimp only [ev, Cn.d] at hgo
      cases h3 : itemsOf kind d1 .non with
      | none => rw [h3] at hgo; exact hgo.elim
      | some items =>
        rw [h3] at hgo
        intro W2 vs G e2 s2 t2 m2
        obtain ⟨v, F, rfl, m, f⟩ := m2.one ha
        exact hk d1 k1 st1 items h1 h3 hgo.2 W2 v F e2 s2 t2 m f
  have two : ∀ {Q : List V → Hp → Prop}, (∀ d1 k1 d2 k2 st1 st2 items, ev L a W.st = .ok d1 k1 st1 → ev L b st1 = .ok d2 k2 st2 → itemsOf kind d1 d2 = some items → PostI K cl σ W (muts a ++ muts b) msb (vars a) (vars b) d1 k1 d2 k2 items st2 R →
      ∀ W2 v F v' F', W2.st = st2 → Sim K cl σ W2 → StepE (muts a ++ muts b) W W2 → Tmp K W2 (vars a) d1 k1 v F → (k1 = true → ∀ c ∈ F, From W (muts a ++ muts b) c) → Tmp K W2 (vars b) d2 k2 v' F' → (k2 = true → ∀ c ∈ F', From W (muts a ++ muts b) c) → Q [v, v'] W2.H) → trA K cl L Wx [a, b] σ H Q := fun {Q} hk => by
    refine ⟨W, eH, s, ?_⟩
    simp only [evs_two, mutss, List.append_nil]
    unfold GoI at hgo
    cases h1 : ev L a W.st with
    | err => rw [h1] at hgo; exact hgo
    | exc c fs st' => rw [h1] at hgo; exact hgo
    | ok d1 k1 st1 =>
      rw [h1] at hgo
      dsimp only at hgo ⊢
      cases h3 : ev L b st1 with
      | err => rw [h3] at hgo; exact hgo.elim
      | exc c fs st' => rw [h3] at hgo; exact hgo.elim
      | ok d2 k2 st2 =>
        rw [h3] at hgo
        dsimp only at hgo ⊢
        cases h4 : itemsOf kind d1 d2 with
        | none => rw [h4] at hgo; exact hgo.elim
        | some items =>
          rw [h4] at hgo
          rw [if_pos hgo.1]
          intro W2 vs G e2 s2 t2 m2
          obtain ⟨v, F, v', F', rfl, m, f, m', f'⟩ := m2.two ha hb
          exact hk d1 k1 d2 k2 st1 st2 items h1 h3 h4 hgo.2 W2 v F v' F' e2 s2 t2 m f m' f'
  obtain rfl | rfl | rfl | rfl | rfl : kind = 0 ∨ kind = 1 ∨ kind = 2 ∨ kind = 3 ∨ kind = 4 := by omega
  · refine .inl ⟨rfl, one (h2 rfl) fun d1 k1 st1 items e1 hi hp W2 v F q1 q2 q3 q4 q5 => ?_⟩
    cases d1 <;> simp only [itemsOf] at hi <;> try cases hi
    rename_i n
    split at hi
    · rename_i hb
      cases hi
      obtain ⟨W3, z, σ3, e3, s3, _, _, _, hJ⟩ := hp W2 v .non F [] q1 q2 (q3.mono fun i h => List.mem_append.mpr (.inl h)) q4 tmp_non (fun e a m => (q5 e a m).mono fun i h => List.mem_append.mpr (.inl h)) fun _ _ m => nomatch m
      refine ⟨n, by rw [Rd.intV q4.rd], by omega, by omega, hJ _ ?_⟩
      have := going_range (K := K) (W0 := W3) (ms := msb) (lo := 0) (n := n.toNat)
      simpa using this
    · cases hi
  · unfold GoI at hgo
    have eb := h2 rfl
    subst eb
    cases h1 : ev L a W.st with
    | err => rw [h1] at hgo; exact hgo.elim
    | exc c fs st' =>
      rw [h1] at hgo
      refine .inr (.inr (.inl ⟨rfl, .inl ⟨W, eH, s, ?_⟩⟩))
      rw [h1]
      exact PostEx.sub hgo fun i h => List.mem_append.mpr (.inl h)
    | ok d1 k1 st1 =>
      rw [h1] at hgo
      dsimp only [ev, Cn.d] at hgo
      refine .inr (.inr (.inl ⟨rfl, ?_⟩))
      cases h3 : itemsOf 1 d1 .non with
      | none => rw [h3] at hgo; exact hgo.elim
      | some items =>
        rw [h3] at hgo
        have use : ∀ W1 v F, W1.st = st1 → Sim K cl σ W1 → StepE (muts a) W W1 → Tmp K W1 (vars a) d1 k1 v F → (k1 = true → ∀ c ∈ F, From W (muts a) c) → ∃ W3 z σ3, W3.H = W1.H ∧ Sim K cl σ3 W3 ∧ Held K W3 msb z d1 v ∧ (z = true → cfs items = true) ∧ ∀ J, Going K W3 msb items J → R J W1.H := fun W1 v F q1 q2 q3 q4 q5 => by
          obtain ⟨W3, z, σ3, e3, s3, h3, _, hz, hJ⟩ := hgo.2 W1 v .non F [] q1 q2 (q3.mono fun i h => List.mem_append.mpr (.inl h)) q4 tmp_non (fun e a m => (q5 e a m).mono fun i h => List.mem_append.mpr (.inl h)) fun _ _ m => nomatch m
          exact ⟨W3, z, σ3, e3, s3, h3, hz, hJ⟩
        cases d1 with
        | lst xs =>
          cases h3
          refine .inl ⟨W, eH, s, ?_⟩
          rw [h1]
          intro W1 v F q1 q2 q3 q4 q5
          obtain ⟨W3, z, σ3, e3, s3, hh, hz, hJ⟩ := use W1 v F q1 q2 q3 q4 q5
          obtain ⟨c, e, q, g⟩ := going_list s3 hh hz
          exact ⟨c, e, by rw [← e3]; exact q, hJ _ g⟩
        | tup xs =>
          cases h3
          refine .inr (.inl ⟨W, eH, s, ?_⟩)
          rw [h1]
          intro W1 v F q1 q2 q3 q4 q5
          obtain ⟨W3, z, σ3, e3, s3, hh, hz, hJ⟩ := use W1 v F q1 q2 q3 q4 q5
          obtain ⟨c, e, q, g⟩ := going_tup s3 hh hz
          exact ⟨c, e, by rw [← e3]; exact q, hJ _ g⟩
        | str x =>
          cases h3
          refine .inr (.inr ⟨W, eH, s, ?_⟩)
          rw [h1]
          intro W1 v F q1 q2 q3 q4 q5
          obtain ⟨W3, z, σ3, e3, s3, hh, hz, hJ⟩ := use W1 v F q1 q2 q3 q4 q5
          exact ⟨x, Rd.strV q4.rd, hJ _ going_str⟩
        | non => cases h3
        | bl _ => cases h3
        | int _ => cases h3
        | dct _ => cases h3
        | dctT _ => cases h3
        | obj _ => cases h3
  · refine .inr (.inr (.inr (.inl ⟨rfl, one (h2 rfl) fun d1 k1 st1 items e1 hi hp W2 v F q1 q2 q3 q4 q5 => ?_⟩)))
    cases d1 <;> simp only [itemsOf] at hi <;> try cases hi
    · obtain ⟨W3, z, σ3, e3, s3, hh, _, hz, hJ⟩ := hp W2 v .non F [] q1 q2 (q3.mono fun i h => List.mem_append.mpr (.inl h)) q4 tmp_non (fun e a m => (q5 e a m).mono fun i h => List.mem_append.mpr (.inl h)) fun _ _ m => nomatch m
      obtain ⟨c, us, e, q, g⟩ := going_enumT s3 hh fun e => cfs_enum (hz e)
      exact ⟨c, us, by rw [e], .inr ⟨by rw [← e3]; exact q, hJ _ g⟩⟩
    · obtain ⟨W3, z, σ3, e3, s3, hh, _, hz, hJ⟩ := hp W2 v .non F [] q1 q2 (q3.mono fun i h => List.mem_append.mpr (.inl h)) q4 tmp_non (fun e a m => (q5 e a m).mono fun i h => List.mem_append.mpr (.inl h)) fun _ _ m => nomatch m
      obtain ⟨c, us, e, q, g⟩ := going_enum s3 hh fun e => cfs_enum (hz e)
      exact ⟨c, us, by rw [e], .inl ⟨by rw [← e3]; exact q, hJ _ g⟩⟩
  · refine .inr (.inr (.inr (.inr ⟨rfl, two fun d1 k1 d2 k2 st1 st2 items e1 e2 hi hp W2 v F v' F' q1 q2 q3 q4 q5 q6 q7 => ?_⟩)))
    obtain ⟨W3, z, σ3, e3, s3, hh, hh', hz, hJ⟩ := hp W2 v v' F F' q1 q2 q3 q4 q6 q5 q7
    cases d1 <;> cases d2 <;> simp only [itemsOf] at hi <;> try cases hi
    · obtain ⟨c, c', us, us', e, e', g1, g2, g⟩ := going_zipM (c := true) (c' := true) s3 hh hh' hz
      exact ⟨true, true, c, c', us, us', by rw [e, e'], by rw [← e3]; exact g1, by rw [← e3]; exact g2, hJ _ g⟩
    · obtain ⟨c, c', us, us', e, e', g1, g2, g⟩ := going_zipM (c := true) (c' := false) s3 hh hh' hz
      exact ⟨true, false, c, c', us, us', by rw [e, e'], by rw [← e3]; exact g1, by rw [← e3]; exact g2, hJ _ g⟩
    · obtain ⟨c, c', us, us', e, e', g1, g2, g⟩ := going_zipM (c := false) (c' := true) s3 hh hh' hz
      exact ⟨false, true, c, c', us, us', by rw [e, e'], by rw [← e3]; exact g1, by rw [← e3]; exact g2, hJ _ g⟩
    · obtain ⟨c, c', us, us', e, e', g1, g2, g⟩ := going_zipM (c := false) (c' := false) s3 hh hh' hz
      exact ⟨false, false, c, c', us, us', by rw [e, e'], by rw [← e3]; exact g1, by rw [← e3]; exact g2, hJ _ g⟩
  · refine .inr (.inl ⟨rfl, two fun d1 k1 d2 k2 st1 st2 items e1 e2 hi hp W2 v F v' F' q1 q2 q3 q4 q5 q6 q7 => ?_⟩)
    obtain ⟨W3, z, σ3, e3, s3, hh, hh', hz, hJ⟩ := hp W2 v v' F F' q1 q2 q3 q4 q6 q5 q7
    cases d1 <;> cases d2 <;> simp only [itemsOf] at hi <;> try cases hi
    rename_i x y
    split at hi
    · rename_i hb
      cases hi
      exact ⟨x, y, by rw [Rd.intV q4.rd, Rd.intV q6.rd], ⟨by omega, by omega, by omega, by omega⟩, hJ _ going_range⟩
    · cases hi
theorem Step.drop (i : Nat) : Step ms W (W.drop i) :=
  ⟨⟨[], by simp [Wd.drop]⟩, fun a o h _ _ => h, fun a h => h, fun p a m => by
    have m' : a ∈ (if p = Pl.s i then [] else W.Fs p) := m
    by_cases e : p = .s i
    · rw [if_pos e] at m'; cases m'
    · rw [if_neg e] at m'; exact .inr (.inl m'), fun a z => z, fun a z => .inl z⟩
def Wd.drops (W : Wd) (is : List Nat) : Wd := is.foldl Wd.drop W
theorem drops_st : ∀ (is : List Nat) (W : Wd), (W.drops is).st = W.st.hide is
  | [], _ => rfl
  | i :: r, W => drops_st r (W.drop i)
theorem drops_same : ∀ (is : List Nat) (W : Wd), (W.drops is).H = W.H ∧ (W.drops is).ρ = W.ρ ∧ (W.drops is).Z = W.Z
  | [], _ => ⟨rfl, rfl, rfl⟩
  | i :: r, W => drops_same r (W.drop i)
theorem Sim.drops : ∀ (is : List Nat) {W : Wd}, Sim K cl σ W → Sim K cl σ (W.drops is)
  | [], _, s => s
  | i :: r, _, s => Sim.drops r (s.drop i)
theorem Step.drops : ∀ (is : List Nat) {W0 W : Wd} {σ0 : L2.St}, Sim K cl σ0 W0 → Sim K cl σ W → Step ms W0 W → Step ms W0 (W.drops is)
  | [], _, _, _, _, _, t => t
  | i :: r, _, _, _, s0, s, t => Step.drops r s0 (s.drop i) (t.trans' s0 s (Step.drop i))
/-- a member on its way -/
theorem tmp_item {d : D} {v F} {H' : Hp} (r : VS.Rd K W.ρ H' false d v F) (z : ∀ a ∈ F, W.Z a) : Tmp K (W.wit H') [] d false v F :=
  ⟨r, fun e => Bool.noConfusion e, fun e => Bool.noConfusion e, fun e => Bool.noConfusion e, fun _ a m => .inl (z a m)⟩
theorem ts_for {tg : Tg} {kind : Nat} {a b : Ex} {clr : List Nat} {body : List Sm} {E : Ends} {Pj : Nat → Prop} (hJ : ∀ i ∈ tgs tg, ¬ Pj i) (hk5 : kind < 5) (ha : isIo a = false) (hb : isIo b = false) (h2 : twoI kind = false → b = .con .non) (h : trS K cl L Wx Pj (.forI tg kind a b clr body) E σ H) :
    tFor (trI K cl L Wx kind a b) (gOf K tg) (trSs K cl L Wx Pj body) E σ H := by
  obtain ⟨W, eH, s, hgo⟩ := h
  refine tr_iter (msb := mutsS body) hk5 ha hb h2 eH s ?_
  unfold GoI
  simp only [exec] at hgo
  simp only [mutsM] at hgo
  cases h1 : ev L a W.st with
  | err => rw [h1] at hgo; exact hgo
  | exc c fs st' => rw [h1] at hgo; exact PostX.ex hgo fun i h => by simp only [List.mem_append] at h ⊢; rcases h with h | h <;> simp [h]
  | ok d1 k1 st1 =>
    rw [h1] at hgo
    dsimp only at hgo ⊢
    cases h3 : ev L b st1 with
    | err => rw [h3] at hgo; exact hgo
    | exc c fs st' => rw [h3] at hgo; exact hgo
    | ok d2 k2 st2 =>
      rw [h3] at hgo
      dsimp only at hgo ⊢
      cases h4 : itemsOf kind d1 d2 with
      | none => rw [h4] at hgo; exact hgo
      | some items =>
        rw [h4] at hgo
        dsimp only at hgo ⊢
        split at hgo
        · rename_i hc
          simp only [Bool.and_eq_true, Bool.or_eq_true] at hc
          obtain ⟨c1, c2⟩ := hc
          have dl : ∀ {us ps qs : List Nat}, disj us (ps ++ qs) = true → disj us ps = true ∧ disj us qs = true := fun {us ps qs} h => by
            unfold disj at h ⊢
            simp only [List.all_eq_true] at h ⊢
            refine ⟨fun i hi => ?_, fun i hi => ?_⟩
            · have := h i hi; simp at this; simp [this.1]
            · have := h i hi; simp at this; simp [this.2]
          refine ⟨by rcases c1 with c1 | c1; simp [c1]; simp [(dl c1).1], ?_⟩
          intro W2 v1 v2 F1 F2 e2 s2 t2 m1 m2 f1 f2
          subst e2
          -- what is walked is put away
          let Wk : Wd := if cfs items = true then W2 else (W2.keep k1 (vars a)).keep k2 (vars b)
          have hWk : Wk.H = W2.H ∧ Wk.ρ = W2.ρ ∧ Wk.Fs = W2.Fs := by
            show (if cfs items = true then W2 else _).H = _ ∧ (if cfs items = true then W2 else _).ρ = _ ∧ (if cfs items = true then W2 else _).Fs = _
            split
            · exact ⟨rfl, rfl, rfl⟩
            · have q1 := keep_same (W := W2) (k := k1) (vs := vars a)
              have q2 := keep_same (W := W2.keep k1 (vars a)) (k := k2) (vs := vars b)
              exact ⟨q2.1.trans q1.1, q2.2.1.trans q1.2.1, q2.2.2.trans q1.2.2⟩
          have stWk : Wk.st = if cfs items = true then W2.st else (W2.st.keep k1 (vars a)).keep k2 (vars b) := by
            show (if cfs items = true then W2 else _).st = _
            split
            · rfl
            · rw [keep_st, keep_st]
          have sk : Sim K cl σ Wk := by
            show Sim K cl σ (if cfs items = true then W2 else _)
            split
            · exact s2
            · exact (s2.kept k1 _).kept k2 _
          have tk : Step ([] : List Nat) W2 Wk := by
            show Step [] W2 (if cfs items = true then W2 else _)
            split
            · exact Step.refl
            · exact (Step.kept k1 (vars a) W2).trans' s2 (s2.kept k1 _) (Step.kept k2 (vars b) _)
          have keepT : ∀ {us : List Nat} {d k v F}, Tmp K W2 us d k v F → Tmp K Wk us d k v F := fun {us d k v F} m => by
            show Tmp K (if cfs items = true then W2 else _) us d k v F
            split
            · exact m
            · have one : ∀ {W' : Wd} {k' : Bool} {ws : List Nat}, Tmp K W' us d k v F → Tmp K (W'.keep k' ws) us d k v F := fun {W' k' ws} m => by
                cases k' with
                | true => exact m
                | false => exact m.frz
              exact one (one m)
          have m1k := keepT m1
          have m2k := keepT m2
          have zz1 : cfs items = true ∨ k1 = true ∨ ∀ i ∈ vars a, ∀ c ∈ Wk.Fs (.s i), Wk.Z c := by
            cases hz : cfs items with
            | true => exact .inl rfl
            | false =>
              refine .inr ?_
              cases k1 with
              | true => exact .inl rfl
              | false =>
                refine .inr fun i hi c mc => ?_
                rw [hWk.2.2] at mc
                show (if cfs items = true then W2 else _).Z c
                rw [if_neg (by rw [hz]; exact Bool.false_ne_true)]
                have q1 : (W2.keep false (vars a)).Z c := frz_all (vars a) s2 i hi c mc
                exact (Step.kept (ms := []) k2 (vars b) (W2.keep false (vars a))).zz c q1
          have zz2 : cfs items = true ∨ k2 = true ∨ ∀ i ∈ vars b, ∀ c ∈ Wk.Fs (.s i), Wk.Z c := by
            cases hz : cfs items with
            | true => exact .inl rfl
            | false =>
              refine .inr ?_
              cases k2 with
              | true => exact .inl rfl
              | false =>
                refine .inr fun i hi c mc => ?_
                rw [hWk.2.2] at mc
                show (if cfs items = true then W2 else _).Z c
                rw [if_neg (by rw [hz]; exact Bool.false_ne_true)]
                exact frz_all (vars b) (s2.kept k1 _) i hi c (by rw [keep_same.2.2]; exact mc)
          have hd1 : k1 = true ∨ disj (vars a) (mutsS body) = true := c1.imp id fun c => (dl c).2
          have hd2 : k2 = true ∨ disj (vars b) (mutsS body) = true := c2
          have hF1 : ∀ c ∈ F1 ++ F2, Wk.H c ≠ none := fun c mc => by
            rcases List.mem_append.mp mc with mc | mc
            · exact (m1k.rd.cel c mc).ne
            · exact (m2k.rd.cel c mc).ne
          have s3 : Sim K cl σ (Wk.ice (F1 ++ F2)) := sk.ice hF1
          have tWk : Step (muts a ++ muts b) W Wk := (t2.toStep.trans s s2 tk).mono fun i h => by simpa using h
          have fromK : ∀ c ∈ F1 ++ F2, (∀ p, c ∉ Wk.Fs p) → Wk.Z c ∨ From W (muts a ++ muts b) c := fun c mc hn => by
            rcases List.mem_append.mp mc with mc | mc
            · cases hk : k1 with
              | true => exact .inr (f1 hk c mc)
              | false => exact (m1k.sh hk c mc).elim .inl fun ⟨i, _, w⟩ => absurd w (hn _)
            · cases hk : k2 with
              | true => exact .inr (f2 hk c mc)
              | false => exact (m2k.sh hk c mc).elim .inl fun ⟨i, _, w⟩ => absurd w (hn _)
          have t3 : Step (muts a ++ muts b) W (Wk.ice (F1 ++ F2)) :=
            ⟨tWk.rho, tWk.keep, tWk.there, fun p c mc => (tWk.fs p c mc).imp (fun w => ⟨w.1, .inl w.2⟩) id, fun c z => .inl (tWk.zz c z), fun c z => by
              rcases z with z | ⟨z, n⟩
              · exact tWk.zn c z
              · rcases fromK c z n with w | w | ⟨p, _, _, w⟩
                · exact tWk.zn c w
                · exact .inr (.inl w)
                · exact .inr (.inr ⟨p, w⟩)⟩
          refine ⟨Wk.ice (F1 ++ F2), cfs items, σ, hWk.1, s3, m1k.held sk hd1 zz1 (fun c m => by simp [m]), m2k.held sk hd2 zz2 (fun c m => by simp [m]), id, fun J g => ?_⟩
          generalize hW3 : Wk.ice (F1 ++ F2) = W3 at s3 t3 g
          have st3 : W3.st = if cfs items = true then W2.st else (W2.st.keep k1 (vars a)).keep k2 (vars b) := by rw [← hW3]; exact stWk
          have H3 : W3.H = W2.H := by rw [← hW3]; exact hWk.1
          have go3 : GoS K cl Wx W3 (mutsS body) Pj σ (forL (fun x s => match bindT tg x false s with
              | some s1 => execs L body s1
              | none => .err) clr items W3.st) E := by
            rw [st3]
            exact GoS.from hgo s s3 t3 Pin.refl fun i h => by simp only [List.mem_append] at h ⊢; rcases h with (h | h) | h <;> simp [h]
          generalize hf : (fun x s => match bindT tg x false s with
              | some s1 => execs L body s1
              | none => Rs.err) = f at go3
          have key : ∀ i m σ' H', (fun (i m : Nat) (σ' : L2.St) (H' : Hp) => m = items.length - i ∧ i ≤ items.length ∧ ∃ W1, W1.H = H' ∧ Sim K cl σ' W1 ∧ Step (mutsS body) W3 W1 ∧ GoS K cl Wx W1 (mutsS body) Pj σ' (forL f clr (items.drop i) W1.st) E) i m σ' H' →
              (J.stop i H' ∧ E.nx σ' H') ∨ (J.go i H' ∧ ∃ N : L2.St → Hp → Prop, (∀ σ'' H'', N σ'' H'' → ∃ m', m' < m ∧ (m' = items.length - (i + 1) ∧ i + 1 ≤ items.length ∧ ∃ W1, W1.H = H'' ∧ Sim K cl σ'' W1 ∧ Step (mutsS body) W3 W1 ∧ GoS K cl Wx W1 (mutsS body) Pj σ'' (forL f clr (items.drop (i + 1)) W1.st) E)) ∧
                ∀ x H'', J.yld i H' x H'' → gOf K tg x σ' H'' fun σ2 H2 => trSs K cl L Wx Pj body { E with nx := N, ct := N, bk := E.nx } σ2 H2) := by
            rintro i m σ' H' ⟨hm, hi, W1, eH1, s1, t1, go1⟩
            subst eH1
            by_cases hlt : i < items.length
            · refine .inr ⟨g.go i t1 hlt, fun σ'' H'' => items.length - (i + 1) = items.length - (i + 1) ∧ i + 1 ≤ items.length ∧ ∃ W1, W1.H = H'' ∧ Sim K cl σ'' W1 ∧ Step (mutsS body) W3 W1 ∧ GoS K cl Wx W1 (mutsS body) Pj σ'' (forL f clr (items.drop (i + 1)) W1.st) E, fun σ'' H'' q => ⟨items.length - (i + 1), by omega, q⟩, fun x H'' y => ?_⟩
              obtain ⟨d, F, hd, hS, r, hz⟩ := g.yld i x H'' t1 hlt y
              have ed : items.drop i = d :: items.drop (i + 1) := by
                rw [List.drop_eq_getElem_cons hlt]
                have : items[i] = d := by
                  rw [List.getElem?_eq_getElem hlt] at hd
                  exact Option.some.inj hd
                rw [this]
              rw [ed] at go1
              simp only [forL] at go1
              have sw := s1.wit hS
              have tw : Step (mutsS body) W1 (W1.wit H'') := (StepE.wit (ms := mutsS body) hS).toStep
              have go1' := GoS.from (os := mutsS body) go1 s1 sw tw Pin.refl fun i h => by simpa using h
              rw [← hf] at go1'
              dsimp only at go1'
              cases hb1 : bindT tg d false (W1.wit H'').st with
              | none =>
                have : bindT tg d false W1.st = none := hb1
                rw [this] at go1'
                exact go1'.elim
              | some sb =>
                have hb2 : bindT tg d false W1.st = some sb := hb1
                rw [hb2] at go1'
                dsimp only at go1'
                refine bind_ok sw (Step.refl (ms := mutsS body)) (tmp_item r hz) (fun e => Bool.noConfusion e) hb1 fun σ2 W4 e4 _ _ _ _ _ sm4 s4 t4 => ?_
                have p4 := sm4.pin hJ
                refine ⟨W4, rfl, s4, ?_⟩
                rw [e4]
                have back : ∀ {W5 : Wd} {σ5 : L2.St}, Sim K cl σ5 W5 → Step (mutsS body) W4 W5 → Sim K cl σ5 (W5.drops clr) ∧ Step (mutsS body) W3 (W5.drops clr) ∧ Step (mutsS body) (W1.wit H'') (W5.drops clr) := fun {W5 σ5} s5 t5 => by
                  have ta : Step (mutsS body) (W1.wit H'') W5 := t4.trans' sw s4 t5
                  have tb : Step (mutsS body) W3 W5 := (t1.trans' s3 s1 tw).trans' s3 sw ta
                  exact ⟨Sim.drops clr s5, Step.drops clr s3 s5 tb, Step.drops clr sw s5 ta⟩
                cases h6 : execs L body sb with
                | err => rw [h6] at go1'; exact go1'
                | next st5 =>
                  rw [h6] at go1'
                  intro W5 σ5 e5 s5 t5 p5
                  obtain ⟨b1, b2, b3⟩ := back s5 t5
                  refine ⟨rfl, hlt, W5.drops clr, (drops_same clr W5).1, b1, b2, ?_⟩
                  rw [drops_st, e5, ← hf]
                  exact GoS.from go1' sw b1 b3 (p4.trans p5) fun i h => by simpa using h
                | cnt st5 =>
                  rw [h6] at go1'
                  intro W5 σ5 e5 s5 t5 p5
                  obtain ⟨b1, b2, b3⟩ := back s5 t5
                  refine ⟨rfl, hlt, W5.drops clr, (drops_same clr W5).1, b1, b2, ?_⟩
                  rw [drops_st, e5, ← hf]
                  exact GoS.from go1' sw b1 b3 (p4.trans p5) fun i h => by simpa using h
                | brk st5 =>
                  rw [h6] at go1'
                  intro W5 σ5 e5 s5 t5 p5
                  obtain ⟨b1, b2, b3⟩ := back s5 t5
                  have go1' : PostN K cl (W1.wit H'') (mutsS body) Pj σ' (st5.hide clr) E.nx := go1'
                  have := go1' (W5.drops clr) σ5 (by rw [drops_st, e5]) b1 b3 (p4.trans p5)
                  rw [(drops_same clr W5).1] at this
                  exact this
                | ret d k st5 => rw [h6] at go1'; exact PostR.from (ms := mutsS body) go1' sw s4 t4 p4 fun i h => by simpa using h
                | exc c fs st5 => rw [h6] at go1'; exact PostX.from (ms := mutsS body) go1' sw s4 t4 p4 fun i h => by simpa using h
            · have e : i = items.length := by omega
              subst e
              refine .inl ⟨g.stop t1, ?_⟩
              rw [List.drop_length] at go1
              exact go1 W1 σ' rfl s1 Step.refl Pin.refl
          exact ⟨_, ⟨items.length - 0, rfl, Nat.zero_le _, W3, H3, s3, Step.refl, go3⟩, key⟩
        · exact hgo.elim
end
end VS

-- VS.Comp
/-! Comprehensions: what they keep. -/
namespace VS
open PySem PySem.Spec PyProof.Rows L2

section
variable {K : PySem.W.Frag} {cl : String → Addr → Prop} {L : Lk} {σ σ1 : L2.St} {Wx : WX} {W0 W W1 : Wd} {ms ns os vs' : List Nat} {H : Hp} {p : Addr}
theorem hide_len : ∀ (is : List Nat) (st : S), (st.hide is).sl.length = st.sl.length
  | [], _ => rfl
  | i :: r, st => (hide_len r (st.set i none)).trans (by show (st.sl.set i none).length = _; rw [List.length_set])
theorem hide_get : ∀ (is : List Nat) (st : S) (j : Nat), (st.hide is).get j = if j ∈ is then none else st.get j
  | [], _, _ => by simp [S.hide]
  | i :: r, st, j => by
    show ((st.set i none).hide r).get j = _
    rw [hide_get r, S.set_get]
    by_cases h : j ∈ r
    · simp [h]
    · by_cases e : i = j
      · subst e; simp [h]
      · have : ¬ (j = i) := fun z => e z.symm
        simp [h, e, this]
theorem hide_os : ∀ (is : List Nat) (st : S), (st.hide is).os = st.os
  | [], _ => rfl
  | i :: r, st => hide_os r (st.set i none)
theorem S.ext_get {a b : S} (hl : a.sl.length = b.sl.length) (ho : a.os = b.os) (h : ∀ j, a.get j = b.get j) : a = b := by
  obtain ⟨x, o⟩ := a
  obtain ⟨y, o'⟩ := b
  cases ho
  congr
  refine List.ext_getElem hl fun i h1 h2 => ?_
  have := h i
  unfold S.get at this
  simpa [List.getElem?_eq_getElem h1, List.getElem?_eq_getElem h2] using this
theorem hide_hide (is : List Nat) (st : S) : (st.hide is).hide is = st.hide is := by
  refine S.ext_get (hide_len _ _) (hide_os _ _) fun j => ?_
  rw [hide_get, hide_get]
  split <;> rfl
theorem restore_len : ∀ (is : List Nat) (st old : S), (st.restore old is).sl.length = st.sl.length
  | [], _, _ => rfl
  | i :: r, st, old => (restore_len r (st.set i (old.get i)) old).trans (by show (st.sl.set i _).length = _; rw [List.length_set])
theorem restore_os : ∀ (is : List Nat) (st old : S), (st.restore old is).os = st.os
  | [], _, _ => rfl
  | i :: r, st, old => restore_os r (st.set i (old.get i)) old
theorem restore_get : ∀ (is : List Nat) (st old : S) (j : Nat), st.sl.length = old.sl.length → (st.restore old is).get j = if j ∈ is then old.get j else st.get j
  | [], _, _, _, _ => by simp [S.restore]
  | i :: r, st, old, j, hl => by
    show ((st.set i (old.get i)).restore old r).get j = _
    rw [restore_get r _ _ _ (by show (st.sl.set i _).length = _; rw [List.length_set]; exact hl), S.set_get]
    by_cases h : j ∈ r
    · simp [h]
    · by_cases e : i = j
      · subst e
        simp only [h, if_false, if_true, List.mem_cons, true_or]
        by_cases q : i < st.sl.length
        · rw [if_pos q]
        · rw [if_neg q]
          have q2 : old.sl.length ≤ i := by rw [← hl]; exact Nat.le_of_not_lt q
          unfold S.get
          rw [List.getElem?_eq_none q2]; rfl
      · have : ¬ (j = i) := fun z => e z.symm
        simp [h, e, this]
theorem drops_fs : ∀ (is : List Nat) (W : Wd) (r : Pl), (W.drops is).Fs r = if (∃ i ∈ is, r = .s i) then [] else W.Fs r
  | [], _, _ => by simp [Wd.drops]
  | i :: t, W, r => by
    show ((W.drop i).drops t).Fs r = _
    rw [drops_fs t]
    show (if _ then [] else (if r = Pl.s i then [] else W.Fs r)) = _
    by_cases h : ∃ j ∈ t, r = .s j
    · obtain ⟨j, hj, e⟩ := h
      rw [if_pos ⟨j, hj, e⟩, if_pos ⟨j, by simp [hj], e⟩]
    · rw [if_neg h]
      by_cases e : r = .s i
      · rw [if_pos e, if_pos ⟨i, by simp, e⟩]
      · rw [if_neg e, if_neg]
        rintro ⟨j, hj, q⟩
        rcases List.mem_cons.mp hj with z | z
        · exact e (by rw [q, z])
        · exact h ⟨j, z, q⟩
theorem drops_sub {is : List Nat} {r : Pl} {a : Addr} (m : a ∈ (W.drops is).Fs r) : a ∈ W.Fs r := by
  rw [drops_fs] at m
  split at m
  · cases m
  · exact m
theorem drops_at (is : List Nat) (W : Wd) (r : Pl) : (W.drops is).st.at r = if (∃ i ∈ is, r = .s i) then none else W.st.at r := by
  rw [drops_st]
  cases r with
  | s j =>
    show (W.st.hide is).get j = _
    rw [hide_get]
    by_cases h : j ∈ is
    · rw [if_pos h, if_pos ⟨j, h, rfl⟩]
    · rw [if_neg h, if_neg]
      · rfl
      · rintro ⟨i, hi, e⟩
        injection e with e
        exact h (e ▸ hi)
  | f o n =>
    rw [if_neg]
    · show ((W.st.hide is).os[o]?).bind _ = _
      rw [hide_os]; rfl
    · rintro ⟨i, _, e⟩; cases e
theorem wipe_get (σ : L2.St) : ∀ (is : List Nat) (j : Nat), (wipe σ is)[j]? = if j ∈ is then (if j < σ.length then some none else none) else σ[j]?
  | [], _ => by simp [wipe]
  | i :: r, j => by
    show ((wipe σ r).set i none)[j]? = _
    by_cases e : i = j
    · subst e
      simp only [List.mem_cons, true_or, if_true]
      by_cases h : i < σ.length
      · rw [if_pos h, List.getElem?_set_self (by rw [wipe_length]; exact h)]
      · rw [if_neg h, List.getElem?_eq_none (by rw [List.length_set, wipe_length]; omega)]
    · rw [List.getElem?_set_ne e, wipe_get σ r]
      have : ¬ (j = i) := fun z => e z.symm
      simp [this]
theorem wipe_same {is : List Nat} {σ2 : L2.St} (h : Same' is (wipe σ os) σ2) (hs : ∀ i ∈ is, i ∈ os) : wipe σ2 os = wipe σ os := by
  refine List.ext_getElem? fun j => ?_
  have hl : σ2.length = σ.length := by rw [h.1, wipe_length]
  rw [wipe_get, wipe_get, hl]
  split
  · rfl
  · rename_i hj
    rw [h.2 j fun z => hj (hs j z), wipe_get, if_neg hj]
/-- only names that have something matter -/
theorem Sim.wiped (s : Sim K cl σ W) (h : ∀ i ∈ os, W.st.get i = none) : Sim K cl (wipe σ os) W :=
  ⟨fun r d k e => by
    obtain ⟨v, h1, h2⟩ := s.rd r d k e
    refine ⟨v, ?_, h2⟩
    cases r with
    | s i =>
      show (wipe σ os)[i]? = _
      rw [wipe_out fun z => ?_]
      · exact h1
      · have e' : W.st.get i = some (d, k) := e
        rw [h i z] at e'
        cases e'
    | f o n => exact h1, s.ob, s.rl, s.rn, s.non, s.nd, s.own, s.frz, s.dj, s.zt, by rw [wipe_length]; exact s.ln⟩
/-- what is gathered: each with its cells, apart from the list's own -/
inductive Acc (K : PySem.W.Frag) (W0 W : Wd) (os vs' : List Nat) (p : Addr) : List (D × Bool) → List V → List Addr → Prop
  | nil : Acc K W0 W os vs' p [] [] []
  | cons {d k v F ds vs G} : Tmp K W vs' d k v F → (k = true ∨ disj vs' os = true) → (k = true → ∀ a ∈ F, From W0 os a) → p ∉ F → Acc K W0 W os vs' p ds vs G → (k = true → ∀ a ∈ F, a ∉ G) → Acc K W0 W os vs' p ((d, k) :: ds) (v :: vs) ((if k = true then F else []) ++ G)
theorem Acc.snoc {ds vs G} (t : Acc K W0 W os vs' p ds vs G) {d k v F} (m : Tmp K W vs' d k v F) (hd : k = true ∨ disj vs' os = true) (f : k = true → ∀ a ∈ F, From W0 os a) (hp : p ∉ F) (dj : k = true → ∀ a ∈ F, a ∉ G) :
    Acc K W0 W os vs' p (ds ++ [(d, k)]) (vs ++ [v]) (G ++ (if k = true then F else [])) := by
  induction t with
  | nil =>
    have := Acc.cons m hd f hp (Acc.nil (K := K) (W0 := W0) (W := W) (os := os) (vs' := vs') (p := p)) (fun _ _ _ z => nomatch z)
    simpa using this
  | @cons d0 k0 v0 F0 ds vs G m0 hd0 f0 hp0 t dj0 ih =>
    have q := ih fun e a ma z => dj e a ma (by simp [z])
    have := Acc.cons m0 hd0 f0 hp0 q fun e a ma z => ?_
    · simpa [List.append_assoc] using this
    · rcases List.mem_append.mp z with z | z
      · exact dj0 e a ma z
      · cases k with
        | false => simp at z
        | true =>
          have z' : a ∈ F := by simpa using z
          exact dj rfl a z' (by simp [e, ma])
theorem Acc.step {ds vs G} (t : Acc K W0 W os vs' p ds vs G) (s : Sim K cl σ W) (u : StepE os W W1) : Acc K W0 W1 os vs' p ds vs G := by
  induction t with
  | nil => exact .nil
  | cons m hd f hp _ dj ih => exact .cons (m.step s u hd) hd f hp ih dj
theorem Acc.len {ds vs G} (t : Acc K W0 W os vs' p ds vs G) : ds.length = vs.length := by
  induction t with
  | nil => rfl
  | cons _ _ _ _ _ _ ih => simp [ih]
theorem Acc.from_ {ds vs G} (t : Acc K W0 W os vs' p ds vs G) : ∀ a ∈ G, From W0 os a := by
  induction t with
  | nil => exact fun _ m => nomatch m
  | @cons d k v F ds vs G _ _ f _ _ _ ih =>
    intro a m
    rcases List.mem_append.mp m with m | m
    · cases k with
      | true => exact f rfl a (by simpa using m)
      | false => simp at m
    · exact ih a m
/-- the list's own cell may be written -/
theorem Acc.poke {ds vs G} (t : Acc K W0 W os vs' p ds vs G) {o : HO} (c : Cel W.H p) : Acc K W0 (W.wit (upd W.H p o)) os vs' p ds vs G := by
  induction t with
  | nil => exact .nil
  | cons m hd f hp _ dj ih => exact .cons ⟨m.rd.off c hp, m.nd, m.nz, m.nf, m.sh⟩ hd f hp ih dj
theorem Acc.own {ds vs G} (t : Acc K W0 W os vs' p ds vs G) (hk : ds.all (·.2) = true) : Rds K W.ρ W.H true (ds.map (·.1)) vs G ∧ G.Nodup ∧ (∀ a ∈ G, ¬ W.Z a) ∧ (∀ a ∈ G, ∀ r, a ∉ W.Fs r) ∧ p ∉ G := by
  induction t with
  | nil => exact ⟨.nil, List.nodup_nil, fun _ m => (nomatch m), fun _ m => (nomatch m), fun m => nomatch m⟩
  | @cons d k v F ds vs G m hd f hp t dj ih =>
    simp only [List.all_cons, Bool.and_eq_true] at hk
    obtain ⟨hk1, hk2⟩ := hk
    have hk1' : k = true := hk1
    subst hk1'
    obtain ⟨r, nd, nz, nf, np⟩ := ih hk2
    rw [if_pos rfl]
    refine ⟨.cons m.rd r, List.nodup_append.mpr ⟨m.nd rfl, nd, fun a ha b hb e => dj rfl a ha (e ▸ hb)⟩, fun a z => ?_, fun a z => ?_, fun z => ?_⟩
    · rcases List.mem_append.mp z with z | z
      · exact m.nz rfl a z
      · exact nz a z
    · rcases List.mem_append.mp z with z | z
      · exact m.nf rfl a z
      · exact nf a z
    · rcases List.mem_append.mp z with z | z
      · exact hp z
      · exact np z
theorem Acc.ins {ds vs G} (t : Acc K W0 W os vs' p ds vs G) : ∃ F, Rds K W.ρ W.H false (ds.map (·.1)) vs F ∧ p ∉ F ∧ ∀ a ∈ F, W.Z a ∨ (∃ i ∈ vs', a ∈ W.Fs (.s i)) ∨ ((∀ r, a ∉ W.Fs r) ∧ From W0 os a) := by
  induction t with
  | nil => exact ⟨[], .nil, fun m => (nomatch m), fun _ m => nomatch m⟩
  | @cons d k v F ds vs G m hd f hp t dj ih =>
    obtain ⟨F', r, np, h⟩ := ih
    refine ⟨F ++ F', .cons m.rd.weak r, fun z => ?_, fun a z => ?_⟩
    · rcases List.mem_append.mp z with z | z
      · exact hp z
      · exact np z
    · rcases List.mem_append.mp z with z | z
      · cases k with
        | true => exact .inr (.inr ⟨m.nf rfl a z, f rfl a z⟩)
        | false => exact (m.sh rfl a z).imp id .inl
      · exact h a z
mutual
theorem bindT_get : ∀ {tg : Tg} {d : D} {st st' : S} {j : Nat}, bindT tg d false st = some st' → st'.get j = st.get j ∨ ∃ e, st'.get j = some (e, cf e)
  | .n i, d, st, st', j, h => by
    simp only [bindT] at h
    split at h
    · rename_i hi
      cases h
      rw [S.set_get]
      by_cases e : i = j
      · subst e
        rw [if_pos rfl, if_pos hi]
        exact .inr ⟨d, by simp⟩
      · rw [if_neg e]; exact .inl rfl
    · cases h
  | .t ts, d, st, st', j, h => by
    cases d with
    | tup xs => exact bindTs_get (show bindTs ts xs false st = some st' from h)
    | lst xs => exact bindTs_get (show bindTs ts xs false st = some st' from h)
    | non => exact nomatch (show (none : Option S) = some st' from h)
    | bl _ => exact nomatch (show (none : Option S) = some st' from h)
    | int _ => exact nomatch (show (none : Option S) = some st' from h)
    | str _ => exact nomatch (show (none : Option S) = some st' from h)
    | dct _ => exact nomatch (show (none : Option S) = some st' from h)
    | dctT _ => exact nomatch (show (none : Option S) = some st' from h)
    | obj _ => exact nomatch (show (none : Option S) = some st' from h)
theorem bindTs_get : ∀ {ts : List Tg} {ds : List D} {st st' : S} {j : Nat}, bindTs ts ds false st = some st' → st'.get j = st.get j ∨ ∃ e, st'.get j = some (e, cf e)
  | [], [], st, st', j, h => by cases (show some st = some st' from h); exact .inl rfl
  | [], _ :: _, _, _, _, h => nomatch h
  | _ :: _, [], _, _, _, h => nomatch h
  | t :: ts, x :: xs, st, st', j, h => by
    simp only [bindTs] at h
    cases e : bindT t x false st with
    | none => rw [e] at h; cases h
    | some s1 =>
      rw [e] at h
      rcases bindTs_get (j := j) (show bindTs ts xs false s1 = some st' from h) with q | q
      · rcases bindT_get (j := j) e with r | r
        · exact .inl (q.trans r)
        · obtain ⟨y, r⟩ := r
          exact .inr ⟨y, q.trans r⟩
      · exact .inr q
end
end
end VS

-- VS.Comp2
/-! Comprehensions. -/
namespace VS
open PySem PySem.Spec PyProof.Rows L2

/-- no exception -/
def nox : WX := fun _ _ _ _ => False
/-- the reading of a comprehension's tests: none, or one -/
def trC (K : PySem.W.Frag) (cl : String → Addr → Prop) (L : Lk) : List Ex → TT
  | [] => tYes
  | [c] => trB K cl L nox c
  | _ => fun _ _ _ => False
/-- an address that nobody has -/
structure Off (W : Wd) (p : Addr) : Prop where
  nn : W.H p ≠ none
  nz : ¬ W.Z p
  nf : ∀ r, p ∉ W.Fs r
section
variable {K : PySem.W.Frag} {cl : String → Addr → Prop} {L : Lk} {σ σ1 : L2.St} {Wx : WX} {W0 W W1 W2 : Wd} {ms ns os vs' own : List Nat} {H : Hp} {p : Addr} {Q : VK}
theorem Off.step (o : Off W p) (t : Step ms W W1) : Off W1 p where
  nn := t.there p o.nn
  nz := fun z => by
    rcases t.zn p z with w | w | ⟨r, w⟩
    · exact o.nz w
    · exact o.nn w
    · exact o.nf r w
  nf := fun r z => by
    rcases t.fs r p z with w | w | ⟨r', _, _, w⟩ | w
    · rcases t.zn p w.2 with w | w | ⟨r', w⟩
      · exact o.nz w
      · exact o.nn w
      · exact o.nf r' w
    · exact o.nf r w
    · exact o.nf r' w
    · exact o.nn w
theorem Off.same (o : Off W p) (t : Step ms W W1) {vs : List V} (h : W.H p = some (.lst vs)) : W1.H p = some (.lst vs) :=
  t.keep p _ h (fun _ _ _ => by simp) fun ⟨r, _, _, w⟩ => o.nf r w
theorem Acc.off {ds vs G} (t : Acc K W0 W os vs' p ds vs G) : ∀ a ∈ G, Cel W.H a ∧ ∀ r, a ∉ W.Fs r := by
  induction t with
  | nil => exact fun _ m => nomatch m
  | @cons d k v F ds vs G m _ f _ _ _ ih =>
    intro a z
    rcases List.mem_append.mp z with z | z
    · cases k with
      | true => have z' : a ∈ F := by simpa using z
                exact ⟨m.rd.cel a z', m.nf rfl a z'⟩
      | false => simp at z
    · exact ih a z
theorem StepE.drops : ∀ (is : List Nat) {W : Wd} {σ : L2.St}, Sim K cl σ W → (∀ i ∈ is, i ∈ ms) → StepE ms W (W.drops is)
  | [], _, _, _, _ => StepE.refl
  | i :: r, W, _, s, h => by
    have h1 : StepE ms W (W.drop i) := (StepE.drop i).mono fun j hj => h j (by simpa using Or.inl (by simpa using hj))
    have h2 : StepE ms (W.drop i) ((W.drop i).drops r) := StepE.drops r (s.drop i) fun j hj => h j (by simp [hj])
    exact (h1.trans s (s.drop i) h2).mono fun j hj => by simpa using hj
/-- a member that was made in the block, outside of it -/
theorem Tmp.inner (s : Sim K cl σ W) {us : List Nat} {d k v F} (m : Tmp K W us d k v F) (h : ∀ j ∈ own, W.st.get j = none ∨ ∃ x, W.st.get j = some (x, cf x)) : Tmp K (W.drops own) (us.filter fun i => !own.contains i) d k v F := by
  obtain ⟨e1, e2, e3⟩ := drops_same own W
  refine ⟨by rw [e1, e2]; exact m.rd, m.nd, fun e a ma => by rw [e3]; exact m.nz e a ma, fun e a ma r z => m.nf e a ma r (drops_sub z), fun e a ma => ?_⟩
  rw [e3]
  rcases m.sh e a ma with z | ⟨i, hi, z⟩
  · exact .inl z
  · by_cases hj : i ∈ own
    · rcases h i hj with q | ⟨x, q⟩
      · rw [s.non (.s i) q] at z; cases z
      · cases c : cf x with
        | true =>
          obtain ⟨v', _, r⟩ := s.rd (.s i) x (cf x) q
          obtain ⟨e', _⟩ := r.flat (o' := true) c
          rw [e'] at z; cases z
        | false =>
          rw [c] at q
          exact .inl (s.frz (.s i) x q a z)
    · refine .inr ⟨i, ?_, ?_⟩
      · rw [List.mem_filter]
        exact ⟨hi, by simp [hj]⟩
      · rw [drops_fs, if_neg]
        · exact z
        · rintro ⟨j, hj', e⟩
          injection e with e
          exact hj (e ▸ hj')
/-- the block's end: its names have what they had -/
theorem Sim.unblock {W3 : Wd} (s2 : Sim K cl σ W2) (hf : W2.st.flatAt own = true) (s3 : Sim K cl σ1 W3) (e3 : W3.H = W2.H ∧ W3.ρ = W2.ρ) (s1 : Sim K cl (wipe σ own) W1) (t : Step os W3 W1) {st : S} (hst : W1.st = st.hide own) (hl : st.sl.length = W2.st.sl.length) :
    Sim K cl σ { W1 with st := st.restore W2.st own } := by
  have at' : ∀ r, (st.restore W2.st own).at r = if (∃ i ∈ own, r = .s i) then W2.st.at r else W1.st.at r := fun r => by
    cases r with
    | s j =>
      show (st.restore W2.st own).get j = _
      rw [restore_get own _ _ _ hl]
      by_cases h : j ∈ own
      · rw [if_pos h, if_pos ⟨j, h, rfl⟩]; rfl
      · rw [if_neg h, if_neg]
        · show _ = W1.st.get j
          rw [hst, hide_get, if_neg h]
        · rintro ⟨i, hi, e⟩
          injection e with e
          exact h (e ▸ hi)
    | f o n =>
      rw [if_neg]
      · show ((st.restore W2.st own).os[o]?).bind _ = (W1.st.os[o]?).bind _
        rw [restore_os, hst, hide_os]
      · rintro ⟨i, _, e⟩; cases e
  have os' : (st.restore W2.st own).os = W1.st.os := by rw [restore_os, hst, hide_os]
  have flat : ∀ i ∈ own, ∀ d k, W2.st.get i = some (d, k) → cf d = true := fun i hi d k e => by
    have := List.all_eq_true.mp hf i hi
    rw [e] at this
    exact this
  have non1 : ∀ i ∈ own, W1.st.at (.s i) = none := fun i hi => by
    show W1.st.get i = none
    rw [hst, hide_get, if_pos hi]
  have cs : ∀ {r d k}, (st.restore W2.st own).at r = some (d, k) → (∃ i ∈ own, r = .s i ∧ W2.st.get i = some (d, k) ∧ cf d = true) ∨ W1.st.at r = some (d, k) := fun {r d k} h => by
    rw [at'] at h
    split at h
    · rename_i q
      obtain ⟨i, hi, e⟩ := q
      subst e
      exact .inl ⟨i, hi, rfl, h, flat i hi d k h⟩
    · exact .inr h
  have emp : ∀ i ∈ own, W1.Fs (.s i) = [] := fun i hi => s1.non _ (non1 i hi)
  refine ⟨fun r d k h => ?_, fun o ob h => s1.ob o ob (by rw [← os']; exact h), s1.rl.trans (by rw [← os']), s1.rn, fun r h => ?_, fun r d h => ?_, fun r d h a m => ?_, fun r d h a m => ?_, fun r r' d e hne h h' a m m' => ?_, s1.zt, ?_⟩
  · rcases cs h with ⟨i, hi, rfl, h2, c⟩ | h
    · obtain ⟨v, hv, rr⟩ := s2.rd (.s i) d k h2
      obtain ⟨_, rr⟩ := rr.flat (o' := k) c
      refine ⟨v, hv, ?_⟩
      show VS.Rd K W1.ρ W1.H k d v (W1.Fs (.s i))
      rw [emp i hi]
      refine t.rd s3 (by rw [e3.1, e3.2]; exact rr) fun _ m => nomatch m
    · obtain ⟨v, hv, rr⟩ := s1.rd r d k h
      refine ⟨v, ?_, rr⟩
      cases r with
      | s i => exact (wipe_some hv).1
      | f o n => exact hv
  · have h' : (st.restore W2.st own).at r = none := h
    rw [at'] at h'
    split at h'
    · rename_i q
      obtain ⟨i, hi, e⟩ := q
      subst e
      exact emp i hi
    · exact s1.non r h'
  · rcases cs h with ⟨i, hi, rfl, _, _⟩ | h
    · show (W1.Fs (.s i)).Nodup; rw [emp i hi]; exact List.nodup_nil
    · exact s1.nd r d h
  · rcases cs h with ⟨i, hi, rfl, _, _⟩ | h
    · have m' : a ∈ W1.Fs (.s i) := m
      rw [emp i hi] at m'; cases m'
    · exact s1.own r d h a m
  · rcases cs h with ⟨i, hi, rfl, _, _⟩ | h
    · have m' : a ∈ W1.Fs (.s i) := m
      rw [emp i hi] at m'; cases m'
    · exact s1.frz r d h a m
  · rcases cs h with ⟨i, hi, rfl, _, _⟩ | h
    · have m' : a ∈ W1.Fs (.s i) := m
      rw [emp i hi] at m'; cases m'
    · rcases cs h' with ⟨i, hi, rfl, _, _⟩ | h'
      · have m2 : a ∈ W1.Fs (.s i) := m'
        rw [emp i hi] at m2; cases m2
      · exact s1.dj r r' d e hne h h' a m m'
  · show (st.restore W2.st own).sl.length = _
    rw [restore_len, hl]; exact s2.ln
end
end VS

-- VS.Comp3
/-! Comprehensions: the reading. -/
namespace VS
open PySem PySem.Spec PyProof.Rows L2

/-- a turn of a block -/
def turnC (L : Lk) (tg : Tg) (own : List Nat) (cs : List Ex) (e : Ex) : D → S → Rvs := fun x s => match bindT tg x false (s.hide own) with
  | some s1 => match evC L cs s1 with
    | .ok t s2 => if t = true then match ev L e s2 with
      | .ok y ky s3 => if ky || disj (vars e) (mutss cs ++ muts e) then .ok [(y, ky)] s3 else .err
      | _ => .err else .ok [] s2
    | _ => .err
  | none => .err
section
variable {K : PySem.W.Frag} {cl : String → Addr → Prop} {L : Lk} {σ σ1 : L2.St} {Wx : WX} {W0 W W1 W2 : Wd} {ms ns os own : List Nat} {H : Hp} {p : Addr} {Q : VK}
/-- what stands between two turns -/
def Mid (K : PySem.W.Frag) (cl : String → Addr → Prop) (L : Lk) (σ : L2.St) (W3 : Wd) (os vs' own : List Nat) (p : Addr) (f : D → S → Rvs) (items : List D) (ys : List (D × Bool)) (stE : S) (i : Nat) (H : Hp) : Prop :=
  ∃ W1 ds vs G st zs, W1.H = H ∧ Sim K cl (wipe σ own) W1 ∧ StepE os W3 W1 ∧ W1.st = S.hide st own ∧ W1.H p = some (.lst vs) ∧ Off W1 p ∧ Acc K W3 W1 os vs' p ds vs G ∧ loopC f (items.drop i) st = .ok zs stE ∧ ds ++ zs = ys ∧ st.sl.length = W3.st.sl.length
theorem evC_one {c : Ex} {st : S} : evC L [c] st = match ev L c st with
  | .ok d _ st1 => match truthD d with
    | some t => .ok t st1
    | none => .err
  | _ => .err := by
  simp only [evC]
  cases ev L c st with
  | err => rfl
  | exc _ _ _ => rfl
  | ok d k st1 =>
    dsimp only
    cases truthD d with
    | none => rfl
    | some t => cases t <;> rfl
/-- one turn -/
theorem mid_turn {W3 : Wd} {tg : Tg} {cs : List Ex} {e : Ex} {items : List D} {ys : List (D × Bool)} {stE : S} {i : Nat} {J : It} (hcs : cs.length ≤ 1) (htg : ∀ j ∈ tgs tg, j ∈ own) (hdo : disj own (mutss cs ++ muts e) = true) (hz : ys.length < sizeLine) (hp3 : W3.H p = none)
    (s3 : Sim K cl (wipe σ own) W3) (hst3 : ∀ j ∈ own, W3.st.get j = none) (g : Going K W3 (own ++ (mutss cs ++ muts e)) items J) (hi : i < items.length)
    (mid : Mid K cl L σ W3 (own ++ (mutss cs ++ muts e)) ((vars e).filter fun i => !own.contains i) own p (turnC L tg own cs e) items ys stE i H) {x : V} {H' : Hp} (y : J.yld i H x H') {Nx : Hp → Prop}
    (hN : ∀ H', Mid K cl L σ W3 (own ++ (mutss cs ++ muts e)) ((vars e).filter fun i => !own.contains i) own p (turnC L tg own cs e) items ys stE (i + 1) H' → Nx H') :
    gOf K tg x (wipe σ own) H' fun σ2 H2 => wipe σ2 own = wipe σ own ∧ trC K cl L cs σ2 H2 fun b H3 =>
      if b = true then trE K cl L nox e σ2 H3 fun y H4 => ∃ acc, H4 p = some (.lst acc) ∧ acc.length < sizeLine ∧ Nx (upd H4 p (.lst (acc ++ [y]))) else Nx H3 := by
  generalize hos : own ++ (mutss cs ++ muts e) = os at *
  generalize hvs : ((vars e).filter fun i => !own.contains i) = vs' at *
  have own_os : ∀ j ∈ own, j ∈ os := fun j h => by rw [← hos]; simp [h]
  have ms_os : ∀ j ∈ mutss cs ++ muts e, j ∈ os := fun j h => by rw [← hos]; exact List.mem_append.mpr (.inr h)
  obtain ⟨W1, ds, vs, G, st, zs, eH, s1, t1, est, hp, off, acc, lp, ey, hlen⟩ := mid
  subst eH
  obtain ⟨d, F, hd, hS, r, zF⟩ := g.yld i x H' t1.toStep hi y
  have ed : items.drop i = d :: items.drop (i + 1) := by
    rw [List.drop_eq_getElem_cons hi]
    have : items[i] = d := by
      rw [List.getElem?_eq_getElem hi] at hd
      exact Option.some.inj hd
    rw [this]
  rw [ed] at lp
  simp only [loopC] at lp
  cases hf : turnC L tg own cs e d st with
  | err => rw [hf] at lp; cases lp
  | exc _ _ _ => rw [hf] at lp; cases lp
  | ok ys1 st' =>
    rw [hf] at lp
    dsimp only at lp
    cases hl2 : loopC (turnC L tg own cs e) (items.drop (i + 1)) st' with
    | err => rw [hl2] at lp; cases lp
    | exc _ _ _ => rw [hl2] at lp; cases lp
    | ok zs' stE' =>
      rw [hl2] at lp
      dsimp only at lp
      cases lp
      unfold turnC at hf
      rw [← est] at hf
      have sw := s1.wit hS
      have tw : StepE os W1 (W1.wit H') := StepE.wit hS
      cases hb : bindT tg d false W1.st with
      | none => rw [hb] at hf; cases hf
      | some sb =>
        rw [hb] at hf
        dsimp only at hf
        refine bind_ok sw (Step.refl (ms := os)) (tmp_item r zF) (fun e => Bool.noConfusion e) hb fun σ2 W4 e4 h4 r4 z4 pl4 fs4 sm4 s4 t4 => ?_
        have hw2 : wipe σ2 own = wipe σ own := wipe_same sm4 htg
        refine ⟨hw2, ?_⟩
        have t4E : StepE os W1 W4 := by
          refine (tw.trans s1 sw ⟨t4, fun j hj => ?_⟩).mono fun j hj => by simpa using hj
          have hj' : ∀ k ∈ tgs tg, Pl.s j ≠ .s k := fun k hk e => by
            injection e with e
            exact hj (own_os j (e ▸ htg k hk))
          have := pl4 (.s j) hj'
          exact ⟨this.2, this.1⟩
        have sb_own : ∀ j ∈ own, sb.get j = none ∨ ∃ x, sb.get j = some (x, cf x) := fun j hj => by
          rcases bindT_get (j := j) hb with q | ⟨x, q⟩
          · refine .inl (q.trans ?_)
            rw [est, hide_get, if_pos hj]
          · exact .inr ⟨x, q⟩
        have ms_own : ∀ j ∈ own, j ∉ mutss cs ++ muts e := disj_of hdo
        -- behind the tests
        have cont : ∀ {W5 : Wd} {t : Bool} {st5 : S}, W5.st = st5 → Sim K cl σ2 W5 → StepE (mutss cs) W4 W5 → evC L cs sb = .ok t st5 →
            if t = true then trE K cl L nox e σ2 W5.H fun y H4 => ∃ acc, H4 p = some (.lst acc) ∧ acc.length < sizeLine ∧ Nx (upd H4 p (.lst (acc ++ [y]))) else Nx W5.H := fun {W5 t st5} e5 s5 t5 hc => by
          subst e5
          rw [hc] at hf
          dsimp only at hf
          have t5os : StepE os W4 W5 := t5.mono fun j hj => ms_os j (List.mem_append.mpr (.inl hj))
          have t15 : StepE os W1 W5 := (t4E.trans s1 s4 t5os).mono fun j hj => by simpa using hj
          -- the world behind the turn, its own names forgotten
          have leave : ∀ {W6 : Wd}, Sim K cl σ2 W6 → StepE os W1 W6 → Sim K cl (wipe σ own) (W6.drops own) ∧ StepE os W1 (W6.drops own) ∧ StepE os W3 (W6.drops own) ∧ Off (W6.drops own) p ∧ (W6.drops own).H p = some (.lst vs) := fun {W6} s6 t6 => by
            have q1 := Sim.drops own s6
            have q2 : Sim K cl (wipe σ own) (W6.drops own) := by
              have := q1.wiped (os := own) fun j hj => by rw [drops_st, hide_get, if_pos hj]
              rw [hw2] at this
              exact this
            have q3 : StepE os W1 (W6.drops own) := (t6.trans s1 s6 (StepE.drops own s6 own_os)).mono fun j hj => by simpa using hj
            exact ⟨q2, q3, (t1.trans s3 s1 q3).mono fun j hj => by simpa using hj, off.step q3.toStep, off.same q3.toStep hp⟩
          cases t with
          | false =>
            rw [if_neg Bool.false_ne_true] at hf ⊢
            cases hf
            refine hN _ ?_
            obtain ⟨q1, q2, q3, q4, q5⟩ := leave s5 t15
            exact ⟨W5.drops own, ds, vs, G, W5.st, zs', (drops_same own W5).1, q1, q3, drops_st own W5, q5, q4, acc.step s1 q2, hl2, by simpa using ey, by rw [s5.ln, s3.ln, ← wipe_length σ2 own, hw2]⟩
          | true =>
            rw [if_pos rfl] at hf ⊢
            refine ⟨W5, rfl, s5, ?_⟩
            cases he : ev L e W5.st with
            | err => rw [he] at hf; cases hf
            | exc _ _ _ => rw [he] at hf; cases hf
            | ok yv ky st6 =>
              rw [he] at hf
              dsimp only at hf
              split at hf
              · rename_i hd2
                cases hf
                intro W6 v F6 e6 s6 t6 m6 f6
                subst e6
                have t6os : StepE os W5 W6 := t6.mono fun j hj => ms_os j (List.mem_append.mpr (.inr hj))
                have t16 : StepE os W1 W6 := (t15.trans s1 s5 t6os).mono fun j hj => by simpa using hj
                obtain ⟨q1, q2, q3, q4, q5⟩ := leave s6 t16
                have off6 : Off W6 p := off.step t16.toStep
                have hp6 : W6.H p = some (.lst vs) := off.same t16.toStep hp
                have lt : ds.length < ys.length := by rw [← ey]; simp
                refine ⟨vs, hp6, by rw [← acc.len]; omega, hN _ ?_⟩
                have get6 : ∀ j ∈ own, W6.st.get j = none ∨ ∃ x, W6.st.get j = some (x, cf x) := fun j hj => by
                  have n1 := ms_own j hj
                  have e1 := (t6.eq j fun z => n1 (List.mem_append.mpr (.inr z))).1
                  have e2 := (t5.eq j fun z => n1 (List.mem_append.mpr (.inl z))).1
                  rw [e1, e2, e4]
                  exact sb_own j hj
                have m7 := m6.inner s6 get6
                rw [hvs] at m7
                have off5 : Off W5 p := off.step t15.toStep
                have hpF : p ∉ F6 := fun z => by
                  cases hk : ky with
                  | true =>
                    rcases f6 hk p z with w | ⟨r', _, _, w⟩
                    · exact off5.nn w
                    · exact off5.nf r' w
                  | false =>
                    rcases m6.sh hk p z with w | ⟨j, _, w⟩
                    · exact off6.nz w
                    · exact off6.nf _ w
                have hfrom : ky = true → ∀ a ∈ F6, From W3 os a := fun hk a ma =>
                  ((f6 hk a ma).back s3 s5 ((t1.trans s3 s1 t15).mono (ns := os) fun j hj => by simpa using hj).toStep).mono fun j hj => by
                    rcases List.mem_append.mp hj with z | z
                    · exact z
                    · exact ms_os j (List.mem_append.mpr (.inr z))
                have hdj : ky = true → ∀ a ∈ F6, a ∉ G := fun hk a ma mG => by
                  have := (acc.step s1 t15).off a mG
                  rcases f6 hk a ma with w | ⟨r', _, _, w⟩
                  · exact this.1.ne w
                  · exact this.2 r' w
                have hvd : ky = true ∨ disj vs' os = true := by
                  rcases Bool.or_eq_true_iff.mp hd2 with z | z
                  · exact .inl z
                  · refine .inr ?_
                    unfold disj
                    rw [List.all_eq_true]
                    intro j hj
                    rw [← hvs, List.mem_filter] at hj
                    have n1 : j ∉ mutss cs ++ muts e := disj_of z j hj.1
                    have n2 : j ∉ own := by simpa using hj.2
                    have : j ∉ os := by rw [← hos]; exact fun w => (List.mem_append.mp w).elim n2 n1
                    simpa using this
                have acc2 := (acc.step s1 q2).snoc m7 hvd hfrom hpF hdj
                have cp : Cel (W6.drops own).H p := .inl ⟨vs, q5⟩
                have e7 : (W6.drops own).H = W6.H := (drops_same own W6).1
                refine ⟨(W6.drops own).wit (upd (W6.drops own).H p (.lst (vs ++ [v]))), ds ++ [(yv, ky)], vs ++ [v], _, W6.st, zs', ?_, Sim.poke q1 cp q4.nf (fun h => h rfl), StepE.poke s3 q1 q3 hp3 q4.nf, drops_st own W6, upd_same, ⟨?_, q4.nz, q4.nf⟩, acc2.poke cp, hl2, by rw [← ey]; simp, ?_⟩
                · show upd (W6.drops own).H p _ = _
                  rw [e7]
                · show upd (W6.drops own).H p _ p ≠ none
                  rw [upd_same]; simp
                · rw [s6.ln, s3.ln, ← wipe_length σ2 own, hw2]
              · cases hf
        obtain rfl | ⟨c, rfl⟩ : cs = [] ∨ ∃ c, cs = [c] := by
          match cs, hcs with
          | [], _ => exact .inl rfl
          | [c], _ => exact .inr ⟨c, rfl⟩
          | _ :: _ :: _, h => simp at h
        · exact cont (t := true) (st5 := sb) e4 s4 StepE.refl (by simp only [evC])
        · refine ⟨W4, rfl, s4, ?_⟩
          rw [e4]
          unfold evB
          rw [evC_one] at hf
          cases h1 : ev L c sb with
          | err => rw [h1] at hf; cases hf
          | exc _ _ _ => rw [h1] at hf; cases hf
          | ok dc kc st5 =>
            rw [h1] at hf
            dsimp only at hf ⊢
            cases h2 : truthD dc with
            | none => rw [h2] at hf; cases hf
            | some t =>
              intro W5 e5 s5 t5
              refine cont e5 s5 (t5.mono fun j hj => by simpa [mutss] using hj) ?_
              rw [evC_one, h1]
              dsimp only
              rw [h2]
end
end VS

-- VS.Comp4
/-! Comprehensions: from the small language. -/
namespace VS
open PySem PySem.Spec PyProof.Rows L2

section
variable {K : PySem.W.Frag} {cl : String → Addr → Prop} {L : Lk} {σ σ1 : L2.St} {Wx : WX} {W0 W W1 W2 : Wd} {ms ns os own : List Nat} {H : Hp} {p : Addr} {Q : VK}
theorem disj_app {us ps qs : List Nat} (h : disj us (ps ++ qs) = true) : disj us ps = true ∧ disj us qs = true := by
  unfold disj at h ⊢
  simp only [List.all_eq_true] at h ⊢
  refine ⟨fun i hi => ?_, fun i hi => ?_⟩
  · have := h i hi; simp at this; simp [this.1]
  · have := h i hi; simp at this; simp [this.2]
theorem stuck_z (s : Sim K cl σ W) {us : List Nat} (h : W.st.stuck us = true) : ∀ i ∈ us, ∀ a ∈ W.Fs (.s i), W.Z a := fun i hi a ma => by
  have := List.all_eq_true.mp h i hi
  cases e : W.st.get i with
  | none => rw [s.non (.s i) e] at ma; cases ma
  | some q =>
    obtain ⟨d, k⟩ := q
    cases k with
    | false => exact s.frz (.s i) d e a ma
    | true =>
      rw [e] at this
      obtain ⟨v, _, r⟩ := s.rd (.s i) d true e
      obtain ⟨e', _⟩ := r.flat (o' := true) this
      rw [e'] at ma; cases ma
theorem flat_fs (s : Sim K cl σ W) (h : W.st.flatAt own = true) : ∀ i ∈ own, W.Fs (.s i) = [] := fun i hi => by
  have := List.all_eq_true.mp h i hi
  cases e : W.st.get i with
  | none => exact s.non (.s i) e
  | some q =>
    obtain ⟨d, k⟩ := q
    rw [e] at this
    obtain ⟨v, _, r⟩ := s.rd (.s i) d k e
    exact (r.flat (o' := true) this).1
theorem mc_drops {a : Addr} (m : Mc (W.drops own) (own ++ ms) a) : Mc W ms a := by
  obtain ⟨r, q, ⟨d, o⟩, h⟩ := m
  have h' := drops_sub h
  rw [drops_at] at o
  split at o
  · cases o
  · rename_i n
    refine ⟨r, ?_, ⟨d, o⟩, h'⟩
    cases r with
    | s i =>
      rcases List.mem_append.mp (show i ∈ own ++ ms from q) with z | z
      · exact absurd ⟨i, z, rfl⟩ n
      · exact z
    | f _ _ => trivial
theorem tr_comp {tg : Tg} {kind : Nat} {a b : Ex} {cs : List Ex} {e : Ex} (hk5 : kind < 5) (ha : isIo a = false) (hb : isIo b = false) (h2 : twoI kind = false → b = .con .non) (hcs : cs.length ≤ 1)
    (h : trE K cl L Wx (.comp own tg kind a b cs e) σ H Q) : tLc (trI K cl L Wx kind a b) (gOf K tg) (trC K cl L cs) (trE K cl L nox e) own σ H Q := by
  obtain ⟨W, eH, s, hgo⟩ := h
  refine tr_iter (msb := own ++ (mutss cs ++ muts e)) hk5 ha hb h2 eH s ?_
  unfold GoI
  simp only [ev] at hgo
  simp only [muts, vars] at hgo
  cases h1 : ev L a W.st with
  | err => rw [h1] at hgo; exact hgo
  | exc c fs st' => rw [h1] at hgo; exact PostEx.sub hgo fun i h => by simp only [List.mem_append] at h ⊢; rcases h with h | h <;> simp [h]
  | ok d1 k1 st1 =>
    rw [h1] at hgo
    dsimp only at hgo ⊢
    cases h3 : ev L b st1 with
    | err => rw [h3] at hgo; exact hgo
    | exc c fs st' => rw [h3] at hgo; exact hgo
    | ok d2 k2 st2 =>
      rw [h3] at hgo
      dsimp only at hgo ⊢
      cases h4 : itemsOf kind d1 d2 with
      | none => rw [h4] at hgo; exact hgo
      | some items =>
        rw [h4] at hgo
        dsimp only at hgo ⊢
        split at hgo
        · rename_i hc
          simp only [Bool.and_eq_true, Bool.or_eq_true] at hc
          obtain ⟨⟨⟨c0, c1⟩, c2⟩, ⟨cf1, cdj⟩, ctg⟩ := hc
          have htg : ∀ j ∈ tgs tg, j ∈ own := fun j hj => by simpa using List.all_eq_true.mp ctg j hj
          refine ⟨by rcases c1 with c1 | c1; simp [c1]; simp [(disj_app c1).1], ?_⟩
          intro W2 v1 v2 F1 F2 e2 s2 t2 m1 m2 f1 f2
          subst e2
          change Go K cl σ Wx W _ _ (match loopC (turnC L tg own cs e) items W2.st with
            | .ok ys st3 => if ys.length < sizeLine then Rv.ok (.lst (ys.map (·.1))) (ys.all (·.2)) (st3.restore W2.st own) else .err
            | _ => .err) Q at hgo
          have hd1 : k1 = true ∨ disj (vars a) (mutss cs ++ muts e) = true := c1.imp id fun c => (disj_app c).2
          have hd2 : k2 = true ∨ disj (vars b) (mutss cs ++ muts e) = true := c2
          have zz1 : cfs items = true ∨ k1 = true ∨ ∀ i ∈ vars a, ∀ c ∈ W2.Fs (.s i), W2.Z c := c0.imp id fun c => .inr (stuck_z s2 c.1)
          have zz2 : cfs items = true ∨ k2 = true ∨ ∀ i ∈ vars b, ∀ c ∈ W2.Fs (.s i), W2.Z c := c0.imp id fun c => .inr (stuck_z s2 c.2)
          have hF : ∀ c ∈ F1 ++ F2, W2.H c ≠ none := fun c mc => by
            rcases List.mem_append.mp mc with mc | mc
            · exact (m1.rd.cel c mc).ne
            · exact (m2.rd.cel c mc).ne
          have H1 := m1.held (G := F1 ++ F2) s2 hd1 zz1 (fun c m => by simp [m])
          have H2 := m2.held (G := F1 ++ F2) s2 hd2 zz2 (fun c m => by simp [m])
          have s2i : Sim K cl σ (W2.ice (F1 ++ F2)) := s2.ice hF
          have t2i : StepE (muts a ++ muts b) W (W2.ice (F1 ++ F2)) := t2.ice fun c mc hn => by
            rcases List.mem_append.mp mc with mc | mc
            · cases hk : k1 with
              | true => exact .inr (f1 hk c mc)
              | false => exact (m1.sh hk c mc).elim .inl fun ⟨i, _, w⟩ => absurd w (hn _)
            · cases hk : k2 with
              | true => exact .inr (f2 hk c mc)
              | false => exact (m2.sh hk c mc).elim .inl fun ⟨i, _, w⟩ => absurd w (hn _)
          have e2i : (W2.ice (F1 ++ F2)).st = W2.st := rfl
          have H2i : (W2.ice (F1 ++ F2)).H = W2.H := rfl
          generalize hW : W2.ice (F1 ++ F2) = Wi at s2i t2i H1 H2 e2i H2i
          have cf1' : Wi.st.flatAt own = true := by rw [e2i]; exact cf1
          obtain ⟨d1', d2', d3'⟩ := drops_same own Wi
          have non3 : ∀ j ∈ own, (Wi.drops own).st.get j = none := fun j hj => by rw [drops_st, hide_get, if_pos hj]
          have s3 : Sim K cl (wipe σ own) (Wi.drops own) := (Sim.drops own s2i).wiped non3
          have held : ∀ {z d v}, Held K Wi (mutss cs ++ muts e) z d v → Held K (Wi.drops own) (own ++ (mutss cs ++ muts e)) z d v := fun {z d v} ⟨F, r, n, hz⟩ =>
            ⟨F, by rw [d1', d2']; exact r, fun c mc m => n c mc (mc_drops m), hz.imp id fun h c mc => by rw [d3']; exact h c mc⟩
          refine ⟨Wi.drops own, cfs items, wipe σ own, by rw [d1', H2i], s3, held H1, held H2, id, fun J g p hp => ?_⟩
          cases hl : loopC (turnC L tg own cs e) items W2.st with
          | err => rw [hl] at hgo; exact hgo.elim
          | exc _ _ _ => rw [hl] at hgo; exact hgo.elim
          | ok ys stE =>
            rw [hl] at hgo
            dsimp only at hgo
            split at hgo
            · rename_i hz
              have hp3 : (Wi.drops own).H p = none := by rw [d1', H2i]; exact hp
              have mid0 : Mid K cl L σ (Wi.drops own) (own ++ (mutss cs ++ muts e)) ((vars e).filter fun i => !own.contains i) own p (turnC L tg own cs e) items ys stE 0 (upd W2.H p (.lst [])) := by
                refine ⟨(Wi.drops own).put p (.lst []), [], [], [], W2.st, ys, ?_, s3.put hp3, StepE.put hp3, ?_, upd_same, ⟨?_, fun z => s3.zt p z hp3, fun r z => (s3.cel z).ne hp3⟩, .nil, by simpa using hl, rfl, ?_⟩
                · show upd (Wi.drops own).H p _ = _
                  rw [d1', H2i]
                · show (Wi.drops own).st = _
                  rw [drops_st, e2i]
                · show upd _ p _ p ≠ none
                  rw [upd_same]; simp
                · rw [drops_st, hide_len, e2i]
              refine ⟨fun i m H => m = items.length - i ∧ i ≤ items.length ∧ Mid K cl L σ (Wi.drops own) (own ++ (mutss cs ++ muts e)) ((vars e).filter fun i => !own.contains i) own p (turnC L tg own cs e) items ys stE i H, ⟨items.length - 0, rfl, Nat.zero_le _, mid0⟩, ?_⟩
              rintro i m H' ⟨hm, hi, mid⟩
              by_cases hlt : i < items.length
              · have go : J.go i H' := by
                  obtain ⟨W1, ds, vs, G, st, zs, eH1, s1, t1, _⟩ := mid
                  subst eH1
                  exact g.go i t1.toStep hlt
                exact .inr ⟨go, fun H'' => items.length - (i + 1) = items.length - (i + 1) ∧ i + 1 ≤ items.length ∧ Mid K cl L σ (Wi.drops own) (own ++ (mutss cs ++ muts e)) ((vars e).filter fun i => !own.contains i) own p (turnC L tg own cs e) items ys stE (i + 1) H'', fun H'' q => ⟨items.length - (i + 1), by omega, q⟩,
                  fun x H'' y => mid_turn hcs htg cdj hz hp3 s3 non3 g hlt mid y fun H3 q => ⟨rfl, hlt, q⟩⟩
              · have ei : i = items.length := by omega
                subst ei
                obtain ⟨W1, ds, vs, G, st, zs, eH1, s1, t1, est, hpl, off, acc, lp, ey, hlen⟩ := mid
                subst eH1
                refine .inl ⟨g.stop t1.toStep, ?_⟩
                rw [List.drop_length] at lp
                cases lp
                rw [List.append_nil] at ey
                subst ey
                have hls : stE.sl.length = W2.st.sl.length := by rw [hlen, drops_st, hide_len, e2i]
                have hlsi : stE.sl.length = Wi.st.sl.length := by rw [e2i]; exact hls
                have s6 := Sim.unblock s2i cf1' s3 ⟨d1', d2'⟩ s1 t1.toStep est hlsi
                have emp := flat_fs s2i cf1'
                have t6i : StepE (mutss cs ++ muts e) Wi { W1 with st := stE.restore Wi.st own } := by
                  refine ⟨⟨?_, fun c o ec n m => ?_, fun c h => ?_, fun r c mc => ?_, fun c z => ?_, fun c z => ?_⟩, fun i hi => ⟨?_, ?_⟩⟩
                  · have := t1.rho
                    rw [d2'] at this
                    exact this
                  · exact t1.keep c o (by rw [d1']; exact ec) n fun z => m (mc_drops z)
                  · exact t1.there c (by rw [d1']; exact h)
                  · rcases t1.fs r c mc with z | z | z | z
                    · exact .inl z
                    · exact .inr (.inl (drops_sub z))
                    · exact .inr (.inr (.inl (mc_drops z)))
                    · rw [d1'] at z; exact .inr (.inr (.inr z))
                  · exact t1.zz c (by rw [d3']; exact z)
                  · rcases t1.zn c z with w | w | ⟨r, w⟩
                    · rw [d3'] at w; exact .inl w
                    · rw [d1'] at w; exact .inr (.inl w)
                    · exact .inr (.inr ⟨r, drops_sub w⟩)
                  · show (stE.restore Wi.st own).get i = _
                    rw [restore_get own _ _ _ hlsi]
                    split
                    · rfl
                    · rename_i no
                      have := (t1.eq i fun z => (List.mem_append.mp z).elim no hi).1
                      rw [est, hide_get, if_neg no, drops_st, hide_get, if_neg no] at this
                      exact this
                  · show W1.Fs (.s i) = _
                    by_cases ho : i ∈ own
                    · rw [emp i ho]
                      refine s1.non (.s i) ?_
                      show W1.st.get i = none
                      rw [est, hide_get, if_pos ho]
                    · have := (t1.eq i fun z => (List.mem_append.mp z).elim ho hi).2
                      rw [drops_fs, if_neg] at this
                      · exact this
                      · rintro ⟨j, hj, e⟩
                        injection e with e
                        exact ho (e ▸ hj)
                have t6 : StepE (muts a ++ (muts b ++ (mutss cs ++ muts e))) W { W1 with st := stE.restore Wi.st own } := (t2i.trans s s2i t6i).mono fun i h => by simpa [List.append_assoc] using h
                have frm : ∀ c, From (Wi.drops own) (own ++ (mutss cs ++ muts e)) c → From W (muts a ++ (muts b ++ (mutss cs ++ muts e))) c := fun c h => by
                  have h' : From Wi (mutss cs ++ muts e) c := by
                    rcases h with h | h
                    · rw [d1'] at h; exact .inl h
                    · exact .inr (mc_drops h)
                  exact (h'.back s s2i t2i.toStep).mono fun i h => by simpa [List.append_assoc] using h
                have fp : From W (muts a ++ (muts b ++ (mutss cs ++ muts e))) p := .inl (t2.toStep.free hp)
                have hgo : PostOk K cl σ W (muts a ++ (muts b ++ (mutss cs ++ muts e))) (vars a ++ (vars b ++ vars e)) (.lst (ds.map (·.1))) (ds.all (·.2)) (stE.restore W2.st own) Q := hgo
                have e6 : ({ W1 with st := stE.restore Wi.st own } : Wd).st = stE.restore W2.st own := by show stE.restore Wi.st own = _; rw [e2i]
                have off6 : Off { W1 with st := stE.restore Wi.st own } p := ⟨off.nn, off.nz, off.nf⟩
                cases hall : ds.all (·.2) with
                | true =>
                  rw [hall] at hgo
                  obtain ⟨r, nd, nz, nf, np⟩ := acc.own hall
                  refine hgo { W1 with st := stE.restore Wi.st own } (.ref p) (p :: G) e6 s6 t6 ⟨.lst hpl r, fun _ => List.nodup_cons.mpr ⟨np, nd⟩, fun _ c m => ?_, fun _ c m => ?_, fun e => Bool.noConfusion e⟩ fun _ c m => ?_
                  · rcases List.mem_cons.mp m with q | q
                    · rw [q]; exact off.nz
                    · exact nz c q
                  · rcases List.mem_cons.mp m with q | q
                    · rw [q]; exact off.nf
                    · exact nf c q
                  · rcases List.mem_cons.mp m with q | q
                    · rw [q]; exact fp
                    · exact frm c (acc.from_ c q)
                | false =>
                  rw [hall] at hgo
                  obtain ⟨F, r, np, hF'⟩ := acc.ins
                  have lst : VS.Rd K W1.ρ W1.H false (.lst (ds.map (·.1))) (.ref p) (p :: F) := .lst hpl r
                  refine hgo (Wd.ice { W1 with st := stE.restore Wi.st own } (p :: F)) (.ref p) (p :: F) e6 (s6.ice fun c m => (lst.cel c m).ne) (t6.ice fun c m hn => ?_) ⟨lst, fun e => Bool.noConfusion e, fun e => Bool.noConfusion e, fun e => Bool.noConfusion e, fun _ c m => ?_⟩ fun e => Bool.noConfusion e
                  · rcases List.mem_cons.mp m with q | q
                    · rw [q]; exact .inr fp
                    · rcases hF' c q with w | ⟨i, _, w⟩ | ⟨_, w⟩
                      · exact .inl w
                      · exact absurd w (hn _)
                      · exact .inr (frm c w)
                  · rcases List.mem_cons.mp m with q | q
                    · rw [q]; exact .inl (.inr ⟨by simp, off.nf⟩)
                    · rcases hF' c q with w | ⟨i, hi, w⟩ | ⟨w, _⟩
                      · exact .inl (.inl w)
                      · refine .inr ⟨i, ?_, w⟩
                        simp only [List.mem_append]
                        exact .inr (.inr (List.mem_filter.mp hi).1)
                      · exact .inl (.inr ⟨by simp [q], w⟩)
            · exact hgo.elim
        · exact hgo.elim
end
end VS

-- VS.Mut3
/-! Changes by statements. -/
namespace VS
open PySem PySem.Spec PyProof.Rows L2
section
variable {K : PySem.W.Frag} {cl : String → Addr → Prop} {L : Lk} {σ σ0 σ1 : L2.St} {Wx : WX} {W0 W W1 : Wd} {ms vs : List Nat} {Q : VK} {H : Hp}
/-- what the owner does at a path -/
theorem change_ok {α : Type} {f : D → Option (D × α)} {i : Nat} {path : List (List Nat)} {d d' : D} {x : α} (s0 : Sim K cl σ0 W0) (s : Sim K cl σ W) (t : Step ms W0 W) (hi : W.st.get i = some (d, true)) (h : atPath f path d = some (d', x)) :
    ∃ v u e e' Fe, σ[i]? = some (some v) ∧ PathV W.H v path u ∧ VS.Rd K W.ρ W.H true e u Fe ∧ Fe.Nodup ∧ (∀ b ∈ Fe, b ∈ W.Fs (.s i)) ∧ f e = some (e', x) ∧
      ∀ (a : Addr) (o : HO) kk Fe', a ∈ Fe → Cel (upd W.H a o) a → VS.Rd K W.ρ (upd W.H a o) kk e' u Fe' → (kk = true → Fe'.Nodup) →
        (∀ b ∈ Fe', b ∈ Fe ∨ (kk = true ∧ W.H b ≠ none ∧ ¬ W.Z b ∧ (∀ p, b ∉ W.Fs p) ∧ From W0 ms b) ∨ (kk = false ∧ W.Z b)) →
        ∃ W', W'.st = W.st.set i (some (d', kk)) ∧ W'.H = upd W.H a o ∧ Sim K cl σ W' ∧ Step (ms ++ [i]) W0 W' := by
  obtain ⟨v, u, e, e', pre, Fe, post, hv, hp, hr, hF, hf, nd, hback⟩ := place s hi h
  have sub : ∀ b ∈ Fe, b ∈ W.Fs (.s i) := fun b hb => by rw [hF]; simp [hb]
  obtain ⟨n1, n2, n3⟩ := List.nodup_append.mp nd
  obtain ⟨m1, m2, m3⟩ := List.nodup_append.mp n1
  refine ⟨v, u, e, e', Fe, hv, hp, hr, m2, sub, hf, fun a o kk Fe' ha ho hr' hnd hcs => ?_⟩
  have r := hback a o kk Fe' (hr.cel a ha) ha hr'
  have hpre : ∀ b ∈ pre, b ∈ W.Fs (.s i) := fun b hb => by rw [hF]; simp [hb]
  have hpost : ∀ b ∈ post, b ∈ W.Fs (.s i) := fun b hb => by rw [hF]; simp [hb]
  have cs : ∀ b ∈ pre ++ Fe' ++ post, b ∈ W.Fs (.s i) ∨ (kk = true ∧ W.H b ≠ none ∧ ¬ W.Z b ∧ (∀ p, b ∉ W.Fs p) ∧ From W0 ms b) ∨ (kk = false ∧ W.Z b) := fun b hb => by
    rcases List.mem_append.mp hb with hb | hb
    · rcases List.mem_append.mp hb with hb | hb
      · exact .inl (hpre b hb)
      · exact (hcs b hb).imp (sub b) id
    · exact .inl (hpost b hb)
  have nd' : kk = true → (pre ++ Fe' ++ post).Nodup := fun hk => by
    refine List.nodup_append.mpr ⟨List.nodup_append.mpr ⟨m1, hnd hk, fun b hb c hc e => ?_⟩, n2, fun b hb c hc e => ?_⟩
    · subst e
      rcases hcs b hc with w | ⟨_, _, _, w, _⟩ | ⟨w, _⟩
      · exact m3 b hb b w rfl
      · exact w _ (hpre b hb)
      · rw [hk] at w; cases w
    · subst e
      rcases List.mem_append.mp hb with hb | hb
      · exact n3 b (by simp [hb]) b hc rfl
      · rcases hcs b hb with w | ⟨_, _, _, w, _⟩ | ⟨w, _⟩
        · exact n3 b (by simp [w]) b hc rfl
        · exact w _ (hpost b hc)
        · rw [hk] at w; cases w
  refine ⟨W.chg i (some (d', kk)) a o (pre ++ Fe' ++ post) fun b => kk = false ∧ b ∈ pre ++ Fe' ++ post, rfl, rfl, Sim.chg s hi hv (sub a ha) ho r nd' fun b hb => ?_, Step.chg s0 s t hi (sub a ha) ho fun b hb => ?_⟩
  · rcases cs b hb with w | ⟨w1, w2, w3, w4, _⟩ | w
    · exact .inl w
    · exact .inr (.inl ⟨w1, w2, w3, w4⟩)
    · exact .inr (.inr w)
  · rcases cs b hb with w | ⟨w1, _, _, _, w5⟩ | w
    · exact .inl w
    · exact .inr (.inl ⟨w1, w5⟩)
    · exact .inr (.inr w)
theorem DGet.dK {H : Hp} {a : Addr} {k : L2.Key} {u : V} {kvs} (h : H a = some (.dK kvs)) (g : DGet H a (kV k) (some u)) : valV kvs k = some u := by
  rcases g with ⟨kvs', k', r', e', q'⟩ | ⟨kvs', k', b', _, e', _⟩
  · have ek : k = k' := kV_inj e'
    subst ek
    rcases r' with r' | ⟨o, r'⟩
    · rw [h] at r'; cases r'; exact q'.symm
    · rw [h] at r'; cases r'
  · cases k <;> cases e'
/-- a path goes on to lead there while its cells stay -/
theorem PathV.keep {α : Type} {f : D → Option (D × α)} {ρ : List Addr} {H H' : Hp} : ∀ {path : List (List Nat)} {d v F d' x u}, PathV H v path u → VS.Rd K ρ H true d v F → atPath f path d = some (d', x) → (∀ a ∈ F, H' a = H a) → PathV H' v path u
  | [], _, _, _, _, _, _, h, _, _, _ => by cases h; exact .nil
  | k :: path, d, v, F, d', x, u, h, r, ha, hk => by
    cases h with
    | @cons a _ u1 _ _ g h1 =>
      cases r with
      | @dct _ _ kvs ps F0 hd e n t =>
        simp only [atPath] at ha
        cases hv : valD ps (.inr (q k)) with
        | none => rw [hv] at ha; cases ha
        | some d1 =>
          rw [hv] at ha
          dsimp only at ha
          obtain ⟨⟨d2, x'⟩, h3, h4⟩ := Option.map_eq_some_iff.mp ha
          obtain ⟨u2, pre, Fe, post, g1, g2, g3, _⟩ := one_of e t hv
          have g' := DGet.dK (k := .inr (q k)) hd g
          rw [g1] at g'
          cases g'
          have hd' : H' a = some (.dK kvs) := (hk a (by simp)).trans hd
          refine .cons (by rw [← g1]; exact DGet.k (k := .inr (q k)) hd') (PathV.keep h1 g2 h3 fun b hb => hk b ?_)
          rw [g3]; simp [hb]
      | dctT _ _ _ _ => simp only [atPath] at ha; cases ha
      | tup _ _ => simp only [atPath] at ha; cases ha
      | lst _ _ => simp only [atPath] at ha; cases ha
      | obj _ => simp only [atPath] at ha; cases ha
theorem PathV.one {H : Hp} {v u u' : V} {path : List (List Nat)} (h : PathV H v path u) (h' : PathV H v path u') : u = u' := by
  induction h with
  | nil => cases h'; rfl
  | @cons a k r1 path w g _ ih =>
    cases h' with
    | @cons _ _ r2 _ _ g' h' =>
      have : r1 = r2 := by
        rcases g with ⟨kvs, k0, r, e, q0⟩ | ⟨kvs, k0, b, _, e, _⟩
        · rcases g' with ⟨kvs', k', r', e', q'⟩ | ⟨kvs', k', b', _, e', _⟩
          · have ek : k0 = k' := kV_inj (e.symm.trans e')
            have er : HO.dK kvs = HO.dK kvs' := by
              rcases r with r | ⟨o, r⟩ <;> rcases r' with r' | ⟨o', r'⟩ <;> rw [r] at r' <;> cases r' <;> rfl
            cases er
            rw [← ek, ← q0] at q'
            exact (Option.some.inj q').symm
          · cases e'
        · cases e
      subst this
      exact ih h'
end
end VS

-- VS.Mut4
/-! append, extend, name op= e. -/
namespace VS
open PySem PySem.Spec PyProof.Rows L2
section
variable {K : PySem.W.Frag} {cl : String → Addr → Prop} {L : Lk} {σ σ0 σ1 : L2.St} {Wx : WX} {W0 W W1 : Wd} {ms vs : List Nat} {Q : VK} {H : Hp} {E : Ends} {J : Nat → Prop}
theorem Rds.snoc {kk : Bool} {ρ H} {xs : List D} {vs G} (r : Rds K ρ H kk xs vs G) {d v F} (m : VS.Rd K ρ H kk d v F) : Rds K ρ H kk (xs ++ [d]) (vs ++ [v]) (G ++ F) := by
  have := Rds.append r (Rds.cons m .nil)
  simpa using this
/-- a list that stands at a place -/
theorem lst_at (s : Sim K cl σ W) {i : Nat} {path : List (List Nat)} (h : lstAt W.st i path = true) : ∃ d v u, W.st.get i = some (d, true) ∧ σ[i]? = some (some v) ∧ PathV W.H v path u ∧ tyV K "list" u W.H := by
  unfold lstAt at h
  cases hi : W.st.get i with
  | none => rw [hi] at h; cases h
  | some p =>
    obtain ⟨d, k⟩ := p
    rw [hi] at h
    cases k with
    | false => cases h
    | true =>
      dsimp only at h
      cases ha : atPath asLst path d with
      | none => rw [ha] at h; cases h
      | some q =>
        obtain ⟨d', x⟩ := q
        obtain ⟨v, u, e, e', pre, Fe, post, hv, hp, hr, _, hf, _⟩ := place s hi ha
        refine ⟨d, v, u, rfl, hv, hp, ?_⟩
        cases e with
        | lst xs =>
          cases hr with
          | lst ha _ => exact .inl ⟨rfl, _, SqL.of ha⟩
        | non => cases hf
        | bl _ => cases hf
        | int _ => cases hf
        | str _ => cases hf
        | tup _ => cases hf
        | dct _ => cases hf
        | dctT _ => cases hf
        | obj _ => cases hf
/-- an owned place stays while it is not changed -/
theorem own_stays (s : Sim K cl σ W) {i : Nat} {d : D} (hi : W.st.get i = some (d, true)) (t : Step ms W W1) (hn : i ∉ ms) : ∀ a ∈ W.Fs (.s i), W1.H a = W.H a := fun a ma => by
  refine t.cell (s.cel ma) fun ⟨p, q, o, w⟩ => ?_
  have e := Own.one s o (r := .s i) ⟨d, hi⟩ w ma
  subst e
  exact hn q
theorem path_stays {α : Type} {f : D → Option (D × α)} (s : Sim K cl σ W) {i : Nat} {d d' : D} {x : α} {v u : V} {path : List (List Nat)} (hi : W.st.get i = some (d, true)) (hv : σ[i]? = some (some v)) (hp : PathV W.H v path u) (ha : atPath f path d = some (d', x)) (t : Step ms W W1) (hn : i ∉ ms) : PathV W1.H v path u := by
  obtain ⟨v', hv', r⟩ := s.rd (.s i) d true hi
  have hv2 : σ[i]? = some (some v') := hv'
  rw [hv] at hv2
  cases hv2
  exact hp.keep r ha (own_stays s hi t hn)
theorem ts_app {i : Nat} {path : List (List Nat)} {e : Ex} (he : isIo e = false) (h : trS K cl L Wx J (.app i path e) E σ H) : tDrop (tBM K "list" rAppend (tPl i path) (trA K cl L Wx [e])) E σ H := by
  obtain ⟨W, eH, s, hgo⟩ := h
  simp only [exec] at hgo
  simp only [mutsM] at hgo
  split at hgo
  · rename_i hc
    simp only [Bool.and_eq_true, Bool.not_eq_true'] at hc
    obtain ⟨hl, hn⟩ := hc
    have hn' : i ∉ muts e := by simpa using hn
    obtain ⟨d, v, u, hi, hv, hp, ty⟩ := lst_at s hl
    refine ⟨v, u, hv, by rw [← eH]; exact hp, by rw [← eH]; exact ty, W, eH, s, ?_⟩
    simp only [evs_one, mutss, List.append_nil]
    cases h1 : ev L e W.st with
    | err => rw [h1] at hgo; exact hgo
    | exc c fs st' => rw [h1] at hgo; exact PostX.ex hgo fun j hj => by simp [hj]
    | ok dv k st1 =>
      rw [h1] at hgo
      dsimp only at hgo ⊢
      intro W1 ws G0 e1 s1 t1 m1
      subst e1
      obtain ⟨y, F, rfl, m, f⟩ := m1.one he
      have hi1 : W1.st.get i = some (d, true) := ((t1.eq i hn').1).trans hi
      have st2 : (W1.keep k (vars e)).st = W1.st.keep k (vars e) := keep_st
      have s2 := s1.kept k (vars e)
      have t2 : Step (muts e) W (W1.keep k (vars e)) := (t1.toStep.trans s s1 (Step.kept (ms := []) k (vars e) W1)).mono fun i h => by simpa using h
      have m2 := m.kept s1
      obtain ⟨eH2, eρ2, eF2⟩ := keep_same (W := W1) (k := k) (vs := vars e)
      generalize W1.keep k (vars e) = W2 at st2 s2 t2 m2 eH2 eρ2 eF2
      rw [← st2] at hgo
      unfold change at hgo
      cases hi2 : W2.st.get i with
      | none => rw [hi2] at hgo; exact hgo.elim
      | some q =>
        obtain ⟨d2, k2⟩ := q
        rw [hi2] at hgo
        cases k2 with
        | false => exact hgo.elim
        | true =>
          dsimp only at hgo
          cases ha : atPath (appD dv) path d2 with
          | none => rw [ha] at hgo; exact hgo.elim
          | some q =>
            obtain ⟨d3, x⟩ := q
            rw [ha] at hgo
            dsimp only [Option.map] at hgo
            obtain ⟨v', u', e0, e', Fe, hv', hp', hr, nd, sub, hf, hch⟩ := change_ok s s2 t2 hi2 ha
            rw [hv] at hv'
            cases hv'
            cases e0 with
            | lst xs =>
              simp only [appD] at hf
              split at hf
              · rename_i hz
                cases hf
                cases hr with
                | @lst _ a ws _ G hA hG =>
                  have hd2 : PathV W2.H v path u := by
                    have hl1 := hl
                    unfold lstAt at hl1
                    rw [hi] at hl1
                    dsimp only at hl1
                    cases h0 : atPath asLst path d with
                    | none => rw [h0] at hl1; cases hl1
                    | some q0 => exact path_stays (f := asLst) (d' := q0.1) (x := q0.2) s hi hv hp h0 t2 hn'
                  have eu := hd2.one hp'
                  subst eu
                  have ca : Cel W2.H a := .inl ⟨_, hA⟩
                  have na : a ∉ G := (List.nodup_cons.mp nd).1
                  -- what is appended
                  obtain ⟨F', mm, fr⟩ : ∃ F', Tmp K W2 [] dv (k || cf dv) y F' ∧ ((k || cf dv) = true → ∀ b ∈ F', From W (muts e) b) := by
                    cases c : cf dv with
                    | true => exact ⟨[], m2.flat c, fun _ _ z => nomatch z⟩
                    | false => rw [Bool.or_false]; exact ⟨F, m2, f⟩
                  generalize (k || cf dv) = kk at mm fr hgo
                  have sh : kk = false → ∀ b ∈ F', W2.Z b := fun q b hb => by
                    rcases mm.sh q b hb with z | ⟨_, z, _⟩
                    · exact z
                    · cases z
                  have nF : a ∉ F' := fun z => by
                    have oa := sub a (by simp)
                    cases kk with
                    | true => exact mm.nf rfl a z _ oa
                    | false => exact s2.own (.s i) d2 hi2 a oa (sh rfl a z)
                  obtain ⟨W3, q1, q2, q3, q4⟩ := hch a (.lst (ws ++ [y])) kk (a :: (G ++ F')) (by simp) cel_lst (.lst upd_same (((hG.to kk).off ca na).snoc (mm.rd.off ca nF))) (fun q => by
                    refine List.nodup_cons.mpr ⟨fun z => (List.mem_append.mp z).elim na nF, List.nodup_append.mpr ⟨(List.nodup_cons.mp nd).2, mm.nd q, fun b hb c hc e => ?_⟩⟩
                    subst e
                    exact mm.nf q b hc _ (sub b (by simp [hb]))) (fun b hb => by
                    rcases List.mem_cons.mp hb with z | z
                    · exact .inl (by simp [z])
                    · rcases List.mem_append.mp z with z | z
                      · exact .inl (by simp [z])
                      · cases hk : kk with
                        | true => exact .inr (.inl ⟨rfl, (mm.rd.cel b z).ne, mm.nz hk b z, mm.nf hk b z, fr hk b z⟩)
                        | false => exact .inr (.inr ⟨rfl, sh hk b z⟩))
                  refine ⟨a, ws, y, rfl, rfl, by rw [← eH2]; exact hA, by rw [← hG.length]; exact hz, ?_⟩
                  have hgo : PostN K cl W (i :: muts e) J σ (W2.st.set i (some (d3, kk))) E.nx := hgo
                  have := hgo W3 σ q1 q3 (q4.mono fun j hj => by
                    simp only [List.mem_append, List.mem_cons, List.not_mem_nil, or_false] at hj ⊢
                    exact hj.symm) Pin.refl
                  rw [q2, eH2] at this
                  exact this
              · cases hf
            | non => cases hf
            | bl _ => cases hf
            | int _ => cases hf
            | str _ => cases hf
            | tup _ => cases hf
            | dct _ => cases hf
            | dctT _ => cases hf
            | obj _ => cases hf
  · exact hgo.elim
theorem ts_aug_add {i : Nat} {e : Ex} (hJ : ¬ J i) (h : trS K cl L Wx J (.aug i .add e) E σ H) : tAug i (trE K cl L Wx e) (ipI fun i j => i + j) E σ H := by
  obtain ⟨W, eH, s, hgo⟩ := h
  simp only [exec] at hgo
  simp only [mutsM] at hgo
  cases hi : W.st.get i with
  | none => rw [hi] at hgo; exact hgo.elim
  | some p =>
    obtain ⟨x, kx⟩ := p
    rw [hi] at hgo
    dsimp only at hgo
    obtain ⟨v, hv, r⟩ := s.rd (.s i) x kx hi
    refine ⟨v, hv, W, eH, s, ?_⟩
    cases h1 : ev L e W.st with
    | err => rw [h1] at hgo; exact hgo
    | exc c fs st' => rw [h1] at hgo; exact PostX.ex hgo fun i h => h
    | ok y k st1 =>
      rw [h1] at hgo
      dsimp only at hgo ⊢
      split at hgo
      · cases x <;> cases y <;> try exact hgo.elim
        rename_i a b
        dsimp only at hgo
        intro W1 w F e1 s1 t1 m1 f1
        subst e1
        have hv' : v = .int a := Rd.intV r
        refine ⟨a, b, hv', Rd.intV m1.rd, ?_⟩
        have lt : i < W1.st.sl.length := by
          rw [s1.ln, ← s.ln]
          exact S.get_lt hi
        have mm : Tmp K W1 [] (.int (a + b)) true (.int (a + b)) [] := Tmp.of_flat (k := true) .int rfl
        exact hgo (W1.bind i (.int (a + b)) true []) (σ.set i (some (.int (a + b)))) rfl (s1.bind lt mm) (t1.toStep.bind mm fun _ _ m => nomatch m) fun j hj => List.getElem?_set_ne fun z => hJ (by rw [z]; exact hj)
      · exact hgo.elim
theorem ts_aug_sub {i : Nat} {e : Ex} (hJ : ¬ J i) (h : trS K cl L Wx J (.aug i .sub e) E σ H) : tAug i (trE K cl L Wx e) (ipI fun i j => i - j) E σ H := by
  obtain ⟨W, eH, s, hgo⟩ := h
  simp only [exec] at hgo
  simp only [mutsM] at hgo
  cases hi : W.st.get i with
  | none => rw [hi] at hgo; exact hgo.elim
  | some p =>
    obtain ⟨x, kx⟩ := p
    rw [hi] at hgo
    dsimp only at hgo
    obtain ⟨v, hv, r⟩ := s.rd (.s i) x kx hi
    refine ⟨v, hv, W, eH, s, ?_⟩
    cases h1 : ev L e W.st with
    | err => rw [h1] at hgo; exact hgo
    | exc c fs st' => rw [h1] at hgo; exact PostX.ex hgo fun i h => h
    | ok y k st1 =>
      rw [h1] at hgo
      dsimp only at hgo ⊢
      split at hgo
      · cases x <;> cases y <;> try exact hgo.elim
        rename_i a b
        dsimp only at hgo
        intro W1 w F e1 s1 t1 m1 f1
        subst e1
        have hv' : v = .int a := Rd.intV r
        refine ⟨a, b, hv', Rd.intV m1.rd, ?_⟩
        have lt : i < W1.st.sl.length := by
          rw [s1.ln, ← s.ln]
          exact S.get_lt hi
        have mm : Tmp K W1 [] (.int (a - b)) true (.int (a - b)) [] := Tmp.of_flat (k := true) .int rfl
        exact hgo (W1.bind i (.int (a - b)) true []) (σ.set i (some (.int (a - b)))) rfl (s1.bind lt mm) (t1.toStep.bind mm fun _ _ m => nomatch m) fun j hj => List.getElem?_set_ne fun z => hJ (by rw [z]; exact hj)
      · exact hgo.elim
end
end VS

-- VS.Ext0
/-! A list grows by the members of a row that may have more to it than its members. -/
namespace VS
open PySem PySem.Builtin.List
theorem grow_tup (a : Addr) (us : Array Value) (k : Nat) (c : Addr) (ws : Array Value) (k2 : Nat) (dd : Option Addr) (ss : Array (Option Value)) (h1 : ¬(!us.isEmpty && Builtin.List.listTooLong (us.size + ws.size)) = true) (h2 : us.size ≤ sizeLine) (h3 : us.size + ws.size ≤ sizeLine + 1) :
    Meets (Builtin.«list.extend» ⟨[.ref a, .ref c], []⟩) (fun _ R s => s.heap.get? a = some { cls := .type "list", dict := none, data := .seq us k, slots := #[] } ∧ s.heap.get? c = some { cls := .type "tuple", dict := dd, data := .seq ws k2, slots := ss } ∧
      R (.ok (.ret Value.none)) { s with heap := s.heap.update a (Obj.mapSeq fun x => x ++ ws), toks := s.toks }) :=
  .of_wp fun prog w A R s h => by
    obtain ⟨hp, g, d, tk, os⟩ := s
    obtain ⟨ha, hc, hR⟩ := h
    have f1 := AutoSeq1.idx_int
    have f2 := AutoSeq1.sub_tuple_tuple
    have f3 := AutoSeq1.sub_list_list
    have f4 := AutoSeq1.sub_tuple_list
    have f5 := AutoSeq1.sub_list_tuple
    have fits : (us ++ ws).size ≤ sizeLine + 1 := by rw [Array.size_append]; exact h3
    wp_walk using (wpAny_updateSeq ha rfl (hz := h2) (_hz' := fits)), AutoSeq1.wpAny_loadPart' ha, AutoSeq1.wpAny_loadPart' hc
    exact ⟨_, rfl, hR⟩
theorem grow_lst (a : Addr) (us : Array Value) (k : Nat) (c : Addr) (ws : Array Value) (k2 : Nat) (dd : Option Addr) (ss : Array (Option Value)) (h1 : ¬(!us.isEmpty && Builtin.List.listTooLong (us.size + ws.size)) = true) (h2 : us.size ≤ sizeLine) (h3 : us.size + ws.size ≤ sizeLine + 1) :
    Meets (Builtin.«list.extend» ⟨[.ref a, .ref c], []⟩) (fun _ R s => s.heap.get? a = some { cls := .type "list", dict := none, data := .seq us k, slots := #[] } ∧ s.heap.get? c = some { cls := .type "list", dict := dd, data := .seq ws k2, slots := ss } ∧
      R (.ok (.ret Value.none)) { s with heap := s.heap.update a (Obj.mapSeq fun x => x ++ ws), toks := s.toks }) :=
  .of_wp fun prog w A R s h => by
    obtain ⟨hp, g, d, tk, os⟩ := s
    obtain ⟨ha, hc, hR⟩ := h
    have f1 := AutoSeq1.idx_int
    have f2 := AutoSeq1.sub_tuple_tuple
    have f3 := AutoSeq1.sub_list_list
    have f4 := AutoSeq1.sub_tuple_list
    have f5 := AutoSeq1.sub_list_tuple
    have fits : (us ++ ws).size ≤ sizeLine + 1 := by rw [Array.size_append]; exact h3
    wp_walk using (wpAny_updateSeq ha rfl (hz := h2) (_hz' := fits)), AutoSeq1.wpAny_loadPart' ha, AutoSeq1.wpAny_loadPart' hc
    exact ⟨_, rfl, hR⟩
end VS

-- VS.Mut5
/-! extend; o[k] = e. -/
namespace VS
open PySem PySem.Spec PyProof.Rows L2

/-- a list grows by the members of another row, whichever kind it is of -/
def rExtA (K : PySem.W.Frag) : V → List V → Hp → VK → Prop := fun o us H Q => ∃ a c ws zs, o = .ref a ∧ us = [.ref c] ∧ H a = some (.lst ws) ∧ (SqL K H c zs ∨ SqT K H c zs) ∧ ws.length + zs.length ≤ sizeLine ∧ Q .non (upd H a (.lst (ws ++ zs)))
theorem mt_extA {X : Cx} : MtM X "list.extend" (rExtA X.K) := by
  intro pins s σ H o us v ws' Q inv ro ru hq
  obtain ⟨a, c, ws, zs, rfl, rfl, hA, hC, hlen, hQ⟩ := hq
  cases ro
  obtain ⟨u, rfl, rc⟩ := ru.one
  cases rc
  obtain ⟨_, its, n, ri, hl1, ea⟩ := inv.lstM hA
  have fin : ∀ its2 : List Value, Vals zs its2 → EP X pins σ Q .none { s with heap := s.heap.update a (Obj.mapSeq (· ++ its2.toArray)) } := fun its2 r2 =>
    ⟨.non, _, inv.lset (its' := its ++ its2) hA ea (by simp) (ri.append r2) (by rw [List.length_append]; exact hlen), rfl, hQ⟩
  have short : ∀ its2 : List Value, Vals zs its2 → its.toArray.size + its2.toArray.size ≤ sizeLine := fun its2 r2 => by
    have := r2.length
    rw [List.size_toArray, List.size_toArray]; omega
  have nl : ∀ its2 : List Value, Vals zs its2 → ¬ (!its.toArray.isEmpty && Builtin.List.listTooLong (its.toArray.size + its2.toArray.size)) = true := fun its2 r2 => by
    rw [notLongL (short its2 r2), Bool.and_false]
    exact Bool.false_ne_true
  have sz : its.toArray.size ≤ sizeLine := by rw [List.size_toArray, ← hl1]; omega
  rcases hC with hC | hC
  · obtain ⟨its2, r2, ⟨⟨cc, dd, dt, sl⟩, n2, e2, q1, q2, q3⟩, _⟩ := inv.list hC
    cases q1; cases q2; cases q3
    exact call_meets F.slot_list_extend ⟨_, ea, rfl⟩ F.entry_list_extend (F.args_list_extend_2 _ _) (grow_lst a its.toArray n c its2.toArray n2 none sl (nl its2 r2) sz (by have := short its2 r2; omega)) ⟨ea, e2, fin its2 r2⟩
  · obtain ⟨its2, r2, ⟨⟨cc, dd, dt, sl⟩, e2, q1, n2, q3⟩, _⟩ := inv.tuple hC
    cases q1; cases q3
    exact call_meets F.slot_list_extend ⟨_, ea, rfl⟩ F.entry_list_extend (F.args_list_extend_2 _ _) (grow_tup a its.toArray n c its2.toArray n2 dd sl (nl its2 r2) sz (by have := short its2 r2; omega)) ⟨ea, e2, fin its2 r2⟩
section
variable {K : PySem.W.Frag} {cl : String → Addr → Prop} {L : Lk} {σ σ0 σ1 : L2.St} {Wx : WX} {W0 W W1 : Wd} {ms vs : List Nat} {Q : VK} {H : Hp} {E : Ends} {J : Nat → Prop}
/-- a row whose members can't be changed -/
theorem ext_row {d : D} {v : V} {F ys} {k : Bool} (h : VS.Rd K W.ρ W.H k d v F) (hk : kd d = true) (e : d = .lst ys ∨ d = .tup ys) : ∃ c zs, v = .ref c ∧ (SqL K W.H c zs ∨ SqT K W.H c zs) ∧ Rds K W.ρ W.H true ys zs [] := by
  rcases e with rfl | rfl
  · obtain ⟨c, zs, G, e, q, r, _⟩ := h.lstL
    obtain ⟨_, r'⟩ := r.flat (o' := true) (by simpa [kd] using hk)
    exact ⟨c, zs, e, .inl q, r'⟩
  · obtain ⟨c, zs, e, q, r⟩ := h.tupL
    obtain ⟨_, r'⟩ := r.flat (o' := true) (by simpa [kd] using hk)
    exact ⟨c, zs, e, .inr (SqT.of q), r'⟩
theorem ts_ext {i : Nat} {path : List (List Nat)} {e : Ex} (he : isIo e = false) (h : trS K cl L Wx J (.ext i path e) E σ H) : tDrop (tBM K "list" (rExtA K) (tPl i path) (trA K cl L Wx [e])) E σ H := by
  obtain ⟨W, eH, s, hgo⟩ := h
  simp only [exec] at hgo
  simp only [mutsM] at hgo
  split at hgo
  · rename_i hc
    simp only [Bool.and_eq_true, Bool.not_eq_true'] at hc
    obtain ⟨hl, hn⟩ := hc
    have hn' : i ∉ muts e := by simpa using hn
    obtain ⟨d, v, u, hi, hv, hp, ty⟩ := lst_at s hl
    refine ⟨v, u, hv, by rw [← eH]; exact hp, by rw [← eH]; exact ty, W, eH, s, ?_⟩
    simp only [evs_one, mutss, List.append_nil]
    cases h1 : ev L e W.st with
    | err => rw [h1] at hgo; exact hgo
    | exc c fs st' => rw [h1] at hgo; exact PostX.ex hgo fun j hj => by simp [hj]
    | ok dv k st1 =>
      rw [h1] at hgo
      dsimp only at hgo ⊢
      split at hgo
      · rename_i hkd
        intro W1 ws G0 e1 s1 t1 m1
        subst e1
        obtain ⟨y, F, rfl, m, f⟩ := m1.one he
        have hi1 : W1.st.get i = some (d, true) := ((t1.eq i hn').1).trans hi
        unfold change at hgo
        rw [hi1] at hgo
        dsimp only at hgo
        cases ha : atPath (extD dv) path d with
        | none => rw [ha] at hgo; exact hgo.elim
        | some q =>
          obtain ⟨d3, x⟩ := q
          rw [ha] at hgo
          dsimp only [Option.map] at hgo
          obtain ⟨v', u', e0, e', Fe, hv', hp', hr, nd, sub, hf, hch⟩ := change_ok s s1 t1.toStep hi1 ha
          rw [hv] at hv'
          cases hv'
          have hd2 : PathV W1.H v path u := by
            have hl1 := hl
            unfold lstAt at hl1
            rw [hi] at hl1
            dsimp only at hl1
            cases h0 : atPath asLst path d with
            | none => rw [h0] at hl1; cases hl1
            | some q0 => exact path_stays (f := asLst) (d' := q0.1) (x := q0.2) s hi hv hp h0 t1.toStep hn'
          have eu := hd2.one hp'
          subst eu
          have key : ∀ xs ys, e0 = .lst xs → (dv = .lst ys ∨ dv = .tup ys) → xs.length + ys.length ≤ sizeLine → e' = .lst (xs ++ ys) → rExtA K u [y] W1.H fun _ H1 => E.nx σ H1 := fun xs ys e1 e2 hz e3 => by
            subst e1 e3
            obtain ⟨c, zs, ey, hq, hys⟩ := ext_row m.rd hkd e2
            cases hr with
            | @lst _ a ws _ G hA hG =>
              have na : a ∉ G := (List.nodup_cons.mp nd).1
              have ca : Cel W1.H a := .inl ⟨_, hA⟩
              have hnew : Rds K W1.ρ (upd W1.H a (.lst (ws ++ zs))) true (xs ++ ys) (ws ++ zs) (G ++ []) := (hG.off ca na).append (hys.off ca (by simp))
              rw [List.append_nil] at hnew
              obtain ⟨W3, q1, q2, q3, q4⟩ := hch a (.lst (ws ++ zs)) true (a :: G) (by simp) cel_lst (.lst upd_same hnew) (fun _ => nd) (fun b hb => .inl hb)
              refine ⟨a, c, ws, zs, rfl, by rw [ey], hA, hq, by rw [← hG.length, ← hys.length]; exact hz, ?_⟩
              have hgo : PostN K cl W (i :: muts e) J σ (W1.st.set i (some (d3, true))) E.nx := hgo
              have := hgo W3 σ q1 q3 (q4.mono fun j hj => by
                simp only [List.mem_append, List.mem_cons, List.not_mem_nil, or_false] at hj ⊢
                exact hj.symm) Pin.refl
              rw [q2] at this
              exact this
          cases e0 with
          | lst xs =>
            cases dv with
            | lst ys =>
              simp only [extD] at hf
              split at hf
              · rename_i hz
                cases hf
                exact key xs ys rfl (.inl rfl) hz rfl
              · cases hf
            | tup ys =>
              simp only [extD] at hf
              split at hf
              · rename_i hz
                cases hf
                exact key xs ys rfl (.inr rfl) hz rfl
              · cases hf
            | non => cases hf
            | bl _ => cases hf
            | int _ => cases hf
            | str _ => cases hf
            | dct _ => cases hf
            | dctT _ => cases hf
            | obj _ => cases hf
          | non => cases hf
          | bl _ => cases hf
          | int _ => cases hf
          | str _ => cases hf
          | tup _ => cases hf
          | dct _ => cases hf
          | dctT _ => cases hf
          | obj _ => cases hf
      · exact hgo.elim
  · exact hgo.elim
end
end VS

-- VS.Mut6
/-! o[k] = e. -/
namespace VS
open PySem PySem.Spec PyProof.Rows L2
section
variable {K : PySem.W.Frag} {ρ : List Addr} {H : Hp} {kk : Bool}
/-- one member otherwise -/
theorem Rds.put : ∀ {ds : List D} {vs F} (_ : Rds K ρ H kk ds vs F) {d v Fv} (_ : VS.Rd K ρ H kk d v Fv) (j : Nat), ∃ F', Rds K ρ H kk (ds.set j d) (vs.set j v) F' ∧ (∀ a ∈ F', a ∈ F ∨ a ∈ Fv) ∧ (F.Nodup → Fv.Nodup → (∀ a ∈ Fv, a ∉ F) → F'.Nodup)
  | _, _, _, .nil, _, _, _, _, j => ⟨[], .nil, fun _ m => (nomatch m), fun _ _ _ => List.nodup_nil⟩
  | _, _, _, .cons (F := F) (G := G) h t, d, v, Fv, m, 0 => ⟨Fv ++ G, .cons m t, fun a z => by
      rcases List.mem_append.mp z with z | z
      · exact .inr z
      · exact .inl (by simp [z]), fun n1 n2 n3 => List.nodup_append.mpr ⟨n2, (List.nodup_append.mp n1).2.1, fun a ha b hb e => n3 a ha (by rw [e]; simp [hb])⟩⟩
  | _, _, _, .cons (F := F) (G := G) h t, d, v, Fv, m, j + 1 => by
    obtain ⟨F', r, s1, s2⟩ := Rds.put t m j
    refine ⟨F ++ F', .cons h r, fun a z => ?_, fun n1 n2 n3 => ?_⟩
    · rcases List.mem_append.mp z with z | z
      · exact .inl (by simp [z])
      · exact (s1 a z).imp (fun z => by simp [z]) id
    · obtain ⟨q1, q2, q3⟩ := List.nodup_append.mp n1
      refine List.nodup_append.mpr ⟨q1, s2 q2 n2 fun a ha z => n3 a ha (by simp [z]), fun a ha b hb e => ?_⟩
      subst e
      rcases s1 a hb with z | z
      · exact q3 a ha a z rfl
      · exact n3 a z (by simp [ha])
section
variable {κ : Type} [DecidableEq κ]
theorem map_id {α : Type} (k : κ) (x : α) : ∀ {ps : List (κ × α)}, k ∉ ps.map (·.1) → ps.map (fun kv => if kv.1 = k then (kv.1, x) else kv) = ps
  | [], _ => rfl
  | (c, y) :: ps, h => by
    simp only [List.map_cons, List.mem_cons, not_or] at h
    simp only [List.map_cons]
    rw [if_neg (fun e => h.1 e.symm), map_id k x h.2]
theorem map_keys {α : Type} (k : κ) (x : α) (ps : List (κ × α)) : (ps.map (fun kv => if kv.1 = k then (kv.1, x) else kv)).map (·.1) = ps.map (·.1) := by
  rw [List.map_map]
  refine List.map_congr_left fun p _ => ?_
  show (if p.1 = k then (p.1, x) else p).1 = p.1
  split <;> rfl
theorem Rds.over {k : κ} : ∀ {ps : List (κ × D)} {kvs : List (κ × V)} {F}, kvs.map (·.1) = ps.map (·.1) → (ps.map (·.1)).Nodup → Rds K ρ H kk (ps.map (·.2)) (kvs.map (·.2)) F → ∀ {d v Fv}, VS.Rd K ρ H kk d v Fv →
    ∃ F', Rds K ρ H kk ((ps.map (fun kv => if kv.1 = k then (kv.1, d) else kv)).map (·.2)) ((kvs.map (fun kv => if kv.1 = k then (kv.1, v) else kv)).map (·.2)) F' ∧ (∀ a ∈ F', a ∈ F ∨ a ∈ Fv) ∧ (F.Nodup → Fv.Nodup → (∀ a ∈ Fv, a ∉ F) → F'.Nodup)
  | [], [], _, _, _, r, d, v, Fv, m => by
    cases r
    exact ⟨[], .nil, fun _ m => (nomatch m), fun _ _ _ => List.nodup_nil⟩
  | [], _ :: _, _, e, _, _, _, _, _, _ => by simp at e
  | _ :: _, [], _, e, _, _, _, _, _, _ => by simp at e
  | (c, y) :: ps, (c', u) :: kvs, _, e, n, r, d, v, Fv, m => by
    simp only [List.map_cons, List.cons.injEq] at e
    obtain ⟨e1, e2⟩ := e
    have e1 : c' = c := e1
    subst e1
    simp only [List.map_cons] at n r
    obtain ⟨n1, n2⟩ := List.nodup_cons.mp n
    cases r with
    | @cons _ _ _ _ _ F1 F2 h t =>
      by_cases q : c' = k
      · subst q
        have n1' : c' ∉ kvs.map (·.1) := by rw [e2]; exact n1
        refine ⟨Fv ++ F2, ?_, fun a z => ?_, fun q1 q2 q3 => ?_⟩
        · simp only [List.map_cons, if_true]
          rw [map_id _ _ n1, map_id _ _ n1']
          exact .cons m t
        · rcases List.mem_append.mp z with z | z
          · exact .inr z
          · exact .inl (by simp [z])
        · exact List.nodup_append.mpr ⟨q2, (List.nodup_append.mp q1).2.1, fun a ha b hb e => q3 a ha (by rw [e]; simp [hb])⟩
      · obtain ⟨F', r', s1, s2⟩ := Rds.over (k := k) e2 n2 t m
        refine ⟨F1 ++ F', ?_, fun a z => ?_, fun q1 q2 q3 => ?_⟩
        · simp only [List.map_cons, if_neg q]
          exact .cons h r'
        · rcases List.mem_append.mp z with z | z
          · exact .inl (by simp [z])
          · exact (s1 a z).imp (fun z => by simp [z]) id
        · obtain ⟨w1, w2, w3⟩ := List.nodup_append.mp q1
          refine List.nodup_append.mpr ⟨w1, s2 w2 q2 fun a ha z => q3 a ha (by simp [z]), fun a ha b hb e => ?_⟩
          subst e
          rcases s1 a hb with z | z
          · exact w3 a ha a z rfl
          · exact q3 a z (by simp [ha])
theorem any_keys {α β : Type} {ps : List (κ × α)} {kvs : List (κ × β)} (e : kvs.map (·.1) = ps.map (·.1)) (k : κ) : (kvs.any fun kv => decide (kv.1 = k)) = ps.any fun kv => decide (kv.1 = k) := by
  have h1 : (kvs.any fun kv => decide (kv.1 = k)) = (kvs.map (·.1)).any fun c => decide (c = k) := by rw [List.any_map]; rfl
  have h2 : (ps.any fun kv => decide (kv.1 = k)) = (ps.map (·.1)).any fun c => decide (c = k) := by rw [List.any_map]; rfl
  rw [h1, h2, e]
/-- a dict's value put -/
theorem Rds.putK {ps : List (κ × D)} {kvs : List (κ × V)} {F} {k : κ} (e : kvs.map (·.1) = ps.map (·.1)) (n : (ps.map (·.1)).Nodup) (r : Rds K ρ H kk (ps.map (·.2)) (kvs.map (·.2)) F) {d v Fv} (m : VS.Rd K ρ H kk d v Fv) :
    ∃ F', (L2.putK kvs k v).map (·.1) = (putD ps k d).map (·.1) ∧ ((putD ps k d).map (·.1)).Nodup ∧ Rds K ρ H kk ((putD ps k d).map (·.2)) ((L2.putK kvs k v).map (·.2)) F' ∧ (∀ a ∈ F', a ∈ F ∨ a ∈ Fv) ∧ (F.Nodup → Fv.Nodup → (∀ a ∈ Fv, a ∉ F) → F'.Nodup) := by
  unfold L2.putK putD
  rw [any_keys e k]
  split
  · obtain ⟨F', r', s1, s2⟩ := Rds.over (k := k) e n r m
    exact ⟨F', by rw [map_keys, map_keys]; exact e, by rw [map_keys]; exact n, r', s1, s2⟩
  · rename_i hn
    have hk : k ∉ ps.map (·.1) := fun z => by
      obtain ⟨p, hp, e⟩ := List.mem_map.mp z
      exact hn (List.any_eq_true.mpr ⟨p, hp, by simp [e]⟩)
    refine ⟨F ++ Fv, by simp [e], ?_, ?_, fun a z => List.mem_append.mp z, fun n1 n2 n3 => List.nodup_append.mpr ⟨n1, n2, fun a ha b hb e => n3 b hb (by rw [← e]; exact ha)⟩⟩
    · rw [List.map_append]
      exact List.nodup_append.mpr ⟨n, by simp, fun a ha b hb e => hk (by
        have hb' : b = k := by simpa using hb
        rw [← hb', ← e]; exact ha)⟩
    · rw [List.map_append, List.map_append]
      exact Rds.snoc r m
end
end
/-- o[k] = e, of a list and of a dict -/
def rSetA : TSet := fun o i v H Q => rSetL o i v H Q ∨ rSetD o i v H Q
theorem set_any {X : Cx} (hu : X.A.units + 1 < cLine) : PSet X rSetA := fun pins s σ H o i v ov iv u Q I ro ri rv h =>
  h.elim (fun h => set_list pins s σ H o i v ov iv u Q I ro ri rv h) (fun h => set_dict hu pins s σ H o i v ov iv u Q I ro ri rv h)
section
variable {K : PySem.W.Frag} {cl : String → Addr → Prop} {L : Lk} {σ σ0 σ1 : L2.St} {Wx : WX} {W0 W W1 : Wd} {ms vs : List Nat} {Q : VK} {H : Hp} {E : Ends} {J : Nat → Prop}
theorem has_at (s : Sim K cl σ W) {i : Nat} {path : List (List Nat)} (h : hasAt W.st i path = true) : ∃ d v u d' x, W.st.get i = some (d, true) ∧ σ[i]? = some (some v) ∧ PathV W.H v path u ∧ atPath (fun d => some (d, ())) path d = some (d', x) := by
  unfold hasAt at h
  cases hi : W.st.get i with
  | none => rw [hi] at h; cases h
  | some p =>
    obtain ⟨d, k⟩ := p
    rw [hi] at h
    cases k with
    | false => cases h
    | true =>
      dsimp only at h
      cases ha : atPath (fun d => some (d, ())) path d with
      | none => rw [ha] at h; cases h
      | some q =>
        obtain ⟨d', x⟩ := q
        obtain ⟨v, u, e, e', pre, Fe, post, hv, hp, hr, _, hf, _⟩ := place s hi ha
        exact ⟨d, v, u, d', x, rfl, hv, hp, ha⟩
theorem cel_dK {a : Addr} {xs} : Cel (upd H a (.dK xs)) a := .inr (.inl ⟨xs, upd_same⟩)
theorem cel_dT {a : Addr} {xs} : Cel (upd H a (.dT xs)) a := .inr (.inr ⟨xs, upd_same⟩)
theorem ts_set {i : Nat} {path : List (List Nat)} {kx e : Ex} (h : trS K cl L Wx J (.setK i path kx e) E σ H) : tAsg (trE K cl L Wx e) (gSub (tPl i path) (trE K cl L Wx kx) rSetA) E σ H := by
  obtain ⟨W, eH, s, hgo⟩ := h
  refine ⟨W, eH, s, ?_⟩
  simp only [exec] at hgo
  simp only [mutsM] at hgo
  cases h1 : ev L e W.st with
  | err => rw [h1] at hgo; exact hgo
  | exc c fs st' => rw [h1] at hgo; exact PostX.ex hgo fun j hj => by simp [hj]
  | ok dv k st1 =>
    rw [h1] at hgo
    dsimp only at hgo
    intro W1 y F e1 s1 t1 m f
    subst e1
    have st2 : (W1.keep k (vars e)).st = W1.st.keep k (vars e) := keep_st
    have s2 := s1.kept k (vars e)
    have t2 : Step (muts e) W (W1.keep k (vars e)) := (t1.toStep.trans s s1 (Step.kept (ms := []) k (vars e) W1)).mono fun i h => by simpa using h
    have m2 := m.kept s1
    obtain ⟨eH2, eρ2, eF2⟩ := keep_same (W := W1) (k := k) (vs := vars e)
    generalize W1.keep k (vars e) = W2 at st2 s2 t2 m2 eH2 eρ2 eF2
    rw [← st2] at hgo
    split at hgo
    · rename_i hh
      obtain ⟨d, v, u, d', x, hi, hv, hp, ha0⟩ := has_at s2 hh
      rw [← eH2]
      refine ⟨v, u, hv, hp, W2, rfl, s2, ?_⟩
      cases h2 : ev L kx W2.st with
      | err => rw [h2] at hgo; exact hgo.elim
      | exc c fs st' => rw [h2] at hgo; exact hgo.elim
      | ok key kk st3 =>
        rw [h2] at hgo
        dsimp only at hgo
        split at hgo
        · rename_i hc
          obtain ⟨hcf, hmk⟩ := hc
          intro W3 w Fk e3 s3 t3 m3 f3
          rw [hmk] at t3
          subst e3
          have m3i : In K W3.ρ W3.H (fun _ => True) key w := by
            obtain ⟨_, r⟩ := m3.rd.flat (o' := false) hcf
            exact ⟨[], r, fun _ m => nomatch m⟩
          unfold change at hgo
          cases hi3 : W3.st.get i with
          | none => rw [hi3] at hgo; exact hgo.elim
          | some q =>
            obtain ⟨d3, k3⟩ := q
            rw [hi3] at hgo
            cases k3 with
            | false => exact hgo.elim
            | true =>
              dsimp only at hgo
              cases ha : atPath (setD key dv) path d3 with
              | none => rw [ha] at hgo; exact hgo.elim
              | some q =>
                obtain ⟨d4, x4⟩ := q
                rw [ha] at hgo
                dsimp only [Option.map] at hgo
                have t23 : Step (muts e) W W3 := (t2.trans s s2 t3.toStep).mono fun i h => by simpa using h
                obtain ⟨v', u', e0, e', Fe, hv', hp', hr, nd, sub, hf, hch⟩ := change_ok s s3 t23 hi3 ha
                rw [hv] at hv'
                cases hv'
                have eu := (path_stays s2 hi hv hp ha0 t3.toStep (by simp)).one hp'
                subst eu
                have m4 : Tmp K W3 [] dv k y F := m2.step s2 t3 (.inr (by simp [disj]))
                obtain ⟨F', mm, fr⟩ : ∃ F', Tmp K W3 [] dv (k || cf dv) y F' ∧ ((k || cf dv) = true → ∀ b ∈ F', From W (muts e) b) := by
                  cases c : cf dv with
                  | true => exact ⟨[], m4.flat c, fun _ _ z => nomatch z⟩
                  | false => rw [Bool.or_false]; exact ⟨F, m4, f⟩
                generalize (k || cf dv) = kq at mm fr hgo
                have sh : kq = false → ∀ b ∈ F', W3.Z b := fun q b hb => by
                  rcases mm.sh q b hb with z | ⟨_, z, _⟩
                  · exact z
                  · cases z
                have nF : ∀ b ∈ Fe, b ∉ F' := fun b hb z => by
                  have oa := sub b hb
                  cases kq with
                  | true => exact mm.nf rfl b z _ oa
                  | false => exact s3.own (.s i) d3 hi3 b oa (sh rfl b z)
                have hgo : PostN K cl W (i :: (muts kx ++ muts e)) J σ (W3.st.set i (some (d4, kq))) E.nx := hgo
                have fin : ∀ {a : Addr} {o : HO} {G Gn : List Addr}, Fe = a :: G → Cel (upd W3.H a o) a → VS.Rd K W3.ρ (upd W3.H a o) kq e' (.ref a) (a :: Gn) → (∀ b ∈ Gn, b ∈ G ∨ b ∈ F') → (G.Nodup → F'.Nodup → (∀ b ∈ F', b ∉ G) → Gn.Nodup) → u = .ref a → E.nx σ (upd W3.H a o) := fun {a o G Gn} eF co hr' hsub hnd eu => by
                  subst eu eF
                  have na : a ∉ G := (List.nodup_cons.mp nd).1
                  have naF : a ∉ F' := nF a (by simp)
                  obtain ⟨W4, q1, q2, q3, q4⟩ := hch a o kq (a :: Gn) (by simp) co hr' (fun q => List.nodup_cons.mpr ⟨fun z => (hsub a z).elim na naF, hnd (List.nodup_cons.mp nd).2 (mm.nd q) fun b hb z => nF b (by simp [z]) hb⟩) (fun b hb => by
                    rcases List.mem_cons.mp hb with z | z
                    · exact .inl (by simp [z])
                    · rcases hsub b z with z | z
                      · exact .inl (by simp [z])
                      · cases hk : kq with
                        | true => exact .inr (.inl ⟨rfl, (mm.rd.cel b z).ne, mm.nz hk b z, mm.nf hk b z, fr hk b z⟩)
                        | false => exact .inr (.inr ⟨rfl, sh hk b z⟩))
                  have := hgo W4 σ q1 q3 (q4.mono fun j hj => by
                    simp only [List.mem_append, List.mem_cons, List.not_mem_nil, or_false] at hj ⊢
                    rcases hj with hj | hj
                    · exact .inr (.inr hj)
                    · exact .inl hj) Pin.refl
                  rw [q2] at this
                  exact this
                cases e0 with
                | lst xs =>
                  cases hr with
                  | @lst _ a ws _ G hA hG =>
                    have ca : Cel W3.H a := .inl ⟨_, hA⟩
                    cases key with
                    | int j =>
                      simp only [setD] at hf
                      obtain ⟨jj, hj, hf⟩ := Option.map_eq_some_iff.mp hf
                      cases hf
                      have na : a ∉ G := (List.nodup_cons.mp nd).1
                      have hwi : w = .int j := m3i.int
                      obtain ⟨Gn, r1, r2, r3⟩ := Rds.put ((hG.to kq).off ca na (u := .lst (ws.set jj y))) (mm.rd.off ca (nF a (by simp))) jj
                      exact .inl ⟨a, ws, j, jj, rfl, hwi, hA, by rw [← hG.length]; exact hj, fin rfl cel_lst (.lst upd_same r1) r2 r3 rfl⟩
                    | non => cases hf
                    | bl _ => cases hf
                    | str _ => cases hf
                    | lst _ => cases hf
                    | tup _ => cases hf
                    | dct _ => cases hf
                    | dctT _ => cases hf
                    | obj _ => cases hf
                | dct ps =>
                  cases hr with
                  | @dct _ a kvs _ G hA he hn hG =>
                    have ca : Cel W3.H a := .inr (.inl ⟨_, hA⟩)
                    simp only [setD] at hf
                    split at hf
                    · rename_i hz
                      obtain ⟨c, hc, hf⟩ := Option.map_eq_some_iff.mp hf
                      cases hf
                      have na : a ∉ G := (List.nodup_cons.mp nd).1
                      have hwk : w = kV c := m3i.key hc
                      obtain ⟨Gn, r1, r2, r3, r4, r5⟩ := Rds.putK (k := c) he hn ((hG.to kq).off ca na (u := .dK (L2.putK kvs c y))) (mm.rd.off ca (nF a (by simp)))
                      have hz' : kvs.length < sizeLine := by
                        have : kvs.length = ps.length := by simpa using congrArg List.length he
                        rw [this]; exact hz
                      exact .inr ⟨a, _, rfl, by rw [hwk]; exact DPut.k hA hz', fin rfl cel_dK (.dct upd_same r1 r2 r3) r4 r5 rfl⟩
                    · cases hf
                | dctT ps =>
                  cases hr with
                  | @dctT _ a kvs _ G hA he hn hG =>
                    have ca : Cel W3.H a := .inr (.inr ⟨_, hA⟩)
                    simp only [setD] at hf
                    split at hf
                    · rename_i hz
                      cases key with
                      | tup xs =>
                        obtain ⟨c, hc, hf⟩ := Option.map_eq_some_iff.mp hf
                        cases hf
                        have na : a ∉ G := (List.nodup_cons.mp nd).1
                        obtain ⟨b, us, hwb, hb, hus⟩ := m3i.tup
                        have hk : us = c.map kV := hus.keys hc
                        obtain ⟨Gn, r1, r2, r3, r4, r5⟩ := Rds.putK (k := c) he hn ((hG.to kq).off ca na (u := .dT (L2.putK kvs c y))) (mm.rd.off ca (nF a (by simp)))
                        have hz' : kvs.length < sizeLine := by
                          have : kvs.length = ps.length := by simpa using congrArg List.length he
                          rw [this]; exact hz
                        exact .inr ⟨a, _, rfl, by rw [hwb]; exact DPut.t hA (by rw [hb, hk]) hz', fin rfl cel_dT (.dctT upd_same r1 r2 r3) r4 r5 rfl⟩
                      | non => cases hf
                      | bl _ => cases hf
                      | int _ => cases hf
                      | str _ => cases hf
                      | lst _ => cases hf
                      | dct _ => cases hf
                      | dctT _ => cases hf
                      | obj _ => cases hf
                    · cases hf
                | non => cases hf
                | bl _ => cases hf
                | int _ => cases hf
                | str _ => cases hf
                | tup _ => cases hf
                | obj _ => cases hf
        · exact hgo.elim
    · exact hgo.elim
end
end VS

-- VS.Seq
/-! Names stored side by side. -/
namespace VS
open PySem PySem.Spec PyProof.Rows L2
def Wd.keeps : Wd → List Ex → List (D × Bool) → Wd
  | W, e :: es, (_, k) :: ds => (W.keep k (vars e)).keeps es ds
  | W, _, _ => W
section
variable {K : PySem.W.Frag} {cl : String → Addr → Prop} {L : Lk} {σ σ0 σ1 : L2.St} {Wx : WX} {W0 W W1 : Wd} {ms vs : List Nat} {Q : VK} {H : Hp} {E : Ends} {J : Nat → Prop}
theorem keeps_st : ∀ (es : List Ex) (ds : List (D × Bool)) (W : Wd), (W.keeps es ds).st = W.st.keeps es ds
  | [], [], _ => rfl
  | [], _ :: _, _ => rfl
  | _ :: _, [], _ => rfl
  | e :: es, (_, k) :: ds, W => by
    show ((W.keep k (vars e)).keeps es ds).st = (W.st.keep k (vars e)).keeps es ds
    rw [keeps_st es ds, keep_st]
theorem keeps_same : ∀ (es : List Ex) (ds : List (D × Bool)) (W : Wd), (W.keeps es ds).H = W.H
  | [], [], _ => rfl
  | [], _ :: _, _ => rfl
  | _ :: _, [], _ => rfl
  | e :: es, (_, k) :: ds, W => (keeps_same es ds (W.keep k (vars e))).trans keep_same.1
theorem Sim.keeps : ∀ (es : List Ex) (ds : List (D × Bool)) {W : Wd}, Sim K cl σ W → Sim K cl σ (W.keeps es ds)
  | [], [], _, s => s
  | [], _ :: _, _, s => s
  | _ :: _, [], _, s => s
  | e :: es, (_, k) :: ds, _, s => Sim.keeps es ds (s.kept k (vars e))
theorem Step.keeps : ∀ (es : List Ex) (ds : List (D × Bool)) {W0 W : Wd} {σ0 : L2.St}, Sim K cl σ0 W0 → Sim K cl σ W → Step ms W0 W → Step ms W0 (W.keeps es ds)
  | [], [], _, _, _, _, _, t => t
  | [], _ :: _, _, _, _, _, _, t => t
  | _ :: _, [], _, _, _, _, _, t => t
  | e :: es, (_, k) :: ds, _, _, _, s0, s, t => Step.keeps es ds s0 (s.kept k (vars e)) (t.trans' s0 s (Step.kept k (vars e) _))
theorem Tmp.keep_ {us : List Nat} {d k v F} (m : Tmp K W us d k v F) (kk : Bool) (ws : List Nat) : Tmp K (W.keep kk ws) us d k v F := by
  cases kk with
  | true => exact m
  | false => exact m.frz
theorem Tmp.keeps_ {us : List Nat} {d k v F} : ∀ (es : List Ex) (ds : List (D × Bool)) {W : Wd}, Tmp K W us d k v F → Tmp K (W.keeps es ds) us d k v F
  | [], [], _, m => m
  | [], _ :: _, _, m => m
  | _ :: _, [], _, m => m
  | e :: es, (_, kk) :: ds, _, m => Tmp.keeps_ es ds (m.keep_ kk (vars e))
/-- values on their way, each by itself -/
inductive TmpM (K : PySem.W.Frag) (W0 W : Wd) (ms : List Nat) : List (D × Bool) → List V → List Addr → Prop
  | nil : TmpM K W0 W ms [] [] []
  | cons {d k v F ds vs G} : Tmp K W [] d k v F → (k = true → ∀ a ∈ F, From W0 ms a) → TmpM K W0 W ms ds vs G → (k = true → ∀ a ∈ F, a ∉ G) → TmpM K W0 W ms ((d, k) :: ds) (v :: vs) ((if k = true then F else []) ++ G)
theorem Tmps.keep1 {es ds vs G} (t : Tmps K σ W0 W ms es ds vs G) (kk : Bool) (ws : List Nat) : Tmps K σ W0 (W.keep kk ws) ms es ds vs G := by
  induction t with
  | nil => exact .nil
  | io h _ ih => exact .io h ih
  | cons he m f _ dj ih => exact .cons he (m.keep_ kk ws) f ih dj
theorem Tmps.kept {es : List Ex} : ∀ {ds vs G} {W : Wd}, noIo es = true → Sim K cl σ W → Tmps K σ W0 W ms es ds vs G → TmpM K W0 (W.keeps es ds) ms ds vs G := by
  induction es with
  | nil => intro ds vs G W _ _ t; cases t; exact .nil
  | cons e es ih =>
    intro ds vs G W hn s t
    have hn' : isIo e = false ∧ noIo es = true := by simpa [noIo] using hn
    cases t with
    | io _ _ => simp [isIo] at hn'
    | @cons _ _ d k v F ds vs G he m f t dj =>
      exact .cons (Tmp.keeps_ es ds (m.kept s)) f (ih hn'.2 (s.kept k (vars e)) (t.keep1 k (vars e))) dj
theorem TmpM.bound {ds vs G} (t : TmpM K W0 W ms ds vs G) {i : Nat} {d : D} {F : List Addr} {k : Bool} (hF : k = true → ∀ a ∈ F, a ∉ G) (sh : k = false → ∀ a ∈ F, W.Z a) : TmpM K W0 (W.bind i d k F) ms ds vs G := by
  induction t with
  | nil => exact .nil
  | @cons d1 k1 v1 F1 ds vs G m f t dj ih =>
    refine .cons ⟨m.rd, m.nd, m.nz, fun e a ma p mp => ?_, fun e a ma => ?_⟩ f (ih fun e a ma z => hF e a ma (by simp [z])) dj
    · have mp' : a ∈ (if p = Pl.s i then F else W.Fs p) := mp
      by_cases q : p = .s i
      · rw [if_pos q] at mp'
        cases k with
        | true => exact hF rfl a mp' (by simp [e, ma])
        | false => exact m.nz e a ma (sh rfl a mp')
      · rw [if_neg q] at mp'; exact m.nf e a ma p mp'
    · rcases m.sh e a ma with z | ⟨j, hj, _⟩
      · exact .inl z
      · cases hj
def setsσ : List Nat → List V → L2.St → L2.St
  | i :: r, v :: vs, σ => setsσ r vs (σ.set i (some v))
  | _, _, σ => σ
theorem sets_ok : ∀ {ns : List Nat} {ds : List (D × Bool)} {vs : List V} {G : List Addr} {W : Wd} {σ : L2.St} {st' : S}, Sim K cl σ W → Step ms W0 W → TmpM K W0 W ms ds vs G → setsS ns ds W.st = some st' → ∃ W', W'.st = st' ∧ W'.H = W.H ∧ Sim K cl (setsσ ns vs σ) W' ∧ Step ms W0 W'
  | [], ds, vs, G, W, σ, st', s, t, m, h => by
    cases m with
    | nil => exact ⟨W, Option.some.inj h, rfl, s, t⟩
    | cons _ _ _ _ => cases h
  | i :: ns, ds, vs, G, W, σ, st', s, t, m, h => by
    cases m with
    | nil => cases h
    | @cons d k v F ds vs G mm f t' dj =>
      simp only [setsS] at h
      split at h
      · rename_i hi
        obtain ⟨F', m2, f2, hs⟩ : ∃ F', Tmp K W [] d (k || cf d) v F' ∧ ((k || cf d) = true → ∀ a ∈ F', From W0 ms a) ∧ ((k || cf d) = true → ∀ a ∈ F', a ∉ G) := by
          cases c : cf d with
          | true => exact ⟨[], mm.flat c, fun _ _ z => (nomatch z), fun _ _ z => (nomatch z)⟩
          | false => rw [Bool.or_false]; exact ⟨F, mm, f, dj⟩
        have sh : (k || cf d) = false → ∀ a ∈ F', W.Z a := fun e a ma => by
          rcases m2.sh e a ma with z | ⟨j, hj, _⟩
          · exact z
          · cases hj
        obtain ⟨W', e1, e2, s', t2⟩ := sets_ok (ns := ns) (s.bind hi m2) (t.bind m2 f2) (t'.bound hs sh) h
        exact ⟨W', e1, e2, s', t2⟩
      · cases h
theorem setsσ_pin : ∀ {ns : List Nat} {vs : List V} {σ : L2.St}, (∀ i ∈ ns, ¬ J i) → Pin J σ (setsσ ns vs σ)
  | [], _, _, _ => by unfold setsσ; exact Pin.refl
  | _ :: _, [], _, _ => by unfold setsσ; exact Pin.refl
  | i :: ns, v :: vs, σ, h => by
    unfold setsσ
    exact Pin.trans (fun j hj => List.getElem?_set_ne fun z => h i (by simp) (by rw [z]; exact hj)) (setsσ_pin (ns := ns) (vs := vs) (σ := σ.set i (some v)) fun k hk => h k (by simp [hk]))
theorem ts_par {ns : List Nat} {es : List Ex} (hJ : ∀ i ∈ ns, ¬ J i) (hn : noIo es = true) (h : trS K cl L Wx J (.par ns es) E σ H) : trA K cl L Wx es σ H fun vs H1 => E.nx (setsσ ns vs σ) H1 := by
  obtain ⟨W, eH, s, hgo⟩ := h
  refine ⟨W, eH, s, ?_⟩
  simp only [exec] at hgo
  simp only [mutsM] at hgo
  cases h1 : evs L es W.st with
  | err => rw [h1] at hgo; exact hgo
  | exc c fs st' => rw [h1] at hgo; exact PostX.ex hgo fun j hj => hj
  | ok ds st1 =>
    rw [h1] at hgo
    dsimp only at hgo
    intro W1 vs G e1 s1 t1 m1
    subst e1
    cases h2 : setsS ns ds (W1.st.keeps es ds) with
    | none => rw [h2] at hgo; exact hgo.elim
    | some st2 =>
      rw [h2] at hgo
      obtain ⟨W', q1, q2, q3, q4⟩ := sets_ok (W0 := W) (s1.keeps es ds) (Step.keeps es ds s s1 t1.toStep) (m1.kept hn s1) (by rw [keeps_st]; exact h2)
      have := hgo W' _ q1 q3 q4 (setsσ_pin hJ)
      rw [q2, keeps_same] at this
      exact this
theorem ts_par2 {i j : Nat} {a b : Ex} (hJ : ∀ k ∈ [i, j], ¬ J k) (hn : noIo [a, b] = true) (h : trS K cl L Wx J (.par [i, j] [a, b]) E σ H) : tPar i j (trA K cl L Wx [a, b]) E σ H := by
  obtain ⟨W, eH, s, hgo⟩ := ts_par hJ hn h
  refine ⟨W, eH, s, ?_⟩
  cases h1 : evs L [a, b] W.st with
  | err => rw [h1] at hgo; exact hgo
  | exc c fs st' => rw [h1] at hgo; exact hgo
  | ok ds st1 =>
    rw [h1] at hgo
    intro W' vs G e s' t m
    have hl : vs.length = 2 := by
      have : ∀ {es ds vs G}, Tmps K σ W W' (mutss [a, b]) es ds vs G → vs.length = es.length := fun t => by
        induction t with
        | nil => rfl
        | io _ _ ih => simp [ih]
        | cons _ _ _ _ _ ih => simp [ih]
      simpa using this m
    have := hgo W' vs G e s' t m
    match vs, hl with
    | [v, w], _ => exact ⟨v, w, rfl, this⟩
theorem ts_par3 {i j l : Nat} {a b c : Ex} (hJ : ∀ k ∈ [i, j, l], ¬ J k) (hn : noIo [a, b, c] = true) (h : trS K cl L Wx J (.par [i, j, l] [a, b, c]) E σ H) : tPar3 i j l (trA K cl L Wx [a, b, c]) E σ H := by
  obtain ⟨W, eH, s, hgo⟩ := ts_par hJ hn h
  refine ⟨W, eH, s, ?_⟩
  cases h1 : evs L [a, b, c] W.st with
  | err => rw [h1] at hgo; exact hgo
  | exc c fs st' => rw [h1] at hgo; exact hgo
  | ok ds st1 =>
    rw [h1] at hgo
    intro W' vs G e s' t m
    have hl : vs.length = 3 := by
      have : ∀ {es ds vs G}, Tmps K σ W W' (mutss [a, b, c]) es ds vs G → vs.length = es.length := fun t => by
        induction t with
        | nil => rfl
        | io _ _ ih => simp [ih]
        | cons _ _ _ _ _ ih => simp [ih]
      simpa using this m
    have := hgo W' vs G e s' t m
    match vs, hl with
    | [u, v, w], _ => exact ⟨u, v, w, rfl, this⟩
end
end VS

-- VS.Chk1
/-! From the readings to the layer's judgements: calls, tests. -/
namespace VS
open PySem PySem.Spec PyProof.Rows L2

section
variable {X : Cx} {a b e : PySem.Expr} {es : List PySem.Expr} {t t' : TE} {u u' : TT} {ta tb : TE} {pos p : Pos}
theorem _root_.L2.PE.imp (h : PE X e t) (m : ∀ σ H Q, t' σ H Q → t σ H Q) : PE X e t' := ⟨fun pins s σ H Q I q => h.run pins s σ H Q I (m σ H Q q)⟩
theorem _root_.L2.PT.imp (h : PT X e u) (m : ∀ σ H Q, u' σ H Q → u σ H Q) : PT X e u' := ⟨fun pins s σ H Q I q => h.run pins s σ H Q I (m σ H Q q)⟩
theorem _root_.L2.PW.imp (h : PW X e u) (m : ∀ σ H Q, u' σ H Q → u σ H Q) : PW X e u' := ⟨fun wh pins s σ H Q I q => h.run wh pins s σ H Q I (m σ H Q q)⟩
theorem _root_.L2.PA.imp {w w' : TA} (h : PA X es w) (m : ∀ σ H Q, w' σ H Q → w σ H Q) : PA X es w' := ⟨fun pp pins s σ H Q I q => h.run pp pins s σ H Q I (m σ H Q q)⟩
theorem _root_.L2.PI.imp {tg : PySem.Expr} {w w' : TI} (h : PI X tg e w) (m : ∀ σ H R, w' σ H R → w σ H R) : PI X tg e w' := ⟨fun pins s σ H R I q => h.run pins s σ H R I (m σ H R q)⟩
theorem _root_.L2.PG.imp {w w' : TG} (h : PG X e w) (m : ∀ v σ H Q, w' v σ H Q → w v σ H Q) : PG X e w' := ⟨fun pins s σ H v r Q I rv q => h.run pins s σ H v r Q I rv (m v σ H Q q)⟩
theorem _root_.L2.PS.imp {st : Stmt} {w w' : TS} (h : PS X st w) (m : ∀ E σ H, w' E σ H → w E σ H) : PS X st w' := ⟨fun pins s σ H D I q => h.run pins s σ H D I (m D σ H q)⟩
theorem _root_.L2.PSs.imp {st : List Stmt} {w w' : TS} (h : PSs X st w) (m : ∀ E σ H, w' E σ H → w E σ H) : PSs X st w' := ⟨fun pins s σ H D I q => h.run pins s σ H D I (m D σ H q)⟩
theorem _root_.L2.PI.or {tg : PySem.Expr} {w w' : TI} (h : PI X tg e w) (h' : PI X tg e w') : PI X tg e fun σ H R => w σ H R ∨ w' σ H R :=
  ⟨fun pins s σ H R I q => q.elim (h.run pins s σ H R I) (h'.run pins s σ H R I)⟩
theorem _root_.L2.PG.or {w w' : TG} (h : PG X e w) (h' : PG X e w') : PG X e fun v σ H Q => w v σ H Q ∨ w' v σ H Q :=
  ⟨fun pins s σ H v r Q I rv q => q.elim (h.run pins s σ H v r Q I rv) (h'.run pins s σ H v r Q I rv)⟩
/-- a value's truth as a test -/
def tTr (K : PySem.W.Frag) (t : TE) : TT := fun σ H Q => t σ H fun v H' => ∃ k, TruV K v H' k ∧ Q k H'
theorem pt_tr (h : PE X e t) (he : ∀ whole, isTrue e X.env whole = (do let v ← whole; standAt e.pos; holding [v] (truthy v)) := by intro _; rfl) : PT X e (tTr X.K t) :=
  ⟨fun pins s σ H Q I hw => isTrue_plain (thn (h.run pins s σ H _ I hw) fun v s1 ⟨x, H1, I1, r1, q1⟩ => tru_ok pins s1 σ H1 x v Q I1 r1 q1) (he _)⟩
theorem pt_cmpT {op : CmpOp} {r : R2} (ho : OpR X (compareOp op) r) (ha : PE X a ta) (hb : PE X b tb) (hm : behindInMarks op b = false) : PT X (.Compare a [op] [b] pos) (tTr X.K (tOp r ta tb)) :=
  ⟨fun pins s σ H Q I h => wpAny_isTrue_Compare1 (thn (ha.run pins s σ H _ I h) fun v s1 ⟨x, H1, I1, r1, q1⟩ => thn (hb.run pins s1 σ H1 _ I1 q1) fun w s2 ⟨y, H2, I2, r2, q2⟩ =>
    thn (ho pins s2 σ H2 x y v w _ I2 r1 r2 q2) fun c s3 ⟨z, H3, I3, r3, q3⟩ => tru_ok pins s3 σ H3 z c Q I3 r3 q3) hm⟩
/-- a choice as a test -/
def tIfB (c x y : TT) : TT := fun σ H Q => c σ H fun k H1 => if k = true then x σ H1 Q else y σ H1 Q
theorem pt_if {c : PySem.Expr} {uc ua ub : TT} (hc : PT X c uc) (ha : PT X a ua) (hb : PT X b ub) : PT X (.IfExp c a b pos) (tIfB uc ua ub) :=
  ⟨fun pins s σ H Q I h => isTrue_IfExp (thn (hc.run pins s σ H _ I h) fun k s1 ⟨H1, I1, q1⟩ => by
    cases k with
    | true => exact ha.run pins s1 σ H1 Q I1 q1
    | false => exact hb.run pins s1 σ H1 Q I1 q1)⟩
/-- a def of the text's own is called where no text of an object is being made -/
theorem run_g {k : Nat} {f : Addr} {fd : FuncData} {ps : List Str} {sp : Sp} {pins : List (Addr × Obj)} {σ : L2.St} {H : Hp} {s : Shared} {Q : VK} {us : List Value} {vs : List V} {E : L2.St → XK}
    (F : FnG X.prog X.w X.K X.mg X.base k f fd ps sp) (hgd : X.A.guards = some []) (hr : Room k X.A) (hb : Binds X.K fd ps []) (hx : PassesAt (L2.CX X.prog X.w) X σ (E σ)) (I : Inv X pins σ H s) (r : Vals vs us) (h : sp vs H Q (E σ)) :
    wpAny (model X.prog X.w) X.A (call (.ref f) us) (EP X pins σ Q) X.xe s := by
  have hl : us.length = ps.length := by rw [← r.length]; exact F.len _ _ _ _ h
  have bd := hb s us I.kIn (by rw [List.append_nil]; exact hl)
  rw [List.append_nil] at bd
  refine wpAny_call (codeAny_mono (F.run X.A X.stack s H ⟨us, []⟩ us vs Q (E σ) hgd hr I.env0 bd r h) fun res s' hq => ?_)
  cases res with
  | error x => exact hx pins H s x s' I hq
  | ok fl =>
    cases fl with
    | ret v => exact I.after hq
    | next => exact hq.elim
    | brk => exact hq.elim
    | cont => exact hq.elim
theorem pe_g {k : Nat} {f : Addr} {fd : FuncData} {ps : List Str} {sp : Sp} {E : L2.St → XK} {x : Str} {w : TA} (F : FnG X.prog X.w X.K X.mg X.base k f fd ps sp) (hgd : X.A.guards = some []) (hr : Room k X.A) (hg : Gl X x) (hm : X.mg x = some (.ref f)) (hk : PySem.W.keepIn X.K (.ref f) = true)
    (hb : Binds X.K fd ps []) (hx : ∀ σ, PassesAt (L2.CX X.prog X.w) X σ (E σ)) (ha : PA X (e :: es) w) (hdb : (x == ("__debug__" : Str)) = false) (he : starEach (e :: es) X.env = (false, eval e X.env) :: starEach es X.env) (hpl : (backTo pos (starEach es X.env)).any (·.1) = false) :
    PE X (.Call (.Name x p) (e :: es) [] pos) (tCallS sp E w) :=
  ⟨fun pins s σ H Q I h => wpAny_Call_Name_kw (ld_glob I hg hm (PySem.W.callWith_K (h₀ := X.base) I.ok.mod.kin hk (thn (ha.run pos pins s σ H _ I h) fun us s1 ⟨vs, H1, I1, r, q⟩ => ⟨I1.kIn, run_g F hgd hr hb (hx σ) I1 r q⟩) he hpl) hdb)⟩
theorem pe_g0 {k : Nat} {f : Addr} {fd : FuncData} {ps : List Str} {sp : Sp} {E : L2.St → XK} {x : Str} (F : FnG X.prog X.w X.K X.mg X.base k f fd ps sp) (hgd : X.A.guards = some []) (hr : Room k X.A) (hg : Gl X x) (hm : X.mg x = some (.ref f)) (hk : PySem.W.keepIn X.K (.ref f) = true)
    (hb : Binds X.K fd ps []) (hx : ∀ σ, PassesAt (L2.CX X.prog X.w) X σ (E σ)) (hdb : (x == ("__debug__" : Str)) = false) : PE X (.Call (.Name x p) [] [] pos) (tCallS sp E tNil) :=
  ⟨fun pins s σ H Q I h => wpAny_Call_Name_kw (ld_glob I hg hm (PySem.W.callWith_K0 I.kIn hk (run_g (us := []) F hgd hr hb (hx σ) I .nil h)) hdb)⟩
end
section
variable {K : PySem.W.Frag} {cl : String → Addr → Prop} {L : Lk} {σ : L2.St} {Wx : WX} {W : Wd} {H : Hp}
/-- a choice as a test, in the small language -/
theorem tr_iteB {c a b : Ex} {Q : Bool → Hp → Prop} (h : trB K cl L Wx (.ite c a b) σ H Q) : tIfB (trB K cl L Wx c) (trB K cl L Wx a) (trB K cl L Wx b) σ H Q := by
  obtain ⟨W, eH, s, hgo⟩ := h
  refine ⟨W, eH, s, ?_⟩
  simp only [evB, ev] at hgo ⊢
  simp only [muts] at hgo
  cases h1 : ev L c W.st with
  | err => rw [h1] at hgo; exact hgo
  | exc e fs st' => rw [h1] at hgo; exact PostEx.sub hgo fun i h => List.mem_append.mpr (.inl h)
  | ok d k st1 =>
    rw [h1] at hgo
    dsimp only at hgo ⊢
    cases h2 : truthD d with
    | none => rw [h2] at hgo; exact hgo.elim
    | some t =>
      rw [h2] at hgo
      dsimp only at hgo
      intro W1 e1 s1 t1
      subst e1
      cases t with
      | true =>
        rw [if_pos rfl] at hgo ⊢
        exact ⟨W1, rfl, s1, GoB.from (r := evB L a W1.st) (by simpa only [evB, if_true] using hgo) s s1 t1 fun i h => by
          rcases List.mem_append.mp h with h | h <;> simp [h]⟩
      | false =>
        rw [if_neg Bool.false_ne_true] at hgo ⊢
        exact ⟨W1, rfl, s1, GoB.from (r := evB L b W1.st) (by simpa only [evB, if_neg Bool.false_ne_true] using hgo) s s1 t1 fun i h => by
          rcases List.mem_append.mp h with h | h <;> simp [h]⟩
end
end VS

-- VS.TupD
/-! tuple(d) of a dict with tuple keys. -/
namespace VS
open PySem PySem.Spec PyProof.Rows L2
section
variable {prog : Program} {w : World} {A : Around} {E : Value → Shared → Prop} {s : Shared} {T : String} {r d : Addr} {n : Nat} {P : Nat → Value → Prop} {OK : Heap → Prop}
theorem code_tuple_kdl {Q₁ : Value → Shared → Prop} (K : PySem.W.KdlSrc prog w T r d n P OK) (hh : A.handled = none) (hok : OK s.heap) (hn : n ≤ sizeLine)
    (h : ∀ (h' : Heap) (tk : Nat) (acc : Array Value), (∀ b o, s.heap.get? b = some o → h'.get? b = some o) → ItemsOf P acc n → Q₁ (.ref h'.objs.size) { s with heap := h'.push { cls := .type "tuple", data := .seq acc }, toks := tk }) :
    codeAny (model prog w) A (.call (.builtin "tuple.__new__") ⟨[.type "tuple", .ref r], []⟩) (wants Q₁ E) s := by
  refine codeAny_of_tree ?_
  show wpAny _ A.in1 (do checkBuiltinCall "tuple.__new__" ⟨[.type "tuple", .ref r], []⟩; again (.builtin "tuple.__new__" ⟨[.type "tuple", .ref r], []⟩)) _ _ s
  refine wpAny_bind (wpAny_of_eq (F.newCall_tuple_1 _) (wpAny_pure ⟨plainId_quiet F.plain_tuple_new _, codeAny_builtin F.entry_tuple_new ?_⟩))
  rw [Around.under_plainId F.plain_tuple_new _]
  have hsub := sub_tuple_self
  have hinit := init_tuple_lookup
  have hmh := madeHere_tuple
  have hTI : s.TypeIs (.ref r) T := K.type s hok
  have hnt := K.notTuple
  have hh1 : A.in1.handled = none := hh
  wp_walk using wpAny_typeOf hTI, PySem.W.kdu_collect (A := A.in1) K hh1 hok hn
  intro h' tk acc hk hacc
  show wpAny _ _ (Builtin.Tuple.tupleExact acc.toList.toArray >>= fun v => ret v) _ _ _
  unfold Builtin.Tuple.tupleExact
  refine wpAny_bind (wpAny_newObj_type ?_ (by show acc.toList.toArray.size ≤ sizeLine; simp only [Array.toArray_toList]; rw [hacc.1]; exact hn))
  refine wpAny_pure ?_
  have e : acc.toList.toArray = acc := by simp
  rw [e]
  exact h h' tk acc hk hacc
theorem call_tuple_kdl {Q : Value → Shared → Prop} (K : PySem.W.KdlSrc prog w T r d n P OK) (hh : A.handled = none) (hok : OK s.heap) (hn : n ≤ sizeLine)
    (hQ : ∀ (h' : Heap) (tk : Nat) (acc : Array Value), (∀ b o, s.heap.get? b = some o → h'.get? b = some o) → ItemsOf P acc n → Q (.ref h'.objs.size) { s with heap := h'.push { cls := .type "tuple", data := .seq acc }, toks := tk }) :
    wpAny (model prog w) A (call (.type "tuple") [.ref r]) Q E s := by
  refine callType_codes (Q₁ := fun obj s₁ => s₁.TypeIs obj "tuple" ∧ Q obj s₁) F.called_tuple (F.typeCall_tuple_1 _) F.entry_object_init
    (code_tuple_kdl (A := A.in1) K hh hok hn fun h' tk acc hk hacc => ⟨⟨_, Heap.get?_push_size _ rfl, rfl⟩, hQ h' tk acc hk hacc⟩) fun obj s₁ h₁ => ?_
  exact ⟨h₁.1, F.args_object_init_2 obj _, object_init_meets F.called_tuple.init.lookup F.called_tuple.made (by decide) prog w A.in1 _ s₁ ⟨h₁.1, rfl, h₁.2⟩⟩
end
section
variable {X : Cx}
def rTupD : List V → Hp → VK → Prop := fun xs H Q => ∃ d kvs, xs = [V.ref d] ∧ H d = some (.dT kvs) ∧ ∀ p bs, H p = none → IsKeys H kvs bs → Q (.ref p) (upd H p (.tup (bs.map V.ref)))
theorem call_tuple_dT (hc : X.calm = true) : CallR X (.type "tuple") rTupD := by
  intro pins s σ H xs us Q I r h
  obtain ⟨d, kvs, rfl, hd, q⟩ := h
  obtain ⟨u, rfl, rx⟩ := vals1 r
  cases rx
  obtain ⟨z, hs, ks, pr, o, es, ep, ho, hx, hdt, he, hn⟩ := (show ObjOk X.prog X.w H s.heap d (.dT kvs) from I.hok d _ hd)
  have l1 : es.size = ks.length := size_of_entries he
  have l2 : kvs.length = ks.length := Paired.length pr
  refine call_tuple_kdl (kdl_raw hs hx hdt) (I.ok.hd hc) ho (by omega) fun h' tk acc' kp it => ?_
  have ea : acc'.toList = ks.map fun x => Value.ref x.2.1 := by
    have hl : acc'.toList.length = ks.length := by rw [Array.length_toList, it.1]; exact l1
    apply List.ext_getElem?
    intro j
    rw [List.getElem?_map]
    cases hj : acc'.toList[j]? with
    | none =>
      have h1 := List.getElem?_eq_none_iff.mp hj
      rw [List.getElem?_eq_none (by omega)]
      all_goals rfl
    | some v =>
      obtain ⟨en, hen, hv⟩ := it.2 j v (by rw [← Array.getElem?_toList]; exact hj)
      have qe := entry_at he j
      rw [hen] at qe
      cases hb : ks[j]? with
      | none =>
        rw [hb] at qe
        exact nomatch (show some en = none from qe)
      | some b =>
        rw [hb] at qe
        have e2 : en = entryOfKey (tupleKind (mixKind X.prog X.w)) b := Option.some.inj qe
        rw [hv, e2]
        all_goals rfl
  have eb : acc'.toList = (ks.map fun x => x.2.1).map Value.ref := by rw [ea, List.map_map]; all_goals rfl
  have rv : Vals ((ks.map fun x => x.2.1).map V.ref) acc'.toList := by rw [eb]; exact vals_refs _
  have hz : ((ks.map fun x => x.2.1).map V.ref).length ≤ sizeLine := by rw [List.length_map, List.length_map]; omega
  have I1 : Inv X pins σ H { s with heap := h', toks := tk } := I.kept (t' := tk) kp
  have I2 : Inv X pins σ (upd H h'.objs.size (.tup ((ks.map fun x => x.2.1).map V.ref))) { s with heap := h'.push { cls := .type "tuple", data := .seq acc' }, toks := tk } :=
    I1.laid (t' := tk) (fun b o e => Heap.get?_push_of_some _ e) (Nat.le_refl _) (show ObjOk X.prog X.w _ _ _ (.tup ((ks.map fun x => x.2.1).map V.ref)) from ⟨hz, acc'.toList, rv, by rw [Array.toArray_toList]; exact IsTup.new _ _⟩)
  exact ⟨.ref h'.objs.size, _, I2, rfl, q _ _ (I1.hok.fresh (Nat.le_refl _)) (isKeys_of pr)⟩
end
section
variable {K : PySem.W.Frag} {ρ : List Addr} {H : Hp} {Sx : Addr → Prop}
def keysD (ps : List (List L2.Key × D)) : List D := ps.map fun p => .tup (p.1.map keyD)
theorem rds_keys : ∀ k : List L2.Key, Rds K ρ H false (k.map keyD) (k.map kV) []
  | [] => .nil
  | .inl i :: r => .cons (F := []) (G := []) .int (rds_keys r)
  | .inr s :: r => .cons (F := []) (G := []) .str (rds_keys r)
theorem cfs_keyD : ∀ k : List L2.Key, cfs (k.map keyD) = true
  | [] => rfl
  | .inl i :: r => by simp [cfs, keyD, cf, cfs_keyD r]
  | .inr s :: r => by simp [cfs, keyD, cf, cfs_keyD r]
theorem cfs_keysD : ∀ ps : List (List L2.Key × D), cfs (keysD ps) = true
  | [] => rfl
  | p :: r => by
    have := cfs_keysD r
    simp only [keysD] at this
    simp [keysD, cfs, cf, cfs_keyD, this]
theorem ins_keys : ∀ {ps : List (List L2.Key × D)} {kvs : List (List L2.Key × V)} {bs : List Addr}, Insk K ρ H Sx ps kvs → IsKeys H kvs bs → Ins K ρ H Sx (keysD ps) (bs.map V.ref)
  | [], _, _, .nil, .nil => .nil
  | _ :: _, _, _, .cons h t, .cons h' t' => .cons ⟨[], .tup (by rw [h.1]; exact h') (rds_keys _), fun _ m => nomatch m⟩ (ins_keys t t')
/-- tuple(x) of a list, a tuple, a dict with tuple keys -/
theorem sc_tuple : Sc1 K .tupleOf (fun xs H Q => (∃ p ys, xs = [.ref p] ∧ ((SqL K H p ys ∧ ∀ l, H l = none → Q (.ref l) (upd H l (.tup ys))) ∨ (SqT K H p ys ∧ Q (.ref p) H))) ∨ rTupD xs H Q) := by
  intro ρ H Sx d1 d k v1 Q h e w
  cases d1 <;> try (exact nomatch (show (none : Option (D × Bool)) = some (d, k) from e))
  · obtain ⟨rfl, rfl⟩ := some_pair e
    obtain ⟨a, vs, rfl, s1, i1⟩ := h.tup
    exact .inl ⟨a, vs, rfl, .inr ⟨SqT.of s1, w _ H (Same.refl H) (Res.tupOld i1 s1)⟩⟩
  · obtain ⟨rfl, rfl⟩ := some_pair e
    obtain ⟨a, vs, rfl, s1, i1⟩ := h.lst
    exact .inl ⟨a, vs, rfl, .inl ⟨s1, fun l hl => w _ _ (Same.put hl) (Res.tup i1 hl)⟩⟩
  · rename_i ps
    obtain ⟨rfl, rfl⟩ := some_pair (show some (D.tup (keysD ps), true) = some (d, k) from e)
    obtain ⟨a, kvs, rfl, s1, i1⟩ := h.dctT
    refine .inr ⟨a, kvs, rfl, s1, fun p bs hp hb => w _ _ (Same.put hp) ?_⟩
    have r := Res.tup (ins_keys i1 hb) hp
    rw [cfs_keysD] at r
    exact r
end
end VS

-- VS.MaxL
section
set_option maxHeartbeats 1000000
/-! max(xs), max(xs, default=d), isinstance, list(range(..)). -/
namespace VS
open PySem PySem.Spec PyProof.Rows L2
theorem maxI_mem : ∀ (l : List Int) (m : Int), maxI m l = m ∨ maxI m l ∈ l
  | [], m => .inl rfl
  | x :: r, m => by
    unfold maxI
    rcases maxI_mem r (if x > m then x else m) with h | h
    · rw [h]; split
      · exact .inr (by simp)
      · exact .inl rfl
    · exact .inr (by simp [h])
theorem maxI_le : ∀ (l : List Int) (m : Int), m ≤ maxI m l ∧ ∀ y ∈ l, y ≤ maxI m l
  | [], m => ⟨by unfold maxI; omega, fun _ h => nomatch h⟩
  | x :: r, m => by
    unfold maxI
    obtain ⟨h1, h2⟩ := maxI_le r (if x > m then x else m)
    by_cases hx : x > m
    · rw [if_pos hx] at h1 h2 ⊢
      exact ⟨by omega, fun y hy => (List.mem_cons.mp hy).elim (fun e => by rw [e]; exact h1) (h2 y)⟩
    · rw [if_neg hx] at h1 h2 ⊢
      exact ⟨h1, fun y hy => (List.mem_cons.mp hy).elim (fun e => by rw [e]; omega) (h2 y)⟩
theorem maxOr_is {ns : List Int} {d m : Int} (h0 : 0 < ns.length) (h1 : m ∈ ns) (h2 : ∀ y ∈ ns, y ≤ m) : m = maxOr d ns := by
  cases ns with
  | nil => simp at h0
  | cons x r =>
    show m = maxI x r
    obtain ⟨a, b⟩ := maxI_le r x
    have c : maxI x r ≤ m := by
      rcases maxI_mem r x with h | h
      · rw [h]; exact h2 x (by simp)
      · exact h2 _ (by simp [h])
    rcases List.mem_cons.mp h1 with e | e
    · omega
    · have := b m e; omega
section
variable {prog : Program} {w : World} {A : Around} {R : Result → Shared → Prop} {I : Addr} {fp wr : List Addr} {n : Nat} {P : Nat → Value → Prop} {St : Nat → Heap → Prop}
theorem maxLoop (kw : List (Str × Value)) (wk : Walks prog w A.in1 I fp wr n P St) (bt : Nat → Nat → Bool) (cmp : CmpOf prog w A.in1 .Gt P bt) (B : Addr) (nB : B ∉ fp) :
    ∀ (r j : Nat) (s : Shared) (vb : Value) (c : Nat), n - (j + 1) = r → j + 1 ≤ n → St (j + 1) s.heap → P (argBest bt j) vb → s.heap.get? B = some { cls := .type "list", dict := none, data := .seq #[vb, vb] c, slots := #[] } →
    (∀ v h' tk, P (argBest bt (n - 1)) v → (∀ b o, b ∉ wr → b ≠ B → s.heap.get? b = some o → h'.get? b = some o) → R (.ok (.ret v)) { s with heap := h', toks := tk }) → codeAny (model prog w) A (.builtin "max.loop" ⟨[.ref I, .none, .ref B], kw⟩) R s := by
  have wB : B ∉ wr := fun h => nB (wk.sub _ h)
  have nm : (toString "max" ++ toString ".loop" : String) = "max.loop" := by decide
  intro r
  induction r with
  | zero =>
    intro j s vb c er ej st pb hB fin
    have en : j + 1 = n := by omega
    refine codeAny_builtin PySem.F.entry_max_loop ?_; rw [Around.under_plainId PySem.F.plain_max_loop _]; show wpAny _ A.in1 (seqItems? (.ref B) >>= _) _ _ s
    refine wpAny_bind (wpAny_seqItems hB rfl ?_); show wpAny _ A.in1 (tryCatch (pyNext (.ref I)) _ >>= _) _ _ s
    refine wpAny_bind (wpAny_tryCatch (wk.done s _ _ (en ▸ st) fun u tk k => ?_))
    have hB' := k B _ wB hB
    show wpAny _ A.in1 (updateSeq B (fun _ => #[]) >>= _) _ _ _; refine wpAny_bind ?_; refine wpAny_updateSeq hB' rfl (wpAny_bind (wpAny_letGo (wpAny_pure ?_)))
    exact fin vb _ tk (by rw [← en]; exact pb) fun b o b1 b2 e => (Heap.get?_update_other _ _ (Ne.symm b2)).trans (k b o b1 e)
  | succ r ih =>
    intro j s vb c er ej st pb hB fin
    have lt : j + 1 < n := by omega
    refine codeAny_builtin PySem.F.entry_max_loop ?_; rw [Around.under_plainId PySem.F.plain_max_loop _]; show wpAny _ A.in1 (seqItems? (.ref B) >>= _) _ _ s
    refine wpAny_bind (wpAny_seqItems hB rfl ?_); show wpAny _ A.in1 (tryCatch (pyNext (.ref I)) _ >>= _) _ _ s
    refine wpAny_bind (wpAny_tryCatch (wk.item (j + 1) s _ _ lt st fun v u tk pv st' k => ?_))
    have hB' := k B _ wB hB
    show wpAny _ A.in1 (tryCatch (holding [v, v] (richCompare .Gt v vb >>= _)) _ >>= _) _ _ _; refine wpAny_bind (wpAny_tryCatch (wpAny_holding (wpAny_bind (cmp (j + 1) (argBest bt j) v vb _ _ _ pv pb ?_))))
    refine wpAny_bind (wpAny_holding (wpAny_truthy_bool ?_)); refine wpAny_bind (wpAny_letGo (wpAny_pure ?_))
    cases hb : bt (j + 1) (argBest bt j) with
    | true =>
      simp only [if_true]; refine wpAny_bind ?_; refine wpAny_updateSeq hB' rfl (wpAny_bind (wpAny_letGo ?_)); rw [nm]
      refine wpAny_pure ⟨plainId_quiet PySem.F.plain_max_loop _, ih (j + 1) _ v _ (by omega) lt (wk.frame _ _ _ st' fun b bf o e => (Heap.get?_update_other _ _ (fun h : B = b => nB (by rw [h]; exact bf))).trans e) (by simp only [argBest, hb, if_true]; exact pv) (Heap.get?_update_self _ hB' rfl) fun v' u' tk' pv' k' => ?_⟩
      exact fin v' u' tk' pv' fun b o b1 b2 e => k' b o b1 b2 ((Heap.get?_update_other _ _ (Ne.symm b2)).trans (k b o b1 e))
    | false =>
      simp only [Bool.false_eq_true, if_false]; refine wpAny_bind (wpAny_letGo ?_); rw [nm]
      exact wpAny_pure ⟨plainId_quiet PySem.F.plain_max_loop _, ih (j + 1) _ vb c (by omega) lt st' (by simp only [argBest, hb, Bool.false_eq_true, if_false]; exact pb) hB' fun v' u' tk' pv' k' => fin v' u' tk' pv' fun b o b1 b2 e => k' b o b1 b2 (k b o b1 e)⟩
theorem maxFirst (kw : List (Str × Value)) (wk : Walks prog w A.in1 I fp wr n P St) (bt : Nat → Nat → Bool) (cmp : CmpOf prog w A.in1 .Gt P bt) (B : Addr) (nB : B ∉ fp) (h0 : 0 < n) {s : Shared} {c : Nat} (st : St 0 s.heap) (hB : s.heap.get? B = some { cls := .type "list", dict := none, data := .seq #[] c, slots := #[] })
    (fin : ∀ v h' tk, P (argBest bt (n - 1)) v → (∀ b o, b ∉ wr → b ≠ B → s.heap.get? b = some o → h'.get? b = some o) → R (.ok (.ret v)) { s with heap := h', toks := tk }) : codeAny (model prog w) A (.builtin "max.loop" ⟨[.ref I, .none, .ref B], kw⟩) R s := by
  have wB : B ∉ wr := fun h => nB (wk.sub _ h)
  have nm : (toString "max" ++ toString ".loop" : String) = "max.loop" := by decide
  refine codeAny_builtin PySem.F.entry_max_loop ?_; rw [Around.under_plainId PySem.F.plain_max_loop _]; show wpAny _ A.in1 (seqItems? (.ref B) >>= _) _ _ s
  refine wpAny_bind (wpAny_seqItems hB rfl ?_); show wpAny _ A.in1 (tryCatch (pyNext (.ref I)) _ >>= _) _ _ s
  refine wpAny_bind (wpAny_tryCatch (wk.item 0 s _ _ h0 st fun v u tk pv st' k => ?_))
  have hB' := k B _ wB hB
  show wpAny _ A.in1 (updateSeq B (fun _ => #[v, v]) >>= _) _ _ _; refine wpAny_bind ?_; refine wpAny_updateSeq hB' rfl ?_; rw [nm]
  refine wpAny_pure ⟨plainId_quiet PySem.F.plain_max_loop _, maxLoop kw wk bt cmp B nB _ 0 _ v _ rfl h0 (wk.frame _ _ _ st' fun b bf o e => (Heap.get?_update_other _ _ (fun h : B = b => nB (by rw [h]; exact bf))).trans e) pv (Heap.get?_update_self _ hB' rfl) fun v' u' tk' pv' k' => ?_⟩
  exact fin v' u' tk' pv' fun b o b1 b2 e => k' b o b1 b2 ((Heap.get?_update_other _ _ (Ne.symm b2)).trans (k b o b1 e))
/-- nothing comes: the default -/
theorem maxNone {d : Value} (wk : Walks prog w A.in1 I fp wr 0 P St) (B : Addr) (nB : B ∉ fp) {s : Shared} {c : Nat} (st : St 0 s.heap) (hB : s.heap.get? B = some { cls := .type "list", dict := none, data := .seq #[] c, slots := #[] })
    (fin : ∀ h' tk, (∀ b o, b ∉ wr → b ≠ B → s.heap.get? b = some o → h'.get? b = some o) → R (.ok (.ret d)) { s with heap := h', toks := tk }) : codeAny (model prog w) A (.builtin "max.loop" ⟨[.ref I, .none, .ref B], [(Str.ofString "default", d)]⟩) R s := by
  refine codeAny_builtin PySem.F.entry_max_loop ?_; rw [Around.under_plainId PySem.F.plain_max_loop _]; show wpAny _ A.in1 (seqItems? (.ref B) >>= _) _ _ s
  refine wpAny_bind (wpAny_seqItems hB rfl ?_); show wpAny _ A.in1 (tryCatch (pyNext (.ref I)) _ >>= _) _ _ s
  refine wpAny_bind (wpAny_tryCatch (wk.done s _ _ st fun u tk k => ?_))
  exact wpAny_bind (wpAny_rule (wpAny_pure (fin u tk fun b o b1 _ e => k b o b1 e)))
theorem args_dflt (a v : Value) : PySem.argsOk "max" ⟨[a], [(Str.ofString "default", v)]⟩ := by unfold PySem.argsOk; kernel_rfl
theorem max_dflt {E : Value → Shared → Prop} {s : Shared} {l : Addr} {its : List Value} {ns : List Int} {d : Int} {t : Tok} {Q : Value → Shared → Prop} (hh : A.handled = none) (hl : s.heap.IsList l its.toArray) (hi : IntsAre its ns)
    (h : ∀ h' tk t', (∀ b o, s.heap.get? b = some o → h'.get? b = some o) → Q (.int (maxOr d ns) t') { s with heap := h', toks := tk }) : wpAny (model prog w) A (call (.builtin "max") [.ref l] [(Str.ofString "default", .int d t)]) Q E s := by
  obtain ⟨xs, e⟩ := hi.allInts.items
  have hn : numsOf (intItems xs).toList = ns := by rw [← e]; exact hi.numsOf
  rw [nums_intItems] at hn
  rw [e] at hl
  have nm : (toString "max" ++ toString ".loop" : String) = "max.loop" := by decide
  refine kmk_tree PySem.F.kind_max PySem.F.plain_max PySem.F.entry_max (args_dflt _ _) ?_
  show wpAny _ A.in1 (Builtin.Builtins.bindParams "max" ["key", "default"] 0 ⟨[], [(Str.ofString "default", Value.int d t)]⟩ >>= _) _ _ s
  refine wpAny_bind (wpAny_of_eq (show Builtin.Builtins.bindParams "max" ["key", "default"] 0 ⟨[], [(Str.ofString "default", Value.int d t)]⟩ = pure [none, some (Value.int d t)] from rfl) ?_)
  refine wpAny_bind (wpAny_pure ?_)
  refine wpAny_bind (iter_intList hl fun s2 e2 st bd nl => ?_)
  subst e2
  refine wpAny_bind (wpAny_newObj_type ?_)
  have W : Walks prog w A.in1 s.heap.objs.size [s.heap.objs.size, l] [s.heap.objs.size] (intItems xs).size (fun i v => (intItems xs)[i]? = some v) (fun i h => h.IsListIter s.heap.objs.size l i ∧ h.IsList l (intItems xs)) := Walks.list (A := A.in1) hh s.heap.objs.size l nl (intItems xs)
  rw [nm]
  generalize hs2 : ({ s with heap := s.heap.push { cls := .type "list_iterator", data := .fields #[.ref l, .int 0 0] } } : Shared) = s2 at st bd
  have old : ∀ b o, s.heap.get? b = some o → s2.heap.get? b = some o := fun b o e => by rw [← hs2]; exact Heap.get?_push_of_some _ e
  have nB : s2.heap.objs.size ∉ [s.heap.objs.size, l] := fun m => Nat.lt_irrefl _ (bd _ m)
  have e2 : ∀ (u : Heap) (tk : Nat), ({ s2 with heap := u, toks := tk } : Shared) = { s with heap := u, toks := tk } := fun u tk => by rw [← hs2]
  have sz : s2.heap.objs.size = s.heap.objs.size + 1 := by rw [← hs2]; exact Heap.size_push ..
  refine wpAny_pure ⟨plainId_quiet PySem.F.plain_max_loop _, ?_⟩
  have kk : ∀ (u : Heap), (∀ b o, b ∉ [s.heap.objs.size] → b ≠ s2.heap.objs.size → (s2.heap.push { cls := .type "list", data := .seq #[] }).get? b = some o → u.get? b = some o) → ∀ b o, s.heap.get? b = some o → u.get? b = some o := fun u k b o e => by
    have lt := Heap.lt_size e
    exact k b o (fun m => absurd (List.mem_singleton.mp m) (Nat.ne_of_lt lt)) (Nat.ne_of_lt (by rw [sz]; exact Nat.lt_succ_of_lt lt)) (Heap.get?_push_of_some _ (old b o e))
  cases ns with
  | nil =>
    have e0 : (intItems xs).size = 0 := by
      have : xs.toList.map (·.1) = [] := hn
      have h1 : xs.size = 0 := by have := congrArg List.length this; simpa using this
      simpa [intItems] using h1
    rw [e0] at W
    refine maxNone W s2.heap.objs.size nB (W.frame _ _ _ st fun b _ o e => Heap.get?_push_of_some _ e) (Heap.get?_push_size _ rfl) fun u tk k => ?_
    have := h u tk t (kk u k)
    rw [← e2] at this
    exact this
  | cons n0 r0 =>
    have hsz : 0 < xs.size := by
      have := congrArg List.length hn
      rw [List.length_map, Array.length_toList, List.length_cons] at this
      omega
    refine maxFirst _ W _ (CmpOf.ints_gt (numAt xs) (fun _ _ => intItems_at)) s2.heap.objs.size nB (by simpa [intItems] using hsz) (W.frame _ _ _ st fun b _ o e => Heap.get?_push_of_some _ e) (Heap.get?_push_size _ rfl) fun v u tk pv k => ?_
    have pv' : (intItems xs)[argBest (fun i j => decide (numAt xs i > numAt xs j)) (xs.size - 1)]? = some v := by simpa [intItems] using pv
    obtain ⟨t', rfl⟩ := intItems_at pv'
    obtain ⟨h1, h2⟩ := argBest_gt (numAt xs) (xs.size - 1)
    have em : numAt xs (argBest (fun i j => decide (numAt xs i > numAt xs j)) (xs.size - 1)) = maxOr d (n0 :: r0) := by
      refine maxOr_is (by simp) ?_ fun y hy => ?_
      · rw [← hn, numAt_eq]; exact PySem.getD_mem (by rw [List.length_map, Array.length_toList]; omega)
      · rw [← hn] at hy
        obtain ⟨j, hj, rfl⟩ := mem_getD hy
        rw [List.length_map, Array.length_toList] at hj
        rw [← numAt_eq]; exact h2 j (by omega)
    have := h u tk t' (kk u k)
    rw [← em, ← e2] at this
    exact this
end
section
variable {X : Cx}
/-- max(xs, default=d) -/
def rMaxDf (K : PySem.W.Frag) : List V → List V → Hp → VK → Prop := fun vs zs H Q => ∃ (a : Addr) (ns : List Int) (d : Int), vs = [V.ref a] ∧ zs = [.int d] ∧ SqL K H a (ns.map V.int) ∧ Q (.int (maxOr d ns)) H
theorem cr_maxDf (hc : X.calm = true) : CallRK X (.builtin "max") [Str.ofString "default"] (rMaxDf X.K) := by
  intro pins s σ H vs zs us ws Q I r rz h
  obtain ⟨a, ns, d, rfl, rfl, hs, q⟩ := h
  obtain ⟨its, rv, hl, _⟩ := I.list hs
  rw [Vals.ref1 r]
  obtain ⟨w1, rfl, t, rfl⟩ := vals1 rz
  exact max_dflt (I.ok.hd hc) hl.isList rv.ints fun h' tk t' hk => ⟨.int _, H, I.kept hk, ⟨_, rfl⟩, q⟩
theorem sc_maxL : Sc1 X.K .maxL (rMax X.K) := by
  intro ρ H Sx d1 d k v1 Q h e w
  cases d1 <;> first | (exact nomatch (show (none : Option (D × Bool)) = some (d, k) from e)) | skip
  rename_i xs
  simp only [op1] at e
  cases hi : intsOf xs with
  | none => rw [hi] at e; cases e
  | some ns =>
    rw [hi] at e
    dsimp only [Option.bind] at e
    split at e
    · cases e
    · rename_i hne
      obtain ⟨rfl, rfl⟩ := some_pair e
      obtain ⟨a, vs, rfl, s1, i1⟩ := h.lst
      rw [intsOf_eq hi] at i1
      rw [i1.ints] at s1
      have h0 : 0 < ns.length := by
        cases ns with
        | nil => simp at hne
        | cons _ _ => simp
      refine ⟨a, ns, rfl, s1, h0, fun m h1 h2 => ?_⟩
      rw [maxOr_is (d := 0) h0 h1 h2]
      exact q_int w rfl
/-- isinstance -/
def tnS : Tn → String
  | .int => "int"
  | .bool => "bool"
  | .str => "str"
  | .list => "list"
  | .tuple => "tuple"
  | .dict => "dict"
theorem ty_of {ρ : List Addr} {H : Hp} {Sx : Addr → Prop} {t : Tn} {d : D} {b : Bool} {v : V} (h : In X.K ρ H Sx d v) (e : isTy t d = some b) : ∃ n, TyX X.K H v (.type n) ∧ PySem.W.kitOne X.K (.type n) (.type (tnS t)) = some b := by
  cases d with
  | obj _ => cases e
  | non => cases e; rw [h.non]; exact ⟨_, .base .non, by cases t <;> exact kit_ty (by decide +kernel)⟩
  | bl _ => cases e; rw [h.bl]; exact ⟨_, .base (.bl _), by cases t <;> exact kit_ty (by decide +kernel)⟩
  | int _ => cases e; rw [h.int]; exact ⟨_, .base (.int _), by cases t <;> exact kit_ty (by decide +kernel)⟩
  | str _ => cases e; rw [h.str]; exact ⟨_, .base (.str _), by cases t <;> exact kit_ty (by decide +kernel)⟩
  | tup _ => cases e; obtain ⟨a, vs, rfl, ha, _⟩ := h.tup; exact ⟨_, .base (.tup ha), by cases t <;> exact kit_ty (by decide +kernel)⟩
  | dct _ => cases e; obtain ⟨a, vs, rfl, ha, _⟩ := h.dct; exact ⟨_, .base (.dK ha), by cases t <;> exact kit_ty (by decide +kernel)⟩
  | dctT _ => cases e; obtain ⟨a, vs, rfl, ha, _⟩ := h.dctT; exact ⟨_, .base (.dT ha), by cases t <;> exact kit_ty (by decide +kernel)⟩
  | lst _ =>
    cases e
    obtain ⟨a, vs, rfl, s1, _⟩ := h.lst
    refine ⟨"list", ?_, by cases t <;> exact kit_ty (by decide +kernel)⟩
    rcases s1 with (s1 | ⟨o, s1⟩) | ⟨o, its, n, s1, s2, _⟩
    · exact .base (.lst s1)
    · exact .base (.frz s1)
    · exact .kList s1 s2
theorem sc_isT (t : Tn) : Sc1 X.K (.isT t) (fun xs H Q => ∃ x, xs = [x] ∧ rIsi X.K [x, .ty (tnS t)] H Q) := by
  intro ρ H Sx d1 d k v1 Q h e w
  simp only [op1] at e
  cases hb : isTy t d1 with
  | none => rw [hb] at e; cases e
  | some b =>
    rw [hb] at e
    obtain ⟨rfl, rfl⟩ := some_pair e
    obtain ⟨n, h1, h2⟩ := ty_of h hb
    exact ⟨v1, rfl, v1, _, _, _, b, rfl, .ty _, h1, h2, q_bl w rfl⟩
/-- list(range(a, b)) -/
theorem vals_of : ∀ {xs : List V} {us : List Value}, xs.length = us.length → (∀ (i : Nat) (x : V) (v : Value), xs[i]? = some x → us[i]? = some v → RelV x v) → Vals xs us
  | [], [], _, _ => .nil
  | [], _ :: _, h, _ => by cases h
  | _ :: _, [], h, _ => by cases h
  | x :: xs, u :: us, h, k => .cons (k 0 x u rfl rfl) (vals_of (by simpa using h) fun i x v e1 e2 => k (i + 1) x v (by simpa using e1) (by simpa using e2))
theorem range_ints {a : Int} {n : Nat} {acc : Array Value} (h : ItemsOf (fun i v => ∃ t, v = .int (a + i * 1) t) acc n) : Vals ((List.range n).map fun (i : Nat) => V.int (a + (i : Int))) acc.toList := by
  obtain ⟨h1, h2⟩ := h
  refine vals_of (by simp [h1]) fun i x v e1 e2 => ?_
  have hv : acc[i]? = some v := by simpa using e2
  obtain ⟨t, rfl⟩ := h2 i v hv
  have hi : i < n := by
    have := (Array.getElem?_eq_some_iff.mp hv).1
    rw [h1] at this
    exact this
  rw [List.getElem?_map, List.getElem?_range hi] at e1
  cases e1
  exact ⟨t, by rw [Int.mul_one]⟩
theorem call_list_rng (hc : X.calm = true) : CallR X (.type "list") (fun vs H Q => ∃ (p : Addr) (a b : Int), vs = [V.ref p] ∧ H p = some (.rng a b) ∧ (-1000000 < a ∧ a < 1000000 ∧ -1000000 < b ∧ b < 1000000) ∧ ∀ q, H q = none → Q (.ref q) (upd H q (.lst ((List.range (b - a).toNat).map fun (i : Nat) => V.int (a + (i : Int)))))) := by
  intro pins s σ H vs us Q I r h
  obtain ⟨p, a, b, rfl, hp, hb, fin⟩ := h
  rw [Vals.ref1 r]
  obtain ⟨t1, t2, t3, ho⟩ := I.hok p _ hp
  have sz : Builtin.Range.rangeSize a b 1 = ((b - a).toNat : Int) := by rw [rangeSize_one]; split <;> omega
  refine call_list_range (I.ok.hd hc) ho (small_one (by omega) (by omega) (by omega) (by omega)) sz (by omega) fun h' tk acc c k hS items => ?_
  refine ⟨.ref _, _, I.laid (t' := tk) k (Nat.le_refl _) (show ObjOk X.prog X.w _ h' _ (.lst ((List.range (b - a).toNat).map fun (i : Nat) => V.int (a + (i : Int)))) from ⟨?_, acc.toList, c, range_ints items, ?_⟩), rfl, fin _ (I.hok.fresh (Nat.le_refl _))⟩
  · rw [List.length_map, List.length_range]
    have : (sizeLine : Nat) = 16777216 := sizeLine_eq
    omega
  · rw [Array.toArray_toList]; exact hS
end
end VS

end

-- VS.Chk2
/-! The operators of the text and those of the small language. -/
namespace VS
open PySem PySem.Spec PyProof.Rows L2

section
variable {X : Cx}
theorem ix_dct (hu : X.A.units + 1 < cLine) : IxR X rGetD := by
  intro value slice pins s σ H x y v u Q I rx ry h hs
  obtain ⟨a, w, rfl, g, q⟩ := h
  cases rx
  have isD := dict_typeIs I g
  have got : wpAny (model X.prog X.w) X.A (getItem (.ref a) u) (EP X pins σ Q) X.xe s := d_getItem hu I g ry fun w' s3 I3 rw' => ⟨w, H, I3, rw', q⟩
  have rest : wpAny (model X.prog X.w) X.A (subscripted slice false (.ref a) u) (fun r s3 => wpAny (model X.prog X.w) X.A (letTemporaryGo value (.ref a) r >>= fun _ => pure r) (EP X pins σ Q) X.xe s3) X.xe s := by
    rw [hs]
    exact wpAny_operating (thn got fun r s3 z => wpAny_bind (wpAny_letTemporaryGo (wpAny_pure z)))
  unfold subscriptTail
  rw [getitemInPython_of_ne isD.not_modules]
  refine wpAny_bind (wpAny_bind (wpAny_specialOf isD PySem.F.slot_dict_getitem.lookup ?_))
  first
    | exact wpAny_bind (wpAny_pure (wpAny_bind rest))
    | exact wpAny_pure (wpAny_bind rest)
    | exact wpAny_bind rest
theorem op_inDict (hu : X.A.units + 1 < cLine) : OpR X (compareOp .In) (rInDict false) := by
  intro pins s σ H x y v u Q I rx ry h
  obtain ⟨a, o, rfl, g, q⟩ := h
  cases ry
  exact d_in hu I g rx fun s3 I3 => ⟨.bl o.isSome, H, I3, rfl, q⟩
theorem op_notinDict (hu : X.A.units + 1 < cLine) : OpR X (compareOp .NotIn) (rInDict true) := by
  intro pins s σ H x y v u Q I rx ry h
  obtain ⟨a, o, rfl, g, q⟩ := h
  cases ry
  exact d_notIn hu I g rx fun s3 I3 => ⟨.bl (!o.isSome), H, I3, rfl, q⟩
/-- an operator with a rule that serves o -/
def Op2 (X : Cx) (f : Value → Value → Sem Value) (o : O2) : Prop := ∃ r, OpR X f r ∧ ∀ x y, At2 X.K o r x y
def opB : Operator → Option O2
  | .Add => some .add
  | .Sub => some .sub
  | .Mult => some .mul
  | .FloorDiv => some .fdiv
  | .Mod => some .mod
  | .Pow => some .pow
  | .LShift => some .shl
  | .RShift => some .shr
  | .BitAnd => some .band
  | .BitOr => some .bor
  | .BitXor => some .bxor
  | _ => none
theorem opB_ok {op : Operator} {o : O2} (h : opB op = some o) : Op2 X (binaryOp op) o := by
  cases op <;> cases h
  · obtain ⟨r, h1, h2⟩ := sp_add (X := X); exact ⟨r, h1, h2.at⟩
  · exact ⟨_, op_sub, sp_sub.at⟩
  · obtain ⟨r, h1, h2⟩ := sp_mul (X := X); exact ⟨r, h1, h2.at⟩
  · exact ⟨_, op_modN, sp_mod.at⟩
  · exact ⟨_, op_pow, sp_pow.at⟩
  · exact ⟨_, op_shl, sp_shl.at⟩
  · exact ⟨_, op_shr, sp_shr.at⟩
  · exact ⟨_, op_or, sp_bor.at⟩
  · exact ⟨_, op_xor, sp_bxor.at⟩
  · exact ⟨_, op_and, sp_band.at⟩
  · obtain ⟨r, h1, h2⟩ := sp_fdiv (X := X); exact ⟨r, h1, h2.at⟩
def cmpB : CmpOp → Option O2
  | .Eq => some .eq
  | .NotEq => some .ne
  | .Lt => some .lt
  | .LtE => some .le
  | .Gt => some .gt
  | .GtE => some .ge
  | .In => some .inn
  | .NotIn => some .notin
  | _ => none
theorem At2.or {o : O2} {r r' : R2} {x y : D} (h : At2 X.K o r x y ∨ At2 X.K o r' x y) : At2 X.K o (fun a b H Q => r a b H Q ∨ r' a b H Q) x y :=
  fun ρ H Sx d k v1 v2 Q h1 h2 e w => h.elim (fun h => .inl (h ρ H Sx d k v1 v2 Q h1 h2 e w)) (fun h => .inr (h ρ H Sx d k v1 v2 Q h1 h2 e w))
theorem At2.no {o : O2} {r : R2} {x y : D} (h : op2 o x y = none) : At2 X.K o r x y := fun ρ H Sx d k v1 v2 Q h1 h2 e w => by rw [h] at e; cases e
theorem cmpB_ok (hu : X.A.units + 65 < cLine) {op : CmpOp} {o : O2} (h : cmpB op = some o) : Op2 X (compareOp op) o := by
  cases op <;> cases h
  · exact ⟨_, op_eqD (by omega), sp_eq.at⟩
  · exact ⟨_, op_neD (by omega), sp_ne.at⟩
  · exact ⟨_, op_lt, sp_lt.at⟩
  · exact ⟨_, op_le, sp_le.at⟩
  · exact ⟨_, op_gt, sp_gt.at⟩
  · exact ⟨_, op_ge, sp_ge.at⟩
  · refine ⟨_, OpR.or (op_inD hu) (op_inDict (by omega)), fun x y => ?_⟩
    cases y with
    | lst xs => exact At2.or (.inl fun ρ H Sx d k v1 v2 Q h1 h2 e w => sp_inL h1 h2 e w)
    | dct ps => exact At2.or (.inr fun ρ H Sx d k v1 v2 Q h1 h2 e w => sp_inD h1 h2 e w)
    | dctT ps => exact At2.or (.inr fun ρ H Sx d k v1 v2 Q h1 h2 e w => sp_inDT h1 h2 e w)
    | non => exact At2.no (by cases x <;> rfl)
    | bl _ => exact At2.no (by cases x <;> rfl)
    | int _ => exact At2.no (by cases x <;> rfl)
    | str _ => exact At2.no (by cases x <;> rfl)
    | tup _ => exact At2.no (by cases x <;> rfl)
    | obj _ => exact At2.no (by cases x <;> rfl)
  · refine ⟨_, OpR.or (op_notInD hu) (op_notinDict (by omega)), fun x y => ?_⟩
    cases y with
    | lst xs => exact At2.or (.inl fun ρ H Sx d k v1 v2 Q h1 h2 e w => sp_notinL h1 h2 e w)
    | dct ps => exact At2.or (.inr fun ρ H Sx d k v1 v2 Q h1 h2 e w => sp_notinD h1 h2 e w)
    | dctT ps => exact At2.or (.inr fun ρ H Sx d k v1 v2 Q h1 h2 e w => sp_notinDT h1 h2 e w)
    | non => exact At2.no (by cases x <;> rfl)
    | bl _ => exact At2.no (by cases x <;> rfl)
    | int _ => exact At2.no (by cases x <;> rfl)
    | str _ => exact At2.no (by cases x <;> rfl)
    | tup _ => exact At2.no (by cases x <;> rfl)
    | obj _ => exact At2.no (by cases x <;> rfl)
/-- a built-in of one value -/
def Bi (X : Cx) (x : Str) (o : O1) : Prop := ∃ r : List V → Hp → VK → Prop, Sc1 X.K o r ∧ ((∃ id, bootBuiltins x = some (.builtin id) ∧ CallR X (.builtin id) r) ∨ ∃ T, bootBuiltins x = some (.type T) ∧ CallR X (.type T) r)
def biTab : List (Str × O1) := [("len", .len), ("abs", .abs), ("int", .toInt), ("bool", .toBool), ("str", .toStr), ("tuple", .tupleOf), ("list", .listOf), ("repr", .repr), ("sorted", .sortedI), ("sum", .sum), ("max", .maxL)]
theorem bi_ok (hc : X.calm = true) (hg : X.A.guards = some []) (hu : X.A.units + 65 < cLine) {x : Str} {o : O1} (h : (x, o) ∈ biTab) : Bi X x o := by
  simp only [biTab, List.mem_cons, List.not_mem_nil, or_false, Prod.mk.injEq] at h
  rcases h with ⟨rfl, rfl⟩ | ⟨rfl, rfl⟩ | ⟨rfl, rfl⟩ | ⟨rfl, rfl⟩ | ⟨rfl, rfl⟩ | ⟨rfl, rfl⟩ | ⟨rfl, rfl⟩ | ⟨rfl, rfl⟩ | ⟨rfl, rfl⟩ | ⟨rfl, rfl⟩ | ⟨rfl, rfl⟩
  · obtain ⟨r, h1, h2⟩ := sc_len (X := X); exact ⟨r, h2, .inl ⟨_, by decide +kernel, h1⟩⟩
  · exact ⟨_, sc_abs, .inl ⟨_, by decide +kernel, call_abs⟩⟩
  · exact ⟨_, sc_int, .inr ⟨_, by decide +kernel, call_int1⟩⟩
  · exact ⟨_, sc_bool, .inr ⟨_, by decide +kernel, call_bool1⟩⟩
  · exact ⟨_, sc_str, .inr ⟨_, by decide +kernel, call_str_int⟩⟩
  · exact ⟨_, sc_tuple, .inr ⟨_, by decide +kernel, CallR.or call_tuple_of (call_tuple_dT hc)⟩⟩
  · exact ⟨_, sc_list, .inr ⟨_, by decide +kernel, call_list_of⟩⟩
  · exact ⟨_, sc_repr, .inl ⟨_, by decide +kernel, call_reprD hg (by omega)⟩⟩
  · exact ⟨_, sc_sorted, .inl ⟨_, by decide +kernel, cr_sortedI⟩⟩
  · exact ⟨_, sc_sum, .inl ⟨_, by decide +kernel, cr_sum hc⟩⟩
  · exact ⟨_, sc_maxL, .inl ⟨_, by decide +kernel, cr_max hc⟩⟩
end
end VS

-- VS.Chk3
/-! Each form of expression: from its parts' readings. -/
namespace VS
open PySem PySem.Spec PyProof.Rows L2

section
variable {K : PySem.W.Frag} {cl : String → Addr → Prop} {L : Lk} {σ : L2.St} {Wx : WX} {W : Wd} {H : Hp} {Q : VK}
theorem tr_op2 {o : O2} {a b : Ex} {r : R2} (sp : ∀ x y, At2 K o r x y) (h : trE K cl L Wx (.op2 o a b) σ H Q) : tOp r (trE K cl L Wx a) (trE K cl L Wx b) σ H Q := by
  obtain ⟨W, eH, s, hgo⟩ := h
  exact tr_bin eH s hgo fun x _ _ y _ _ _ _ => sp x y
theorem tr_op1 {o : O1} {a : Ex} {r : V → Hp → VK → Prop} (sp : ∀ x, At1 K o r x) (h : trE K cl L Wx (.op1 o a) σ H Q) : trE K cl L Wx a σ H fun v H1 => r v H1 Q := by
  obtain ⟨W, eH, s, hgo⟩ := h
  exact tr_un eH s hgo fun x _ _ _ => sp x
theorem Sc1.at {o : O1} {r : List V → Hp → VK → Prop} (h : Sc1 K o r) (x : D) : At1 K o (fun v => r [v]) x := fun ρ H Sx d k v1 Q => h ρ H Sx x d k v1 Q
theorem at_neg (x : D) : At1 K .neg (rU fun i => .int (-i)) x := by
  intro ρ H Sx d k v1 Q h e w
  cases x <;> try (exact nomatch (show (none : Option (D × Bool)) = some (d, k) from e))
  obtain ⟨rfl, rfl⟩ := some_pair e
  obtain rfl := h.int
  exact ⟨_, rfl, q_int w rfl⟩
/-- whether nothing is there -/
theorem at_isN {b : Bool} (o : O1) (ho : (b = true ∧ o = .isN) ∨ (b = false ∧ o = .notN)) (x : D) : At1 K o (fun v H Q => Q (.bl (if b then decide (v = .non) else !decide (v = .non))) H) x := by
  intro ρ H Sx d k v1 Q h e w
  have hv : x = .non ∨ (x ≠ .non ∧ v1 ≠ .non) := by
    cases x with
    | non => exact .inl rfl
    | bl _ => rw [h.bl]; exact .inr ⟨by simp, by simp⟩
    | int _ => rw [h.int]; exact .inr ⟨by simp, by simp⟩
    | str _ => rw [h.str]; exact .inr ⟨by simp, by simp⟩
    | tup _ => obtain ⟨a, vs, rfl, _⟩ := h.tup; exact .inr ⟨by simp, by simp⟩
    | lst _ => obtain ⟨a, vs, rfl, _⟩ := h.lst; exact .inr ⟨by simp, by simp⟩
    | dct _ => obtain ⟨a, vs, rfl, _⟩ := h.dct; exact .inr ⟨by simp, by simp⟩
    | dctT _ => obtain ⟨a, vs, rfl, _⟩ := h.dctT; exact .inr ⟨by simp, by simp⟩
    | obj _ => obtain ⟨F, h, _⟩ := h; cases h; exact .inr ⟨by simp, by simp⟩
  rcases hv with rfl | ⟨n1, n2⟩
  · obtain rfl := h.non
    rcases ho with ⟨rfl, rfl⟩ | ⟨rfl, rfl⟩
    · obtain ⟨rfl, rfl⟩ := some_pair e
      simpa using q_bl w rfl
    · obtain ⟨rfl, rfl⟩ := some_pair e
      simpa using q_bl w rfl
  · rcases ho with ⟨rfl, rfl⟩ | ⟨rfl, rfl⟩
    · have e' : some (D.bl false, true) = some (d, k) := by cases x <;> first | exact e | exact absurd rfl n1
      obtain ⟨rfl, rfl⟩ := some_pair e'
      simpa [n2] using q_bl w rfl
    · have e' : some (D.bl true, true) = some (d, k) := by cases x <;> first | exact e | exact absurd rfl n1
      obtain ⟨rfl, rfl⟩ := some_pair e'
      simpa [n2] using q_bl w rfl
end
section
variable {X : Cx} {cl : String → Addr → Prop} {L : Lk} {Wx : WX} {e a b : PySem.Expr} {xe xa xb : Ex} {pos p : Pos}
theorem at_idx (x y : D) : At2 X.K .idx (fun a b H Q => rIx X.K a b H Q ∨ rGetD a b H Q) x y := by
  intro ρ H Sx d k v1 v2 Q h1 h2 e w
  cases x with
  | dct ps => exact .inr (sp_idxD h1 h2 e w)
  | dctT ps => exact .inr (sp_idxDT h1 h2 e w)
  | non => exact .inl (sp_idx h1 h2 e (fun _ => by simp) (fun _ => by simp) w)
  | bl _ => exact .inl (sp_idx h1 h2 e (fun _ => by simp) (fun _ => by simp) w)
  | int _ => exact .inl (sp_idx h1 h2 e (fun _ => by simp) (fun _ => by simp) w)
  | str _ => exact .inl (sp_idx h1 h2 e (fun _ => by simp) (fun _ => by simp) w)
  | tup _ => exact .inl (sp_idx h1 h2 e (fun _ => by simp) (fun _ => by simp) w)
  | lst _ => exact .inl (sp_idx h1 h2 e (fun _ => by simp) (fun _ => by simp) w)
  | obj _ => exact .inl (sp_idx h1 h2 e (fun _ => by simp) (fun _ => by simp) w)
theorem ix_any (hu : X.A.units + 1 < cLine) : IxR X (fun a b H Q => rIx X.K a b H Q ∨ rGetD a b H Q) := IxR.or ix_seq (ix_dct hu)
/-- whether an expression is no star -/
def plainE : PySem.Expr → Bool
  | .Starred _ _ => false
  | _ => true
theorem star_plain {env : Env} {es : List PySem.Expr} (h : plainE e = true) : starEach (e :: es) env = (false, eval e env) :: starEach es env := by
  cases e <;> first | rfl | cases h
theorem pa_one (h : PE X e t) (hp : plainE e = true) : PA X [e] (tCons t tNil) := pa_cons h pa_nil (star_plain hp)
theorem ok_bi {x : Str} {o : O1} (hb : Bi X x o) (hg : Gl X x) (hm : X.mg x = none) (hn : x ≠ "__name__") (hd : (x == ("__debug__" : Str)) = false) (hp : plainE a = true) (h : PE X a (trE X.K cl L Wx xa)) : PE X (.Call (.Name x p) [a] [] pos) (trE X.K cl L Wx (.op1 o xa)) := by
  obtain ⟨r, sc, ⟨id, hv, hc⟩ | ⟨T, hv, hc⟩⟩ := hb
  · exact (pe_callB hc hg hm hv (pa_one h hp) hn hd (star_plain hp) rfl).imp fun σ H Q q => tr_op1 sc.at q
  · exact (pe_callTy hc hg hm hv (pa_one h hp) hn hd (star_plain hp) rfl).imp fun σ H Q q => tr_op1 sc.at q
theorem ok_bin {op : Operator} {o : O2} (ho : Op2 X (binaryOp op) o) (ha : PE X a (trE X.K cl L Wx xa)) (hb : PE X b (trE X.K cl L Wx xb)) : PE X (.BinOp a op b pos) (trE X.K cl L Wx (.op2 o xa xb)) := by
  obtain ⟨r, h1, h2⟩ := ho
  exact (pe_op h1 ha hb).imp fun σ H Q q => tr_op2 h2 q
theorem ok_cmp {op : CmpOp} {o : O2} (ho : Op2 X (compareOp op) o) (hm : behindInMarks op b = false) (ha : PE X a (trE X.K cl L Wx xa)) (hb : PE X b (trE X.K cl L Wx xb)) :
    PE X (.Compare a [op] [b] pos) (trE X.K cl L Wx (.op2 o xa xb)) ∧ PT X (.Compare a [op] [b] pos) (trB X.K cl L Wx (.op2 o xa xb)) := by
  obtain ⟨r, h1, h2⟩ := ho
  exact ⟨(pe_cmpR h1 ha hb hm).imp fun σ H Q q => tr_op2 h2 q, (pt_cmpT h1 ha hb hm).imp fun σ H Q q => tr_op2 h2 (tr_truth q)⟩
/-- a test is a value's truth, where the text's form asks no more -/
theorem ok_test (h : PE X e (trE X.K cl L Wx xe)) (he : ∀ whole, isTrue e X.env whole = (do let v ← whole; standAt e.pos; holding [v] (truthy v))) : PT X e (trB X.K cl L Wx xe) := (pt_tr h he).imp fun σ H Q q => tr_truth q
end
end VS

-- VS.Get
/-! d.get(k, x), names of the module, chained comparisons. -/
namespace VS
open PySem PySem.Spec PyProof.Rows L2
section
variable {K : PySem.W.Frag} {cl : String → Addr → Prop} {L : Lk} {σ : L2.St} {Wx : WX} {W : Wd} {Q : VK} {H : Hp}
theorem dj_split {us ps qs : List Nat} (h : disj us (ps ++ qs) = true) : disj us ps = true ∧ disj us qs = true := by
  unfold disj at h ⊢
  simp only [List.all_eq_true] at h ⊢
  refine ⟨fun i hi => ?_, fun i hi => ?_⟩
  · have := h i hi; simp at this; simp [this.1]
  · have := h i hi; simp at this; simp [this.2]
/-- d.get(k, x) -/
theorem tr_get2 {a b c : Ex} (h : trE K cl L Wx (.op3 .get2 a b c) σ H Q) : tDGet2 (trE K cl L Wx a) (trE K cl L Wx b) (trE K cl L Wx c) σ H Q := by
  obtain ⟨W, eH, s, hgo⟩ := h
  refine ⟨W, eH, s, ?_⟩
  simp only [ev] at hgo
  simp only [muts, vars] at hgo
  cases h1 : ev L a W.st with
  | err => rw [h1] at hgo; exact hgo
  | exc x fs st' => rw [h1] at hgo; exact PostEx.sub hgo fun i h => List.mem_append.mpr (.inl h)
  | ok x kx st1 =>
    rw [h1] at hgo
    intro W1 v1 F1 e1 s1 t1 m1 f1
    subst e1
    dsimp only at hgo
    cases h2 : ev L b W1.st with
    | err => rw [h2] at hgo; exact hgo.elim
    | exc y fs st' => rw [h2] at hgo; exact hgo.elim
    | ok y ky st2 =>
      rw [h2] at hgo
      dsimp only at hgo
      cases h3 : ev L c st2 with
      | err => rw [h3] at hgo; exact hgo.elim
      | exc z fs st' => rw [h3] at hgo; exact hgo.elim
      | ok z kz st3 =>
        rw [h3] at hgo
        dsimp only at hgo
        split at hgo
        · rename_i hd
          have hd1 : (kx = true ∨ disj (vars a) (muts b ++ muts c) = true) ∧ (ky = true ∨ disj (vars b) (muts c) = true) := by simpa using hd
          cases h4 : op3 .get2 x y z with
          | none => rw [h4] at hgo; exact hgo.elim
          | some p =>
            obtain ⟨d, k⟩ := p
            rw [h4] at hgo
            dsimp only at hgo
            cases x with
            | dct ps =>
              obtain ⟨a0, kvs, rfl, ha, _⟩ := m1.in.dct
              refine ⟨a0, rfl, .inl ⟨kvs, .inl ha⟩, W1, rfl, s1, ?_⟩
              rw [h2]
              intro W2 v2 F2 e2 s2 t2 m2 f2
              subst e2
              refine ⟨W2, rfl, s2, ?_⟩
              rw [h3]
              intro W3 v3 F3 e3 s3 t3 m3 f3
              subst e3
              have m1' := (m1.step s1 t2 (hd1.1.imp id fun h => (dj_split h).1)).step s2 t3 (hd1.1.imp id fun h => (dj_split h).2)
              have m2' := m2.step s2 t3 hd1.2
              have t := ((t1.trans s s1 t2).trans s s2 t3).mono (ns := muts a ++ (muts b ++ muts c)) fun i h => by simpa [List.append_assoc] using h
              have src : ∀ q, q ∈ F1 → Src W (muts a ++ (muts b ++ muts c)) W3 (vars a ++ (vars b ++ vars c)) q := m1'.cellsrc (fun e q m => (f1 e q m).mono fun i h => by simp [h]) fun i h => by simp [h]
              have src3 : ∀ q, q ∈ F3 → Src W (muts a ++ (muts b ++ muts c)) W3 (vars a ++ (vars b ++ vars c)) q := m3.cellsrc (fun e q m => ((f3 e q m).back s s2 (t1.trans s s1 t2).toStep).mono fun i h => by simpa [List.append_assoc] using h) fun i h => by simp [h]
              have e4 : ((keyOf y).map fun k => ((valD ps k).getD z, cf ((valD ps k).getD z))) = some (d, k) := by cases y <;> exact h4
              cases hk : keyOf y with
              | none => rw [hk] at e4; cases e4
              | some ck =>
                rw [hk] at e4
                obtain ⟨rfl, rfl⟩ := some_pair e4
                obtain ⟨a1, ea, hh⟩ := m1'.in.get (m2'.in) hk
                cases ea
                rcases hh with ⟨g1, g2⟩ | ⟨x, u, g1, g2, g3⟩
                · refine ⟨none, g2, ?_⟩
                  rw [g1] at hgo
                  exact PostOk.res hgo s s3 t src3 (Same.refl _) (Res.old m3.in)
                · refine ⟨some u, g2, ?_⟩
                  rw [g1] at hgo
                  exact PostOk.res hgo s s3 t src (Same.refl _) (Res.old g3)
            | _ => cases y <;> exact nomatch (show (none : Option (D × Bool)) = some (d, k) from h4)
        · exact hgo.elim
/-- a module's int -/
theorem tr_glb {x : String} {i : Int} (e : L.glb x = some (.int i)) (h : trE K cl L Wx (.glb x) σ H Q) : tC (.int i) σ H Q := by
  obtain ⟨W, eH, s, hgo⟩ := h
  simp only [ev, e] at hgo
  rw [← eH]
  exact Go.flat hgo s (o := true) (F := []) .int rfl
/-- what a chained comparison's parts are -/
def chB : CmpOp → Option O2
  | .Lt => some .lt
  | .LtE => some .le
  | .Gt => some .gt
  | .GtE => some .ge
  | _ => none
theorem chB_ok {X : Cx} {op : CmpOp} {o : O2} (h : chB op = some o) : ∃ f : Int → Int → Bool, OpR X (compareOp op) (rI0 fun i j => .bl (f i j)) ∧ Sp2 X.K o (rI0 fun i j => .bl (f i j)) := by
  cases op <;> cases h
  · exact ⟨_, op_lt, sp_lt⟩
  · exact ⟨_, op_le, sp_le⟩
  · exact ⟨_, op_gt, sp_gt⟩
  · exact ⟨_, op_ge, sp_ge⟩
theorem tr_chain {o1 o2 : O2} {f1 f2 : Int → Int → Bool} {a c : Ex} {i : Nat} (h1 : Sp2 K o1 (rI0 fun i j => .bl (f1 i j))) (h2 : Sp2 K o2 (rI0 fun i j => .bl (f2 i j))) (h : trE K cl L Wx (.and (.op2 o1 a (.var i)) (.op2 o2 (.var i) c)) σ H Q) :
    tChain (rI0 fun i j => .bl (f1 i j)) (rI0 fun i j => .bl (f2 i j)) (trE K cl L Wx a) (tVar i) (trE K cl L Wx c) σ H (fun v H' => (∃ b, v = .bl b) ∧ Q v H') := by
  refine trE_mono (tr_op2 h1.at (tr_andV h)) fun x H1 q => ?_
  obtain ⟨y, ey, m, n, e1, e2, k, ek, q⟩ := tr_var q
  subst e1
  subst e2
  obtain rfl : k = f1 m n := ek
  refine ⟨.int n, ey, m, n, rfl, rfl, f1 m n, rfl, ?_⟩
  cases hk : f1 m n with
  | false =>
    rw [hk] at q
    have q' : Q (.bl (f1 m n)) H1 := q
    rw [hk] at q'
    exact ⟨⟨false, rfl⟩, q'⟩
  | true =>
    rw [hk] at q
    obtain ⟨y', ey', q'⟩ := tr_var (tr_op2 h2.at q)
    rw [ey] at ey'
    cases ey'
    exact trE_mono q' fun w H4 z => by
      obtain ⟨i, j, e1, e2, q⟩ := z
      exact ⟨i, j, e1, e2, ⟨_, rfl⟩, q⟩
theorem lastMarks_ok {p1 p2 : CmpOp} {y z : PySem.Expr} (h : behindInMarks p2 z = false) : lastMarks [p1, p2] [y, z] = false := h
end
end VS

-- VS.StarX
/-! List displays with stars, whatever their members are. -/
namespace VS
open PySem PySem.Spec PyProof.Rows L2
def tAX (K : PySem.W.Frag) (cl : String → Addr → Prop) (L : Lk) (Wx : WX) : List Bool → List Ex → TA
  | false :: ss, e :: es => tCons (trE K cl L Wx e) (tAX K cl L Wx ss es)
  | true :: ss, e :: es => StX.tStar K (trE K cl L Wx e) (tAX K cl L Wx ss es)
  | _, _ => tNil
section
variable {K : PySem.W.Frag} {cl : String → Addr → Prop} {L : Lk} {σ : L2.St} {Wx : WX} {H : Hp}
def GoX (K : PySem.W.Frag) (cl : String → Addr → Prop) (L : Lk) (σ : L2.St) (Wx : WX) (W : Wd) (ss : List Bool) (es : List Ex) (Q : List V → Hp → Prop) : Prop := match evs L es W.st with
  | .ok ds st1 => ∃ xs, starred ss (ds.map (·.1)) = some xs ∧ cfs xs = true ∧ ∀ W1 vs, W1.st = st1 → Sim K cl σ W1 → StepE (mutss es) W W1 → Rds K W1.ρ W1.H false xs vs [] → Q vs W1.H
  | _ => False
theorem rds_app {ρ : List Addr} {H : Hp} {o : Bool} : ∀ {as bs : List D} {us vs : List V}, Rds K ρ H o as us [] → Rds K ρ H o bs vs [] → Rds K ρ H o (as ++ bs) (us ++ vs) [] := fun h g => by
  have := h.append g
  simpa using this
theorem cfs_app2 {as bs : List D} (h : cfs (as ++ bs) = true) : cfs as = true ∧ cfs bs = true := by
  rw [cfs_app'] at h
  simpa using h
theorem star_runX : ∀ {ss : List Bool} {es : List Ex} {W : Wd} {Q : List V → Hp → Prop}, noIo es = true → Sim K cl σ W → GoX K cl L σ Wx W ss es Q → tAX K cl L Wx ss es σ W.H Q
  | ss, [], W, Q, _, s, h => by
    unfold GoX at h
    simp only [evs] at h
    obtain ⟨xs, h1, h2, h3⟩ := h
    cases ss with
    | nil =>
      cases h1
      exact h3 W [] rfl s StepE.refl .nil
    | cons b ss => cases b <;> cases h1
  | ss, e :: es, W, Q, hn, s, h => by
    have hn' : isIo e = false ∧ noIo es = true := by simpa [noIo] using hn
    unfold GoX at h
    simp only [evs, mutss] at h
    have key : ∀ {te : VK}, (∀ W1 v F d k, ev L e W.st = .ok d k W1.st → Sim K cl σ W1 → StepE (muts e) W W1 → Tmp K W1 (vars e) d k v F → te v W1.H) → trE K cl L Wx e σ W.H te := fun {te} hk => by
      refine ⟨W, rfl, s, ?_⟩
      cases h1 : ev L e W.st with
      | err => rw [h1] at h; exact h.elim
      | exc c fs st' => rw [h1] at h; exact h.elim
      | ok d k st1 =>
        intro W1 v F e1 s1 t1 m1 f1
        subst e1
        exact hk W1 v F d k h1 s1 t1 m1
    -- what is left, behind the first
    have rest : ∀ {W1 d k} {ss' : List Bool} {Q' : List V → Hp → Prop}, ev L e W.st = .ok d k W1.st → Sim K cl σ W1 → StepE (muts e) W W1 →
        (∀ ds st2, evs L es W1.st = .ok ds st2 → (∃ xs, starred ss ((d, k) :: ds |>.map (·.1)) = some xs ∧ cfs xs = true ∧ ∀ W2 vs, W2.st = st2 → Sim K cl σ W2 → StepE (muts e ++ mutss es) W W2 → Rds K W2.ρ W2.H false xs vs [] → Q vs W2.H) →
          ∃ xs, starred ss' (ds.map (·.1)) = some xs ∧ cfs xs = true ∧ ∀ W2 vs, W2.st = st2 → Sim K cl σ W2 → StepE (mutss es) W1 W2 → Rds K W2.ρ W2.H false xs vs [] → Q' vs W2.H) → GoX K cl L σ Wx W1 ss' es Q' := fun {W1 d k ss' Q'} h1 s1 t1 hk => by
      rw [h1] at h
      dsimp only at h
      unfold GoX
      by_cases hc : (k || disj (vars e) (mutss es)) = true
      · rw [if_pos hc] at h
        cases h2 : evs L es W1.st with
        | err => rw [h2] at h; exact h.elim
        | exc c fs st' => rw [h2] at h; exact h.elim
        | ok ds st2 =>
          rw [h2] at h
          exact hk ds st2 h2 h
      · rw [if_neg hc] at h; exact h.elim
    cases ss with
    | nil =>
      exfalso
      cases h1 : ev L e W.st with
      | err => rw [h1] at h; exact h
      | exc c fs st' => rw [h1] at h; exact h
      | ok d k st1 =>
        rw [h1] at h
        dsimp only at h
        by_cases hc : (k || disj (vars e) (mutss es)) = true
        · rw [if_pos hc] at h
          cases h2 : evs L es st1 with
          | err => rw [h2] at h; exact h
          | exc c fs st' => rw [h2] at h; exact h
          | ok ds st2 =>
            rw [h2] at h
            obtain ⟨xs, e1, _⟩ := h
            cases e1
        · rw [if_neg hc] at h; exact h
    | cons b ss =>
      cases b with
      | false =>
        refine key fun W1 v F d k h1 s1 t1 m1 => ?_
        refine star_runX hn'.2 s1 (rest h1 s1 t1 fun ds st2 h2 q => ?_)
        obtain ⟨xs, e1, e2, e3⟩ := q
        simp only [List.map_cons, starred] at e1
        obtain ⟨ys, hy, rfl⟩ := Option.map_eq_some_iff.mp e1
        have c' := Bool.and_eq_true_iff.mp (show (cf d && cfs ys) = true by simpa [cfs] using e2)
        refine ⟨ys, hy, c'.2, fun W2 vs q1 q2 q3 q4 => e3 W2 (v :: vs) q1 q2 (t1.trans s s1 q3) ?_⟩
        have r := (m1.rd.flat (o' := false) c'.1).2
        have r2 := q3.toStep.rd s1 r fun _ m => nomatch m
        have := Rds.cons r2 q4
        simpa using this
      | true =>
        refine key fun W1 v F d k h1 s1 t1 m1 => ?_
        have lists : ∀ {ds : List D} {us : List V}, (∀ zs, starred (true :: ss) (d :: zs) = (starred ss zs).map (ds ++ ·)) → Ins K W1.ρ W1.H (fun _ => True) ds us → tAX K cl L Wx ss es σ W1.H fun ys H2 => Q (us ++ ys) H2 := fun {ds us} hs is => by
          refine star_runX hn'.2 s1 (rest h1 s1 t1 fun es' st2 h2 q => ?_)
          obtain ⟨xs, e1, e2, e3⟩ := q
          rw [List.map_cons, hs] at e1
          obtain ⟨ys, hy, rfl⟩ := Option.map_eq_some_iff.mp e1
          obtain ⟨c1, c2⟩ := cfs_app2 e2
          refine ⟨ys, hy, c2, fun W2 vs q1 q2 q3 q4 => e3 W2 (us ++ vs) q1 q2 (t1.trans s s1 q3) ?_⟩
          obtain ⟨F0, r0, _⟩ := is.rds
          have r := (r0.flat (o' := false) c1).2
          exact rds_app (r.keep q3.toStep.ρs ⟨(fun _ m => nomatch m), fun _ _ h => q3.toStep.tup s1 h, fun _ _ _ h => q3.toStep.frz s1 h⟩) q4
        have mi : In K W1.ρ W1.H (fun _ => True) d v := ⟨_, m1.rd.weak, fun _ _ => trivial⟩
        have no : (∀ zs, starred (true :: ss) (d :: zs) = none) → False := fun hs => by
          rw [h1] at h
          dsimp only at h
          by_cases hc : (k || disj (vars e) (mutss es)) = true
          · rw [if_pos hc] at h
            cases h2 : evs L es W1.st with
            | err => rw [h2] at h; exact h
            | exc c fs st' => rw [h2] at h; exact h
            | ok ds st2 =>
              rw [h2] at h
              obtain ⟨xs, e1, _⟩ := h
              rw [List.map_cons, hs] at e1
              cases e1
          · rw [if_neg hc] at h; exact h
        cases d with
        | tup xs =>
          obtain ⟨a, us, rfl, ha, iu⟩ := mi.tup
          exact ⟨a, us, rfl, .inl (SqT.of ha), lists (fun zs => rfl) iu⟩
        | lst xs =>
          obtain ⟨a, us, rfl, ha, iu⟩ := mi.lst
          exact ⟨a, us, rfl, .inr ha, lists (fun zs => rfl) iu⟩
        | non => exact (no fun _ => rfl).elim
        | bl _ => exact (no fun _ => rfl).elim
        | int _ => exact (no fun _ => rfl).elim
        | str _ => exact (no fun _ => rfl).elim
        | dct _ => exact (no fun _ => rfl).elim
        | dctT _ => exact (no fun _ => rfl).elim
        | obj _ => exact (no fun _ => rfl).elim
theorem tr_lstX {ss : List Bool} {es : List Ex} {Q : VK} (hn : noIo es = true) (h : trE K cl L Wx (.lstS ss es) σ H Q) : tLst (tAX K cl L Wx ss es) σ H Q := by
  obtain ⟨W, eH, s, hgo⟩ := h
  subst eH
  simp only [ev, muts, vars] at hgo
  refine star_runX hn s ?_
  unfold GoX
  cases h1 : evs L es W.st with
  | err => rw [h1] at hgo; exact hgo.elim
  | exc c fs st' => rw [h1] at hgo; exact hgo.elim
  | ok ds st1 =>
    rw [h1] at hgo
    dsimp only at hgo ⊢
    cases hx : starred ss (ds.map (·.1)) with
    | none => rw [hx] at hgo; exact hgo.elim
    | some xs =>
      rw [hx] at hgo
      dsimp only at hgo
      split at hgo
      · rename_i hz
        refine ⟨xs, rfl, hz.2, fun W1 vs e1 s1 t1 r => ⟨by rw [← r.length]; exact hz.1, fun p hp => ?_⟩⟩
        subst e1
        exact PostOk.res hgo s s1 t1 (Sx := fun _ => False) (fun _ z => z.elim) (Same.put hp) (Res.lstOf (r.ins fun _ m => nomatch m) hp fun _ => hz.2)
      · exact hgo.elim
end
end VS

-- VS.PopAt
/-! xs.pop(i). -/
namespace VS
open PySem PySem.Spec PyProof.Rows L2
section
variable {K : PySem.W.Frag} {cl : String → Addr → Prop} {L : Lk} {σ : L2.St} {Wx : WX} {W W1 : Wd} {ms vs : List Nat} {Q : VK} {H : Hp}
theorem erase_mid {α : Type} : ∀ {xs : List α} {n : Nat} {x : α}, xs[n]? = some x → ∃ as bs, xs = as ++ ([x] ++ bs) ∧ as.length = n ∧ xs.eraseIdx n = as ++ bs
  | [], _, _, h => by simp at h
  | y :: ys, 0, x, h => by
    simp at h
    subst h
    exact ⟨[], ys, rfl, rfl, rfl⟩
  | y :: ys, n + 1, x, h => by
    obtain ⟨as, bs, h1, h2, h3⟩ := erase_mid (xs := ys) (n := n) (x := x) (by simpa using h)
    exact ⟨y :: as, bs, by rw [h1]; rfl, by simp [h2], by simp [h3]⟩
theorem tr_popAt {i : Nat} {path : List (List Nat)} {e : Ex} (he : isIo e = false) (h : trE K cl L Wx (.popAt i path e) σ H Q) : tBM K "list" rPopAt (tPl i path) (trA K cl L Wx [e]) σ H Q := by
  obtain ⟨W, eH, s, hgo⟩ := h
  simp only [ev] at hgo
  simp only [muts, vars] at hgo
  split at hgo
  · rename_i hc
    simp only [Bool.and_eq_true, Bool.not_eq_true'] at hc
    obtain ⟨hl, hn⟩ := hc
    have hn' : i ∉ muts e := by simpa using hn
    obtain ⟨d0, v0, u0, hi0, hv0, hp0, ty⟩ := lst_at s hl
    refine ⟨v0, u0, hv0, by rw [← eH]; exact hp0, by rw [← eH]; exact ty, W, eH, s, ?_⟩
    simp only [evs_one, mutss, List.append_nil]
    cases h1 : ev L e W.st with
    | err => rw [h1] at hgo; exact hgo
    | exc c fs st' => rw [h1] at hgo; exact PostEx.sub hgo fun j hj => List.mem_cons_of_mem _ hj
    | ok dj kj st1 =>
      rw [h1] at hgo
      dsimp only at hgo ⊢
      intro W1 ws G0 e1 s1 t1 m1
      subst e1
      obtain ⟨vj, Fj, rfl, mj, fj⟩ := m1.one he
      cases hi : W1.st.get i with
      | none => rw [hi] at hgo; exact hgo.elim
      | some p =>
        obtain ⟨d, k⟩ := p
        rw [hi] at hgo
        cases k with
        | false => exact hgo.elim
        | true =>
          dsimp only at hgo
          cases hp : atPath (popAtD dj) path d with
          | none => rw [hp] at hgo; exact hgo.elim
          | some q =>
            obtain ⟨d', x⟩ := q
            rw [hp] at hgo
            dsimp only at hgo
            obtain ⟨v, u, e0, e', pre, Fe, post, hv, hpath, hr, hF, hf, hnd, hback⟩ := place s1 hi hp
            rw [hv0] at hv
            cases hv
            have hd2 : PathV W1.H v0 path u0 := by
              have hl1 := hl
              unfold lstAt at hl1
              rw [hi0] at hl1
              dsimp only at hl1
              cases h0 : atPath asLst path d0 with
              | none => rw [h0] at hl1; cases hl1
              | some q0 => exact path_stays (f := asLst) (d' := q0.1) (x := q0.2) s hi0 hv0 hp0 h0 t1.toStep hn'
            have eu := hd2.one hpath
            subst eu
            cases hr with
            | @lst _ a ws xs G ha ht =>
              cases dj <;> first | (exact nomatch (show (none : Option (D × D)) = some (e', x) from hf)) | skip
              rename_i j
              simp only [popAtD] at hf
              split at hf
              · rename_i hj
                cases hx : xs[j.toNat]? with
                | none => rw [hx] at hf; cases hf
                | some y =>
                  rw [hx] at hf
                  cases hf
                  obtain ⟨as, bs, exs, eln, ers⟩ := erase_mid hx
                  rw [exs] at ht
                  obtain ⟨vs1, vs2', F1, F2', hvs, hG, h1', h2', len1⟩ := Rds.split ht
                  obtain ⟨vs2, vs3, F2, F3, hvs2, hG2, h2, h3, len2⟩ := Rds.split h2'
                  obtain ⟨vx, rfl, hx'⟩ := h2.one
                  subst hvs2 hG2 hvs hG
                  have ca : Cel W1.H a := .inl ⟨_, ha⟩
                  obtain ⟨n1, n2, n3⟩ := List.nodup_append.mp hnd
                  obtain ⟨m1, m2, m3⟩ := List.nodup_append.mp n1
                  obtain ⟨na, ng⟩ := List.nodup_cons.mp m2
                  obtain ⟨g1, g2, g3⟩ := List.nodup_append.mp ng
                  obtain ⟨g4, g5, g6⟩ := List.nodup_append.mp g2
                  have na1 : a ∉ F1 := fun z => na (by simp [z])
                  have na2 : a ∉ F2 := fun z => na (by simp [z])
                  have na3 : a ∉ F3 := fun z => na (by simp [z])
                  have ha' : a ∈ W1.Fs (.s i) := by rw [hF]; simp
                  have ln1 : vs1.length = j.toNat := len1.trans eln
                  have ew : (vs1 ++ ([vx] ++ vs3)).eraseIdx j.toNat = vs1 ++ vs3 := by
                    rw [← ln1, List.eraseIdx_append_of_length_le (Nat.le_refl _), Nat.sub_self]
                    rfl
                  have rn : Rd K W1.ρ (upd W1.H a (.lst (vs1 ++ vs3))) true (.lst (xs.eraseIdx j.toNat)) (.ref a) (a :: (F1 ++ F3)) := by
                    rw [ers]
                    exact .lst upd_same ((h1'.off ca na1).append (h3.off ca na3))
                  have rd' := hback a (.lst (vs1 ++ vs3)) true (a :: (F1 ++ F3)) ca (by simp) rn
                  have sub : ∀ b ∈ pre ++ (a :: (F1 ++ F3)) ++ post, b ∈ W1.Fs (.s i) := fun b hb => by
                    rw [hF]
                    simp only [List.mem_append, List.mem_cons] at hb ⊢
                    rcases hb with (hb | hb | hb | hb) | hb <;> simp [hb]
                  have subl : (pre ++ (a :: (F1 ++ F3)) ++ post).Sublist (pre ++ (a :: (F1 ++ (F2 ++ F3))) ++ post) :=
                    List.Sublist.append (List.Sublist.append (List.Sublist.refl _) (List.Sublist.cons_cons _ (List.Sublist.append (List.Sublist.refl _) (List.sublist_append_right F2 F3)))) (List.Sublist.refl _)
                  have nd' := hnd.sublist subl
                  have s' := Sim.chg (k := true) s1 hi hv0 ha' (o := .lst (vs1 ++ vs3)) cel_lst rd' (fun _ => nd') fun b hb => .inl (sub b hb)
                  have t' := Step.chg (k := true) (v := some (d', true)) s1 s1 (Step.refl (ms := [])) hi ha' (o := .lst (vs1 ++ vs3)) cel_lst (F := pre ++ (a :: (F1 ++ F3)) ++ post) fun b hb => .inl (sub b hb)
                  have oi : Own W1 (.s i) := ⟨d, hi⟩
                  have F2i : ∀ b ∈ F2, b ∈ W1.Fs (.s i) := fun b hb => by rw [hF]; simp [hb]
                  have dis : ∀ b ∈ F2, b ∉ pre ++ (a :: (F1 ++ F3)) ++ post := fun b hb z => by
                    simp only [List.mem_append, List.mem_cons] at z
                    rcases z with (z | z | z | z) | z
                    · exact m3 b z b (by simp [hb]) rfl
                    · subst z; exact na2 hb
                    · exact g3 b z b (by simp [hb]) rfl
                    · exact g6 b hb b z rfl
                    · exact n3 b (by simp [hb]) b z rfl
                  have tE : StepE [i] W1 (W1.chg i (some (d', true)) a (.lst (vs1 ++ vs3)) (pre ++ (a :: (F1 ++ F3)) ++ post) fun b => true = false ∧ b ∈ pre ++ (a :: (F1 ++ F3)) ++ post) := ⟨by simpa using t', fun j hj => by
                    have hj' : j ≠ i := by simpa using hj
                    refine ⟨?_, ?_⟩
                    · show (W1.st.set i _).get j = _
                      rw [S.set_get, if_neg (fun e => hj' e.symm)]
                    · show (if Pl.s j = Pl.s i then _ else W1.Fs (.s j)) = _
                      rw [if_neg (fun e => hj' (by cases e; rfl))]⟩
                  have tt : StepE (i :: muts e) W (W1.chg i (some (d', true)) a (.lst (vs1 ++ vs3)) (pre ++ (a :: (F1 ++ F3)) ++ post) fun b => true = false ∧ b ∈ pre ++ (a :: (F1 ++ F3)) ++ post) := (t1.trans s s1 tE).mono fun j hj => by
                    simp only [List.mem_append, List.mem_cons, List.not_mem_nil, or_false] at hj ⊢
                    exact hj.symm
                  have key := hgo _ vx F2 rfl s' tt ⟨hx'.off ca na2, fun _ => g4, fun _ b hb z => ?_, fun _ b hb p hp => ?_, fun e => Bool.noConfusion e⟩ fun _ b hb => ?_
                  · refine ⟨a, _, j, j.toNat, vx, rfl, by rw [Rd.intV mj.rd], ha, by omega, by omega, ?_, ?_, ?_⟩
                    · have hlt : j.toNat < (vs1 ++ ([vx] ++ vs3)).length := by rw [List.length_append, List.length_append]; simp; omega
                      generalize (vs1 ++ ([vx] ++ vs3)).length = m at hlt
                      have hj0 : ¬ j < 0 := by omega
                      have hjm : j < (m : Int) := by omega
                      unfold seqIndex?
                      simp [hj0, hj.1, hjm]
                    · rw [← ln1]; simp
                    · rw [ew]; exact key
                  · rcases z with z | ⟨z, _⟩
                    · exact oi.notZ s1 (F2i b hb) z
                    · cases z
                  · have hp' : b ∈ (if p = Pl.s i then pre ++ (a :: (F1 ++ F3)) ++ post else W1.Fs p) := hp
                    by_cases hq : p = .s i
                    · rw [if_pos hq] at hp'
                      exact dis b hb hp'
                    · rw [if_neg hq] at hp'
                      rcases s1.own_or hp' with w | w
                      · exact hq (Own.one s1 w oi hp' (F2i b hb))
                      · exact oi.notZ s1 (F2i b hb) w
                  · exact (From.back s s1 t1.toStep (show From W1 [i] b from .inr ⟨.s i, by simp [Mt], oi, F2i b hb⟩)).mono fun j hj => by
                      simp only [List.mem_append, List.mem_cons, List.not_mem_nil, or_false] at hj ⊢
                      exact hj.symm
              · cases hf
            | tup ha ht => cases dj <;> exact nomatch (show (none : Option (D × D)) = some (e', x) from hf)
            | dct ha e n ht => cases dj <;> exact nomatch (show (none : Option (D × D)) = some (e', x) from hf)
            | dctT ha e n ht => cases dj <;> exact nomatch (show (none : Option (D × D)) = some (e', x) from hf)
            | non => cases dj <;> exact nomatch (show (none : Option (D × D)) = some (e', x) from hf)
            | bl => cases dj <;> exact nomatch (show (none : Option (D × D)) = some (e', x) from hf)
            | int => cases dj <;> exact nomatch (show (none : Option (D × D)) = some (e', x) from hf)
            | str => cases dj <;> exact nomatch (show (none : Option (D × D)) = some (e', x) from hf)
            | obj _ => cases dj <;> exact nomatch (show (none : Option (D × D)) = some (e', x) from hf)
  · exact hgo.elim
end
end VS

-- VS.Chk4
/-! The checker of expressions. -/
namespace VS
open PySem PySem.Spec PyProof.Rows L2

/-- what a text is checked in: its names, its scope, the text's own defs -/
structure Ck where
  N : List Str
  sc : Scope
  fns : List (Str × String)
  fnc : Bool := true
  pn : List Nat := []
  gls : List (Str × String × Int) := []
/-- names that no statement stores to -/
def Ck.pin (c : Ck) (i : Nat) : Prop := i ∈ c.pn
/-- within a block -/
def Ck.blk (c : Ck) (scope : Scope) : Ck := { c with sc := relS scope c.sc, fnc := false }
def bltNames : List Str := ["len", "abs", "int", "bool", "str", "tuple", "list", "repr", "sorted", "sum", "max", "min", "range", "enumerate", "zip", "reversed", "isinstance", "dict", "set", "any", "all"]
/-- a place of the machine that fits -/
structure Fit (T : Tb) (n : Nat) (cl : String → Addr → Prop) (c : Ck) (X : Cx) (Wx : WX) : Prop where
  nm : X.N = c.N
  nd : c.N.Nodup
  scp : X.env.scope = c.sc
  calm : X.calm = true
  gd : X.A.guards = some []
  rm : Room n X.A
  blt : ∀ x ∈ bltNames, X.mg x = none
  fns : ∀ x f, (x, f) ∈ c.fns → ∃ fa fd ps, X.mg x = some (.ref fa) ∧ PySem.W.keepIn X.K (.ref fa) = true ∧ FnG X.prog X.w X.K X.mg X.base n fa fd ps (spF T cl n X.K f) ∧ Binds X.K fd ps []
  tot : ∀ f d, T.fns f = some d → d.io.length = d.many
  px : ∀ σ, PassesAt (L2.CX X.prog X.w) X σ (WE Wx σ)
  fnk : c.fnc = true → ∀ x, X.fn x = true
  gls : ∀ x g i, (x, g, i) ∈ c.gls → T.glb g = some (.int i) ∧ ∃ t, X.mg x = some (.int i t)
theorem Fit.blk {T : Tb} {n : Nat} {cl : String → Addr → Prop} {c : Ck} {X : Cx} {Wx : WX} (F : Fit T n cl c X Wx) (s : Shared) (H : Hp) (scope : Scope) (ls : List (Str × Addr)) (C : Addr) (fp : List Addr) : Fit T n cl (c.blk scope) (X.blk s H scope (compEnvC scope ls C X.env) fp) nox where
  nm := F.nm
  nd := F.nd
  scp := by show relabel scope X.env = _; rw [← show relS scope X.env.scope = relabel scope X.env from rfl, F.scp]; rfl
  calm := F.calm
  gd := F.gd
  rm := F.rm
  blt := F.blt
  fns := F.fns
  tot := F.tot
  px := fun σ _ _ _ _ _ _ h => by
    obtain ⟨_, _, _, _, _, _, _, _, _, _, _, _, h⟩ := h
    exact h.elim
  fnk := fun h => by cases h
  gls := F.gls
def visB (sc : Scope) (x : Str) : Bool := match sc.names.lookup x with
  | some .local => true
  | some .cell => true
  | some .free => true
  | _ => false
def glB (sc : Scope) (x : Str) : Bool := (match sc.names.lookup x with
  | some .globalImplicit => true
  | _ => false) && !(x == ("__debug__" : Str)) && !decide (x = "__name__")
def nameB (c : Ck) (i : Nat) (x : Str) : Bool := decide (c.N[i]? = some x) && visB c.sc x && !(x == ("__debug__" : Str)) && !(x == ("__classdict__" : Str))
def conB : Cn → PySem.Const → Bool
  | .non, .none => true
  | .bl b, .bool b' => b == b'
  | .int i, .int i' => i == i'
  | .str s, .str s' => decide (q s = s')
  | _, _ => false
def markB (op : CmpOp) (b : PySem.Expr) : Bool := match b with
  | .Set _ _ _ => false
  | _ => true
/-- no slice -/
def ixB : PySem.Expr → Bool
  | .Slice _ _ _ _ => false
  | .Starred _ _ => false
  | _ => true
def isNon : Ex → Bool
  | .con .non => true
  | _ => false
/-- what a loop's source is made of -/
def iterOf (sc : Scope) (kind : Nat) (iter tg : PySem.Expr) : Option (PySem.Expr × Option PySem.Expr) := match kind with
  | 1 => some (iter, none)
  | 0 => match iter with
    | .Call (.Name f _) [a] [] _ => if f = "range" && glB sc f && plainE a then some (a, none) else none
    | _ => none
  | 4 => match iter with
    | .Call (.Name f _) [a, b] [] _ => if f = "range" && glB sc f && plainE a && plainE b then some (a, some b) else none
    | _ => none
  | 2 => match iter, tg with
    | .Call (.Name f _) [a] [] _, .Tuple _ _ _ => if f = "enumerate" && glB sc f && plainE a then some (a, none) else none
    | _, _ => none
  | 3 => match iter, tg with
    | .Call (.Name f _) [a, b] [] _, .Tuple _ _ _ => if f = "zip" && glB sc f && plainE a && plainE b then some (a, some b) else none
    | _, _ => none
  | _ => none
/-- a source that is folded by nobody -/
def noSet : PySem.Expr → Bool
  | .Set _ _ _ => false
  | _ => true
mutual
def chkT (c : Ck) : Tg → PySem.Expr → Bool
  | .n i, e => match e with
    | .Name x _ => decide (c.N[i]? = some x) && (match c.sc.names.lookup x with
      | some .local => true
      | some .cell => c.fnc
      | _ => false)
    | _ => false
  | .t ts, e => match e with
    | .Tuple es _ _ => chkTs c ts es
    | _ => false
def chkTs (c : Ck) : List Tg → List PySem.Expr → Bool
  | [], [] => true
  | t :: ts, e :: es => plainE e && chkT c t e && chkTs c ts es
  | _, _ => false
end
def ownP (c : Ck) (own : List Nat) : List (Str × Nat) := own.filterMap fun i => (c.N[i]?).map fun x => (x, i)
/-- a path from behind -/
def chkP (c : Ck) (i : Nat) : List (List Nat) → PySem.Expr → Bool
  | [], e => match e with
    | .Name x _ => nameB c i x
    | _ => false
  | k :: r, e => match e with
    | .Subscript o (.Constant (.str s) _ _) _ => decide (q k = s) && chkP c i r o
    | _ => false
/-- a display's keys -/
def keysB : List (List Nat) → List (Option PySem.Expr) → Bool
  | [], [] => true
  | k :: r, some (.Constant (.str s) _ _) :: t => decide (q k = s) && keysB r t
  | _, _ => false
/-- a type's name -/
def tnB (x : Str) : Option Tn := if x = "int" then some .int else if x = "bool" then some .bool else if x = "str" then some .str else if x = "list" then some .list else if x = "tuple" then some .tuple else if x = "dict" then some .dict else none
mutual
def chkE (c : Ck) : Ex → PySem.Expr → Bool
  | .con k, e => match e with
    | .Constant k' _ _ => conB k k'
    | _ => false
  | .var i, e => match e with
    | .Name x _ => nameB c i x
    | _ => false
  | .mv i, e => match e with
    | .Name x _ => nameB c i x
    | _ => false
  | .tup es, e => match e with
    | .Tuple xs _ _ => noIo es && chkL c es xs
    | _ => false
  | .lst es, e => match e with
    | .List xs _ => noIo es && chkL c es xs
    | _ => false
  | .op1 o a, e => match e with
    | .UnaryOp .USub x _ => decide (o = .neg) && chkE c a x
    | .Compare x [.Is] [.Constant .none _ _] _ => decide (o = .isN) && chkE c a x
    | .Compare x [.IsNot] [.Constant .none _ _] _ => decide (o = .notN) && chkE c a x
    | .Subscript x (.Slice none none (some (.UnaryOp .USub (.Constant (.int 1) _ _) _)) _) _ => decide (o = .rev) && chkE c a x
    | .Call (.Name f _) [x, .Name g _] [] _ => decide (f = "isinstance") && decide ((tnB g).map O1.isT = some o) && glB c.sc f && glB c.sc g && plainE x && chkE c a x
    | .Call (.Name f _) [x] [] _ => decide ((f, o) ∈ biTab) && decide (f ∈ bltNames) && glB c.sc f && plainE x && chkE c a x
    | _ => false
  | .op2 o a b, e => match e with
    | .BinOp x op y _ => decide (opB op = some o) && chkE c a x && chkE c b y
    | .Compare x [op] [y] _ => decide (cmpB op = some o) && markB op y && chkE c a x && chkE c b y
    | .Subscript x (.Slice (some l) none none _) _ => decide (o = .sfrom) && chkE c a x && chkE c b l
    | .Subscript x (.Slice none (some l) none _) _ => decide (o = .sto) && chkE c a x && chkE c b l
    | .Subscript x y _ => decide (o = .idx) && ixB y && chkE c a x && chkE c b y
    | .Call (.Name f _) [x] [⟨some g, y, _⟩] _ => decide (f = "max") && decide (g = "default") && decide (o = .maxD) && glB c.sc f && plainE x && chkE c a x && chkE c b y
    | .Call (.Name f _) [.Call (.Name g _) [x, y] [] _] [] _ => decide (f = "list") && decide (g = "range") && decide (o = .rngL) && glB c.sc f && glB c.sc g && plainE x && plainE y && chkE c a x && chkE c b y
    | .Call (.Name f _) [x, y] [] _ => ((decide (f = "max") && decide (o = .max2)) || (decide (f = "min") && decide (o = .min2))) && glB c.sc f && plainE x && plainE y && chkE c a x && chkE c b y
    | .Call (.Attribute (.Name m mp) f ap) [y] [] cp => decide (f = "get") && decide (o = .get1) && (ap.endLine == cp.line) && plainE y && chkE c a (.Name m mp) && chkE c b y
    | _ => false
  | .op3 o a b d, e => match e with
    | .Subscript x (.Slice (some l) (some u) none _) _ => decide (o = .sl) && chkE c a x && chkE c b l && chkE c d u
    | .Call (.Attribute (.Name m mp) f ap) [y, z] [] cp => decide (f = "get") && decide (o = .get2) && (ap.endLine == cp.line) && plainE y && plainE z && chkE c a (.Name m mp) && chkE c b y && chkE c d z
    | _ => false
  | .not a, e => match e with
    | .UnaryOp .Not x _ => chkE c a x
    | _ => false
  | .and a b, e => match e with
    | .BoolOp .And (x :: y :: r) p => chkE c a x && (match r with
      | [] => chkE c b y
      | z :: r => chkE c b (.BoolOp .And (y :: z :: r) p))
    | .Compare x [p1, p2] [.Name m _, z] _ => (match a, b with
      | .op2 o1 a' (.var i), .op2 o2 (.var j) b' => decide (chB p1 = some o1) && decide (chB p2 = some o2) && decide (i = j) && nameB c i m && markB p2 z && chkE c a' x && chkE c b' z
      | _, _ => false)
    | _ => false
  | .or a b, e => match e with
    | .BoolOp .Or (x :: y :: r) p => chkE c a x && (match r with
      | [] => chkE c b y
      | z :: r => chkE c b (.BoolOp .Or (y :: z :: r) p))
    | _ => false
  | .ite t a b, e => match e with
    | .IfExp z x y _ => chkE c t z && chkE c a x && chkE c b y
    | _ => false
  | .call f es, e => match e with
    | .Call (.Name x _) xs [] _ => decide ((x, f) ∈ c.fns) && glB c.sc x && chkL c es xs
    | _ => false
  | .comp own tg kind it it2 cs y, e => match e with
    | .ListComp elt [⟨t, iter, ifs, 0⟩] scope _ => blkC c.N c.sc scope (ownP c own) && decide ((ownP c own).map (·.2) = own) && chkT (c.blk scope) tg t && noSet iter && !isIo it && !isIo it2 && (match iterOf c.sc kind iter t with
      | some (a, none) => !twoI kind && isNon it2 && chkE c it a
      | some (a, some b) => twoI kind && chkE c it a && chkE c it2 b
      | none => false) && decide (cs.length ≤ 1) && chkC (c.blk scope) cs ifs && chkE (c.blk scope) y elt
    | _ => false
  | .pop i path, e => match e with
    | .Call (.Attribute o f ap) [] [] cp => decide (f = "pop") && chkP c i path.reverse o && ap.endLine == cp.line
    | _ => false
  | .popAt i path b, e => match e with
    | .Call (.Attribute o f ap) [x] [] cp => decide (f = "pop") && chkP c i path.reverse o && plainE x && !isIo b && chkE c b x && ap.endLine == cp.line
    | _ => false
  | .dct ks es, e => match e with
    | .Dict keys xs _ => noIo es && keysB ks keys && decide (ks.length = es.length) && decide (ks.Nodup) && decide (0 < ks.length) && decide (ks.length ≤ 15) && chkL c es xs
    | _ => false
  | .dct0, e => match e with
    | .Dict [] [] _ => true
    | _ => false
  | .dctT0, e => match e with
    | .Dict [] [] _ => true
    | _ => false
  | .lstS ss es, e => match e with
    | .List xs _ => noIo es && chkX c ss es xs
    | _ => false
  | .glb g, e => match e with
    | .Name x _ => glB c.sc x && c.gls.any fun y => decide (y.1 = x) && decide (y.2.1 = g)
    | _ => false
  | _, _ => false
def chkC (c : Ck) : List Ex → List PySem.Expr → Bool
  | [], [] => true
  | e :: es, x :: xs => chkE c e x && chkC c es xs
  | _, _ => false
/-- a list display with stars -/
def chkX (c : Ck) : List Bool → List Ex → List PySem.Expr → Bool
  | [], [], [] => true
  | true :: ss, e :: es, .Starred x _ :: xs => chkE c e x && chkX c ss es xs
  | false :: ss, e :: es, x :: xs => plainE x && chkE c e x && chkX c ss es xs
  | _, _, _ => false
def chkL (c : Ck) : List Ex → List PySem.Expr → Bool
  | [], [] => true
  | .io i :: es, .Name x _ :: xs => nameB c i x && chkL c es xs
  | e :: es, x :: xs => plainE x && !isIo e && chkE c e x && chkL c es xs
  | _, _ => false
end
section
variable {T : Tb} {n : Nat} {cl : String → Addr → Prop} {c : Ck} {X : Cx} {Wx : WX} {pos p : Pos}
theorem Fit.name (F : Fit T n cl c X Wx) {i : Nat} {x : Str} (h : nameB c i x = true) : PE X (.Name x pos) (tVar i) := by
  unfold nameB visB at h
  simp only [Bool.and_eq_true, decide_eq_true_eq, Bool.not_eq_true'] at h
  obtain ⟨⟨⟨h1, h2⟩, h3⟩, h4⟩ := h
  refine pe_var (by rw [F.nm]; exact h1) ?_ h3 h4
  rw [F.scp]
  split at h2
  · exact .inl (by assumption)
  · exact .inr (.inl (by assumption))
  · exact .inr (.inr (by assumption))
  · cases h2
theorem Fit.gl (F : Fit T n cl c X Wx) {x : Str} (h : glB c.sc x = true) : Gl X x ∧ x ≠ "__name__" ∧ (x == ("__debug__" : Str)) = false := by
  unfold glB at h
  simp only [Bool.and_eq_true, Bool.not_eq_true', decide_eq_false_iff_not] at h
  obtain ⟨⟨h1, h2⟩, h3⟩ := h
  refine ⟨?_, h3, h2⟩
  show X.env.scope.names.lookup x = _
  rw [F.scp]
  split at h1
  · assumption
  · cases h1
theorem Fit.un (F : Fit T n cl c X Wx) : X.A.units + 65 < cLine := by have := F.rm.un; omega
end
end VS

-- VS.Chk7
/-! Places that are changed, in the text. -/
namespace VS
open PySem PySem.Spec PyProof.Rows L2

section
variable {T : Tb} {n : Nat} {cl : String → Addr → Prop} {c : Ck} {X : Cx} {Wx : WX}
theorem PathV.snoc {H : Hp} : ∀ {r : List (List Nat)} {k : List Nat} {v u : V}, PathV H v (r ++ [k]) u → ∃ a, PathV H v r (.ref a) ∧ DGet H a (.str (q k)) (some u)
  | [], k, v, u, h => by
    cases h with
    | cons g h => cases h; exact ⟨_, .nil, g⟩
  | j :: r, k, v, u, h => by
    cases h with
    | cons g h =>
      obtain ⟨a, h1, h2⟩ := PathV.snoc h
      exact ⟨a, .cons g h1, h2⟩
theorem chkP_ok (F : Fit T n cl c X Wx) {i : Nat} : ∀ (r : List (List Nat)) (e : PySem.Expr), chkP c i r e = true → PE X e (tPl i r.reverse)
  | [], e, h => by
    unfold chkP at h
    split at h
    · refine (F.name h).imp fun σ H Q q => ?_
      obtain ⟨v, u, h1, h2, h3⟩ := q
      cases h2
      exact ⟨v, h1, h3⟩
    · cases h
  | k :: r, e, h => by
    unfold chkP at h
    split at h
    · simp only [Bool.and_eq_true, decide_eq_true_eq] at h
      obtain ⟨rfl, h⟩ := h
      refine (pe_dget (by have := F.un; omega) (chkP_ok F r _ h) pe_str (fun _ _ => rfl)).imp fun σ H Q q => ?_
      obtain ⟨v, u, h1, h2, h3⟩ := q
      rw [List.reverse_cons] at h2
      obtain ⟨a, p1, p2⟩ := h2.snoc
      exact ⟨v, .ref a, h1, p1, a, u, rfl, p2, h3⟩
    · cases h
theorem base_plain {i : Nat} : ∀ {r : List (List Nat)} {e : PySem.Expr} (f : Str) (env : Env) (w : Sem Value), chkP c i r e = true → attributeBase e f env w = w := by
  intro r e f env w h
  cases r with
  | nil =>
    unfold chkP at h
    split at h
    · rfl
    · cases h
  | cons k r =>
    unfold chkP at h
    split at h
    · rfl
    · cases h
end
end VS

-- VS.RevA
/-! A row from behind: xs[::-1] of a list or a tuple. -/
namespace VS
open PySem PySem.Spec PyProof.Rows L2

section
variable {prog : Program} {w : World} {A : Around} {E : Value → Shared → Prop} {s : Shared}
theorem places_back (n : Nat) : Builtin.Slice.slicePlaces ((n : Int) - 1) (-1) (-1) = n := by
  unfold Builtin.Slice.slicePlaces
  have no : ¬ ((-1 : Int) > 0) := by omega
  have d : ((n : Int) - 1 - -1 - 1) / - -1 = (n : Int) - 1 := by rw [show (- -1 : Int) = 1 by decide, Int.ediv_one]; omega
  simp only [no, if_false]
  first | omega | (rw [d]; split <;> omega) | (split <;> (try rw [d]) <;> omega)
theorem adjust_back (n : Nat) : Builtin.Slice.sliceAdjust none none (-1) (n : Int) = ((n : Int) - 1, -1) := by
  unfold Builtin.Slice.sliceAdjust
  simp
theorem applied_back {sl : Addr} {vl vu vs : Value} {n : Nat} {Q : Int × Int × Nat → Shared → Prop} (at_ : s.heap.IsSliceOf sl vl vu vs) (p1 : IsPart vl none) (p2 : IsPart vu none) (p3 : IsPart vs (some (-1)))
    (q : Q ((n : Int) - 1, -1, n) s) : wpAny (model prog w) A (Builtin.Slice.sliceApplied (.ref sl) (pure (n : Int))) Q E s := by
  obtain ⟨o, ho, _, fields⟩ := id at_
  unfold Builtin.Slice.sliceApplied Builtin.Slice.sliceFields
  refine wpAny_bind (wpAny_bind (wpAny_field (x := vl) ho fields rfl (wpAny_bind (wpAny_field (x := vu) ho fields rfl (wpAny_bind (wpAny_field (x := vs) ho fields rfl (wpAny_pure ?_)))))))
  refine wpAny_bind (HT.slicePart_ p3 ?_)
  show wpAny _ _ (if ((-1 : Int) == 0) = true then _ else _) _ _ s
  rw [if_neg (show ¬ ((-1 : Int) == 0) = true by decide)]
  refine wpAny_bind (HT.slicePart_ p1 (wpAny_bind (HT.slicePart_ p2 (wpAny_bind (wpAny_pure ?_)))))
  show wpAny _ _ (match Builtin.Slice.sliceAdjust none none (-1) (n : Int) with | (a, b) => pure (a, (-1 : Int), Builtin.Slice.slicePlaces a b (-1))) _ _ s
  rw [adjust_back n]
  show wpAny _ _ (pure ((n : Int) - 1, (-1 : Int), Builtin.Slice.slicePlaces ((n : Int) - 1) (-1) (-1))) _ _ s
  rw [places_back]
  exact wpAny_pure q
theorem fm_congr {α β : Type} {f g : α → Option β} : ∀ {l : List α}, (∀ m ∈ l, f m = g m) → l.filterMap f = l.filterMap g
  | [], _ => rfl
  | a :: l, h => by
    rw [List.filterMap_cons, List.filterMap_cons, h a (by simp), fm_congr (l := l) fun m hm => h m (by simp [hm])]
theorem picked_back (xs : Array Value) : ((List.range xs.size).filterMap fun (m : Nat) => xs[(((xs.size : Int) - 1) + (m : Int) * -1).toNat]?).toArray = xs.toList.reverse.toArray := by
  have h := PySem.W.krv_all xs
  have e : (List.range xs.size).filterMap (fun (m : Nat) => xs[(((xs.size : Int) - 1) + (m : Int) * -1).toNat]?) = ((List.range xs.size).map fun k => xs.size - 1 - k).filterMap (xs[·]?) := by
    rw [List.filterMap_map]
    refine fm_congr fun m hm => ?_
    have := List.mem_range.mp hm
    show _ = xs[xs.size - 1 - m]?
    congr 1
    first | omega | (simp; omega)
  rw [e, PySem.W.krv_range, List.filterMap_reverse, h]
theorem tuple_back {t sl : Addr} {its : Array Value} {vl vu vs : Value} {Q : Value → Shared → Prop} (ht : IsTup s.heap t its) (at_ : s.heap.IsSliceOf sl vl vu vs) (p1 : IsPart vl none) (p2 : IsPart vu none) (p3 : IsPart vs (some (-1)))
    (q : Q (.ref s.heap.objs.size) { s with heap := s.heap.push { cls := .type "tuple", data := .seq its.toList.reverse.toArray } }) (fits : its.size ≤ sizeLine) : wpAny (model prog w) A (getItem (.ref t) (.ref sl)) Q E s := by
  have ok : sizeOk (.seq its.toList.reverse.toArray) := by
    show its.toList.reverse.toArray.size ≤ sizeLine
    simpa using fits
  obtain ⟨o, ho, hc, _⟩ := id at_
  have isS : s.TypeIs (.ref sl) "slice" := ⟨o, ho, hc⟩
  unfold getItem
  try with_reducible refine wpAny_holding ?_
  first | refine wpAny_bind (wpAny_pure ?_) | skip
  refine wpAny_bind (wpAny_sequenceKey (IsTup.typeIs ht) (by decide) (wpAny_bind ?_))
  have inner : wpAny (model prog w) A (callSpecial? (.ref t) (Str.ofString "__getitem__") [.ref sl]) (fun r s' => r = some (.ref s.heap.objs.size) ∧ s' = { s with heap := s.heap.push { cls := .type "tuple", data := .seq its.toList.reverse.toArray } }) E s := by
    refine wpAny_callSpecial?_slot (name := Str.ofString "__getitem__") (IsTup.typeIs ht) PyProof.Rows.slot_tuple_getitem (wpAny_call_entry PyProof.Rows.slot_tuple_getitem (IsTup.typeIs ht) PyProof.Rows.entry_tuple_getitem ?_ (PyProof.Rows.args_tuple_getitem _ _))
    show wpAny _ _ (Builtin.Tuple.tupleItemsOf (.ref t) >>= _) _ _ s
    refine wpAny_bind (tupleItemsOf_ ht (wpAny_bind (wpAny_typeOf isS ?_)))
    rw [if_pos (by decide)]
    refine wpAny_bind (applied_back at_ p1 p2 p3 ?_)
    show wpAny _ _ (if ((its.size : Int) - 1 == 0 && (-1 : Int) == 1 && its.size == its.size) = true then _ else _) _ _ s
    rw [if_neg (by simp), picked_back]
    refine wpAny_bind (m := Builtin.Tuple.tupleExact _) (wpAny_newObj_type ?_ ok)
    exact wpAny_pure ⟨_, rfl, rfl, rfl⟩
  refine wpAny_mono inner (fun r s' h => ?_) fun _ _ h => h
  obtain ⟨rfl, rfl⟩ := h
  exact wpAny_pure q
end

theorem cfs_append' : ∀ a b : List D, cfs (a ++ b) = (cfs a && cfs b)
  | [], b => by simp [cfs]
  | x :: a, b => by simp [cfs, cfs_append' a b, Bool.and_assoc]
theorem cfs_reverse : ∀ ds : List D, cfs ds.reverse = cfs ds
  | [] => rfl
  | d :: ds => by simp [cfs, cfs_append', cfs_reverse ds, Bool.and_comm]
/-- a row from behind -/
def rRevA (K : PySem.W.Frag) : V → Hp → VK → Prop := fun v H Q => ∃ a xs, v = .ref a ∧ ((SqL K H a xs ∧ ∀ p, H p = none → Q (.ref p) (upd H p (.lst xs.reverse))) ∨ (SqT K H a xs ∧ ∀ p, H p = none → Q (.ref p) (upd H p (.tup xs.reverse))))
theorem pe_revA {X : Cx} {e : PySem.Expr} {te : TE} {k : Nat} {p1 p2 p3 pos : Pos} (he : PE X e te) :
    PE X (.Subscript e (.Slice none none (some (.UnaryOp .USub (.Constant (.int 1) k p1) p2)) p3) pos) (fun σ H Q => te σ H fun v H1 => rRevA X.K v H1 Q) := by
  have back : PO X (some (.UnaryOp .USub (.Constant (.int 1) k p1) p2)) (tPart (tUn (rU fun i => .int (-i)) (tC (.int 1)))) := po_some (pe_un un_neg pe_int)
  refine ⟨fun pins s σ H Q I h => Subscript_ (thn (he.run pins s σ H _ I h) fun v s1 ⟨x, H1, I1, rel, a, xs, ex, q⟩ => ?_)⟩
  subst ex
  cases rel
  refine wpAny_Slice (thn (po_none.run pins s1 σ H1 (fun o H2 => o = none ∧ H2 = H1) I1 ⟨rfl, rfl⟩) fun u1 s2 ⟨o1, H2, I2, r1, e1, g1⟩ => ?_)
  subst e1 g1
  refine thn (po_none.run pins s2 σ H2 (fun o H3 => o = none ∧ H3 = H2) I2 ⟨rfl, rfl⟩) fun u2 s3 ⟨o2, H3, I3, r2, e2, g2⟩ => ?_
  subst e2 g2
  refine thn (back.run pins s3 σ H3 (fun o H4 => o = some (-1) ∧ H4 = H3) I3 ⟨1, rfl, -1, rfl, rfl, rfl⟩) fun u3 s4 ⟨o3, H4, I4, r3, e3, g3⟩ => ?_
  subst e3 g3
  have J : Inv X pins σ H4 { s4 with heap := s4.heap.push { cls := .type "slice", data := .fields #[u1, u2, u3] } } := I4.kept (t' := s4.toks) fun _ _ z => Heap.get?_push_of_some _ z
  show wpAny (model X.prog X.w) X.A (subscriptTail e (.Slice none none (some (.UnaryOp .USub (.Constant (.int 1) k p1) p2)) p3) (.ref a) (.ref s4.heap.objs.size)) (EP X pins σ Q) X.xe
    { s4 with heap := s4.heap.push { cls := .type "slice", data := .fields #[u1, u2, u3] } }
  have isS := Heap.IsSliceOf.new s4.heap u1 u2 u3
  rcases q with ⟨hx, q⟩ | ⟨hx, q⟩
  · obtain ⟨its, r, ht, hz⟩ := J.list hx
    have len := r.length
    refine tail_any (ops := [.ref a, .ref s4.heap.objs.size]) ht.isList.typeIs PySem.slot_list_getitem.lookup ?_ (by with_unfolding_all rfl)
    refine wpAny_getItem_list_slice ht.isList isS r1 r2 r3 (by decide) ?_ (by rw [List.size_toArray]; omega)
    rw [PySem.W.krv_pick]
    exact ⟨.ref _, _, J.laid (t' := s4.toks) (o := .lst xs.reverse) (fun _ _ z => Heap.get?_push_of_some _ z) (Nat.le_refl _) ⟨by rw [List.length_reverse]; exact hz, _, 0, r.reverse, Heap.get?_push_size _ rfl⟩, rfl, q _ (J.hok.fresh (Nat.le_refl _))⟩
  · obtain ⟨its, r, ht, hz⟩ := J.tuple hx
    have len := r.length
    refine tail_any (ops := [.ref a, .ref s4.heap.objs.size]) ht.typeIs PyProof.Rows.slot_tuple_getitem.lookup ?_ (by with_unfolding_all rfl)
    refine tuple_back ht isS r1 r2 r3 ?_ (by rw [List.size_toArray]; omega)
    exact ⟨.ref _, _, J.laid (t' := s4.toks) (o := .tup xs.reverse) (fun _ _ z => Heap.get?_push_of_some _ z) (Nat.le_refl _) ⟨by rw [List.length_reverse]; exact hz, _, r.reverse, IsTup.new _ _⟩, rfl, q _ (J.hok.fresh (Nat.le_refl _))⟩
theorem at_rev {K : PySem.W.Frag} (x : D) : At1 K .rev (rRevA K) x := by
  intro ρ H Sx d k v Q h e w
  cases x <;> try (exact nomatch (show (none : Option (D × Bool)) = some (d, k) from e))
  · obtain ⟨rfl, rfl⟩ := some_pair e
    obtain ⟨a, vs, rfl, s1, i1⟩ := h.tup
    have rv := i1.reverse
    refine ⟨a, vs, rfl, .inr ⟨SqT.of s1, fun l hl => w _ _ (Same.put hl) ?_⟩⟩
    have := Res.tup rv hl
    rwa [show cfs (List.reverse _) = cfs _ from cfs_reverse _] at this
  · obtain ⟨rfl, rfl⟩ := some_pair e
    obtain ⟨a, vs, rfl, s1, i1⟩ := h.lst
    have rv := i1.reverse
    refine ⟨a, vs, rfl, .inl ⟨s1, fun l hl => w _ _ (Same.put hl) ?_⟩⟩
    have := Res.lst rv hl
    rwa [show cfs (List.reverse _) = cfs _ from cfs_reverse _] at this
end VS

-- VS.Chk5
section
set_option maxHeartbeats 2000000
/-! What is checked holds. -/
namespace VS
open PySem PySem.Spec PyProof.Rows L2

section
variable {T : Tb} {n : Nat} {cl : String → Addr → Prop} {K0 : PySem.W.Frag}
/-- a value, and its truth as a test -/
def OkE (T : Tb) (n : Nat) (cl : String → Addr → Prop) (X : Cx) (Wx : WX) (x : Ex) (e : PySem.Expr) : Prop := PE X e (trE X.K cl (lkOf T n) Wx x) ∧ PT X e (trB X.K cl (lkOf T n) Wx x)
theorem OkE.of {X : Cx} {Wx : WX} {x : Ex} {e : PySem.Expr} (h : PE X e (trE X.K cl (lkOf T n) Wx x)) (he : ∀ whole, isTrue e X.env whole = (do let v ← whole; standAt e.pos; holding [v] (truthy v))) : OkE T n cl X Wx x e := ⟨h, ok_test h he⟩
theorem pe_conB {X : Cx} {k : Cn} {k' : PySem.Const} {j : Nat} {pos : Pos} (h : conB k k' = true) : PE X (.Constant k' j pos) (tC k.v) := by
  cases k <;> cases k' <;> simp only [conB, beq_iff_eq, decide_eq_true_eq, Bool.false_eq_true] at h
  · exact pe_non
  · rw [h]; exact pe_bl
  · rw [h]; exact pe_int
  · show PE X _ (tC (V.str (q _)))
    rw [h]
    exact pe_str
theorem behind {op : CmpOp} {b : PySem.Expr} (h : markB op b = true) : behindInMarks op b = false := by
  cases b <;> first | rfl | cases h
theorem ix_plain {y : PySem.Expr} (h : ixB y = true) : PlainIx y := by
  cases y <;> first | (intro o i; rfl) | cases h
theorem pw_of {X : Cx} {op : BoolOp} {es : List PySem.Expr} {pos : Pos} {t : TT} (h : PT X (.BoolOp op es pos) t) : PW X (.BoolOp op es pos) t := ⟨fun wh pins s σ H Q I q => h.run pins s σ H Q I q⟩
theorem any_plain {xs : List PySem.Expr} {pos : Pos} {env : Env} (h : xs.all plainE = true) : (backTo pos (starEach xs env)).any (·.1) = false := by
  induction xs with
  | nil => rfl
  | cons x xs ih =>
    simp only [List.all_cons, Bool.and_eq_true] at h
    rw [star_plain h.1]
    have := ih h.2
    simp only [backTo] at this ⊢
    simpa using this
theorem chkL_plain {c : Ck} : ∀ {es : List Ex} {xs : List PySem.Expr}, chkL c es xs = true → xs.all plainE = true ∧ es.length = xs.length
  | [], [], _ => ⟨rfl, rfl⟩
  | [], _ :: _, h => by unfold chkL at h; cases h
  | e :: es, [], h => by cases e <;> (unfold chkL at h; cases h)
  | e :: es, x :: xs, h => by
    unfold chkL at h
    split at h
    · cases ‹_ = []›
    · rename_i e1 e2
      cases e1
      cases e2
      simp only [Bool.and_eq_true] at h
      obtain ⟨h1, h2⟩ := chkL_plain h.2
      exact ⟨by simp [plainE, h1], by simp [h2]⟩
    · rename_i e1 e2
      cases e1
      cases e2
      simp only [Bool.and_eq_true] at h
      obtain ⟨h1, h2⟩ := chkL_plain h.2
      exact ⟨by simp [h.1.1.1, h1], by simp [h2]⟩
    · cases h
theorem any_assign {es : List PySem.Expr} {env : Env} (h : es.all plainE = true) : (assignEach es env).length = es.length ∧ (assignEach es env).findIdx? (·.1) = none := by
  induction es with
  | nil => exact ⟨rfl, rfl⟩
  | cons x xs ih =>
    simp only [List.all_cons, Bool.and_eq_true] at h
    obtain ⟨i1, i2⟩ := ih h.2
    have e : assignEach (x :: xs) env = (false, assign x env) :: assignEach xs env := by
      have := h.1
      cases x <;> first | rfl | cases this
    rw [e]
    exact ⟨by simp [i1], by simp [List.findIdx?_cons, i2]⟩
theorem chkTs_plain {c : Ck} : ∀ {ts : List Tg} {es : List PySem.Expr}, chkTs c ts es = true → es.all plainE = true ∧ es.length = ts.length
  | [], [], _ => ⟨rfl, rfl⟩
  | [], _ :: _, h => by unfold chkTs at h; cases h
  | _ :: _, [], h => by unfold chkTs at h; cases h
  | t :: ts, e :: es, h => by
    unfold chkTs at h
    simp only [Bool.and_eq_true] at h
    obtain ⟨h1, h2⟩ := chkTs_plain h.2
    exact ⟨by simp [h.1.1, h1], by simp [h2]⟩
mutual
theorem chkT_ok {c : Ck} {X : Cx} {Wx : WX} (F : Fit T n cl c X Wx) : ∀ (tg : Tg) (e : PySem.Expr), chkT c tg e = true → PG X e (gOf X.K tg)
  | .n i, e, h => by
    unfold chkT at h
    split at h
    · rename_i x _
      simp only [Bool.and_eq_true, decide_eq_true_eq] at h
      obtain ⟨h1, h2⟩ := h
      have hN : X.N[i]? = some x := by rw [F.nm]; exact h1
      have nd : X.N.Nodup := by rw [F.nm]; exact F.nd
      split at h2
      · rename_i hk
        have hk' : X.env.scope.names.lookup x = some .local := by rw [F.scp]; exact hk
        exact pg_name nd hN (.inl hk') (.inr hk')
      · rename_i hk
        have hk' : X.env.scope.names.lookup x = some .cell := by rw [F.scp]; exact hk
        exact pg_name nd hN (.inr hk') (.inl (F.fnk h2 x))
      · cases h2
    · cases h
  | .t ts, e, h => by
    unfold chkT at h
    split at h
    · rename_i es _ _
      obtain ⟨h1, h2⟩ := chkTs_plain h
      obtain ⟨a1, a2⟩ := any_assign (env := X.env) h1
      have k := chkTs_ok F ts es h
      exact (pg_tup F.calm k (a1.trans h2) a2).or (pg_unl F.calm k (a1.trans h2) a2)
    · cases h
theorem chkTs_ok {c : Ck} {X : Cx} {Wx : WX} (F : Fit T n cl c X Wx) : ∀ (ts : List Tg) (es : List PySem.Expr), chkTs c ts es = true → PGs X es (gsOf X.K ts)
  | [], [], _ => pgs_nil
  | [], _ :: _, h => by unfold chkTs at h; cases h
  | _ :: _, [], h => by unfold chkTs at h; cases h
  | t :: ts, e :: es, h => by
    unfold chkTs at h
    simp only [Bool.and_eq_true] at h
    refine pgs_cons (chkT_ok F t e h.1.2) (chkTs_ok F ts es h.2) ?_
    have := h.1.1
    cases e <;> first | rfl | cases this
end
theorem isNon_eq {x : Ex} (h : isNon x = true) : x = .con .non := by
  unfold isNon at h
  split at h
  · rfl
  · cases h
theorem tr_one {K : PySem.W.Frag} {L : Lk} {Wx : WX} {it : Ex} {σ : L2.St} {H : Hp} {Q : List V → Hp → Prop} (hi : isIo it = false) (h : trA K cl L Wx [it] σ H Q) : tCons (trE K cl L Wx it) tNil σ H Q :=
  trE_mono (tr_consA hi h) fun v H' z => tr_nil z
theorem tr_two {K : PySem.W.Frag} {L : Lk} {Wx : WX} {it it2 : Ex} {σ : L2.St} {H : Hp} {Q : List V → Hp → Prop} (hi : isIo it = false) (hi2 : isIo it2 = false) (h : trA K cl L Wx [it, it2] σ H Q) : tCons (trE K cl L Wx it) (tCons (trE K cl L Wx it2) tNil) σ H Q :=
  trE_mono (tr_consA hi h) fun v H' z => tr_one hi2 z
/-- one source -/
theorem ok_iter1 {c : Ck} {X : Cx} {Wx : WX} (F : Fit T n cl c X Wx) {kind : Nat} {iter t a : PySem.Expr} {it it2 : Ex} (h : iterOf c.sc kind iter t = some (a, none)) (ha : PE X a (trE X.K cl (lkOf T n) Wx it)) (hi : isIo it = false) : kind < 5 ∧ PI X t iter (trI X.K cl (lkOf T n) Wx kind it it2) := by
  unfold iterOf at h
  split at h
  · cases h
    refine ⟨by decide, ((pi_list ha).or ((pi_tup ha).or (pi_str ha))).imp fun σ H R q => ?_⟩
    rcases q with ⟨e, _⟩ | ⟨e, _⟩ | ⟨_, q⟩ | ⟨e, _⟩ | ⟨e, _⟩
    · cases e
    · cases e
    · exact q
    · cases e
    · cases e
  · split at h
    · split at h
      · rename_i hb
        cases h
        simp only [Bool.and_eq_true, decide_eq_true_eq] at hb
        obtain ⟨⟨rfl, h2⟩, h3⟩ := hb
        obtain ⟨g1, _, _⟩ := F.gl h2
        refine ⟨by decide, (pi_range1 g1 (F.blt _ (by decide)) (pa_one ha h3) (star_plain h3)).imp fun σ H R q => ?_⟩
        rcases q with ⟨_, q⟩ | ⟨e, _⟩ | ⟨e, _⟩ | ⟨e, _⟩ | ⟨e, _⟩
        · exact tr_one hi q
        · cases e
        · cases e
        · cases e
        · cases e
      · cases h
    · cases h
  · split at h
    · split at h <;> cases h
    · cases h
  · split at h
    · split at h
      · rename_i hb
        cases h
        simp only [Bool.and_eq_true, decide_eq_true_eq] at hb
        obtain ⟨⟨rfl, h2⟩, h3⟩ := hb
        obtain ⟨g1, _, _⟩ := F.gl h2
        refine ⟨by decide, (pi_enumM g1 (F.blt _ (by decide)) (pa_one ha h3) (star_plain h3)).imp fun σ H R q => ?_⟩
        rcases q with ⟨e, _⟩ | ⟨e, _⟩ | ⟨e, _⟩ | ⟨_, q⟩ | ⟨e, _⟩
        · cases e
        · cases e
        · cases e
        · exact tr_one hi q
        · cases e
      · cases h
    · cases h
  · split at h
    · split at h <;> cases h
    · cases h
  · cases h
/-- two sources -/
theorem ok_iter2 {c : Ck} {X : Cx} {Wx : WX} (F : Fit T n cl c X Wx) {kind : Nat} {iter t a b : PySem.Expr} {it it2 : Ex} (h : iterOf c.sc kind iter t = some (a, some b)) (ha : PE X a (trE X.K cl (lkOf T n) Wx it)) (hb : PE X b (trE X.K cl (lkOf T n) Wx it2)) (hi : isIo it = false) (hi2 : isIo it2 = false) :
    kind < 5 ∧ PI X t iter (trI X.K cl (lkOf T n) Wx kind it it2) := by
  unfold iterOf at h
  split at h
  · cases h
  · split at h
    · split at h <;> cases h
    · cases h
  · split at h
    · split at h
      · rename_i hq
        cases h
        simp only [Bool.and_eq_true, decide_eq_true_eq] at hq
        obtain ⟨⟨⟨rfl, h2⟩, h3⟩, h4⟩ := hq
        obtain ⟨g1, _, _⟩ := F.gl h2
        refine ⟨by decide, (pi_range2 g1 (F.blt _ (by decide)) (pa_cons ha (pa_one hb h4) (star_plain h3)) (by rw [star_plain h3, star_plain h4]; rfl) (star_plain h4)).imp fun σ H R q => ?_⟩
        rcases q with ⟨e, _⟩ | ⟨_, q⟩ | ⟨e, _⟩ | ⟨e, _⟩ | ⟨e, _⟩
        · cases e
        · exact tr_two hi hi2 q
        · cases e
        · cases e
        · cases e
      · cases h
    · cases h
  · split at h
    · split at h <;> cases h
    · cases h
  · split at h
    · split at h
      · rename_i hq
        cases h
        simp only [Bool.and_eq_true, decide_eq_true_eq] at hq
        obtain ⟨⟨⟨rfl, h2⟩, h3⟩, h4⟩ := hq
        obtain ⟨g1, _, _⟩ := F.gl h2
        refine ⟨by decide, (pi_zipM g1 (F.blt _ (by decide)) (pa_cons ha (pa_one hb h4) (star_plain h3)) (star_plain h3) (any_plain (by simp [h4]))).imp fun σ H R q => ?_⟩
        rcases q with ⟨e, _⟩ | ⟨e, _⟩ | ⟨e, _⟩ | ⟨e, _⟩ | ⟨_, q⟩
        · cases e
        · cases e
        · cases e
        · cases e
        · exact tr_two hi hi2 q
      · cases h
    · cases h
  · cases h
theorem fold_plain {iter : PySem.Expr} (h : noSet iter = true) (env : Env) (x : Value) : foldedSetIterable iter env x = pure x := by
  cases iter <;> first | rfl | cases h
theorem keysB_len : ∀ {ks : List (List Nat)} {keys : List (Option PySem.Expr)}, keysB ks keys = true → 0 < ks.length → keys.all (·.isSome) = true ∧ keys ≠ [] ∧ keys.length = ks.length
  | [], _, _, h => by simp at h
  | k :: ks, [], h, _ => by unfold keysB at h; cases h
  | k :: ks, y :: keys, h, _ => by
    unfold keysB at h
    split at h
    · cases ‹_ = []›
    · rename_i e1 e2
      cases e1
      cases e2
      simp only [Bool.and_eq_true] at h
      by_cases hz : 0 < ks.length
      · obtain ⟨a, _, b⟩ := keysB_len h.2 hz
        exact ⟨by simp [a], by simp, by simp [b]⟩
      · have : ks = [] := List.eq_nil_of_length_eq_zero (by omega)
        subst this
        have h2 := h.2
        unfold keysB at h2
        split at h2
        · exact ⟨rfl, by simp, rfl⟩
        · cases ‹_ = _ :: _›
        · cases h2
    · cases h
theorem few_one {v : PySem.Expr} {cp : Pos} {env : Env} (h : plainE v = true) : ((backTo cp (starEach [v] env)).all (fun x => !x.1) && (backToKw cp (keywordEach [] env)).all (fun x => x.1.isSome)
      && decide ([v].length + ([] : List Keyword).length + (if ([] : List Keyword).isEmpty then 0 else 1) < 30)) = true := by
  rw [star_plain h]; rfl
theorem few_two {v u : PySem.Expr} {cp : Pos} {env : Env} (h : plainE v = true) (h' : plainE u = true) : ((backTo cp (starEach [v, u] env)).all (fun x => !x.1) && (backToKw cp (keywordEach [] env)).all (fun x => x.1.isSome)
      && decide ([v, u].length + ([] : List Keyword).length + (if ([] : List Keyword).isEmpty then 0 else 1) < 30)) = true := by
  rw [star_plain h, star_plain h']; rfl
theorem trees_two {v u : PySem.Expr} {cp : Pos} {env : Env} (h : plainE v = true) (h' : plainE u = true) : backTo cp (starEach [v, u] env) = [(false, eval v env), (false, eval u env)] := by
  rw [star_plain h, star_plain h']; rfl
theorem tChain_mono {K : PySem.W.Frag} {L : Lk} {Wx : WX} {r r' : Int → Int → V} {a d : Ex} {i : Nat} {σ : L2.St} {H : Hp} {Q Q' : VK} (h : tChain (rI0 r) (rI0 r') (trE K cl L Wx a) (tVar i) (trE K cl L Wx d) σ H Q) (m : ∀ v H', Q v H' → Q' v H') :
    tChain (rI0 r) (rI0 r') (trE K cl L Wx a) (tVar i) (trE K cl L Wx d) σ H Q' := by
  refine trE_mono h fun x H1 q => ?_
  obtain ⟨y, ey, i, j, e1, e2, k, ek, q⟩ := q
  refine ⟨y, ey, i, j, e1, e2, k, ek, ?_⟩
  cases k with
  | false => exact m _ _ q
  | true =>
    exact trE_mono q fun w H4 z => by
      obtain ⟨i, j, e1, e2, q⟩ := z
      exact ⟨i, j, e1, e2, m _ _ q⟩
theorem tn_boot {g : Str} {t : Tn} (h : tnB g = some t) : bootBuiltins g = some (.type (tnS t)) ∧ g ∈ bltNames ∧ g ≠ "__name__" ∧ (g == ("__debug__" : Str)) = false := by
  unfold tnB at h
  split at h
  · rename_i e; subst e; cases h; exact ⟨by decide +kernel, by decide, by decide, by decide⟩
  · split at h
    · rename_i e; subst e; cases h; exact ⟨by decide +kernel, by decide, by decide, by decide⟩
    · split at h
      · rename_i e; subst e; cases h; exact ⟨by decide +kernel, by decide, by decide, by decide⟩
      · split at h
        · rename_i e; subst e; cases h; exact ⟨by decide +kernel, by decide, by decide, by decide⟩
        · split at h
          · rename_i e; subst e; cases h; exact ⟨by decide +kernel, by decide, by decide, by decide⟩
          · split at h
            · rename_i e; subst e; cases h; exact ⟨by decide +kernel, by decide, by decide, by decide⟩
            · cases h
/-- max(xs, default=d) -/
theorem at_maxD (x y : D) : At2 K0 .maxD (fun a b H Q => rMaxDf K0 [a] [b] H Q) x y := by
  intro ρ H Sx d k v1 v2 Q h1 h2 e w
  cases x <;> cases y <;> first | (exact nomatch (show (none : Option (D × Bool)) = some (d, k) from e)) | skip
  rename_i xs i
  simp only [op2] at e
  cases hi : intsOf xs with
  | none => rw [hi] at e; cases e
  | some ns =>
    rw [hi] at e
    obtain ⟨rfl, rfl⟩ := some_pair e
    obtain ⟨a, vs, rfl, s1, i1⟩ := h1.lst
    obtain rfl := h2.int
    rw [intsOf_eq hi] at i1
    rw [i1.ints] at s1
    exact ⟨a, ns, _, rfl, rfl, s1, q_int w rfl⟩
/-- list(range(a, b)) -/
def rRngL : R2 := fun x y H Q => ∃ i j, x = .int i ∧ y = .int j ∧ (-1000000 < i ∧ i < 1000000 ∧ -1000000 < j ∧ j < 1000000) ∧ ∀ p, H p = none → ∀ q, upd H p (.rng i j) q = none → Q (.ref q) (upd (upd H p (.rng i j)) q (.lst ((List.range (j - i).toNat).map fun (n : Nat) => V.int (i + (n : Int)))))
theorem ins_range {K : PySem.W.Frag} {ρ : List Addr} {H : Hp} {Sx : Addr → Prop} {i : Int} : ∀ (l : List Nat), Ins K ρ H Sx (l.map fun (n : Nat) => D.int (i + (n : Int))) (l.map fun (n : Nat) => V.int (i + (n : Int)))
  | [] => .nil
  | n :: l => .cons ⟨[], .int, fun _ m => nomatch m⟩ (ins_range l)
theorem cfs_range {i : Int} : ∀ (l : List Nat), cfs (l.map fun (n : Nat) => D.int (i + (n : Int))) = true
  | [] => rfl
  | n :: l => by simp [cfs, cf, cfs_range l]
theorem at_rngL (x y : D) : At2 K0 .rngL rRngL x y := by
  intro ρ H Sx d k v1 v2 Q h1 h2 e w
  cases x <;> cases y <;> first | (exact nomatch (show (none : Option (D × Bool)) = some (d, k) from e)) | skip
  rename_i i j
  simp only [op2] at e
  split at e
  · rename_i hb
    obtain ⟨rfl, rfl⟩ := some_pair e
    obtain rfl := h1.int
    obtain rfl := h2.int
    refine ⟨i, j, rfl, rfl, ⟨hb.2.1, hb.1, hb.2.2.2, hb.2.2.1⟩, fun p hp q hq => w _ _ (fun b u e => ?_) ?_⟩
    · exact (Same.put hq) b u ((Same.put hp) b u e)
    · have := Res.lst (K := K0) (ρ := ρ) (H := upd H p (.rng i j)) (Sx := Sx) (ins_range (i := i) (List.range (j - i).toNat)) hq
      rw [cfs_range] at this
      obtain ⟨F, r, nd, m⟩ := this
      exact ⟨F, r, nd, fun a z => by
        have h0 := m a z
        by_cases ap : a = p
        · subst ap; rw [upd_same] at h0; cases h0
        · rwa [upd_ne ap] at h0⟩
  · cases e
theorem trees_one {v : PySem.Expr} {cp : Pos} {env : Env} (h : plainE v = true) : backTo cp (starEach [v] env) = [(false, eval v env)] := by
  rw [star_plain h]; rfl
theorem ok_chain {c : Ck} {X : Cx} {Wx : WX} {p1 p2 : CmpOp} {o1 o2 : O2} {a' b' : Ex} {i : Nat} {m : Str} {mp p : Pos} {x z : PySem.Expr} (F : Fit T n cl c X Wx) (h1 : chB p1 = some o1) (h2 : chB p2 = some o2) (h3 : nameB c i m = true) (h4 : markB p2 z = true)
    (k1 : PE X x (trE X.K cl (lkOf T n) Wx a')) (k2 : PE X z (trE X.K cl (lkOf T n) Wx b')) : OkE T n cl X Wx (.and (.op2 o1 a' (.var i)) (.op2 o2 (.var i) b')) (.Compare x [p1, p2] [.Name m mp, z] p) := by
  obtain ⟨f1, r1, s1⟩ := chB_ok (X := X) h1
  obtain ⟨f2, r2, s2⟩ := chB_ok (X := X) h2
  refine ⟨(pe_chain r1 r2 k1 (F.name h3) k2 (lastMarks_ok (behind h4))).imp fun σ H Q q => tChain_mono (tr_chain s1 s2 q) fun v H' z => z.2, (pt_chain r1 r2 k1 (F.name h3) k2 (lastMarks_ok (behind h4))).imp fun σ H Q q => tChain_mono (tr_chain s1 s2 (tr_truth q)) fun v H' z => ?_⟩
  obtain ⟨⟨b, rfl⟩, k, e, z⟩ := z
  obtain rfl : k = b := e
  exact ⟨_, rfl, z⟩
mutual
theorem chkE_ok : ∀ (x : Ex) (e : PySem.Expr) {c : Ck} {X : Cx} {Wx : WX}, Fit T n cl c X Wx → chkE c x e = true → OkE T n cl X Wx x e
  | .con k, e, c, X, Wx, F, h => by
    unfold chkE at h
    split at h
    · exact .of ((pe_conB h).imp fun σ H Q q => tr_con q) fun _ => rfl
    · cases h
  | .var i, e, c, X, Wx, F, h => by
    unfold chkE at h
    split at h
    · exact .of ((F.name h).imp fun σ H Q q => tr_var q) fun _ => rfl
    · cases h
  | .mv i, e, c, X, Wx, F, h => by
    unfold chkE at h
    split at h
    · exact .of ((F.name h).imp fun σ H Q q => tr_mv q) fun _ => rfl
    · cases h
  | .tup es, e, c, X, Wx, F, h => by
    unfold chkE at h
    split at h
    · simp only [Bool.and_eq_true] at h
      exact .of ((pe_tup (chkL_ok es _ F h.2)).imp fun σ H Q q => tr_tup h.1 q) fun _ => rfl
    · cases h
  | .lst es, e, c, X, Wx, F, h => by
    unfold chkE at h
    split at h
    · simp only [Bool.and_eq_true] at h
      exact .of ((pe_lst (chkL_ok es _ F h.2)).imp fun σ H Q q => tr_lst h.1 q) fun _ => rfl
    · cases h
  | .op1 o a, e, c, X, Wx, F, h => by
    unfold chkE at h
    split at h
    · simp only [Bool.and_eq_true, decide_eq_true_eq] at h
      obtain ⟨rfl, h⟩ := h
      exact .of ((pe_un un_neg (chkE_ok a _ F h).1).imp fun σ H Q q => tr_op1 at_neg q) fun _ => rfl
    · simp only [Bool.and_eq_true, decide_eq_true_eq] at h
      obtain ⟨rfl, h⟩ := h
      have ha := (chkE_ok a _ F h).1
      have key : ∀ σ H Q, trE X.K cl (lkOf T n) Wx (.op1 .isN a) σ H Q → tOp (fun x y H Q => y = .non ∧ Q (.bl (decide (x = .non))) H) (trE X.K cl (lkOf T n) Wx a) (tC .non) σ H Q := fun σ H Q q => trE_mono (tr_op1 (at_isN (b := true) .isN (.inl ⟨rfl, rfl⟩)) q) fun v H' z => ⟨rfl, by simpa using z⟩
      exact ⟨(pe_cmpR op_isN ha pe_non (nomark _)).imp key, (pt_cmpT op_isN ha pe_non (nomark _)).imp fun σ H Q q => key σ H _ (tr_truth q)⟩
    · simp only [Bool.and_eq_true, decide_eq_true_eq] at h
      obtain ⟨rfl, h⟩ := h
      have ha := (chkE_ok a _ F h).1
      have key : ∀ σ H Q, trE X.K cl (lkOf T n) Wx (.op1 .notN a) σ H Q → tOp (fun x y H Q => y = .non ∧ Q (.bl (!decide (x = .non))) H) (trE X.K cl (lkOf T n) Wx a) (tC .non) σ H Q := fun σ H Q q => trE_mono (tr_op1 (at_isN (b := false) .notN (.inr ⟨rfl, rfl⟩)) q) fun v H' z => ⟨rfl, by simpa using z⟩
      exact ⟨(pe_cmpR op_notN ha pe_non (nomark _)).imp key, (pt_cmpT op_notN ha pe_non (nomark _)).imp fun σ H Q q => key σ H _ (tr_truth q)⟩
    · simp only [Bool.and_eq_true, decide_eq_true_eq] at h
      obtain ⟨rfl, h⟩ := h
      exact .of ((pe_revA (chkE_ok a _ F h).1).imp fun σ H Q q => tr_op1 at_rev q) fun _ => rfl
    · simp only [Bool.and_eq_true, decide_eq_true_eq] at h
      obtain ⟨⟨⟨⟨⟨rfl, h1⟩, h2⟩, h3⟩, h4⟩, h5⟩ := h
      obtain ⟨t, ht, rfl⟩ := Option.map_eq_some_iff.mp h1
      obtain ⟨g1, g2, g3⟩ := F.gl h2
      obtain ⟨g1', _, _⟩ := F.gl h3
      obtain ⟨b1, b2, b3, b4⟩ := tn_boot ht
      exact .of ((pe_callB call_isi g1 (F.blt _ (by decide)) (by decide +kernel) (pa_cons (chkE_ok a _ F h5).1 (pa_one (pe_bltn (v := .ty (tnS t)) g1' (F.blt _ b2) b1 rfl b3 b4) rfl) (star_plain h4)) g2 g3 (star_plain h4) rfl).imp fun σ H Q q => trE_mono (tr_op1 (sc_isT t).at q) fun v H' z => by
        obtain ⟨x, e, z⟩ := z
        cases e
        exact z) fun _ => rfl
    · simp only [Bool.and_eq_true, decide_eq_true_eq] at h
      obtain ⟨⟨⟨⟨h1, h2⟩, h3⟩, h4⟩, h5⟩ := h
      obtain ⟨g1, g2, g3⟩ := F.gl h3
      exact .of (ok_bi (bi_ok F.calm F.gd F.un h1) g1 (F.blt _ h2) g2 g3 h4 (chkE_ok a _ F h5).1) fun _ => rfl
    · cases h
  | .op2 o a b, e, c, X, Wx, F, h => by
    unfold chkE at h
    split at h
    · simp only [Bool.and_eq_true, decide_eq_true_eq] at h
      obtain ⟨⟨h1, h2⟩, h3⟩ := h
      exact .of (ok_bin (opB_ok h1) (chkE_ok a _ F h2).1 (chkE_ok b _ F h3).1) fun _ => rfl
    · simp only [Bool.and_eq_true, decide_eq_true_eq] at h
      obtain ⟨⟨⟨h1, h2⟩, h3⟩, h4⟩ := h
      exact ok_cmp (cmpB_ok F.un h1) (behind h2) (chkE_ok a _ F h3).1 (chkE_ok b _ F h4).1
    · simp only [Bool.and_eq_true, decide_eq_true_eq] at h
      obtain ⟨⟨rfl, h1⟩, h2⟩ := h
      exact .of ((pe_slice sl_any (chkE_ok a _ F h1).1 (po_some (chkE_ok b _ F h2).1) po_none).imp fun σ H Q q => tr_op2 sp_sfrom.at q) fun _ => rfl
    · simp only [Bool.and_eq_true, decide_eq_true_eq] at h
      obtain ⟨⟨rfl, h1⟩, h2⟩ := h
      exact .of ((pe_slice sl_any (chkE_ok a _ F h1).1 po_none (po_some (chkE_ok b _ F h2).1)).imp fun σ H Q q => tr_op2 sp_sto.at q) fun _ => rfl
    · simp only [Bool.and_eq_true, decide_eq_true_eq] at h
      obtain ⟨⟨⟨rfl, h1⟩, h2⟩, h3⟩ := h
      exact .of ((pe_ix (ix_any (by have := F.un; omega)) (chkE_ok a _ F h2).1 (chkE_ok b _ F h3).1 (ix_plain h1)).imp fun σ H Q q => tr_op2 at_idx q) fun _ => rfl
    · simp only [Bool.and_eq_true, decide_eq_true_eq] at h
      obtain ⟨⟨⟨⟨⟨⟨rfl, rfl⟩, rfl⟩, h1⟩, h2⟩, h3⟩, h4⟩ := h
      obtain ⟨g1, g2, g3⟩ := F.gl h1
      exact .of ((pe_callBK (cr_maxDf F.calm) g1 (F.blt _ (by decide)) (by decide +kernel) (pa_one (chkE_ok a _ F h3).1 h2) (pk_cons (chkE_ok b _ F h4).1 pk_nil) g2 g3 (by rw [star_plain h2]; rfl) (any_plain (by simp [h2]))).imp fun σ H Q q => tr_op2 at_maxD q) fun _ => rfl
    · simp only [Bool.and_eq_true, decide_eq_true_eq] at h
      obtain ⟨⟨⟨⟨⟨⟨⟨⟨rfl, rfl⟩, rfl⟩, h1⟩, h2⟩, h3⟩, h4⟩, h5⟩, h6⟩ := h
      obtain ⟨g1, g2, g3⟩ := F.gl h1
      obtain ⟨g1', g2', g3'⟩ := F.gl h2
      refine .of ((pe_callTy (call_list_rng F.calm) g1 (F.blt _ (by decide)) (by decide +kernel) (pa_one (pe_callTy cr_range2 g1' (F.blt _ (by decide)) (by decide +kernel) (pa_cons (chkE_ok a _ F h5).1 (pa_one (chkE_ok b _ F h6).1 h4) (star_plain h3)) g2' g3' (star_plain h3) (any_plain (by simp [h4]))) rfl) g2 g3).imp fun σ H Q q => ?_) fun _ => rfl
      exact trE_mono (tr_op2 at_rngL q) fun x H1 z => trE_mono z fun y H2 z => by
        obtain ⟨i, j, rfl, rfl, hb, z⟩ := z
        exact ⟨i, j, rfl, fun p hp => ⟨p, i, j, rfl, upd_same, hb, fun r hr => z p hp r hr⟩⟩
    · simp only [Bool.and_eq_true, Bool.or_eq_true, decide_eq_true_eq] at h
      obtain ⟨⟨⟨⟨⟨h0, h1⟩, h2⟩, h3⟩, h4⟩, h5⟩ := h
      obtain ⟨g1, g2, g3⟩ := F.gl h1
      have ka := (chkE_ok a _ F h4).1
      have kb := (chkE_ok b _ F h5).1
      rcases h0 with ⟨rfl, rfl⟩ | ⟨rfl, rfl⟩
      · exact .of ((pe_callB (call_max2 F.calm) g1 (F.blt _ (by decide)) (by decide +kernel) (pa_cons ka (pa_one kb h3) (star_plain h2)) g2 g3 (star_plain h2) (any_plain (by simp [h3]))).imp fun σ H Q q => tr_op2 sp_max2.at q) fun _ => rfl
      · exact .of ((pe_callB (call_min2 F.calm) g1 (F.blt _ (by decide)) (by decide +kernel) (pa_cons ka (pa_one kb h3) (star_plain h2)) g2 g3 (star_plain h2) (any_plain (by simp [h3]))).imp fun σ H Q q => tr_op2 sp_min2.at q) fun _ => rfl
    · simp only [Bool.and_eq_true, decide_eq_true_eq] at h
      obtain ⟨⟨⟨⟨⟨rfl, rfl⟩, h1⟩, h2⟩, h3⟩, h4⟩ := h
      exact .of ((pe_dget1 (by have := F.un; omega) (chkE_ok a _ F h3).1 (chkE_ok b _ F h4).1 ⟨rfl, few_one h2, h1, trees_one h2⟩).imp fun σ H Q q => tr_get1 q) fun _ => rfl
    · cases h
  | .op3 o a b d, e, c, X, Wx, F, h => by
    unfold chkE at h
    split at h
    · simp only [Bool.and_eq_true, decide_eq_true_eq] at h
      obtain ⟨⟨⟨rfl, h1⟩, h2⟩, h3⟩ := h
      exact .of ((pe_slice sl_any (chkE_ok a _ F h1).1 (po_some (chkE_ok b _ F h2).1) (po_some (chkE_ok d _ F h3).1)).imp fun σ H Q q => tr_sl q) fun _ => rfl
    · simp only [Bool.and_eq_true, decide_eq_true_eq] at h
      obtain ⟨⟨⟨⟨⟨⟨⟨rfl, rfl⟩, h1⟩, h2⟩, h2'⟩, h3⟩, h4⟩, h5⟩ := h
      exact .of ((pe_dget2 (by have := F.un; omega) (chkE_ok a _ F h3).1 (chkE_ok b _ F h4).1 (chkE_ok d _ F h5).1 ⟨rfl, few_two h2 h2', h1, trees_two h2 h2'⟩).imp fun σ H Q q => tr_get2 q) fun _ => rfl
    · cases h
  | .not a, e, c, X, Wx, F, h => by
    unfold chkE at h
    split at h
    · have k := chkE_ok a _ F h
      exact ⟨(pe_notT k.1).imp fun σ H Q q => tr_notV q, (pt_not k.2).imp fun σ H Q q => tr_notB q⟩
    · cases h
  | .and a b, e, c, X, Wx, F, h => by
    unfold chkE at h
    split at h
    · simp only [Bool.and_eq_true] at h
      obtain ⟨h1, h2⟩ := h
      have k1 := chkE_ok a _ F h1
      split at h2
      · have k2 := chkE_ok b _ F h2
        exact ⟨(pe_andT k1.1 (pe_one k2.1)).imp fun σ H Q q => tr_andV q, (pw_and k1.2 (pw_and1 k2.2)).pt.imp fun σ H Q q => tr_andB q⟩
      · have k2 := chkE_ok b _ F h2
        exact ⟨(pe_andT k1.1 k2.1).imp fun σ H Q q => tr_andV q, (pw_and k1.2 (pw_of k2.2)).pt.imp fun σ H Q q => tr_andB q⟩
    · rename_i x p1 p2 m _ z _
      split at h
      · rename_i o1 a' i o2 j b'
        simp only [Bool.and_eq_true, decide_eq_true_eq] at h
        obtain ⟨⟨⟨⟨⟨⟨h1, h2⟩, rfl⟩, h3⟩, h4⟩, h5⟩, h6⟩ := h
        exact ok_chain F h1 h2 h3 h4 (chkE_ok a' _ F h5).1 (chkE_ok b' _ F h6).1
      · cases h
    · cases h
  | .or a b, e, c, X, Wx, F, h => by
    unfold chkE at h
    split at h
    · simp only [Bool.and_eq_true] at h
      obtain ⟨h1, h2⟩ := h
      have k1 := chkE_ok a _ F h1
      split at h2
      · have k2 := chkE_ok b _ F h2
        exact ⟨(pe_orT k1.1 (pe_one k2.1)).imp fun σ H Q q => tr_orV q, (pw_or k1.2 (pw_or1 k2.2)).pt.imp fun σ H Q q => tr_orB q⟩
      · have k2 := chkE_ok b _ F h2
        exact ⟨(pe_orT k1.1 k2.1).imp fun σ H Q q => tr_orV q, (pw_or k1.2 (pw_of k2.2)).pt.imp fun σ H Q q => tr_orB q⟩
    · cases h
  | .ite t a b, e, c, X, Wx, F, h => by
    unfold chkE at h
    split at h
    · simp only [Bool.and_eq_true] at h
      obtain ⟨⟨h1, h2⟩, h3⟩ := h
      have k1 := chkE_ok t _ F h1
      have k2 := chkE_ok a _ F h2
      have k3 := chkE_ok b _ F h3
      exact ⟨(pe_ifExp k1.2 k2.1 k3.1).imp fun σ H Q q => tr_ite q, (pt_if k1.2 k2.2 k3.2).imp fun σ H Q q => tr_iteB q⟩
    · cases h
  | .call f es, e, c, X, Wx, F, h => by
    unfold chkE at h
    split at h
    · rename_i x _ xs _
      simp only [Bool.and_eq_true, decide_eq_true_eq] at h
      obtain ⟨⟨h1, h2⟩, h3⟩ := h
      obtain ⟨g1, g2, g3⟩ := F.gl h2
      obtain ⟨fa, fd, ps, m1, m2, m3, m4⟩ := F.fns _ _ h1
      have args := chkL_ok es _ F h3
      obtain ⟨pl, _⟩ := chkL_plain h3
      refine .of ?_ fun _ => rfl
      cases xs with
      | nil =>
        refine (pe_g0 (E := WE Wx) m3 F.gd F.rm g1 m1 m2 m4 F.px g3).imp fun σ H Q q => ?_
        cases es with
        | nil => exact tr_nil (tr_call F.tot q)
        | cons e es => cases e <;> (unfold chkL at h3; cases h3)
      | cons y ys =>
        simp only [List.all_cons, Bool.and_eq_true] at pl
        exact (pe_g (E := WE Wx) m3 F.gd F.rm g1 m1 m2 m4 F.px args g3 (star_plain pl.1) (any_plain pl.2)).imp fun σ H Q q => tr_call F.tot q
    · cases h
  | .io _, e, c, X, Wx, F, h => by unfold chkE at h; cases h
  | .glb g, e, c, X, Wx, F, h => by
    unfold chkE at h
    split at h
    · rename_i x _
      simp only [Bool.and_eq_true, List.any_eq_true, decide_eq_true_eq] at h
      obtain ⟨h1, ⟨x', g', i⟩, h2, e1, e2⟩ := h
      dsimp only at e1 e2
      subst e1
      subst e2
      obtain ⟨g1, g2, g3⟩ := F.gl h1
      obtain ⟨t1, t, t2⟩ := F.gls _ _ _ h2
      exact .of ((pe_glob (v := .int i) g1 t2 ⟨t, rfl⟩ g3).imp fun σ H Q q => tr_glb t1 q) fun _ => rfl
    · cases h
  | .lstS ss es, e, c, X, Wx, F, h => by
    unfold chkE at h
    split at h
    · simp only [Bool.and_eq_true] at h
      exact .of ((pe_lst (chkX_ok ss es _ F h.2)).imp fun σ H Q q => tr_lstX h.1 q) fun _ => rfl
    · cases h
  | .dct ks es, e, c, X, Wx, F, h => by
    unfold chkE at h
    split at h
    · rename_i keys xs _
      simp only [Bool.and_eq_true, decide_eq_true_eq] at h
      obtain ⟨⟨⟨⟨⟨⟨h1, h2⟩, h3⟩, h4⟩, h5⟩, h6⟩, h7⟩ := h
      obtain ⟨k1, k2, k3⟩ := keysB_len h2 (by omega)
      have hx := (chkL_plain h7).2
      exact .of ((pe_disp (chkD_ok es xs F h1 h2 h3 h7) k1 (by omega) k2 (by omega)).imp fun σ H Q q => tr_dct h1 h3 h4 h6 q) fun _ => rfl
    · cases h
  | .dct0, e, c, X, Wx, F, h => by
    unfold chkE at h
    split at h
    · exact .of (pe_dnewK.imp fun σ H Q q => tr_dct0 q) fun _ => rfl
    · cases h
  | .dctT0, e, c, X, Wx, F, h => by
    unfold chkE at h
    split at h
    · exact .of (pe_dnewT.imp fun σ H Q q => tr_dctT0 q) fun _ => rfl
    · cases h
  | .pop i path, e, c, X, Wx, F, h => by
    unfold chkE at h
    split at h
    · rename_i o f ap cp
      simp only [Bool.and_eq_true, decide_eq_true_eq] at h
      obtain ⟨⟨rfl, h1⟩, h2⟩ := h
      have ko := chkP_ok F _ o h1
      rw [List.reverse_reverse] at ko
      exact .of ((pe_bm0 PySem.F.plainAttrs_list PySem.F.slot_list_pop PySem.F.type_list_pop mt_pop ko (base_plain _ _ _ h1) h2).imp fun σ H Q q => tr_pop q) fun _ => rfl
    · cases h
  | .popAt i path b, e, c, X, Wx, F, h => by
    unfold chkE at h
    split at h
    · rename_i o f ap x cp
      simp only [Bool.and_eq_true, decide_eq_true_eq, Bool.not_eq_true'] at h
      obtain ⟨⟨⟨⟨⟨rfl, h1⟩, h2⟩, h3⟩, h4⟩, h5⟩ := h
      have ko := chkP_ok F _ o h1
      rw [List.reverse_reverse] at ko
      refine .of ((pe_bm PySem.F.plainAttrs_list PySem.F.slot_list_pop PySem.F.type_list_pop mt_popAt ko (pa_one (chkE_ok b x F h4).1 h2) (base_plain _ _ _ h1) (few_one h2) h5 (star_plain h2) rfl).imp fun σ H Q q => ?_) fun _ => rfl
      obtain ⟨w, u, q1, q2, q3, q4⟩ := tr_popAt h3 q
      exact ⟨w, u, q1, q2, q3, tr_one h3 q4⟩
    · cases h
  | .comp own tg kind it it2 cs y, e, c, X, Wx, F, h => by
    unfold chkE at h
    split at h
    · rename_i elt t iter ifs scope _
      simp only [Bool.and_eq_true, decide_eq_true_eq, Bool.not_eq_true'] at h
      obtain ⟨⟨⟨⟨⟨⟨⟨⟨⟨h1, h2⟩, h3⟩, h4⟩, h5⟩, h6⟩, h7⟩, h8⟩, h9⟩, h10⟩ := h
      have src : kind < 5 ∧ (twoI kind = false → it2 = .con .non) ∧ PI X t iter (trI X.K cl (lkOf T n) Wx kind it it2) := by
        split at h7
        · rename_i a hio
          simp only [Bool.and_eq_true, Bool.not_eq_true'] at h7
          obtain ⟨q1, q2⟩ := ok_iter1 (it2 := it2) F hio (chkE_ok it _ F h7.2).1 h5
          exact ⟨q1, fun _ => isNon_eq h7.1.2, q2⟩
        · rename_i a b hio
          simp only [Bool.and_eq_true] at h7
          obtain ⟨q1, q2⟩ := ok_iter2 F hio (chkE_ok it _ F h7.1.2).1 (chkE_ok it2 _ F h7.2).1 h5 h6
          exact ⟨q1, (fun z => by rw [h7.1.1] at z; cases z), q2⟩
        · cases h7
      obtain ⟨s1, s2, s3⟩ := src
      have ok : BlkOk X.N X.env.scope scope (ownP c own) := by rw [F.nm, F.scp]; exact blkOk_by h1
      have nd : X.N.Nodup := by rw [F.nm]; exact F.nd
      refine .of ((pe_lc (wi := trI X.K cl (lkOf T n) Wx kind it it2) (g := gOf X.K tg) (tt := trC X.K cl (lkOf T n) cs) (te := trE X.K cl (lkOf T n) nox y) F.calm nd s3 ok
        (fun s H C ls fp => chkT_ok (F.blk s H scope ls C fp) tg t h3) (fun s H C ls fp => chkC_ok cs ifs (F.blk s H scope ls C fp) h8 h9) (fun s H C ls fp => (chkE_ok y elt (F.blk s H scope ls C fp) h10).1) (fold_plain h4 _)).imp fun σ H Q q => ?_) fun _ => rfl
      rw [h2]
      exact tr_comp s1 h5 h6 s2 h8 q
    · cases h
theorem chkD_ok : ∀ (es : List Ex) (xs : List PySem.Expr) {ks : List (List Nat)} {keys : List (Option PySem.Expr)} {c : Ck} {X : Cx} {Wx : WX} {pos : Pos}, Fit T n cl c X Wx → noIo es = true → keysB ks keys = true → ks.length = es.length → chkL c es xs = true →
    PPs X pos keys xs ((ks.map fun k => tC (V.str (q k))).zip (es.map fun e => trE X.K cl (lkOf T n) Wx e))
  | [], [], ks, keys, c, X, Wx, pos, F, _, hk, hl, _ => by
    cases ks with
    | nil =>
      cases keys with
      | nil => exact pps_nil
      | cons _ _ => unfold keysB at hk; cases hk
    | cons _ _ => simp at hl
  | [], _ :: _, ks, keys, c, X, Wx, pos, F, _, _, _, h => by unfold chkL at h; cases h
  | e :: es, [], ks, keys, c, X, Wx, pos, F, _, _, _, h => by cases e <;> (unfold chkL at h; cases h)
  | e :: es, x :: xs, ks, keys, c, X, Wx, pos, F, hn, hk, hl, h => by
    have hn' : isIo e = false ∧ noIo es = true := by simpa [noIo] using hn
    cases ks with
    | nil => simp at hl
    | cons k ks =>
      cases keys with
      | nil => unfold keysB at hk; cases hk
      | cons y keys =>
        unfold keysB at hk
        split at hk
        · cases ‹_ = []›
        · rename_i e1 e2
          cases e1
          cases e2
          simp only [Bool.and_eq_true, decide_eq_true_eq] at hk
          obtain ⟨rfl, hk⟩ := hk
          unfold chkL at h
          split at h
          · cases ‹_ = []›
          · rename_i e1 e2
            cases e1
            simp [isIo] at hn'
          · rename_i e1 e2
            cases e1
            cases e2
            simp only [Bool.and_eq_true] at h
            exact pps_cons pe_str (chkE_ok e _ F h.1.2).1 (chkD_ok es _ F hn'.2 hk (by simpa using hl) h.2)
          · cases h
        · cases hk
theorem chkC_ok : ∀ (cs : List Ex) (ifs : List PySem.Expr) {c : Ck} {X : Cx}, Fit T n cl c X nox → cs.length ≤ 1 → chkC c cs ifs = true → PTs X ifs (trC X.K cl (lkOf T n) cs)
  | [], [], c, X, F, _, _ => pts_nil
  | [], _ :: _, c, X, F, _, h => by unfold chkC at h; cases h
  | _ :: _, [], c, X, F, _, h => by unfold chkC at h; cases h
  | [e], [x], c, X, F, _, h => by
    unfold chkC at h
    simp only [Bool.and_eq_true] at h
    exact pts_one (chkE_ok e x F h.1).2
  | [e], x :: y :: r, c, X, F, _, h => by
    unfold chkC at h
    simp only [Bool.and_eq_true] at h
    have := h.2
    unfold chkC at this
    cases this
  | _ :: _ :: _, _ :: _, c, X, F, hl, _ => by simp at hl
theorem chkX_ok : ∀ (ss : List Bool) (es : List Ex) (xs : List PySem.Expr) {c : Ck} {X : Cx} {Wx : WX}, Fit T n cl c X Wx → chkX c ss es xs = true → PA X xs (tAX X.K cl (lkOf T n) Wx ss es)
  | [], [], [], c, X, Wx, F, _ => pa_nil
  | [], [], _ :: _, c, X, Wx, F, h => by unfold chkX at h; cases h
  | [], _ :: _, _, c, X, Wx, F, h => by unfold chkX at h; cases h
  | b :: _, [], _, c, X, Wx, F, h => by cases b <;> (unfold chkX at h; cases h)
  | b :: _, _ :: _, [], c, X, Wx, F, h => by cases b <;> (unfold chkX at h; cases h)
  | true :: ss, e :: es, x :: xs, c, X, Wx, F, h => by
    unfold chkX at h
    split at h
    · cases ‹_ = []›
    · rename_i e0 e1 e2
      cases e0
      cases e1
      cases e2
      simp only [Bool.and_eq_true] at h
      exact StX.pa_star (chkE_ok e _ F h.1).1 (chkX_ok ss es _ F h.2)
    · rename_i e1 _ _
      cases e1
    · cases h
  | false :: ss, e :: es, x :: xs, c, X, Wx, F, h => by
    unfold chkX at h
    simp only [Bool.and_eq_true] at h
    exact pa_cons (chkE_ok e _ F h.1.2).1 (chkX_ok ss es _ F h.2) (star_plain h.1.1)
theorem chkL_ok : ∀ (es : List Ex) (xs : List PySem.Expr) {c : Ck} {X : Cx} {Wx : WX}, Fit T n cl c X Wx → chkL c es xs = true → PA X xs (trA X.K cl (lkOf T n) Wx es)
  | [], [], c, X, Wx, F, _ => pa_nil.imp fun σ H Q q => tr_nil q
  | [], _ :: _, c, X, Wx, F, h => by unfold chkL at h; cases h
  | e :: es, [], c, X, Wx, F, h => by cases e <;> (unfold chkL at h; cases h)
  | e :: es, x :: xs, c, X, Wx, F, h => by
    unfold chkL at h
    split at h
    · cases ‹_ = []›
    · rename_i e1 e2
      cases e1
      cases e2
      simp only [Bool.and_eq_true] at h
      exact (pa_cons (F.name h.1) (chkL_ok es _ F h.2) (star_plain rfl)).imp fun σ H Q q => tr_consI q
    · rename_i e1 e2
      cases e1
      cases e2
      simp only [Bool.and_eq_true, Bool.not_eq_true'] at h
      exact (pa_cons (chkE_ok e _ F h.1.2).1 (chkL_ok es _ F h.2) (star_plain h.1.1.1)).imp fun σ H Q q => tr_consA h.1.1.2 q
    · cases h
end
end
end VS

end

-- VS.Par0
namespace VS
open PySem PySem.Spec PyProof.Rows L2
def isFun (sc : Scope) : Bool := match sc.kind with
  | .function => true
  | _ => false
def lineB (p p' : Pos) : Bool := p'.line == p.line
/-- what is stored from the right -/
def swap2 (sc : Scope) (x y : Str) (px py : Pos) (a b : PySem.Expr) : Bool :=
  isFun sc && decide (sc.names.lookup x = some .local) && decide (sc.names.lookup y = some .local) && (py.line == px.line) && decide (x ≠ y) && plainE a && plainE b && !([a, b].all (foldedForSure 8)) && !([a, b].all (constantsAlone 8))
theorem swap2_ok {env : Env} {x y : Str} {px py kt2 : Pos} {kt k2 : Nat} {pt : Pos} {a b : PySem.Expr} (h : swap2 env.scope x y px py a b = true) : swappedStores [.Tuple [.Name x px, .Name y py] kt pt] (.Tuple [a, b] k2 kt2) env = pure (some [x, y]) := by
  unfold swap2 isFun at h
  simp only [Bool.and_eq_true, decide_eq_true_eq, Bool.not_eq_true'] at h
  obtain ⟨⟨⟨⟨⟨⟨⟨⟨h0, h1⟩, h2⟩, h3⟩, h4⟩, h5⟩, h6⟩, h7⟩, h8⟩ := h
  have hk : env.blockKind = .function := by
    unfold Env.blockKind
    split at h0
    · rename_i e
      rw [e]; rfl
    · cases h0
  have e1 : (env.kindOf x == some .local) = true := by rw [show env.kindOf x = some .local from h1]; rfl
  have e2 : (env.kindOf y == some .local) = true := by rw [show env.kindOf y = some .local from h2]; rfl
  have ne : (y == x) = false := by simpa using fun e => h4 e.symm
  have ne2 : (x == y) = false := by simpa using h4
  have h3' : py.line = px.line := by simpa using h3
  unfold swappedStores
  simp only [List.length_cons, List.length_nil, hk, List.any_cons, List.any_nil, Bool.or_false, List.head?_cons, Option.map_some, Option.getD_some, PySem.Expr.pos, List.filterMap_cons, List.filterMap_nil, e1, e2, h3, beq_self_eq_true, Bool.and_self, if_true]
  simp [h7, h8, List.eraseDups, List.eraseDupsBy, List.eraseDupsBy.loop, ne, ne2]
  intro hh
  rcases hh with hh | hh
  · cases a <;> first | exact absurd hh Bool.false_ne_true | exact absurd h5 Bool.false_ne_true
  · cases b <;> first | exact absurd hh Bool.false_ne_true | exact absurd h6 Bool.false_ne_true
def swap3 (sc : Scope) (x y z : Str) (px py pz : Pos) (a b d : PySem.Expr) : Bool :=
  isFun sc && decide (sc.names.lookup x = some .local) && decide (sc.names.lookup y = some .local) && decide (sc.names.lookup z = some .local) && (py.line == px.line) && (pz.line == px.line) && decide (x ≠ y) && decide (x ≠ z) && decide (y ≠ z) && plainE a && plainE b && plainE d && !([a, b, d].all (foldedForSure 8)) && !([a, b, d].all (constantsAlone 8))
theorem swap3_ok {env : Env} {x y z : Str} {px py pz kt2 : Pos} {kt k2 : Nat} {pt : Pos} {a b d : PySem.Expr} (h : swap3 env.scope x y z px py pz a b d = true) : swappedStores [.Tuple [.Name x px, .Name y py, .Name z pz] kt pt] (.Tuple [a, b, d] k2 kt2) env = pure (some [x, y, z]) := by
  unfold swap3 isFun at h
  simp only [Bool.and_eq_true, decide_eq_true_eq, Bool.not_eq_true'] at h
  obtain ⟨⟨⟨⟨⟨⟨⟨⟨⟨⟨⟨⟨⟨h0, h1⟩, h2⟩, h2'⟩, h3⟩, h3'⟩, h4⟩, h4'⟩, h4''⟩, h5⟩, h6⟩, h6'⟩, h7⟩, h8⟩ := h
  have hk : env.blockKind = .function := by
    unfold Env.blockKind
    split at h0
    · rename_i e
      rw [e]; rfl
    · cases h0
  have e1 : (env.kindOf x == some .local) = true := by rw [show env.kindOf x = some .local from h1]; rfl
  have e2 : (env.kindOf y == some .local) = true := by rw [show env.kindOf y = some .local from h2]; rfl
  have e3 : (env.kindOf z == some .local) = true := by rw [show env.kindOf z = some .local from h2']; rfl
  have n1 : (y == x) = false := by simpa using fun e => h4 e.symm
  have n2 : (x == y) = false := by simpa using h4
  have n3 : (z == x) = false := by simpa using fun e => h4' e.symm
  have n4 : (x == z) = false := by simpa using h4'
  have n5 : (z == y) = false := by simpa using fun e => h4'' e.symm
  have n6 : (y == z) = false := by simpa using h4''
  unfold swappedStores
  simp only [List.length_cons, List.length_nil, hk, List.any_cons, List.any_nil, Bool.or_false, List.head?_cons, Option.map_some, Option.getD_some, PySem.Expr.pos, List.filterMap_cons, List.filterMap_nil, e1, e2, e3, h3, h3', beq_self_eq_true, Bool.and_self, if_true]
  simp [h7, h8, List.eraseDups, List.eraseDupsBy, List.eraseDupsBy.loop, n1, n2, n3, n4, n5, n6]
  intro hh
  rcases hh with hh | hh | hh
  · cases a <;> first | exact absurd hh Bool.false_ne_true | exact absurd h5 Bool.false_ne_true
  · cases b <;> first | exact absurd hh Bool.false_ne_true | exact absurd h6 Bool.false_ne_true
  · cases d <;> first | exact absurd hh Bool.false_ne_true | exact absurd h6' Bool.false_ne_true
/-- no local name -/
def notLoc (sc : Scope) : PySem.Expr → Bool
  | .Name x _ => !decide (sc.names.lookup x = some .local)
  | _ => true
def someCell (sc : Scope) : PySem.Expr → Bool
  | .Tuple ts _ _ => ts.any (notLoc sc)
  | _ => false
theorem filterMap_less {α β : Type} {f : α → Option β} : ∀ {ts : List α}, (∃ t ∈ ts, f t = none) → (ts.filterMap f).length < ts.length
  | [], h => by obtain ⟨_, m, _⟩ := h; cases m
  | t :: ts, h => by
    rw [List.filterMap_cons]
    cases e : f t with
    | none => exact Nat.lt_succ_of_le (List.length_filterMap_le f ts)
    | some y =>
      have : ∃ t ∈ ts, f t = none := by
        obtain ⟨u, m, z⟩ := h
        rcases List.mem_cons.mp m with q | q
        · subst q; rw [e] at z; cases z
        · exact ⟨u, q, z⟩
      simpa using filterMap_less this
theorem stores_cell {t v : PySem.Expr} {env : Env} (h : someCell env.scope t = true) : swappedStores [t] v env = pure none := by
  cases t <;> first | (exact absurd h Bool.false_ne_true) | skip
  rename_i ts k p
  simp only [someCell, List.any_eq_true] at h
  obtain ⟨t, mt, ht⟩ := h
  cases v <;> first | rfl | skip
  rename_i vs k2 p2
  unfold swappedStores
  dsimp only
  split
  · rfl
  · split
    · rfl
    · have less : (ts.filterMap fun
          | .Name id pos => if env.kindOf id == some .local && pos.line == (ts.head?.map (·.pos.line)).getD 0 then some id else none
          | _ => none).length < ts.length := filterMap_less ⟨t, mt, by
        cases t <;> first | rfl | skip
        rename_i x px
        have ht' : env.scope.names.lookup x ≠ some .local := by simpa [notLoc] using ht
        have : (env.kindOf x == some .local) = false := by
          rw [beq_eq_false_iff_ne]
          exact ht'
        simp [this]⟩
      split
      · rfl
      · rename_i hh
        exfalso
        apply hh
        simp only [Bool.or_eq_true, bne_iff_ne, ne_eq]
        exact .inl (Nat.ne_of_lt less)
theorem swaps_loc {t v : PySem.Expr} {l : Nat} {env : Env} (h : notLoc env.scope t = true) : swapsWithSole [t] v l env = pure false := by
  show swapsWith v (some t) l env = pure false
  have nl : ∀ (x : Str) (px : Pos), t = .Name x px → (env.kindOf x == some .local) = false := fun x px e => by
    subst e
    rw [beq_eq_false_iff_ne]
    have : env.scope.names.lookup x ≠ some .local := by simpa [notLoc] using h
    exact this
  unfold swapsWith
  cases v <;> first | rfl | skip
  all_goals
    cases t <;> first | rfl | skip
    have := nl _ _ rfl
    simp [this]
end VS

-- VS.Chk6
/-! The checker of statements. -/
namespace VS
open PySem PySem.Spec PyProof.Rows L2

/-- no display of a tuple, no comprehension -/
def notTup : PySem.Expr → Bool
  | .Tuple _ _ _ => false
  | _ => true
def notComp : PySem.Expr → Bool
  | .ListComp _ _ _ _ => false
  | .SetComp _ _ _ _ => false
  | .DictComp _ _ _ _ _ => false
  | _ => true
def notName : PySem.Expr → Bool
  | .Name _ _ => false
  | _ => true
/-- whether a comprehension's value is swapped in by the machine -/
def swB (sc : Scope) (x : Str) (tp : Pos) (v : PySem.Expr) : Bool := match v with
  | .ListComp elt g scope p => decide (sc.names.lookup x = some .local) && tp.line == p.line && !(scope.names.any fun (n, k) => n == x && (k == .local || k == .cell))
  | _ => false
mutual
def chkS (c : Ck) : Sm → Stmt → Bool
  | .asg tg e, s => match s with
    | .Assign [t] v _ => disj (tgs tg) c.pn && plainE t && ((notTup v || !notName t) || someCell c.sc t) && ((notComp v || notLoc c.sc t) || (match tg, t with
      | .n _, .Name x tp => isFun c.sc && swB c.sc x tp v
      | _, _ => false)) && chkT c tg t && chkE c e v
    | _ => false
  | .aug i o e, s => match s with
    | .AugAssign (.Name x _) op v _ => disj [i] c.pn && ((match op with
      | .Add => decide (o = .add)
      | .Sub => decide (o = .sub)
      | _ => false)) && chkT c (.n i) (.Name x v.pos) && chkE c e v
    | _ => false
  | .ex e, s => match s with
    | .Expr v _ => notComp v && chkE c e v
    | _ => false
  | .ret e, s => match s with
    | .Return (some v) _ => chkE c e v
    | _ => false
  | .retN, s => match s with
    | .Return none _ => true
    | _ => false
  | .ite t a b, s => match s with
    | .If v x y _ => chkE c t v && chkSs c a x && chkSs c b y
    | _ => false
  | .while t b, s => match s with
    | .While v x [] _ => chkE c t v && chkSs c b x
    | _ => false
  | .forI tg kind it it2 clr b, s => match s with
    | .For t iter x [] _ => disj (tgs tg) c.pn && chkT c tg t && noSet iter && !isIo it && !isIo it2 && (match iterOf c.sc kind iter t with
      | some (a, none) => !twoI kind && isNon it2 && chkE c it a
      | some (a, some b) => twoI kind && chkE c it a && chkE c it2 b
      | none => false) && chkSs c b x
    | _ => false
  | .brk, s => match s with
    | .Break _ => true
    | _ => false
  | .cnt, s => match s with
    | .Continue _ => true
    | _ => false
  | .pass, s => match s with
    | .Pass _ => true
    | _ => false
  | .app i path e, s => match s with
    | .Expr (.Call (.Attribute o f ap) [v] [] cp) _ => decide (f = "append") && chkP c i path.reverse o && plainE v && !isIo e && chkE c e v && ap.endLine == cp.line
    | _ => false
  | .ext i path e, s => match s with
    | .Expr (.Call (.Attribute o f ap) [v] [] cp) _ => decide (f = "extend") && chkP c i path.reverse o && plainE v && !isIo e && chkE c e v && ap.endLine == cp.line
    | _ => false
  | .par ns es, s => match ns, s with
    | [i, j], .Assign [.Tuple [.Name x px, .Name y py] _ _] (.Tuple [a, b] _ _) _ => disj ns c.pn && swap2 c.sc x y px py a b && decide (c.N[i]? = some x) && decide (c.N[j]? = some y) && decide (es.length = 2) && noIo es && chkL c es [a, b]
    | [i, j, l], .Assign [.Tuple [.Name x px, .Name y py, .Name z pz] _ _] (.Tuple [a, b, d] _ _) _ => disj ns c.pn && swap3 c.sc x y z px py pz a b d && decide (c.N[i]? = some x) && decide (c.N[j]? = some y) && decide (c.N[l]? = some z) && decide (es.length = 3) && noIo es && chkL c es [a, b, d]
    | _, _ => false
  | .setK i path kx e, s => match s with
    | .Assign [.Subscript o k _] v _ => notTup v && notComp v && chkP c i path.reverse o && ixB k && chkE c kx k && chkE c e v
    | _ => false
def chkSs (c : Ck) : List Sm → List Stmt → Bool
  | [], [] => true
  | m :: r, s :: t => chkS c m s && chkSs c r t
  | _, _ => false
end
section
variable {T : Tb} {n : Nat} {cl : String → Addr → Prop} {c : Ck} {X : Cx} {Wx : WX}
theorem swaps_no {v : PySem.Expr} (h : notComp v = true) (t : Option PySem.Expr) (l : Nat) (env : Env) : swapsWith v t l env = pure false := by
  cases v <;> first | rfl | cases h
theorem swaps_sole {t v : PySem.Expr} (h : notComp v = true) {l : Nat} {env : Env} : swapsWithSole [t] v l env = pure false := swaps_no h (some t) l env
theorem swaps_no2 {t v : PySem.Expr} {l : Nat} {env : Env} (h : (notComp v || notLoc env.scope t) = true) : swapsWithSole [t] v l env = pure false := by
  rcases Bool.or_eq_true_iff.mp h with h | h
  · exact swaps_no h (some t) l env
  · exact swaps_loc h
theorem stores_no {t v : PySem.Expr} (h : notTup v = true) (env : Env) : swappedStores [t] v env = pure none := by
  cases t <;> cases v <;> first | rfl | cases h
theorem stores_no' {t v : PySem.Expr} (h : (notTup v || !notName t) = true) (env : Env) : swappedStores [t] v env = pure none := by
  cases t <;> cases v <;> first | rfl | cases h
theorem stores_no2 {t v : PySem.Expr} {env : Env} (h : ((notTup v || !notName t) || someCell env.scope t) = true) : swappedStores [t] v env = pure none := by
  rcases Bool.or_eq_true_iff.mp h with h | h
  · exact stores_no' h env
  · exact stores_cell h
theorem src_ok (F : Fit T n cl c X Wx) {kind : Nat} {iter t : PySem.Expr} {it it2 : Ex} (h5 : isIo it = false) (h6 : isIo it2 = false) (h7 : (match iterOf c.sc kind iter t with
      | some (a, none) => !twoI kind && isNon it2 && chkE c it a
      | some (a, some b) => twoI kind && chkE c it a && chkE c it2 b
      | none => false) = true) : kind < 5 ∧ (twoI kind = false → it2 = .con .non) ∧ PI X t iter (trI X.K cl (lkOf T n) Wx kind it it2) := by
  split at h7
  · rename_i a hio
    simp only [Bool.and_eq_true, Bool.not_eq_true'] at h7
    obtain ⟨q1, q2⟩ := ok_iter1 (it2 := it2) F hio (chkE_ok it _ F h7.2).1 h5
    exact ⟨q1, fun _ => isNon_eq h7.1.2, q2⟩
  · rename_i a b hio
    simp only [Bool.and_eq_true] at h7
    obtain ⟨q1, q2⟩ := ok_iter2 F hio (chkE_ok it _ F h7.1.2).1 (chkE_ok it2 _ F h7.2).1 h5 h6
    exact ⟨q1, (fun z => by rw [h7.1.1] at z; cases z), q2⟩
  · cases h7
theorem name_loc (F : Fit T n cl c X Wx) {i : Nat} {x : Str} {p : Pos} (h : chkT c (.n i) (.Name x p) = true) : X.N[i]? = some x ∧ Loc X.env.scope x ∧ (X.fn x = true ∨ X.env.scope.names.lookup x = some .local) := by
  unfold chkT at h
  simp only [Bool.and_eq_true, decide_eq_true_eq] at h
  obtain ⟨h1, h2⟩ := h
  have hN : X.N[i]? = some x := by rw [F.nm]; exact h1
  split at h2
  · rename_i hk
    have hk' : X.env.scope.names.lookup x = some .local := by rw [F.scp]; exact hk
    exact ⟨hN, .inl hk', .inr hk'⟩
  · rename_i hk
    have hk' : X.env.scope.names.lookup x = some .cell := by rw [F.scp]; exact hk
    exact ⟨hN, .inr hk', .inl (F.fnk h2 x)⟩
  · cases h2
theorem sub_asg {o k : PySem.Expr} {pos : Pos} (h : ixB k = true) : ∀ v, assign (.Subscript o k pos) X.env v = (do
      let ov ← holding [v] (eval o X.env)
      let iv ← holding [v, ov] (eval k X.env)
      standAt pos
      holding [v, ov, iv] (setItem ov iv v)
      release [v, ov, iv] []) := by
  intro v
  cases k <;> first | rfl | cases h
theorem swaps_yes {env : Env} {x : Str} {tp p : Pos} {elt : PySem.Expr} {g : List Comprehension} {scope : Scope} {l : Nat} (hf : isFun env.scope = true) (h : swB env.scope x tp (.ListComp elt g scope p) = true) : swapsWith (.ListComp elt g scope p) (some (.Name x tp)) l env = pure true := by
  unfold isFun at hf
  have hk : env.blockKind = .function := by
    unfold Env.blockKind
    split at hf
    · rename_i e
      rw [e]; rfl
    · cases hf
  unfold swB at h
  simp only [Bool.and_eq_true, decide_eq_true_eq, Bool.not_eq_true'] at h
  obtain ⟨⟨h1, h2⟩, h3⟩ := h
  have e1 : (env.kindOf x == some .local) = true := by rw [show env.kindOf x = some .local from h1]; rfl
  show (pure (env.blockKind == .function && env.kindOf x == some .local && tp.line == p.line && !(scope.names.any fun (n, k) => n == x && (k == .local || k == .cell))) : Sem Bool) = pure true
  rw [hk, e1, h2, h3]
  rfl
/-- name = [..] -/
theorem ok_setLc (F : Fit T n cl c X Wx) {i : Nat} {x : Str} {tp sp : Pos} {own : List Nat} {tg : Tg} {kind : Nat} {it it2 y : Ex} {cs : List Ex} {v : PySem.Expr} (hJ : disj [i] c.pn = true) (hs : swB c.sc x tp v = true) (hf : isFun c.sc = true) (hi : chkT c (.n i) (.Name x tp) = true) (h : chkE c (.comp own tg kind it it2 cs y) v = true) :
    PS X (.Assign [.Name x tp] v sp) (trS X.K cl (lkOf T n) Wx c.pin (.asg (.n i) (.comp own tg kind it it2 cs y))) := by
  unfold chkE at h
  split at h
  · rename_i elt t iter ifs scope pv
    simp only [Bool.and_eq_true, decide_eq_true_eq, Bool.not_eq_true'] at h
    obtain ⟨⟨⟨⟨⟨⟨⟨⟨⟨h1, h2⟩, h3⟩, h4⟩, h5⟩, h6⟩, h7⟩, h8⟩, h9⟩, h10⟩ := h
    obtain ⟨s1, s2, s3⟩ := src_ok F h5 h6 h7
    have ok : BlkOk X.N X.env.scope scope (ownP c own) := by rw [F.nm, F.scp]; exact blkOk_by h1
    have nd : X.N.Nodup := by rw [F.nm]; exact F.nd
    obtain ⟨n1, _, _⟩ := name_loc F hi
    have hl : X.env.scope.names.lookup x = some .local := by
      rw [F.scp]
      unfold swB at hs
      simp only [Bool.and_eq_true, decide_eq_true_eq] at hs
      exact hs.1.1
    refine (ps_setLc (wi := trI X.K cl (lkOf T n) Wx kind it it2) (g := gOf X.K tg) (tt := trC X.K cl (lkOf T n) cs) (te := trE X.K cl (lkOf T n) nox y) F.calm nd n1 hl (swaps_yes (by rw [F.scp]; exact hf) (by rw [F.scp]; exact hs)) s3 ok
      (fun s H C ls fp => chkT_ok (F.blk s H scope ls C fp) tg t h3) (fun s H C ls fp => chkC_ok cs ifs (F.blk s H scope ls C fp) h8 h9) (fun s H C ls fp => (chkE_ok y elt (F.blk s H scope ls C fp) h10).1) (fold_plain h4 _)).imp fun E σ H q => ?_
    have q1 := ts_asg (J := c.pin) (tg := .n i) (fun j hj => disj_of hJ j (by simpa [tgs] using hj)) q
    rw [h2]
    exact tr_comp s1 h5 h6 s2 h8 q1
  · cases h
mutual
theorem chkS_ok (F : Fit T n cl c X Wx) (hp : PassesOwn (model X.prog X.w) X.A X.env X.xe) : ∀ (m : Sm) (s : Stmt), chkS c m s = true → PS X s (trS X.K cl (lkOf T n) Wx c.pin m)
  | .asg tg e, s, h => by
    unfold chkS at h
    split at h
    · rename_i t v _
      simp only [Bool.and_eq_true] at h
      obtain ⟨⟨⟨⟨⟨h0, h1⟩, h2⟩, h3⟩, h4⟩, h5⟩ := h
      rcases Bool.or_eq_true_iff.mp h3 with h3 | h3
      case inr =>
        split at h3
        · rename_i i x tp
          simp only [Bool.and_eq_true] at h3
          cases e with
          | comp own tg kind it it2 cs y => exact ok_setLc F (by simpa [tgs] using h0) h3.2 h3.1 h4 h5
          | _ => cases v <;> first | exact absurd h3.2 Bool.false_ne_true | (simp [chkE] at h5)
        · cases h3
      have one : (assignEach [t] X.env).map (·.2) = [assign t X.env] := by cases t <;> first | rfl | cases h1
      exact (ps_asg (chkE_ok e v F h5).1 (chkT_ok F tg t h4) (swaps_no2 (by rw [F.scp]; exact h3)) (stores_no2 (by rw [F.scp]; exact h2)) one).imp fun E σ H q => ts_asg (disj_of h0) q
    · cases h
  | .aug i o e, s, h => by
    unfold chkS at h
    split at h
    · rename_i x p op v _
      simp only [Bool.and_eq_true] at h
      obtain ⟨⟨⟨h0, h1⟩, h2⟩, h3⟩ := h
      have hJ : ¬ c.pin i := disj_of h0 i (by simp)
      obtain ⟨n1, n2, n3⟩ := name_loc F h2
      have nd : X.N.Nodup := by rw [F.nm]; exact F.nd
      split at h1
      · have ho : o = .add := by simpa using h1
        subst ho
        exact (ps_aug nd n1 n2 (chkE_ok e _ F h3).1 ip_add n3).imp fun E σ H q => ts_aug_add hJ q
      · have ho : o = .sub := by simpa using h1
        subst ho
        exact (ps_aug nd n1 n2 (chkE_ok e _ F h3).1 ip_sub n3).imp fun E σ H q => ts_aug_sub hJ q
      · cases h1
    · cases h
  | .ex e, s, h => by
    unfold chkS at h
    split at h
    · simp only [Bool.and_eq_true] at h
      exact (ps_expr (chkE_ok e _ F h.2).1 (swaps_no h.1 _ _ _)).imp fun E σ H q => ts_ex q
    · cases h
  | .ret e, s, h => by
    unfold chkS at h
    split at h
    · exact (ps_ret (chkE_ok e _ F h).1).imp fun E σ H q => ts_ret q
    · cases h
  | .retN, s, h => by
    unfold chkS at h
    split at h
    · exact ps_retN.imp fun E σ H q => ts_retN q
    · cases h
  | .ite t a b, s, h => by
    unfold chkS at h
    split at h
    · simp only [Bool.and_eq_true] at h
      exact (ps_if (chkE_ok t _ F h.1.1).2 (chkSs_ok F hp a _ h.1.2) (chkSs_ok F hp b _ h.2)).imp fun E σ H q => ts_if q
    · cases h
  | .while t b, s, h => by
    unfold chkS at h
    split at h
    · simp only [Bool.and_eq_true] at h
      exact (ps_while hp (chkE_ok t _ F h.1).2 (chkSs_ok F hp b _ h.2)).imp fun E σ H q => ts_while q
    · cases h
  | .forI tg kind it it2 clr b, s, h => by
    unfold chkS at h
    split at h
    · simp only [Bool.and_eq_true, Bool.not_eq_true'] at h
      obtain ⟨⟨⟨⟨⟨⟨h0, h1⟩, h2⟩, h3⟩, h4⟩, h5⟩, h6⟩ := h
      obtain ⟨s1, s2, s3⟩ := src_ok F h3 h4 h5
      exact (ps_for hp F.calm s3 (chkT_ok F tg _ h1) (chkSs_ok F hp b _ h6) (fold_plain h2 _)).imp fun E σ H q => ts_for (disj_of h0) s1 h3 h4 s2 q
    · cases h
  | .brk, s, h => by
    unfold chkS at h
    split at h
    · exact ps_break.imp fun E σ H q => ts_brk q
    · cases h
  | .cnt, s, h => by
    unfold chkS at h
    split at h
    · exact ps_continue.imp fun E σ H q => ts_cnt q
    · cases h
  | .pass, s, h => by
    unfold chkS at h
    split at h
    · exact ps_pass.imp fun E σ H q => ts_pass q
    · cases h
  | .par ns es, s, h => by
    have nd : X.N.Nodup := by rw [F.nm]; exact F.nd
    have at' : ∀ {i : Nat} {x : Str}, c.N[i]? = some x → X.N[i]? = some x := fun h => by rw [F.nm]; exact h
    have lk : ∀ {x : Str}, c.sc.names.lookup x = some .local → X.env.scope.names.lookup x = some .local := fun h => by rw [F.scp]; exact h
    have apart : ∀ {i j : Nat} {x y : Str}, c.N[i]? = some x → c.N[j]? = some y → x ≠ y → i ≠ j := fun h1 h2 n e => by
      subst e
      rw [h1] at h2
      exact n (Option.some.inj h2)
    unfold chkS at h
    split at h
    · rename_i i j x px y py _ _ a b _ _ _
      simp only [Bool.and_eq_true, decide_eq_true_eq] at h
      obtain ⟨⟨⟨⟨⟨⟨h0, h1⟩, h2⟩, h3⟩, h4⟩, h5⟩, h6⟩ := h
      have sw := h1
      unfold swap2 at h1
      simp only [Bool.and_eq_true, decide_eq_true_eq] at h1
      obtain ⟨⟨⟨⟨⟨⟨⟨⟨_, l1⟩, l2⟩, _⟩, nxy⟩, _⟩, _⟩, _⟩, _⟩ := h1
      match es, h4, h5, h6 with
      | [e1, e2], _, h5, h6 =>
        exact (ps_par F.calm nd (at' h2) (at' h3) (apart h2 h3 nxy) (lk l1) (lk l2) (chkL_ok _ _ F h6) (swap2_ok (by rw [F.scp]; exact sw)) rfl).imp fun E σ H q => ts_par2 (disj_of h0) h5 q
    · rename_i i j l x px y py z pz _ _ a b d _ _ _
      simp only [Bool.and_eq_true, decide_eq_true_eq] at h
      obtain ⟨⟨⟨⟨⟨⟨⟨h0, h1⟩, h2⟩, h3⟩, h3'⟩, h4⟩, h5⟩, h6⟩ := h
      have sw := h1
      unfold swap3 at h1
      simp only [Bool.and_eq_true, decide_eq_true_eq] at h1
      obtain ⟨⟨⟨⟨⟨⟨⟨⟨⟨⟨⟨⟨⟨_, l1⟩, l2⟩, l3⟩, _⟩, _⟩, nxy⟩, nxz⟩, nyz⟩, _⟩, _⟩, _⟩, _⟩, _⟩ := h1
      match es, h4, h5, h6 with
      | [e1, e2, e3], _, h5, h6 =>
        exact (ps_par3 F.calm nd (at' h2) (at' h3) (at' h3') (apart h2 h3 nxy) (apart h2 h3' nxz) (apart h3 h3' nyz) (lk l1) (lk l2) (lk l3) (chkL_ok _ _ F h6) (swap3_ok (by rw [F.scp]; exact sw)) rfl).imp fun E σ H q => ts_par3 (disj_of h0) h5 q
    · cases h
  | .setK i path kx e, s, h => by
    unfold chkS at h
    split at h
    · rename_i o k _ v _
      simp only [Bool.and_eq_true] at h
      obtain ⟨⟨⟨⟨⟨h1, h2⟩, h3⟩, h4⟩, h5⟩, h6⟩ := h
      have ko := chkP_ok F _ o h3
      rw [List.reverse_reverse] at ko
      have hu : X.A.units + 1 < cLine := by have := F.un; omega
      refine (ps_asg (chkE_ok e v F h6).1 (pg_sub ko (chkE_ok kx k F h5).1 (set_any hu) (sub_asg h4)) (hs := swaps_sole h2) (hw := stores_no h1 _) (h1 := rfl)).imp fun E σ H q => ts_set q
    · cases h
  | .app i path e, s, h => by
    unfold chkS at h
    split at h
    · rename_i o f ap v cp _
      simp only [Bool.and_eq_true, decide_eq_true_eq, Bool.not_eq_true'] at h
      obtain ⟨⟨⟨⟨⟨rfl, h1⟩, h2⟩, h3⟩, h4⟩, h5⟩ := h
      have ko := chkP_ok F _ o h1
      rw [List.reverse_reverse] at ko
      refine (ps_expr (pe_bm PySem.F.plainAttrs_list PySem.F.slot_list_append PySem.F.type_list_append mt_append ko (pa_one (chkE_ok e v F h4).1 h2) (base_plain _ _ _ h1) (few_one h2) h5 (star_plain h2) rfl) rfl).imp fun E σ H q => ?_
      obtain ⟨w, u, q1, q2, q3, q4⟩ := ts_app h3 q
      exact ⟨w, u, q1, q2, q3, tr_one h3 q4⟩
    · cases h
  | .ext i path e, s, h => by
    unfold chkS at h
    split at h
    · rename_i o f ap v cp _
      simp only [Bool.and_eq_true, decide_eq_true_eq, Bool.not_eq_true'] at h
      obtain ⟨⟨⟨⟨⟨rfl, h1⟩, h2⟩, h3⟩, h4⟩, h5⟩ := h
      have ko := chkP_ok F _ o h1
      rw [List.reverse_reverse] at ko
      refine (ps_expr (pe_bm PySem.F.plainAttrs_list PySem.F.slot_list_extend PySem.F.type_list_extend mt_extA ko (pa_one (chkE_ok e v F h4).1 h2) (base_plain _ _ _ h1) (few_one h2) h5 (star_plain h2) rfl) rfl).imp fun E σ H q => ?_
      obtain ⟨w, u, q1, q2, q3, q4⟩ := ts_ext h3 q
      exact ⟨w, u, q1, q2, q3, tr_one h3 q4⟩
    · cases h
theorem chkSs_ok (F : Fit T n cl c X Wx) (hp : PassesOwn (model X.prog X.w) X.A X.env X.xe) : ∀ (ms : List Sm) (ss : List Stmt), chkSs c ms ss = true → PSs X ss (trSs X.K cl (lkOf T n) Wx c.pin ms)
  | [], [], _ => pss_nil.imp fun E σ H q => ts_nil q
  | [], _ :: _, h => by unfold chkSs at h; cases h
  | _ :: _, [], h => by unfold chkSs at h; cases h
  | m :: ms, s :: ss, h => by
    unfold chkSs at h
    simp only [Bool.and_eq_true] at h
    exact (pss_cons (chkS_ok F hp m s h.1) (chkSs_ok F hp ms ss h.2)).imp fun E σ H q => ts_cons q
end
end
end VS

-- VS.Fns
/-! A def of the text, by its body. -/
namespace VS
open PySem PySem.Spec PyProof.Rows L2

theorem deeper_guards {A : Around} {env : Env} : (A.deeper env).guards = A.guards := by
  first | rfl | simp [Around.deeper]
section
variable {P : Program} {w : World} {K : PySem.W.Frag} {mg : Str → Option Value} {base : Heap} {k : Nat} {f : Addr} {name qual : Str} {params : Arguments} {body : List Stmt} {scope : Scope} {dv kv doc pm cdv ct oc : Value} {an od : Option Addr} {osl : Array (Option Value)} {N ps : List Str} {sp : Sp}
/-- the layer's rule of a def, kept to where no text of an object is being made -/
theorem fnG_of (lk : K.lookup f = some ⟨oc, od, .func (PySem.W.fnOf name qual params body scope dv kv doc pm an cdv ct), osl⟩) (hcd : PySem.W.codeIn K cdv qual = true) (S : FnScope N ps scope) (len : ∀ vs H Q E, sp vs H Q E → vs.length = ps.length)
    (hbody : ∀ (A : Around) (outer : List Env) (s : Shared) (H : Hp) (vs : List V) (Q : VK) (E : XK), (A.deeper (envOfC qual scope s.heap.objs.size f cdv)).guards = some [] → Room k (A.deeper (envOfC qual scope s.heap.objs.size f cdv)) → sp vs H Q E →
      ∃ t, PSs (cxOf (L2.CX P w) P w K mg base N qual scope f cdv A outer s H E) body t ∧ t { nx := fun _ H' => Q .non H', rt := Q } (L2.start N vs) H) :
    FnG P w K mg base (k + 1) f (PySem.W.fnOf name qual params body scope dv kv doc pm an cdv ct) ps sp := by
  refine ⟨len, fun A outer s H args us vs Q E hg hr e0 bound rel hsp => ?_⟩
  have hl := len _ _ _ _ hsp
  have there : K.In s.heap := e0.mod.kin.keeps fun b o z => (e0.bs b o z).1
  have kinds : ∀ y ∈ ps.zip us, scope.names.lookup y.1 = some .local ∨ (scope.names.lookup y.1 = some .cell ∧ ((cellsFrom (s.heap.objs.size + 1) scope.names []).lookup y.1).isSome = true) := fun y hy =>
    (S.par y.1 (List.of_mem_zip (a := y.1) (b := y.2) hy).1).imp id fun z => ⟨z, PySem.W.cellsFrom_some _ _ _ (.inl z)⟩
  refine codeAny_call_function hr.depth (there _ _ lk) rfl S.co S.gen rfl (PySem.W.codeRec_of there hcd) (bound _ _ _ _ ?_)
  refine wpAny_newFunctionEnv_cells S.kind kinds fun env he s1 x => ?_
  subst he
  refine ⟨(e0.mod.nolimit.keeps fun b o z => (e0.bs b o z).1).keeps x.toInCall.keep, codeAny_func ?_⟩
  obtain ⟨t, ht, hq⟩ := hbody A outer s H vs Q E (deeper_guards.trans hg) (hr.deeper _) hsp
  have start := inv_start (CX := L2.CX P w) (E := E) S hr.hd e0 hl rel x
  refine wpAny_mono (ht.run [] s1 (L2.start N vs) H _ start hq) (fun fl s' z => ?_) fun e s' z => z
  cases fl with
  | ret u =>
    obtain ⟨v, _, H', J, rv, q⟩ := z
    exact ⟨v, H', J.os, J.bare, J.base, J.hok, rv, q⟩
  | next =>
    obtain ⟨_, H', J, q⟩ := z
    exact ⟨.non, H', J.os, J.bare, J.base, J.hok, rfl, q⟩
  | brk =>
    obtain ⟨_, _, _, q⟩ := z
    exact q.elim
  | cont =>
    obtain ⟨_, _, _, q⟩ := z
    exact q.elim
end
end VS

-- VS.Fns2
/-! The defs of a text keep what the small language tells of them. -/
namespace VS
open PySem PySem.Spec PyProof.Rows L2

/-- what a callee leaves: the places that it may change -/
def Wd.outs (W : Wd) (c : Fn) : Wd := { W with
  st := ⟨(List.range c.names.length).map fun j => if c.io[j]? = some true then W.st.get j else none, W.st.os⟩
  Fs := fun | .s j => (if c.io[j]? = some true then W.Fs (.s j) else []) | .f o n => W.Fs (.f o n) }
section
variable {K : PySem.W.Frag} {cl : String → Addr → Prop} {σ σ' : L2.St} {W0 W : Wd} {ms : List Nat} {c : Fn} {ods : List D} {vs : List V} {as : List D}
theorem outs_get (h : c.io.length ≤ c.names.length) (j : Nat) : (W.outs c).st.get j = if c.io[j]? = some true then W.st.get j else none := by
  show (((List.range c.names.length).map (fun j => if c.io[j]? = some true then W.st.get j else none))[j]?).join = _
  rw [List.getElem?_map]
  by_cases hj : j < c.names.length
  · rw [List.getElem?_range hj]; rfl
  · rw [List.getElem?_eq_none (by simp; omega), if_neg]
    · rfl
    · intro e
      have := (List.getElem?_eq_some_iff.mp e).1
      omega
theorem outs_at (h : c.io.length ≤ c.names.length) {p : Pl} {x : D × Bool} (e : (W.outs c).st.at p = some x) : W.st.at p = some x ∧ (W.outs c).Fs p = W.Fs p ∧ ∀ j, p = .s j → c.io[j]? = some true := by
  cases p with
  | s j =>
    have e' : (W.outs c).st.get j = some x := e
    rw [outs_get h j] at e'
    split at e'
    · rename_i hj
      exact ⟨e', by show (if c.io[j]? = some true then W.Fs (.s j) else []) = _; rw [if_pos hj], fun i q => by cases q; exact hj⟩
    · cases e'
  | f o n => exact ⟨e, rfl, fun i q => nomatch q⟩
theorem outs_sub {p : Pl} {a : Addr} (m : a ∈ (W.outs c).Fs p) : a ∈ W.Fs p := by
  cases p with
  | s j =>
    have m' : a ∈ (if c.io[j]? = some true then W.Fs (.s j) else []) := m
    split at m'
    · exact m'
    · cases m'
  | f o n => exact m
theorem Sim.outs (s : Sim K cl σ' W) (h : c.io.length ≤ c.names.length) (hl : σ.length = c.names.length) (hp : Pin (fun j => j ∈ ioIx c.io) σ σ') : Sim K cl σ (W.outs c) := by
  refine ⟨fun p d k e => ?_, fun o ob e => s.ob o ob e, s.rl, s.rn, fun p e => ?_, fun p d e => ?_, fun p d e a m => ?_, fun p d e a m => ?_, fun p r d e hpr h1 h2 a m m' => ?_, s.zt, ?_⟩
  · obtain ⟨e1, e2, e3⟩ := outs_at h e
    obtain ⟨v, hv, r⟩ := s.rd p d k e1
    refine ⟨v, ?_, by rw [e2]; exact r⟩
    cases p with
    | s j =>
      show σ[j]? = some (some v)
      rw [← hp j (ioIx_mem.mpr (e3 j rfl))]
      exact hv
    | f o n => exact hv
  · cases p with
    | s j =>
      show (if c.io[j]? = some true then W.Fs (.s j) else []) = []
      split
      · rename_i hj
        have e' : (W.outs c).st.get j = none := e
        rw [outs_get h j, if_pos hj] at e'
        exact s.non (.s j) e'
      · rfl
    | f o n => exact s.non (.f o n) e
  · obtain ⟨e1, e2, _⟩ := outs_at h e
    rw [e2]; exact s.nd p d e1
  · exact s.own p d (outs_at h e).1 a (outs_sub m)
  · exact s.frz p d (outs_at h e).1 a (outs_sub m)
  · exact s.dj p r d e hpr (outs_at h h1).1 (outs_at h h2).1 a (outs_sub m) (outs_sub m')
  · show ((List.range c.names.length).map _).length = _
    rw [List.length_map, List.length_range, hl]
/-- at a def's start it owns what it may change, and what can't be changed -/
theorem mc_io (s : Sim K cl σ W0) (e : W0.st = startS c as W0.st.os) (hl : as.length = c.io.length) {a : Addr} (m : Mc W0 ms a) : Mc W0 (ioIx c.io) a := by
  obtain ⟨p, hp, ⟨d, o⟩, ma⟩ := m
  cases p with
  | f o' n => exact ⟨.f o' n, trivial, ⟨d, o⟩, ma⟩
  | s j =>
    have o' : (startS c as W0.st.os).get j = some (d, true) := by rw [← e]; exact o
    obtain ⟨d', b, e1, e2, e3⟩ := (startS_get hl).mp o'
    cases b with
    | true => exact ⟨.s j, ioIx_mem.mpr e2, ⟨d, o⟩, ma⟩
    | false =>
      have hc : cf d = true := by
        have h1 := congrArg Prod.fst e3
        have h2 := congrArg Prod.snd e3
        dsimp only at h1 h2
        rw [h1]
        simpa using h2.symm
      obtain ⟨v, _, r⟩ := s.rd (.s j) d true o
      obtain ⟨q, _⟩ := r.flat (o' := true) hc
      rw [q] at ma
      cases ma
theorem Step.outs (s : Sim K cl σ W0) (e : W0.st = startS c as W0.st.os) (hl : as.length = c.io.length) (t : Step ms W0 W) : Step (ioIx c.io) W0 (W.outs c) where
  rho := t.rho
  keep := fun a o h n m => t.keep a o h n fun z => m (mc_io s e hl z)
  there := t.there
  fs := fun p a m => (t.fs p a (outs_sub m)).imp id (Or.imp id (Or.imp (fun z => mc_io s e hl z) id))
  zz := t.zz
  zn := t.zn
theorem Tmp.outs {d k v F us} (m : Tmp K W us d k v F) (hu : us = []) : Tmp K (W.outs c) [] d k v F :=
  ⟨m.rd, m.nd, m.nz, fun q a ma p mp => m.nf q a ma p (outs_sub mp), fun q a ma => by
    rcases m.sh q a ma with z | ⟨i, hi, _⟩
    · exact .inl z
    · rw [hu] at hi; cases hi⟩
theorem go_get {st : S} : ∀ {io : List Bool} {i : Nat} {o : List D}, outsOf.go st io i = some o → ∀ j, ((placeOuts io o)[j]?).join = if io[j]? = some true then st.get (i + j) else none
  | [], i, o, h, j => by
    simp only [outsOf.go] at h
    cases h
    simp [placeOuts]
  | true :: r, i, o, h, j => by
    simp only [outsOf.go] at h
    cases e : st.get i with
    | none => rw [e] at h; cases h
    | some p =>
      obtain ⟨d, k⟩ := p
      rw [e] at h
      cases k with
      | false => cases h
      | true =>
        obtain ⟨o', h', rfl⟩ := Option.map_eq_some_iff.mp h
        cases j with
        | zero => simp [placeOuts, e]
        | succ j =>
          have := go_get (io := r) h' j
          rw [show i + 1 + j = i + (j + 1) by omega] at this
          simpa [placeOuts] using this
  | false :: r, i, o, h, j => by
    simp only [outsOf.go] at h
    cases j with
    | zero => cases o <;> simp [placeOuts]
    | succ j =>
      have := go_get (io := r) h j
      rw [show i + 1 + j = i + (j + 1) by omega] at this
      cases o <;> simpa [placeOuts] using this
theorem isOut {st : S} (h : c.io.length ≤ c.names.length) (e : W.st = st) (ho : outsOf c st = some ods) : IsOut c ods st.os (W.outs c).st := by
  subst e
  refine ⟨rfl, fun j => ?_⟩
  have := go_get ho j
  rw [Nat.zero_add] at this
  rw [outs_get h j, this]
end

section
variable {P : Program} {w : World} {K : PySem.W.Frag} {mg : Str → Option Value} {base : Heap} {cl : String → Addr → Prop} {T : Tb} {n : Nat}
/-- a def of the text at one more level -/
theorem def_ok {x qual : Str} {params : Arguments} {body : List Stmt} {scope : Scope} {fa : Addr} {fd : FuncData} {f : String} {c : Fn} {ps : List Str} {tab : List (Str × String)} {gl : List (Str × String × Int)}
    (F : FunD K x qual params body scope [] [] fa fd) (S : FnScope c.names ps scope) (hT : T.fns f = some c) (hm : c.many = ps.length) (hio : c.io.length = c.many)
    (chk : chkSs ⟨c.names, scope, tab, true, ioIx c.io, gl⟩ c.body body = true)
    (blt : ∀ x ∈ bltNames, mg x = none) (tot : ∀ f d, T.fns f = some d → d.io.length = d.many)
    (fns : ∀ x g, (x, g) ∈ tab → ∃ fa fd ps, mg x = some (.ref fa) ∧ PySem.W.keepIn K (.ref fa) = true ∧ FnG P w K mg base n fa fd ps (spF T cl n K g) ∧ Binds K fd ps [])
    (gls : ∀ x g i, (x, g, i) ∈ gl → T.glb g = some (.int i) ∧ ∃ t, mg x = some (.int i t)) :
    FnG P w K mg base (n + 1) fa fd ps (spF T cl (n + 1) K f) := by
  obtain ⟨oc, od, dV, kV, doc, pm, an, cdv, ct, osl, rfl, lk, hcd, _, _⟩ := F.ex
  have hlen : ps.length ≤ c.names.length := by have := congrArg List.length S.pre; rw [List.length_take] at this; omega
  have hion : c.io.length ≤ c.names.length := by omega
  refine fnG_of lk hcd S (fun vs H Q E h => ?_) fun A outer s H vs Q E hg hr h => ?_
  · obtain ⟨c', W0, args, h1, h2, _⟩ := h
    rw [hT] at h1
    cases h1
    exact h2.trans hm
  · obtain ⟨c', W0, as, h1, h2, h3, h4, hH, hst, s0, hgo⟩ := h
    rw [hT] at h1
    cases h1
    refine ⟨trSs K cl (lkOf T n) (fun cls d _ H => E cls d H) (Ck.pin ⟨c.names, scope, tab, true, ioIx c.io, gl⟩) c.body, ?_, ?_⟩
    · refine chkSs_ok (X := cxOf (L2.CX P w) P w K mg base c.names qual scope fa cdv A outer s H E) (n := n) ⟨rfl, S.nd, rfl, rfl, hg, hr, blt, fns, tot, ?_, fun _ _ => rfl, gls⟩ (passes_of rfl) _ _ chk
      intro σ
      exact passAt (takes_of rfl rfl rfl rfl) σ
    · refine ⟨W0, hH, s0, ?_⟩
      have hl : as.length = c.io.length := by omega
      have hsl : (L2.start c.names vs).length = c.names.length := by
        unfold L2.start
        rw [List.length_append, List.length_map, List.length_replicate]
        omega
      simp only [callF, hT, h4, if_true] at hgo
      rw [← hst] at hgo
      have hgo' : match endS c (execs (lkOf T n) c.body W0.st) with
        | .ok d k outs os => ∀ W' v F, IsOut c outs os W'.st → Sim K cl (start c.names vs) W' → Step (ioIx c.io) W0 W' → Tmp K W' [] d k v F → (k = true → ∀ a ∈ F, From W0 (ioIx c.io) a) → Q v W'.H
        | .exc e fs outs os => ∀ W' cls dd, IsOut c outs os W'.st → Sim K cl (start c.names vs) W' → Step (ioIx c.io) W0 W' → ExcAt K cl W' e fs cls dd → E cls dd W'.H
        | .err => False := hgo
      clear hgo
      cases hr2 : execs (lkOf T n) c.body W0.st with
      | next st =>
        rw [hr2] at hgo'
        simp only [endS] at hgo'
        cases ho : outsOf c st with
        | none => rw [ho] at hgo'; exact hgo'.elim
        | some o =>
          rw [ho] at hgo'
          intro W' σ' e s' t' p'
          have := hgo' (W'.outs c) .non [] (isOut hion e ho) (s'.outs hion hsl p') (t'.outs s0 hst hl) (Tmp.of_flat (k := true) .non rfl) (fun _ _ m => nomatch m)
          exact this
      | ret d k st =>
        rw [hr2] at hgo'
        simp only [endS] at hgo'
        cases ho : outsOf c st with
        | none => rw [ho] at hgo'; exact hgo'.elim
        | some o =>
          rw [ho] at hgo'
          intro W' σ' v F e s' t' p' m f
          exact hgo' (W'.outs c) v F (isOut hion e ho) (s'.outs hion hsl p') (t'.outs s0 hst hl) (m.outs rfl) (fun q a ma => (f q a ma).imp id fun z => mc_io s0 hst hl z)
      | exc x fs st =>
        rw [hr2] at hgo'
        simp only [endS] at hgo'
        cases ho : outsOf c st with
        | none => rw [ho] at hgo'; exact hgo'.elim
        | some o =>
          rw [ho] at hgo'
          intro W' σ' cls dd e s' t' p' x
          exact hgo' (W'.outs c) cls dd (isOut hion e ho) (s'.outs hion hsl p') (t'.outs s0 hst hl) x
      | brk st => rw [hr2] at hgo'; exact hgo'.elim
      | cnt st => rw [hr2] at hgo'; exact hgo'.elim
      | err => rw [hr2] at hgo'; exact hgo'.elim
end
end VS

-- VS.End
/-! All defs of a text; the law's end. -/
namespace VS
open PySem PySem.Spec PyProof.Rows L2

/-- a def of the text: its name, its small code, its statement, its parameters -/
structure DefI where
  name : Str
  f : String
  c : Fn
  st : Stmt
  ps : List Str
def argsB (a : Arguments) (ps : List Str) : Bool :=
  a.posonlyargs.isEmpty && a.vararg.isNone && a.kwonlyargs.isEmpty && a.kwarg.isNone && a.defaults.isEmpty && decide (a.args.map (·.arg) = ps)
def scopeB (N ps : List Str) (sc : Scope) : Bool :=
  isFun sc && !sc.isCoroutine && !sc.isGenerator && decide N.Nodup && decide (N.take ps.length = ps) &&
  (ps.all fun x => decide (sc.names.lookup x = some .local) || decide (sc.names.lookup x = some .cell)) && sc.names.all fun y => decide (y.2 ≠ .free)
theorem scopeB_ok {N ps : List Str} {sc : Scope} (h : scopeB N ps sc = true) : FnScope N ps sc := by
  unfold scopeB isFun at h
  simp only [Bool.and_eq_true, decide_eq_true_eq, Bool.not_eq_true', List.all_eq_true, Bool.or_eq_true] at h
  obtain ⟨⟨⟨⟨⟨⟨h1, h2⟩, h3⟩, h4⟩, h5⟩, h6⟩, h7⟩ := h
  refine ⟨?_, h2, h3, h4, h5, h6, fun y hy => h7 y hy⟩
  split at h1
  · assumption
  · cases h1
def DefI.okB (tab : List (Str × String)) (gl : List (Str × String × Int)) (d : DefI) : Bool :=
  argsB (defArgs d.st) d.ps && scopeB d.c.names d.ps (defScope d.st) && decide (d.c.many = d.ps.length) && decide (d.c.io.length = d.c.many) &&
  chkSs ⟨d.c.names, defScope d.st, tab, true, ioIx d.c.io, gl⟩ d.c.body (defBody d.st)
/-- the small code of a text's defs -/
def tbOf (ds : List DefI) (g : String → Option D) : Tb := ⟨fun f => (ds.find? fun d => d.f == f).map (·.c), g⟩
def allB (ds : List DefI) (gl : List (Str × String × Int) := []) : Bool :=
  decide ((ds.map (·.f)).Nodup) && ds.all fun d => d.okB (ds.map fun d => (d.name, d.f)) gl

theorem look_zip : ∀ {ps : List Str} {us : List Value} {x : Str} {v : Value}, ps.Nodup → (x, v) ∈ ps.zip us → (ps.zip us).lookup x = some v
  | [], _, _, _, _, h => by simp at h
  | _ :: _, [], _, _, _, h => by simp at h
  | p :: ps, u :: us, x, v, nd, h => by
    rw [List.zip_cons_cons] at h ⊢
    rw [List.lookup_cons]
    rcases List.mem_cons.mp h with e | h
    · cases e; simp
    · have : x ≠ p := fun e => (List.nodup_cons.mp nd).1 (e ▸ (List.of_mem_zip h).1)
      rw [beq_eq_false_iff_ne.mpr this]
      exact look_zip (List.nodup_cons.mp nd).2 h
theorem look_all : ∀ {ps : List Str} {us : List Value}, ps.Nodup → us.length = ps.length → (ps.filterMap fun n => ((ps.zip us).lookup n).map fun v => (n, v)) = ps.zip us := by
  intro ps us nd hl
  have key : ∀ (qs : List Str) (ws : List Value), qs.length = ws.length → (∀ x v, (x, v) ∈ qs.zip ws → (ps.zip us).lookup x = some v) → (qs.filterMap fun n => ((ps.zip us).lookup n).map fun v => (n, v)) = qs.zip ws := by
    intro qs
    induction qs with
    | nil => intro ws _ _; simp
    | cons q qs ih =>
      intro ws hl h
      cases ws with
      | nil => simp at hl
      | cons u ws =>
        have h1 := h q u (by simp)
        rw [List.filterMap_cons, h1, List.zip_cons_cons]
        exact congrArg ((q, u) :: ·) (ih ws (by simpa using hl) fun x v m => h x v (by rw [List.zip_cons_cons]; exact List.mem_cons_of_mem _ m))
  exact key ps us hl.symm fun x v m => look_zip nd m
theorem miss_none : ∀ {ps : List Str} {us : List Value}, ps.Nodup → us.length = ps.length → (ps.filter fun n => ((ps.zip us).lookup n).isNone) = [] := by
  intro ps us nd hl
  rw [List.filter_eq_nil_iff]
  intro x hx
  obtain ⟨i, hi, rfl⟩ := List.mem_iff_getElem.mp hx
  have : (ps[i], us[i]'(by omega)) ∈ ps.zip us := List.mem_iff_getElem.mpr ⟨i, by simp; omega, by simp⟩
  rw [look_zip nd this]
  simp
theorem bind_plain {x qual : Str} {params : Arguments} {body : List Stmt} {scope : Scope} {kV doc pm : Value} {an : Option Addr} {cdv ct : Value} {ps : List Str} {us : List Value} (h : argsB params ps = true) (nd : ps.Nodup) (hl : us.length = ps.length) :
    bindArgs (PySem.W.fnOf x qual params body scope .none kV doc pm an cdv ct) ⟨us, []⟩ = pure (ps.zip us) := by
  obtain ⟨po, as, va, ko, kd, kw, df⟩ := params
  unfold argsB at h
  simp only [Bool.and_eq_true, List.isEmpty_iff, Option.isNone_iff_eq_none, decide_eq_true_eq] at h
  obtain ⟨⟨⟨⟨⟨rfl, rfl⟩, rfl⟩, rfl⟩, rfl⟩, rfl⟩ := h
  have e0 : seqItems? Value.none = (pure none : Sem (Option (Array Value))) := rfl
  unfold bindArgs
  simp only [PySem.W.fnOf, e0, List.map_nil, List.nil_append, List.append_nil, List.forIn_nil, pure_bind, Option.getD_none, Nat.zero_sub, List.drop_nil, List.length_nil, Nat.sub_zero, List.isEmpty_nil, Bool.not_true]
  rw [List.take_of_length_le (Nat.le_refl _), miss_none nd hl, List.drop_eq_nil_of_le (Nat.le_refl _)]
  have hd : decide (us.length > (as.map (·.arg)).length) = false := by rw [hl]; simp
  simp only [hd, Bool.false_and, if_neg Bool.false_ne_true, List.isEmpty_nil, Bool.not_true, List.zip_nil_left, List.forIn_nil, pure_bind]
  have hm := look_all nd hl
  exact congrArg pure hm

section
variable {P : Program} {w : World} {K : PySem.W.Frag} {mg : Str → Option Value} {base : Heap} {cl : String → Addr → Prop} {ds : List DefI} {g : String → Option D}
theorem tb_find (h : (ds.map (·.f)).Nodup) {d : DefI} (m : d ∈ ds) : ds.find? (fun e => e.f == d.f) = some d := by
  induction ds with
  | nil => cases m
  | cons e r ih =>
    rw [List.map_cons, List.nodup_cons] at h
    rw [List.find?_cons]
    rcases List.mem_cons.mp m with q | q
    · subst q; simp
    · have : (e.f == d.f) = false := by
        rw [beq_eq_false_iff_ne]
        intro z
        exact h.1 (List.mem_map.mpr ⟨d, q, z.symm⟩)
      rw [this]
      exact ih h.2 q
theorem tb_get (h : (ds.map (·.f)).Nodup) {d : DefI} (m : d ∈ ds) : (tbOf ds g).fns d.f = some d.c := by
  show (ds.find? fun e => e.f == d.f).map (·.c) = _
  rw [tb_find h m]; rfl
theorem tb_mem {f : String} {c : Fn} (h : (tbOf ds g).fns f = some c) : ∃ d ∈ ds, d.c = c := by
  obtain ⟨d, h1, h2⟩ := Option.map_eq_some_iff.mp h
  exact ⟨d, List.mem_of_find?_eq_some h1, h2⟩
/-- where a def of the text stands -/
abbrev DefI.At (K : PySem.W.Frag) (d : DefI) (fa : Addr) (fd : FuncData) : Prop := FunD K d.name d.name (defArgs d.st) (defBody d.st) (defScope d.st) [] [] fa fd
theorem all_ok {gl : List (Str × String × Int)} (h : allB ds gl = true) (facts : ∀ d ∈ ds, ∃ fa fd, mg d.name = some (.ref fa) ∧ d.At K fa fd) (blt : ∀ x ∈ bltNames, mg x = none) (gls : ∀ x h i, (x, h, i) ∈ gl → g h = some (.int i) ∧ ∃ t, mg x = some (.int i t) := by intro _ _ _ z; cases z) :
    ∀ n, ∀ d ∈ ds, ∀ fa fd, d.At K fa fd → FnG P w K mg base n fa fd d.ps (spF (tbOf ds g) cl n K d.f) := by
  unfold allB at h
  simp only [Bool.and_eq_true, decide_eq_true_eq, List.all_eq_true] at h
  obtain ⟨nd, hall⟩ := h
  have one : ∀ d ∈ ds, argsB (defArgs d.st) d.ps = true ∧ FnScope d.c.names d.ps (defScope d.st) ∧ d.c.many = d.ps.length ∧ d.c.io.length = d.c.many ∧
      chkSs ⟨d.c.names, defScope d.st, ds.map fun d => (d.name, d.f), true, ioIx d.c.io, gl⟩ d.c.body (defBody d.st) = true := fun d m => by
    have := hall d m
    unfold DefI.okB at this
    simp only [Bool.and_eq_true, decide_eq_true_eq] at this
    obtain ⟨⟨⟨⟨h1, h2⟩, h3⟩, h4⟩, h5⟩ := this
    exact ⟨h1, scopeB_ok h2, h3, h4, h5⟩
  intro n
  induction n with
  | zero =>
    intro d m fa fd F
    refine ⟨fun vs H Q E q => ?_, fun A outer s H args us vs Q E _ _ _ _ _ q => ?_⟩
    · obtain ⟨_, _, _, _, _, _, _, _, _, _, q⟩ := q
      exact False.elim q
    · obtain ⟨_, _, _, _, _, _, _, _, _, _, q⟩ := q
      exact False.elim q
  | succ n ih =>
    intro d m fa fd F
    obtain ⟨h1, h2, h3, h4, h5⟩ := one d m
    refine def_ok F h2 (tb_get nd m) h3 h4 h5 blt (fun f c q => ?_) (fun x f q => ?_) gls
    · obtain ⟨e, m', rfl⟩ := tb_mem q
      exact (one e m').2.2.2.1
    · obtain ⟨e, m', q⟩ := List.mem_map.mp q
      cases q
      obtain ⟨fa', fd', q1, q2⟩ := facts e m'
      obtain ⟨g1, g2, _⟩ := one e m'
      have ndp : e.ps.Nodup := by rw [← g2.pre]; exact g2.nd.sublist (List.take_sublist _ _)
      exact ⟨fa', fd', e.ps, q1, q2.kp, ih e m' fa' fd' q2, FunD.bindsN q2 fun kV doc pm an cdv ct us hl => bind_plain g1 ndp hl⟩

/-- at the law's call the script alone is known: a list that can't be changed -/
def script0 (c : Fn) (ns : List Int) (H : Hp) : Wd := ⟨[], startS c [.lst (ns.map .int)] [], H, fun _ => [], fun _ => False⟩
theorem rds_ints {ρ : List Addr} {H : Hp} : ∀ ns : List Int, Rds K ρ H false (ns.map .int) (ns.map V.int) []
  | [] => .nil
  | n :: ns => .cons (F := []) (G := []) .int (rds_ints ns)
theorem script_sim {c : Fn} {ns : List Int} {H : Hp} {a : Addr} (hio : c.io = [false]) (hN : 1 ≤ c.names.length) (hO : Only H) (hS : SqL K H a (ns.map V.int)) : Sim K cl (start c.names [.ref a]) (script0 c ns H) := by
  have hl : ([.lst (ns.map .int)] : List D).length = c.io.length := by rw [hio]; rfl
  have at_ : ∀ {p : Pl} {d : D} {k : Bool}, (script0 c ns H).st.at p = some (d, k) → p = .s 0 ∧ d = .lst (ns.map .int) ∧ k = false := fun {p d k} e => by
    cases p with
    | s j =>
      obtain ⟨d', b, e1, e2, e3⟩ := (startS_get hl).mp (show (startS c [.lst (ns.map .int)] []).get j = some (d, k) from e)
      cases j with
      | zero =>
        rw [hio] at e2
        cases e1
        cases e2
        cases e3
        exact ⟨rfl, rfl, rfl⟩
      | succ j => cases e1
    | f o n => exact nomatch (show ((([] : List Ob)[o]?).bind fun ob => ob.fs.lookup n) = some (d, k) from e)
  refine ⟨fun p d k e => ?_, (fun o ob e => nomatch (show ([] : List Ob)[o]? = some ob from e)), rfl, List.nodup_nil, (fun _ _ => rfl), (fun _ _ _ => List.nodup_nil), (fun _ _ _ _ m => nomatch m), (fun _ _ _ _ m => nomatch m), (fun _ _ _ _ _ _ _ _ m => nomatch m), (fun _ z => z.elim), ?_⟩
  · obtain ⟨rfl, rfl, rfl⟩ := at_ e
    refine ⟨.ref a, rfl, .lstR ?_ (rds_ints ns)⟩
    rcases hS with (hS | hS) | hS
    · exfalso
      rcases hO a with z | ⟨o, xs, z⟩
      · have := (show H a = some (.lst (ns.map V.int)) from hS).symm.trans z
        cases this
      · have := (show H a = some (.lst (ns.map V.int)) from hS).symm.trans z
        cases this
    · exact .inl hS
    · exact .inr (.inr hS)
  · show ((([.lst (ns.map .int)] : List D).zip c.io).map _ ++ List.replicate (c.names.length - 1) none).length = (start c.names [.ref a]).length
    rw [hio]
    unfold L2.start
    simp
theorem law_sp {T : Tb} {n : Nat} {f : String} {c : Fn} {ns : List Int} {H : Hp} {a : Addr} (hT : T.fns f = some c) (hio : c.io = [false]) (hm : c.many = 1) (hN : 1 ≤ c.names.length) (hO : Only H) (hS : SqL K H a (ns.map V.int))
    (h : ∃ k outs os, callF T n f [.lst (ns.map .int)] [] = .ok (.bl true) k outs os) : spF T cl n K f [.ref a] H (fun v _ => v = .bl true) fun _ _ _ => False := by
  obtain ⟨k, outs, os, h⟩ := h
  refine ⟨c, script0 c ns H, [.lst (ns.map .int)], hT, by rw [hm]; rfl, by rw [hio, hm]; rfl, by rw [hm]; rfl, rfl, rfl, script_sim hio hN hO hS, ?_⟩
  show match callF T n f [.lst (ns.map .int)] [] with | .ok d k outs os => _ | .exc e fs outs os => _ | .err => False
  rw [h]
  intro W' v F _ _ _ m _
  have r := m.rd
  cases r
  rfl
end

section
variable {P : Program} {w : World} {K : PySem.W.Frag} {mg mb : Str → Option Value} {k : Nat} {fa a : Addr} {fd : FuncData} {x : Str} {sp : Sp} {s : Shared} {vs : List Value} {ns : List Int}
/-- the law's call, behind the text's top: nothing that is known may be changed but what the call makes -/
theorem call_top (X : K.In s.heap) (G : s.heap.Ns mainGlobals mg) (B : s.heap.Ns builtinsNs mb) (hB : ∀ y : Str, y ≠ "__name__" → mb y = bootBuiltins y) (lim : s.heap.NoLimit) (noG : s.gens = #[])
    (scr : s.heap.get? a = some { cls := .type "list", data := .seq vs.toArray }) (its : IntsAre vs ns) (short : ns.length ≤ sizeLine) (room : Room k callerA) (gd : callerA.guards = some [])
    (F : ∀ base : Heap, K.In base → base.Ns mainGlobals mg → FnG P w K mg base k fa fd [x] sp) (bd : ∀ (s : Shared) (u : Value), BindsTo s fd ⟨[u], []⟩ [(x, u)])
    (S : ∀ H : Hp, Only H → SqL K H a (ns.map V.int) → sp [.ref a] H (fun v _ => v = .bl true) fun _ _ _ => False) :
    codeAny (model P w) callerA (.call (.ref fa) ⟨[.ref a], []⟩) (fun r s' => r = .ok (.ret (.bool true)) ∧ OldK s.heap s'.heap ∧ s'.os = s.os ∧ AllBare s'.gens) s := by
  -- the script is known as a list, if the text's top does not hold it already
  obtain ⟨H, h1, h2, h3⟩ : ∃ H : Hp, (∀ b u, H b = some u → b = a ∧ K.lookup a = none ∧ u = .frz { cls := .type "list", data := .seq vs.toArray } (.lst (ns.map V.int))) ∧ SqL K H a (ns.map V.int) ∧ HOk P w H s.heap := by
    cases q : K.lookup a with
    | none =>
      refine ⟨fun b => if b = a then some (.frz { cls := .type "list", data := .seq vs.toArray } (.lst (ns.map V.int))) else none, fun b u z => ?_, .inl (.inr ⟨_, if_pos rfl⟩), fun b u z => ?_⟩
      · dsimp only at z
        split at z
        · cases z; exact ⟨by assumption, rfl, rfl⟩
        · cases z
      · dsimp only at z
        split at z
        · rename_i hb
          cases z
          subst hb
          exact ⟨scr, by simpa using short, vs, _, vals_ints its, scr⟩
        · cases z
    | some o =>
      have o' := X a o q
      rw [scr] at o'
      cases o'
      refine ⟨fun _ => none, (fun b u z => nomatch z), .inr ⟨_, vs.toArray, _, q, rfl, rfl, rfl, ?_, by simpa using vals_ints its⟩, (fun b u z => nomatch z)⟩
      rw [List.size_toArray, its.length]
      exact short
  have only : Only H := fun b => by
    cases q : H b with
    | none => exact .inl rfl
    | some u =>
      obtain ⟨_, _, rfl⟩ := h1 b u q
      exact .inr ⟨_, _, rfl⟩
  have free : ∀ {b : Addr} {o : Obj}, s.heap.get? b = some o → (∀ ws n, o.data ≠ .seq ws n) → H b = none := fun {b o} e n => by
    cases q : H b with
    | none => rfl
    | some u =>
      obtain ⟨rfl, _, _⟩ := h1 b u q
      rw [scr] at e
      cases e
      exact absurd rfl (n _ _)
  have ns' : ∀ {b : Addr} {m : Str → Option Value}, s.heap.Ns b m → (hidT s.heap H).Ns b m := fun {b m} q => by
    obtain ⟨o, es, ep, e, d, r⟩ := q
    refine ⟨o, es, ep, hidT_get e (free e fun ws n z => ?_), d, r⟩
    rw [d] at z
    cases z
  have kin : K.In (hidT s.heap H) := fun b o e => by
    refine hidT_get (X b o e) ?_
    cases q : H b with
    | none => rfl
    | some u =>
      obtain ⟨rfl, z, _⟩ := h1 b u q
      rw [z] at e
      cases e
  obtain ⟨mc, l1, l2⟩ := lim
  have env : Env0 P w K mg (hidT s.heap H) callerA [] s H :=
    ⟨rfl, ⟨kin, ns' G, ⟨mb, ns' B, hB⟩, mc, ns' l1, l2⟩, fun _ _ => of_hidT, by rw [hidT_size]; exact Nat.le_refl _, trivial, (fun _ z => nomatch z), h3, .of_eq noG⟩
  have run := (F _ kin (ns' G)).run callerA [] s H ⟨[.ref a], []⟩ [.ref a] [.ref a] _ _ gd room env (bd s (.ref a)) (.cons rfl .nil) (S H only h2)
  refine codeAny_mono run fun r s' z => ?_
  match r, z with
  | .error e, z =>
    exfalso
    obtain ⟨_, _, _, _, _, _, _, _, _, _, _, _, z⟩ := z
    exact z.elim
  | .ok (.ret u), ⟨v, H', e1, e2, e3, e4, e5, e6⟩ =>
    have e6 : v = .bl true := e6
    subst e6
    obtain rfl : u = Value.bool true := e5
    refine ⟨rfl, OldK.of_keep fun b o e => ?_, e1, e2⟩
    rcases only b with q | ⟨ob, xs, q⟩
    · exact e3.keep b o e q (fun z => nomatch z) (by simp)
    · obtain ⟨c1, _⟩ := h3 b _ q
      obtain ⟨c2, _⟩ := e4 b _ (e3.frzs b ob _ q)
      rw [e] at c1
      cases c1
      exact c2
end
/-- a law's end over the small language -/
theorem walk_small {l : PySem.W.OpenLaw} {n k : Nat} {q : Program} {loose : List Str} {XP : (Str → Option Value) → Heap → Prop} {YP : World → Heap → Prop} {d : DefRec} {x : Str}
    (many : l.most = some n) (few : n ≤ sizeLine) (noD : d.params.defaults = []) (room : Room k callerA) (gd : callerA.guards = some [])
    (F : ∀ (w : World) (mg : Str → Option Value) (fa : Addr) (h : Heap), YP w h → h.Ns mainGlobals mg → mg d.name = some (.ref fa) → ∃ (K : PySem.W.Frag) (fd : FuncData) (sp : Sp),
      K.In h ∧ (∀ (s : Shared) (u : Value), BindsTo s fd ⟨[u], []⟩ [(x, u)]) ∧
      (∀ (H : Hp) (a : Addr) (ns : List Int), ns.length ≤ n → Only H → SqL K H a (ns.map V.int) → sp [.ref a] H (fun v _ => v = .bl true) fun _ _ _ => False) ∧
      ∀ base : Heap, K.In base → base.Ns mainGlobals mg → FnG l.prog w K mg base k fa fd [x] sp) :
    PySem.W.WalkO q loose XP YP l.row.toRowW d [] (fun f vs => PySem.call f vs) := by
  refine Att.attach_call many noD fun w s0 s1 mg mb fa o pm cd doc a vs ns G Y _ _ _ hmg scr its len gens => ?_
  obtain ⟨K, fd, sp, X, b, S, hF⟩ := F w mg fa _ Y G.T.g hmg
  exact call_top X G.T.g G.T.b G.T.builtins G.T.nolimit gens scr its (Nat.le_trans len few) room gd hF b fun H h1 h2 => S H a ns len h1 h2
end VS

-- Code52
namespace K52
open PySem PySem.Spec PyProof.Rows L2 VS
def top (i : Nat) : Stmt := PySem.Challenge.pw_bitloom_k52_whole_runs_of_nets.main.body.getD i (.Pass ⟨0, 0, 0, 0⟩)

def cfolded : Fn := ⟨["truth", "many", "level", "_", "half", "place"], 2, [false, false], [
  .asg (.n 2) (.comp [5] (.n 5) 0 (.op2 .shl (.con (.int 1)) (.var 1)) (.con .non) [] (.op2 .band (.op2 .shr (.var 0) (.var 5)) (.con (.int 1)))),
  .forI (.n 3) 0 (.var 1) (.con .non) [3, 4, 5] [.asg (.n 4) (.op2 .fdiv (.op1 .len (.var 2)) (.con (.int 2))), .asg (.n 2) (.comp [5] (.n 5) 0 (.var 4) (.con .non) [] (.tup [.op2 .idx (.var 2) (.var 5), .op2 .idx (.var 2) (.op2 .add (.var 4) (.var 5))]))],
  .ret (.op2 .idx (.var 2) (.con (.int 0)))]⟩
def dfolded : DefI := ⟨"folded", "folded", cfolded, top 1, ["truth", "many"]⟩
def clooked_up : Fn := ⟨["tree", "values", "nodes", "node"], 3, [false, false, false], [
  .forI (.n 3) 1 (.var 2) (.con .non) [3] [.asg (.n 0) (.op2 .idx (.var 0) (.op2 .idx (.var 1) (.var 3)))],
  .ret (.mv 0)]⟩
def dlooked_up : DefI := ⟨"looked_up", "looked_up", clooked_up, top 2, ["tree", "values", "nodes"]⟩
def c_first_table : Fn := ⟨["net"], 1, [false], [
  .ret (.op2 .add (.op2 .add (.con (.int 1)) (.op2 .idx (.var 0) (.con (.int 1)))) (.op1 .len (.op2 .idx (.var 0) (.con (.int 2)))))]⟩
def d_first_table : DefI := ⟨"_first_table", "_first_table", c_first_table, top 4, ["net"]⟩
def crun_net : Fn := ⟨["net", "lots", "trees", "state", "found", "lot", "_", "regs", "tables", "outs", "values", "nodes", "tree", "truth", "bit", "node"], 2, [false, false], [
  .asg (.t [.n 6, .n 6, .n 7, .n 8, .n 9]) (.mv 0),
  .asg (.n 2) (.comp [11, 13] (.t [.n 11, .n 13]) 1 (.var 8) (.con .non) [] (.tup [.var 11, .call "folded" [.var 13, .op1 .len (.var 11)]])),
  .asg (.n 3) (.comp [14, 6] (.t [.n 14, .n 6]) 1 (.var 7) (.con .non) [] (.var 14)),
  .asg (.n 4) (.lst []),
  .forI (.n 5) 1 (.var 1) (.con .non) [5, 6, 10, 11, 12, 15] [.asg (.n 10) (.lstS [false, true, true] [.con (.int 0), .var 5, .var 3]), .forI (.t [.n 11, .n 12]) 1 (.var 2) (.con .non) [11, 12] [.app 10 [] (.call "looked_up" [.var 12, .var 10, .var 11])], .app 4 [] (.op1 .tupleOf (.comp [15] (.n 15) 1 (.var 9) (.con .non) [] (.op2 .idx (.var 10) (.var 15)))), .asg (.n 3) (.comp [6, 15] (.t [.n 6, .n 15]) 1 (.var 7) (.con .non) [] (.op2 .idx (.var 10) (.var 15)))],
  .ret (.mv 4)]⟩
def drun_net : DefI := ⟨"run_net", "run_net", crun_net, top 5, ["net", "lots"]⟩
def c_levels : Fn := ⟨["net", "levels", "nodes", "_", "node"], 1, [false], [
  .asg (.n 1) (.comp [3] (.n 3) 0 (.call "_first_table" [.var 0]) (.con .non) [] (.con (.int 0))),
  .forI (.t [.n 2, .n 3]) 1 (.op2 .idx (.var 0) (.con (.int 3))) (.con .non) [2, 3, 4] [.app 1 [] (.op2 .add (.con (.int 1)) (.op2 .maxD (.comp [4] (.n 4) 1 (.var 2) (.con .non) [] (.op2 .idx (.var 1) (.var 4))) (.con (.int 0))))],
  .ret (.mv 1)]⟩
def d_levels : DefI := ⟨"_levels", "_levels", c_levels, top 6, ["net"]⟩
def clevel_in : Fn := ⟨["net", "node"], 2, [false, false], [
  .ret (.op2 .idx (.call "_levels" [.var 0]) (.var 1))]⟩
def dlevel_in : DefI := ⟨"level_in", "level_in", clevel_in, top 7, ["net", "node"]⟩
def cnet_depth : Fn := ⟨["net", "levels", "node", "_", "taken"], 1, [false], [
  .asg (.n 1) (.call "_levels" [.var 0]),
  .ret (.op2 .maxD (.comp [2] (.n 2) 1 (.lstS [true, true] [.op2 .idx (.var 0) (.con (.int 4)), .comp [3, 4] (.t [.n 3, .n 4]) 1 (.op2 .idx (.var 0) (.con (.int 2))) (.con .non) [] (.var 4)]) (.con .non) [] (.op2 .idx (.var 1) (.var 2))) (.con (.int 0)))]⟩
def dnet_depth : DefI := ⟨"net_depth", "net_depth", cnet_depth, top 8, ["net"]⟩
def c_law_source : Fn := ⟨["_law_script", "_law_mixed_here", "_law_cell"], 1, [false], [
  .asg (.n 1) (.con (.int 11)),
  .forI (.n 2) 1 (.var 0) (.con .non) [2] [.asg (.n 1) (.op2 .mod (.op1 .toInt (.op2 .add (.op2 .add (.op2 .mul (.var 1) (.con (.int 69069))) (.op2 .mul (.var 2) (.con (.int 31)))) (.con (.int 5)))) (.con (.int 2147483629)))],
  .ret (.dct [[99, 101, 108, 108, 115], [108, 101, 102, 116], [109, 105, 120, 101, 100], [116, 117, 114, 110]] [.op1 .rev (.comp [2] (.n 2) 1 (.var 0) (.con .non) [] (.op1 .abs (.var 2))), .con (.int 1), .mv 1, .con (.int 0)])]⟩
def d_law_source : DefI := ⟨"_law_source", "_law_source", c_law_source, top 10, ["_law_script"]⟩
def c_law_pick : Fn := ⟨["_law_source_here", "_law_many", "_law_left", "_law_mixed_here"], 2, [true, false], [
  .while (.and (.op2 .gt (.var 1) (.con (.int 1))) (.and (.op2 .lt (.op2 .idx (.var 0) (.con (.str [108, 101, 102, 116]))) (.con (.int 2))) (.op2 .gt (.op1 .len (.op2 .idx (.var 0) (.con (.str [99, 101, 108, 108, 115])))) (.con (.int 0))))) [.setK 0 [] (.con (.str [108, 101, 102, 116])) (.pop 0 [[99, 101, 108, 108, 115]])],
  .asg (.n 2) (.op2 .idx (.var 0) (.con (.str [108, 101, 102, 116]))),
  .ite (.or (.op2 .lt (.var 1) (.con (.int 2))) (.op2 .gt (.var 2) (.con (.int 1)))) [.setK 0 [] (.con (.str [108, 101, 102, 116])) (.op2 .fdiv (.var 2) (.op2 .max2 (.con (.int 1)) (.var 1))), .ret (.op2 .mod (.op1 .toInt (.var 2)) (.op2 .max2 (.con (.int 1)) (.var 1)))] [],
  .setK 0 [] (.con (.str [116, 117, 114, 110])) (.op2 .add (.op2 .idx (.var 0) (.con (.str [116, 117, 114, 110]))) (.con (.int 1))),
  .asg (.n 3) (.op2 .mod (.op1 .toInt (.op2 .add (.op2 .idx (.var 0) (.con (.str [109, 105, 120, 101, 100]))) (.op2 .mul (.op2 .idx (.var 0) (.con (.str [116, 117, 114, 110]))) (.con (.int 104729))))) (.con (.int 998244353))),
  .asg (.n 3) (.op2 .mod (.op1 .toInt (.op2 .add (.op2 .mul (.var 3) (.var 3)) (.op2 .mul (.op2 .idx (.var 0) (.con (.str [116, 117, 114, 110]))) (.con (.int 17))))) (.con (.int 2147483647))),
  .setK 0 [] (.con (.str [109, 105, 120, 101, 100])) (.var 3),
  .ret (.op2 .mod (.op1 .toInt (.op2 .fdiv (.var 3) (.con (.int 16)))) (.var 1))]⟩
def d_law_pick : DefI := ⟨"_law_pick", "_law_pick", c_law_pick, top 11, ["_law_source_here", "_law_many"]⟩
def c_law_of : Fn := ⟨["_law_source_here", "_law_some"], 2, [true, false], [
  .ret (.op2 .idx (.var 1) (.call "_law_pick" [.io 0, .op1 .len (.var 1)]))]⟩
def d_law_of : DefI := ⟨"_law_of", "_law_of", c_law_of, top 12, ["_law_source_here", "_law_some"]⟩
def c_law_mixed : Fn := ⟨["_law_source_here", "_law_things", "_law_rest", "_law_lap"], 2, [true, false], [
  .asg (.n 2) (.op1 .listOf (.var 1)),
  .ret (.comp [3] (.n 3) 0 (.op1 .len (.var 2)) (.con .non) [] (.popAt 2 [] (.call "_law_pick" [.io 0, .op1 .len (.var 2)])))]⟩
def d_law_mixed : DefI := ⟨"_law_mixed", "_law_mixed", c_law_mixed, top 13, ["_law_source_here", "_law_things"]⟩
def c_law_net_first : Fn := ⟨["_law_net"], 1, [false], [
  .ret (.op2 .add (.op2 .add (.con (.int 1)) (.op2 .idx (.var 0) (.con (.int 1)))) (.op1 .len (.op2 .idx (.var 0) (.con (.int 2)))))]⟩
def d_law_net_first : DefI := ⟨"_law_net_first", "_law_net_first", c_law_net_first, top 14, ["_law_net"]⟩
def c_law_net_run : Fn := ⟨["_law_net", "_law_lots", "_law_full", "_law_lot", "_law_state", "_law_found", "_law_values", "_law_nodes", "_law_truth", "_law_told", "_law_number", "_law_some", "_law_start", "_law_node", "_law_i", "_law_j"], 3, [false, false, false], [
  .par [4, 5] [.comp [12, 13] (.t [.n 12, .n 13]) 1 (.op2 .idx (.var 0) (.con (.int 2))) (.con .non) [] (.op2 .mul (.var 2) (.var 12)), .lst []],
  .forI (.n 3) 1 (.var 1) (.con .non) [3, 6, 7, 8, 9, 10, 11, 12, 13, 14, 15] [.asg (.n 6) (.op2 .add (.op2 .add (.lst [.con (.int 0)]) (.op1 .listOf (.var 3))) (.var 4)), .forI (.t [.n 7, .n 8]) 1 (.op2 .idx (.var 0) (.con (.int 3))) (.con .non) [7, 8, 9, 10, 11, 13, 14, 15] [.asg (.n 9) (.con (.int 0)), .forI (.n 10) 1 (.comp [14] (.n 14) 0 (.op2 .shl (.con (.int 1)) (.op1 .len (.var 7))) (.con .non) [.op2 .eq (.op2 .band (.op2 .shr (.var 8) (.var 14)) (.con (.int 1))) (.con (.int 1))] (.var 14)) (.con .non) [10, 11, 13, 15] [.asg (.n 11) (.var 2), .forI (.t [.n 15, .n 13]) 2 (.var 7) (.con .non) [13, 15] [.asg (.n 11) (.op2 .band (.var 11) (.ite (.op2 .eq (.op2 .band (.op2 .shr (.var 10) (.var 15)) (.con (.int 1))) (.con (.int 1))) (.op2 .idx (.var 6) (.var 13)) (.op2 .bxor (.op2 .idx (.var 6) (.var 13)) (.var 2))))], .asg (.n 9) (.op2 .bor (.var 9) (.var 11))], .app 6 [] (.mv 9)], .app 5 [] (.op1 .tupleOf (.comp [13] (.n 13) 1 (.op2 .idx (.var 0) (.con (.int 4))) (.con .non) [] (.op2 .idx (.var 6) (.var 13)))), .asg (.n 4) (.comp [12, 13] (.t [.n 12, .n 13]) 1 (.op2 .idx (.var 0) (.con (.int 2))) (.con .non) [] (.op2 .idx (.var 6) (.var 13)))],
  .ret (.mv 5)]⟩
def d_law_net_run : DefI := ⟨"_law_net_run", "_law_net_run", c_law_net_run, top 15, ["_law_net", "_law_lots", "_law_full"]⟩
def c_law_net_levels : Fn := ⟨["_law_net", "_law_found", "_law_nodes", "_law_truth", "_law_node"], 1, [false], [
  .asg (.n 1) (.op2 .mul (.lst [.con (.int 0)]) (.call "_law_net_first" [.var 0])),
  .forI (.t [.n 2, .n 3]) 1 (.op2 .idx (.var 0) (.con (.int 3))) (.con .non) [2, 3, 4] [.app 1 [] (.op2 .add (.con (.int 1)) (.op1 .maxL (.op2 .add (.lst [.con (.int 0)]) (.comp [4] (.n 4) 1 (.var 2) (.con .non) [] (.op2 .idx (.var 1) (.var 4))))))],
  .ret (.mv 1)]⟩
def d_law_net_levels : DefI := ⟨"_law_net_levels", "_law_net_levels", c_law_net_levels, top 16, ["_law_net"]⟩
def c_law_net_depth : Fn := ⟨["_law_net", "_law_levels", "_law_node", "_law_start"], 1, [false], [
  .asg (.n 1) (.call "_law_net_levels" [.var 0]),
  .ret (.op1 .maxL (.op2 .add (.op2 .add (.lst [.con (.int 0)]) (.comp [2] (.n 2) 1 (.op2 .idx (.var 0) (.con (.int 4))) (.con .non) [] (.op2 .idx (.var 1) (.var 2)))) (.comp [3, 2] (.t [.n 3, .n 2]) 1 (.op2 .idx (.var 0) (.con (.int 2))) (.con .non) [] (.op2 .idx (.var 1) (.var 2)))))]⟩
def d_law_net_depth : DefI := ⟨"_law_net_depth", "_law_net_depth", c_law_net_depth, top 17, ["_law_net"]⟩
def c_law_draw_net : Fn := ⟨["_law_source_here", "_law_k", "_law_many_ins", "_law_many_regs", "_law_most", "_law_lap", "_law_many", "_law_told", "_law_outs", "_law_ins", "_law_regs", "_law_tables", "_law_near", "_law_node", "_law_truth", "_law_nodes", "_law_size"], 5, [true, false, false, false, false], [
  .par [9, 10, 11] [.call "_law_pick" [.io 0, .op2 .add (.var 2) (.con (.int 1))], .call "_law_pick" [.io 0, .op2 .add (.var 3) (.con (.int 1))], .lst []],
  .forI (.n 5) 0 (.call "_law_pick" [.io 0, .op2 .add (.var 4) (.con (.int 1))]) (.con .non) [5, 6, 12, 13, 14, 15, 16] [.asg (.n 6) (.op2 .add (.op2 .add (.op2 .add (.con (.int 1)) (.var 9)) (.var 10)) (.op1 .len (.var 11))), .asg (.n 12) (.call "_law_mixed" [.io 0, .op2 .add (.op2 .rngL (.op2 .max2 (.con (.int 0)) (.op2 .sub (.var 6) (.con (.int 7)))) (.var 6)) (.lst [.call "_law_pick" [.io 0, .var 6]])]), .par [15, 16] [.lst [], .call "_law_pick" [.io 0, .op2 .add (.var 1) (.con (.int 1))]], .forI (.n 13) 1 (.op2 .sto (.var 12) (.var 16)) (.con .non) [13] [.asg (.n 15) (.ite (.op2 .notin (.var 13) (.var 15)) (.op2 .add (.var 15) (.lst [.var 13])) (.var 15))], .asg (.n 14) (.call "_law_pick" [.io 0, .op2 .shl (.con (.int 1)) (.op2 .shl (.con (.int 1)) (.op1 .len (.var 15)))]), .app 11 [] (.ite (.or (.op2 .eq (.var 11) (.lst [])) (.op2 .gt (.call "_law_pick" [.io 0, .con (.int 6)]) (.con (.int 0)))) (.tup [.op1 .tupleOf (.var 15), .mv 14]) (.call "_law_of" [.io 0, .var 11]))],
  .asg (.n 6) (.op2 .add (.op2 .add (.op2 .add (.con (.int 1)) (.var 9)) (.var 10)) (.op1 .len (.var 11))),
  .asg (.n 7) (.op1 .tupleOf (.comp [5] (.n 5) 0 (.var 10) (.con .non) [] (.tup [.call "_law_pick" [.io 0, .con (.int 2)], .call "_law_pick" [.io 0, .var 6]]))),
  .asg (.n 8) (.op1 .tupleOf (.comp [5] (.n 5) 0 (.op2 .add (.con (.int 1)) (.call "_law_pick" [.io 0, .con (.int 4)])) (.con .non) [] (.op2 .sub (.op2 .sub (.var 6) (.con (.int 1))) (.call "_law_pick" [.io 0, .op2 .min2 (.var 6) (.con (.int 8))])))),
  .ret (.tup [.mv 1, .mv 9, .mv 7, .op1 .tupleOf (.var 11), .mv 8])]⟩
def d_law_draw_net : DefI := ⟨"_law_draw_net", "_law_draw_net", c_law_draw_net, top 18, ["_law_source_here", "_law_k", "_law_many_ins", "_law_many_regs", "_law_most"]⟩
def claw : Fn := ⟨["_law_script", "_law_source_here", "_law_turn", "_law_turned", "_law_net", "_law_lots", "_law_given", "_law_levels", "_law_due", "_law_kept", "_law_told", "_law_lap", "_law_bit", "_law_node"], 1, [false], [
  .asg (.n 1) (.call "_law_source" [.var 0]),
  .forI (.n 2) 0 (.con (.int 5)) (.con .non) [2, 4, 5, 6, 7, 8, 9, 10, 11, 12, 13] [.asg (.n 4) (.call "_law_draw_net" [.io 1, .op2 .add (.con (.int 2)) (.var 2), .con (.int 4), .con (.int 4), .op2 .idx (.lst [.con (.int 3), .con (.int 8), .con (.int 16), .con (.int 30), .con (.int 12)]) (.var 2)]), .asg (.n 5) (.comp [11] (.n 11) 0 (.call "_law_pick" [.io 1, .con (.int 12)]) (.con .non) [] (.op1 .tupleOf (.comp [12] (.n 12) 0 (.op2 .idx (.var 4) (.con (.int 1))) (.con .non) [] (.call "_law_pick" [.io 1, .con (.int 2)])))), .par [8, 9] [.call "_law_net_run" [.var 4, .var 5, .con (.int 1)], .op1 .repr (.var 5)], .forI (.n 6) 1 (.lst [.var 5, .op1 .tupleOf (.var 5)]) (.con .non) [6, 10] [.asg (.n 10) (.call "run_net" [.var 4, .var 6]), .ite (.or (.not (.op1 (.isT .list) (.var 10))) (.or (.op2 .ne (.op1 .repr (.var 10)) (.op1 .repr (.var 8))) (.op2 .ne (.op1 .repr (.var 5)) (.var 9)))) [.ret (.con (.bl false))] [], .app 10 [] (.con .non)], .asg (.n 7) (.call "_law_net_levels" [.var 4]), .ite (.op2 .ne (.op1 .repr (.comp [13] (.n 13) 0 (.op1 .len (.var 7)) (.con .non) [] (.call "level_in" [.var 4, .var 13]))) (.op1 .repr (.var 7))) [.ret (.con (.bl false))] [], .ite (.or (.op2 .ne (.op1 .repr (.call "net_depth" [.var 4])) (.op1 .repr (.call "_law_net_depth" [.var 4]))) (.op2 .ne (.call "run_net" [.var 4, .lst []]) (.lst []))) [.ret (.con (.bl false))] []],
  .asg (.n 3) (.tup [.con (.int 2), .con (.int 1), .tup [.tup [.con (.int 1), .con (.int 3)]], .tup [.tup [.tup [.con (.int 1), .con (.int 2)], .con (.int 6)], .tup [.tup [], .con (.int 1)]], .tup [.con (.int 2), .con (.int 3), .con (.int 4)]]),
  .ite (.op2 .ne (.call "run_net" [.var 3, .lst [.tup [.con (.int 1)], .tup [.con (.int 1)], .tup [.con (.int 0)], .tup [.con (.int 1)]]]) (.lst [.tup [.con (.int 1), .con (.int 0), .con (.int 1)], .tup [.con (.int 0), .con (.int 1), .con (.int 1)], .tup [.con (.int 1), .con (.int 1), .con (.int 1)], .tup [.con (.int 1), .con (.int 0), .con (.int 1)]])) [.ret (.con (.bl false))] [],
  .ret (.op2 .eq (.comp [4] (.n 4) 1 (.lst [.var 3, .tup [.con (.int 3), .con (.int 0), .tup [], .tup [], .tup [.con (.int 0), .con (.int 0)]], .tup [.con (.int 2), .con (.int 1), .tup [], .tup [], .tup []]]) (.con .non) [] (.call "net_depth" [.var 4])) (.lst [.con (.int 1), .con (.int 0), .con (.int 0)]))]⟩
def dlaw : DefI := ⟨"law", "law", claw, top 19, ["_law_script"]⟩
def ds : List DefI := [dfolded, dlooked_up, d_first_table, drun_net, d_levels, dlevel_in, dnet_depth, d_law_source, d_law_pick, d_law_of, d_law_mixed, d_law_net_first, d_law_net_run, d_law_net_levels, d_law_net_depth, d_law_draw_net, dlaw]
theorem chk : allB ds = true := by decide +kernel
end K52

-- VS.Pure
/-! What the small language's programs come to, by plain reckoning: words for the reckoning. -/
namespace VS
open PySem L2

theorem callF_eq {T : Tb} {n : Nat} {f : String} {c : Fn} {args : List D} {os : List Ob} (h : T.fns f = some c) (hl : args.length = c.many) : callF T (n + 1) f args os = endS c (execs (lkOf T n) c.body (startS c args os)) := by
  simp only [callF, h, hl, if_true]
  rfl
theorem lk_io {T : Tb} {n : Nat} {f : String} {c : Fn} (h : T.fns f = some c) : (lkOf T n).io f = some c.io := by
  show (T.fns f).map (·.io) = _
  rw [h]; rfl
@[simp] theorem lk_run {T : Tb} {n : Nat} : (lkOf T n).run = callF T n := rfl

/-! ### operators at values -/
section
variable {i j : Int} {a b : List D} {s u : Str} {x d : D}
@[simp] theorem o_neg : op1 .neg (.int i) = some (.int (-i), true) := rfl
@[simp] theorem o_abs : op1 .abs (.int i) = some (.int (if i < 0 then -i else i), true) := rfl
@[simp] theorem o_int : op1 .toInt (.int i) = some (.int i, true) := rfl
@[simp] theorem o_intB {b : Bool} : op1 .toInt (.bl b) = some (.int (if b then 1 else 0), true) := rfl
@[simp] theorem o_lenL : op1 .len (.lst a) = some (.int a.length, true) := rfl
@[simp] theorem o_lenT : op1 .len (.tup a) = some (.int a.length, true) := rfl
@[simp] theorem o_tupL : op1 .tupleOf (.lst a) = some (.tup a, cfs a) := rfl
@[simp] theorem o_tupT : op1 .tupleOf (.tup a) = some (.tup a, cfs a) := rfl
@[simp] theorem o_lstL : op1 .listOf (.lst a) = some (.lst a, cfs a) := rfl
@[simp] theorem o_lstT : op1 .listOf (.tup a) = some (.lst a, cfs a) := rfl
@[simp] theorem o_revL : op1 .rev (.lst a) = some (.lst a.reverse, cfs a) := rfl
@[simp] theorem o_revT : op1 .rev (.tup a) = some (.tup a.reverse, cfs a) := rfl
theorem o_repr : op1 .repr d = if showOk d = true ∧ (toP d).showable = true ∧ (toP d).depth ≤ 60 ∧ (toP d).shown.length ≤ sizeLine then some (.str (toP d).shown, true) else none := by cases d <;> rfl
@[simp] theorem o_add : op2 .add (.int i) (.int j) = some (.int (i + j), true) := rfl
@[simp] theorem o_sub : op2 .sub (.int i) (.int j) = some (.int (i - j), true) := rfl
theorem o_mul (h : (-lim < i ∧ i < lim) ∨ (-lim < j ∧ j < lim)) : op2 .mul (.int i) (.int j) = some (.int (i * j), true) := if_pos h
theorem o_fdiv (h : 0 < j ∧ j < 1073741824) : op2 .fdiv (.int i) (.int j) = some (.int (i / j), true) := if_pos h
theorem o_mod (h : 0 < j) : op2 .mod (.int i) (.int j) = some (.int (i % j), true) := if_pos h
@[simp] theorem o_max : op2 .max2 (.int i) (.int j) = some (.int (if j > i then j else i), true) := rfl
@[simp] theorem o_min : op2 .min2 (.int i) (.int j) = some (.int (if j < i then j else i), true) := rfl
@[simp] theorem o_band : op2 .band (.int i) (.int j) = some (.int (Builtin.bitAnd i j), true) := rfl
@[simp] theorem o_bor : op2 .bor (.int i) (.int j) = some (.int (Builtin.bitOr i j), true) := rfl
@[simp] theorem o_bxor : op2 .bxor (.int i) (.int j) = some (.int (Builtin.bitXor i j), true) := rfl
theorem o_shr (h : 0 ≤ j) : op2 .shr (.int i) (.int j) = some (.int (i / 2 ^ j.toNat), true) := if_pos h
theorem o_shl (h : 0 ≤ j ∧ j ≤ 1000000 ∧ i.natAbs < 2 ^ 64) : op2 .shl (.int i) (.int j) = some (.int (i * 2 ^ j.toNat), true) := if_pos h
@[simp] theorem o_lt : op2 .lt (.int i) (.int j) = some (.bl (decide (i < j)), true) := rfl
@[simp] theorem o_le : op2 .le (.int i) (.int j) = some (.bl (decide (i ≤ j)), true) := rfl
@[simp] theorem o_gt : op2 .gt (.int i) (.int j) = some (.bl (decide (j < i)), true) := rfl
@[simp] theorem o_ge : op2 .ge (.int i) (.int j) = some (.bl (decide (j ≤ i)), true) := rfl
theorem o_addL (h : a.length + b.length ≤ sizeLine) : op2 .add (.lst a) (.lst b) = some (.lst (a ++ b), cfs a && cfs b) := if_pos h
theorem o_addT (h : a.length + b.length ≤ sizeLine) : op2 .add (.tup a) (.tup b) = some (.tup (a ++ b), cfs a && cfs b) := if_pos h
theorem o_eq (h : flatOk x = true) (h' : flatOk d = true) : op2 .eq x d = some (.bl (PyData.eqv (toP x) (toP d)), true) := by
  have e : op2 .eq x d = if flatOk x = true ∧ flatOk d = true then some (.bl (PyData.eqv (toP x) (toP d)), true) else none := by cases x <;> cases d <;> rfl
  rw [e, if_pos ⟨h, h'⟩]
theorem o_ne (h : flatOk x = true) (h' : flatOk d = true) : op2 .ne x d = some (.bl (!PyData.eqv (toP x) (toP d)), true) := by
  have e : op2 .ne x d = if flatOk x = true ∧ flatOk d = true then some (.bl (!PyData.eqv (toP x) (toP d)), true) else none := by cases x <;> cases d <;> rfl
  rw [e, if_pos ⟨h, h'⟩]
@[simp] theorem o_ixL : op2 .idx (.lst a) (.int i) = (ixN a.length i).bind fun k => (a[k]?).map fun d => (d, cf d) := rfl
@[simp] theorem o_ixT : op2 .idx (.tup a) (.int i) = (ixN a.length i).bind fun k => (a[k]?).map fun d => (d, cf d) := rfl
@[simp] theorem o_ixK {ps : List (L2.Key × D)} : op2 .idx (.dct ps) (.str s) = (valD ps (.inr s)).map fun d => (d, cf d) := by
  show ((keyOf (.str s)).bind fun k => (valD ps k).map fun d => (d, cf d)) = _
  rfl
@[simp] theorem o_ixI {ps : List (L2.Key × D)} : op2 .idx (.dct ps) (.int i) = (valD ps (.inl i)).map fun d => (d, cf d) := by
  show ((keyOf (.int i)).bind fun k => (valD ps k).map fun d => (d, cf d)) = _
  rfl
@[simp] theorem t_bl {b : Bool} : truthD (.bl b) = some b := rfl
@[simp] theorem t_int : truthD (.int i) = some (i != 0) := rfl
@[simp] theorem t_non : truthD .non = some false := rfl
@[simp] theorem t_lst : truthD (.lst a) = some (!a.isEmpty) := rfl
@[simp] theorem t_tup : truthD (.tup a) = some (!a.isEmpty) := rfl
@[simp] theorem c_non : cf .non = true := rfl
@[simp] theorem c_bl {b : Bool} : cf (.bl b) = true := rfl
@[simp] theorem c_int : cf (.int i) = true := rfl
@[simp] theorem c_str : cf (.str s) = true := rfl
@[simp] theorem c_tup : cf (.tup a) = cfs a := rfl
@[simp] theorem c_lst : cf (.lst a) = false := rfl
@[simp] theorem c_dct {ps} : cf (.dct ps) = false := rfl
@[simp] theorem c_nil : cfs [] = true := rfl
@[simp] theorem c_cons : cfs (d :: a) = (cf d && cfs a) := rfl
@[simp] theorem cfs_append : cfs (a ++ b) = (cfs a && cfs b) := cfs_append' a b
@[simp] theorem cfs_int (ns : List Int) : cfs (ns.map .int) = true := by
  induction ns with
  | nil => rfl
  | cons n ns ih => simpa using ih
theorem cfs_every : cfs a = a.all cf := by
  induction a with
  | nil => rfl
  | cons d a ih => simp [ih]
end
section
variable {κ : Type} [DecidableEq κ]
@[simp] theorem valD_nil {k : κ} : valD [] k = none := rfl
@[simp] theorem valD_cons {k c : κ} {d : D} {r : List (κ × D)} : valD ((c, d) :: r) k = if c = k then some d else valD r k := by
  unfold valD
  rw [List.find?_cons]
  by_cases h : c = k
  · simp [h]
  · simp [h]
end
section
variable {L : Lk} {os : List Ob} {st : S} {a b c : Ex}
@[simp] theorem get_mk {sl : List (Option (D × Bool))} {i : Nat} : S.get ⟨sl, os⟩ i = (sl[i]?).join := rfl
@[simp] theorem set_mk {sl : List (Option (D × Bool))} {i : Nat} {v} : S.set ⟨sl, os⟩ i v = ⟨sl.set i v, os⟩ := rfl
/-! ### tests -/
theorem b_and : evB L (.and a b) st = match evB L a st with
    | .ok t st1 => if t = true then evB L b st1 else .ok false st1
    | r => r := by
  unfold evB
  simp only [ev]
  cases ev L a st with
  | err => rfl
  | exc _ _ _ => rfl
  | ok d k st1 =>
    dsimp only
    cases h : truthD d with
    | none => rfl
    | some t =>
      dsimp only
      cases t with
      | true => simp
      | false => simp [h]
theorem b_or : evB L (.or a b) st = match evB L a st with
    | .ok t st1 => if t = true then .ok true st1 else evB L b st1
    | r => r := by
  unfold evB
  simp only [ev]
  cases ev L a st with
  | err => rfl
  | exc _ _ _ => rfl
  | ok d k st1 =>
    dsimp only
    cases h : truthD d with
    | none => rfl
    | some t =>
      dsimp only
      cases t with
      | true => simp [h]
      | false => simp
theorem b_not : evB L (.not a) st = match evB L a st with
    | .ok t st1 => .ok (!t) st1
    | r => r := by
  unfold evB
  simp only [ev]
  cases ev L a st with
  | err => rfl
  | exc _ _ _ => rfl
  | ok d k st1 =>
    dsimp only
    cases h : truthD d with
    | none => rfl
    | some t => rfl
theorem b_op2 {o : O2} : evB L (.op2 o a b) st = match ev L (.op2 o a b) st with
    | .ok d _ st1 => match truthD d with
      | some t => .ok t st1
      | none => .err
    | .exc e fs st1 => .exc e fs st1
    | .err => .err := rfl
end
/-! ### loops -/
section
variable {L : Lk}
/-- a loop by what holds ahead of each turn -/
theorem forL_inv {f : D → S → Rs} {clr : List Nat} {I : Nat → S → Prop} : ∀ {items : List D} {st : S} {i0 : Nat}, I i0 st → (∀ i x st, items[i]? = some x → I (i0 + i) st → ∃ st', (f x st = .next st' ∨ f x st = .cnt st') ∧ I (i0 + i + 1) (st'.hide clr)) →
    ∃ st', forL f clr items st = .next st' ∧ I (i0 + items.length) st'
  | [], st, i0, h, _ => ⟨st, rfl, by simpa using h⟩
  | x :: r, st, i0, h, w => by
    obtain ⟨st1, e, h1⟩ := w 0 x st rfl h
    obtain ⟨st2, e2, h2⟩ := forL_inv (items := r) (i0 := i0 + 1) h1 fun i y st hy hi => by
      obtain ⟨st', e, q⟩ := w (i + 1) y st (by simpa using hy) (by rw [show i0 + (i + 1) = i0 + 1 + i by omega]; exact hi)
      exact ⟨st', e, by rw [show i0 + 1 + i + 1 = i0 + (i + 1) + 1 by omega]; exact q⟩
    refine ⟨st2, ?_, by rw [List.length_cons, show i0 + (r.length + 1) = i0 + 1 + r.length by omega]; exact h2⟩
    rcases e with e | e <;> simp only [forL, e] <;> exact e2
/-- a block's loop by what holds ahead of each turn: ys so far -/
theorem loopC_inv {f : D → S → Rvs} {I : Nat → List (D × Bool) → S → Prop} : ∀ {items : List D} {st : S} {i0 : Nat} {ys0 : List (D × Bool)}, I i0 ys0 st → (∀ i x ys st, items[i]? = some x → I (i0 + i) ys st → ∃ zs st', f x st = .ok zs st' ∧ I (i0 + i + 1) (ys ++ zs) st') →
    ∃ ys st', loopC f items st = .ok ys st' ∧ I (i0 + items.length) (ys0 ++ ys) st'
  | [], st, i0, ys0, h, _ => ⟨[], st, rfl, by simpa using h⟩
  | x :: r, st, i0, ys0, h, w => by
    obtain ⟨zs, st1, e, h1⟩ := w 0 x ys0 st rfl h
    obtain ⟨ys, st2, e2, h2⟩ := loopC_inv (items := r) (i0 := i0 + 1) (ys0 := ys0 ++ zs) h1 fun i y ys st hy hi => by
      obtain ⟨zs', st', e, q⟩ := w (i + 1) y ys st (by simpa using hy) (by rw [show i0 + (i + 1) = i0 + 1 + i by omega]; exact hi)
      exact ⟨zs', st', e, by rw [show i0 + 1 + i + 1 = i0 + (i + 1) + 1 by omega]; exact q⟩
    refine ⟨zs ++ ys, st2, by simp only [loopC, e, e2], ?_⟩
    rw [List.length_cons, show i0 + (r.length + 1) = i0 + 1 + r.length by omega, ← List.append_assoc]
    exact h2
/-- a block that changes nothing -/
theorem loopC_map {f : D → S → Rvs} {g : D → D × Bool} {st : S} : ∀ {items : List D}, (∀ x ∈ items, f x st = .ok [g x] st) → loopC f items st = .ok (items.map g) st
  | [], _ => rfl
  | x :: r, h => by
    simp only [loopC, h x (by simp), loopC_map (items := r) fun y hy => h y (by simp [hy])]
    rfl
/-- a loop over what is walked -/
theorem exec_for {I : Nat → S → Prop} {tg : Tg} {kind : Nat} {it it2 : Ex} {clr : List Nat} {b : List Sm} {st st1 st2 st3 : S} {d1 d2 : D} {k1 k2 : Bool} {items : List D} (h1 : ev L it st = .ok d1 k1 st1) (h2 : ev L it2 st1 = .ok d2 k2 st2) (h3 : itemsOf kind d1 d2 = some items)
    (h4 : ((k1 || disj (vars it) (muts it2 ++ mutsS b)) && (k2 || disj (vars it2) (mutsS b))) = true) (h5 : (if cfs items = true then st2 else (st2.keep k1 (vars it)).keep k2 (vars it2)) = st3) (h0 : I 0 st3)
    (step : ∀ i x st, items[i]? = some x → I i st → ∃ s1 st', bindT tg x false st = some s1 ∧ (execs L b s1 = .next st' ∨ execs L b s1 = .cnt st') ∧ I (i + 1) (st'.hide clr)) : ∃ st', exec L (.forI tg kind it it2 clr b) st = .next st' ∧ I items.length st' := by
  simp only [exec, h1, h2, h3, h4, if_true, h5]
  have := forL_inv (f := fun x s => match bindT tg x false s with
    | some s1 => execs L b s1
    | none => .err) (clr := clr) (I := I) (items := items) (st := st3) (i0 := 0) h0 fun i x st hx hi => by
      rw [Nat.zero_add] at hi ⊢
      obtain ⟨s1, st', q1, q2, q3⟩ := step i x st hx hi
      exact ⟨st', by rw [q1]; exact q2, q3⟩
  rw [Nat.zero_add] at this
  exact this
/-- a block -/
theorem ev_comp {I : Nat → List (D × Bool) → S → Prop} {own : List Nat} {tg : Tg} {kind : Nat} {it it2 e : Ex} {cs : List Ex} {st st1 st2 : S} {d1 d2 : D} {k1 k2 : Bool} {items : List D} (h1 : ev L it st = .ok d1 k1 st1) (h2 : ev L it2 st1 = .ok d2 k2 st2) (h3 : itemsOf kind d1 d2 = some items)
    (h4 : ((cfs items || (st2.stuck (vars it) && st2.stuck (vars it2))) && (k1 || disj (vars it) (muts it2 ++ (mutss cs ++ muts e))) && (k2 || disj (vars it2) (mutss cs ++ muts e)) && (st2.flatAt own && disj own (mutss cs ++ muts e) && (tgs tg).all own.contains)) = true)
    (few : items.length < sizeLine) (h0 : I 0 [] st2)
    (step : ∀ i x ys st, items[i]? = some x → I i ys st → ∃ s1 t s2, bindT tg x false (st.hide own) = some s1 ∧ evC L cs s1 = .ok t s2 ∧ ((t = false ∧ I (i + 1) ys s2) ∨
      (t = true ∧ ∃ y ky s3, ev L e s2 = .ok y ky s3 ∧ (ky || disj (vars e) (mutss cs ++ muts e)) = true ∧ I (i + 1) (ys ++ [(y, ky)]) s3))) :
    ∃ ys st3, ev L (.comp own tg kind it it2 cs e) st = .ok (.lst (ys.map (·.1))) (ys.all (·.2)) (st3.restore st2 own) ∧ I items.length ys st3 := by
  have key := loopC_inv (f := fun x s => match bindT tg x false (s.hide own) with
    | some s1 => match evC L cs s1 with
      | .ok t s2 => if t = true then match ev L e s2 with
        | .ok y ky s3 => if ky || disj (vars e) (mutss cs ++ muts e) then .ok [(y, ky)] s3 else .err
        | _ => .err else .ok [] s2
      | _ => .err
    | none => .err) (I := fun i ys st => I i ys st ∧ ys.length ≤ i) (items := items) (st := st2) (i0 := 0) (ys0 := []) ⟨h0, by simp⟩ fun i x ys st hx hi => by
      rw [Nat.zero_add] at hi ⊢
      obtain ⟨s1, t, s2, q1, q2, q3⟩ := step i x ys st hx hi.1
      rcases q3 with ⟨rfl, q3⟩ | ⟨rfl, y, ky, s3, q3, q4, q5⟩
      · exact ⟨[], s2, by simp [q1, q2], by simpa using q3, by simp; omega⟩
      · exact ⟨[(y, ky)], s3, by simp only [q1, q2, q3, q4, if_true], q5, by simp; omega⟩
  obtain ⟨ys, st3, e1, e2, e3⟩ := key
  rw [Nat.zero_add, List.nil_append] at e2 e3
  refine ⟨ys, st3, ?_, e2⟩
  simp only [ev, h1, h2, h3, h4, if_true]
  split
  · rename_i ys' st' z
    have z' := z.symm.trans e1
    cases z'
    rw [if_pos (by omega)]
  · rename_i z
    exact absurd e1 (z ys st3)
end

/-! ### a call's end -/
theorem outs_none {c : Fn} {st : S} (h : (c.io.all fun b => !b) = true) : outsOf c st = some [] := by
  have go : ∀ (io : List Bool) (i : Nat), (io.all fun b => !b) = true → outsOf.go st io i = some [] := by
    intro io
    induction io with
    | nil => intro _ _; rfl
    | cons b r ih =>
      intro i h
      cases b with
      | true => simp at h
      | false => exact ih (i + 1) (by simpa using h)
  exact go c.io 0 h
theorem outs_first {c : Fn} {st : S} {d : D} {r : List Bool} (hc : c.io = true :: r) (h : (r.all fun b => !b) = true) (hd : st.get 0 = some (d, true)) : outsOf c st = some [d] := by
  have go : ∀ (io : List Bool) (i : Nat), (io.all fun b => !b) = true → outsOf.go st io i = some [] := by
    intro io
    induction io with
    | nil => intro _ _; rfl
    | cons b r ih =>
      intro i h
      cases b with
      | true => simp at h
      | false => exact ih (i + 1) (by simpa using h)
  show outsOf.go st c.io 0 = _
  rw [hc]
  simp [outsOf.go, hd, go r 1 h]
theorem end_ret {c : Fn} {st : S} {d : D} {k : Bool} {o : List D} (h : outsOf c st = some o) : endS c (.ret d k st) = .ok d k o st.os := by
  simp only [endS, h]
theorem call_ret {T : Tb} {n : Nat} {f : String} {c : Fn} {args : List D} {os : List Ob} {st0 st : S} {d : D} {k : Bool} {o : List D} (h : T.fns f = some c) (hl : args.length = c.many) (hs : startS c args os = st0)
    (hr : execs (lkOf T n) c.body st0 = .ret d k st) (ho : outsOf c st = some o) : callF T (n + 1) f args os = .ok d k o st.os := by
  rw [callF_eq h hl, hs, hr, end_ret ho]
/-- a statement, then the others -/
theorem run_cons {L : Lk} {m : Sm} {r : List Sm} {st st1 : S} {x : Rs} (h : exec L m st = .next st1) (h' : execs L r st1 = x) : execs L (m :: r) st = x := by
  simp only [execs, h, h']
theorem run_ret {L : Lk} {e : Ex} {r : List Sm} {st st1 : S} {d : D} {k : Bool} (h : ev L e st = .ok d k st1) : execs L (.ret e :: r) st = .ret d k (st1.keep k (vars e)) := by
  simp only [execs, exec, h]
theorem run_asg {L : Lk} {t : Tg} {e : Ex} {st st1 st2 : S} {d : D} {k : Bool} (h : ev L e st = .ok d k st1) (h' : bindT t d k (st1.keep k (vars e)) = some st2) : exec L (.asg t e) st = .next st2 := by
  simp only [exec, h, h']
/-! ### calls -/
theorem fill_all {st : S} : ∀ {es : List Ex} {ds : List (D × Bool)}, iosOf es = [] → es.length = ds.length → fill st es ds = some (ds.map (·.1))
  | [], [], _, _ => rfl
  | [], _ :: _, _, h => by simp at h
  | _ :: _, [], _, h => by simp at h
  | e :: es, d :: ds, h, hl => by
    have he : isIo e = false := by cases e <;> first | rfl | (simp [iosOf] at h)
    have h' : iosOf es = [] := by cases e <;> first | exact h | (simp [iosOf] at h)
    have : fill st (e :: es) (d :: ds) = (fill st es ds).map (d.1 :: ·) := by
      obtain ⟨x, k⟩ := d
      cases e <;> first | rfl | (simp [isIo] at he)
    rw [this, fill_all h' (by simpa using hl)]
    rfl
theorem back_all {st : S} : ∀ {es : List Ex} {outs : List D}, iosOf es = [] → back st es outs = st
  | [], outs, _ => by cases outs <;> rfl
  | e :: es, outs, h => by
    have h' : iosOf es = [] := by cases e <;> first | exact h | (simp [iosOf] at h)
    have : back st (e :: es) outs = back st es outs := by cases e <;> cases outs <;> first | rfl | (simp [iosOf] at h)
    rw [this, back_all h']
theorem evs_len {L : Lk} : ∀ {es : List Ex} {st st1 : S} {ds : List (D × Bool)}, evs L es st = .ok ds st1 → es.length = ds.length
  | [], _, _, _, h => by simp only [evs] at h; cases h; rfl
  | e :: es, st, st1, ds, h => by
    simp only [evs] at h
    split at h
    · split at h
      · split at h
        · rename_i h1
          cases h
          simp [evs_len h1]
        · cases h
        · cases h
      · cases h
    · cases h
    · cases h
/-- a call that changes nothing -/
theorem ev_callP {L : Lk} {f : String} {es : List Ex} {ms : List Bool} {st : S} {ds : List (D × Bool)} {d : D} {k : Bool} {outs : List D} (hf : L.io f = some ms) (hm : ms = es.map isIo) (hio : iosOf es = []) (hmu : mutss es = []) (he : evs L es st = .ok ds st)
    (hr : L.run f (ds.map (·.1)) st.os = .ok d k outs st.os) : ev L (.call f es) st = .ok d k st := by
  have ok : argsOk es ds = true := by
    unfold argsOk
    rw [hmu, List.all_eq_true]
    intro p _
    simp [disj]
  simp only [ev, hf]
  rw [if_pos ⟨hm, by rw [hio]; exact List.nodup_nil⟩]
  simp only [he, ok, if_true, fill_all hio (evs_len he), hr, back_all hio]
end VS

-- VS.Source
/-! The script's source, and what is drawn of it. -/
namespace VS
open PySem L2

def kC : L2.Key := .inr (q [99, 101, 108, 108, 115])
def kL : L2.Key := .inr (q [108, 101, 102, 116])
def kM : L2.Key := .inr (q [109, 105, 120, 101, 100])
def kT : L2.Key := .inr (q [116, 117, 114, 110])
/-- the script's source: cells, what is left, the mixed number, the turn; more: other entries behind them -/
def src (cs : List Int) (l m t : Int) : D := .dct [(kC, .lst (cs.map .int)), (kL, .int l), (kM, .int m), (kT, .int t)]

def cSource : Fn := ⟨["_law_script", "_law_mixed", "_law_cell"], 1, [false], [
  .asg (.n 1) (.con (.int 11)),
  .forI (.n 2) 1 (.var 0) (.con .non) [2] [.asg (.n 1) (.op2 .mod (.op1 .toInt (.op2 .add (.op2 .add (.op2 .mul (.var 1) (.con (.int 69069))) (.op2 .mul (.var 2) (.con (.int 31)))) (.con (.int 5)))) (.con (.int 2147483629)))],
  .ret (.dct [[99, 101, 108, 108, 115], [108, 101, 102, 116], [109, 105, 120, 101, 100], [116, 117, 114, 110]] [.op1 .rev (.comp [2] (.n 2) 1 (.var 0) (.con .non) [] (.op1 .abs (.var 2))), .con (.int 1), .mv 1, .con (.int 0)])]⟩
def pickW : Ex := .and (.op2 .gt (.var 1) (.con (.int 1))) (.and (.op2 .lt (.op2 .idx (.var 0) (.con (.str [108, 101, 102, 116]))) (.con (.int 2))) (.op2 .gt (.op1 .len (.op2 .idx (.var 0) (.con (.str [99, 101, 108, 108, 115])))) (.con (.int 0))))
def pickB : List Sm := [.setK 0 [] (.con (.str [108, 101, 102, 116])) (.pop 0 [[99, 101, 108, 108, 115]])]
def pickR : List Sm := [
  .asg (.n 2) (.op2 .idx (.var 0) (.con (.str [108, 101, 102, 116]))),
  .ite (.or (.op2 .lt (.var 1) (.con (.int 2))) (.op2 .gt (.var 2) (.con (.int 1)))) [.setK 0 [] (.con (.str [108, 101, 102, 116])) (.op2 .fdiv (.var 2) (.op2 .max2 (.con (.int 1)) (.var 1))), .ret (.op2 .mod (.op1 .toInt (.var 2)) (.op2 .max2 (.con (.int 1)) (.var 1)))] [],
  .setK 0 [] (.con (.str [116, 117, 114, 110])) (.op2 .add (.op2 .idx (.var 0) (.con (.str [116, 117, 114, 110]))) (.con (.int 1))),
  .asg (.n 3) (.op2 .mod (.op1 .toInt (.op2 .add (.op2 .idx (.var 0) (.con (.str [109, 105, 120, 101, 100]))) (.op2 .mul (.op2 .idx (.var 0) (.con (.str [116, 117, 114, 110]))) (.con (.int 104729))))) (.con (.int 998244353))),
  .asg (.n 3) (.op2 .mod (.op1 .toInt (.op2 .add (.op2 .mul (.var 3) (.var 3)) (.op2 .mul (.op2 .idx (.var 0) (.con (.str [116, 117, 114, 110]))) (.con (.int 17))))) (.con (.int 2147483647))),
  .setK 0 [] (.con (.str [109, 105, 120, 101, 100])) (.var 3),
  .ret (.op2 .mod (.op1 .toInt (.op2 .fdiv (.var 3) (.con (.int 16)))) (.var 1))]
def cPick : Fn := ⟨["_law_source_here", "_law_many", "_law_left", "_law_mixed"], 2, [true, false], .while pickW pickB :: pickR⟩
def cOf : Fn := ⟨["_law_source_here", "_law_some"], 2, [true, false], [.ret (.op2 .idx (.var 1) (.call "_law_pick" [.io 0, .op1 .len (.var 1)]))]⟩

section
variable {L : Lk} {os : List Ob} {n : Int} {cs : List Int} {x l m t : Int}
/-- the while's test and turn -/
theorem pick_test : evB L pickW ⟨[some (src cs l m t, true), some (.int n, true), none, none], os⟩ = .ok (decide (1 < n) && (decide (l < 2) && decide (0 < (cs.length : Int)))) ⟨[some (src cs l m t, true), some (.int n, true), none, none], os⟩ := by
  simp only [pickW, b_and, b_op2]
  simp [ev, Cn.d, src, kC, kL, kM, kT, q_inj, disj, muts, vars]
  by_cases h1 : 1 < n <;> by_cases h2 : l < 2 <;> simp [h1, h2]
theorem pick_turn : execs L pickB ⟨[some (src (cs ++ [x]) l m t, true), some (.int n, true), none, none], os⟩ = .next ⟨[some (src cs x m t, true), some (.int n, true), none, none], os⟩ := by
  simp [execs, exec, pickB, ev, Cn.d, src, keyOf, kC, kL, kM, kT, q_inj, disj, muts, vars, atPath, popD, repD, hasAt, change, setD, S.keep, putD, sizeLine_eq]
/-- the while: cells are taken until one is greater than 1, or none is left -/
theorem pick_while (n m t : Int) : ∀ (k : Nat) (cs : List Int) (l : Int), cs.length < k → ∃ cs' l', (∀ x ∈ cs', x ∈ cs) ∧ cs'.length ≤ cs.length ∧ (l' = l ∨ l' ∈ cs) ∧
    whileL (evB L pickW) (fun s => execs L pickB s) k ⟨[some (src cs l m t, true), some (.int n, true), none, none], os⟩ = .next ⟨[some (src cs' l' m t, true), some (.int n, true), none, none], os⟩ := by
  intro k
  induction k with
  | zero => intro cs l h; omega
  | succ k ih =>
    intro cs l h
    by_cases hc : 1 < n ∧ l < 2 ∧ 0 < (cs.length : Int)
    · obtain ⟨h1, h2, h3⟩ := hc
      have ne : cs ≠ [] := fun e => by rw [e] at h3; simp at h3
      obtain ⟨ds, x, rfl⟩ : ∃ ds x, cs = ds ++ [x] := ⟨cs.dropLast, cs.getLast ne, (List.dropLast_concat_getLast ne).symm⟩
      obtain ⟨cs', l', q1, q2, q3, q4⟩ := ih ds x (by simp at h; omega)
      refine ⟨cs', l', fun y hy => by simp [q1 y hy], by simp; omega, .inr ?_, ?_⟩
      · rcases q3 with rfl | q3
        · simp
        · simp [q3]
      · simp only [whileL, pick_test, h1, h2, h3, decide_true, Bool.true_and, if_true, pick_turn]
        exact q4
    · refine ⟨cs, l, fun _ h => h, Nat.le_refl _, .inl rfl, ?_⟩
      have : (decide (1 < n) && (decide (l < 2) && decide (0 < (cs.length : Int)))) = false := by
        rw [← Bool.not_eq_true]
        intro z
        simp only [Bool.and_eq_true, decide_eq_true_eq] at z
        exact hc z
      simp only [whileL, pick_test, this]
      simp
theorem max_one : (if n > 1 then n else 1) = max 1 n := by split <;> omega
theorem o_fdivW {i j : Int} (h : 0 < j) (h2 : j ≤ 18446744073709551616) : op2 .fdiv (.int i) (.int j) = some (.int (i / j), true) := by
  by_cases c : j < 1073741824
  · exact o_fdiv ⟨h, c⟩
  · have l : j.natAbs.log2 < 9000 := by
      refine (Nat.log2_lt (by omega)).mpr ?_
      have : (2 : Nat) ^ 65 ≤ 2 ^ 9000 := Nat.pow_le_pow_right (by decide) (by decide)
      have : (2 : Nat) ^ 65 = 36893488147419103232 := by decide
      omega
    simp only [op2]
    rw [if_neg (by omega), if_neg (by omega), if_pos ⟨h, l⟩]
theorem pick_rest (hn : n ≤ 18446744073709551616) (hl : 0 ≤ l) (hm : 0 ≤ m) (ht : 0 ≤ t) : ∃ (r l' m' t' : Int) (a b : Option (D × Bool)), 0 ≤ r ∧ r < max 1 n ∧ 0 ≤ l' ∧ 0 ≤ m' ∧ 0 ≤ t' ∧
    execs L pickR ⟨[some (src cs l m t, true), some (.int n, true), none, none], os⟩ = .ret (.int r) true ⟨[some (src cs l' m' t', true), some (.int n, true), a, b], os⟩ := by
  by_cases hb : n < 2 ∨ 1 < l
  · refine ⟨l % max 1 n, l / max 1 n, m, t, some (.int l, true), none, Int.emod_nonneg _ (by omega), Int.emod_lt_of_pos _ (by omega), Int.ediv_nonneg hl (by omega), hm, ht, ?_⟩
    have p : 0 < max 1 n ∧ max 1 n ≤ 18446744073709551616 := by omega
    have t1 : evB L (.or (.op2 .lt (.var 1) (.con (.int 2))) (.op2 .gt (.var 2) (.con (.int 1)))) ⟨[some (src cs l m t, true), some (.int n, true), some (.int l, true), none], os⟩ = .ok true ⟨[some (src cs l m t, true), some (.int n, true), some (.int l, true), none], os⟩ := by
      simp only [b_or, b_op2]
      simp [ev, Cn.d, disj, muts, vars]
      intro h1
      exact hb.resolve_left (by omega)
    have s1 : exec L (.asg (.n 2) (.op2 .idx (.var 0) (.con (.str [108, 101, 102, 116])))) ⟨[some (src cs l m t, true), some (.int n, true), none, none], os⟩ = .next ⟨[some (src cs l m t, true), some (.int n, true), some (.int l, true), none], os⟩ := by
      simp [exec, ev, Cn.d, src, kC, kL, kM, kT, q_inj, disj, muts, vars, S.keep, bindT]
    simp only [pickR, execs, s1]
    simp only [exec, t1, if_true, execs]
    simp [ev, Cn.d, src, keyOf, kC, kL, kM, kT, q_inj, disj, muts, vars, atPath, hasAt, change, setD, S.keep, putD, sizeLine_eq, max_one, o_fdivW p.1 p.2, o_mod p.1]
  · have hb1 : ¬ n < 2 := fun z => hb (.inl z)
    have hb2 : ¬ 1 < l := fun z => hb (.inr z)
    have t1 : evB L (.or (.op2 .lt (.var 1) (.con (.int 2))) (.op2 .gt (.var 2) (.con (.int 1)))) ⟨[some (src cs l m t, true), some (.int n, true), some (.int l, true), none], os⟩ = .ok false ⟨[some (src cs l m t, true), some (.int n, true), some (.int l, true), none], os⟩ := by
      simp only [b_or, b_op2]
      simp [ev, Cn.d, disj, muts, vars, hb1, hb2]
    have s1 : exec L (.asg (.n 2) (.op2 .idx (.var 0) (.con (.str [108, 101, 102, 116])))) ⟨[some (src cs l m t, true), some (.int n, true), none, none], os⟩ = .next ⟨[some (src cs l m t, true), some (.int n, true), some (.int l, true), none], os⟩ := by
      simp [exec, ev, Cn.d, src, kC, kL, kM, kT, q_inj, disj, muts, vars, S.keep, bindT]
    have m1 : ∀ x : Int, op2 .mul (.int x) (.int 104729) = some (.int (x * 104729), true) := fun x => o_mul (.inr (by decide))
    have m2 : ∀ x : Int, op2 .mul (.int x) (.int 17) = some (.int (x * 17), true) := fun x => o_mul (.inr (by decide))
    have m3 : ∀ x : Int, op2 .mul (.int (x % 998244353)) (.int (x % 998244353)) = some (.int (x % 998244353 * (x % 998244353)), true) := fun x => o_mul (.inl (by unfold lim; omega))
    have m4 : ∀ x : Int, op2 .mod (.int x) (.int 998244353) = some (.int (x % 998244353), true) := fun x => o_mod (by decide)
    have m5 : ∀ x : Int, op2 .mod (.int x) (.int 2147483647) = some (.int (x % 2147483647), true) := fun x => o_mod (by decide)
    have m6 : ∀ x : Int, op2 .fdiv (.int x) (.int 16) = some (.int (x / 16), true) := fun x => o_fdiv (by decide)
    have m7 : ∀ x : Int, op2 .mod (.int x) (.int n) = some (.int (x % n), true) := fun x => o_mod (by omega)
    generalize e1 : (m + (t + 1) * 104729) % 998244353 = x1 at *
    generalize e2 : (x1 * x1 + (t + 1) * 17) % 2147483647 = x2 at *
    have p2 : 0 ≤ x2 := by rw [← e2]; exact Int.emod_nonneg _ (by decide)
    refine ⟨x2 / 16 % n, l, x2, t + 1, some (.int l, true), some (.int x2, true), Int.emod_nonneg _ (by omega), ?_, hl, p2, by omega, ?_⟩
    · have := Int.emod_lt_of_pos (x2 / 16) (show 0 < n by omega)
      omega
    · have m3' : op2 .mul (.int x1) (.int x1) = some (.int (x1 * x1), true) := by rw [← e1]; exact m3 _
      simp only [pickR, execs, s1]
      simp only [exec, t1, if_neg Bool.false_ne_true, execs]
      simp [ev, Cn.d, src, keyOf, kC, kL, kM, kT, q_inj, disj, muts, vars, atPath, hasAt, change, setD, S.keep, putD, sizeLine_eq, bindT, m1, m2, m3', m4, m5, m6, m7, e1, e2]
end

/-- the same texts with other names -/
def cPickN (N : List Str) : Fn := { cPick with names := N }
def cSourceN (N : List Str) : Fn := { cSource with names := N }
structure IsPick (T : Tb) : Prop where
  is : ∃ N, N.length = 4 ∧ T.fns "_law_pick" = some (cPickN N)
structure IsSource (T : Tb) : Prop where
  is : ∃ N, N.length = 3 ∧ T.fns "_law_source" = some (cSourceN N)
/-- a source as the script gives it, or as a draw leaves it -/
def IsSrc (d : D) : Prop := ∃ cs l m t, d = src cs l m t ∧ cs.length ≤ 63 ∧ (∀ x ∈ cs, 0 ≤ x) ∧ 0 ≤ l ∧ 0 ≤ m ∧ 0 ≤ t
section
variable {T : Tb} {n : Nat} {os : List Ob} {d : D} {k : Int}
theorem pick_okP (hP : IsPick T) (s : IsSrc d) (hk : k ≤ 18446744073709551616) : ∃ r d', callF T (n + 1) "_law_pick" [d, .int k] os = .ok (.int r) true [d'] os ∧ IsSrc d' ∧ 0 ≤ r ∧ r < max 1 k := by
  obtain ⟨N, hN, h⟩ := hP.is
  obtain ⟨cs, l, m, t, rfl, hc, hp, hl, hm, ht⟩ := s
  obtain ⟨cs', l', q1, q2, q3, q4⟩ := pick_while (L := lkOf T n) (os := os) k m t turns cs l (by unfold turns; omega)
  have hl' : 0 ≤ l' := by
    rcases q3 with rfl | q3
    · exact hl
    · exact hp _ q3
  obtain ⟨r, l2, m2, t2, a, b, r1, r2, r3, r4, r5, r6⟩ := pick_rest (L := lkOf T n) (os := os) (cs := cs') hk hl' hm ht
  refine ⟨r, src cs' l2 m2 t2, ?_, ⟨cs', l2, m2, t2, rfl, by omega, fun x hx => hp x (q1 x hx), r3, r4, r5⟩, r1, r2⟩
  rw [callF_eq h rfl]
  have st : startS (cPickN N) [src cs l m t, .int k] os = ⟨[some (src cs l m t, true), some (.int k, true), none, none], os⟩ := by
    have := hN
    match N, this with
    | [_, _, _, _], _ => rfl
  have w : exec (lkOf T n) (.while pickW pickB) ⟨[some (src cs l m t, true), some (.int k, true), none, none], os⟩ = .next ⟨[some (src cs' l' m t, true), some (.int k, true), none, none], os⟩ := by
    simp only [exec]; exact q4
  rw [st]
  show endS (cPickN N) (execs (lkOf T n) (.while pickW pickB :: pickR) _) = _
  simp only [execs, w, r6, endS]
  rfl
theorem pick_okW (h : T.fns "_law_pick" = some cPick) (s : IsSrc d) (hk : k ≤ 18446744073709551616) : ∃ r d', callF T (n + 1) "_law_pick" [d, .int k] os = .ok (.int r) true [d'] os ∧ IsSrc d' ∧ 0 ≤ r ∧ r < max 1 k := pick_okP ⟨⟨_, rfl, h⟩⟩ s hk
theorem pick_ok (h : T.fns "_law_pick" = some cPick) (s : IsSrc d) (hk : k ≤ 1073741823) : ∃ r d', callF T (n + 1) "_law_pick" [d, .int k] os = .ok (.int r) true [d'] os ∧ IsSrc d' ∧ 0 ≤ r ∧ r < max 1 k := pick_okW h s (by omega)
theorem of_okP (hP : IsPick T) (h' : T.fns "_law_of" = some cOf) (s : IsSrc d) {xs : List D} (h0 : xs ≠ []) (hk : xs.length ≤ 1073741823) : ∃ x d', callF T (n + 2) "_law_of" [d, .lst xs] os = .ok x (cf x) [d'] os ∧ IsSrc d' ∧ x ∈ xs := by
  obtain ⟨r, d', q1, q2, q3, q4⟩ := pick_okP (n := n) (os := os) hP s (k := xs.length) (by omega)
  have pos : 0 < xs.length := List.length_pos_iff.mpr h0
  have q5 : r < (xs.length : Int) := by
    rw [show max (1 : Int) xs.length = xs.length by omega] at q4
    exact q4
  have hr : r.toNat < xs.length := by omega
  have hx : xs[r.toNat]? = some xs[r.toNat] := by simp [hr]
  refine ⟨xs[r.toNat], d', ?_, q2, List.getElem_mem hr⟩
  obtain ⟨N, hN, h⟩ := hP.is
  rw [callF_eq h' rfl]
  have ix : ixN xs.length r = some r.toNat := by
    unfold ixN
    rw [if_pos q3, if_pos q5]
  simp [cOf, startS, execs, exec, ev, evs, muts, mutss, vars, varss, disj, lk_io h, isIo, iosOf, cPickN, cPick, argsOk, fill, q1, back, ix, hx, endS, outsOf, outsOf.go, S.keep, S.frz]
theorem of_ok (h : T.fns "_law_pick" = some cPick) (h' : T.fns "_law_of" = some cOf) (s : IsSrc d) {xs : List D} (h0 : xs ≠ []) (hk : xs.length ≤ 1073741823) : ∃ x d', callF T (n + 2) "_law_of" [d, .lst xs] os = .ok x (cf x) [d'] os ∧ IsSrc d' ∧ x ∈ xs := of_okP ⟨⟨_, rfl, h⟩⟩ h' s h0 hk
theorem source_okP (hP : IsSource T) {ns : List Int} (hl : ns.length ≤ 63) : ∃ d, callF T (n + 1) "_law_source" [.lst (ns.map .int)] os = .ok d true [] os ∧ IsSrc d := by
  obtain ⟨N, hN, h⟩ := hP.is
  have m1 : ∀ x : Int, op2 .mul (.int x) (.int 69069) = some (.int (x * 69069), true) := fun x => o_mul (.inr (by decide))
  have m2 : ∀ x : Int, op2 .mul (.int x) (.int 31) = some (.int (x * 31), true) := fun x => o_mul (.inr (by decide))
  have m3 : ∀ x : Int, op2 .mod (.int x) (.int 2147483629) = some (.int (x % 2147483629), true) := fun x => o_mod (by decide)
  obtain ⟨st', e, m, hm, rfl⟩ := exec_for (L := lkOf T n) (I := fun _ st => ∃ m : Int, 0 ≤ m ∧ st = ⟨[some (.lst (ns.map .int), false), some (.int m, true), none], os⟩)
    (tg := .n 2) (kind := 1) (it := .var 0) (it2 := .con .non) (clr := [2]) (b := [.asg (.n 1) (.op2 .mod (.op1 .toInt (.op2 .add (.op2 .add (.op2 .mul (.var 1) (.con (.int 69069))) (.op2 .mul (.var 2) (.con (.int 31)))) (.con (.int 5)))) (.con (.int 2147483629)))])
    (st := ⟨[some (.lst (ns.map .int), false), some (.int 11, true), none], os⟩) (items := ns.map .int) rfl rfl rfl (by simp [disj, vars, muts, mutsS, mutsM, Cn.d]) rfl ⟨11, by decide, by simp⟩ fun i x st hx hi => by
      obtain ⟨m, hm, rfl⟩ := hi
      obtain ⟨c, _, rfl⟩ : ∃ c : Int, ns[i]? = some c ∧ .int c = x := by simpa using hx
      refine ⟨⟨[some (.lst (ns.map .int), false), some (.int m, true), some (.int c, true)], os⟩, ⟨[some (.lst (ns.map .int), false), some (.int ((m * 69069 + c * 31 + 5) % 2147483629), true), some (.int c, true)], os⟩, ?_, .inl ?_, (m * 69069 + c * 31 + 5) % 2147483629, Int.emod_nonneg _ (by decide), ?_⟩
      · simp [bindT]
      · simp [bindT, execs, exec, ev, Cn.d, m1, m2, m3, disj, muts, vars, S.keep]
      · simp [S.hide]
  obtain ⟨ys, st3, f, q⟩ := ev_comp (L := lkOf T n) (I := fun i ys st => ys = (ns.take i).map (fun x : Int => (D.int (if x < 0 then -x else x), true)) ∧ ∃ o, st = ⟨[some (.lst (ns.map .int), false), some (.int m, true), o], os⟩)
    (own := [2]) (tg := .n 2) (kind := 1) (it := .var 0) (it2 := .con .non) (cs := []) (e := .op1 .abs (.var 2)) (st := ⟨[some (.lst (ns.map .int), false), some (.int m, true), none], os⟩) (items := ns.map .int) rfl rfl rfl
    (by simp [disj, vars, muts, mutss, S.flatAt, tgs]) (by simp [sizeLine_eq]; omega) ⟨by simp, none, rfl⟩ fun i x ys st hx hi => by
      obtain ⟨rfl, o, rfl⟩ := hi
      obtain ⟨c, hc, rfl⟩ : ∃ c : Int, ns[i]? = some c ∧ .int c = x := by simpa using hx
      refine ⟨⟨[some (.lst (ns.map .int), false), some (.int m, true), some (.int c, true)], os⟩, true, _, by simp [bindT, S.hide], by simp [evC]; rfl, .inr ⟨rfl, .int (if c < 0 then -c else c), true, _, by simp [ev]; rfl, rfl, ?_, _, rfl⟩⟩
      have hi : i < ns.length := (List.getElem?_eq_some_iff.mp hc).1
      rw [List.take_succ, hc]
      simp
  obtain ⟨rfl, o, rfl⟩ := q
  have abs0 : ∀ x ∈ ns.map (fun x : Int => if x < 0 then -x else x), 0 ≤ x := fun x hx => by
    obtain ⟨y, _, rfl⟩ := List.mem_map.mp hx
    split <;> omega
  refine ⟨src (ns.map fun x : Int => if x < 0 then -x else x).reverse 1 m 0, ?_, ⟨_, 1, m, 0, rfl, by simpa using hl, fun x hx => abs0 x (List.mem_reverse.mp hx), by decide, hm, by decide⟩⟩
  rw [callF_eq h rfl]
  have s0 : startS (cSourceN N) [.lst (ns.map .int)] os = ⟨[some (.lst (ns.map .int), false), none, none], os⟩ := by
    have := hN
    match N, this with
    | [_, _, _], _ => rfl
  rw [s0]
  simp only [cSourceN, cSource, execs]
  rw [show exec (lkOf T n) (.asg (.n 1) (.con (.int 11))) ⟨[some (.lst (ns.map .int), false), none, none], os⟩ = .next ⟨[some (.lst (ns.map .int), false), some (.int 11, true), none], os⟩ by simp [exec, ev, Cn.d, bindT, S.keep, vars]]
  simp only [e]
  have f' : ev (lkOf T n) (.comp [2] (.n 2) 1 (.var 0) (.con .non) [] (.op1 .abs (.var 2))) ⟨[some (.lst (ns.map .int), false), some (.int m, true), none], os⟩ =
      .ok (.lst ((ns.map fun x : Int => if x < 0 then -x else x).map .int)) true ⟨[some (.lst (ns.map .int), false), some (.int m, true), none], os⟩ := by
    rw [f]
    simp [S.restore, Function.comp_def]
  generalize Ex.comp [2] (.n 2) 1 (.var 0) (.con .non) [] (.op1 .abs (.var 2)) = ce at f'
  generalize ns.map (fun x : Int => if x < 0 then -x else x) = zs at f'
  simp [exec, ev, evs, f', Cn.d, S.keep, endS, outsOf, outsOf.go, src, kC, kL, kM, kT, List.map_reverse, ← List.map_reverse]
theorem source_ok (h : T.fns "_law_source" = some cSource) {ns : List Int} (hl : ns.length ≤ 63) : ∃ d, callF T (n + 1) "_law_source" [.lst (ns.map .int)] os = .ok d true [] os ∧ IsSrc d := source_okP ⟨⟨_, rfl, h⟩⟩ hl
end

/-! ### draws as expressions -/
section
variable {T : Tb} {n : Nat} {L : Lk}
/-- a call that changes its first argument -/
theorem ev_io2 {f : String} {i : Nat} {e : Ex} {st st1 : S} {d d' x y : D} {k kx : Bool} (hf : L.io f = some [true, false]) (hs : (st.get i).isSome = true) (he : ev L e st = .ok x kx st1) (hk : (kx || disj (vars e) (i :: muts e)) = true) (hi : isIo e = false) (h1 : st1.get i = some (d, true))
    (hr : L.run f [d, x] st1.os = .ok y k [d'] st1.os) : ev L (.call f [.io i, e]) st = .ok y k (st1.set i (some (d', true))) := by
  have h0 : evs L [.io i, e] st = .ok [(.non, true), (x, kx)] st1 := by
    obtain ⟨z, hz⟩ := Option.isSome_iff_exists.mp hs
    simp [evs, ev, hz, he, disj, mutss]
  have fl : fill st1 [.io i, e] [(.non, true), (x, kx)] = some [d, x] := by
    simp only [fill, h1]
    cases e <;> first | rfl | (simp [isIo] at hi)
  have bk : back st1 [.io i, e] [d'] = st1.set i (some (d', true)) := by
    show back (st1.set i (some (d', true))) [e] [] = _
    cases e <;> first | rfl | (simp [isIo] at hi)
  have ios : iosOf [.io i, e] = [i] := by
    cases e <;> first | rfl | (simp [isIo] at hi)
  have ok : argsOk [.io i, e] [(.non, true), (x, kx)] = true := by
    have e1 : mutss [.io i, e] = i :: muts e := by simp [mutss, muts]
    simp only [argsOk, e1, List.zip_cons_cons, List.zip_nil_right, List.all_cons, List.all_nil, Bool.and_true, hk, Bool.or_true, isIo, Bool.true_or]
  simp only [ev, hf]
  rw [if_pos ⟨by rw [List.map_cons, List.map_cons, hi]; rfl, by rw [ios]; simp⟩]
  simp only [h0, ok, if_true, fl, hr, bk]
  rfl
theorem ev_pick (h : T.fns "_law_pick" = some cPick) {st st1 : S} {i : Nat} {e : Ex} {d : D} {k : Int} (hs : (st.get i).isSome = true) (he : ev (lkOf T (n + 1)) e st = .ok (.int k) true st1) (hi : isIo e = false) (h1 : st1.get i = some (d, true)) (hd : IsSrc d) (hk : k ≤ 1073741823) :
    ∃ r d', ev (lkOf T (n + 1)) (.call "_law_pick" [.io i, e]) st = .ok (.int r) true (st1.set i (some (d', true))) ∧ IsSrc d' ∧ 0 ≤ r ∧ r < max 1 k := by
  obtain ⟨r, d', q1, q2, q3, q4⟩ := pick_ok (n := n) (os := st1.os) h hd hk
  exact ⟨r, d', ev_io2 (lk_io h) hs he rfl hi h1 q1, q2, q3, q4⟩
theorem ev_of (h : T.fns "_law_pick" = some cPick) (h' : T.fns "_law_of" = some cOf) {st st1 : S} {i : Nat} {e : Ex} {d : D} {xs : List D} (hs : (st.get i).isSome = true) {kx : Bool} (he : ev (lkOf T (n + 2)) e st = .ok (.lst xs) kx st1) (hk' : (kx || disj (vars e) (i :: muts e)) = true) (hi : isIo e = false) (h1 : st1.get i = some (d, true)) (hd : IsSrc d) (h0 : xs ≠ []) (hk : xs.length ≤ 1073741823) :
    ∃ x d', ev (lkOf T (n + 2)) (.call "_law_of" [.io i, e]) st = .ok x (cf x) (st1.set i (some (d', true))) ∧ IsSrc d' ∧ x ∈ xs := by
  obtain ⟨x, d', q1, q2, q3⟩ := of_ok (n := n) (os := st1.os) h h' hd h0 hk
  exact ⟨x, d', ev_io2 (lk_io h') hs he hk' hi h1 q1, q2, q3⟩
theorem ev_pickP (hP : IsPick T) {st st1 : S} {i : Nat} {e : Ex} {d : D} {k : Int} (hs : (st.get i).isSome = true) (he : ev (lkOf T (n + 1)) e st = .ok (.int k) true st1) (hi : isIo e = false) (h1 : st1.get i = some (d, true)) (hd : IsSrc d) (hk : k ≤ 18446744073709551616) :
    ∃ r d', ev (lkOf T (n + 1)) (.call "_law_pick" [.io i, e]) st = .ok (.int r) true (st1.set i (some (d', true))) ∧ IsSrc d' ∧ 0 ≤ r ∧ r < max 1 k := by
  obtain ⟨r, d', q1, q2, q3, q4⟩ := pick_okP (n := n) (os := st1.os) hP hd hk
  obtain ⟨N, hN, h⟩ := hP.is
  exact ⟨r, d', ev_io2 (lk_io h) hs he rfl hi h1 q1, q2, q3, q4⟩
theorem ev_ofP (hP : IsPick T) (h' : T.fns "_law_of" = some cOf) {st st1 : S} {i : Nat} {e : Ex} {d : D} {xs : List D} (hs : (st.get i).isSome = true) {kx : Bool} (he : ev (lkOf T (n + 2)) e st = .ok (.lst xs) kx st1) (hk' : (kx || disj (vars e) (i :: muts e)) = true) (hi : isIo e = false) (h1 : st1.get i = some (d, true)) (hd : IsSrc d) (h0 : xs ≠ []) (hk : xs.length ≤ 1073741823) :
    ∃ x d', ev (lkOf T (n + 2)) (.call "_law_of" [.io i, e]) st = .ok x (cf x) (st1.set i (some (d', true))) ∧ IsSrc d' ∧ x ∈ xs := by
  obtain ⟨x, d', q1, q2, q3⟩ := of_okP (n := n) (os := st1.os) hP h' hd h0 hk
  exact ⟨x, d', ev_io2 (lk_io h') hs he hk' hi h1 q1, q2, q3⟩
end
end VS

-- VS.Shown
/-! How long shown data are. -/
namespace VS
open PySem L2

mutual
/-- data that may be shown -/
def nice : D → Bool
  | .non => true
  | .bl _ => true
  | .int i => decide (i.natAbs.log2 < 1920)
  | .str _ => false
  | .tup xs => nices xs
  | .lst xs => nices xs
  | .dct _ => false
  | .dctT _ => false
  | .obj _ => false
def nices : List D → Bool
  | [] => true
  | x :: r => nice x && nices r
end
mutual
/-- not less than the length of what is shown -/
def wt : D → Nat
  | .non => 4
  | .bl _ => 5
  | .int i => i.natAbs.log2 + 2
  | .str _ => 0
  | .tup xs => wts xs + 3
  | .lst xs => wts xs + 3
  | .dct _ => 0
  | .dctT _ => 0
  | .obj _ => 0
def wts : List D → Nat
  | [] => 0
  | x :: r => wt x + 2 + wts r
end
theorem lt_pow (n : Nat) : n < 10 ^ (n.log2 + 1) := by
  have h : n < 2 ^ (n.log2 + 1) := Nat.lt_log2_self
  exact Nat.lt_of_lt_of_le h (Nat.pow_le_pow_left (by decide) _)
theorem len_nat (n : Nat) : (Nat.repr n).length ≤ n.log2 + 1 := by
  have h := PySem.toDigits_len_pow (b := 10) (k := n.log2 + 1) (n := n) (by decide) (by omega) (lt_pow n)
  rw [← String.length_toList, Nat.toList_repr]
  exact h
theorem len_int (i : Int) : (toString i).length ≤ i.natAbs.log2 + 2 := by
  cases i with
  | ofNat n =>
    have h := len_nat n
    show (Nat.repr n).length ≤ n.log2 + 2
    omega
  | negSucc n =>
    have h := len_nat (n + 1)
    show ("-" ++ Nat.repr (n + 1)).length ≤ (n + 1).log2 + 2
    rw [String.length_append]
    show 1 + _ ≤ (n + 1).log2 + 2
    omega
theorem textFrom_le : ∀ (ts : List Str) (k : Nat) (acc : Str), (textFrom k acc ts).length ≤ acc.length + piled ts
  | [], _, acc => by show acc.length ≤ _; omega
  | t :: ts, k, acc => by
    have h := textFrom_le ts (k + 1) (acc ++ (if k > 0 then ", " else "" : String) ++ t)
    rw [strLen_append, strLen_append] at h
    have e : ((if k > 0 then ", " else "" : String) : Str).length ≤ 2 := by split <;> decide
    rw [piled_cons]
    show (textFrom (k + 1) _ ts).length ≤ _
    omega
theorem listText_le (ts : List Str) : (listText ts).length ≤ piled ts + 2 := by
  unfold listText
  rw [strLen_append]
  have h := textFrom_le ts 0 "["
  have e1 : (("[" : String) : Str).length = 1 := rfl
  have e2 : (("]" : String) : Str).length = 1 := rfl
  omega
theorem tupleText_le (ts : List Str) : (tupleText ts).length ≤ piled ts + 3 := by
  unfold tupleText
  rw [strLen_append, strLen_append]
  have e1 : (("(" : String) : Str).length = 1 := rfl
  have e3 : (((if ts.length == 1 then ",)" else ")" : String) : Str)).length ≤ 2 := by split <;> decide
  cases ts with
  | nil =>
    have : (Str.join ", " []).length = 0 := rfl
    omega
  | cons t r =>
    have := join_length_add (t :: r) (by simp)
    omega
mutual
theorem shown_le : ∀ d : D, nice d = true → (toP d).shown.length ≤ wt d
  | .non, _ => by decide
  | .bl b, _ => by cases b <;> decide
  | .int i, _ => by
    have h := len_int i
    simp only [toP, PyData.shown_int, PyProof.Rows.ofString_len, wt]
    exact h
  | .str _, h => by simp [nice] at h
  | .tup xs, h => by
    have h' := showns_le xs (by simpa [nice] using h)
    have := tupleText_le (PyData.shownAll (toPs xs))
    simp only [toP, PyData.shown, wt]
    omega
  | .lst xs, h => by
    have h' := showns_le xs (by simpa [nice] using h)
    have := listText_le (PyData.shownAll (toPs xs))
    simp only [toP, PyData.shown, wt]
    omega
  | .dct _, h => by simp [nice] at h
  | .dctT _, h => by simp [nice] at h
  | .obj _, h => by simp [nice] at h
theorem showns_le : ∀ ds : List D, nices ds = true → piled (PyData.shownAll (toPs ds)) ≤ wts ds
  | [], _ => by simp [toPs, PyData.shownAll, piled, wts]
  | d :: r, h => by
    have h' := Bool.and_eq_true_iff.mp (show (nice d && nices r) = true by simpa [nices] using h)
    have h1 := shown_le d h'.1
    have h2 := showns_le r h'.2
    simp only [toPs, PyData.shownAll, piled_cons, wts]
    omega
end
mutual
theorem nice_show : ∀ d : D, nice d = true → (toP d).showable = true ∧ (toP d).hasDict = false ∧ plain d = true
  | .non, _ => ⟨rfl, rfl, rfl⟩
  | .bl b, _ => ⟨rfl, rfl, rfl⟩
  | .int i, h => ⟨by simpa [toP, PyData.showable, nice] using h, rfl, rfl⟩
  | .str _, h => by simp [nice] at h
  | .tup xs, h => by
    obtain ⟨h1, h2, h3⟩ := nices_show xs (by simpa [nice] using h)
    exact ⟨by simpa [toP, PyData.showable] using h1, by simpa [toP, PyData.hasDict] using h2, by simpa [plain] using h3⟩
  | .lst xs, h => by
    obtain ⟨h1, h2, h3⟩ := nices_show xs (by simpa [nice] using h)
    exact ⟨by simpa [toP, PyData.showable] using h1, by simpa [toP, PyData.hasDict] using h2, by simpa [plain] using h3⟩
  | .dct _, h => by simp [nice] at h
  | .dctT _, h => by simp [nice] at h
  | .obj _, h => by simp [nice] at h
theorem nices_show : ∀ ds : List D, nices ds = true → PyData.showableAll (toPs ds) = true ∧ PyData.hasDictAll (toPs ds) = false ∧ plains ds = true
  | [], _ => ⟨rfl, rfl, rfl⟩
  | d :: r, h => by
    have h' := Bool.and_eq_true_iff.mp (show (nice d && nices r) = true by simpa [nices] using h)
    obtain ⟨a1, a2, a3⟩ := nice_show d h'.1
    obtain ⟨b1, b2, b3⟩ := nices_show r h'.2
    exact ⟨by simp [toPs, PyData.showableAll, a1, b1], by simp [toPs, PyData.hasDictAll, a2, b2], by simp [plains, a3, b3]⟩
end
/-! signs of what is shown -/
theorem ok_append {a b : Str} (h : PyData.strOk a = true) (h' : PyData.strOk b = true) : PyData.strOk (a ++ b) = true := by
  unfold PyData.strOk at *
  rw [Str.cps_append]
  simp [h, h']
theorem ok_text : ∀ (ts : List Str) (k : Nat) (acc : Str), PyData.strOk acc = true → (∀ t ∈ ts, PyData.strOk t = true) → PyData.strOk (textFrom k acc ts) = true
  | [], _, acc, h, _ => h
  | t :: ts, k, acc, h, w => ok_text ts (k + 1) _ (ok_append (ok_append h (by split <;> decide +kernel)) (w t (by simp))) fun u hu => w u (by simp [hu])
theorem ok_join : ∀ ts : List Str, (∀ t ∈ ts, PyData.strOk t = true) → PyData.strOk (Str.join ", " ts) = true
  | [], _ => by decide +kernel
  | [x], h => h x (by simp)
  | x :: y :: r, h => ok_append (ok_append (h x (by simp)) (by decide +kernel)) (ok_join (y :: r) fun t ht => h t (by simp [List.mem_cons.mp ht]))
theorem ok_int (i : Int) : PyData.strOk (PyData.int i).shown = true := by
  unfold PyData.strOk
  rw [Array.all_eq_true']
  intro c hc
  rw [decide_eq_true_eq]
  have hc' : c ∈ (PyData.int i).shown.cps.toList := by simpa using hc
  rw [PyData.shown_int] at hc'
  rcases Nat.lt_or_ge c 0x110000 with z | z
  · exact z
  · exact absurd hc' (PyProof.Rows.int_text_free' c ⟨by omega, .inr (by omega)⟩ i)
mutual
theorem shown_ok : ∀ d : D, nice d = true → PyData.strOk (toP d).shown = true
  | .non, _ => by decide +kernel
  | .bl b, _ => by cases b <;> decide +kernel
  | .int i, _ => ok_int i
  | .str _, h => by simp [nice] at h
  | .tup xs, h => by
    have h' := showns_ok xs (by simpa [nice] using h)
    simp only [toP, PyData.shown]
    unfold tupleText
    exact ok_append (ok_append (by decide +kernel) (ok_join _ h')) (by split <;> decide +kernel)
  | .lst xs, h => by
    have h' := showns_ok xs (by simpa [nice] using h)
    simp only [toP, PyData.shown]
    unfold listText
    exact ok_append (ok_text _ _ _ (by decide +kernel) h') (by decide +kernel)
  | .dct _, h => by simp [nice] at h
  | .dctT _, h => by simp [nice] at h
  | .obj _, h => by simp [nice] at h
theorem showns_ok : ∀ ds : List D, nices ds = true → ∀ t ∈ PyData.shownAll (toPs ds), PyData.strOk t = true
  | [], _ => fun t h => by simp [toPs, PyData.shownAll] at h
  | d :: r, h => by
    have h' := Bool.and_eq_true_iff.mp (show (nice d && nices r) = true by simpa [nices] using h)
    have h1 := shown_ok d h'.1
    have h2 := showns_ok r h'.2
    intro t ht
    simp only [toPs, PyData.shownAll, List.mem_cons] at ht
    rcases ht with rfl | ht
    · exact h1
    · exact h2 t ht
end
theorem repr_nice {d : D} (h : nice d = true) (hd : (toP d).depth ≤ 60) (hw : wt d ≤ sizeLine) : op1 .repr d = some (.str (toP d).shown, true) := by
  obtain ⟨h1, h2, h3⟩ := nice_show d h
  have h4 : showOk d = true := by
    cases d <;> first | rfl | (simp [nice] at h; done) | (show (plain _ && !(toP _).hasDict) = true; rw [h3, h2]; rfl)
  rw [o_repr, if_pos ⟨h4, h1, hd, Nat.le_trans (shown_le d h) hw⟩]
theorem flat_str {s : Str} (h : PyData.strOk s = true) : flatOk (.str s) = true := by
  show (true && (PyData.strOk s && decide (0 ≤ 64))) = true
  rw [h]; rfl
/-- texts of what is shown, compared -/
theorem ne_shown {d e : D} (h : nice d = true) (h' : nice e = true) : op2 .ne (.str (toP d).shown) (.str (toP e).shown) = some (.bl (!((toP d).shown == (toP e).shown)), true) := o_ne (flat_str (shown_ok d h)) (flat_str (shown_ok e h'))
theorem eq_shown {d e : D} (h : nice d = true) (h' : nice e = true) : op2 .eq (.str (toP d).shown) (.str (toP e).shown) = some (.bl ((toP d).shown == (toP e).shown), true) := o_eq (flat_str (shown_ok d h)) (flat_str (shown_ok e h'))

/-- ints of at most c bits -/
theorem nice_ints {c : Nat} (hc : c ≤ 1920) : ∀ {xs : List Int}, (∀ x ∈ xs, x.natAbs < 2 ^ c) → nices (xs.map .int) = true ∧ wts (xs.map .int) ≤ (c + 5) * xs.length ∧ PyData.depthAll (toPs (xs.map .int)) = 0
  | [], _ => ⟨rfl, by simp [wts], rfl⟩
  | x :: xs, h => by
    obtain ⟨h1, h2, h3⟩ := nice_ints hc (xs := xs) fun y hy => h y (by simp [hy])
    have hx := h x (by simp)
    have lg : x.natAbs.log2 ≤ c ∧ x.natAbs.log2 < 1920 := by
      by_cases z : x.natAbs = 0
      · rw [z]; exact ⟨Nat.zero_le _, by decide⟩
      · have := (Nat.log2_lt z).mpr hx
        omega
    refine ⟨by simp [nices, nice, lg.2, h1], ?_, by simp [toPs, toP, PyData.depthAll, PyData.depth, h3]⟩
    simp only [List.map_cons, wts, wt, List.length_cons, Nat.mul_succ]
    omega
theorem ev_repr {L : Lk} {A : Ex} {st st1 : S} {x : D} {k : Bool} (h : ev L A st = .ok x k st1) (n : nice x = true) (hd : (toP x).depth ≤ 60) (hw : wt x ≤ sizeLine) : ev L (.op1 .repr A) st = .ok (.str (toP x).shown) true st1 := by
  simp only [ev, h, repr_nice n hd hw]
/-- two of one text -/
theorem ne_repr {L : Lk} {A B : Ex} {st : S} {x : D} {kx ky : Bool} (hA : ev L A st = .ok x kx st) (hB : ev L B st = .ok x ky st) (n : nice x = true) (hd : (toP x).depth ≤ 60) (hw : wt x ≤ sizeLine) : evB L (.op2 .ne (.op1 .repr A) (.op1 .repr B)) st = .ok false st := by
  rw [b_op2]
  have e : ev L (.op2 .ne (.op1 .repr A) (.op1 .repr B)) st = .ok (.bl false) true st := by
    have q1 := ev_repr hA n hd hw
    have q2 := ev_repr hB n hd hw
    generalize Ex.op1 .repr A = a at q1
    generalize Ex.op1 .repr B = b at q2
    simp only [ev, q1, q2, Bool.true_or, if_true, ne_shown n n, beq_self_eq_true, Bool.not_true]
  simp [e]
theorem eq_repr {L : Lk} {A B : Ex} {st : S} {x : D} {kx ky : Bool} (hA : ev L A st = .ok x kx st) (hB : ev L B st = .ok x ky st) (n : nice x = true) (hd : (toP x).depth ≤ 60) (hw : wt x ≤ sizeLine) : ev L (.op2 .eq (.op1 .repr A) (.op1 .repr B)) st = .ok (.bl true) true st := by
  have q1 := ev_repr hA n hd hw
  have q2 := ev_repr hB n hd hw
  generalize Ex.op1 .repr A = a at q1
  generalize Ex.op1 .repr B = b at q2
  simp only [ev, q1, q2, Bool.true_or, if_true, eq_shown n n, beq_self_eq_true]
/-- an if that is not taken -/
theorem run_no {L : Lk} {c : Ex} {a : List Sm} {st st1 : S} (h : evB L c st = .ok false st1) : exec L (.ite c a []) st = .next st1 := by
  simp [exec, h, execs]
end VS

-- VS.Gen
/-! Words that serve the pure part of any law. -/
namespace VS
open PySem L2
variable {T : Tb} {L : Lk}
abbrev O := Option (D × Bool)
def pD (p : Nat × Nat) : D := .tup [.int p.1, .int p.2]
theorem cfs_nats (l : List Nat) : cfs (l.map fun i : Nat => D.int i) = true := by
  induction l with
  | nil => rfl
  | cons n ns ih => simpa using ih
theorem cfs_pD (l : List (Nat × Nat)) : cfs (l.map pD) = true := by
  induction l with
  | nil => rfl
  | cons n ns ih => simpa [pD] using ih
theorem ix_nat {m k : Nat} (h : k < m) : ixN m ((k : Nat) : Int) = some k := by
  unfold ixN
  rw [if_pos (by omega), if_pos (by omega)]
  simp
theorem get_int {vs : List Int} {k : Nat} (h : k < vs.length) : (vs.map D.int)[k]? = some (.int (vs.getD k 0)) := by
  simp [h]
def vT (xs : List Int) : D := .tup (xs.map .int)
def vL (xs : List Int) : D := .lst (xs.map .int)
/-- a block that changes nothing -/
theorem comp_pure {own : List Nat} {tg : Tg} {kind : Nat} {it e : Ex} {st : S} {d1 : D} {k1 : Bool} {items : List D} {g : D → D} {F : D → S} (h1 : ev L it st = .ok d1 k1 st) (hi : itemsOf kind d1 .non = some items) (hc : cfs items = true)
    (fl : ((cfs items || (st.stuck (vars it) && st.stuck (vars (.con .non)))) && (k1 || disj (vars it) (muts (.con .non) ++ (mutss [] ++ muts e))) && (true || disj (vars (.con .non)) (mutss [] ++ muts e)) && (st.flatAt own && disj own (mutss [] ++ muts e) && (tgs tg).all own.contains)) = true) (few : items.length < sizeLine)
    (hb : ∀ x ∈ items, bindT tg x false (st.hide own) = some (F x)) (hh : ∀ x ∈ items, (F x).hide own = st.hide own) (hs : (st.hide own).hide own = st.hide own) (he : ∀ x ∈ items, ev L e (F x) = .ok (g x) true (F x)) (hr : st.restore st own = st) (hr' : ∀ x ∈ items, (F x).restore st own = st) :
    ev L (.comp own tg kind it (.con .non) [] e) st = .ok (.lst (items.map g)) true st := by
  obtain ⟨ys, st3, f, rfl, q⟩ := ev_comp (L := L) (I := fun i ys s => ys = (items.take i).map (fun x => (g x, true)) ∧ (s = st ∨ ∃ x ∈ items, s = F x))
    (own := own) (tg := tg) (kind := kind) (it := it) (it2 := .con .non) (cs := []) (e := e) (st := st) (st1 := st) (st2 := st) (d1 := d1) (k1 := k1) (d2 := .non) (k2 := true) (items := items) h1 rfl hi fl few ⟨by simp, .inl rfl⟩ fun i x ys s hx hi => by
      obtain ⟨rfl, hs'⟩ := hi
      have mx : x ∈ items := List.mem_of_getElem? hx
      have e1 : s.hide own = st.hide own := by
        rcases hs' with rfl | ⟨y, my, rfl⟩
        · rfl
        · exact hh y my
      refine ⟨F x, true, F x, by rw [e1]; exact hb x mx, by simp [evC], .inr ⟨rfl, g x, true, F x, he x mx, rfl, ?_, .inr ⟨x, mx, rfl⟩⟩⟩
      rw [List.take_succ, hx]
      simp
  rw [f]
  have e3 : st3.restore st own = st := by
    rcases q with rfl | ⟨y, my, rfl⟩
    · exact hr
    · exact hr' y my
  rw [e3]
  simp [Function.comp_def]
theorem tup_of {e : Ex} {st : S} {xs : List D} {k : Bool} {st1 : S} (h : ev L e st = .ok (.lst xs) k st1) : ev L (.op1 .tupleOf e) st = .ok (.tup xs) (cfs xs) st1 := by
  simp [ev, h]
theorem app_ok {i : Nat} {e : Ex} {st : S} {xs : List D} {v : D} (hl : st.get i = some (.lst xs, true)) (hm : (muts e).contains i = false) (he : ev L e st = .ok v true st) (few : xs.length < sizeLine) : exec L (.app i [] e) st = .next (st.set i (some (.lst (xs ++ [v]), true))) := by
  have a1 : lstAt st i [] = true := by simp [lstAt, hl, atPath, asLst]
  simp only [exec, a1, hm, Bool.not_false, Bool.and_self, if_true, he, S.keep, change, hl, atPath, appD, if_pos few, Option.map_some, Bool.true_or]
theorem cfs_vT (l : List (List Int)) : cfs (l.map vT) = true := by
  induction l with
  | nil => rfl
  | cons n ns ih => simpa [vT] using ih
theorem evs_cons {e : Ex} {r : List Ex} {st st1 st2 : S} {d : D} {k : Bool} {ds : List (D × Bool)} (h : ev L e st = .ok d k st1) (hk : (k || disj (vars e) (mutss r)) = true) (h2 : evs L r st1 = .ok ds st2) : evs L (e :: r) st = .ok ((d, k) :: ds) st2 := by
  simp only [evs, h, hk, if_true, h2]
theorem idx_lst {A B : Ex} {st : S} {zs : List D} {kA : Bool} {j : Int} {i : Nat} {v : D} (hA : ev L A st = .ok (.lst zs) kA st) (hB : ev L B st = .ok (.int j) true st) (hm : muts B = []) (hi : ixN zs.length j = some i) (hg : zs[i]? = some v) : ev L (.op2 .idx A B) st = .ok v (cf v) st := by
  have hd : disj (vars A) [] = true := by simp [disj]
  simp only [ev, hA, hB, hm, hd, Bool.or_true, if_true, o_ixL, hi, Option.bind_some, hg, Option.map_some]
theorem all_of {α : Type} {f : α → D} {p : α → Prop} : ∀ {ys : List D}, (∀ y ∈ ys, ∃ a, y = f a ∧ p a) → ∃ as : List α, ys = as.map f ∧ ∀ a ∈ as, p a
  | [], _ => ⟨[], rfl, by simp⟩
  | y :: r, h => by
    obtain ⟨a, e, pa⟩ := h y (by simp)
    obtain ⟨as, e2, pas⟩ := all_of (ys := r) fun z m => h z (by simp [m])
    exact ⟨a :: as, by rw [e, e2]; rfl, fun b m => by
      rcases List.mem_cons.mp m with q | q
      · subst q; exact pa
      · exact pas b q⟩
theorem items_range {w : Nat} (hw : w ≤ 100000) {d : D} : itemsOf 0 (.int w) d = some ((List.range w).map fun i : Nat => D.int i) := by
  simp only [itemsOf]
  rw [if_pos (by constructor <;> omega)]
  simp
/-- a block of draws -/
theorem comp_draw {v : Nat} {it e : Ex} {k : Nat} {sf : D → Option (D × Bool) → S} {P : D → Prop} {s0 : S} {d1 : D} {o0 : Option (D × Bool)} (h1 : ev L it s0 = .ok (.int k) true (sf d1 o0)) (hd : IsSrc d1) (hk : k ≤ 100000)
    (fl : disj [v] (muts e) = true) (ho : ∀ d, (sf d o0).flatAt [v] = true) (hh : ∀ d o, (sf d o).hide [v] = sf d none) (hb : ∀ d (x : D), bindT (.n v) x false (sf d none) = some (sf d (some (x, cf x)))) (hr : ∀ d o d2, (sf d o).restore (sf d2 o0) [v] = sf d o0)
    (he : ∀ (d : D) (i : Nat), IsSrc d → ∃ y d', ev L e (sf d (some (.int i, true))) = .ok y true (sf d' (some (.int i, true))) ∧ IsSrc d' ∧ P y) :
    ∃ ys d', ev L (.comp [v] (.n v) 0 it (.con .non) [] e) s0 = .ok (.lst ys) true (sf d' o0) ∧ IsSrc d' ∧ ys.length = k ∧ ∀ y ∈ ys, P y := by
  obtain ⟨ys, st3, f, ⟨zs, rfl, hz, hP⟩, d2, o2, hd2, rfl⟩ := ev_comp (L := L) (I := fun i ys s => (∃ zs : List D, ys = zs.map (fun z => (z, true)) ∧ zs.length = i ∧ ∀ z ∈ zs, P z) ∧ ∃ d o, IsSrc d ∧ s = sf d o)
    (own := [v]) (tg := .n v) (kind := 0) (it := it) (it2 := .con .non) (cs := []) (e := e) (st := s0) (st1 := sf d1 o0) (st2 := sf d1 o0) (d1 := .int k) (k1 := true) (d2 := .non) (k2 := true) (items := (List.range k).map fun i : Nat => D.int i) h1 rfl (items_range hk)
    (by simp [cfs_nats, ho, fl, mutss, tgs]) (by simp [sizeLine_eq]; omega) ⟨⟨[], rfl, rfl, by simp⟩, d1, o0, hd, rfl⟩ fun i x ys s hx hi => by
      obtain ⟨⟨zs, rfl, hz, hP⟩, d, o, hd, rfl⟩ := hi
      have hi : i < k := by have := (List.getElem?_eq_some_iff.mp hx).1; simpa using this
      obtain rfl : D.int i = x := by rw [List.getElem?_map, List.getElem?_range hi] at hx; exact Option.some.inj hx
      obtain ⟨y, d', q1, q2, q3⟩ := he d i hd
      refine ⟨sf d (some (.int i, true)), true, sf d (some (.int i, true)), by rw [hh]; exact hb d _, by simp [evC], .inr ⟨rfl, y, true, sf d' (some (.int i, true)), q1, rfl, ⟨zs ++ [y], by simp, by simp [hz], fun z m => ?_⟩, d', _, q2, rfl⟩⟩
      rcases List.mem_append.mp m with m | m
      · exact hP z m
      · rw [List.mem_singleton.mp m]; exact q3
  refine ⟨zs, d2, ?_, hd2, by rw [hz]; simp, hP⟩
  rw [f, hr]
  simp [Function.comp_def]
theorem app_ok2 {i : Nat} {e : Ex} {st st1 : S} {xs : List D} {v : D} (hl : st.get i = some (.lst xs, true)) (hl1 : st1.get i = some (.lst xs, true)) (hm : (muts e).contains i = false) (he : ev L e st = .ok v true st1) (few : xs.length < sizeLine) : exec L (.app i [] e) st = .next (st1.set i (some (.lst (xs ++ [v]), true))) := by
  have a1 : lstAt st i [] = true := by simp [lstAt, hl, atPath, asLst]
  simp only [exec, a1, hm, Bool.not_false, Bool.and_self, if_true, he, S.keep, change, hl1, atPath, appD, if_pos few, Option.map_some, Bool.true_or]
def Bits (vs : List Int) : Prop := ∀ x ∈ vs, x = 0 ∨ x = 1
theorem nice_bits {xs : List Int} (h : Bits xs) : nices (xs.map .int) = true ∧ wts (xs.map .int) ≤ 6 * xs.length ∧ PyData.depthAll (toPs (xs.map .int)) = 0 := by
  obtain ⟨a, b, c⟩ := nice_ints (c := 1) (by decide) (xs := xs) fun x m => by rcases h x m with rfl | rfl <;> decide
  exact ⟨a, by omega, c⟩
theorem nice_vTs {m : Nat} : ∀ {xss : List (List Int)}, (∀ xs ∈ xss, Bits xs ∧ xs.length ≤ m) → nices (xss.map vT) = true ∧ wts (xss.map vT) ≤ (6 * m + 5) * xss.length ∧ PyData.depthAll (toPs (xss.map vT)) ≤ 1
  | [], _ => ⟨rfl, by simp [wts], by simp [toPs, PyData.depthAll]⟩
  | xs :: r, h => by
    obtain ⟨a, b, c⟩ := nice_vTs (xss := r) fun ys my => h ys (by simp [my])
    obtain ⟨h1, h2⟩ := h xs (by simp)
    obtain ⟨a', b', c'⟩ := nice_bits h1
    refine ⟨by simp [nices, vT, nice, a', a], ?_, ?_⟩
    · simp only [List.map_cons, wts, vT, wt, List.length_cons, Nat.mul_succ]
      have : 6 * xs.length ≤ 6 * m := by omega
      omega
    · simp [toPs, toP, vT, PyData.depthAll, PyData.depth, c']
      have : PyData.depthAll (toPs (r.map vT)) ≤ 1 := c
      omega
theorem ev_io4 {f : String} {i : Nat} {e1 e2 e3 : Ex} {st : S} {d d' x1 x2 x3 y : D} {k : Bool} (hf : L.io f = some [true, false, false, false]) (h0 : st.get i = some (d, true)) (h1 : ev L e1 st = .ok x1 true st) (h2 : ev L e2 st = .ok x2 true st) (h3 : ev L e3 st = .ok x3 true st)
    (i1 : isIo e1 = false) (i2 : isIo e2 = false) (i3 : isIo e3 = false) (hr : L.run f [d, x1, x2, x3] st.os = .ok y k [d'] st.os) : ev L (.call f [.io i, e1, e2, e3]) st = .ok y k (st.set i (some (d', true))) := by
  have hz : evs L [.io i, e1, e2, e3] st = .ok [(.non, true), (x1, true), (x2, true), (x3, true)] st := by
    simp [evs, ev, h0, h1, h2, h3]
  have fl : fill st [.io i, e1, e2, e3] [(.non, true), (x1, true), (x2, true), (x3, true)] = some [d, x1, x2, x3] := by
    have a3 : fill st [e3] [(x3, true)] = some [x3] := by cases e3 <;> first | rfl | (simp [isIo] at i3)
    have a2 : fill st [e2, e3] [(x2, true), (x3, true)] = some [x2, x3] := by
      have : fill st [e2, e3] [(x2, true), (x3, true)] = (fill st [e3] [(x3, true)]).map (x2 :: ·) := by cases e2 <;> first | rfl | (simp [isIo] at i2)
      rw [this, a3]; rfl
    have a1 : fill st [e1, e2, e3] [(x1, true), (x2, true), (x3, true)] = some [x1, x2, x3] := by
      have : fill st [e1, e2, e3] [(x1, true), (x2, true), (x3, true)] = (fill st [e2, e3] [(x2, true), (x3, true)]).map (x1 :: ·) := by cases e1 <;> first | rfl | (simp [isIo] at i1)
      rw [this, a2]; rfl
    simp only [fill, h0, a1]
    rfl
  have bk : back st [.io i, e1, e2, e3] [d'] = st.set i (some (d', true)) := by
    show back (st.set i (some (d', true))) [e1, e2, e3] [] = _
    have b3 : ∀ s : S, back s [e3] [] = s := fun s => by cases e3 <;> first | rfl | (simp [isIo] at i3)
    have b2 : ∀ s : S, back s [e2, e3] [] = s := fun s => by
      have : back s [e2, e3] [] = back s [e3] [] := by cases e2 <;> first | rfl | (simp [isIo] at i2)
      rw [this, b3]
    have : back (st.set i (some (d', true))) [e1, e2, e3] [] = back (st.set i (some (d', true))) [e2, e3] [] := by cases e1 <;> first | rfl | (simp [isIo] at i1)
    rw [this, b2]
  have ios : iosOf [.io i, e1, e2, e3] = [i] := by
    have c3 : iosOf [e3] = [] := by cases e3 <;> first | rfl | (simp [isIo] at i3)
    have c2 : iosOf [e2, e3] = [] := by
      have : iosOf [e2, e3] = iosOf [e3] := by cases e2 <;> first | rfl | (simp [isIo] at i2)
      rw [this, c3]
    have c1 : iosOf [e1, e2, e3] = [] := by
      have : iosOf [e1, e2, e3] = iosOf [e2, e3] := by cases e1 <;> first | rfl | (simp [isIo] at i1)
      rw [this, c2]
    show i :: iosOf [e1, e2, e3] = [i]
    rw [c1]
  have ok : argsOk [.io i, e1, e2, e3] [(.non, true), (x1, true), (x2, true), (x3, true)] = true := by simp [argsOk]
  simp only [ev, hf]
  rw [if_pos ⟨by simp only [List.map_cons, i1, i2, i3]; rfl, by rw [ios]; simp⟩]
  simp only [hz, ok, if_true, fl, hr, bk]
  rfl
/-- a block of draws over what is walked -/
theorem comp_drawI {v kind : Nat} {it e : Ex} {items : List D} {sf : D → O → S} {P : D → Prop} {d1 dv : D} {k1 : Bool} {o0 : O} (h1 : ev L it (sf d1 o0) = .ok dv k1 (sf d1 o0)) (hit : itemsOf kind dv .non = some items) (hc : cfs items = true) (hd : IsSrc d1) (few : items.length < sizeLine) (hk1 : (k1 || disj (vars it) (muts e)) = true)
    (fl : disj [v] (muts e) = true) (ho : ∀ d, (sf d o0).flatAt [v] = true) (hh : ∀ d o, (sf d o).hide [v] = sf d none) (hb : ∀ d (x : D), bindT (.n v) x false (sf d none) = some (sf d (some (x, cf x)))) (hr : ∀ d o d2, (sf d o).restore (sf d2 o0) [v] = sf d o0)
    (he : ∀ (d x : D), IsSrc d → ∃ y d', ev L e (sf d (some (x, cf x))) = .ok y true (sf d' (some (x, cf x))) ∧ IsSrc d' ∧ P y) :
    ∃ ys d', ev L (.comp [v] (.n v) kind it (.con .non) [] e) (sf d1 o0) = .ok (.lst ys) true (sf d' o0) ∧ IsSrc d' ∧ ys.length = items.length ∧ ∀ y ∈ ys, P y := by
  obtain ⟨ys, st3, f, ⟨zs, rfl, hz, hP⟩, d2, o2, hd2, rfl⟩ := ev_comp (L := L) (I := fun i ys s => (∃ zs : List D, ys = zs.map (fun z => (z, true)) ∧ zs.length = i ∧ ∀ z ∈ zs, P z) ∧ ∃ d o, IsSrc d ∧ s = sf d o)
    (own := [v]) (tg := .n v) (kind := kind) (it := it) (it2 := .con .non) (cs := []) (e := e) (st := sf d1 o0) (st1 := sf d1 o0) (st2 := sf d1 o0) (d1 := dv) (k1 := k1) (d2 := .non) (k2 := true) (items := items) h1 rfl hit
    (by simp only [hc, Bool.true_or, Bool.true_and, ho, mutss, List.nil_append, muts, fl, tgs, hk1, Bool.and_true, Bool.true_and]; simp) few ⟨⟨[], rfl, rfl, by simp⟩, d1, o0, hd, rfl⟩ fun i x ys s hx hi => by
      obtain ⟨⟨zs, rfl, hz, hP⟩, d, o, hd, rfl⟩ := hi
      obtain ⟨y, d', q1, q2, q3⟩ := he d x hd
      refine ⟨sf d (some (x, cf x)), true, sf d (some (x, cf x)), by rw [hh]; exact hb d _, by simp [evC], .inr ⟨rfl, y, true, sf d' (some (x, cf x)), q1, rfl, ⟨zs ++ [y], by simp, by simp [hz], fun z m => ?_⟩, d', _, q2, rfl⟩⟩
      rcases List.mem_append.mp m with m | m
      · exact hP z m
      · rw [List.mem_singleton.mp m]; exact q3
  refine ⟨zs, d2, ?_, hd2, hz, hP⟩
  rw [f, hr]
  simp [Function.comp_def]
/-- what may be shown and compared -/
structure Sh (x : D) : Prop where
  nice : nice x = true
  deep : (toP x).depth ≤ 60
  wt : wt x ≤ sizeLine
theorem sh_vT {xs : List Int} (h : Bits xs) (hl : xs.length ≤ 100000) : Sh (vT xs) := by
  obtain ⟨a, b, c⟩ := nice_bits h
  exact ⟨by simpa [vT, nice] using a, by simp [vT, toP, PyData.depth, c], by simp only [vT, wt, sizeLine_eq]; omega⟩
theorem same {A B : Ex} {st : S} {x : D} {kx ky : Bool} (h : Sh x) (hA : ev L A st = .ok x kx st) (hB : ev L B st = .ok x ky st) : evB L (.op2 .ne (.op1 .repr A) (.op1 .repr B)) st = .ok false st := ne_repr hA hB h.nice h.deep h.wt
end VS

-- Main52
namespace VS.K52
open PySem L2 _root_.K52
/-- the text's defs -/
structure Has (T : Tb) : Prop where
  folded : T.fns "folded" = some cfolded
  look : T.fns "looked_up" = some clooked_up
  first : T.fns "_first_table" = some c_first_table
  run : T.fns "run_net" = some crun_net
  levels : T.fns "_levels" = some c_levels
  lin : T.fns "level_in" = some clevel_in
  depth : T.fns "net_depth" = some cnet_depth
  source : T.fns "_law_source" = some c_law_source
  pick : T.fns "_law_pick" = some c_law_pick
  of : T.fns "_law_of" = some cOf
  mixed : T.fns "_law_mixed" = some c_law_mixed
  lfirst : T.fns "_law_net_first" = some c_law_net_first
  lrun : T.fns "_law_net_run" = some c_law_net_run
  llevels : T.fns "_law_net_levels" = some c_law_net_levels
  ldepth : T.fns "_law_net_depth" = some c_law_net_depth
  draw : T.fns "_law_draw_net" = some c_law_draw_net
  law : T.fns "law" = some claw
theorem Has.isPick {T : Tb} (h : Has T) : IsPick T := ⟨⟨c_law_pick.names, rfl, h.pick⟩⟩
theorem Has.isSource {T : Tb} (h : Has T) : IsSource T := ⟨⟨c_law_source.names, rfl, h.source⟩⟩
variable {T : Tb} {L : Lk}
/-! ### nets -/
structure Nt where
  k : Nat
  ins : Nat
  regs : List (Nat × Nat)
  tabs : List (List Nat × Nat)
  outs : List Nat
def nT (xs : List Nat) : D := .tup (xs.map fun n : Nat => .int n)
def tD (t : List Nat × Nat) : D := .tup [nT t.1, .int t.2]
def ntD (G : Nt) : D := .tup [.int G.k, .int G.ins, .tup (G.regs.map pD), .tup (G.tabs.map tD), nT G.outs]
theorem cf_nT {xs : List Nat} : cf (nT xs) = true := by simp [nT, cfs_nats]
theorem cfs_tD (l : List (List Nat × Nat)) : cfs (l.map tD) = true := by
  induction l with
  | nil => rfl
  | cons n ns ih => simp [tD, cf_nT]; simpa using ih
theorem cf_ntD {G : Nt} : cf (ntD G) = true := by simp [ntD, cf_nT, cfs_pD, cfs_tD]
/-- what is there -/
structure Good (G : Nt) : Prop where
  tabs : ∀ (i : Nat) (t : List Nat × Nat), G.tabs[i]? = some t → t.1.length ≤ 6 ∧ ∀ a ∈ t.1, a < 1 + G.ins + G.regs.length + i
  regs : ∀ p ∈ G.regs, p.1 ≤ 1 ∧ p.2 < 1 + G.ins + G.regs.length + G.tabs.length
  outs : ∀ l ∈ G.outs, l < 1 + G.ins + G.regs.length + G.tabs.length
  small : 1 + G.ins + G.regs.length + G.tabs.length ≤ 1000
  few : G.outs.length ≤ 1000
/-! ### truths folded -/
def bt (u p : Nat) : Int := Builtin.bitAnd ((u : Int) / 2 ^ p) 1
theorem bt_mod (u p : Nat) : bt u p = ((u / 2 ^ p % 2 : Nat) : Int) := by
  unfold bt
  rw [PyProof.Rows.bitAnd_m1]
  have e : (u : Int) / 2 ^ p = ((u / 2 ^ p : Nat) : Int) := by rw [Int.natCast_ediv, Int.natCast_pow]; rfl
  rw [e]
  omega
def lev (u m : Nat) : Nat → Nat → D
  | 0, p => .int (bt u p)
  | r + 1, p => .tup [lev u m r p, lev u m r (2 ^ (m - r - 1) + p)]
theorem cf_lev (u m : Nat) : ∀ r p, cf (lev u m r p) = true
  | 0, _ => rfl
  | r + 1, p => by simp [lev, cf_lev u m r]
def lvl (u m r : Nat) : List D := (List.range (2 ^ (m - r))).map (lev u m r)
theorem lvl_len {u m r : Nat} : (lvl u m r).length = 2 ^ (m - r) := by simp [lvl]
theorem lvl_at {u m r p : Nat} (h : p < 2 ^ (m - r)) : (lvl u m r)[p]? = some (lev u m r p) := by simp [lvl, h]
theorem cfs_lvl {u m r : Nat} : cfs (lvl u m r) = true := by
  rw [cfs_every, List.all_eq_true]
  intro x hx
  obtain ⟨p, _, rfl⟩ := List.mem_map.mp hx
  exact cf_lev u m r p
def fo (u m : Nat) (x2 x3 x4 x5 : O) : S := ⟨[some (.int u, true), some (.int m, true), x2, x3, x4, x5], []⟩
theorem shl1 {m : Nat} (h : m ≤ 1000) : op2 .shl (.int 1) (.int m) = some (.int ((2 ^ m : Nat) : Int), true) := by
  simp only [op2]
  rw [if_pos ⟨by omega, by omega, by decide⟩]
  simp
theorem shrN {u p : Nat} : op2 .shr (.int u) (.int p) = some (.int ((u : Int) / 2 ^ p), true) := by
  simp only [op2]
  rw [if_pos (by omega)]
  simp
theorem pow6 {m : Nat} (h : m ≤ 6) : 2 ^ m ≤ 64 := by
  have := Nat.pow_le_pow_right (show 2 > 0 by decide) h
  simpa using this
theorem fo_first {n u m : Nat} (hm : m ≤ 6) : ev L (.comp [5] (.n 5) 0 (.op2 .shl (.con (.int 1)) (.var 1)) (.con .non) [] (.op2 .band (.op2 .shr (.var 0) (.var 5)) (.con (.int 1)))) (fo u m none none none none) = .ok (.lst (lvl u m 0)) true (fo u m none none none none) := by
  have p6 := pow6 hm
  rw [comp_pure (items := (List.range (2 ^ m)).map fun i : Nat => D.int i) (g := fun x => match x with | .int l => .int (bt u l.toNat) | _ => .non) (F := fun x => fo u m none none none (some (x, cf x))) (d1 := .int ((2 ^ m : Nat) : Int)) (k1 := true)
    (by simp [ev, fo, Cn.d, shl1 (show m ≤ 1000 by omega), disj, vars, muts]) (items_range (by omega)) (cfs_nats _) (by simp [cfs_nats, disj, vars, muts, mutss, S.flatAt, tgs, fo]) (by simp [sizeLine_eq]; omega)
    (fun x hx => by simp [bindT, S.hide, fo]) (fun x hx => by simp [S.hide, fo]) (by simp [S.hide, fo]) (fun x hx => by
      obtain ⟨p, _, rfl⟩ := List.mem_map.mp hx
      simp [ev, fo, Cn.d, shrN, disj, vars, muts, bt]) (by simp [S.restore, fo]) (fun x hx => by simp [S.restore, fo])]
  congr 1
  simp [lvl, lev, Function.comp_def]
theorem fo_loop {u m : Nat} (hm : m ≤ 6) : exec L (.forI (.n 3) 0 (.var 1) (.con .non) [3, 4, 5] [.asg (.n 4) (.op2 .fdiv (.op1 .len (.var 2)) (.con (.int 2))), .asg (.n 2) (.comp [5] (.n 5) 0 (.var 4) (.con .non) [] (.tup [.op2 .idx (.var 2) (.var 5), .op2 .idx (.var 2) (.op2 .add (.var 4) (.var 5))]))]) (fo u m (some (.lst (lvl u m 0), true)) none none none) =
    .next (fo u m (some (.lst (lvl u m m), true)) none none none) := by
  have p6 := pow6 hm
  obtain ⟨st', e, rfl⟩ := exec_for (L := L) (I := fun i s => s = fo u m (some (.lst (lvl u m i), true)) none none none) (tg := .n 3) (kind := 0) (it := .var 1) (it2 := .con .non) (clr := [3, 4, 5])
    (b := [.asg (.n 4) (.op2 .fdiv (.op1 .len (.var 2)) (.con (.int 2))), .asg (.n 2) (.comp [5] (.n 5) 0 (.var 4) (.con .non) [] (.tup [.op2 .idx (.var 2) (.var 5), .op2 .idx (.var 2) (.op2 .add (.var 4) (.var 5))]))])
    (st := fo u m (some (.lst (lvl u m 0), true)) none none none) (d1 := .int m) (k1 := true) (st1 := fo u m (some (.lst (lvl u m 0), true)) none none none) (d2 := .non) (k2 := true) (st2 := fo u m (some (.lst (lvl u m 0), true)) none none none) (st3 := fo u m (some (.lst (lvl u m 0), true)) none none none)
    (items := (List.range m).map fun i : Nat => D.int i) (by simp [ev, fo]) rfl (items_range (by omega)) (by simp) (by rw [if_pos (cfs_nats _)]) rfl fun i x s hx hi => by
      subst hi
      have hi : i < m := by have := (List.getElem?_eq_some_iff.mp hx).1; simpa using this
      obtain rfl : D.int i = x := by rw [List.getElem?_map, List.getElem?_range hi] at hx; exact Option.some.inj hx
      have e2 : 2 ^ (m - i) = 2 * 2 ^ (m - i - 1) := by rw [show m - i = (m - i - 1) + 1 by omega, Nat.pow_succ]; simp; omega
      have hh : 2 ^ (m - i - 1) ≤ 64 := Nat.le_trans (Nat.pow_le_pow_right (by decide) (by omega)) p6
      have e1 : exec L (.asg (.n 4) (.op2 .fdiv (.op1 .len (.var 2)) (.con (.int 2)))) (fo u m (some (.lst (lvl u m i), true)) (some (.int i, true)) none none) = .next (fo u m (some (.lst (lvl u m i), true)) (some (.int i, true)) (some (.int ((2 ^ (m - i - 1) : Nat) : Int), true)) none) := by
        have hf : op2 .fdiv (.int ((2 ^ (m - i) : Nat) : Int)) (.int 2) = some (.int ((2 ^ (m - i - 1) : Nat) : Int), true) := by rw [o_fdiv (by decide)]; congr 3; omega
        refine run_asg (d := .int ((2 ^ (m - i - 1) : Nat) : Int)) (k := true) (st1 := fo u m (some (.lst (lvl u m i), true)) (some (.int i, true)) none none) ?_ (by simp [bindT, S.keep, fo])
        generalize hz : lvl u m i = zs
        have hl : zs.length = 2 ^ (m - i) := by rw [← hz]; exact lvl_len
        simp only [ev, fo, get_mk, List.getElem?_cons_zero, List.getElem?_cons_succ, Option.join_some, Cn.d, op1, hl, hf, disj, muts, vars, List.all_nil, Bool.or_true, if_true, Bool.true_or]
      have e3 : ev L (.comp [5] (.n 5) 0 (.var 4) (.con .non) [] (.tup [.op2 .idx (.var 2) (.var 5), .op2 .idx (.var 2) (.op2 .add (.var 4) (.var 5))])) (fo u m (some (.lst (lvl u m i), true)) (some (.int i, true)) (some (.int ((2 ^ (m - i - 1) : Nat) : Int), true)) none) =
          .ok (.lst (lvl u m (i + 1))) true (fo u m (some (.lst (lvl u m i), true)) (some (.int i, true)) (some (.int ((2 ^ (m - i - 1) : Nat) : Int), true)) none) := by
        rw [comp_pure (items := (List.range (2 ^ (m - i - 1))).map fun i : Nat => D.int i) (g := fun x => match x with | .int l => lev u m (i + 1) l.toNat | _ => .non) (F := fun x => fo u m (some (.lst (lvl u m i), true)) (some (.int i, true)) (some (.int ((2 ^ (m - i - 1) : Nat) : Int), true)) (some (x, cf x))) (d1 := .int ((2 ^ (m - i - 1) : Nat) : Int)) (k1 := true)
          (by simp [ev, fo]) (items_range (by omega)) (cfs_nats _) (by simp [cfs_nats, disj, vars, varss, muts, mutss, S.flatAt, tgs, fo]) (by simp [sizeLine_eq]; omega)
          (fun x hx => by simp [bindT, S.hide, fo]) (fun x hx => by simp [S.hide, fo]) (by simp [S.hide, fo]) (fun x hx => by
            obtain ⟨p, mp, rfl⟩ := List.mem_map.mp hx
            have hp : p < 2 ^ (m - i - 1) := by simpa using mp
            have a1 := lvl_at (u := u) (m := m) (r := i) (p := p) (by omega)
            have a2 := lvl_at (u := u) (m := m) (r := i) (p := 2 ^ (m - i - 1) + p) (by omega)
            have c1 := cf_lev u m i p
            have c2 := cf_lev u m i (2 ^ (m - i - 1) + p)
            have i1 : ixN (lvl u m i).length ((p : Nat) : Int) = some p := ix_nat (by rw [lvl_len]; omega)
            have i2 : ixN (lvl u m i).length (((2 ^ (m - i - 1) : Nat) : Int) + ((p : Nat) : Int)) = some (2 ^ (m - i - 1) + p) := by
              rw [← Int.natCast_add]; exact ix_nat (by rw [lvl_len]; omega)
            have el : lev u m (i + 1) p = .tup [lev u m i p, lev u m i (2 ^ (m - i - 1) + p)] := rfl
            show _ = Rv.ok (lev u m (i + 1) (((p : Nat) : Int)).toNat) true _
            rw [Int.toNat_natCast, el]
            generalize lvl u m i = zs at *
            generalize lev u m i p = A at *
            generalize lev u m i (2 ^ (m - i - 1) + p) = B at *
            generalize 2 ^ (m - i - 1) = h at *
            simp only [ev, evs, fo, get_mk, List.getElem?_cons_zero, List.getElem?_cons_succ, Option.join_some, o_ixL, o_add, i1, i2, a1, a2, Option.bind_some, Option.map_some, c1, c2, c_lst, c_int, disj, muts, vars, varss, mutss, List.all_nil, List.all_cons, List.contains_nil, Bool.not_false, Bool.and_true, Bool.or_true, Bool.true_or, Bool.false_or, if_true, List.append_nil, List.length_cons, List.length_nil, List.map_cons, List.map_nil, sizeLine_eq]
            simp) (by simp [S.restore, fo]) (fun x hx => by simp [S.restore, fo])]
        congr 1
        rw [List.map_map]
        simp only [Function.comp_def, lvl]
        rw [show m - (i + 1) = m - i - 1 by omega]
        simp
      refine ⟨fo u m (some (.lst (lvl u m i), true)) (some (.int i, true)) none none, _, by simp [bindT, fo], .inl (run_cons e1 (run_cons (run_asg (t := .n 2) e3 (st2 := fo u m (some (.lst (lvl u m (i + 1)), true)) (some (.int i, true)) (some (.int ((2 ^ (m - i - 1) : Nat) : Int), true)) none) (by simp [bindT, S.keep, fo])) rfl)), by simp [S.hide, fo]⟩
  rw [e]
  simp
theorem folded_ok (h0 : Has T) {n u m : Nat} (hm : m ≤ 6) : callF T (n + 1) "folded" [.int u, .int m] [] = .ok (lev u m m 0) true [] [] := by
  have e1 := run_asg (t := .n 2) (fo_first (L := lkOf T n) (n := n) (u := u) hm) (st2 := fo u m (some (.lst (lvl u m 0), true)) none none none) (by simp [bindT, S.keep, fo])
  have e3 : ev (lkOf T n) (.op2 .idx (.var 2) (.con (.int 0))) (fo u m (some (.lst (lvl u m m), true)) none none none) = .ok (lev u m m 0) true (fo u m (some (.lst (lvl u m m), true)) none none none) := by
    have a1 := lvl_at (u := u) (m := m) (r := m) (p := 0) (by simp)
    have i1 : ixN (lvl u m m).length 0 = some 0 := ix_nat (k := 0) (by rw [lvl_len]; simp)
    have := idx_lst (L := lkOf T n) (A := .var 2) (B := .con (.int 0)) (st := fo u m (some (.lst (lvl u m m), true)) none none none) (kA := false) rfl rfl rfl i1 a1
    rwa [cf_lev] at this
  have r := run_cons e1 (run_cons (fo_loop (L := lkOf T n) (u := u) hm) (run_ret (r := []) e3))
  exact call_ret h0.folded rfl (show startS cfolded [.int u, .int m] [] = _ from rfl) r (outs_none rfl)
end VS.K52

-- Run52
namespace VS.K52
open PySem L2 _root_.K52
variable {T : Tb} {L : Lk}
/-! ### the value of a table -/
def at0 (vs : List Int) (a : Nat) : Int := vs.getD a 0
def ix (vs : List Int) : List Nat → Nat
  | [] => 0
  | a :: r => (at0 vs a).toNat + 2 * ix vs r
theorem ix_snoc (vs : List Int) : ∀ (l : List Nat) (a : Nat), ix vs (l ++ [a]) = ix vs l + 2 ^ l.length * (at0 vs a).toNat
  | [], a => by simp [ix]
  | b :: l, a => by
    simp only [List.cons_append, ix, ix_snoc vs l a, List.length_cons, Nat.pow_succ, Nat.mul_add]
    rw [show 2 ^ l.length * 2 * (at0 vs a).toNat = 2 * (2 ^ l.length * (at0 vs a).toNat) by rw [Nat.mul_comm (2 ^ l.length) 2, Nat.mul_assoc]]
    omega
theorem bits_at {vs : List Int} (h : Bits vs) (a : Nat) : at0 vs a = 0 ∨ at0 vs a = 1 := by
  unfold at0
  by_cases hl : a < vs.length
  · have : vs.getD a 0 = vs[a] := by simp [hl]
    rw [this]
    exact h _ (List.getElem_mem hl)
  · have : vs.getD a 0 = 0 := by simp [List.getElem?_eq_none (Nat.le_of_not_lt hl)]
    exact .inl this
theorem ix_lt {vs : List Int} (h : Bits vs) : ∀ l : List Nat, ix vs l < 2 ^ l.length
  | [] => by simp [ix]
  | a :: r => by
    have := ix_lt h r
    have := bits_at h a
    simp only [ix, List.length_cons, Nat.pow_succ]
    omega
def tv (vs : List Int) (t : List Nat × Nat) : Int := bt t.2 (ix vs t.1)
theorem tv_bit (vs : List Int) (t : List Nat × Nat) : tv vs t = 0 ∨ tv vs t = 1 := by
  unfold tv
  rw [bt_mod]
  omega
theorem get_at {vs : List Int} {a : Nat} (h : a < vs.length) : (vs.map D.int)[a]? = some (.int (at0 vs a)) := get_int h
theorem ix_len {vs : List Int} {a : Nat} (h : a < vs.length) : ixN (vs.map D.int).length ((a : Nat) : Int) = some a := ix_nat (by simpa using h)
def lk0 (x0 : D) (vs : List Int) (ns : List Nat) (x3 : O) : S := ⟨[some (x0, true), some (vL vs, false), some (nT ns, true), x3], []⟩
theorem lev_at (u m i p : Nat) {v : Int} (hv : v = 0 ∨ v = 1) (hi : i < m) : ∃ xs, lev u m (m - i) p = .tup xs ∧ xs.length = 2 ∧ xs[v.toNat]? = some (lev u m (m - (i + 1)) (p + 2 ^ i * v.toNat)) := by
  obtain ⟨r, hr⟩ : ∃ r, m - i = r + 1 := ⟨m - i - 1, by omega⟩
  refine ⟨_, by rw [hr]; rfl, rfl, ?_⟩
  have e1 : m - (i + 1) = r := by omega
  have e2 : m - r - 1 = i := by omega
  rw [e1, e2]
  rcases hv with rfl | rfl
  · simp
  · simp [Nat.add_comm]
theorem look_loop {u : Nat} {vs : List Int} {ns : List Nat} (hb : Bits vs) (hn : ∀ a ∈ ns, a < vs.length) :
    exec L (.forI (.n 3) 1 (.var 2) (.con .non) [3] [.asg (.n 0) (.op2 .idx (.var 0) (.op2 .idx (.var 1) (.var 3)))]) (lk0 (lev u ns.length ns.length 0) vs ns none) = .next (lk0 (lev u ns.length 0 (ix vs ns)) vs ns none) := by
  obtain ⟨st', e, rfl⟩ := exec_for (L := L) (I := fun i s => s = lk0 (lev u ns.length (ns.length - i) (ix vs (ns.take i))) vs ns none) (tg := .n 3) (kind := 1) (it := .var 2) (it2 := .con .non) (clr := [3]) (b := [.asg (.n 0) (.op2 .idx (.var 0) (.op2 .idx (.var 1) (.var 3)))])
    (st := lk0 (lev u ns.length ns.length 0) vs ns none) (d1 := nT ns) (k1 := true) (st1 := lk0 (lev u ns.length ns.length 0) vs ns none) (d2 := .non) (k2 := true) (st2 := lk0 (lev u ns.length ns.length 0) vs ns none) (st3 := lk0 (lev u ns.length ns.length 0) vs ns none)
    (items := ns.map fun n : Nat => D.int n) (by simp [ev, lk0, cf_nT]) rfl rfl (by simp [disj, vars, muts, mutsS, mutsM]) (by rw [if_pos (cfs_nats _)]) (by simp [ix]) fun i x s hx hi => by
      subst hi
      rw [List.getElem?_map] at hx
      obtain ⟨a, ha, rfl⟩ := Option.map_eq_some_iff.mp hx
      have hi : i < ns.length := (List.getElem?_eq_some_iff.mp ha).1
      have al := hn a (List.mem_of_getElem? ha)
      have tk : ns.take (i + 1) = ns.take i ++ [a] := by rw [List.take_succ, ha]; rfl
      rw [tk, ix_snoc, List.length_take, Nat.min_eq_left (Nat.le_of_lt hi)]
      have bv := bits_at hb a
      obtain ⟨xs, e1, e2, e3⟩ := lev_at u ns.length i (ix vs (ns.take i)) bv hi
      have g := get_at al
      have il := ix_len al
      have cl := cf_lev u ns.length (ns.length - (i + 1)) (ix vs (ns.take i) + 2 ^ i * (at0 vs a).toNat)
      rw [e1]
      have it : ixN xs.length (at0 vs a) = some (at0 vs a).toNat := by
        have : at0 vs a = (((at0 vs a).toNat : Nat) : Int) := by omega
        rw [this, Int.toNat_natCast]
        exact ix_nat (by rw [e2]; omega)
      generalize lev u ns.length (ns.length - (i + 1)) (ix vs (ns.take i) + 2 ^ i * (at0 vs a).toNat) = Z at *
      generalize hz : vs.map D.int = zs at g il
      refine ⟨lk0 (.tup xs) vs ns (some (.int a, true)), lk0 Z vs ns (some (.int a, true)), by simp [bindT, lk0], .inl ?_, by simp [S.hide, lk0]⟩
      refine run_cons (st1 := lk0 Z vs ns (some (.int a, true))) (run_asg (d := Z) (k := true) (st1 := lk0 (.tup xs) vs ns (some (.int a, true))) ?_ (by simp [bindT, S.keep, lk0])) rfl
      simp only [ev, lk0, vL, hz, get_mk, List.getElem?_cons_zero, List.getElem?_cons_succ, Option.join_some, o_ixL, o_ixT, g, il, it, e3, Option.bind_some, Option.map_some, cl, c_int, c_lst, disj, muts, vars, List.all_nil, Bool.or_true, if_true, Bool.true_or, List.all_cons, List.contains_nil, Bool.not_false, Bool.and_true, List.append_nil]
  rw [e, List.length_map, Nat.sub_self, List.take_length]
theorem look_ok (h0 : Has T) {n u : Nat} {vs : List Int} {ns : List Nat} (hb : Bits vs) (hn : ∀ a ∈ ns, a < vs.length) : callF T (n + 1) "looked_up" [lev u ns.length ns.length 0, vL vs, nT ns] [] = .ok (.int (tv vs (ns, u))) true [] [] := by
  have r := run_cons (look_loop (L := lkOf T n) (u := u) hb hn) (run_ret (r := []) (e := .mv 0) (d := .int (tv vs (ns, u))) (k := true) (st1 := ⟨[none, some (vL vs, false), some (nT ns, true), none], []⟩) (by simp [ev, lk0, lev, tv]))
  exact call_ret h0.look rfl (show startS clooked_up [lev u ns.length ns.length 0, vL vs, nT ns] [] = _ by simp [startS, clooked_up, lk0, cf_nT, cf_lev, vL]) r (outs_none rfl)
/-! ### all values -/
def vals (vs : List Int) (ts : List (List Nat × Nat)) : List Int := ts.foldl (fun vs t => vs ++ [tv vs t]) vs
theorem vals_len (ts : List (List Nat × Nat)) : ∀ vs : List Int, (vals vs ts).length = vs.length + ts.length := by
  induction ts with
  | nil => intro vs; simp [vals]
  | cons p r ih =>
    intro vs
    show (vals (vs ++ [_]) r).length = _
    rw [ih]
    simp
    omega
theorem vals_take {vs : List Int} {ts : List (List Nat × Nat)} {i : Nat} {t : List Nat × Nat} (h : ts[i]? = some t) : vals vs (ts.take (i + 1)) = vals vs (ts.take i) ++ [tv (vals vs (ts.take i)) t] := by
  rw [List.take_succ, h]
  simp [vals]
theorem vals_bits : ∀ (ts : List (List Nat × Nat)) {vs : List Int}, Bits vs → Bits (vals vs ts)
  | [], _, h => h
  | p :: r, vs, h => vals_bits r (vs := vs ++ [tv vs p]) fun x m => by
    rcases List.mem_append.mp m with m | m
    · exact h x m
    · rw [List.mem_singleton.mp m]
      exact tv_bit vs p
/-- a lot's first values -/
def all0 (lt st : List Int) : List Int := 0 :: (lt ++ st)
theorem all0_bits {st lt : List Int} (h1 : Bits st) (h2 : Bits lt) : Bits (all0 lt st) := fun x m => by
  simp only [all0, List.mem_cons, List.mem_append] at m
  rcases m with rfl | m | m
  · exact .inl rfl
  · exact h2 x m
  · exact h1 x m
def outsV (G : Nt) (vs : List Int) : List Int := G.outs.map (at0 vs)
def regsV (G : Nt) (vs : List Int) : List Int := G.regs.map fun p => at0 vs p.2
def st0 (G : Nt) : List Int := G.regs.map fun p => (p.1 : Int)
def vsL (G : Nt) (lt st : List Int) : List Int := vals (all0 lt st) G.tabs
def stA (G : Nt) (lots : List (List Int)) (i : Nat) : List Int := (lots.take i).foldl (fun s l => regsV G (vsL G l s)) (st0 G)
theorem stA_succ {G : Nt} {lots : List (List Int)} {i : Nat} {lt : List Int} (h : lots[i]? = some lt) : stA G lots (i + 1) = regsV G (vsL G lt (stA G lots i)) := by
  unfold stA
  rw [List.take_succ, h]
  simp
theorem regsV_len {G : Nt} {vs : List Int} : (regsV G vs).length = G.regs.length := by simp [regsV]
theorem stA_len {G : Nt} {lots : List (List Int)} : ∀ {i : Nat}, i ≤ lots.length → (stA G lots i).length = G.regs.length
  | 0, _ => by simp [stA, st0]
  | i + 1, h => by
    have : lots[i]? = some lots[i] := by simp [show i < lots.length by omega]
    rw [stA_succ this, regsV_len]
def fd (G : Nt) (lots : List (List Int)) (i : Nat) : List (List Int) := (List.range i).map fun j => outsV G (vsL G (lots.getD j []) (stA G lots j))
theorem fd_succ {G : Nt} {lots : List (List Int)} {i : Nat} {lt : List Int} (h : lots[i]? = some lt) : fd G lots (i + 1) = fd G lots i ++ [outsV G (vsL G lt (stA G lots i))] := by
  simp [fd, List.range_succ, List.getD, h]
theorem outs_bits {G : Nt} {vs : List Int} (h : Bits vs) : Bits (outsV G vs) := fun x m => by
  obtain ⟨l, _, rfl⟩ := List.mem_map.mp m
  exact bits_at h l
theorem regs_bits {G : Nt} {vs : List Int} (h : Bits vs) : Bits (regsV G vs) := fun x m => by
  obtain ⟨l, _, rfl⟩ := List.mem_map.mp m
  exact bits_at h l.2
theorem st0_bits {G : Nt} (hG : Good G) : Bits (st0 G) := fun x m => by
  obtain ⟨p, mp, rfl⟩ := List.mem_map.mp m
  have := (hG.regs p mp).1
  omega
theorem stA_bits {G : Nt} (hG : Good G) {lots : List (List Int)} (hl : ∀ lt ∈ lots, Bits lt) (i : Nat) : Bits (stA G lots i) := by
  unfold stA
  have : ∀ (ls : List (List Int)) (s : List Int), Bits s → (∀ lt ∈ ls, Bits lt) → Bits (ls.foldl (fun s l => regsV G (vsL G l s)) s) := by
    intro ls
    induction ls with
    | nil => intro s h _; exact h
    | cons l r ih => intro s h h2; exact ih _ (regs_bits (vals_bits _ (all0_bits h (h2 l (by simp))))) fun lt m => h2 lt (by simp [m])
  exact this _ _ (st0_bits hG) fun lt m => hl lt (List.mem_of_mem_take m)
end VS.K52

-- Runs52
namespace VS.K52
open PySem L2 _root_.K52
variable {T : Tb} {L : Lk}
def loD (c : Bool) (lots : List (List Int)) : D := rowD c (lots.map vT)
theorem cf_loD {c : Bool} {lots : List (List Int)} : cf (loD c lots) = c := by
  cases c
  · rfl
  · simp [loD, rowD, cfs_vT]
structure Few (G : Nt) (lots : List (List Int)) : Prop where
  many : lots.length ≤ 100000
  each : ∀ lt ∈ lots, lt.length = G.ins ∧ Bits lt
def trD (t : List Nat × Nat) : D := .tup [nT t.1, lev t.2 t.1.length t.1.length 0]
theorem cfs_trD (l : List (List Nat × Nat)) : cfs (l.map trD) = true := by
  induction l with
  | nil => rfl
  | cons n ns ih => simp [trD, cf_nT, cf_lev]; simpa using ih
def oLs (xs : List (List Int)) : O := some (.lst (xs.map vT), true)
def oV (vs : List Int) : O := some (vL vs, true)
def oT (xs : List Int) : O := some (vT xs, true)
def rn (G : Nt) (c : Bool) (lots : List (List Int)) (tr st fo lot x6 vl nd te x13 x14 x15 : O) : S :=
  ⟨[none, some (loD c lots, c), tr, st, fo, lot, x6, some (.tup (G.regs.map pD), true), some (.tup (G.tabs.map tD), true), some (nT G.outs, true), vl, nd, te, x13, x14, x15], []⟩
section
variable {n : Nat} {G : Nt} {c : Bool} {lots : List (List Int)} {tr st fo lot x6 vl nd te x13 x14 x15 : O} {vs : List Int}
theorem trees_ok (h0 : Has T) (hG : Good G) : ev (lkOf T (n + 1)) (.comp [11, 13] (.t [.n 11, .n 13]) 1 (.var 8) (.con .non) [] (.tup [.var 11, .call "folded" [.var 13, .op1 .len (.var 11)]])) (rn G c lots tr st fo lot x6 vl none te none x14 x15) = .ok (.lst (G.tabs.map trD)) true (rn G c lots tr st fo lot x6 vl none te none x14 x15) := by
  have sm := hG.small
  rw [comp_pure (items := G.tabs.map tD) (g := fun x => match x with | .tup [.tup xs, .int u] => .tup [.tup xs, lev u.toNat xs.length xs.length 0] | _ => .non) (F := fun x => match x with | .tup [a, b] => rn G c lots tr st fo lot x6 vl (some (a, true)) te (some (b, true)) x14 x15 | _ => ⟨[], []⟩) (d1 := .tup (G.tabs.map tD)) (k1 := true)
    (by simp [ev, rn, cfs_tD]) rfl (cfs_tD _) (by simp [cfs_tD, disj, vars, varss, muts, mutss, S.flatAt, tgs, tgss, rn]) (by simp [sizeLine_eq]; omega)
    (fun x hx => by obtain ⟨p, _, rfl⟩ := List.mem_map.mp hx; simp [bindT, bindTs, S.hide, rn, tD, cf_nT]) (fun x hx => by obtain ⟨p, _, rfl⟩ := List.mem_map.mp hx; simp [S.hide, rn, tD]) (by simp [S.hide, rn]) (fun x hx => by
      obtain ⟨p, mp, rfl⟩ := List.mem_map.mp hx
      obtain ⟨i, hi⟩ := List.mem_iff_getElem?.mp mp
      have l6 := (hG.tabs i p hi).1
      have cl := ev_callP (L := lkOf T (n + 1)) (f := "folded") (es := [.var 13, .op1 .len (.var 11)]) (st := rn G c lots tr st fo lot x6 vl (some (nT p.1, true)) te (some (.int p.2, true)) x14 x15) (ds := [(.int p.2, true), (.int p.1.length, true)]) (outs := []) (lk_io h0.folded) rfl rfl rfl (by simp [evs, ev, rn, disj, vars, muts, mutss, nT]) (folded_ok h0 (n := n) (u := p.2) l6)
      generalize Ex.call "folded" [.var 13, .op1 .len (.var 11)] = z at cl
      have cn := cf_nT (xs := p.1)
      have cv := cf_lev p.2 p.1.length p.1.length 0
      simp [rn] at cl
      simp [ev, evs, rn, tD, cl, sizeLine_eq, cn, cv]
      simp [nT]) (by simp [S.restore, rn]) (fun x hx => by obtain ⟨p, _, rfl⟩ := List.mem_map.mp hx; simp [S.restore, rn, tD])]
  congr 1
  rw [List.map_map]
  congr 1
  apply List.map_congr_left
  intro t _
  simp [tD, trD, nT]
theorem start_ok (hG : Good G) : ev L (.comp [14, 6] (.t [.n 14, .n 6]) 1 (.var 7) (.con .non) [] (.var 14)) (rn G c lots tr st fo lot (some (.int G.ins, true)) vl nd te x13 none x15) = .ok (vL (st0 G)) true (rn G c lots tr st fo lot (some (.int G.ins, true)) vl nd te x13 none x15) := by
  have sm := hG.small
  rw [comp_pure (items := G.regs.map pD) (g := fun x => match x with | .tup (a :: _) => a | _ => .non) (F := fun x => match x with | .tup [a, b] => rn G c lots tr st fo lot (some (b, true)) vl nd te x13 (some (a, true)) x15 | _ => ⟨[], []⟩) (d1 := .tup (G.regs.map pD)) (k1 := true)
    (by simp [ev, rn, cfs_pD]) rfl (cfs_pD _) (by simp [cfs_pD, disj, vars, varss, muts, mutss, S.flatAt, tgs, tgss, rn]) (by simp [sizeLine_eq]; omega)
    (fun x hx => by obtain ⟨p, _, rfl⟩ := List.mem_map.mp hx; simp [bindT, bindTs, S.hide, rn, pD]) (fun x hx => by obtain ⟨p, _, rfl⟩ := List.mem_map.mp hx; simp [S.hide, rn, pD]) (by simp [S.hide, rn]) (fun x hx => by obtain ⟨p, _, rfl⟩ := List.mem_map.mp hx; simp [ev, rn, pD]) (by simp [S.restore, rn]) (fun x hx => by obtain ⟨p, _, rfl⟩ := List.mem_map.mp hx; simp [S.restore, rn, pD])]
  simp [vL, st0, pD, Function.comp_def]
def b2 : Sm := .forI (.t [.n 11, .n 12]) 1 (.var 2) (.con .non) [11, 12] [.app 10 [] (.call "looked_up" [.var 12, .var 10, .var 11])]
theorem b2_ok (h0 : Has T) (hG : Good G) {us : List Int} (hb : Bits us) (hl : us.length = 1 + G.ins + G.regs.length) : exec (lkOf T (n + 1)) b2 (rn G c lots (some (.lst (G.tabs.map trD), true)) st fo lot x6 (oV us) none none x13 x14 x15) = .next (rn G c lots (some (.lst (G.tabs.map trD), true)) st fo lot x6 (oV (vals us G.tabs)) none none x13 x14 x15) := by
  have sm := hG.small
  obtain ⟨st', e, rfl⟩ := exec_for (L := lkOf T (n + 1)) (I := fun i s => s = rn G c lots (some (.lst (G.tabs.map trD), true)) st fo lot x6 (oV (vals us (G.tabs.take i))) none none x13 x14 x15) (tg := .t [.n 11, .n 12]) (kind := 1) (it := .var 2) (it2 := .con .non) (clr := [11, 12]) (b := [.app 10 [] (.call "looked_up" [.var 12, .var 10, .var 11])])
    (st := rn G c lots (some (.lst (G.tabs.map trD), true)) st fo lot x6 (oV us) none none x13 x14 x15) (d1 := .lst (G.tabs.map trD)) (k1 := false) (st1 := rn G c lots (some (.lst (G.tabs.map trD), true)) st fo lot x6 (oV us) none none x13 x14 x15) (d2 := .non) (k2 := true)
    (st2 := rn G c lots (some (.lst (G.tabs.map trD), true)) st fo lot x6 (oV us) none none x13 x14 x15) (st3 := rn G c lots (some (.lst (G.tabs.map trD), true)) st fo lot x6 (oV us) none none x13 x14 x15)
    (items := G.tabs.map trD) (by simp [ev, rn]) rfl rfl (by simp [disj, vars, varss, muts, mutss, mutsS, mutsM]) (by rw [if_pos (cfs_trD _)]) (by simp [vals]) fun i x s hx hi => by
      subst hi
      rw [List.getElem?_map] at hx
      obtain ⟨t, ht, rfl⟩ := Option.map_eq_some_iff.mp hx
      have hi : i < G.tabs.length := (List.getElem?_eq_some_iff.mp ht).1
      obtain ⟨l6, ha⟩ := hG.tabs i t ht
      have len : (vals us (G.tabs.take i)).length = 1 + G.ins + G.regs.length + i := by rw [vals_len, hl, List.length_take]; omega
      have bs := vals_bits (G.tabs.take i) hb
      rw [vals_take ht]
      generalize vals us (G.tabs.take i) = ws at *
      have cl := ev_callP (L := lkOf T (n + 1)) (f := "looked_up") (es := [.var 12, .var 10, .var 11]) (st := rn G c lots (some (.lst (G.tabs.map trD), true)) st fo lot x6 (oV ws) (some (nT t.1, true)) (some (lev t.2 t.1.length t.1.length 0, true)) x13 x14 x15) (ds := [(lev t.2 t.1.length t.1.length 0, true), (vL ws, false), (nT t.1, true)]) (outs := []) (lk_io h0.look) rfl rfl rfl
        (by simp [evs, ev, rn, oV, vL, disj, vars, muts, mutss, cf_nT, cf_lev]) (look_ok h0 (n := n) (u := t.2) bs fun a ma => by have := ha a ma; omega)
      have ap := app_ok (i := 10) (xs := ws.map .int) rfl rfl cl (by simp [sizeLine_eq]; omega)
      refine ⟨rn G c lots (some (.lst (G.tabs.map trD), true)) st fo lot x6 (oV ws) (some (nT t.1, true)) (some (lev t.2 t.1.length t.1.length 0, true)) x13 x14 x15, _, by simp [bindT, bindTs, rn, trD, cf_nT, cf_lev], .inl (run_cons ap rfl), by simp [S.hide, rn, oV, vL]⟩
  rw [b2, e, List.length_map, List.take_length]
theorem idx_at {a : Nat} (ha : a < vs.length) {x5 : O} : ev L (.op2 .idx (.var 10) (.var 15)) (rn G c lots tr st fo x5 x6 (oV vs) nd te x13 x14 (some (.int a, true))) = .ok (.int (at0 vs a)) true (rn G c lots tr st fo x5 x6 (oV vs) nd te x13 x14 (some (.int a, true))) := by
  have := idx_lst (L := L) (A := .var 10) (B := .var 15) (st := rn G c lots tr st fo x5 x6 (oV vs) nd te x13 x14 (some (.int a, true))) (kA := false) (zs := vs.map .int) (j := a) rfl rfl rfl (ix_len ha) (get_at ha)
  exact this
theorem outE_ok (hG : Good G) (len : vs.length = 1 + G.ins + G.regs.length + G.tabs.length) : ev L (.op1 .tupleOf (.comp [15] (.n 15) 1 (.var 9) (.con .non) [] (.op2 .idx (.var 10) (.var 15)))) (rn G c lots tr st fo lot x6 (oV vs) nd te x13 x14 none) = .ok (vT (outsV G vs)) true (rn G c lots tr st fo lot x6 (oV vs) nd te x13 x14 none) := by
  have fw := hG.few
  have e : ev L (.comp [15] (.n 15) 1 (.var 9) (.con .non) [] (.op2 .idx (.var 10) (.var 15))) (rn G c lots tr st fo lot x6 (oV vs) nd te x13 x14 none) = .ok (.lst ((outsV G vs).map .int)) true (rn G c lots tr st fo lot x6 (oV vs) nd te x13 x14 none) := by
    rw [comp_pure (L := L) (own := [15]) (tg := .n 15) (kind := 1) (it := .var 9) (e := .op2 .idx (.var 10) (.var 15)) (st := rn G c lots tr st fo lot x6 (oV vs) nd te x13 x14 none) (items := G.outs.map fun n : Nat => D.int n) (g := fun x => match x with | .int l => .int (at0 vs l.toNat) | _ => .non) (F := fun x => rn G c lots tr st fo lot x6 (oV vs) nd te x13 x14 (some (x, cf x))) (d1 := nT G.outs) (k1 := true)
    (by simp [ev, rn, cf_nT]) rfl (cfs_nats _) (by simp [cfs_nats, disj, vars, varss, muts, mutss, S.flatAt, tgs, rn]) (by simp [sizeLine_eq]; omega)
    (fun x hx => by simp [bindT, S.hide, rn]) (fun x hx => by simp [S.hide, rn]) (by simp [S.hide, rn]) (fun x hx => by obtain ⟨p, mp, rfl⟩ := List.mem_map.mp hx; exact idx_at (by have := hG.outs p mp; omega)) (by simp [S.restore, rn]) (fun x hx => by simp [S.restore, rn])]
    simp [outsV, Function.comp_def]
  have t := tup_of e
  rw [cfs_int] at t
  exact t
theorem regE_ok (hG : Good G) (hx : x6 = none ∨ x6 = some (.int G.ins, true)) (len : vs.length = 1 + G.ins + G.regs.length + G.tabs.length) : ev L (.comp [6, 15] (.t [.n 6, .n 15]) 1 (.var 7) (.con .non) [] (.op2 .idx (.var 10) (.var 15))) (rn G c lots tr st fo lot x6 (oV vs) nd te x13 x14 none) = .ok (vL (regsV G vs)) true (rn G c lots tr st fo lot x6 (oV vs) nd te x13 x14 none) := by
  have sm := hG.small
  have e := comp_pure (L := L) (own := [6, 15]) (tg := .t [.n 6, .n 15]) (kind := 1) (it := .var 7) (e := .op2 .idx (.var 10) (.var 15)) (st := rn G c lots tr st fo lot x6 (oV vs) nd te x13 x14 none) (items := G.regs.map pD) (g := fun x => match x with | .tup [_, .int l] => .int (at0 vs l.toNat) | _ => .non) (F := fun x => match x with | .tup [a, b] => rn G c lots tr st fo lot (some (a, true)) (oV vs) nd te x13 x14 (some (b, true)) | _ => ⟨[], []⟩) (d1 := .tup (G.regs.map pD)) (k1 := true)
    (by simp [ev, rn, cfs_pD]) rfl (cfs_pD _) (by rcases hx with rfl | rfl <;> simp [cfs_pD, disj, vars, varss, muts, mutss, S.flatAt, tgs, tgss, rn]) (by simp [sizeLine_eq]; omega)
    (fun x hx => by obtain ⟨p, _, rfl⟩ := List.mem_map.mp hx; simp [bindT, bindTs, S.hide, rn, pD]) (fun x hx => by obtain ⟨p, _, rfl⟩ := List.mem_map.mp hx; simp [S.hide, rn, pD]) (by simp [S.hide, rn]) (fun x hx => by obtain ⟨p, mp, rfl⟩ := List.mem_map.mp hx; exact idx_at (by have := (hG.regs p mp).2; omega)) (by simp [S.restore, rn]) (fun x hx => by obtain ⟨p, _, rfl⟩ := List.mem_map.mp hx; simp [S.restore, rn, pD])
  rw [e]
  simp [vL, regsV, pD, Function.comp_def]
end
def runB : List Sm := [.asg (.n 10) (.lstS [false, true, true] [.con (.int 0), .var 5, .var 3]), b2, .app 4 [] (.op1 .tupleOf (.comp [15] (.n 15) 1 (.var 9) (.con .non) [] (.op2 .idx (.var 10) (.var 15)))), .asg (.n 3) (.comp [6, 15] (.t [.n 6, .n 15]) 1 (.var 7) (.con .non) [] (.op2 .idx (.var 10) (.var 15)))]
theorem run_loop (h0 : Has T) {n : Nat} {G : Nt} {c : Bool} {lots : List (List Int)} (hG : Good G) (hF : Few G lots) :
    ∃ x6, exec (lkOf T (n + 1)) (.forI (.n 5) 1 (.var 1) (.con .non) [5, 6, 10, 11, 12, 15] runB) (rn G c lots (some (.lst (G.tabs.map trD), true)) (oV (st0 G)) (oLs []) none (some (.int G.ins, true)) none none none none none none) =
      .next (rn G c lots (some (.lst (G.tabs.map trD), true)) (oV (stA G lots lots.length)) (oLs (fd G lots lots.length)) none x6 none none none none none none) := by
  have sm := hG.small
  have hm := hF.many
  obtain ⟨st', e, x6, _, rfl⟩ := exec_for (L := lkOf T (n + 1)) (I := fun i s => ∃ x6 : O, (x6 = none ∨ x6 = some (.int G.ins, true)) ∧ s = rn G c lots (some (.lst (G.tabs.map trD), true)) (oV (stA G lots i)) (oLs (fd G lots i)) none x6 none none none none none none) (tg := .n 5) (kind := 1) (it := .var 1) (it2 := .con .non) (clr := [5, 6, 10, 11, 12, 15]) (b := runB)
    (st := rn G c lots (some (.lst (G.tabs.map trD), true)) (oV (st0 G)) (oLs []) none (some (.int G.ins, true)) none none none none none none) (d1 := loD c lots) (k1 := c) (st1 := rn G c lots (some (.lst (G.tabs.map trD), true)) (oV (st0 G)) (oLs []) none (some (.int G.ins, true)) none none none none none none) (d2 := .non) (k2 := true)
    (st2 := rn G c lots (some (.lst (G.tabs.map trD), true)) (oV (st0 G)) (oLs []) none (some (.int G.ins, true)) none none none none none none) (st3 := rn G c lots (some (.lst (G.tabs.map trD), true)) (oV (st0 G)) (oLs []) none (some (.int G.ins, true)) none none none none none none)
    (items := lots.map vT) (by simp [ev, rn, cf_loD]) rfl (by cases c <;> rfl) (by simp [disj, vars, varss, muts, mutss, mutsS, mutsM, runB, b2]) (by rw [if_pos (cfs_vT _)]) ⟨_, .inr rfl, by simp [fd, stA]⟩ fun i x s hx hi => by
      obtain ⟨x6, hx6, rfl⟩ := hi
      rw [List.getElem?_map] at hx
      obtain ⟨lt, hlt, rfl⟩ := Option.map_eq_some_iff.mp hx
      have hi : i < lots.length := (List.getElem?_eq_some_iff.mp hlt).1
      obtain ⟨e1, e2⟩ := hF.each lt (List.mem_of_getElem? hlt)
      rw [fd_succ hlt, stA_succ hlt]
      have fl : (fd G lots i).length = i := by simp [fd]
      have sl := stA_len (G := G) (lots := lots) (i := i) (by omega)
      have sb := stA_bits hG (fun l m => (hF.each l m).2) i
      generalize fd G lots i = fs at *
      generalize stA G lots i = s0 at *
      have b0 := all0_bits sb e2
      have l0 : (all0 lt s0).length = 1 + G.ins + G.regs.length := by simp [all0]; omega
      have s1 : exec (lkOf T (n + 1)) (.asg (.n 10) (.lstS [false, true, true] [.con (.int 0), .var 5, .var 3])) (rn G c lots (some (.lst (G.tabs.map trD), true)) (oV s0) (oLs fs) (oT lt) x6 none none none none none none) = .next (rn G c lots (some (.lst (G.tabs.map trD), true)) (oV s0) (oLs fs) (oT lt) x6 (oV (all0 lt s0)) none none none none none) := by
        have hz : lt.length + s0.length + 1 ≤ 16777216 := by simp [all0] at l0; omega
        simp [exec, ev, evs, bindT, S.keep, vars, varss, rn, Cn.d, oT, oV, vT, vL, all0, starred, disj, mutss, muts, sizeLine_eq, hz]
      have s2 := b2_ok (n := n) (c := c) (lots := lots) (st := oV s0) (fo := oLs fs) (lot := oT lt) (x6 := x6) (x13 := none) (x14 := none) (x15 := none) h0 hG b0 l0
      have len := vals_len G.tabs (all0 lt s0)
      rw [l0] at len
      have ev0 : vsL G lt s0 = vals (all0 lt s0) G.tabs := rfl
      rw [ev0]
      generalize vals (all0 lt s0) G.tabs = ws at *
      have s3 := app_ok (L := lkOf T (n + 1)) (i := 4) (xs := fs.map vT) (st := rn G c lots (some (.lst (G.tabs.map trD), true)) (oV s0) (oLs fs) (oT lt) x6 (oV ws) none none none none none) rfl rfl (outE_ok (vs := ws) hG len) (by simp [sizeLine_eq]; omega)
      have f3 : (rn G c lots (some (.lst (G.tabs.map trD), true)) (oV s0) (oLs fs) (oT lt) x6 (oV ws) none none none none none).set 4 (some (.lst (fs.map vT ++ [vT (outsV G ws)]), true)) = rn G c lots (some (.lst (G.tabs.map trD), true)) (oV s0) (oLs (fs ++ [outsV G ws])) (oT lt) x6 (oV ws) none none none none none := by simp [rn, oLs]
      rw [f3] at s3
      have s4 := run_asg (L := lkOf T (n + 1)) (t := .n 3) (regE_ok (c := c) (lots := lots) (tr := some (.lst (G.tabs.map trD), true)) (st := oV s0) (fo := oLs (fs ++ [outsV G ws])) (lot := oT lt) (nd := none) (te := none) (x13 := none) (x14 := none) (vs := ws) hG hx6 len) (st2 := rn G c lots (some (.lst (G.tabs.map trD), true)) (oV (regsV G ws)) (oLs (fs ++ [outsV G ws])) (oT lt) x6 (oV ws) none none none none none) (by simp [bindT, S.keep, rn, oV])
      exact ⟨rn G c lots (some (.lst (G.tabs.map trD), true)) (oV s0) (oLs fs) (oT lt) x6 none none none none none none, _, by simp [bindT, rn, vT, oT], .inl (run_cons s1 (run_cons s2 (run_cons s3 (run_cons s4 rfl)))), none, .inl rfl, by simp [S.hide, rn]⟩
  exact ⟨x6, by rw [e, List.length_map]⟩
theorem run_ok (h0 : Has T) {n : Nat} {G : Nt} {c : Bool} {lots : List (List Int)} (hG : Good G) (hF : Few G lots) : callF T (n + 2) "run_net" [ntD G, loD c lots] [] = .ok (.lst ((fd G lots lots.length).map vT)) true [] [] := by
  have e0 : exec (lkOf T (n + 1)) (.asg (.t [.n 6, .n 6, .n 7, .n 8, .n 9]) (.mv 0)) ⟨[some (ntD G, true), some (loD c lots, c), none, none, none, none, none, none, none, none, none, none, none, none, none, none], []⟩ = .next (rn G c lots none none none none (some (.int G.ins, true)) none none none none none none) := by
    simp [exec, ev, bindT, bindTs, S.keep, ntD, rn, cfs_pD, cfs_tD, cf_nT]
  have e1 := run_asg (L := lkOf T (n + 1)) (t := .n 2) (trees_ok (n := n) (c := c) (lots := lots) (tr := none) (st := none) (fo := none) (lot := none) (x6 := some (.int G.ins, true)) (vl := none) (te := none) (x14 := none) (x15 := none) h0 hG) (st2 := rn G c lots (some (.lst (G.tabs.map trD), true)) none none none (some (.int G.ins, true)) none none none none none none) (by simp [bindT, S.keep, rn])
  have e2 := run_asg (L := lkOf T (n + 1)) (t := .n 3) (start_ok (L := lkOf T (n + 1)) (c := c) (lots := lots) (tr := some (.lst (G.tabs.map trD), true)) (st := none) (fo := none) (lot := none) (vl := none) (nd := none) (te := none) (x13 := none) (x15 := none) hG) (st2 := rn G c lots (some (.lst (G.tabs.map trD), true)) (oV (st0 G)) none none (some (.int G.ins, true)) none none none none none none) (by simp [bindT, S.keep, rn, oV])
  have e3 : exec (lkOf T (n + 1)) (.asg (.n 4) (.lst [])) (rn G c lots (some (.lst (G.tabs.map trD), true)) (oV (st0 G)) none none (some (.int G.ins, true)) none none none none none none) = .next (rn G c lots (some (.lst (G.tabs.map trD), true)) (oV (st0 G)) (oLs []) none (some (.int G.ins, true)) none none none none none none) := by
    simp [exec, ev, evs, bindT, S.keep, vars, varss, rn, oLs]
  obtain ⟨x6, e4⟩ := run_loop h0 (n := n) (c := c) hG hF
  have r := run_cons e0 (run_cons e1 (run_cons e2 (run_cons e3 (run_cons e4 (run_ret (r := []) (e := .mv 4) (by simp [ev, rn, oLs]; exact ⟨rfl, rfl, rfl⟩))))))
  exact call_ret h0.run rfl (show startS crun_net [ntD G, loD c lots] [] = _ by simp [startS, crun_net, cf_ntD, cf_loD]) r (outs_none rfl)
end VS.K52

-- Lrun52
namespace VS.K52
open PySem L2 _root_.K52
variable {T : Tb} {L : Lk}
theorem eq_int (a b : Int) : op2 .eq (.int a) (.int b) = some (.bl (a == b), true) := o_eq rfl rfl
/-- a block with a test that changes nothing -/
theorem comp_if {own : List Nat} {tg : Tg} {kind : Nat} {it cd e : Ex} {st : S} {d1 : D} {k1 : Bool} {items : List D} {g : D → D} {p : D → Bool} {F : D → S} (h1 : ev L it st = .ok d1 k1 st) (hi : itemsOf kind d1 .non = some items) (hc : cfs items = true)
    (fl : ((cfs items || (st.stuck (vars it) && st.stuck (vars (.con .non)))) && (k1 || disj (vars it) (muts (.con .non) ++ (mutss [cd] ++ muts e))) && (true || disj (vars (.con .non)) (mutss [cd] ++ muts e)) && (st.flatAt own && disj own (mutss [cd] ++ muts e) && (tgs tg).all own.contains)) = true) (few : items.length < sizeLine)
    (hb : ∀ x ∈ items, bindT tg x false (st.hide own) = some (F x)) (hh : ∀ x ∈ items, (F x).hide own = st.hide own) (hs : (st.hide own).hide own = st.hide own) (hp : ∀ x ∈ items, ev L cd (F x) = .ok (.bl (p x)) true (F x)) (he : ∀ x ∈ items, ev L e (F x) = .ok (g x) true (F x)) (hr : st.restore st own = st) (hr' : ∀ x ∈ items, (F x).restore st own = st) :
    ev L (.comp own tg kind it (.con .non) [cd] e) st = .ok (.lst ((items.filter p).map g)) true st := by
  obtain ⟨ys, st3, f, rfl, q⟩ := ev_comp (L := L) (I := fun i ys s => ys = ((items.take i).filter p).map (fun x => (g x, true)) ∧ (s = st ∨ ∃ x ∈ items, s = F x))
    (own := own) (tg := tg) (kind := kind) (it := it) (it2 := .con .non) (cs := [cd]) (e := e) (st := st) (st1 := st) (st2 := st) (d1 := d1) (k1 := k1) (d2 := .non) (k2 := true) (items := items) h1 rfl hi fl few ⟨by simp, .inl rfl⟩ fun i x ys s hx hi => by
      obtain ⟨rfl, hs'⟩ := hi
      have mx : x ∈ items := List.mem_of_getElem? hx
      have e1 : s.hide own = st.hide own := by
        rcases hs' with rfl | ⟨y, my, rfl⟩
        · rfl
        · exact hh y my
      refine ⟨F x, p x, F x, by rw [e1]; exact hb x mx, ?_, ?_⟩
      · simp only [evC, hp x mx, t_bl]
        cases p x <;> rfl
      · cases px : p x with
        | false =>
          refine .inl ⟨rfl, ?_, .inr ⟨x, mx, rfl⟩⟩
          rw [List.take_succ, hx]
          simp [px]
        | true =>
          refine .inr ⟨rfl, g x, true, F x, he x mx, rfl, ?_, .inr ⟨x, mx, rfl⟩⟩
          rw [List.take_succ, hx]
          simp [px]
  rw [f]
  have e3 : st3.restore st own = st := by
    rcases q with rfl | ⟨y, my, rfl⟩
    · exact hr
    · exact hr' y my
  rw [e3]
  simp [Function.comp_def]
/-! ### the law's own table -/
def smb (vs : List Int) (num j a : Nat) : Int := if num / 2 ^ j % 2 = 1 then at0 vs a else Builtin.bitXor (at0 vs a) 1
def sm (vs : List Int) (num : Nat) : List Nat → Nat → Int → Int
  | [], _, acc => acc
  | a :: r, j, acc => sm vs num r (j + 1) (Builtin.bitAnd acc (smb vs num j a))
theorem sm_snoc (vs : List Int) (num a : Nat) : ∀ (l : List Nat) (j : Nat) (acc : Int), sm vs num (l ++ [a]) j acc = Builtin.bitAnd (sm vs num l j acc) (smb vs num (j + l.length) a)
  | [], j, acc => rfl
  | b :: l, j, acc => by
    simp only [List.cons_append, sm, sm_snoc vs num a l, List.length_cons]
    rw [show j + 1 + l.length = j + (l.length + 1) by omega]
theorem and_if {a b : Int} (ha : a = 0 ∨ a = 1) (hb : b = 0 ∨ b = 1) : Builtin.bitAnd a b = if a = 1 ∧ b = 1 then 1 else 0 := by
  rcases ha with rfl | rfl <;> rcases hb with rfl | rfl <;> decide
theorem or_if {a b : Int} (ha : a = 0 ∨ a = 1) (hb : b = 0 ∨ b = 1) : Builtin.bitOr a b = if a = 1 ∨ b = 1 then 1 else 0 := by
  rcases ha with rfl | rfl <;> rcases hb with rfl | rfl <;> decide
theorem smb_if {vs : List Int} (h : Bits vs) (num j a : Nat) : smb vs num j a = if num / 2 ^ j % 2 = (at0 vs a).toNat then 1 else 0 := by
  unfold smb
  rcases bits_at h a with e | e <;> rw [e]
  · have : Builtin.bitXor 0 1 = 1 := by decide
    rw [this]
    by_cases c : num / 2 ^ j % 2 = 1
    · rw [if_pos c, if_neg (by simp; omega)]
    · rw [if_neg c, if_pos (by simp; omega)]
  · have : Builtin.bitXor 1 1 = 0 := by decide
    rw [this]
    by_cases c : num / 2 ^ j % 2 = 1
    · rw [if_pos c, if_pos (by simp; omega)]
    · rw [if_neg c, if_neg (by simp; omega)]
theorem sm_eq {vs : List Int} (h : Bits vs) (num : Nat) : ∀ (l : List Nat) (j : Nat) (acc : Int), (acc = 0 ∨ acc = 1) → sm vs num l j acc = if acc = 1 ∧ num / 2 ^ j % 2 ^ l.length = ix vs l then 1 else 0
  | [], j, acc, ha => by
    simp only [sm, ix, List.length_nil, Nat.pow_zero, Nat.mod_one, and_true]
    rcases ha with rfl | rfl <;> decide
  | a :: r, j, acc, ha => by
    have hb : smb vs num j a = 0 ∨ smb vs num j a = 1 := by rw [smb_if h]; split <;> simp
    have hab : Builtin.bitAnd acc (smb vs num j a) = 0 ∨ Builtin.bitAnd acc (smb vs num j a) = 1 := by rw [and_if ha hb]; split <;> simp
    simp only [sm]
    rw [sm_eq h num r (j + 1) _ hab, and_if ha hb, smb_if h]
    have hd : num / 2 ^ (j + 1) = num / 2 ^ j / 2 := by rw [Nat.pow_succ, Nat.div_div_eq_div_mul]
    rw [hd]
    generalize num / 2 ^ j = q
    have bv := bits_at h a
    have key : (q % 2 ^ (a :: r).length = ix vs (a :: r)) ↔ (q % 2 = (at0 vs a).toNat ∧ q / 2 % 2 ^ r.length = ix vs r) := by
      show q % 2 ^ (r.length + 1) = (at0 vs a).toNat + 2 * ix vs r ↔ _
      have hm : q % 2 ^ (r.length + 1) = q % 2 + 2 * (q / 2 % 2 ^ r.length) := by rw [Nat.pow_succ, Nat.mul_comm, Nat.mod_mul]
      rw [hm]
      omega
    by_cases c1 : acc = 1 <;> by_cases c2 : q % 2 = (at0 vs a).toNat <;> by_cases c3 : q / 2 % 2 ^ r.length = ix vs r <;> simp only [key, c1, c2, c3, and_true, and_false, true_and, false_and, if_true, if_false, Int.zero_ne_one]
theorem sm_bit {vs : List Int} (h : Bits vs) (num : Nat) (l : List Nat) (j : Nat) {acc : Int} (ha : acc = 0 ∨ acc = 1) : sm vs num l j acc = 0 ∨ sm vs num l j acc = 1 := by
  rw [sm_eq h num l j acc ha]; split <;> simp
def td (vs : List Int) (l : List Nat) (ns : List Nat) : Int := ns.foldl (fun t num => Builtin.bitOr t (sm vs num l 0 1)) 0
theorem td_snoc (vs : List Int) (l ns : List Nat) (num : Nat) : td vs l (ns ++ [num]) = Builtin.bitOr (td vs l ns) (sm vs num l 0 1) := by simp [td]
theorem td_eq {vs : List Int} (h : Bits vs) (l : List Nat) (ns : List Nat) (hn : ∀ m ∈ ns, m < 2 ^ l.length) : td vs l ns = if ix vs l ∈ ns then 1 else 0 := by
  have key : ∀ (ns : List Nat) (t : Int), (t = 0 ∨ t = 1) → (∀ m ∈ ns, m < 2 ^ l.length) → ns.foldl (fun t num => Builtin.bitOr t (sm vs num l 0 1)) t = if t = 1 ∨ ix vs l ∈ ns then 1 else 0 := by
    intro ns
    induction ns with
    | nil => intro t ht _; rcases ht with rfl | rfl <;> simp
    | cons m r ih =>
      intro t ht hm
      have sb := sm_bit h m l 0 (acc := 1) (.inr rfl)
      have ob : Builtin.bitOr t (sm vs m l 0 1) = 0 ∨ Builtin.bitOr t (sm vs m l 0 1) = 1 := by rw [or_if ht sb]; split <;> simp
      rw [List.foldl_cons, ih _ ob fun x mx => hm x (by simp [mx]), or_if ht sb, sm_eq h m l 0 1 (.inr rfl)]
      have lt := hm m (by simp)
      simp only [Nat.pow_zero, Nat.div_one, Nat.mod_eq_of_lt lt, true_and, List.mem_cons]
      by_cases c1 : t = 1
      · simp [c1]
      · by_cases c2 : m = ix vs l
        · simp [c2]
        · simp [c1, c2, show ¬ ix vs l = m from fun z => c2 z.symm]
  rw [td, key ns 0 (.inl rfl) hn]
  simp
def nums (u m : Nat) : List Nat := (List.range (2 ^ m)).filter fun i => bt u i == 1
theorem td_tv {vs : List Int} (h : Bits vs) (t : List Nat × Nat) : td vs t.1 (nums t.2 t.1.length) = tv vs t := by
  rw [td_eq h _ _ fun m mm => by simpa using (List.mem_filter.mp mm).1]
  unfold tv
  have lt := ix_lt h t.1
  rcases tv_bit vs t with e | e
  · unfold tv at e
    rw [e, if_neg]
    intro z
    have := (List.mem_filter.mp z).2
    rw [e] at this
    cases this
  · unfold tv at e
    rw [e, if_pos]
    exact List.mem_filter.mpr ⟨by simpa using lt, by rw [e]; rfl⟩
end VS.K52

-- Lrun2
namespace VS.K52
open PySem L2 _root_.K52
variable {T : Tb} {L : Lk}
def lr (G : Nt) (lots : List (List Int)) (x3 x4 x5 x6 x7 x8 x9 x10 x11 x12 x13 x14 x15 : O) : S := ⟨[some (ntD G, true), some (loD false lots, false), some (.int 1, true), x3, x4, x5, x6, x7, x8, x9, x10, x11, x12, x13, x14, x15], []⟩
def oN (n : Nat) : O := some (.int n, true)
def oI (i : Int) : O := some (.int i, true)
def enD (ns : List Nat) : List D := ((List.range ns.length).zip (ns.map fun n : Nat => D.int n)).map fun p => D.tup [.int (p.1 : Int), p.2]
theorem en_len {ns : List Nat} : (enD ns).length = ns.length := by simp [enD]
theorem en_at {ns : List Nat} {i : Nat} {x : D} (h : (enD ns)[i]? = some x) : ∃ a, ns[i]? = some a ∧ x = .tup [.int i, .int a] := by
  have hi : i < ns.length := by
    have := (List.getElem?_eq_some_iff.mp h).1
    rwa [en_len] at this
  refine ⟨ns[i], by simp [hi], ?_⟩
  have e : ((List.range ns.length).zip (ns.map fun n : Nat => D.int n))[i]? = some (i, D.int ns[i]) := List.getElem?_zip_eq_some.mpr ⟨by simp [hi], by simp [hi]⟩
  rw [enD, List.getElem?_map, e] at h
  exact (Option.some.inj h).symm
theorem cfs_en {ns : List Nat} : cfs (enD ns) = true := by
  rw [cfs_every, List.all_eq_true]
  intro x hx
  obtain ⟨i, hi⟩ := List.mem_iff_getElem?.mp hx
  obtain ⟨a, _, rfl⟩ := en_at hi
  rfl
def iE : Ex := .op2 .band (.var 11) (.ite (.op2 .eq (.op2 .band (.op2 .shr (.var 10) (.var 15)) (.con (.int 1))) (.con (.int 1))) (.op2 .idx (.var 6) (.var 13)) (.op2 .bxor (.op2 .idx (.var 6) (.var 13)) (.var 2)))
section
variable {G : Nt} {lots : List (List Int)} {x3 x4 x5 x6 x7 x8 x9 x10 x11 x12 x13 x14 x15 : O} {vs : List Int}
theorem at13 {a : Nat} (ha : a < vs.length) : ev L (.op2 .idx (.var 6) (.var 13)) (lr G lots x3 x4 x5 (oV vs) x7 x8 x9 x10 x11 x12 (oN a) x14 x15) = .ok (.int (at0 vs a)) true (lr G lots x3 x4 x5 (oV vs) x7 x8 x9 x10 x11 x12 (oN a) x14 x15) :=
  idx_lst (L := L) (A := .var 6) (B := .var 13) (st := lr G lots x3 x4 x5 (oV vs) x7 x8 x9 x10 x11 x12 (oN a) x14 x15) (kA := false) (zs := vs.map .int) (j := a) rfl rfl rfl (ix_len ha) (get_at ha)
theorem iE_ok {num j a : Nat} {s : Int} (ha : a < vs.length) : ev L iE (lr G lots x3 x4 x5 (oV vs) x7 x8 x9 (oN num) (oI s) x12 (oN a) x14 (oN j)) = .ok (.int (Builtin.bitAnd s (smb vs num j a))) true (lr G lots x3 x4 x5 (oV vs) x7 x8 x9 (oN num) (oI s) x12 (oN a) x14 (oN j)) := by
  have c : ev L (.op2 .eq (.op2 .band (.op2 .shr (.var 10) (.var 15)) (.con (.int 1))) (.con (.int 1))) (lr G lots x3 x4 x5 (oV vs) x7 x8 x9 (oN num) (oI s) x12 (oN a) x14 (oN j)) = .ok (.bl (bt num j == 1)) true (lr G lots x3 x4 x5 (oV vs) x7 x8 x9 (oN num) (oI s) x12 (oN a) x14 (oN j)) := by
    simp [ev, lr, oN, oI, Cn.d, shrN, disj, vars, muts, eq_int, bt]
  have i := at13 (L := L) (G := G) (lots := lots) (x3 := x3) (x4 := x4) (x5 := x5) (x7 := x7) (x8 := x8) (x9 := x9) (x10 := oN num) (x11 := oI s) (x12 := x12) (x14 := x14) (x15 := oN j) ha
  have mi : muts (.op2 .idx (.var 6) (.var 13)) = [] := rfl
  have mc : muts (.op2 .eq (.op2 .band (.op2 .shr (.var 10) (.var 15)) (.con (.int 1))) (.con (.int 1))) = [] := rfl
  unfold iE
  generalize Ex.op2 .eq (.op2 .band (.op2 .shr (.var 10) (.var 15)) (.con (.int 1))) (.con (.int 1)) = C at c mc
  generalize Ex.op2 .idx (.var 6) (.var 13) = A at i mi
  have hb : (bt num j == 1) = decide (num / 2 ^ j % 2 = 1) := by
    rw [bt_mod]
    by_cases z : num / 2 ^ j % 2 = 1
    · simp [z]
    · have : num / 2 ^ j % 2 = 0 := by omega
      simp [this]
  rw [hb] at c
  unfold smb
  by_cases z : num / 2 ^ j % 2 = 1
  · simp [lr, oI, oN] at c i
    simp [ev, lr, oI, oN, c, i, z, disj, vars, muts, mi, mc]
  · simp [lr, oI, oN, z] at c i
    simp [ev, lr, oI, oN, c, i, z, disj, vars, muts, mi, mc]
def iL : Sm := .forI (.t [.n 15, .n 13]) 2 (.var 7) (.con .non) [13, 15] [.asg (.n 11) iE]
theorem iL_ok {num : Nat} {ns : List Nat} {s : Int} (hn : ∀ a ∈ ns, a < vs.length) (few : ns.length ≤ 1000) : exec L iL (lr G lots x3 x4 x5 (oV vs) (some (nT ns, true)) x8 x9 (oN num) (oI s) x12 none x14 none) = .next (lr G lots x3 x4 x5 (oV vs) (some (nT ns, true)) x8 x9 (oN num) (oI (sm vs num ns 0 s)) x12 none x14 none) := by
  obtain ⟨st', e, rfl⟩ := exec_for (L := L) (I := fun i t => t = lr G lots x3 x4 x5 (oV vs) (some (nT ns, true)) x8 x9 (oN num) (oI (sm vs num (ns.take i) 0 s)) x12 none x14 none) (tg := .t [.n 15, .n 13]) (kind := 2) (it := .var 7) (it2 := .con .non) (clr := [13, 15]) (b := [.asg (.n 11) iE])
    (st := lr G lots x3 x4 x5 (oV vs) (some (nT ns, true)) x8 x9 (oN num) (oI s) x12 none x14 none) (d1 := nT ns) (k1 := true) (st1 := lr G lots x3 x4 x5 (oV vs) (some (nT ns, true)) x8 x9 (oN num) (oI s) x12 none x14 none) (d2 := .non) (k2 := true) (st2 := lr G lots x3 x4 x5 (oV vs) (some (nT ns, true)) x8 x9 (oN num) (oI s) x12 none x14 none) (st3 := lr G lots x3 x4 x5 (oV vs) (some (nT ns, true)) x8 x9 (oN num) (oI s) x12 none x14 none)
    (items := enD ns) (by simp [ev, lr, cf_nT]) rfl (by simp [itemsOf, nT, enD]) (by simp [disj, vars]) (by rw [if_pos cfs_en]) (by simp [sm]) fun i x t hx hi => by
      subst hi
      obtain ⟨a, ha, rfl⟩ := en_at hx
      have hi : i < ns.length := (List.getElem?_eq_some_iff.mp ha).1
      have tk : ns.take (i + 1) = ns.take i ++ [a] := by rw [List.take_succ, ha]; rfl
      rw [tk, sm_snoc, List.length_take, Nat.min_eq_left (Nat.le_of_lt hi), Nat.zero_add]
      generalize sm vs num (ns.take i) 0 s = s1
      have e1 := run_asg (L := L) (t := .n 11) (iE_ok (L := L) (G := G) (lots := lots) (x3 := x3) (x4 := x4) (x5 := x5) (x7 := some (nT ns, true)) (x8 := x8) (x9 := x9) (x12 := x12) (x14 := x14) (vs := vs) (num := num) (j := i) (s := s1) (hn a (List.mem_of_getElem? ha))) (st2 := lr G lots x3 x4 x5 (oV vs) (some (nT ns, true)) x8 x9 (oN num) (oI (Builtin.bitAnd s1 (smb vs num i a))) x12 (oN a) x14 (oN i)) (by simp [bindT, S.keep, lr, oI])
      exact ⟨lr G lots x3 x4 x5 (oV vs) (some (nT ns, true)) x8 x9 (oN num) (oI s1) x12 (oN a) x14 (oN i), _, by simp [bindT, bindTs, lr, oN], .inl (run_cons e1 rfl), by simp [S.hide, lr]⟩
  rw [iL, e, en_len, List.take_length]
def nE : Ex := .comp [14] (.n 14) 0 (.op2 .shl (.con (.int 1)) (.op1 .len (.var 7))) (.con .non) [.op2 .eq (.op2 .band (.op2 .shr (.var 8) (.var 14)) (.con (.int 1))) (.con (.int 1))] (.var 14)
theorem nE_ok {u : Nat} {ns : List Nat} (few : ns.length ≤ 6) : ev L nE (lr G lots x3 x4 x5 x6 (some (nT ns, true)) (oN u) x9 x10 x11 x12 x13 none x15) = .ok (.lst ((nums u ns.length).map fun n : Nat => .int n)) true (lr G lots x3 x4 x5 x6 (some (nT ns, true)) (oN u) x9 x10 x11 x12 x13 none x15) := by
  have p6 := pow6 few
  rw [nE, comp_if (items := (List.range (2 ^ ns.length)).map fun i : Nat => D.int i) (g := fun x => x) (p := fun x => match x with | .int i => bt u i.toNat == 1 | _ => false) (F := fun x => lr G lots x3 x4 x5 x6 (some (nT ns, true)) (oN u) x9 x10 x11 x12 x13 (some (x, cf x)) x15) (d1 := .int ((2 ^ ns.length : Nat) : Int)) (k1 := true)
    (by simp [ev, lr, Cn.d, nT, shl1 (show ns.length ≤ 1000 by omega), disj, vars, muts]) (items_range (by omega)) (cfs_nats _) (by simp [cfs_nats, disj, vars, muts, mutss, S.flatAt, tgs, lr]) (by simp [sizeLine_eq]; omega)
    (fun x hx => by simp [bindT, S.hide, lr]) (fun x hx => by simp [S.hide, lr]) (by simp [S.hide, lr]) (fun x hx => by
      obtain ⟨p, _, rfl⟩ := List.mem_map.mp hx
      simp [ev, lr, oN, Cn.d, shrN, disj, vars, muts, eq_int, bt]) (fun x hx => by
      obtain ⟨p, _, rfl⟩ := List.mem_map.mp hx
      simp [ev, lr]) (by simp [S.restore, lr]) (fun x hx => by simp [S.restore, lr])]
  congr 1
  simp [nums, List.filter_map, Function.comp_def]
def nB : List Sm := [.asg (.n 11) (.var 2), iL, .asg (.n 9) (.op2 .bor (.var 9) (.var 11))]
def nL : Sm := .forI (.n 10) 1 nE (.con .non) [10, 11, 13, 15] nB
theorem nL_ok {u : Nat} {ns : List Nat} (hn : ∀ a ∈ ns, a < vs.length) (few : ns.length ≤ 6) : exec L nL (lr G lots x3 x4 x5 (oV vs) (some (nT ns, true)) (oN u) (oI 0) none none x12 none none none) = .next (lr G lots x3 x4 x5 (oV vs) (some (nT ns, true)) (oN u) (oI (td vs ns (nums u ns.length))) none none x12 none none none) := by
  obtain ⟨st', e, rfl⟩ := exec_for (L := L) (I := fun i t => t = lr G lots x3 x4 x5 (oV vs) (some (nT ns, true)) (oN u) (oI (td vs ns ((nums u ns.length).take i))) none none x12 none none none) (tg := .n 10) (kind := 1) (it := nE) (it2 := .con .non) (clr := [10, 11, 13, 15]) (b := nB)
    (st := lr G lots x3 x4 x5 (oV vs) (some (nT ns, true)) (oN u) (oI 0) none none x12 none none none) (d1 := .lst ((nums u ns.length).map fun n : Nat => .int n)) (k1 := true) (st1 := lr G lots x3 x4 x5 (oV vs) (some (nT ns, true)) (oN u) (oI 0) none none x12 none none none) (d2 := .non) (k2 := true) (st2 := lr G lots x3 x4 x5 (oV vs) (some (nT ns, true)) (oN u) (oI 0) none none x12 none none none) (st3 := lr G lots x3 x4 x5 (oV vs) (some (nT ns, true)) (oN u) (oI 0) none none x12 none none none)
    (items := (nums u ns.length).map fun n : Nat => .int n) (nE_ok few) rfl rfl (by simp [disj, vars]) (by rw [if_pos (cfs_nats _)]) (by simp [td]) fun i x t hx hi => by
      subst hi
      rw [List.getElem?_map] at hx
      obtain ⟨m, hm, rfl⟩ := Option.map_eq_some_iff.mp hx
      have tk : (nums u ns.length).take (i + 1) = (nums u ns.length).take i ++ [m] := by rw [List.take_succ, hm]; rfl
      rw [tk, td_snoc]
      generalize td vs ns ((nums u ns.length).take i) = t1
      have e1 : exec L (.asg (.n 11) (.var 2)) (lr G lots x3 x4 x5 (oV vs) (some (nT ns, true)) (oN u) (oI t1) (oN m) none x12 none none none) = .next (lr G lots x3 x4 x5 (oV vs) (some (nT ns, true)) (oN u) (oI t1) (oN m) (oI 1) x12 none none none) := by simp [exec, ev, bindT, S.keep, lr, oI]
      have e2 := iL_ok (L := L) (G := G) (lots := lots) (x3 := x3) (x4 := x4) (x5 := x5) (x8 := oN u) (x9 := oI t1) (x12 := x12) (x14 := none) (vs := vs) (num := m) (ns := ns) (s := 1) hn (by omega)
      generalize sm vs m ns 0 1 = s1 at *
      have e3 : exec L (.asg (.n 9) (.op2 .bor (.var 9) (.var 11))) (lr G lots x3 x4 x5 (oV vs) (some (nT ns, true)) (oN u) (oI t1) (oN m) (oI s1) x12 none none none) = .next (lr G lots x3 x4 x5 (oV vs) (some (nT ns, true)) (oN u) (oI (Builtin.bitOr t1 s1)) (oN m) (oI s1) x12 none none none) := by simp [exec, ev, bindT, S.keep, lr, oI, op2, disj, vars, muts]
      exact ⟨lr G lots x3 x4 x5 (oV vs) (some (nT ns, true)) (oN u) (oI t1) (oN m) none x12 none none none, _, by simp [bindT, lr, oN], .inl (run_cons e1 (run_cons e2 (run_cons e3 rfl))), by simp [S.hide, lr]⟩
  rw [nL, e, List.length_map, List.take_length]
def tB : List Sm := [.asg (.n 9) (.con (.int 0)), nL, .app 6 [] (.mv 9)]
def tL : Sm := .forI (.t [.n 7, .n 8]) 1 (.op2 .idx (.var 0) (.con (.int 3))) (.con .non) [7, 8, 9, 10, 11, 13, 14, 15] tB
theorem tabs_ev {i : Nat} : ev L (.op2 .idx (.var 0) (.con (.int 3))) (lr G lots x3 x4 x5 x6 x7 x8 x9 x10 x11 x12 x13 x14 x15) = .ok (.tup (G.tabs.map tD)) true (lr G lots x3 x4 x5 x6 x7 x8 x9 x10 x11 x12 x13 x14 x15) := by
  simp [ev, lr, ntD, Cn.d, ixN, cfs_pD, cfs_tD, cf_nT, disj, vars, muts]
theorem tL_ok (hG : Good G) {us : List Int} (hb : Bits us) (hl : us.length = 1 + G.ins + G.regs.length) : exec L tL (lr G lots x3 x4 x5 (oV us) none none none none none x12 none none none) = .next (lr G lots x3 x4 x5 (oV (vals us G.tabs)) none none none none none x12 none none none) := by
  have small := hG.small
  obtain ⟨st', e, rfl⟩ := exec_for (L := L) (I := fun i t => t = lr G lots x3 x4 x5 (oV (vals us (G.tabs.take i))) none none none none none x12 none none none) (tg := .t [.n 7, .n 8]) (kind := 1) (it := .op2 .idx (.var 0) (.con (.int 3))) (it2 := .con .non) (clr := [7, 8, 9, 10, 11, 13, 14, 15]) (b := tB)
    (st := lr G lots x3 x4 x5 (oV us) none none none none none x12 none none none) (d1 := .tup (G.tabs.map tD)) (k1 := true) (st1 := lr G lots x3 x4 x5 (oV us) none none none none none x12 none none none) (d2 := .non) (k2 := true) (st2 := lr G lots x3 x4 x5 (oV us) none none none none none x12 none none none) (st3 := lr G lots x3 x4 x5 (oV us) none none none none none x12 none none none)
    (items := G.tabs.map tD) (tabs_ev (i := 0)) rfl rfl (by simp [disj, vars]) (by rw [if_pos (cfs_tD _)]) (by simp [vals]) fun i x t hx hi => by
      subst hi
      rw [List.getElem?_map] at hx
      obtain ⟨t, ht, rfl⟩ := Option.map_eq_some_iff.mp hx
      have hi : i < G.tabs.length := (List.getElem?_eq_some_iff.mp ht).1
      obtain ⟨l6, ha⟩ := hG.tabs i t ht
      have len : (vals us (G.tabs.take i)).length = 1 + G.ins + G.regs.length + i := by rw [vals_len, hl, List.length_take]; omega
      have bs := vals_bits (G.tabs.take i) hb
      rw [vals_take ht]
      generalize vals us (G.tabs.take i) = ws at *
      have e1 : exec L (.asg (.n 9) (.con (.int 0))) (lr G lots x3 x4 x5 (oV ws) (some (nT t.1, true)) (oN t.2) none none none x12 none none none) = .next (lr G lots x3 x4 x5 (oV ws) (some (nT t.1, true)) (oN t.2) (oI 0) none none x12 none none none) := by simp [exec, ev, bindT, S.keep, lr, oI, Cn.d]
      have e2 := nL_ok (L := L) (G := G) (lots := lots) (x3 := x3) (x4 := x4) (x5 := x5) (x12 := x12) (vs := ws) (u := t.2) (ns := t.1) (fun a m => by have := ha a m; omega) l6
      rw [td_tv bs] at e2
      have e3 := app_ok2 (L := L) (i := 6) (e := .mv 9) (xs := ws.map .int) (st := lr G lots x3 x4 x5 (oV ws) (some (nT t.1, true)) (oN t.2) (oI (tv ws t)) none none x12 none none none) (st1 := lr G lots x3 x4 x5 (oV ws) (some (nT t.1, true)) (oN t.2) none none none x12 none none none) (v := .int (tv ws t)) rfl rfl rfl (by simp [ev, lr, oI]) (by simp [sizeLine_eq]; omega)
      exact ⟨lr G lots x3 x4 x5 (oV ws) (some (nT t.1, true)) (oN t.2) none none none x12 none none none, _, by simp [bindT, bindTs, lr, tD, cf_nT, oN], .inl (run_cons e1 (run_cons e2 (run_cons e3 rfl))), by simp [S.hide, lr, oV, vL]⟩
  rw [tL, e, List.length_map, List.take_length]
end
end VS.K52

-- Lrun3
namespace VS.K52
open PySem L2 _root_.K52
variable {T : Tb} {L : Lk}
section
variable {G : Nt} {lots : List (List Int)} {x3 x4 x5 x6 x7 x8 x9 x10 x11 x12 x13 x14 x15 : O} {vs : List Int}
def cO : Ex := .comp [13] (.n 13) 1 (.op2 .idx (.var 0) (.con (.int 4))) (.con .non) [] (.op2 .idx (.var 6) (.var 13))
def cR : Ex := .comp [12, 13] (.t [.n 12, .n 13]) 1 (.op2 .idx (.var 0) (.con (.int 2))) (.con .non) [] (.op2 .idx (.var 6) (.var 13))
def cS : Ex := .comp [12, 13] (.t [.n 12, .n 13]) 1 (.op2 .idx (.var 0) (.con (.int 2))) (.con .non) [] (.op2 .mul (.var 2) (.var 12))
theorem cO_ok (hG : Good G) (len : vs.length = 1 + G.ins + G.regs.length + G.tabs.length) : ev L cO (lr G lots x3 x4 x5 (oV vs) x7 x8 x9 x10 x11 x12 none x14 x15) = .ok (.lst ((outsV G vs).map .int)) true (lr G lots x3 x4 x5 (oV vs) x7 x8 x9 x10 x11 x12 none x14 x15) := by
  have fw := hG.few
  rw [cO, comp_pure (items := G.outs.map fun n : Nat => D.int n) (g := fun x => match x with | .int l => .int (at0 vs l.toNat) | _ => .non) (F := fun x => lr G lots x3 x4 x5 (oV vs) x7 x8 x9 x10 x11 x12 (some (x, cf x)) x14 x15) (d1 := nT G.outs) (k1 := true)
    (by simp [ev, lr, ntD, Cn.d, ixN, cfs_pD, cfs_tD, cf_nT, disj, vars, muts]) rfl (cfs_nats _) (by simp [cfs_nats, disj, vars, varss, muts, mutss, S.flatAt, tgs, lr]) (by simp [sizeLine_eq]; omega)
    (fun x hx => by simp [bindT, S.hide, lr]) (fun x hx => by simp [S.hide, lr]) (by simp [S.hide, lr]) (fun x hx => by obtain ⟨p, mp, rfl⟩ := List.mem_map.mp hx; exact at13 (by have := hG.outs p mp; omega)) (by simp [S.restore, lr]) (fun x hx => by simp [S.restore, lr])]
  simp [outsV, Function.comp_def]
theorem cR_ok (hG : Good G) (len : vs.length = 1 + G.ins + G.regs.length + G.tabs.length) : ev L cR (lr G lots x3 x4 x5 (oV vs) x7 x8 x9 x10 x11 none none x14 x15) = .ok (vL (regsV G vs)) true (lr G lots x3 x4 x5 (oV vs) x7 x8 x9 x10 x11 none none x14 x15) := by
  have small := hG.small
  rw [cR, comp_pure (items := G.regs.map pD) (g := fun x => match x with | .tup [_, .int l] => .int (at0 vs l.toNat) | _ => .non) (F := fun x => match x with | .tup [a, b] => lr G lots x3 x4 x5 (oV vs) x7 x8 x9 x10 x11 (some (a, true)) (some (b, true)) x14 x15 | _ => ⟨[], []⟩) (d1 := .tup (G.regs.map pD)) (k1 := true)
    (by simp [ev, lr, ntD, Cn.d, ixN, cfs_pD, cfs_tD, cf_nT, disj, vars, muts]) rfl (cfs_pD _) (by simp [cfs_pD, disj, vars, varss, muts, mutss, S.flatAt, tgs, tgss, lr]) (by simp [sizeLine_eq]; omega)
    (fun x hx => by obtain ⟨p, _, rfl⟩ := List.mem_map.mp hx; simp [bindT, bindTs, S.hide, lr, pD]) (fun x hx => by obtain ⟨p, _, rfl⟩ := List.mem_map.mp hx; simp [S.hide, lr, pD]) (by simp [S.hide, lr]) (fun x hx => by obtain ⟨p, mp, rfl⟩ := List.mem_map.mp hx; exact at13 (by have := (hG.regs p mp).2; omega)) (by simp [S.restore, lr]) (fun x hx => by obtain ⟨p, _, rfl⟩ := List.mem_map.mp hx; simp [S.restore, lr, pD])]
  simp [vL, regsV, pD, Function.comp_def]
theorem cS_ok (hG : Good G) : ev L cS (lr G lots none none none none none none none none none none none none none) = .ok (vL (st0 G)) true (lr G lots none none none none none none none none none none none none none) := by
  have small := hG.small
  have o1 : ∀ x : Int, op2 .mul (.int 1) (.int x) = some (.int x, true) := fun x => by rw [o_mul (.inl (by decide)), Int.one_mul]
  rw [cS, comp_pure (items := G.regs.map pD) (g := fun x => match x with | .tup (a :: _) => a | _ => .non) (F := fun x => match x with | .tup [a, b] => lr G lots none none none none none none none none none (some (a, true)) (some (b, true)) none none | _ => ⟨[], []⟩) (d1 := .tup (G.regs.map pD)) (k1 := true)
    (by simp [ev, lr, ntD, Cn.d, ixN, cfs_pD, cfs_tD, cf_nT, disj, vars, muts]) rfl (cfs_pD _) (by simp [cfs_pD, disj, vars, varss, muts, mutss, S.flatAt, tgs, tgss, lr]) (by simp [sizeLine_eq]; omega)
    (fun x hx => by obtain ⟨p, _, rfl⟩ := List.mem_map.mp hx; simp [bindT, bindTs, S.hide, lr, pD]) (fun x hx => by obtain ⟨p, _, rfl⟩ := List.mem_map.mp hx; simp [S.hide, lr, pD]) (by simp [S.hide, lr]) (fun x hx => by obtain ⟨p, _, rfl⟩ := List.mem_map.mp hx; simp [ev, lr, pD, o1, disj, muts, vars]) (by simp [S.restore, lr]) (fun x hx => by obtain ⟨p, _, rfl⟩ := List.mem_map.mp hx; simp [S.restore, lr, pD])]
  simp [vL, st0, pD, Function.comp_def]
end
def lB : List Sm := [.asg (.n 6) (.op2 .add (.op2 .add (.lst [.con (.int 0)]) (.op1 .listOf (.var 3))) (.var 4)), tL, .app 5 [] (.op1 .tupleOf cO), .asg (.n 4) cR]
theorem l_loop {G : Nt} {lots : List (List Int)} (hG : Good G) (hF : Few G lots) : exec L (.forI (.n 3) 1 (.var 1) (.con .non) [3, 6, 7, 8, 9, 10, 11, 12, 13, 14, 15] lB) (lr G lots none (oV (st0 G)) (oLs []) none none none none none none none none none none) =
    .next (lr G lots none (oV (stA G lots lots.length)) (oLs (fd G lots lots.length)) none none none none none none none none none none) := by
  have small := hG.small
  have hm := hF.many
  obtain ⟨st', e, rfl⟩ := exec_for (L := L) (I := fun i s => s = lr G lots none (oV (stA G lots i)) (oLs (fd G lots i)) none none none none none none none none none none) (tg := .n 3) (kind := 1) (it := .var 1) (it2 := .con .non) (clr := [3, 6, 7, 8, 9, 10, 11, 12, 13, 14, 15]) (b := lB)
    (st := lr G lots none (oV (st0 G)) (oLs []) none none none none none none none none none none) (d1 := loD false lots) (k1 := false) (st1 := lr G lots none (oV (st0 G)) (oLs []) none none none none none none none none none none) (d2 := .non) (k2 := true) (st2 := lr G lots none (oV (st0 G)) (oLs []) none none none none none none none none none none) (st3 := lr G lots none (oV (st0 G)) (oLs []) none none none none none none none none none none)
    (items := lots.map vT) (by simp [ev, lr, cf_loD]) rfl rfl (by simp [disj, vars, varss, muts, mutss, mutsS, mutsM, lB, tL, tB, nL, nB, nE, iL, iE, cO, cR]) (by rw [if_pos (cfs_vT _)]) (by simp [fd, stA]) fun i x s hx hi => by
      subst hi
      rw [List.getElem?_map] at hx
      obtain ⟨lt, hlt, rfl⟩ := Option.map_eq_some_iff.mp hx
      have hi : i < lots.length := (List.getElem?_eq_some_iff.mp hlt).1
      obtain ⟨e1, e2⟩ := hF.each lt (List.mem_of_getElem? hlt)
      rw [fd_succ hlt, stA_succ hlt]
      have fl : (fd G lots i).length = i := by simp [fd]
      have sl := stA_len (G := G) (lots := lots) (i := i) (by omega)
      have sb := stA_bits hG (fun l m => (hF.each l m).2) i
      generalize fd G lots i = fs at *
      generalize stA G lots i = s0 at *
      have b0 := all0_bits sb e2
      have l0 : (all0 lt s0).length = 1 + G.ins + G.regs.length := by simp [all0]; omega
      have s1 : exec L (.asg (.n 6) (.op2 .add (.op2 .add (.lst [.con (.int 0)]) (.op1 .listOf (.var 3))) (.var 4))) (lr G lots (oT lt) (oV s0) (oLs fs) none none none none none none none none none none) = .next (lr G lots (oT lt) (oV s0) (oLs fs) (oV (all0 lt s0)) none none none none none none none none none) := by
        have h1 : op2 .add (.lst [.int 0]) (.lst (lt.map .int)) = some (.lst (.int 0 :: lt.map .int), true) := by rw [o_addL (by simp [sizeLine_eq]; omega)]; simp
        have h2 : op2 .add (.lst (.int 0 :: lt.map .int)) (.lst (s0.map .int)) = some (.lst ((all0 lt s0).map .int), true) := by rw [o_addL (by simp [sizeLine_eq]; omega)]; simp [all0]
        simp [exec, ev, evs, bindT, S.keep, vars, varss, lr, Cn.d, oT, oV, vT, vL, disj, mutss, muts, sizeLine_eq, h1, h2, op1]
      have s2 := tL_ok (L := L) (G := G) (lots := lots) (x3 := oT lt) (x4 := oV s0) (x5 := oLs fs) (x12 := none) hG b0 l0
      have len := vals_len G.tabs (all0 lt s0)
      rw [l0] at len
      have ev0 : vsL G lt s0 = vals (all0 lt s0) G.tabs := rfl
      rw [ev0]
      generalize vals (all0 lt s0) G.tabs = ws at *
      have t3 := tup_of (cO_ok (L := L) (G := G) (lots := lots) (x3 := oT lt) (x4 := oV s0) (x5 := oLs fs) (x7 := none) (x8 := none) (x9 := none) (x10 := none) (x11 := none) (x12 := none) (x14 := none) (x15 := none) (vs := ws) hG len)
      rw [cfs_int] at t3
      have s3 := app_ok (L := L) (i := 5) (xs := fs.map vT) (st := lr G lots (oT lt) (oV s0) (oLs fs) (oV ws) none none none none none none none none none) rfl rfl t3 (by simp [sizeLine_eq]; omega)
      have f3 : (lr G lots (oT lt) (oV s0) (oLs fs) (oV ws) none none none none none none none none none).set 5 (some (.lst (fs.map vT ++ [.tup ((outsV G ws).map .int)]), true)) = lr G lots (oT lt) (oV s0) (oLs (fs ++ [outsV G ws])) (oV ws) none none none none none none none none none := by simp [lr, oLs, vT]
      rw [f3] at s3
      have s4 := run_asg (L := L) (t := .n 4) (cR_ok (L := L) (G := G) (lots := lots) (x3 := oT lt) (x4 := oV s0) (x5 := oLs (fs ++ [outsV G ws])) (x7 := none) (x8 := none) (x9 := none) (x10 := none) (x11 := none) (x14 := none) (x15 := none) (vs := ws) hG len) (st2 := lr G lots (oT lt) (oV (regsV G ws)) (oLs (fs ++ [outsV G ws])) (oV ws) none none none none none none none none none) (by simp [bindT, S.keep, lr, oV])
      exact ⟨lr G lots (oT lt) (oV s0) (oLs fs) none none none none none none none none none none, _, by simp [bindT, lr, vT, oT], .inl (run_cons s1 (run_cons s2 (run_cons s3 (run_cons s4 rfl)))), by simp [S.hide, lr]⟩
  rw [e, List.length_map]
theorem lrun_ok (h0 : Has T) {n : Nat} {G : Nt} {lots : List (List Int)} (hG : Good G) (hF : Few G lots) : callF T (n + 1) "_law_net_run" [ntD G, loD false lots, .int 1] [] = .ok (.lst ((fd G lots lots.length).map vT)) true [] [] := by
  have e0 : exec (lkOf T n) (.par [4, 5] [cS, .lst []]) (lr G lots none none none none none none none none none none none none none) = .next (lr G lots none (oV (st0 G)) (oLs []) none none none none none none none none none none) := by
    have e := cS_ok (L := lkOf T n) (G := G) (lots := lots) hG
    have m : muts cS = [] := rfl
    generalize cS = z at e m
    simp [lr] at e
    simp [exec, evs, ev, lr, e, oLs, oV, vL, disj, muts, mutss, vars, varss, S.keeps, S.keep, setsS, sizeLine_eq]
  have r := run_cons e0 (run_cons (l_loop (L := lkOf T n) hG hF) (run_ret (r := []) (e := .mv 5) (by simp [ev, lr, oLs]; exact ⟨rfl, rfl, rfl⟩)))
  exact call_ret h0.lrun rfl (show startS c_law_net_run [ntD G, loD false lots, .int 1] [] = _ by simp [startS, c_law_net_run, cf_ntD, cf_loD, lr]) r (outs_none rfl)
end VS.K52

-- Lev52
namespace VS.K52
open PySem L2 _root_.K52
variable {T : Tb} {L : Lk}
theorem ints_map : ∀ ns : List Int, intsOf (ns.map .int) = some ns
  | [] => rfl
  | n :: r => by simp [intsOf, ints_map r]
theorem o_maxD (ns : List Int) (d : Int) : op2 .maxD (.lst (ns.map .int)) (.int d) = some (.int (maxOr d ns), true) := by
  show (intsOf (ns.map .int)).map _ = _
  rw [ints_map]; rfl
theorem o_maxL (n : Int) (ns : List Int) : op1 .maxL (.lst ((n :: ns).map .int)) = some (.int (maxOr 0 (n :: ns)), true) := by
  show (intsOf ((n :: ns).map .int)).bind _ = _
  rw [ints_map]; rfl
theorem maxOr_zero (ns : List Int) (h : ∀ x ∈ ns, 0 ≤ x) : maxOr 0 (0 :: ns) = maxOr 0 ns := by
  cases ns with
  | nil => rfl
  | cons x r =>
    have := h x (by simp)
    show maxI (if x > 0 then x else 0) r = maxI x r
    by_cases c : x > 0
    · rw [if_pos c]
    · rw [if_neg c, show x = 0 by omega]
theorem maxOr_pos (ns : List Int) (h : ∀ x ∈ ns, 0 ≤ x) : 0 ≤ maxOr 0 ns := by
  rw [← maxOr_zero ns h]
  exact (maxI_le ns 0).1
/-! ### levels -/
def wOf (G : Nt) : Nat := 1 + G.ins + G.regs.length
def lup (ls : List Int) (ts : List (List Nat × Nat)) : List Int := ts.foldl (fun ls t => ls ++ [1 + maxOr 0 (t.1.map (at0 ls))]) ls
theorem lup_len (ts : List (List Nat × Nat)) : ∀ vs : List Int, (lup vs ts).length = vs.length + ts.length := by
  induction ts with
  | nil => intro vs; simp [lup]
  | cons p r ih =>
    intro vs
    show (lup (vs ++ [_]) r).length = _
    rw [ih]
    simp
    omega
theorem lup_take {vs : List Int} {ts : List (List Nat × Nat)} {i : Nat} {t : List Nat × Nat} (h : ts[i]? = some t) : lup vs (ts.take (i + 1)) = lup vs (ts.take i) ++ [1 + maxOr 0 (t.1.map (at0 (lup vs (ts.take i))))] := by
  rw [List.take_succ, h]
  simp [lup]
theorem at_pos {ls : List Int} (h : ∀ x ∈ ls, 0 ≤ x) (a : Nat) : 0 ≤ at0 ls a := by
  unfold at0
  by_cases hl : a < ls.length
  · have : ls.getD a 0 = ls[a] := by simp [hl]
    rw [this]
    exact h _ (List.getElem_mem hl)
  · have : ls.getD a 0 = 0 := by simp [List.getElem?_eq_none (Nat.le_of_not_lt hl)]
    omega
theorem map_pos {ls : List Int} (h : ∀ x ∈ ls, 0 ≤ x) (l : List Nat) : ∀ x ∈ l.map (at0 ls), 0 ≤ x := fun x m => by
  obtain ⟨a, _, rfl⟩ := List.mem_map.mp m
  exact at_pos h a
theorem maxI_up : ∀ (l : List Int) (m b : Int), m ≤ b → (∀ x ∈ l, x ≤ b) → maxI m l ≤ b
  | [], m, b, h, _ => h
  | x :: r, m, b, h, k => by
    unfold maxI
    exact maxI_up r _ b (by split; exact k x (by simp); exact h) fun y my => k y (by simp [my])
theorem maxOr_up (l : List Int) (b : Int) (hb : 0 ≤ b) (k : ∀ x ∈ l, x ≤ b) : maxOr 0 l ≤ b := by
  cases l with
  | nil => exact hb
  | cons x r => exact maxI_up r x b (k x (by simp)) fun y m => k y (by simp [m])
theorem at_up {ls : List Int} {b : Int} (hb : 0 ≤ b) (h : ∀ x ∈ ls, x ≤ b) (a : Nat) : at0 ls a ≤ b := by
  unfold at0
  by_cases hl : a < ls.length
  · have : ls.getD a 0 = ls[a] := by simp [hl]
    rw [this]
    exact h _ (List.getElem_mem hl)
  · have : ls.getD a 0 = 0 := by simp [List.getElem?_eq_none (Nat.le_of_not_lt hl)]
    omega
theorem lup_pos : ∀ (ts : List (List Nat × Nat)) {ls : List Int}, (∀ x ∈ ls, 0 ≤ x) → ∀ x ∈ lup ls ts, 0 ≤ x
  | [], _, h => h
  | t :: r, ls, h => lup_pos r (ls := ls ++ [1 + maxOr 0 (t.1.map (at0 ls))]) fun x m => by
    rcases List.mem_append.mp m with m | m
    · exact h x m
    · rw [List.mem_singleton.mp m]
      have := maxOr_pos _ (map_pos h t.1)
      omega
theorem lup_up : ∀ (ts : List (List Nat × Nat)) {ls : List Int} {b : Int}, 0 ≤ b → (∀ x ∈ ls, x ≤ b) → ∀ x ∈ lup ls ts, x ≤ b + ts.length
  | [], _, b, _, h => by simpa [lup] using h
  | t :: r, ls, b, hb, h => by
    have := lup_up r (ls := ls ++ [1 + maxOr 0 (t.1.map (at0 ls))]) (b := b + 1) (by omega) fun x m => by
      rcases List.mem_append.mp m with m | m
      · have := h x m; omega
      · rw [List.mem_singleton.mp m]
        have := maxOr_up (t.1.map (at0 ls)) b hb fun x m => by
          obtain ⟨a, _, rfl⟩ := List.mem_map.mp m
          exact at_up hb h a
        omega
    intro x m
    have := this x m
    simp
    omega
def lvls (G : Nt) : List Int := lup (List.replicate (wOf G) 0) G.tabs
theorem lvls_len {G : Nt} : (lvls G).length = 1 + G.ins + G.regs.length + G.tabs.length := by
  rw [lvls, lup_len, List.length_replicate]; rfl
theorem lvls_pos {G : Nt} : ∀ x ∈ lvls G, 0 ≤ x := lup_pos _ fun x m => by rw [List.eq_of_mem_replicate m]; exact Int.le_refl 0
theorem lvls_up {G : Nt} (hG : Good G) : ∀ x ∈ lvls G, x ≤ 1000 := fun x m => by
  have := lup_up G.tabs (ls := List.replicate (wOf G) 0) (b := 0) (Int.le_refl 0) (fun y my => by rw [List.eq_of_mem_replicate my]; exact Int.le_refl 0) x m
  have := hG.small
  omega
def lz (G : Nt) (x1 x2 x3 x4 : O) : S := ⟨[some (ntD G, true), x1, x2, x3, x4], []⟩
theorem first_ok {n : Nat} {G : Nt} {f : String} {c : Fn} (h : T.fns f = some c) (hc : c = ⟨c.names, 1, [false], [.ret (.op2 .add (.op2 .add (.con (.int 1)) (.op2 .idx (.var 0) (.con (.int 1)))) (.op1 .len (.op2 .idx (.var 0) (.con (.int 2)))))]⟩) (hn : c.names.length = 1) : callF T (n + 1) f [ntD G] [] = .ok (.int (wOf G)) true [] [] := by
  have e : ev (lkOf T n) (.op2 .add (.op2 .add (.con (.int 1)) (.op2 .idx (.var 0) (.con (.int 1)))) (.op1 .len (.op2 .idx (.var 0) (.con (.int 2))))) ⟨[some (ntD G, true)], []⟩ = .ok (.int (wOf G)) true ⟨[some (ntD G, true)], []⟩ := by
    simp [ev, ntD, Cn.d, ixN, cfs_pD, cfs_tD, cf_nT, disj, vars, muts, op1, wOf]
  have r := run_ret (r := []) e
  rw [hc] at h
  exact call_ret h rfl (show startS ⟨c.names, 1, [false], _⟩ [ntD G] [] = _ by simp [startS, hn, cf_ntD]) r (outs_none rfl)
section
variable {n : Nat} {G : Nt} {x1 x2 x3 x4 : O} {ls : List Int} {ns : List Nat}
def mE : Ex := .comp [4] (.n 4) 1 (.var 2) (.con .non) [] (.op2 .idx (.var 1) (.var 4))
theorem mE_ok (hn : ∀ a ∈ ns, a < ls.length) (few : ns.length ≤ 1000) : ev L mE (lz G (oV ls) (some (nT ns, true)) x3 none) = .ok (.lst ((ns.map (at0 ls)).map .int)) true (lz G (oV ls) (some (nT ns, true)) x3 none) := by
  rw [mE, comp_pure (items := ns.map fun n : Nat => D.int n) (g := fun x => match x with | .int l => .int (at0 ls l.toNat) | _ => .non) (F := fun x => lz G (oV ls) (some (nT ns, true)) x3 (some (x, cf x))) (d1 := nT ns) (k1 := true)
    (by simp [ev, lz, cf_nT]) rfl (cfs_nats _) (by simp [cfs_nats, disj, vars, varss, muts, mutss, S.flatAt, tgs, lz]) (by simp [sizeLine_eq]; omega)
    (fun x hx => by simp [bindT, S.hide, lz]) (fun x hx => by simp [S.hide, lz]) (by simp [S.hide, lz]) (fun x hx => by
      obtain ⟨p, mp, rfl⟩ := List.mem_map.mp hx
      exact idx_lst (L := L) (A := .var 1) (B := .var 4) (st := lz G (oV ls) (some (nT ns, true)) x3 (oN p)) (kA := false) (zs := ls.map .int) (j := p) rfl rfl rfl (ix_len (hn p mp)) (get_at (hn p mp))) (by simp [S.restore, lz]) (fun x hx => by simp [S.restore, lz])]
  simp [Function.comp_def]
/-- a loop that appends each table's level -/
theorem lev_loop (hG : Good G) {e : Ex} (hm : (muts e).contains 1 = false) (hm2 : muts e = []) (he : ∀ (ls : List Int) (ns : List Nat) (x3 : O), (∀ x ∈ ls, 0 ≤ x) → (∀ a ∈ ns, a < ls.length) → ns.length ≤ 6 → ev L e (lz G (oV ls) (some (nT ns, true)) x3 none) = .ok (.int (1 + maxOr 0 (ns.map (at0 ls)))) true (lz G (oV ls) (some (nT ns, true)) x3 none)) :
    exec L (.forI (.t [.n 2, .n 3]) 1 (.op2 .idx (.var 0) (.con (.int 3))) (.con .non) [2, 3, 4] [.app 1 [] e]) (lz G (oV (List.replicate (wOf G) 0)) none none none) = .next (lz G (oV (lvls G)) none none none) := by
  have small := hG.small
  obtain ⟨st', e, rfl⟩ := exec_for (L := L) (I := fun i s => s = lz G (oV (lup (List.replicate (wOf G) 0) (G.tabs.take i))) none none none) (tg := .t [.n 2, .n 3]) (kind := 1) (it := .op2 .idx (.var 0) (.con (.int 3))) (it2 := .con .non) (clr := [2, 3, 4]) (b := [.app 1 [] e])
    (st := lz G (oV (List.replicate (wOf G) 0)) none none none) (d1 := .tup (G.tabs.map tD)) (k1 := true) (st1 := lz G (oV (List.replicate (wOf G) 0)) none none none) (d2 := .non) (k2 := true) (st2 := lz G (oV (List.replicate (wOf G) 0)) none none none) (st3 := lz G (oV (List.replicate (wOf G) 0)) none none none)
    (items := G.tabs.map tD) (by simp [ev, lz, ntD, Cn.d, ixN, cfs_pD, cfs_tD, cf_nT, disj, vars, muts]) rfl rfl (by simp [disj, vars]) (by rw [if_pos (cfs_tD _)]) (by simp [lup]) fun i x s hx hi => by
      subst hi
      rw [List.getElem?_map] at hx
      obtain ⟨t, ht, rfl⟩ := Option.map_eq_some_iff.mp hx
      have hi : i < G.tabs.length := (List.getElem?_eq_some_iff.mp ht).1
      obtain ⟨l6, ha⟩ := hG.tabs i t ht
      have len : (lup (List.replicate (wOf G) 0) (G.tabs.take i)).length = 1 + G.ins + G.regs.length + i := by rw [lup_len, List.length_replicate, List.length_take, wOf]; omega
      have ps := lup_pos (G.tabs.take i) (ls := List.replicate (wOf G) 0) fun x m => by rw [List.eq_of_mem_replicate m]; exact Int.le_refl 0
      rw [lup_take ht]
      generalize lup (List.replicate (wOf G) 0) (G.tabs.take i) = ws at *
      have ap := app_ok (L := L) (i := 1) (xs := ws.map .int) rfl hm (he ws t.1 (some (.int t.2, true)) ps (fun a m => by have := ha a m; omega) l6) (by simp [sizeLine_eq]; omega)
      exact ⟨lz G (oV ws) (some (nT t.1, true)) (some (.int t.2, true)) none, _, by simp [bindT, bindTs, lz, tD, cf_nT], .inl (run_cons ap rfl), by simp [S.hide, lz, oV, vL]⟩
  rw [e, List.length_map, List.take_length]
  rfl
theorem levels_ok (h0 : Has T) (hG : Good G) : callF T (n + 2) "_levels" [ntD G] [] = .ok (vL (lvls G)) true [] [] := by
  have small := hG.small
  have cl := ev_callP (L := lkOf T (n + 1)) (f := "_first_table") (es := [.var 0]) (st := lz G none none none none) (ds := [(ntD G, true)]) (outs := []) (lk_io h0.first) rfl rfl rfl (by simp [evs, ev, lz, disj, vars, muts, mutss, cf_ntD]) (first_ok (n := n) (G := G) h0.first rfl rfl)
  have e1 : ev (lkOf T (n + 1)) (.comp [3] (.n 3) 0 (.call "_first_table" [.var 0]) (.con .non) [] (.con (.int 0))) (lz G none none none none) = .ok (vL (List.replicate (wOf G) 0)) true (lz G none none none none) := by
    have w : wOf G ≤ 1000 := by unfold wOf; omega
    rw [comp_pure (items := (List.range (wOf G)).map fun i : Nat => D.int i) (g := fun _ => .int 0) (F := fun x => lz G none none (some (x, cf x)) none) (d1 := .int (wOf G)) (k1 := true)
      cl (items_range (by omega)) (cfs_nats _) (by simp [cfs_nats, disj, vars, varss, muts, mutss, S.flatAt, tgs, lz]) (by simp [sizeLine_eq]; omega)
      (fun x hx => by simp [bindT, S.hide, lz]) (fun x hx => by simp [S.hide, lz]) (by simp [S.hide, lz]) (fun x hx => by simp [ev, Cn.d]) (by simp [S.restore, lz]) (fun x hx => by simp [S.restore, lz])]
    simp [vL]
    rw [List.eq_replicate_iff]
    simp
  have e1' := run_asg (L := lkOf T (n + 1)) (t := .n 1) e1 (st2 := lz G (oV (List.replicate (wOf G) 0)) none none none) (by simp [bindT, S.keep, lz, oV])
  have e2 := lev_loop (L := lkOf T (n + 1)) (e := .op2 .add (.con (.int 1)) (.op2 .maxD mE (.con (.int 0)))) hG rfl rfl fun ls ns x3 _ hn hl => by
    have e := mE_ok (L := lkOf T (n + 1)) (G := G) (x3 := x3) (ls := ls) (ns := ns) hn (by omega)
    have m : muts mE = [] := rfl
    generalize mE = z at e m
    simp only [ev, e, o_maxD, Cn.d, disj, muts, m, List.all_nil, Bool.or_true, Bool.true_or, if_true, o_add]
  have r := run_cons e1' (run_cons e2 (run_ret (r := []) (e := .mv 1) (by simp [ev, lz, oV]; exact ⟨rfl, rfl, rfl⟩)))
  exact call_ret h0.levels rfl (show startS c_levels [ntD G] [] = _ by simp [startS, c_levels, cf_ntD, lz]) r (outs_none rfl)
theorem llevels_ok (h0 : Has T) (hG : Good G) : callF T (n + 2) "_law_net_levels" [ntD G] [] = .ok (vL (lvls G)) true [] [] := by
  have small := hG.small
  have cl := ev_callP (L := lkOf T (n + 1)) (f := "_law_net_first") (es := [.var 0]) (st := lz G none none none none) (ds := [(ntD G, true)]) (outs := []) (lk_io h0.lfirst) rfl rfl rfl (by simp [evs, ev, lz, disj, vars, muts, mutss, cf_ntD]) (first_ok (n := n) (G := G) h0.lfirst rfl rfl)
  have w : wOf G ≤ 1000 := by unfold wOf; omega
  have mu : op2 .mul (.lst [.int 0]) (.int (wOf G)) = some (.lst ((List.replicate (wOf G) 0).map .int), true) := by
    have e : (List.replicate ((wOf G : Int)).toNat [D.int 0]).flatten = (List.replicate (wOf G) (0 : Int)).map .int := by
      rw [Int.toNat_natCast]
      induction wOf G with
      | zero => rfl
      | succ k ih => simp [List.replicate_succ, ih]
    simp only [op2]
    rw [if_pos ⟨by omega, by omega, by simp [sizeLine_eq]; omega, rfl⟩, e]
  have e1' : exec (lkOf T (n + 1)) (.asg (.n 1) (.op2 .mul (.lst [.con (.int 0)]) (.call "_law_net_first" [.var 0]))) (lz G none none none none) = .next (lz G (oV (List.replicate (wOf G) 0)) none none none) := by
    refine run_asg (d := vL (List.replicate (wOf G) 0)) (k := true) (st1 := lz G none none none none) ?_ (by simp [bindT, S.keep, lz, oV])
    have l0 : ev (lkOf T (n + 1)) (.lst [.con (.int 0)]) (lz G none none none none) = .ok (.lst [.int 0]) true (lz G none none none none) := by simp [ev, evs, Cn.d, sizeLine_eq]
    generalize Ex.lst [.con (.int 0)] = z1 at l0
    generalize Ex.call "_law_net_first" [.var 0] = z at cl
    simp only [ev, l0, cl, Bool.true_or, if_true, mu]
    rfl
  have e2 := lev_loop (L := lkOf T (n + 1)) (e := .op2 .add (.con (.int 1)) (.op1 .maxL (.op2 .add (.lst [.con (.int 0)]) mE))) hG rfl rfl fun ls ns x3 hp hn hl => by
    have e := mE_ok (L := lkOf T (n + 1)) (G := G) (x3 := x3) (ls := ls) (ns := ns) hn (by omega)
    have m : muts mE = [] := rfl
    have l0 : ev (lkOf T (n + 1)) (.lst [.con (.int 0)]) (lz G (oV ls) (some (nT ns, true)) x3 none) = .ok (.lst [.int 0]) true (lz G (oV ls) (some (nT ns, true)) x3 none) := by simp [ev, evs, Cn.d, sizeLine_eq]
    have m0 : muts (.lst [.con (.int 0)]) = [] := rfl
    have ad : op2 .add (.lst [.int 0]) (.lst ((ns.map (at0 ls)).map .int)) = some (.lst ((0 :: ns.map (at0 ls)).map .int), true) := by
      rw [o_addL (by simp [sizeLine_eq]; omega), cfs_int]
      rfl
    generalize mE = z at e m
    generalize Ex.lst [.con (.int 0)] = z1 at l0 m0
    simp only [ev, e, l0, ad, o_maxL, maxOr_zero _ (map_pos hp ns), Cn.d, disj, muts, m, m0, List.all_nil, List.append_nil, Bool.or_true, Bool.true_or, if_true, o_add]
  have r := run_cons e1' (run_cons e2 (run_ret (r := []) (e := .mv 1) (by simp [ev, lz, oV]; exact ⟨rfl, rfl, rfl⟩)))
  exact call_ret h0.llevels rfl (show startS c_law_net_levels [ntD G] [] = _ by simp [startS, c_law_net_levels, cf_ntD, lz]) r (outs_none rfl)
theorem lin_ok (h0 : Has T) (hG : Good G) {a : Nat} (ha : a < 1 + G.ins + G.regs.length + G.tabs.length) : callF T (n + 3) "level_in" [ntD G, .int a] [] = .ok (.int (at0 (lvls G) a)) true [] [] := by
  have cl := ev_callP (L := lkOf T (n + 2)) (f := "_levels") (es := [.var 0]) (st := ⟨[some (ntD G, true), some (.int a, true)], []⟩) (ds := [(ntD G, true)]) (outs := []) (lk_io h0.levels) rfl rfl rfl (by simp [evs, ev, disj, vars, muts, mutss, cf_ntD]) (levels_ok (n := n) h0 hG)
  have e := idx_lst (L := lkOf T (n + 2)) (A := .call "_levels" [.var 0]) (B := .var 1) (st := ⟨[some (ntD G, true), some (.int a, true)], []⟩) (kA := true) (zs := (lvls G).map .int) (j := a) cl rfl rfl (ix_len (by rw [lvls_len]; exact ha)) (get_at (by rw [lvls_len]; exact ha))
  have r := run_ret (r := []) e
  exact call_ret h0.lin rfl (show startS clevel_in [ntD G, .int a] [] = _ by simp [startS, clevel_in, cf_ntD]) r (outs_none rfl)
end
end VS.K52

-- Dep52
namespace VS.K52
open PySem L2 _root_.K52
variable {T : Tb} {L : Lk}
def dps (G : Nt) : List Int := G.outs.map (at0 (lvls G)) ++ G.regs.map fun p => at0 (lvls G) p.2
def dpt (G : Nt) : Int := maxOr 0 (dps G)
theorem dps_pos {G : Nt} : ∀ x ∈ dps G, 0 ≤ x := fun x m => by
  rcases List.mem_append.mp m with m | m
  · exact map_pos lvls_pos _ x m
  · obtain ⟨p, _, rfl⟩ := List.mem_map.mp m
    exact at_pos lvls_pos _
theorem dpt_up {G : Nt} (hG : Good G) : dpt G ≤ 1000 := maxOr_up _ _ (by decide) fun x m => by
  rcases List.mem_append.mp m with m | m
  · obtain ⟨p, _, rfl⟩ := List.mem_map.mp m
    exact at_up (by decide) (lvls_up hG) _
  · obtain ⟨p, _, rfl⟩ := List.mem_map.mp m
    exact at_up (by decide) (lvls_up hG) _
section
variable {n : Nat} {G : Nt} {x2 x3 x4 : O}
def tkE : Ex := .comp [3, 4] (.t [.n 3, .n 4]) 1 (.op2 .idx (.var 0) (.con (.int 2))) (.con .non) [] (.var 4)
theorem tkE_ok (hG : Good G) {x1 : O} : ev L tkE (lz G x1 x2 none none) = .ok (.lst ((G.regs.map (·.2)).map fun n : Nat => .int n)) true (lz G x1 x2 none none) := by
  have small := hG.small
  rw [tkE, comp_pure (items := G.regs.map pD) (g := fun x => match x with | .tup [_, b] => b | _ => .non) (F := fun x => match x with | .tup [a, b] => lz G x1 x2 (some (a, true)) (some (b, true)) | _ => ⟨[], []⟩) (d1 := .tup (G.regs.map pD)) (k1 := true)
    (by simp [ev, lz, ntD, Cn.d, ixN, cfs_pD, cfs_tD, cf_nT, disj, vars, muts]) rfl (cfs_pD _) (by simp [cfs_pD, disj, vars, varss, muts, mutss, S.flatAt, tgs, tgss, lz]) (by simp [sizeLine_eq]; omega)
    (fun x hx => by obtain ⟨p, _, rfl⟩ := List.mem_map.mp hx; simp [bindT, bindTs, S.hide, lz, pD]) (fun x hx => by obtain ⟨p, _, rfl⟩ := List.mem_map.mp hx; simp [S.hide, lz, pD]) (by simp [S.hide, lz]) (fun x hx => by obtain ⟨p, _, rfl⟩ := List.mem_map.mp hx; simp [ev, lz, pD]) (by simp [S.restore, lz]) (fun x hx => by obtain ⟨p, _, rfl⟩ := List.mem_map.mp hx; simp [S.restore, lz, pD])]
  simp [pD, Function.comp_def]
def stE : Ex := .lstS [true, true] [.op2 .idx (.var 0) (.con (.int 4)), tkE]
theorem stE_ok (hG : Good G) {x1 : O} : ev L stE (lz G x1 x2 none none) = .ok (.lst ((G.outs ++ G.regs.map (·.2)).map fun n : Nat => .int n)) true (lz G x1 x2 none none) := by
  have small := hG.small
  have fw := hG.few
  have e1 : ev L (.op2 .idx (.var 0) (.con (.int 4))) (lz G x1 x2 none none) = .ok (nT G.outs) true (lz G x1 x2 none none) := by
    simp [ev, lz, ntD, Cn.d, ixN, cfs_pD, cfs_tD, cf_nT, disj, vars, muts]
  have e2 := tkE_ok (L := L) (G := G) (x1 := x1) (x2 := x2) hG
  have es := evs_cons (L := L) e1 rfl (evs_cons (r := []) e2 rfl rfl)
  unfold stE
  simp only [ev, es]
  simp [starred, nT, sizeLine_eq, cfs_nats]
  have c2 := cfs_nats (G.regs.map (·.2))
  have c1 := cfs_nats G.outs
  rw [List.map_map] at c2
  refine ⟨by omega, ?_⟩
  have e : ((fun n : Nat => D.int n) ∘ fun x : Nat × Nat => x.snd) = fun x : Nat × Nat => D.int x.snd := rfl
  first | exact ⟨c1, c2⟩ | (rw [e] at c2; exact ⟨c1, c2⟩) | exact c2 | (rw [e] at c2; exact c2)
theorem atv {a : Nat} {ls : List Int} (ha : a < ls.length) : ev L (.op2 .idx (.var 1) (.var 2)) (lz G (oV ls) (oN a) x3 x4) = .ok (.int (at0 ls a)) true (lz G (oV ls) (oN a) x3 x4) :=
  idx_lst (L := L) (A := .var 1) (B := .var 2) (st := lz G (oV ls) (oN a) x3 x4) (kA := false) (zs := ls.map .int) (j := a) rfl rfl rfl (ix_len ha) (get_at ha)
theorem there (hG : Good G) {a : Nat} (h : a ∈ G.outs ++ G.regs.map (·.2)) : a < (lvls G).length := by
  rw [lvls_len]
  rcases List.mem_append.mp h with m | m
  · exact hG.outs a m
  · obtain ⟨p, mp, rfl⟩ := List.mem_map.mp m
    exact (hG.regs p mp).2
theorem dep_ok (h0 : Has T) (hG : Good G) : callF T (n + 3) "net_depth" [ntD G] [] = .ok (.int (dpt G)) true [] [] := by
  have small := hG.small
  have fw := hG.few
  have cl := ev_callP (L := lkOf T (n + 2)) (f := "_levels") (es := [.var 0]) (st := lz G none none none none) (ds := [(ntD G, true)]) (outs := []) (lk_io h0.levels) rfl rfl rfl (by simp [evs, ev, lz, disj, vars, muts, mutss, cf_ntD]) (levels_ok (n := n) h0 hG)
  have e1 := run_asg (L := lkOf T (n + 2)) (t := .n 1) cl (st2 := lz G (oV (lvls G)) none none none) (by simp [bindT, S.keep, lz, oV])
  have e2 : ev (lkOf T (n + 2)) (.comp [2] (.n 2) 1 stE (.con .non) [] (.op2 .idx (.var 1) (.var 2))) (lz G (oV (lvls G)) none none none) = .ok (.lst ((dps G).map .int)) true (lz G (oV (lvls G)) none none none) := by
    have hh := fun a m => there hG (a := a) m
    rw [comp_pure (items := (G.outs ++ G.regs.map (·.2)).map fun n : Nat => D.int n) (g := fun x => match x with | .int l => .int (at0 (lvls G) l.toNat) | _ => .non) (F := fun x => lz G (oV (lvls G)) (some (x, cf x)) none none) (d1 := .lst ((G.outs ++ G.regs.map (·.2)).map fun n : Nat => .int n)) (k1 := true)
      (stE_ok hG) rfl (cfs_nats _) (by rw [cfs_nats]; simp [disj, vars, varss, muts, mutss, S.flatAt, tgs, lz]) (by simp [sizeLine_eq]; omega)
      (fun x hx => by simp [bindT, S.hide, lz]) (fun x hx => by simp [S.hide, lz]) (by simp [S.hide, lz]) (fun x hx => by obtain ⟨p, mp, rfl⟩ := List.mem_map.mp hx; exact atv (hh p mp)) (by simp [S.restore, lz]) (fun x hx => by simp [S.restore, lz])]
    simp [dps, Function.comp_def]
  have e3 : ev (lkOf T (n + 2)) (.op2 .maxD (.comp [2] (.n 2) 1 stE (.con .non) [] (.op2 .idx (.var 1) (.var 2))) (.con (.int 0))) (lz G (oV (lvls G)) none none none) = .ok (.int (dpt G)) true (lz G (oV (lvls G)) none none none) := by
    generalize Ex.comp [2] (.n 2) 1 stE (.con .non) [] (.op2 .idx (.var 1) (.var 2)) = z at e2
    simp only [ev, e2, o_maxD, Cn.d, Bool.true_or, if_true]
    rfl
  have r := run_cons e1 (run_ret (r := []) e3)
  exact call_ret h0.depth rfl (show startS cnet_depth [ntD G] [] = _ by simp [startS, cnet_depth, cf_ntD, lz]) r (outs_none rfl)
def ld (G : Nt) (x1 x2 x3 : O) : S := ⟨[some (ntD G, true), x1, x2, x3], []⟩
theorem atv2 {a : Nat} {ls : List Int} (ha : a < ls.length) : ev L (.op2 .idx (.var 1) (.var 2)) (ld G (oV ls) (oN a) x3) = .ok (.int (at0 ls a)) true (ld G (oV ls) (oN a) x3) :=
  idx_lst (L := L) (A := .var 1) (B := .var 2) (st := ld G (oV ls) (oN a) x3) (kA := false) (zs := ls.map .int) (j := a) rfl rfl rfl (ix_len ha) (get_at ha)
def eO : Ex := .comp [2] (.n 2) 1 (.op2 .idx (.var 0) (.con (.int 4))) (.con .non) [] (.op2 .idx (.var 1) (.var 2))
def eR : Ex := .comp [3, 2] (.t [.n 3, .n 2]) 1 (.op2 .idx (.var 0) (.con (.int 2))) (.con .non) [] (.op2 .idx (.var 1) (.var 2))
theorem ldep_ok (h0 : Has T) (hG : Good G) : callF T (n + 3) "_law_net_depth" [ntD G] [] = .ok (.int (dpt G)) true [] [] := by
  have small := hG.small
  have fw := hG.few
  have cl := ev_callP (L := lkOf T (n + 2)) (f := "_law_net_levels") (es := [.var 0]) (st := ld G none none none) (ds := [(ntD G, true)]) (outs := []) (lk_io h0.llevels) rfl rfl rfl (by simp [evs, ev, ld, disj, vars, muts, mutss, cf_ntD]) (llevels_ok (n := n) h0 hG)
  have e1 := run_asg (L := lkOf T (n + 2)) (t := .n 1) cl (st2 := ld G (oV (lvls G)) none none) (by simp [bindT, S.keep, ld, oV])
  have h1 : ev (lkOf T (n + 2)) eO (ld G (oV (lvls G)) none none) = .ok (.lst ((G.outs.map (at0 (lvls G))).map .int)) true (ld G (oV (lvls G)) none none) := by
    rw [eO, comp_pure (items := G.outs.map fun n : Nat => D.int n) (g := fun x => match x with | .int l => .int (at0 (lvls G) l.toNat) | _ => .non) (F := fun x => ld G (oV (lvls G)) (some (x, cf x)) none) (d1 := nT G.outs) (k1 := true)
      (by simp [ev, ld, ntD, Cn.d, ixN, cfs_pD, cfs_tD, cf_nT, disj, vars, muts]) rfl (cfs_nats _) (by rw [cfs_nats]; simp [disj, vars, varss, muts, mutss, S.flatAt, tgs, ld]) (by simp [sizeLine_eq]; omega)
      (fun x hx => by simp [bindT, S.hide, ld]) (fun x hx => by simp [S.hide, ld]) (by simp [S.hide, ld]) (fun x hx => by obtain ⟨p, mp, rfl⟩ := List.mem_map.mp hx; exact atv2 (there hG (by simp [mp]))) (by simp [S.restore, ld]) (fun x hx => by simp [S.restore, ld])]
    simp [Function.comp_def]
  have h2 : ev (lkOf T (n + 2)) eR (ld G (oV (lvls G)) none none) = .ok (.lst ((G.regs.map fun p => at0 (lvls G) p.2).map .int)) true (ld G (oV (lvls G)) none none) := by
    rw [eR, comp_pure (items := G.regs.map pD) (g := fun x => match x with | .tup [_, .int l] => .int (at0 (lvls G) l.toNat) | _ => .non) (F := fun x => match x with | .tup [a, b] => ld G (oV (lvls G)) (some (b, true)) (some (a, true)) | _ => ⟨[], []⟩) (d1 := .tup (G.regs.map pD)) (k1 := true)
      (by simp [ev, ld, ntD, Cn.d, ixN, cfs_pD, cfs_tD, cf_nT, disj, vars, muts]) rfl (cfs_pD _) (by simp [cfs_pD, disj, vars, varss, muts, mutss, S.flatAt, tgs, tgss, ld]) (by simp [sizeLine_eq]; omega)
      (fun x hx => by obtain ⟨p, _, rfl⟩ := List.mem_map.mp hx; simp [bindT, bindTs, S.hide, ld, pD]) (fun x hx => by obtain ⟨p, _, rfl⟩ := List.mem_map.mp hx; simp [S.hide, ld, pD]) (by simp [S.hide, ld]) (fun x hx => by
        obtain ⟨p, mp, rfl⟩ := List.mem_map.mp hx
        exact atv2 (there hG (List.mem_append.mpr (.inr (List.mem_map.mpr ⟨p, mp, rfl⟩))))) (by simp [S.restore, ld]) (fun x hx => by obtain ⟨p, _, rfl⟩ := List.mem_map.mp hx; simp [S.restore, ld, pD])]
    simp [pD, Function.comp_def]
  have e3 : ev (lkOf T (n + 2)) (.op1 .maxL (.op2 .add (.op2 .add (.lst [.con (.int 0)]) eO) eR)) (ld G (oV (lvls G)) none none) = .ok (.int (dpt G)) true (ld G (oV (lvls G)) none none) := by
    have l0 : ev (lkOf T (n + 2)) (.lst [.con (.int 0)]) (ld G (oV (lvls G)) none none) = .ok (.lst [.int 0]) true (ld G (oV (lvls G)) none none) := by simp [ev, evs, Cn.d, sizeLine_eq]
    have a1 : op2 .add (.lst [.int 0]) (.lst ((G.outs.map (at0 (lvls G))).map .int)) = some (.lst ((0 :: G.outs.map (at0 (lvls G))).map .int), true) := by
      rw [o_addL (by simp [sizeLine_eq]; omega), cfs_int]
      rfl
    have a2 : op2 .add (.lst ((0 :: G.outs.map (at0 (lvls G))).map .int)) (.lst ((G.regs.map fun p => at0 (lvls G) p.2).map .int)) = some (.lst ((0 :: dps G).map .int), true) := by
      rw [o_addL (by simp [sizeLine_eq]; omega), cfs_int, cfs_int, ← List.map_append]
      rfl
    generalize eO = z at h1
    generalize eR = z2 at h2
    generalize Ex.lst [.con (.int 0)] = z1 at l0
    simp only [ev, l0, h1, h2, a1, a2, o_maxL, maxOr_zero _ dps_pos, Bool.true_or, if_true]
    rfl
  have r := run_cons e1 (run_ret (r := []) e3)
  exact call_ret h0.ldepth rfl (show startS c_law_net_depth [ntD G] [] = _ by simp [startS, c_law_net_depth, cf_ntD, ld]) r (outs_none rfl)
end
end VS.K52

-- Draw52
namespace VS.K52
open PySem L2 _root_.K52
variable {T : Tb} {L : Lk}
/-! ### what may be compared -/
structure Fl (k : Nat) (ds : List D) : Prop where
  p : plains ds = true
  c : PyData.canLayAll0 (toPs ds) = true
  d : PyData.depthAll (toPs ds) ≤ k
theorem Fl.lst {k : Nat} {ds : List D} (h : Fl k ds) (hk : k ≤ 60) : flatOk (.lst ds) = true := by
  unfold flatOk SeqAt.shaped
  have := h.d
  simp only [plain, h.p, toP, PyData.canLay0, h.c, PyData.depth, Bool.true_and, decide_eq_true_eq]
  omega
theorem fl_nats : ∀ ns : List Nat, Fl 0 (ns.map fun n : Nat => D.int n)
  | [] => ⟨rfl, rfl, by simp [toPs, PyData.depthAll]⟩
  | n :: r => by
    obtain ⟨a, b, c⟩ := fl_nats r
    exact ⟨by simp [plains, plain, a], by simp [toPs, toP, PyData.canLayAll0, PyData.canLay0, b], by simp [toPs, toP, PyData.depthAll, PyData.depth]; omega⟩
theorem fl_tabs : ∀ ts : List (List Nat × Nat), Fl 2 (ts.map tD)
  | [] => ⟨rfl, rfl, by simp [toPs, PyData.depthAll]⟩
  | t :: r => by
    obtain ⟨a, b, c⟩ := fl_tabs r
    obtain ⟨a', b', c'⟩ := fl_nats t.1
    refine ⟨by simp [plains, plain, tD, nT, a, a'], by simp [toPs, toP, tD, nT, PyData.canLayAll0, PyData.canLay0, b, b'], ?_⟩
    simp only [List.map_cons, toPs, toP, tD, nT, PyData.depthAll, PyData.depth]
    omega
/-! ### xs.pop(i) -/
theorem popAt_ok {i : Nat} {e : Ex} {st st1 : S} {xs : List D} {r : Int} {x : D} (hl : st.get i = some (.lst xs, true)) (hm : (muts e).contains i = false) (he : ev L e st = .ok (.int r) true st1) (h1 : st1.get i = some (.lst xs, true)) (hr : 0 ≤ r) (hx : xs[r.toNat]? = some x) (few : xs.length ≤ 100000) :
    ev L (.popAt i [] e) st = .ok x true (st1.set i (some (.lst (xs.eraseIdx r.toNat), true))) := by
  have a1 : lstAt st i [] = true := by simp [lstAt, hl, atPath, asLst]
  have hb : r < 1000000000 := by have := (List.getElem?_eq_some_iff.mp hx).1; omega
  simp only [ev, a1, hm, Bool.not_false, Bool.and_self, if_true, he, h1, atPath, popAtD]
  rw [if_pos ⟨hr, hb⟩]
  simp only [hx]
/-! ### mixed -/
def ms (d : D) (xs rest : List Nat) (x3 : O) : S := ⟨[some (d, true), some (.lst (xs.map fun n : Nat => D.int n), false), some (.lst (rest.map fun n : Nat => D.int n), true), x3], []⟩
theorem erase_map {α β : Type} (f : α → β) : ∀ (l : List α) (i : Nat), (l.map f).eraseIdx i = (l.eraseIdx i).map f
  | [], _ => rfl
  | _ :: _, 0 => rfl
  | x :: l, i + 1 => by simp [erase_map f l i]
def mxE : Ex := .popAt 2 [] (.call "_law_pick" [.io 0, .op1 .len (.var 2)])
theorem mxE_ok (h0 : Has T) {n : Nat} {d : D} {xs rest : List Nat} {x3 : O} (hd : IsSrc d) (hr : rest ≠ []) (few : rest.length ≤ 100000) : ∃ (y : Nat) (d' : D) (j : Nat), ev (lkOf T (n + 1)) mxE (ms d xs rest x3) = .ok (.int y) true (ms d' xs (rest.eraseIdx j) x3) ∧ IsSrc d' ∧ y ∈ rest ∧ j < rest.length := by
  obtain ⟨r, d', p, s, r0, r1⟩ := ev_pickP (n := n) h0.isPick (st := ms d xs rest x3) (st1 := ms d xs rest x3) (i := 0) (e := .op1 .len (.var 2)) (k := rest.length) rfl (by simp [ev, ms, op1]) rfl rfl hd (by omega)
  have q : (ms d xs rest x3).set 0 (some (d', true)) = ms d' xs rest x3 := by simp [ms]
  rw [q] at p
  have pos : 0 < rest.length := List.length_pos_iff.mpr hr
  have rl : r.toNat < rest.length := by omega
  have hx : (rest.map fun n : Nat => D.int n)[r.toNat]? = some (.int (rest[r.toNat] : Nat)) := by simp [rl]
  refine ⟨rest[r.toNat], d', r.toNat, ?_, s, List.getElem_mem rl, rl⟩
  have e := popAt_ok (L := lkOf T (n + 1)) (i := 2) (st := ms d xs rest x3) (st1 := ms d' xs rest x3) (e := .call "_law_pick" [.io 0, .op1 .len (.var 2)]) rfl rfl p rfl r0 hx (by simpa using few)
  rw [mxE, e]
  simp [ms, erase_map]
theorem mixed_ok (h0 : Has T) {n : Nat} {d : D} {xs : List Nat} (hd : IsSrc d) (few : xs.length ≤ 1000) : ∃ (ys : List Nat) (d' : D), callF T (n + 2) "_law_mixed" [d, .lst (xs.map fun n : Nat => D.int n)] [] = .ok (.lst (ys.map fun n : Nat => D.int n)) true [d'] [] ∧ IsSrc d' ∧ ys.length = xs.length ∧ ∀ y ∈ ys, y ∈ xs := by
  have e1 : exec (lkOf T (n + 1)) (.asg (.n 2) (.op1 .listOf (.var 1))) ⟨[some (d, true), some (.lst (xs.map fun n : Nat => D.int n), false), none, none], []⟩ = .next (ms d xs xs none) := by
    have c := cfs_nats xs
    simp [exec, ev, bindT, S.keep, ms, op1, c]
  obtain ⟨ys, st3, f, ps, d', rest, hd', _, hl, hP, rfl, o, rfl⟩ := ev_comp (L := lkOf T (n + 1)) (I := fun i ys s => ∃ (ps : List Nat) (d : D) (rest : List Nat), IsSrc d ∧ (rest.length + i = xs.length ∧ ∀ y ∈ rest, y ∈ xs) ∧ ps.length = i ∧ (∀ y ∈ ps, y ∈ xs) ∧ ys = ps.map (fun p : Nat => (D.int p, true)) ∧ ∃ o : O, s = ms d xs rest o)
    (own := [3]) (tg := .n 3) (kind := 0) (it := .op1 .len (.var 2)) (it2 := .con .non) (cs := []) (e := mxE) (st := ms d xs xs none) (st1 := ms d xs xs none) (st2 := ms d xs xs none) (d1 := .int xs.length) (k1 := true) (d2 := .non) (k2 := true) (items := (List.range xs.length).map fun i : Nat => D.int i)
    (by simp [ev, ms, op1]) rfl (items_range (by omega)) (by simp [cfs_nats, disj, vars, varss, muts, mutss, S.flatAt, tgs, ms, mxE]) (by simp [sizeLine_eq]; omega) ⟨[], d, xs, hd, ⟨by simp, fun _ m => m⟩, rfl, by simp, rfl, none, rfl⟩ fun i x ys s hx hi => by
      obtain ⟨ps, d, rest, hd, ⟨hr1, hr2⟩, hl, hP, rfl, o, rfl⟩ := hi
      have hi : i < xs.length := by have := (List.getElem?_eq_some_iff.mp hx).1; simpa using this
      obtain rfl : D.int i = x := by rw [List.getElem?_map, List.getElem?_range hi] at hx; exact Option.some.inj hx
      have hne : rest ≠ [] := fun z => by rw [z] at hr1; simp at hr1; omega
      obtain ⟨y, d2, j, q1, q2, q3, q4⟩ := mxE_ok (n := n) (xs := xs) (x3 := some (.int i, true)) h0 hd hne (by omega)
      refine ⟨ms d xs rest (some (.int i, true)), true, ms d xs rest (some (.int i, true)), by simp [bindT, S.hide, ms], by simp [evC], .inr ⟨rfl, .int y, true, ms d2 xs (rest.eraseIdx j) (some (.int i, true)), q1, rfl, ps ++ [y], d2, rest.eraseIdx j, q2, ⟨by rw [List.length_eraseIdx, if_pos q4]; omega, fun z m => hr2 z (List.mem_of_mem_eraseIdx m)⟩, by simp [hl], fun z m => ?_, by simp, _, rfl⟩⟩
      rcases List.mem_append.mp m with m | m
      · exact hP z m
      · rw [List.mem_singleton.mp m]; exact hr2 y q3
  have f' : ev (lkOf T (n + 1)) (.comp [3] (.n 3) 0 (.op1 .len (.var 2)) (.con .non) [] mxE) (ms d xs xs none) = .ok (.lst (ps.map fun n : Nat => D.int n)) true (ms d' xs rest none) := by
    rw [f]
    simp [S.restore, ms, Function.comp_def]
  have r := run_cons e1 (run_ret (r := []) f')
  refine ⟨ps, d', ?_, hd', by simpa using hl, hP⟩
  exact call_ret h0.mixed rfl (show startS c_law_mixed [d, .lst (xs.map fun n : Nat => D.int n)] [] = _ by simp [startS, c_law_mixed]) r (outs_first rfl rfl rfl)
end VS.K52

-- Draw2
namespace VS.K52
open PySem L2 _root_.K52
variable {T : Tb} {L : Lk}
def dn (d : D) (k a b c : Nat) (x5 x6 x7 x8 x9 x10 x11 x12 x13 x14 x15 x16 : O) : S := ⟨[some (d, true), some (.int k, true), some (.int a, true), some (.int b, true), some (.int c, true), x5, x6, x7, x8, x9, x10, x11, x12, x13, x14, x15, x16], []⟩
def oTs (ts : List (List Nat × Nat)) : O := some (.lst (ts.map tD), true)
def oNs (b : Bool) (ns : List Nat) : O := some (.lst (ns.map fun n : Nat => D.int n), b)
def Tabs (w : Nat) (ts : List (List Nat × Nat)) : Prop := ∀ (i : Nat) (t : List Nat × Nat), ts[i]? = some t → t.1.length ≤ 6 ∧ ∀ a ∈ t.1, a < w + i
theorem tabs_snoc {w : Nat} {ts : List (List Nat × Nat)} {t : List Nat × Nat} (h : Tabs w ts) (h1 : t.1.length ≤ 6) (h2 : ∀ a ∈ t.1, a < w + ts.length) : Tabs w (ts ++ [t]) := by
  intro i x hx
  by_cases hi : i < ts.length
  · rw [List.getElem?_append_left hi] at hx
    exact h i x hx
  · rw [List.getElem?_append_right (by omega)] at hx
    have : i - ts.length = 0 := by
      have := (List.getElem?_eq_some_iff.mp hx).1
      simp at this
      omega
    rw [this] at hx
    cases hx
    have : i = ts.length := by omega
    subst this
    exact ⟨h1, h2⟩
theorem tabs_mem {w : Nat} {ts : List (List Nat × Nat)} (h : Tabs w ts) {t : List Nat × Nat} (m : t ∈ ts) : t.1.length ≤ 6 ∧ ∀ a ∈ t.1, a < w + ts.length := by
  obtain ⟨i, hi, rfl⟩ := List.mem_iff_getElem.mp m
  obtain ⟨a, b⟩ := h i ts[i] (List.getElem?_eq_getElem hi)
  exact ⟨a, fun x mx => by have := b x mx; omega⟩
section
variable {n k a b c : Nat} {d : D} {x5 x6 x7 x8 x9 x10 x11 x12 x13 x14 x15 x16 : O} {ins rg m : Nat} {ts : List (List Nat × Nat)}
def mE2 : Ex := .op2 .add (.op2 .add (.op2 .add (.con (.int 1)) (.var 9)) (.var 10)) (.op1 .len (.var 11))
theorem mE2_ok : ev L mE2 (dn d k a b c x5 x6 x7 x8 (oN ins) (oN rg) (oTs ts) x12 x13 x14 x15 x16) = .ok (.int ((1 + ins + rg + ts.length : Nat) : Int)) true (dn d k a b c x5 x6 x7 x8 (oN ins) (oN rg) (oTs ts) x12 x13 x14 x15 x16) := by
  simp [mE2, ev, dn, oN, oTs, Cn.d, op1, disj, vars, muts]
/-- the nodes near by, and one more -/
def neE : Ex := .op2 .add (.op2 .rngL (.op2 .max2 (.con (.int 0)) (.op2 .sub (.var 6) (.con (.int 7)))) (.var 6)) (.lst [.call "_law_pick" [.io 0, .var 6]])
theorem neE_ok (h0 : Has T) (hd : IsSrc d) (hm : 1 ≤ m) (hm' : m ≤ 1000) : ∃ (xs : List Nat) (d' : D), ev (lkOf T (n + 1)) neE (dn d k a b c x5 (oN m) x7 x8 x9 x10 x11 x12 x13 x14 x15 x16) = .ok (.lst (xs.map fun n : Nat => D.int n)) true (dn d' k a b c x5 (oN m) x7 x8 x9 x10 x11 x12 x13 x14 x15 x16) ∧ IsSrc d' ∧ (∀ x ∈ xs, x < m) ∧ xs.length ≤ 1000 := by
  obtain ⟨r, d', p, s, r0, r1⟩ := ev_pickP (n := n) h0.isPick (st := dn d k a b c x5 (oN m) x7 x8 x9 x10 x11 x12 x13 x14 x15 x16) (st1 := dn d k a b c x5 (oN m) x7 x8 x9 x10 x11 x12 x13 x14 x15 x16) (i := 0) (e := .var 6) (k := m) rfl (by simp [ev, dn, oN]) rfl rfl hd (by omega)
  have q : (dn d k a b c x5 (oN m) x7 x8 x9 x10 x11 x12 x13 x14 x15 x16).set 0 (some (d', true)) = dn d' k a b c x5 (oN m) x7 x8 x9 x10 x11 x12 x13 x14 x15 x16 := by simp [dn]
  rw [q] at p
  have lo : (if ((m : Int) - 7) > 0 then ((m : Int) - 7) else 0) = ((m - 7 : Nat) : Int) := by split <;> omega
  have rg : op2 .rngL (.int ((m - 7 : Nat) : Int)) (.int m) = some (.lst (((List.range (m - (m - 7))).map fun i => m - 7 + i).map fun n : Nat => D.int n), true) := by
    simp only [op2]
    rw [if_pos ⟨by omega, by omega, by omega, by omega⟩]
    unfold rngD
    rw [show ((m : Int) - ((m - 7 : Nat) : Int)).toNat = m - (m - 7) by omega]
    simp
  have e1 : ev (lkOf T (n + 1)) (.op2 .rngL (.op2 .max2 (.con (.int 0)) (.op2 .sub (.var 6) (.con (.int 7)))) (.var 6)) (dn d k a b c x5 (oN m) x7 x8 x9 x10 x11 x12 x13 x14 x15 x16) = .ok (.lst (((List.range (m - (m - 7))).map fun i => m - 7 + i).map fun n : Nat => D.int n)) true (dn d k a b c x5 (oN m) x7 x8 x9 x10 x11 x12 x13 x14 x15 x16) := by
    simp only [ev, dn, oN, get_mk, List.getElem?_cons_zero, List.getElem?_cons_succ, Option.join_some, Cn.d, o_sub, o_max, lo, rg, disj, muts, vars, List.all_nil, Bool.or_true, Bool.true_or, if_true, c_int]
  have e2 : ev (lkOf T (n + 1)) (.lst [.call "_law_pick" [.io 0, .var 6]]) (dn d k a b c x5 (oN m) x7 x8 x9 x10 x11 x12 x13 x14 x15 x16) = .ok (.lst [.int r]) true (dn d' k a b c x5 (oN m) x7 x8 x9 x10 x11 x12 x13 x14 x15 x16) := by
    generalize Ex.call "_law_pick" [.io 0, .var 6] = z at p
    simp [ev, evs, p, disj, mutss, sizeLine_eq]
  have er : r = ((r.toNat : Nat) : Int) := by omega
  refine ⟨((List.range (m - (m - 7))).map fun i => m - 7 + i) ++ [r.toNat], d', ?_, s, fun x mx => ?_, by simp; omega⟩
  · have ad : op2 .add (.lst (((List.range (m - (m - 7))).map fun i => m - 7 + i).map fun n : Nat => D.int n)) (.lst [.int r]) = some (.lst ((((List.range (m - (m - 7))).map fun i => m - 7 + i) ++ [r.toNat]).map fun n : Nat => D.int n), true) := by
      rw [o_addL (by simp only [List.length_map, List.length_range, List.length_cons, List.length_nil, sizeLine_eq]; omega), cfs_nats]
      rw [List.map_append, er]
      simp
    unfold neE
    generalize Ex.op2 .rngL (.op2 .max2 (.con (.int 0)) (.op2 .sub (.var 6) (.con (.int 7)))) (.var 6) = z1 at e1
    generalize Ex.lst [.call "_law_pick" [.io 0, .var 6]] = z2 at e2
    simp only [ev, e1, e2, Bool.true_or, if_true, ad]
  · rcases List.mem_append.mp mx with mx | mx
    · obtain ⟨i, mi, rfl⟩ := List.mem_map.mp mx
      have := List.mem_range.mp mi
      omega
    · rw [List.mem_singleton.mp mx]
      omega
theorem near_ok (h0 : Has T) (hd : IsSrc d) (hm : 1 ≤ m) (hm' : m ≤ 1000) : ∃ (xs : List Nat) (d' : D), ev (lkOf T (n + 2)) (.call "_law_mixed" [.io 0, neE]) (dn d k a b c x5 (oN m) x7 x8 x9 x10 x11 x12 x13 x14 x15 x16) = .ok (.lst (xs.map fun n : Nat => D.int n)) true (dn d' k a b c x5 (oN m) x7 x8 x9 x10 x11 x12 x13 x14 x15 x16) ∧ IsSrc d' ∧ ∀ x ∈ xs, x < m := by
  obtain ⟨xs, d1, e, s1, hx, hl⟩ := neE_ok (n := n + 1) (k := k) (a := a) (b := b) (c := c) (x5 := x5) (x7 := x7) (x8 := x8) (x9 := x9) (x10 := x10) (x11 := x11) (x12 := x12) (x13 := x13) (x14 := x14) (x15 := x15) (x16 := x16) h0 hd hm hm'
  obtain ⟨ys, d2, q, s2, yl, hy⟩ := mixed_ok (n := n) h0 s1 hl
  refine ⟨ys, d2, ?_, s2, fun y my => hx y (hy y my)⟩
  have p := ev_io2 (L := lkOf T (n + 2)) (i := 0) (lk_io h0.mixed) rfl e rfl rfl rfl q
  rw [p]
  simp [dn]
/-- one node, if it is new -/
def onE : Ex := .ite (.op2 .notin (.var 13) (.var 15)) (.op2 .add (.var 15) (.lst [.var 13])) (.var 15)
theorem on_ok {v : Nat} {ns : List Nat} {bb : Bool} (few : ns.length ≤ 1000) : ∃ b' ns', exec L (.asg (.n 15) onE) (dn d k a b c x5 x6 x7 x8 x9 x10 x11 x12 (oN v) x14 (oNs bb ns) x16) = .next (dn d k a b c x5 x6 x7 x8 x9 x10 x11 x12 (oN v) x14 (oNs b' ns') x16) ∧ (ns' = ns ∨ ns' = ns ++ [v]) := by
  have ni : op2 .notin (.int v) (.lst (ns.map fun n : Nat => D.int n)) = some (.bl (!(ns.map fun n : Nat => D.int n).any fun y => PyData.eqv (toP y) (toP (.int v))), true) := by
    simp only [op2]
    rw [if_pos ⟨rfl, (fl_nats ns).lst (by decide)⟩]
  have cn := cfs_nats ns
  have ad : op2 .add (.lst (ns.map fun n : Nat => D.int n)) (.lst [.int v]) = some (.lst ((ns ++ [v]).map fun n : Nat => D.int n), true) := by
    rw [o_addL (by simp [sizeLine_eq]; omega), cn]
    simp
  cases hb : (!(ns.map fun n : Nat => D.int n).any fun y => PyData.eqv (toP y) (toP (.int v))) with
  | true =>
    rw [hb] at ni
    refine ⟨true, ns ++ [v], ?_, .inr rfl⟩
    simp only [oNs]
    generalize (ns ++ [v]).map (fun n : Nat => D.int n) = ws at *
    generalize ns.map (fun n : Nat => D.int n) = zs at *
    simp [onE, exec, ev, evs, dn, oN, oNs, ni, ad, bindT, S.keep, disj, vars, varss, muts, mutss, sizeLine_eq]
  | false =>
    rw [hb] at ni
    refine ⟨false, ns, ?_, .inl rfl⟩
    simp only [oNs]
    clear ad
    generalize ns.map (fun n : Nat => D.int n) = zs at *
    cases bb <;> simp [onE, exec, ev, evs, dn, oN, oNs, ni, bindT, S.keep, S.frz, disj, vars, varss, muts, mutss, sizeLine_eq]
theorem ons_ok {sz : Nat} {xs : List Nat} {bx : Bool} (hx : ∀ x ∈ xs, x < m) (hs : sz ≤ 6) : ∃ b' ns, exec L (.forI (.n 13) 1 (.op2 .sto (.var 12) (.var 16)) (.con .non) [13] [.asg (.n 15) onE]) (dn d k a b c x5 x6 x7 x8 x9 x10 x11 (some (.lst (xs.map fun n : Nat => D.int n), true)) none x14 (oNs true []) (oN sz)) =
      .next (dn d k a b c x5 x6 x7 x8 x9 x10 x11 (some (.lst (xs.map fun n : Nat => D.int n), true)) none x14 (oNs b' ns) (oN sz)) ∧ ns.length ≤ 6 ∧ ∀ a ∈ ns, a < m := by
  have it : ev L (.op2 .sto (.var 12) (.var 16)) (dn d k a b c x5 x6 x7 x8 x9 x10 x11 (some (.lst (xs.map fun n : Nat => D.int n), true)) none x14 (oNs true []) (oN sz)) = .ok (.lst ((xs.take sz).map fun n : Nat => D.int n)) true (dn d k a b c x5 x6 x7 x8 x9 x10 x11 (some (.lst (xs.map fun n : Nat => D.int n), true)) none x14 (oNs true []) (oN sz)) := by
    have st : op2 .sto (.lst (xs.map fun n : Nat => D.int n)) (.int sz) = some (.lst ((xs.take sz).map fun n : Nat => D.int n), true) := by
      simp only [op2, cfs_nats]
      rw [List.map_take]
      congr 3
      have : HT.sIx (xs.map fun n : Nat => D.int n).length (xs.map fun n : Nat => D.int n).length (some (sz : Int)) = min sz xs.length := by
        unfold HT.sIx
        simp
        try omega
      rw [this, List.take_eq_take_iff]
      simp
    generalize xs.map (fun n : Nat => D.int n) = zs at *
    simp [ev, dn, oN, st, disj, vars, muts]
  have tl : ((xs.take sz).map fun n : Nat => D.int n).length ≤ 6 := by simp; omega
  obtain ⟨st', e, b', ns, h1, h2, rfl⟩ := exec_for (L := L) (I := fun i s => ∃ b' ns, ns.length ≤ i ∧ (∀ a ∈ ns, a < m) ∧ s = dn d k a b c x5 x6 x7 x8 x9 x10 x11 (some (.lst (xs.map fun n : Nat => D.int n), true)) none x14 (oNs b' ns) (oN sz)) (tg := .n 13) (kind := 1) (it := .op2 .sto (.var 12) (.var 16)) (it2 := .con .non) (clr := [13]) (b := [.asg (.n 15) onE])
    (st := dn d k a b c x5 x6 x7 x8 x9 x10 x11 (some (.lst (xs.map fun n : Nat => D.int n), true)) none x14 (oNs true []) (oN sz)) (items := (xs.take sz).map fun n : Nat => D.int n) it rfl rfl (by simp [disj, vars]) (by rw [if_pos (cfs_nats _)]) ⟨true, [], by simp, by simp, rfl⟩ fun i x s hx' hi => by
      obtain ⟨b1, ns, h1, h2, rfl⟩ := hi
      have il : i < ((xs.take sz).map fun n : Nat => D.int n).length := (List.getElem?_eq_some_iff.mp hx').1
      rw [List.getElem?_map] at hx'
      obtain ⟨v, hv, rfl⟩ := Option.map_eq_some_iff.mp hx'
      have vm := hx v (List.mem_of_mem_take (List.mem_of_getElem? hv))
      obtain ⟨b2, ns2, e, h3⟩ := on_ok (L := L) (d := d) (k := k) (a := a) (b := b) (c := c) (x5 := x5) (x6 := x6) (x7 := x7) (x8 := x8) (x9 := x9) (x10 := x10) (x11 := x11) (x12 := some (.lst (xs.map fun n : Nat => D.int n), true)) (x14 := x14) (x16 := oN sz) (v := v) (ns := ns) (bb := b1) (by omega)
      refine ⟨dn d k a b c x5 x6 x7 x8 x9 x10 x11 (some (.lst (xs.map fun n : Nat => D.int n), true)) (oN v) x14 (oNs b1 ns) (oN sz), _, by simp [bindT, dn, oN], .inl (run_cons e rfl), b2, ns2, ?_, ?_, by simp [S.hide, dn]⟩
      · rcases h3 with rfl | rfl
        · omega
        · simp; omega
      · rcases h3 with rfl | rfl
        · exact h2
        · intro y my
          rcases List.mem_append.mp my with my | my
          · exact h2 y my
          · rw [List.mem_singleton.mp my]; exact vm
  exact ⟨b', ns, e, by omega, h2⟩
end
end VS.K52

-- Draw3
namespace VS.K52
open PySem L2 _root_.K52
variable {T : Tb} {L : Lk}
section
variable {n k a b c : Nat} {d : D} {x5 x6 x7 x8 x9 x10 x11 x12 x13 x14 x15 x16 : O} {ins rg m w : Nat} {ts : List (List Nat × Nat)} {ns : List Nat} {bb : Bool}
def trE : Ex := .call "_law_pick" [.io 0, .op2 .shl (.con (.int 1)) (.op2 .shl (.con (.int 1)) (.op1 .len (.var 15)))]
theorem tr_ok (h0 : Has T) (hd : IsSrc d) (hl : ns.length ≤ 6) : ∃ (u : Nat) (d' : D), exec (lkOf T (n + 1)) (.asg (.n 14) trE) (dn d k a b c x5 x6 x7 x8 x9 x10 x11 x12 x13 x14 (oNs bb ns) x16) = .next (dn d' k a b c x5 x6 x7 x8 x9 x10 x11 x12 x13 (oN u) (oNs bb ns) x16) ∧ IsSrc d' := by
  have p6 := pow6 hl
  have big : 2 ^ 2 ^ ns.length ≤ 18446744073709551616 := by
    have := Nat.pow_le_pow_right (show 2 > 0 by decide) p6
    simpa using this
  have l1 : op1 .len (.lst (ns.map fun n : Nat => D.int n)) = some (.int ns.length, true) := by simp [op1]
  have e : ev (lkOf T (n + 1)) (.op2 .shl (.con (.int 1)) (.op2 .shl (.con (.int 1)) (.op1 .len (.var 15)))) (dn d k a b c x5 x6 x7 x8 x9 x10 x11 x12 x13 x14 (oNs bb ns) x16) = .ok (.int ((2 ^ 2 ^ ns.length : Nat) : Int)) true (dn d k a b c x5 x6 x7 x8 x9 x10 x11 x12 x13 x14 (oNs bb ns) x16) := by
    have s1 := shl1 (m := ns.length) (by omega)
    have s2 := shl1 (m := 2 ^ ns.length) (by omega)
    generalize 2 ^ 2 ^ ns.length = B at *
    generalize 2 ^ ns.length = A at *
    simp only [oNs]
    generalize ns.map (fun n : Nat => D.int n) = zs at *
    simp only [ev, dn, get_mk, List.getElem?_cons_zero, List.getElem?_cons_succ, Option.join_some, Cn.d, l1, s1, s2, disj, muts, vars, List.all_nil, Bool.or_true, Bool.true_or, if_true]
  obtain ⟨r, d', p, s, r0, r1⟩ := ev_pickP (n := n) h0.isPick (st := dn d k a b c x5 x6 x7 x8 x9 x10 x11 x12 x13 x14 (oNs bb ns) x16) (i := 0) rfl e rfl rfl hd (by omega)
  refine ⟨r.toNat, d', run_asg p ?_, s⟩
  have er : r = ((r.toNat : Nat) : Int) := by omega
  rw [er]
  simp [bindT, S.keep, dn, oN]
def apE : Ex := .ite (.or (.op2 .eq (.var 11) (.lst [])) (.op2 .gt (.call "_law_pick" [.io 0, .con (.int 6)]) (.con (.int 0)))) (.tup [.op1 .tupleOf (.var 15), .mv 14]) (.call "_law_of" [.io 0, .var 11])
theorem ap_ok (h0 : Has T) (hd : IsSrc d) {u : Nat} (few : ts.length ≤ 1000) : ∃ (t : List Nat × Nat) (d' : D) (z : O), ev (lkOf T (n + 2)) apE (dn d k a b c x5 x6 x7 x8 x9 x10 (oTs ts) x12 x13 (oN u) (oNs bb ns) x16) = .ok (tD t) true (dn d' k a b c x5 x6 x7 x8 x9 x10 (oTs ts) x12 x13 z (oNs bb ns) x16) ∧ IsSrc d' ∧ (t = (ns, u) ∨ t ∈ ts) := by
  have q1 : op2 .eq (.lst (ts.map tD)) (.lst []) = some (.bl (PyData.eqv (toP (.lst (ts.map tD))) (toP (.lst []))), true) := o_eq ((fl_tabs ts).lst (by decide)) rfl
  have t1 : ev (lkOf T (n + 2)) (.op2 .eq (.var 11) (.lst [])) (dn d k a b c x5 x6 x7 x8 x9 x10 (oTs ts) x12 x13 (oN u) (oNs bb ns) x16) = .ok (.bl (PyData.eqv (toP (.lst (ts.map tD))) (toP (.lst [])))) true (dn d k a b c x5 x6 x7 x8 x9 x10 (oTs ts) x12 x13 (oN u) (oNs bb ns) x16) := by
    simp only [oTs]
    have hz : ∀ h : ts = [], PyData.eqv (toP (.lst (ts.map tD))) (toP (.lst [])) = true := fun h => by rw [h]; rfl
    generalize ts.map tD = zs at *
    simp [ev, evs, dn, q1, disj, vars, muts, mutss, varss]
  have hz : ts = [] → PyData.eqv (toP (.lst (ts.map tD))) (toP (.lst [])) = true := fun h => by rw [h]; rfl
  have yes : ∀ d1, ev (lkOf T (n + 2)) (.tup [.op1 .tupleOf (.var 15), .mv 14]) (dn d1 k a b c x5 x6 x7 x8 x9 x10 (oTs ts) x12 x13 (oN u) (oNs bb ns) x16) = .ok (tD (ns, u)) true (dn d1 k a b c x5 x6 x7 x8 x9 x10 (oTs ts) x12 x13 none (oNs bb ns) x16) := fun d1 => by
    have cn := cfs_nats ns
    simp only [oNs, tD, nT]
    generalize ns.map (fun n : Nat => D.int n) = zs at *
    simp [ev, evs, dn, oN, op1, cn, disj, vars, varss, muts, mutss, sizeLine_eq]
  generalize PyData.eqv (toP (.lst (ts.map tD))) (toP (.lst [])) = v at t1 hz
  have m1 : muts (.op2 .eq (.var 11) (.lst [])) = [] := rfl
  cases v with
  | true =>
    refine ⟨(ns, u), d, none, ?_, hd, .inl rfl⟩
    have y := yes d
    unfold apE
    generalize Ex.op2 .eq (.var 11) (.lst []) = A at t1
    generalize Ex.tup [.op1 .tupleOf (.var 15), .mv 14] = B at y
    simp only [ev, t1, t_bl, if_true, y]
  | false =>
    have hne : ts ≠ [] := fun z => by have := hz z; cases this
    obtain ⟨r, d1, p, s, r0, r1⟩ := ev_pickP (n := n + 1) h0.isPick (st := dn d k a b c x5 x6 x7 x8 x9 x10 (oTs ts) x12 x13 (oN u) (oNs bb ns) x16) (i := 0) (e := .con (.int 6)) (k := 6) rfl rfl rfl rfl hd (by decide)
    have q : (dn d k a b c x5 x6 x7 x8 x9 x10 (oTs ts) x12 x13 (oN u) (oNs bb ns) x16).set 0 (some (d1, true)) = dn d1 k a b c x5 x6 x7 x8 x9 x10 (oTs ts) x12 x13 (oN u) (oNs bb ns) x16 := by simp [dn]
    rw [q] at p
    have t2 : ev (lkOf T (n + 2)) (.op2 .gt (.call "_law_pick" [.io 0, .con (.int 6)]) (.con (.int 0))) (dn d k a b c x5 x6 x7 x8 x9 x10 (oTs ts) x12 x13 (oN u) (oNs bb ns) x16) = .ok (.bl (decide (0 < r))) true (dn d1 k a b c x5 x6 x7 x8 x9 x10 (oTs ts) x12 x13 (oN u) (oNs bb ns) x16) := by
      generalize Ex.call "_law_pick" [.io 0, .con (.int 6)] = z at p
      simp [ev, p, Cn.d]
    by_cases hr : 0 < r
    · refine ⟨(ns, u), d1, none, ?_, s, .inl rfl⟩
      have y := yes d1
      rw [decide_eq_true hr] at t2
      unfold apE
      generalize Ex.op2 .eq (.var 11) (.lst []) = A at t1
      generalize Ex.op2 .gt (.call "_law_pick" [.io 0, .con (.int 6)]) (.con (.int 0)) = A2 at t2
      generalize Ex.tup [.op1 .tupleOf (.var 15), .mv 14] = B at y
      simp only [ev, t1, t2, t_bl, if_true, if_neg Bool.false_ne_true, y]
    · obtain ⟨x, d2, p2, s2, hx⟩ := ev_ofP (n := n) h0.isPick h0.of (st := dn d1 k a b c x5 x6 x7 x8 x9 x10 (oTs ts) x12 x13 (oN u) (oNs bb ns) x16) (st1 := dn d1 k a b c x5 x6 x7 x8 x9 x10 (oTs ts) x12 x13 (oN u) (oNs bb ns) x16) (i := 0) (e := .var 11) (xs := ts.map tD) (kx := false) rfl (by simp [ev, dn, oTs]) rfl rfl rfl s (by simp [hne]) (by simp; omega)
      have q2 : (dn d1 k a b c x5 x6 x7 x8 x9 x10 (oTs ts) x12 x13 (oN u) (oNs bb ns) x16).set 0 (some (d2, true)) = dn d2 k a b c x5 x6 x7 x8 x9 x10 (oTs ts) x12 x13 (oN u) (oNs bb ns) x16 := by simp [dn]
      rw [q2] at p2
      obtain ⟨t, mt, rfl⟩ := List.mem_map.mp hx
      refine ⟨t, d2, oN u, ?_, s2, .inr mt⟩
      rw [decide_eq_false hr] at t2
      rw [show cf (tD t) = true by simp [tD, cf_nT]] at p2
      unfold apE
      generalize Ex.op2 .eq (.var 11) (.lst []) = A at t1
      generalize Ex.op2 .gt (.call "_law_pick" [.io 0, .con (.int 6)]) (.con (.int 0)) = A2 at t2
      generalize Ex.call "_law_of" [.io 0, .var 11] = B at p2
      simp only [ev, t1, t2, t_bl, if_neg Bool.false_ne_true, p2]
def lapB : List Sm := [.asg (.n 6) mE2, .asg (.n 12) (.call "_law_mixed" [.io 0, neE]), .par [15, 16] [.lst [], .call "_law_pick" [.io 0, .op2 .add (.var 1) (.con (.int 1))]], .forI (.n 13) 1 (.op2 .sto (.var 12) (.var 16)) (.con .non) [13] [.asg (.n 15) onE], .asg (.n 14) trE, .app 11 [] apE]
theorem lapB_ok (h0 : Has T) (hd : IsSrc d) (hk : k ≤ 6) (ht : Tabs (1 + ins + rg) ts) (few : 1 + ins + rg + ts.length ≤ 1000) : ∃ (t : List Nat × Nat) (d' : D) (st' : S), execs (lkOf T (n + 2)) lapB (dn d k a b c x5 none x7 x8 (oN ins) (oN rg) (oTs ts) none none none none none) = .next st' ∧ st'.hide [5, 6, 12, 13, 14, 15, 16] = dn d' k a b c none none x7 x8 (oN ins) (oN rg) (oTs (ts ++ [t])) none none none none none ∧ IsSrc d' ∧ t.1.length ≤ 6 ∧ ∀ a ∈ t.1, a < 1 + ins + rg + ts.length := by
  have e1 := run_asg (t := .n 6) (mE2_ok (L := lkOf T (n + 2)) (d := d) (k := k) (a := a) (b := b) (c := c) (x5 := x5) (x6 := none) (x7 := x7) (x8 := x8) (x12 := none) (x13 := none) (x14 := none) (x15 := none) (x16 := none) (ins := ins) (rg := rg) (ts := ts)) (st2 := dn d k a b c x5 (oN (1 + ins + rg + ts.length)) x7 x8 (oN ins) (oN rg) (oTs ts) none none none none none) (by simp [bindT, S.keep, dn, oN])
  obtain ⟨xs, d2, p2, s2, hx⟩ := near_ok (n := n) (k := k) (a := a) (b := b) (c := c) (x5 := x5) (x7 := x7) (x8 := x8) (x9 := oN ins) (x10 := oN rg) (x11 := oTs ts) (x12 := none) (x13 := none) (x14 := none) (x15 := none) (x16 := none) (m := 1 + ins + rg + ts.length) h0 hd (by omega) few
  have e2 := run_asg (t := .n 12) p2 (st2 := dn d2 k a b c x5 (oN (1 + ins + rg + ts.length)) x7 x8 (oN ins) (oN rg) (oTs ts) (some (.lst (xs.map fun n : Nat => D.int n), true)) none none none none) (by simp [bindT, S.keep, dn])
  obtain ⟨r, d3, p3, s3, r0, r1⟩ := ev_pickP (n := n + 1) h0.isPick (st := dn d2 k a b c x5 (oN (1 + ins + rg + ts.length)) x7 x8 (oN ins) (oN rg) (oTs ts) (some (.lst (xs.map fun n : Nat => D.int n), true)) none none none none) (st1 := dn d2 k a b c x5 (oN (1 + ins + rg + ts.length)) x7 x8 (oN ins) (oN rg) (oTs ts) (some (.lst (xs.map fun n : Nat => D.int n), true)) none none none none) (i := 0) (e := .op2 .add (.var 1) (.con (.int 1))) (k := k + 1) rfl (by simp [ev, dn, Cn.d, disj, vars, muts]) rfl rfl s2 (by omega)
  have e3 : exec (lkOf T (n + 2)) (.par [15, 16] [.lst [], .call "_law_pick" [.io 0, .op2 .add (.var 1) (.con (.int 1))]]) (dn d2 k a b c x5 (oN (1 + ins + rg + ts.length)) x7 x8 (oN ins) (oN rg) (oTs ts) (some (.lst (xs.map fun n : Nat => D.int n), true)) none none none none) = .next (dn d3 k a b c x5 (oN (1 + ins + rg + ts.length)) x7 x8 (oN ins) (oN rg) (oTs ts) (some (.lst (xs.map fun n : Nat => D.int n), true)) none none (oNs true []) (oN r.toNat)) := by
    have e0 : ev (lkOf T (n + 2)) (.lst []) (dn d2 k a b c x5 (oN (1 + ins + rg + ts.length)) x7 x8 (oN ins) (oN rg) (oTs ts) (some (.lst (xs.map fun n : Nat => D.int n), true)) none none none none) = .ok (.lst []) true (dn d2 k a b c x5 (oN (1 + ins + rg + ts.length)) x7 x8 (oN ins) (oN rg) (oTs ts) (some (.lst (xs.map fun n : Nat => D.int n), true)) none none none none) := by simp [ev, evs]
    have es := evs_cons e0 rfl (evs_cons (r := []) p3 rfl rfl)
    simp only [exec, es]
    have er : r = ((r.toNat : Nat) : Int) := by omega
    generalize r.toNat = r' at er
    subst er
    simp [S.keeps, S.keep, setsS, dn, oN, oNs]
  obtain ⟨b4, ns, e4, l4, h4⟩ := ons_ok (L := lkOf T (n + 2)) (d := d3) (k := k) (a := a) (b := b) (c := c) (x5 := x5) (x6 := oN (1 + ins + rg + ts.length)) (x7 := x7) (x8 := x8) (x9 := oN ins) (x10 := oN rg) (x11 := oTs ts) (x14 := none) (m := 1 + ins + rg + ts.length) (sz := r.toNat) (xs := xs) (bx := true) hx (by omega)
  obtain ⟨u, d5, e5, s5⟩ := tr_ok (n := n + 1) (k := k) (a := a) (b := b) (c := c) (x5 := x5) (x6 := oN (1 + ins + rg + ts.length)) (x7 := x7) (x8 := x8) (x9 := oN ins) (x10 := oN rg) (x11 := oTs ts) (x12 := some (.lst (xs.map fun n : Nat => D.int n), true)) (x13 := none) (x14 := none) (x16 := oN r.toNat) (bb := b4) (ns := ns) h0 s3 l4
  obtain ⟨t, d6, z, p6, s6, ht6⟩ := ap_ok (n := n) (k := k) (a := a) (b := b) (c := c) (x5 := x5) (x6 := oN (1 + ins + rg + ts.length)) (x7 := x7) (x8 := x8) (x9 := oN ins) (x10 := oN rg) (ts := ts) (x12 := some (.lst (xs.map fun n : Nat => D.int n), true)) (x13 := none) (x16 := oN r.toNat) (bb := b4) (ns := ns) (u := u) h0 s5 (by omega)
  have e6 := app_ok2 (L := lkOf T (n + 2)) (i := 11) (xs := ts.map tD) rfl rfl rfl p6 (by simp [sizeLine_eq]; omega)
  refine ⟨t, d6, _, run_cons e1 (run_cons e2 (run_cons e3 (run_cons e4 (run_cons e5 (run_cons e6 rfl))))), by simp [S.hide, dn, oTs], s6, ?_⟩
  rcases ht6 with rfl | mt
  · exact ⟨l4, h4⟩
  · exact tabs_mem ht mt
theorem laps_ok (h0 : Has T) {q : Nat} {it : Ex} {d0 : D} (hit : ev (lkOf T (n + 2)) it (dn d0 k a b c none none x7 x8 (oN ins) (oN rg) (oTs []) none none none none none) = .ok (.int q) true (dn d k a b c none none x7 x8 (oN ins) (oN rg) (oTs []) none none none none none)) (hd : IsSrc d) (hk : k ≤ 6) (few : 1 + ins + rg + q ≤ 1000) :
    ∃ ts d', exec (lkOf T (n + 2)) (.forI (.n 5) 0 it (.con .non) [5, 6, 12, 13, 14, 15, 16] lapB) (dn d0 k a b c none none x7 x8 (oN ins) (oN rg) (oTs []) none none none none none) = .next (dn d' k a b c none none x7 x8 (oN ins) (oN rg) (oTs ts) none none none none none) ∧ IsSrc d' ∧ Tabs (1 + ins + rg) ts ∧ ts.length = q := by
  obtain ⟨st', e, ts, d', hd', ht, hl, rfl⟩ := exec_for (L := lkOf T (n + 2)) (I := fun i s => ∃ ts d, IsSrc d ∧ Tabs (1 + ins + rg) ts ∧ ts.length = i ∧ s = dn d k a b c none none x7 x8 (oN ins) (oN rg) (oTs ts) none none none none none)
    (tg := .n 5) (kind := 0) (it := it) (it2 := .con .non) (clr := [5, 6, 12, 13, 14, 15, 16]) (b := lapB) (st := dn d0 k a b c none none x7 x8 (oN ins) (oN rg) (oTs []) none none none none none) (d1 := .int q) (k1 := true) (st1 := dn d k a b c none none x7 x8 (oN ins) (oN rg) (oTs []) none none none none none) (d2 := .non) (k2 := true)
    (st2 := dn d k a b c none none x7 x8 (oN ins) (oN rg) (oTs []) none none none none none) (st3 := dn d k a b c none none x7 x8 (oN ins) (oN rg) (oTs []) none none none none none) (items := (List.range q).map fun i : Nat => D.int i) hit rfl (items_range (by omega)) (by simp [disj, vars]) (by rw [if_pos (cfs_nats _)])
    ⟨[], d, hd, fun i p h => by simp at h, rfl, rfl⟩ fun i x s hx hi => by
      obtain ⟨ts, d, hd, ht, hl, rfl⟩ := hi
      have hi : i < q := by have := (List.getElem?_eq_some_iff.mp hx).1; simpa using this
      obtain rfl : D.int i = x := by rw [List.getElem?_map, List.getElem?_range hi] at hx; exact Option.some.inj hx
      obtain ⟨t, d', st', e, h, s, t1, t2⟩ := lapB_ok (n := n) (a := a) (b := b) (c := c) (x5 := oN i) (x7 := x7) (x8 := x8) (ins := ins) (rg := rg) (ts := ts) h0 hd hk ht (by omega)
      exact ⟨dn d k a b c (oN i) none x7 x8 (oN ins) (oN rg) (oTs ts) none none none none none, st', by simp [bindT, dn, oN], .inl e, ts ++ [t], d', s, tabs_snoc ht t1 t2, by simp [hl], h⟩
  exact ⟨ts, d', e, hd', ht, by simpa using hl⟩
end
end VS.K52

-- Draw4
namespace VS.K52
open PySem L2 _root_.K52
variable {T : Tb} {L : Lk}
section
variable {n k a b c : Nat} {d : D} {x5 x6 x7 x8 x9 x10 x11 x12 x13 x14 x15 x16 : O} {ins rg m : Nat} {ts : List (List Nat × Nat)}
def toE : Ex := .comp [5] (.n 5) 0 (.var 10) (.con .non) [] (.tup [.call "_law_pick" [.io 0, .con (.int 2)], .call "_law_pick" [.io 0, .var 6]])
theorem toE_ok (h0 : Has T) (hd : IsSrc d) (hr : rg ≤ 100) (hm : 1 ≤ m) (hm' : m ≤ 1000) : ∃ (rs : List (Nat × Nat)) (d' : D), ev (lkOf T (n + 1)) toE (dn d k a b c none (oN m) x7 x8 x9 (oN rg) x11 x12 x13 x14 x15 x16) = .ok (.lst (rs.map pD)) true (dn d' k a b c none (oN m) x7 x8 x9 (oN rg) x11 x12 x13 x14 x15 x16) ∧ IsSrc d' ∧ rs.length = rg ∧ ∀ p ∈ rs, p.1 ≤ 1 ∧ p.2 < m := by
  obtain ⟨ys, d', e, hd', hl, hP⟩ := comp_draw (L := lkOf T (n + 1)) (v := 5) (it := .var 10) (e := .tup [.call "_law_pick" [.io 0, .con (.int 2)], .call "_law_pick" [.io 0, .var 6]]) (k := rg) (sf := fun d o => dn d k a b c o (oN m) x7 x8 x9 (oN rg) x11 x12 x13 x14 x15 x16) (P := fun y => ∃ p : Nat × Nat, y = pD p ∧ (p.1 ≤ 1 ∧ p.2 < m)) (s0 := dn d k a b c none (oN m) x7 x8 x9 (oN rg) x11 x12 x13 x14 x15 x16) (o0 := none) (d1 := d)
    (by simp [ev, dn, oN]) hd (by omega) rfl (fun d => rfl) (fun d o => rfl) (fun d x => by simp [bindT, dn]) (fun d o d2 => by simp [S.restore, dn]) fun d i hd => by
      obtain ⟨r, d1, p1, s1, r0, r1⟩ := ev_pickP (n := n) h0.isPick (st := dn d k a b c (some (.int i, true)) (oN m) x7 x8 x9 (oN rg) x11 x12 x13 x14 x15 x16) (i := 0) (e := .con (.int 2)) (k := 2) rfl rfl rfl rfl hd (by decide)
      have q1 : (dn d k a b c (some (.int i, true)) (oN m) x7 x8 x9 (oN rg) x11 x12 x13 x14 x15 x16).set 0 (some (d1, true)) = dn d1 k a b c (some (.int i, true)) (oN m) x7 x8 x9 (oN rg) x11 x12 x13 x14 x15 x16 := by simp [dn]
      rw [q1] at p1
      obtain ⟨r2, d2, p2, s2, r20, r21⟩ := ev_pickP (n := n) h0.isPick (st := dn d1 k a b c (some (.int i, true)) (oN m) x7 x8 x9 (oN rg) x11 x12 x13 x14 x15 x16) (st1 := dn d1 k a b c (some (.int i, true)) (oN m) x7 x8 x9 (oN rg) x11 x12 x13 x14 x15 x16) (i := 0) (e := .var 6) (k := m) rfl (by simp [ev, dn, oN]) rfl rfl s1 (by omega)
      have q2 : (dn d1 k a b c (some (.int i, true)) (oN m) x7 x8 x9 (oN rg) x11 x12 x13 x14 x15 x16).set 0 (some (d2, true)) = dn d2 k a b c (some (.int i, true)) (oN m) x7 x8 x9 (oN rg) x11 x12 x13 x14 x15 x16 := by simp [dn]
      rw [q2] at p2
      refine ⟨pD (r.toNat, r2.toNat), d2, ?_, s2, (r.toNat, r2.toNat), rfl, by show r.toNat ≤ 1; omega, by show r2.toNat < m; omega⟩
      have es := evs_cons p1 rfl (evs_cons (r := []) p2 rfl rfl)
      have er : r = ((r.toNat : Nat) : Int) := by omega
      have er2 : r2 = ((r2.toNat : Nat) : Int) := by omega
      simp only [ev, es]
      generalize r.toNat = u at *
      generalize r2.toNat = u2 at *
      subst er er2
      simp [pD, sizeLine_eq]
  obtain ⟨rs, rfl, hrs⟩ := all_of hP
  exact ⟨rs, d', e, hd', by simpa using hl, hrs⟩
def ouE : Ex := .comp [5] (.n 5) 0 (.op2 .add (.con (.int 1)) (.call "_law_pick" [.io 0, .con (.int 4)])) (.con .non) [] (.op2 .sub (.op2 .sub (.var 6) (.con (.int 1))) (.call "_law_pick" [.io 0, .op2 .min2 (.var 6) (.con (.int 8))]))
theorem ouE_ok (h0 : Has T) (hd : IsSrc d) (hm : 1 ≤ m) (hm' : m ≤ 1000) : ∃ (ls : List Nat) (d' : D), ev (lkOf T (n + 1)) ouE (dn d k a b c none (oN m) x7 x8 x9 x10 x11 x12 x13 x14 x15 x16) = .ok (.lst (ls.map fun l : Nat => .int l)) true (dn d' k a b c none (oN m) x7 x8 x9 x10 x11 x12 x13 x14 x15 x16) ∧ IsSrc d' ∧ ls.length ≤ 4 ∧ ∀ l ∈ ls, l < m := by
  obtain ⟨r, d1, p1, s1, r0, r1⟩ := ev_pickP (n := n) h0.isPick (st := dn d k a b c none (oN m) x7 x8 x9 x10 x11 x12 x13 x14 x15 x16) (i := 0) (e := .con (.int 4)) (k := 4) rfl rfl rfl rfl hd (by decide)
  have q1 : (dn d k a b c none (oN m) x7 x8 x9 x10 x11 x12 x13 x14 x15 x16).set 0 (some (d1, true)) = dn d1 k a b c none (oN m) x7 x8 x9 x10 x11 x12 x13 x14 x15 x16 := by simp [dn]
  rw [q1] at p1
  have it : ev (lkOf T (n + 1)) (.op2 .add (.con (.int 1)) (.call "_law_pick" [.io 0, .con (.int 4)])) (dn d k a b c none (oN m) x7 x8 x9 x10 x11 x12 x13 x14 x15 x16) = .ok (.int ((1 + r.toNat : Nat) : Int)) true (dn d1 k a b c none (oN m) x7 x8 x9 x10 x11 x12 x13 x14 x15 x16) := by
    generalize Ex.call "_law_pick" [.io 0, .con (.int 4)] = z at p1
    have e : (((1 + r.toNat : Nat) : Int)) = 1 + r := by omega
    rw [e]
    simp [ev, p1, Cn.d]
  obtain ⟨ys, d', e, hd', hl, hP⟩ := comp_draw (L := lkOf T (n + 1)) (v := 5) (it := .op2 .add (.con (.int 1)) (.call "_law_pick" [.io 0, .con (.int 4)])) (e := .op2 .sub (.op2 .sub (.var 6) (.con (.int 1))) (.call "_law_pick" [.io 0, .op2 .min2 (.var 6) (.con (.int 8))])) (k := 1 + r.toNat) (sf := fun d o => dn d k a b c o (oN m) x7 x8 x9 x10 x11 x12 x13 x14 x15 x16) (P := fun y => ∃ l : Nat, y = .int l ∧ l < m) (s0 := dn d k a b c none (oN m) x7 x8 x9 x10 x11 x12 x13 x14 x15 x16) (o0 := none) (d1 := d1)
    it s1 (by omega) rfl (fun d => rfl) (fun d o => rfl) (fun d x => by simp [bindT, dn]) (fun d o d2 => by simp [S.restore, dn]) fun d i hd => by
      obtain ⟨r2, d2, p2, s2, a1, a2⟩ := ev_pickP (n := n) h0.isPick (st := dn d k a b c (some (.int i, true)) (oN m) x7 x8 x9 x10 x11 x12 x13 x14 x15 x16) (st1 := dn d k a b c (some (.int i, true)) (oN m) x7 x8 x9 x10 x11 x12 x13 x14 x15 x16) (i := 0) (e := .op2 .min2 (.var 6) (.con (.int 8))) (k := if (8 : Int) < m then 8 else m) rfl (by simp [ev, dn, oN, Cn.d, disj, vars, muts]) rfl rfl hd (by split <;> omega)
      have q2 : (dn d k a b c (some (.int i, true)) (oN m) x7 x8 x9 x10 x11 x12 x13 x14 x15 x16).set 0 (some (d2, true)) = dn d2 k a b c (some (.int i, true)) (oN m) x7 x8 x9 x10 x11 x12 x13 x14 x15 x16 := by simp [dn]
      rw [q2] at p2
      have lt : r2 < m := by split at a2 <;> omega
      refine ⟨.int ((m - 1 - r2.toNat : Nat) : Int), d2, ?_, s2, m - 1 - r2.toNat, rfl, by omega⟩
      have e : ((m - 1 - r2.toNat : Nat) : Int) = (m : Int) - 1 - r2 := by omega
      rw [e]
      generalize Ex.call "_law_pick" [.io 0, .op2 .min2 (.var 6) (.con (.int 8))] = c1 at p2
      simp [dn, oN] at p2
      simp [ev, dn, oN, p2, Cn.d, disj, vars, muts]
  obtain ⟨ls, rfl, hls⟩ := all_of hP
  exact ⟨ls, d', e, hd', by simp at hl; omega, hls⟩
theorem draw_ok (h0 : Has T) (hd : IsSrc d) (hk : k ≤ 6) (ha : a ≤ 100) (hb : b ≤ 100) (hc : c ≤ 100) : ∃ (G : Nt) (d' : D), callF T (n + 3) "_law_draw_net" [d, .int k, .int a, .int b, .int c] [] = .ok (ntD G) true [d'] [] ∧ IsSrc d' ∧ Good G ∧ G.ins ≤ a ∧ G.regs.length ≤ b ∧ G.tabs.length ≤ c ∧ G.outs.length ≤ 4 := by
  have N : S := ⟨[], []⟩
  obtain ⟨r1, d1, p1, s1, a1, b1⟩ := ev_pickP (n := n + 1) h0.isPick (st := dn d k a b c none none none none none none none none none none none none) (st1 := dn d k a b c none none none none none none none none none none none none) (i := 0) (e := .op2 .add (.var 2) (.con (.int 1))) (k := a + 1) rfl (by simp [ev, dn, Cn.d, disj, vars, muts]) rfl rfl hd (by omega)
  have q1 : (dn d k a b c none none none none none none none none none none none none).set 0 (some (d1, true)) = dn d1 k a b c none none none none none none none none none none none none := by simp [dn]
  rw [q1] at p1
  obtain ⟨r2, d2, p2, s2, a2, b2⟩ := ev_pickP (n := n + 1) h0.isPick (st := dn d1 k a b c none none none none none none none none none none none none) (st1 := dn d1 k a b c none none none none none none none none none none none none) (i := 0) (e := .op2 .add (.var 3) (.con (.int 1))) (k := b + 1) rfl (by simp [ev, dn, Cn.d, disj, vars, muts]) rfl rfl s1 (by omega)
  have q2 : (dn d1 k a b c none none none none none none none none none none none none).set 0 (some (d2, true)) = dn d2 k a b c none none none none none none none none none none none none := by simp [dn]
  rw [q2] at p2
  have e1 : exec (lkOf T (n + 2)) (.par [9, 10, 11] [.call "_law_pick" [.io 0, .op2 .add (.var 2) (.con (.int 1))], .call "_law_pick" [.io 0, .op2 .add (.var 3) (.con (.int 1))], .lst []]) (dn d k a b c none none none none none none none none none none none none) = .next (dn d2 k a b c none none none none (oN r1.toNat) (oN r2.toNat) (oTs []) none none none none none) := by
    have e0 : ev (lkOf T (n + 2)) (.lst []) (dn d2 k a b c none none none none none none none none none none none none) = .ok (.lst []) true (dn d2 k a b c none none none none none none none none none none none none) := by simp [ev, evs]
    have es := evs_cons p1 rfl (evs_cons p2 rfl (evs_cons (r := []) e0 rfl rfl))
    simp only [exec, es]
    have er : r1 = ((r1.toNat : Nat) : Int) := by omega
    have er2 : r2 = ((r2.toNat : Nat) : Int) := by omega
    generalize r1.toNat = u at *
    generalize r2.toNat = u2 at *
    subst er er2
    simp [S.keeps, S.keep, setsS, dn, oN, oTs]
  obtain ⟨r3, d3, p3, s3, a3, b3⟩ := ev_pickP (n := n + 1) h0.isPick (st := dn d2 k a b c none none none none (oN r1.toNat) (oN r2.toNat) (oTs []) none none none none none) (st1 := dn d2 k a b c none none none none (oN r1.toNat) (oN r2.toNat) (oTs []) none none none none none) (i := 0) (e := .op2 .add (.var 4) (.con (.int 1))) (k := c + 1) rfl (by simp [ev, dn, Cn.d, disj, vars, muts]) rfl rfl s2 (by omega)
  have q3 : (dn d2 k a b c none none none none (oN r1.toNat) (oN r2.toNat) (oTs []) none none none none none).set 0 (some (d3, true)) = dn d3 k a b c none none none none (oN r1.toNat) (oN r2.toNat) (oTs []) none none none none none := by simp [dn]
  rw [q3, show r3 = ((r3.toNat : Nat) : Int) by omega] at p3
  obtain ⟨ts, d4, e4, s4, ht, hl⟩ := laps_ok (n := n) (x7 := none) (x8 := none) (ins := r1.toNat) (rg := r2.toNat) h0 p3 s3 hk (by omega)
  have e5 := run_asg (t := .n 6) (mE2_ok (L := lkOf T (n + 2)) (d := d4) (k := k) (a := a) (b := b) (c := c) (x5 := none) (x6 := none) (x7 := none) (x8 := none) (x12 := none) (x13 := none) (x14 := none) (x15 := none) (x16 := none) (ins := r1.toNat) (rg := r2.toNat) (ts := ts)) (st2 := dn d4 k a b c none (oN (1 + r1.toNat + r2.toNat + ts.length)) none none (oN r1.toNat) (oN r2.toNat) (oTs ts) none none none none none) (by simp [bindT, S.keep, dn, oN])
  have mb : 1 + r1.toNat + r2.toNat + ts.length ≤ 1000 := by omega
  have m1 : 1 ≤ 1 + r1.toNat + r2.toNat + ts.length := by omega
  generalize hw : 1 + r1.toNat + r2.toNat + ts.length = w at *
  obtain ⟨rs, d6, p6, s6, l6, h6⟩ := toE_ok (n := n + 1) (k := k) (a := a) (b := b) (c := c) (x7 := none) (x8 := none) (x9 := oN r1.toNat) (x11 := oTs ts) (x12 := none) (x13 := none) (x14 := none) (x15 := none) (x16 := none) (rg := r2.toNat) (m := w) h0 s4 (by omega) m1 mb
  have t6 := tup_of p6
  rw [cfs_pD] at t6
  have e6 := run_asg (t := .n 7) t6 (st2 := dn d6 k a b c none (oN w) (some (.tup (rs.map pD), true)) none (oN r1.toNat) (oN r2.toNat) (oTs ts) none none none none none) (by simp [bindT, S.keep, dn])
  obtain ⟨ls, d7, p7, s7, l7, h7⟩ := ouE_ok (n := n + 1) (k := k) (a := a) (b := b) (c := c) (x7 := some (.tup (rs.map pD), true)) (x8 := none) (x9 := oN r1.toNat) (x10 := oN r2.toNat) (x11 := oTs ts) (x12 := none) (x13 := none) (x14 := none) (x15 := none) (x16 := none) (m := w) h0 s6 m1 mb
  have t7 := tup_of p7
  rw [cfs_nats] at t7
  have e7 := run_asg (t := .n 8) t7 (st2 := dn d7 k a b c none (oN w) (some (.tup (rs.map pD), true)) (some (nT ls, true)) (oN r1.toNat) (oN r2.toNat) (oTs ts) none none none none none) (by simp [bindT, S.keep, dn, nT])
  have e8 : ev (lkOf T (n + 2)) (.tup [.mv 1, .mv 9, .mv 7, .op1 .tupleOf (.var 11), .mv 8]) (dn d7 k a b c none (oN w) (some (.tup (rs.map pD), true)) (some (nT ls, true)) (oN r1.toNat) (oN r2.toNat) (oTs ts) none none none none none) =
      .ok (ntD ⟨k, r1.toNat, rs, ts, ls⟩) true ⟨[some (d7, true), none, some (.int a, true), some (.int b, true), some (.int c, true), none, oN w, none, none, none, oN r2.toNat, oTs ts, none, none, none, none, none], []⟩ := by
    have ct := cfs_tD ts
    have cr := cfs_pD rs
    have cl := cf_nT (xs := ls)
    simp only [oTs, ntD]
    generalize ts.map tD = zs at *
    generalize rs.map pD = zr at *
    generalize nT ls = zl at *
    generalize r1.toNat = u at *
    simp [ev, evs, dn, oN, op1, ct, disj, vars, varss, muts, mutss, sizeLine_eq]
  have r := run_cons e1 (run_cons e4 (run_cons e5 (run_cons e6 (run_cons e7 (run_ret (r := []) e8)))))
  refine ⟨⟨k, r1.toNat, rs, ts, ls⟩, d7, call_ret h0.draw rfl (show startS c_law_draw_net [d, .int k, .int a, .int b, .int c] [] = _ by simp [startS, c_law_draw_net, dn]) r (outs_first rfl rfl rfl), s7, ⟨?_, ?_, ?_, ?_, ?_⟩, ?_, ?_, ?_, l7⟩
  · show Tabs (1 + r1.toNat + rs.length) ts
    rw [l6]; exact ht
  · show ∀ p ∈ rs, p.1 ≤ 1 ∧ p.2 < 1 + r1.toNat + rs.length + ts.length
    rw [l6, hw]; exact h6
  · show ∀ l ∈ ls, l < 1 + r1.toNat + rs.length + ts.length
    rw [l6, hw]; exact h7
  · show 1 + r1.toNat + rs.length + ts.length ≤ 1000
    rw [l6]; omega
  · show ls.length ≤ 1000; omega
  · show r1.toNat ≤ a; omega
  · show rs.length ≤ b; omega
  · show ts.length ≤ c; omega
end
end VS.K52

-- Law52
namespace VS.K52
open PySem L2 _root_.K52
variable {T : Tb} {L : Lk}
/-- a call with a place ahead and values behind -/
theorem ev_ioN {f : String} {i : Nat} {es : List Ex} {xs : List D} {st : S} {d d' y : D} {k : Bool} (hf : L.io f = some (true :: es.map isIo)) (h0 : st.get i = some (d, true)) (he : evs L es st = .ok (xs.map fun x => (x, true)) st) (hi : iosOf es = []) (hr : L.run f (d :: xs) st.os = .ok y k [d'] st.os) :
    ev L (.call f (.io i :: es)) st = .ok y k (st.set i (some (d', true))) := by
  have hz : evs L (.io i :: es) st = .ok ((.non, true) :: xs.map fun x => (x, true)) st := by
    simp [evs, ev, h0, he]
  have fl : fill st (.io i :: es) ((.non, true) :: xs.map fun x => (x, true)) = some (d :: xs) := by
    have := fill_all (st := st) hi (evs_len he)
    simp only [fill, h0, this]
    simp [Function.comp_def]
  have bk : back st (.io i :: es) [d'] = st.set i (some (d', true)) := by
    show back (st.set i (some (d', true))) es [] = _
    exact back_all hi
  have ios : iosOf (.io i :: es) = [i] := by
    show i :: iosOf es = [i]
    rw [hi]
  have ok : argsOk (.io i :: es) ((.non, true) :: xs.map fun x => (x, true)) = true := by
    unfold argsOk
    rw [List.all_eq_true]
    intro p hp
    obtain ⟨a, b, z⟩ := p
    have : (b, z) ∈ ((.non, true) :: xs.map fun x => (x, true)) := (List.of_mem_zip hp).2
    have hz : z = true := by
      rcases List.mem_cons.mp this with e | e
      · cases e; rfl
      · obtain ⟨x, _, e⟩ := List.mem_map.mp e
        cases e; rfl
    simp [hz]
  simp only [ev, hf]
  rw [if_pos ⟨by rw [List.map_cons]; rfl, by rw [ios]; simp⟩]
  simp only [hz, ok, if_true, fl, hr, bk]
  rfl
theorem same_str {A B : Ex} {st : S} {x : D} {kx ky : Bool} (h : Sh x) (hA : ev L A st = .ok x kx st) (hB : ev L B st = .ok (.str (toP x).shown) ky st) : evB L (.op2 .ne (.op1 .repr A) B) st = .ok false st := by
  rw [b_op2]
  have e : ev L (.op2 .ne (.op1 .repr A) B) st = .ok (.bl false) true st := by
    have q1 := ev_repr hA h.nice h.deep h.wt
    generalize Ex.op1 .repr A = a at q1
    simp only [ev, q1, hB, Bool.true_or, if_true, ne_shown h.nice h.nice, beq_self_eq_true, Bool.not_true]
  simp [e]
theorem sh_rows {m : Nat} {xss : List (List Int)} (h : ∀ xs ∈ xss, Bits xs ∧ xs.length ≤ m) (hm : m ≤ 1000) (hl : xss.length ≤ 1000) : Sh (.lst (xss.map vT)) := by
  obtain ⟨a, b, c⟩ := nice_vTs h
  refine ⟨by simpa [nice] using a, by simp only [toP, PyData.depth]; omega, ?_⟩
  simp only [wt, sizeLine_eq]
  have : (6 * m + 5) * xss.length ≤ 6005 * 1000 := Nat.mul_le_mul (by omega) hl
  omega
theorem small_ints {xs : List Int} (h : ∀ x ∈ xs, 0 ≤ x ∧ x ≤ 1000) : nices (xs.map .int) = true ∧ wts (xs.map .int) ≤ 15 * xs.length ∧ PyData.depthAll (toPs (xs.map .int)) = 0 :=
  nice_ints (c := 10) (by decide) fun x m => by have := h x m; omega
theorem sh_levels {xs : List Int} (h : ∀ x ∈ xs, 0 ≤ x ∧ x ≤ 1000) (hl : xs.length ≤ 1000) : Sh (vL xs) := by
  obtain ⟨a, b, c⟩ := small_ints h
  exact ⟨by simpa [vL, nice] using a, by simp [vL, toP, PyData.depth, c], by simp only [vL, wt, sizeLine_eq]; omega⟩
theorem sh_int {x : Int} (h : 0 ≤ x ∧ x ≤ 1000) : Sh (.int x) := by
  obtain ⟨a, b, c⟩ := small_ints (xs := [x]) fun y m => by rw [List.mem_singleton.mp m]; exact h
  refine ⟨by simpa [nices] using a, by simp [toP, PyData.depth], ?_⟩
  simp only [List.map_cons, List.map_nil, wts, List.length_cons, List.length_nil] at b
  rw [sizeLine_eq]
  omega
/-- all that is known of a lap's net and lots -/
structure Ok (G : Nt) (lots : List (List Int)) : Prop where
  good : Good G
  g1 : G.ins ≤ 4
  g4 : G.outs.length ≤ 4
  many : lots.length ≤ 11
  each : ∀ lt ∈ lots, lt.length = G.ins ∧ Bits lt
theorem Ok.few {G : Nt} {lots : List (List Int)} (h : Ok G lots) : Few G lots := ⟨by have := h.many; omega, h.each⟩
theorem Ok.rows {G : Nt} {lots : List (List Int)} (h : Ok G lots) : Sh (.lst (lots.map vT)) := sh_rows (m := 4) (fun xs m => ⟨(h.each xs m).2, by have := (h.each xs m).1; have := h.g1; omega⟩) (by decide) (by have := h.many; omega)
theorem Ok.due {G : Nt} {lots : List (List Int)} (h : Ok G lots) : Sh (.lst ((fd G lots lots.length).map vT)) := sh_rows (m := 4) (fun xs m => by
  obtain ⟨j, mj, rfl⟩ := List.mem_map.mp m
  have hj : j < lots.length := by simpa using mj
  have hm : lots.getD j [] ∈ lots := by simp [hj]
  exact ⟨outs_bits (vals_bits _ (all0_bits (stA_bits h.good (fun lt ml => (h.each lt ml).2) j) (h.each _ hm).2)), by simp [outsV]; exact h.g4⟩) (by decide) (by simp [fd]; have := h.many; omega)
def sl (ns : List Int) (d : D) (x2 x3 x4 x5 x6 x7 x8 x9 x10 x11 x12 x13 : O) : S := ⟨[some (.lst (ns.map .int), false), some (d, true), x2, x3, x4, x5, x6, x7, x8, x9, x10, x11, x12, x13], []⟩
def oG (G : Nt) : O := some (ntD G, true)
def oLo (b : Bool) (lots : List (List Int)) : O := some (loD false lots, b)
section
variable {ns : List Int} {d : D} {x2 x3 x4 x5 x6 x7 x8 x9 x10 x11 x12 x13 : O} {G : Nt} {i : Nat} {lots : List (List Int)}
def c5 : Ex := .op2 .idx (.lst [.con (.int 3), .con (.int 8), .con (.int 16), .con (.int 30), .con (.int 12)]) (.var 2)
theorem c5_ok (hi : i < 5) : ∃ v : Nat, ev L c5 (sl ns d (oN i) x3 x4 x5 x6 x7 x8 x9 x10 x11 x12 x13) = .ok (.int v) true (sl ns d (oN i) x3 x4 x5 x6 x7 x8 x9 x10 x11 x12 x13) ∧ v ≤ 30 := by
  match i, hi with
  | 0, _ => exact ⟨3, by simp [c5, ev, evs, sl, oN, Cn.d, ixN, disj, vars, varss, muts, mutss, sizeLine_eq], by decide⟩
  | 1, _ => exact ⟨8, by simp [c5, ev, evs, sl, oN, Cn.d, ixN, disj, vars, varss, muts, mutss, sizeLine_eq], by decide⟩
  | 2, _ => exact ⟨16, by simp [c5, ev, evs, sl, oN, Cn.d, ixN, disj, vars, varss, muts, mutss, sizeLine_eq], by decide⟩
  | 3, _ => exact ⟨30, by simp [c5, ev, evs, sl, oN, Cn.d, ixN, disj, vars, varss, muts, mutss, sizeLine_eq], by decide⟩
  | 4, _ => exact ⟨12, by simp [c5, ev, evs, sl, oN, Cn.d, ixN, disj, vars, varss, muts, mutss, sizeLine_eq], by decide⟩
def drE : Ex := .call "_law_draw_net" [.io 1, .op2 .add (.con (.int 2)) (.var 2), .con (.int 4), .con (.int 4), c5]
theorem dr_ok (h0 : Has T) (hd : IsSrc d) (hi : i < 5) : ∃ (G : Nt) (d' : D), exec (lkOf T 6) (.asg (.n 4) drE) (sl ns d (oN i) x3 x4 x5 x6 x7 x8 x9 x10 x11 x12 x13) = .next (sl ns d' (oN i) x3 (oG G) x5 x6 x7 x8 x9 x10 x11 x12 x13) ∧ IsSrc d' ∧ Good G ∧ G.ins ≤ 4 ∧ G.outs.length ≤ 4 := by
  obtain ⟨c, ec, hc⟩ := c5_ok (L := lkOf T 6) (ns := ns) (d := d) (x3 := x3) (x4 := x4) (x5 := x5) (x6 := x6) (x7 := x7) (x8 := x8) (x9 := x9) (x10 := x10) (x11 := x11) (x12 := x12) (x13 := x13) hi
  obtain ⟨G, d', q, s, g, g1, g2, g3, g4⟩ := draw_ok (n := 3) (k := 2 + i) (a := 4) (b := 4) (c := c) h0 hd (by omega) (by decide) (by decide) (by omega)
  have e2 : ev (lkOf T 6) (.op2 .add (.con (.int 2)) (.var 2)) (sl ns d (oN i) x3 x4 x5 x6 x7 x8 x9 x10 x11 x12 x13) = .ok (.int ((2 + i : Nat) : Int)) true (sl ns d (oN i) x3 x4 x5 x6 x7 x8 x9 x10 x11 x12 x13) := by simp [ev, sl, oN, Cn.d, disj, vars, muts]
  have e4 : ev (lkOf T 6) (.con (.int 4)) (sl ns d (oN i) x3 x4 x5 x6 x7 x8 x9 x10 x11 x12 x13) = .ok (.int ((4 : Nat) : Int)) true (sl ns d (oN i) x3 x4 x5 x6 x7 x8 x9 x10 x11 x12 x13) := rfl
  have es := evs_cons e2 rfl (evs_cons e4 rfl (evs_cons e4 rfl (evs_cons (r := []) ec rfl rfl)))
  have p := ev_ioN (L := lkOf T 6) (i := 1) (xs := [.int ((2 + i : Nat) : Int), .int ((4 : Nat) : Int), .int ((4 : Nat) : Int), .int c]) (lk_io h0.draw) rfl es rfl q
  exact ⟨G, d', run_asg p (by simp [bindT, S.keep, sl, oG]), s, g, g1, g4⟩
def lotE : Ex := .op1 .tupleOf (.comp [12] (.n 12) 0 (.op2 .idx (.var 4) (.con (.int 1))) (.con .non) [] (.call "_law_pick" [.io 1, .con (.int 2)]))
theorem lotE_ok (h0 : Has T) (hd : IsSrc d) (g1 : G.ins ≤ 4) : ∃ (lt : List Int) (d' : D), ev (lkOf T 6) lotE (sl ns d x2 x3 (oG G) x5 x6 x7 x8 x9 x10 x11 none x13) = .ok (vT lt) true (sl ns d' x2 x3 (oG G) x5 x6 x7 x8 x9 x10 x11 none x13) ∧ IsSrc d' ∧ lt.length = G.ins ∧ Bits lt := by
  obtain ⟨ys, d', e, hd', hl, hP⟩ := comp_draw (L := lkOf T 6) (v := 12) (it := .op2 .idx (.var 4) (.con (.int 1))) (e := .call "_law_pick" [.io 1, .con (.int 2)]) (k := G.ins) (sf := fun d o => sl ns d x2 x3 (oG G) x5 x6 x7 x8 x9 x10 x11 o x13) (P := fun y => ∃ b : Int, y = .int b ∧ (b = 0 ∨ b = 1)) (s0 := sl ns d x2 x3 (oG G) x5 x6 x7 x8 x9 x10 x11 none x13) (o0 := none) (d1 := d)
    (by simp [ev, sl, oG, ntD, Cn.d, ixN, cfs_pD, cfs_tD, cf_nT, disj, vars, muts]) hd (by omega) rfl (fun d => rfl) (fun d o => rfl) (fun d x => by simp [bindT, sl]) (fun d o d2 => by simp [S.restore, sl]) fun d i hd => by
      obtain ⟨r, d1, p1, s1, r0, r1⟩ := ev_pickP (n := 5) h0.isPick (st := sl ns d x2 x3 (oG G) x5 x6 x7 x8 x9 x10 x11 (some (.int i, true)) x13) (i := 1) (e := .con (.int 2)) (k := 2) rfl rfl rfl rfl hd (by decide)
      exact ⟨.int r, d1, p1, s1, r, rfl, by omega⟩
  obtain ⟨bs, rfl, hbs⟩ := all_of hP
  have t := tup_of e
  rw [cfs_int] at t
  exact ⟨bs, d', t, hd', by simpa using hl, hbs⟩
def lotsE : Ex := .comp [11] (.n 11) 0 (.call "_law_pick" [.io 1, .con (.int 12)]) (.con .non) [] lotE
theorem lotsE_ok (h0 : Has T) (hd : IsSrc d) (g1 : G.ins ≤ 4) : ∃ (lots : List (List Int)) (d' : D), exec (lkOf T 6) (.asg (.n 5) lotsE) (sl ns d x2 x3 (oG G) x5 x6 x7 x8 x9 x10 none none x13) = .next (sl ns d' x2 x3 (oG G) (oLo true lots) x6 x7 x8 x9 x10 none none x13) ∧ IsSrc d' ∧ lots.length ≤ 11 ∧ ∀ lt ∈ lots, lt.length = G.ins ∧ Bits lt := by
  obtain ⟨r, d1, p1, s1, r0, r1⟩ := ev_pickP (n := 5) h0.isPick (st := sl ns d x2 x3 (oG G) x5 x6 x7 x8 x9 x10 none none x13) (i := 1) (e := .con (.int 12)) (k := 12) rfl rfl rfl rfl hd (by decide)
  have q1 : (sl ns d x2 x3 (oG G) x5 x6 x7 x8 x9 x10 none none x13).set 1 (some (d1, true)) = sl ns d1 x2 x3 (oG G) x5 x6 x7 x8 x9 x10 none none x13 := by simp [sl]
  rw [q1, show r = ((r.toNat : Nat) : Int) by omega] at p1
  obtain ⟨ys, d', e, hd', hl, hP⟩ := comp_draw (L := lkOf T 6) (v := 11) (it := .call "_law_pick" [.io 1, .con (.int 12)]) (e := lotE) (k := r.toNat) (sf := fun d o => sl ns d x2 x3 (oG G) x5 x6 x7 x8 x9 x10 o none x13) (P := fun y => ∃ lt : List Int, y = vT lt ∧ (lt.length = G.ins ∧ Bits lt)) (s0 := sl ns d x2 x3 (oG G) x5 x6 x7 x8 x9 x10 none none x13) (o0 := none) (d1 := d1)
    p1 s1 (by omega) rfl (fun d => rfl) (fun d o => rfl) (fun d x => by simp [bindT, sl]) (fun d o d2 => by simp [S.restore, sl]) fun d i hd => by
      obtain ⟨lt, d', q1, q2, q3, q4⟩ := lotE_ok (ns := ns) (x2 := x2) (x3 := x3) (x5 := x5) (x6 := x6) (x7 := x7) (x8 := x8) (x9 := x9) (x10 := x10) (x11 := some (.int i, true)) (x13 := x13) (G := G) h0 hd g1
      exact ⟨vT lt, d', q1, q2, lt, rfl, q3, q4⟩
  obtain ⟨lots, rfl, hls⟩ := all_of hP
  exact ⟨lots, d', run_asg e (by simp [bindT, S.keep, sl, oLo, loD, rowD]), hd', by simp at hl; omega, hls⟩
end
end VS.K52

-- Law2
namespace VS.K52
open PySem L2 _root_.K52
variable {T : Tb} {L : Lk}
section
variable {ns : List Int} {d : D} {x2 x3 x4 x5 x6 x7 x8 x9 x10 x11 x12 x13 : O} {G : Nt} {i : Nat} {lots : List (List Int)}
def txt (lots : List (List Int)) : D := .str (toP (.lst (lots.map vT))).shown
def lw (ns : List Int) (d : D) (G : Nt) (b : Bool) (lots : List (List Int)) (x2 x3 x6 x7 x10 x13 : O) : S := sl ns d x2 x3 (oG G) (oLo b lots) x6 x7 (oLs (fd G lots lots.length)) (some (txt lots, true)) x10 none none x13
theorem due_ok (h0 : Has T) (h : Ok G lots) : exec (lkOf T 6) (.par [8, 9] [.call "_law_net_run" [.var 4, .var 5, .con (.int 1)], .op1 .repr (.var 5)]) (sl ns d x2 x3 (oG G) (oLo true lots) x6 x7 x8 x9 x10 none none x13) = .next (lw ns d G true lots x2 x3 x6 x7 x10 x13) := by
  have c1 : ev (lkOf T 6) (.call "_law_net_run" [.var 4, .var 5, .con (.int 1)]) (sl ns d x2 x3 (oG G) (oLo true lots) x6 x7 x8 x9 x10 none none x13) = .ok (.lst ((fd G lots lots.length).map vT)) true (sl ns d x2 x3 (oG G) (oLo true lots) x6 x7 x8 x9 x10 none none x13) :=
    ev_callP (lk_io h0.lrun) rfl rfl rfl (ds := [(ntD G, true), (loD false lots, false), (.int 1, true)]) (by simp [evs, ev, sl, oG, oLo, cf_ntD, cf_loD, Cn.d, disj, vars, muts, mutss]) (lrun_ok h0 (n := 5) h.good h.few)
  have c2 : ev (lkOf T 6) (.op1 .repr (.var 5)) (sl ns d x2 x3 (oG G) (oLo true lots) x6 x7 x8 x9 x10 none none x13) = .ok (txt lots) true (sl ns d x2 x3 (oG G) (oLo true lots) x6 x7 x8 x9 x10 none none x13) :=
    ev_repr (x := .lst (lots.map vT)) (k := false) (by simp [ev, sl, oLo, loD, rowD]) h.rows.nice h.rows.deep h.rows.wt
  have es := evs_cons c1 rfl (evs_cons (r := []) c2 rfl rfl)
  simp only [exec, es]
  simp [S.keeps, S.keep, setsS, lw, sl, oLs, txt]
def tsB : List Sm := [.asg (.n 10) (.call "run_net" [.var 4, .var 6]), .ite (.or (.not (.op1 (.isT .list) (.var 10))) (.or (.op2 .ne (.op1 .repr (.var 10)) (.op1 .repr (.var 8))) (.op2 .ne (.op1 .repr (.var 5)) (.var 9)))) [.ret (.con (.bl false))] [], .app 10 [] (.con .non)]
theorem turn_ok (h0 : Has T) (h : Ok G lots) {c b : Bool} : ∃ st', execs (lkOf T 6) tsB (lw ns d G b lots x2 x3 (some (loD c lots, c)) x7 none x13) = .next st' ∧ st'.hide [6, 10] = lw ns d G b lots x2 x3 none x7 none x13 := by
  have c1 : ev (lkOf T 6) (.call "run_net" [.var 4, .var 6]) (lw ns d G b lots x2 x3 (some (loD c lots, c)) x7 none x13) = .ok (.lst ((fd G lots lots.length).map vT)) true (lw ns d G b lots x2 x3 (some (loD c lots, c)) x7 none x13) :=
    ev_callP (lk_io h0.run) rfl rfl rfl (ds := [(ntD G, true), (loD c lots, c)]) (by simp [evs, ev, lw, sl, oG, cf_ntD, cf_loD, disj, vars, muts, mutss]) (run_ok h0 (n := 4) h.good h.few)
  have e1 := run_asg (L := lkOf T 6) (t := .n 10) c1 (st2 := lw ns d G b lots x2 x3 (some (loD c lots, c)) x7 (oLs (fd G lots lots.length)) x13) (by simp [bindT, S.keep, lw, sl, oLs])
  have fl : (fd G lots lots.length).length = lots.length := by simp [fd]
  have hm := h.many
  have t1 : evB (lkOf T 6) (.not (.op1 (.isT .list) (.var 10))) (lw ns d G b lots x2 x3 (some (loD c lots, c)) x7 (oLs (fd G lots lots.length)) x13) = .ok false (lw ns d G b lots x2 x3 (some (loD c lots, c)) x7 (oLs (fd G lots lots.length)) x13) := by
    simp [evB, ev, lw, sl, oLs, op1, isTy]
  have t2 := same (L := lkOf T 6) (A := .var 10) (B := .var 8) (st := lw ns d G b lots x2 x3 (some (loD c lots, c)) x7 (oLs (fd G lots lots.length)) x13) (kx := false) (ky := false) h.due (by simp [ev, lw, sl, oLs]) (by simp [ev, lw, sl, oLs])
  have t3 := same_str (L := lkOf T 6) (A := .var 5) (B := .var 9) (st := lw ns d G b lots x2 x3 (some (loD c lots, c)) x7 (oLs (fd G lots lots.length)) x13) (kx := false) (ky := true) h.rows (by simp [ev, lw, sl, oLo, loD, rowD]) (by simp [ev, lw, sl, txt])
  have e2 := run_no (L := lkOf T 6) (a := [.ret (.con (.bl false))]) (c := .or (.not (.op1 (.isT .list) (.var 10))) (.or (.op2 .ne (.op1 .repr (.var 10)) (.op1 .repr (.var 8))) (.op2 .ne (.op1 .repr (.var 5)) (.var 9)))) (st := lw ns d G b lots x2 x3 (some (loD c lots, c)) x7 (oLs (fd G lots lots.length)) x13) (st1 := lw ns d G b lots x2 x3 (some (loD c lots, c)) x7 (oLs (fd G lots lots.length)) x13) (by
    rw [b_or, t1]
    simp only [if_neg Bool.false_ne_true]
    rw [b_or, t2]
    simp only [if_neg Bool.false_ne_true, t3])
  have e3 := app_ok (L := lkOf T 6) (i := 10) (e := .con .non) (xs := (fd G lots lots.length).map vT) (v := .non) (st := lw ns d G b lots x2 x3 (some (loD c lots, c)) x7 (oLs (fd G lots lots.length)) x13) rfl rfl rfl (by simp [sizeLine_eq]; omega)
  exact ⟨_, run_cons e1 (run_cons e2 (run_cons e3 rfl)), by simp [S.hide, lw, sl]⟩
theorem turns_ok (h0 : Has T) (h : Ok G lots) : exec (lkOf T 6) (.forI (.n 6) 1 (.lst [.var 5, .op1 .tupleOf (.var 5)]) (.con .non) [6, 10] tsB) (lw ns d G true lots x2 x3 none x7 none x13) = .next (lw ns d G false lots x2 x3 none x7 none x13) := by
  have it : ev (lkOf T 6) (.lst [.var 5, .op1 .tupleOf (.var 5)]) (lw ns d G true lots x2 x3 none x7 none x13) = .ok (.lst [loD false lots, loD true lots]) false (lw ns d G true lots x2 x3 none x7 none x13) := by
    have cv := cfs_vT lots
    simp only [lw, oLo, loD, rowD]
    generalize lots.map vT = zs at *
    simp [ev, evs, sl, op1, cv, disj, vars, muts, mutss, sizeLine_eq]
  obtain ⟨st', e, rfl⟩ := exec_for (L := lkOf T 6) (I := fun _ s => s = lw ns d G false lots x2 x3 none x7 none x13) (tg := .n 6) (kind := 1) (it := .lst [.var 5, .op1 .tupleOf (.var 5)]) (it2 := .con .non) (clr := [6, 10]) (b := tsB)
    (st := lw ns d G true lots x2 x3 none x7 none x13) (d1 := .lst [loD false lots, loD true lots]) (k1 := false) (st1 := lw ns d G true lots x2 x3 none x7 none x13) (d2 := .non) (k2 := true) (st2 := lw ns d G true lots x2 x3 none x7 none x13) (st3 := lw ns d G false lots x2 x3 none x7 none x13)
    (items := [loD false lots, loD true lots]) it rfl rfl (by simp [disj, vars, varss, muts, mutss, mutsS, mutsM, tsB]) (by simp [loD, rowD, S.keep, S.frz, vars, varss, lw, sl, oLo]) rfl fun i x s hx hi => by
      subst hi
      have hc : ∃ c, x = loD c lots := by
        match i, hx with
        | 0, hx => exact ⟨false, (Option.some.inj hx).symm⟩
        | 1, hx => exact ⟨true, (Option.some.inj hx).symm⟩
      obtain ⟨c, rfl⟩ := hc
      obtain ⟨st', e, q⟩ := turn_ok (ns := ns) (d := d) (x2 := x2) (x3 := x3) (x7 := x7) (x13 := x13) (c := c) (b := false) h0 h
      exact ⟨lw ns d G false lots x2 x3 (some (loD c lots, c)) x7 none x13, st', by simp [bindT, lw, sl, cf_loD], .inl e, q⟩
  exact e
theorem range_at {ls : List Int} : (List.range ls.length).map (at0 ls) = ls := by
  apply List.ext_getElem
  · simp
  · intro i h1 h2
    simp [at0, h2]
def lvE : Ex := .comp [13] (.n 13) 0 (.op1 .len (.var 7)) (.con .non) [] (.call "level_in" [.var 4, .var 13])
theorem lvE_ok (h0 : Has T) (hG : Good G) : ev (lkOf T 6) lvE (sl ns d x2 x3 (oG G) x5 x6 (oV (lvls G)) x8 x9 x10 x11 x12 none) = .ok (vL (lvls G)) true (sl ns d x2 x3 (oG G) x5 x6 (oV (lvls G)) x8 x9 x10 x11 x12 none) := by
  have small := hG.small
  have ll := lvls_len (G := G)
  have it : ev (lkOf T 6) (.op1 .len (.var 7)) (sl ns d x2 x3 (oG G) x5 x6 (oV (lvls G)) x8 x9 x10 x11 x12 none) = .ok (.int (lvls G).length) true (sl ns d x2 x3 (oG G) x5 x6 (oV (lvls G)) x8 x9 x10 x11 x12 none) := by simp [ev, sl, oV, vL, op1]
  have hr := range_at (ls := lvls G)
  generalize hv : lvls G = ls at *
  rw [lvE, comp_pure (items := (List.range ls.length).map fun i : Nat => D.int i) (g := fun x => match x with | .int l => .int (at0 ls l.toNat) | _ => .non) (F := fun x => sl ns d x2 x3 (oG G) x5 x6 (oV ls) x8 x9 x10 x11 x12 (some (x, cf x))) (d1 := .int ls.length) (k1 := true)
    it (items_range (by omega)) (cfs_nats _) (by rw [cfs_nats]; simp [disj, vars, varss, muts, mutss, S.flatAt, tgs, sl]) (by simp [sizeLine_eq]; omega)
    (fun x hx => by simp [bindT, S.hide, sl]) (fun x hx => by simp [S.hide, sl]) (by simp [S.hide, sl]) (fun x hx => by
      obtain ⟨p, mp, rfl⟩ := List.mem_map.mp hx
      have hp : p < ls.length := by simpa using mp
      have q := lin_ok (n := 3) h0 hG (a := p) (by omega)
      rw [hv] at q
      exact ev_callP (lk_io h0.lin) rfl rfl rfl (ds := [(ntD G, true), (.int p, true)]) (by simp [evs, ev, sl, oG, cf_ntD, disj, vars, muts, mutss]) q) (by simp [S.restore, sl]) (fun x hx => by simp [S.restore, sl])]
  congr 1
  rw [List.map_map]
  simp only [Function.comp_def, Int.toNat_natCast, vL]
  congr 1
  conv => rhs; rw [← hr]
  rw [List.map_map]
  rfl
def edB : List Sm := [.asg (.n 7) (.call "_law_net_levels" [.var 4]), .ite (.op2 .ne (.op1 .repr lvE) (.op1 .repr (.var 7))) [.ret (.con (.bl false))] [], .ite (.or (.op2 .ne (.op1 .repr (.call "net_depth" [.var 4])) (.op1 .repr (.call "_law_net_depth" [.var 4]))) (.op2 .ne (.call "run_net" [.var 4, .lst []]) (.lst []))) [.ret (.con (.bl false))] []]
theorem ed_ok (h0 : Has T) (h : Ok G lots) : execs (lkOf T 6) edB (lw ns d G false lots x2 x3 none none none none) = .next (lw ns d G false lots x2 x3 none (oV (lvls G)) none none) := by
  have c1 : ev (lkOf T 6) (.call "_law_net_levels" [.var 4]) (lw ns d G false lots x2 x3 none none none none) = .ok (vL (lvls G)) true (lw ns d G false lots x2 x3 none none none none) :=
    ev_callP (lk_io h0.llevels) rfl rfl rfl (ds := [(ntD G, true)]) (by simp [evs, ev, lw, sl, oG, cf_ntD, disj, vars, muts, mutss]) (llevels_ok (n := 4) h0 h.good)
  have e1 := run_asg (L := lkOf T 6) (t := .n 7) c1 (st2 := lw ns d G false lots x2 x3 none (oV (lvls G)) none none) (by simp [bindT, S.keep, lw, sl, oV])
  have t2 := same (L := lkOf T 6) (A := lvE) (B := .var 7) (st := lw ns d G false lots x2 x3 none (oV (lvls G)) none none) (kx := true) (ky := false) (x := vL (lvls G)) (sh_levels (fun x m => ⟨lvls_pos x m, lvls_up h.good x m⟩) (by rw [lvls_len]; exact h.good.small)) (lvE_ok h0 h.good) (by simp [ev, lw, sl, oV, vL])
  have e2 := run_no (L := lkOf T 6) (a := [.ret (.con (.bl false))]) t2
  have c3 : ev (lkOf T 6) (.call "net_depth" [.var 4]) (lw ns d G false lots x2 x3 none (oV (lvls G)) none none) = .ok (.int (dpt G)) true (lw ns d G false lots x2 x3 none (oV (lvls G)) none none) :=
    ev_callP (lk_io h0.depth) rfl rfl rfl (ds := [(ntD G, true)]) (by simp [evs, ev, lw, sl, oG, cf_ntD, disj, vars, muts, mutss]) (dep_ok (n := 3) h0 h.good)
  have c4 : ev (lkOf T 6) (.call "_law_net_depth" [.var 4]) (lw ns d G false lots x2 x3 none (oV (lvls G)) none none) = .ok (.int (dpt G)) true (lw ns d G false lots x2 x3 none (oV (lvls G)) none none) :=
    ev_callP (lk_io h0.ldepth) rfl rfl rfl (ds := [(ntD G, true)]) (by simp [evs, ev, lw, sl, oG, cf_ntD, disj, vars, muts, mutss]) (ldep_ok (n := 3) h0 h.good)
  have t3 := same (L := lkOf T 6) (x := .int (dpt G)) (sh_int ⟨maxOr_pos _ dps_pos, dpt_up h.good⟩) c3 c4
  have c5 : ev (lkOf T 6) (.call "run_net" [.var 4, .lst []]) (lw ns d G false lots x2 x3 none (oV (lvls G)) none none) = .ok (.lst []) true (lw ns d G false lots x2 x3 none (oV (lvls G)) none none) :=
    ev_callP (lk_io h0.run) rfl rfl rfl (ds := [(ntD G, true), (loD false [], true)]) (by simp [evs, ev, lw, sl, oG, cf_ntD, disj, vars, varss, muts, mutss, loD, rowD]) (run_ok h0 (n := 4) (c := false) (lots := []) h.good ⟨by simp, by simp⟩)
  have t5 : evB (lkOf T 6) (.op2 .ne (.call "run_net" [.var 4, .lst []]) (.lst [])) (lw ns d G false lots x2 x3 none (oV (lvls G)) none none) = .ok false (lw ns d G false lots x2 x3 none (oV (lvls G)) none none) := by
    rw [b_op2]
    have l0 : ev (lkOf T 6) (.lst []) (lw ns d G false lots x2 x3 none (oV (lvls G)) none none) = .ok (.lst []) true (lw ns d G false lots x2 x3 none (oV (lvls G)) none none) := by simp [ev, evs]
    have q : op2 .ne (.lst []) (.lst []) = some (.bl false, true) := rfl
    generalize Ex.call "run_net" [.var 4, .lst []] = A at c5
    generalize Ex.lst [] = B at l0
    simp only [ev, c5, l0, Bool.true_or, if_true, q, t_bl]
  have e3 := run_no (L := lkOf T 6) (a := [.ret (.con (.bl false))]) (c := .or (.op2 .ne (.op1 .repr (.call "net_depth" [.var 4])) (.op1 .repr (.call "_law_net_depth" [.var 4]))) (.op2 .ne (.call "run_net" [.var 4, .lst []]) (.lst []))) (st := lw ns d G false lots x2 x3 none (oV (lvls G)) none none) (st1 := lw ns d G false lots x2 x3 none (oV (lvls G)) none none) (by
    rw [b_or, t3]
    simp only [if_neg Bool.false_ne_true, t5])
  exact run_cons e1 (run_cons e2 (run_cons e3 rfl))
end
end VS.K52

-- End52
namespace VS.K52
open PySem L2 _root_.K52
variable {T : Tb} {L : Lk}
def lapS : List Sm := [.asg (.n 4) drE, .asg (.n 5) lotsE, .par [8, 9] [.call "_law_net_run" [.var 4, .var 5, .con (.int 1)], .op1 .repr (.var 5)], .forI (.n 6) 1 (.lst [.var 5, .op1 .tupleOf (.var 5)]) (.con .non) [6, 10] tsB,
  .asg (.n 7) (.call "_law_net_levels" [.var 4]), .ite (.op2 .ne (.op1 .repr lvE) (.op1 .repr (.var 7))) [.ret (.con (.bl false))] [], .ite (.or (.op2 .ne (.op1 .repr (.call "net_depth" [.var 4])) (.op1 .repr (.call "_law_net_depth" [.var 4]))) (.op2 .ne (.call "run_net" [.var 4, .lst []]) (.lst []))) [.ret (.con (.bl false))] []]
theorem lap_ok (h0 : Has T) {ns : List Int} {d : D} {i : Nat} (hd : IsSrc d) (hi : i < 5) : ∃ d' st', IsSrc d' ∧ execs (lkOf T 6) lapS (sl ns d (oN i) none none none none none none none none none none none) = .next st' ∧ st'.hide [2, 4, 5, 6, 7, 8, 9, 10, 11, 12, 13] = sl ns d' none none none none none none none none none none none none := by
  obtain ⟨G, d1, e1, s1, g, g1, g4⟩ := dr_ok (ns := ns) (x3 := none) (x4 := none) (x5 := none) (x6 := none) (x7 := none) (x8 := none) (x9 := none) (x10 := none) (x11 := none) (x12 := none) (x13 := none) h0 hd hi
  obtain ⟨lots, d2, e2, s2, lm, le⟩ := lotsE_ok (ns := ns) (x2 := oN i) (x3 := none) (x5 := none) (x6 := none) (x7 := none) (x8 := none) (x9 := none) (x10 := none) (x13 := none) (G := G) h0 s1 g1
  have ok : Ok G lots := ⟨g, g1, g4, lm, le⟩
  have e3 := due_ok (ns := ns) (d := d2) (x2 := oN i) (x3 := none) (x6 := none) (x7 := none) (x8 := none) (x9 := none) (x10 := none) (x13 := none) h0 ok
  have e4 := turns_ok (ns := ns) (d := d2) (x2 := oN i) (x3 := none) (x7 := none) (x13 := none) h0 ok
  have e5 := ed_ok (ns := ns) (d := d2) (x2 := oN i) (x3 := none) h0 ok
  exact ⟨d2, _, s2, run_cons e1 (run_cons e2 (run_cons e3 (run_cons e4 e5))), by simp [S.hide, lw, sl]⟩
/-! ### by hand -/
def t1 : Nt := ⟨2, 1, [(1, 3)], [([1, 2], 6), ([], 1)], [2, 3, 4]⟩
def t2 : Nt := ⟨3, 0, [], [], [0, 0]⟩
def t3 : Nt := ⟨2, 1, [], [], []⟩
def u1 : List (List Int) := [[1], [1], [0], [1]]
theorem good1 : Good t1 := by
  refine ⟨fun i t h => ?_, by decide, by decide, by decide, by decide⟩
  match i, h with
  | 0, h => cases h; decide
  | 1, h => cases h; decide
  | i + 2, h => cases h
theorem good2 : Good t2 := ⟨(fun i t h => by cases i <;> cases h), by decide, by decide, by decide, by decide⟩
theorem good3 : Good t3 := ⟨(fun i t h => by cases i <;> cases h), by decide, by decide, by decide, by decide⟩
theorem few1 : Few t1 u1 := ⟨by decide, fun lt m => by
  simp [u1] at m
  rcases m with rfl | rfl | rfl
  all_goals exact ⟨rfl, fun x mx => by simp at mx; omega⟩⟩
theorem fd1 : fd t1 u1 u1.length = [[1, 0, 1], [0, 1, 1], [1, 1, 1], [1, 0, 1]] := by decide +kernel
theorem dp1 : dpt t1 = 1 := by decide +kernel
theorem dp2 : dpt t2 = 0 := by decide +kernel
theorem dp3 : dpt t3 = 0 := by decide +kernel
section
variable {ns : List Int} {d : D}
def rnE : Ex := .call "run_net" [.var 3, .lst [.tup [.con (.int 1)], .tup [.con (.int 1)], .tup [.con (.int 0)], .tup [.con (.int 1)]]]
def duE : Ex := .lst [.tup [.con (.int 1), .con (.int 0), .con (.int 1)], .tup [.con (.int 0), .con (.int 1), .con (.int 1)], .tup [.con (.int 1), .con (.int 1), .con (.int 1)], .tup [.con (.int 1), .con (.int 0), .con (.int 1)]]
def duD : D := .lst [.tup [.int 1, .int 0, .int 1], .tup [.int 0, .int 1, .int 1], .tup [.int 1, .int 1, .int 1], .tup [.int 1, .int 0, .int 1]]
theorem hand1 (h0 : Has T) : exec (lkOf T 6) (.ite (.op2 .ne rnE duE) [.ret (.con (.bl false))] []) (sl ns d none (oG t1) none none none none none none none none none none) = .next (sl ns d none (oG t1) none none none none none none none none none none) := by
  have c1 : ev (lkOf T 6) rnE (sl ns d none (oG t1) none none none none none none none none none none) = .ok duD true (sl ns d none (oG t1) none none none none none none none none none none) := by
    have q := run_ok h0 (n := 4) (c := false) good1 few1
    rw [fd1] at q
    exact ev_callP (outs := []) (lk_io h0.run) rfl rfl rfl (ds := [(ntD t1, true), (loD false u1, true)]) (evs_cons (d := ntD t1) (k := true) (st1 := sl ns d none (oG t1) none none none none none none none none none none) (by simp [ev, sl, oG, cf_ntD]) rfl (evs_cons (d := loD false u1) (k := true) (st1 := sl ns d none (oG t1) none none none none none none none none none none) (by simp [ev, evs, Cn.d, sizeLine_eq, loD, rowD, u1, vT]) rfl rfl)) q
  have c2 : ev (lkOf T 6) duE (sl ns d none (oG t1) none none none none none none none none none none) = .ok duD true (sl ns d none (oG t1) none none none none none none none none none none) := by
    simp [duE, duD, ev, evs, Cn.d, sizeLine_eq]
  have z : PyData.eqv (toP duD) (toP duD) = true := by decide +kernel
  have q : op2 .ne duD duD = some (.bl false, true) := by rw [o_ne (by decide +kernel) (by decide +kernel), z]; rfl
  refine run_no ?_
  rw [b_op2]
  generalize rnE = A at c1
  generalize duE = B at c2
  simp only [ev, c1, c2, Bool.true_or, if_true, q, t_bl]
def nsE : Ex := .lst [.var 3, .tup [.con (.int 3), .con (.int 0), .tup [], .tup [], .tup [.con (.int 0), .con (.int 0)]], .tup [.con (.int 2), .con (.int 1), .tup [], .tup [], .tup []]]
theorem hand2 (h0 : Has T) : ev (lkOf T 6) (.op2 .eq (.comp [4] (.n 4) 1 nsE (.con .non) [] (.call "net_depth" [.var 4])) (.lst [.con (.int 1), .con (.int 0), .con (.int 0)])) (sl ns d none (oG t1) none none none none none none none none none none) = .ok (.bl true) true (sl ns d none (oG t1) none none none none none none none none none none) := by
  have it : ev (lkOf T 6) nsE (sl ns d none (oG t1) none none none none none none none none none none) = .ok (.lst [ntD t1, ntD t2, ntD t3]) true (sl ns d none (oG t1) none none none none none none none none none none) := by
    have c := cf_ntD (G := t1)
    simp only [oG]
    generalize ntD t1 = z at *
    simp [nsE, ev, evs, sl, c, Cn.d, sizeLine_eq, disj, vars, varss, muts, mutss, ntD, t2, t3, nT]
  have key : ∀ G : Nt, Good G → ev (lkOf T 6) (.call "net_depth" [.var 4]) (sl ns d none (oG t1) (oG G) none none none none none none none none none) = .ok (.int (dpt G)) true (sl ns d none (oG t1) (oG G) none none none none none none none none none) := fun G hG =>
    ev_callP (lk_io h0.depth) rfl rfl rfl (ds := [(ntD G, true)]) (by simp [evs, ev, sl, oG, cf_ntD, disj, vars, muts, mutss]) (dep_ok (n := 3) h0 hG)
  have cs : cfs [ntD t1, ntD t2, ntD t3] = true := by simp [cf_ntD]
  have e : ev (lkOf T 6) (.comp [4] (.n 4) 1 nsE (.con .non) [] (.call "net_depth" [.var 4])) (sl ns d none (oG t1) none none none none none none none none none none) = .ok (.lst [.int 1, .int 0, .int 0]) true (sl ns d none (oG t1) none none none none none none none none none none) := by
    rw [comp_pure (items := [ntD t1, ntD t2, ntD t3]) (g := fun x => match x with | .tup [_, _, .tup [], _, _] => .int 0 | _ => .int 1) (F := fun x => sl ns d none (oG t1) (some (x, true)) none none none none none none none none none) (d1 := .lst [ntD t1, ntD t2, ntD t3]) (k1 := true)
      it rfl cs (by rw [cs]; simp [disj, vars, varss, muts, mutss, S.flatAt, tgs, sl]) (by simp [sizeLine_eq])
      (fun x hx => by
        have : cf x = true := by
          simp only [List.mem_cons, List.not_mem_nil, or_false] at hx
          rcases hx with rfl | rfl | rfl <;> exact cf_ntD
        simp [bindT, S.hide, sl, this]) (fun x hx => by simp [S.hide, sl]) (by simp [S.hide, sl]) (fun x hx => by
        simp only [List.mem_cons, List.not_mem_nil, or_false] at hx
        rcases hx with rfl | rfl | rfl
        · have := key t1 good1; rw [dp1] at this; exact this
        · have := key t2 good2; rw [dp2] at this; exact this
        · have := key t3 good3; rw [dp3] at this; exact this) (by simp [S.restore, sl]) (fun x hx => by simp [S.restore, sl])]
    rfl
  have l0 : ev (lkOf T 6) (.lst [.con (.int 1), .con (.int 0), .con (.int 0)]) (sl ns d none (oG t1) none none none none none none none none none none) = .ok (.lst [.int 1, .int 0, .int 0]) true (sl ns d none (oG t1) none none none none none none none none none none) := by simp [ev, evs, Cn.d, sizeLine_eq]
  have z : PyData.eqv (toP (.lst [.int 1, .int 0, .int 0])) (toP (.lst [.int 1, .int 0, .int 0])) = true := by decide +kernel
  have q : op2 .eq (.lst [.int 1, .int 0, .int 0]) (.lst [.int 1, .int 0, .int 0]) = some (.bl true, true) := by rw [o_eq (by decide +kernel) (by decide +kernel), z]
  generalize Ex.comp [4] (.n 4) 1 nsE (.con .non) [] (.call "net_depth" [.var 4]) = A at e
  generalize Ex.lst [.con (.int 1), .con (.int 0), .con (.int 0)] = B at l0
  simp only [ev, e, l0, Bool.true_or, if_true, q]
end
theorem law_ok (h0 : Has T) {ns : List Int} (hl : ns.length ≤ 63) : ∃ k outs os, callF T 7 "law" [.lst (ns.map .int)] [] = .ok (.bl true) k outs os := by
  obtain ⟨d, q, hd⟩ := source_okP (n := 5) (os := []) h0.isSource hl
  have e0 : exec (lkOf T 6) (.asg (.n 1) (.call "_law_source" [.var 0])) ⟨[some (.lst (ns.map .int), false), none, none, none, none, none, none, none, none, none, none, none, none, none], []⟩ = .next (sl ns d none none none none none none none none none none none none) :=
    run_asg (ev_callP (lk_io h0.source) rfl rfl rfl (ds := [(.lst (ns.map .int), false)]) (by simp [evs, ev, disj, vars, muts, mutss]) q) (by simp [bindT, S.keep, sl])
  obtain ⟨st', e1, d', hd', rfl⟩ := exec_for (L := lkOf T 6) (I := fun _ st => ∃ d, IsSrc d ∧ st = sl ns d none none none none none none none none none none none none) (tg := .n 2) (kind := 0) (it := .con (.int 5)) (it2 := .con .non) (clr := [2, 4, 5, 6, 7, 8, 9, 10, 11, 12, 13]) (b := lapS)
    (st := sl ns d none none none none none none none none none none none none) (items := (List.range 5).map fun i : Nat => D.int i) rfl rfl (items_range (by decide)) (by simp [disj, vars]) (by rw [if_pos (cfs_nats _)]) ⟨d, hd, rfl⟩ fun i x st hx hi => by
      obtain ⟨d, hd, rfl⟩ := hi
      have hi : i < 5 := by have := (List.getElem?_eq_some_iff.mp hx).1; simpa using this
      obtain rfl : D.int i = x := by rw [List.getElem?_map, List.getElem?_range hi] at hx; exact Option.some.inj hx
      obtain ⟨d', st', hd', e, e'⟩ := lap_ok (ns := ns) h0 hd hi
      exact ⟨sl ns d (oN i) none none none none none none none none none none none, st', by simp [bindT, sl, oN], .inl e, d', hd', e'⟩
  have e2 : exec (lkOf T 6) (.asg (.n 3) (.tup [.con (.int 2), .con (.int 1), .tup [.tup [.con (.int 1), .con (.int 3)]], .tup [.tup [.tup [.con (.int 1), .con (.int 2)], .con (.int 6)], .tup [.tup [], .con (.int 1)]], .tup [.con (.int 2), .con (.int 3), .con (.int 4)]])) (sl ns d' none none none none none none none none none none none none) =
      .next (sl ns d' none (oG t1) none none none none none none none none none none) := by
    simp [exec, ev, evs, Cn.d, sizeLine_eq, bindT, S.keep, sl, oG, ntD, t1, pD, tD, nT]
  have r := run_cons e0 (run_cons e1 (run_cons e2 (run_cons (hand1 (ns := ns) (d := d') h0) (run_ret (r := []) (hand2 (ns := ns) (d := d') h0)))))
  exact ⟨_, _, _, call_ret h0.law rfl (show startS claw [.lst (ns.map .int)] [] = _ from rfl) r (outs_none rfl)⟩
abbrev tb : Tb := tbOf ds fun _ => none
theorem nd : (ds.map (·.f)).Nodup := by decide +kernel
theorem has : Has tb where
  folded := tb_get (d := dfolded) nd (by simp [ds])
  look := tb_get (d := dlooked_up) nd (by simp [ds])
  first := tb_get (d := d_first_table) nd (by simp [ds])
  run := tb_get (d := drun_net) nd (by simp [ds])
  levels := tb_get (d := d_levels) nd (by simp [ds])
  lin := tb_get (d := dlevel_in) nd (by simp [ds])
  depth := tb_get (d := dnet_depth) nd (by simp [ds])
  source := tb_get (d := d_law_source) nd (by simp [ds])
  pick := tb_get (d := d_law_pick) nd (by simp [ds])
  of := tb_get (d := d_law_of) nd (by simp [ds])
  mixed := tb_get (d := d_law_mixed) nd (by simp [ds])
  lfirst := tb_get (d := d_law_net_first) nd (by simp [ds])
  lrun := tb_get (d := d_law_net_run) nd (by simp [ds])
  llevels := tb_get (d := d_law_net_levels) nd (by simp [ds])
  ldepth := tb_get (d := d_law_net_depth) nd (by simp [ds])
  draw := tb_get (d := d_law_draw_net) nd (by simp [ds])
  law := tb_get (d := dlaw) nd (by simp [ds])
theorem main (ns : List Int) (h : ns.length ≤ 63) : ∃ k outs os, callF tb 7 "law" [.lst (ns.map .int)] [] = .ok (.bl true) k outs os := law_ok has h
end VS.K52

-- Head52
section
set_option maxHeartbeats 0
namespace K52
open PySem PySem.Spec PyProof.Rows L2 VS
def dd (d : DefI) : He.DefD := ⟨(d.name, none), d.name, d.name, defArgs d.st, defBody d.st, defScope d.st, [], []⟩
def fn : List He.DefD := ds.map dd
def fa : List He.Fa := (ds.map fun d => He.Fa.glo d.name) ++ bltNames.map He.Fa.free
abbrev R : PySem.W.OpenRow := PySem.W.OpenLaw.row PySem.Challenge.rw_bitloom_k52_whole_runs_of_nets
abbrev hk : PySem.W.Hook := He.hookD 4 fa fn
def ob (s : PySem.W.SharedT) : He.AlD := He.obsDG 4 fa fn (HandSHeadRun.getT s)
theorem ob_eq (s : PySem.W.SharedT) : ob s = hk.obs s.abs := He.obsDG_eq (HandSHeadRun.getT_eq s)
def loose : List PySem.Str := ["folded", "looked_up", "_first_table", "run_net", "_levels", "level_in", "net_depth", "_law_source", "_law_pick", "_law_of", "_law_mixed", "_law_net_first", "_law_net_run", "_law_net_levels", "_law_net_depth", "_law_draw_net"]
theorem run (w : World) : HandSHeadRun.RunEq R (PySem.W.view R.prog [19]) hk ob 1000 loose w := by
  intro os
  kernel_rfl
end K52

end

-- Fin52
section
set_option maxHeartbeats 0
namespace K52
open PySem PySem.Spec PyProof.Rows L2 VS
theorem facts {P : Program} {w : World} {K : PySem.W.Frag} {h : Heap} {mg : Str → Option Value} {f : Addr} (X : K.In h) (G : h.Ns mainGlobals mg) (hfa : mg ("law" : Str) = some (.ref f)) (c : He.SaysD fa fn K) :
    ∃ fd : FuncData, (∀ (s : Shared) (v : Value), BindsTo s fd ⟨[v], []⟩ [("_law_script", v)]) ∧ ∀ base : Heap, K.In base → base.Ns mainGlobals mg → FnG P w K mg base 7 f fd ["_law_script"] (spF VS.K52.tb (fun _ _ => False) 7 K "law") := by
  have gl : ∀ d ∈ ds, ∃ fa fd, mg d.name = some (.ref fa) ∧ d.At K fa fd := fun d m => by
    obtain ⟨fd, F⟩ := He.SaysD.defs (d := dd d) c (List.mem_map.mpr ⟨d, m, rfl⟩)
    exact ⟨_, fd, He.glo_ok X G (He.SaysD.facts c (List.mem_append.mpr (.inl (List.mem_map.mpr ⟨d, m, rfl⟩)))), F⟩
  have bl : ∀ x ∈ bltNames, mg x = none := fun x m => He.free_ok X G (He.SaysD.facts c (List.mem_append.mpr (.inr (List.mem_map.mpr ⟨x, m, rfl⟩))))
  have mem : dlaw ∈ ds := by simp [ds]
  obtain ⟨fa', fd, e, F⟩ := gl dlaw mem
  have e2 : fa' = f := by
    have := e.symm.trans hfa
    cases this
    rfl
  subst e2
  refine ⟨fd, fun s v => ?_, fun base _ _ => all_ok chk gl bl (by intro _ _ _ z; cases z) 7 dlaw mem fa' fd F⟩
  exact FunD.bindsA (ps := ["_law_script"]) F (fun kV doc pm an cdv ct us hl => bind_plain (by decide +kernel) (by decide) hl) s [v] rfl
end K52
open PySem PySem.W PySem.Calls PyProof.Rows
theorem PySem.Challenge.cw_bitloom_k52_whole_runs_of_nets_holds : PySem.Challenge.rw_bitloom_k52_whole_runs_of_nets.Holds := by
  w_on; o_law
  refine HandSHeadRun.head_any (r := OpenLaw.row PySem.Challenge.rw_bitloom_k52_whole_runs_of_nets) (q := view (OpenLaw.row PySem.Challenge.rw_bitloom_k52_whole_runs_of_nets).prog [19]) (H := K52.hk) (ob := K52.ob) (M := 1000) (loose := K52.loose) (d := HandSHeadRun.topDef (OpenLaw.row PySem.Challenge.rw_bitloom_k52_whole_runs_of_nets).prog 19) (kwd := []) K52.ob_eq
    (by kernel_rfl) (fun s => by kernel_rfl) K52.run (by kernel_rfl) (by kernel_rfl) (by kernel_rfl) (by rfl) (by first | assumption | decide +kernel) (by decide +kernel) ⟨rfl, rfl, rfl, rfl, rfl, by decide +kernel⟩ ?hw ?hc
  case hw => w_witness2
  case hc =>
    refine VS.walk_small (l := PySem.Challenge.rw_bitloom_k52_whole_runs_of_nets) (n := 63) (k := 7) (x := "_law_script") rfl (by decide) (by kernel_rfl) ⟨rfl, by decide, by decide⟩ rfl ?F
    intro w mg fa h Y G hmg0
    obtain ⟨K, KX, c⟩ := Y
    have hmg : mg ("law" : PySem.Str) = some (.ref fa) := by
      have e : (HandSHeadRun.topDef (OpenLaw.row PySem.Challenge.rw_bitloom_k52_whole_runs_of_nets).prog 19).name = ("law" : PySem.Str) := by kernel_rfl
      rw [← e]
      exact hmg0
    obtain ⟨fd, hb, hF⟩ := K52.facts (P := (PySem.Challenge.rw_bitloom_k52_whole_runs_of_nets).prog) (w := w) KX G hmg c
    exact ⟨K, fd, _, KX, hb, fun H a ns hl hO hS => VS.law_sp (T := VS.K52.tb) (c := K52.claw) (VS.tb_get (ds := K52.ds) (d := K52.dlaw) (by decide +kernel) (by simp [K52.ds])) rfl rfl (by decide) hO hS (VS.K52.main ns hl), hF⟩

end
