import PyProof.Rows.All
import Wide.All
import OpenK.AllK
import Wide.FinOn
import HandS.ForMost
import HandS.ForExc
import HandS.IsInst
import HandS.Zip
import HandS.TupAny
import HandS.TupMul
import HandS.Style
import HandS.Strs
import HandS.Evl
import HandS.ExcInit
import HandS.Flow
import HandS.ExcIs
import HandS.ExcField
import KE.GoesMore
import KE.GoesEnum
import HandS.ExcOwn
import HandS.ExcValue
import KE.KExcIs
import HandS.TryMany
import PySem.Challenge.RW_sinktree_k00_errors
set_option Elab.async false
set_option linter.all false
set_option maxRecDepth 100000
set_option maxHeartbeats 4000000
/-! SK1: a small machine for the part of Python that the program uses: data, cells, the pieces, what they evaluate to. -/
namespace SK
open PySem PySem.Spec PyProof.Rows L2

/-! ### values -/
inductive D where
  | t (d : PyData) | own (ds : List PyData) | ref (i : Nat) | scr (ds : List PyData) | err (k : Nat) (fs : List (Str × PyData))
inductive Cell where
  | lst (ds : List PyData)
abbrev S := List Cell
abbrev Rho := List (Option D)
/-- an error under way: its class, its fields, the slots where it was raised -/
structure Exn where
  cls : Nat
  fs : List (Str × PyData)
  env : Rho
inductive R (α : Type) where
  | ok (a : α) (c : S) | ex (e : Exn) (c : S) | no
def R.bind {α β : Type} (r : R α) (f : α → S → R β) : R β := match r with
  | .ok a c => f a c
  | .ex e c => .ex e c
  | .no => .no
/-- what a call lets out is out at the caller's slots -/
def R.out {α : Type} (ρ : Rho) : R α → R α
  | .ex e c => .ex ⟨e.cls, e.fs, ρ⟩ c
  | r => r
/-! ### the error classes, by number -/
def clsNames : List Str := ["BadSchema", "BadKey", "BadRecord", "DiskError", "DiskCrashed", "DiskFull", "BadProgram", "BadText", "BadCode", "Refusal", "SinkError"]
def clsName (k : Nat) : Str := (clsNames[k]?).getD ("" : Str)
def clsFlds : Nat → List Str
  | 6 => ["reason"] | 7 => ["index"] | 8 => ["index", "reason"] | 9 => ["reason"]
  | _ => []
def fldNames : List Str := ["reason", "index"]
/-- the classes that are subclasses of the one with this name -/
def isSub (k : Nat) (j : Nat) : Bool := decide (k = j) || decide (j = 10)

/-! ### pieces -/
inductive Bop where
  | add | sub | mul | fdiv | mod | pow
inductive Cop where
  | eq | ne | lt | le | gt | ge | isin | notin | is | isnot
inductive Bi where
  | len | abs | int | min2 | max2 | sum | tuple | list | all | any | ord | sorted | str
inductive Me where
  | join
inductive Ty where
  | int | str | bool | tuple | list | dict

mutual
inductive Tg where
  | one (i : Nat) | many (ts : Tgs)
inductive Tgs where
  | nil | cons (t : Tg) (ts : Tgs)
end
mutual
inductive IE where
  | lit (d : PyData) | var (i : Nat) | glob (j : Nat)
  | bin (op : Bop) (a b : IE) | neg (a : IE)
  | cmp (op : Cop) (a b : IE) | chain (o1 o2 : Cop) (a b c : IE)
  | and (a b : IE) | or (a b : IE) | one (a : IE) | not (a : IT)
  | ite (c : IT) (a b : IE)
  | tup (es : IEs) | lst (es : IEs)
  | sub (a b : IE) | slice (a : IE) (lo hi : IEo)
  | comp (e : IE) (tg : Tg) (it : II) (cond : ITo)
  | call (k : Nat) (es : IEs)
  | bi (b : Bi) (es : IEs)
  | me (m : Me) (o e : IE) | pop0 (o e : IE)
  | isi (a : IE) (ty : Ty)
  | mk (k : Nat) (es : IEs) | ofld (a : IE) (f : Str) (ks : List Nat) | oisc (a : IE) (j : Nat) (ks : List Nat) | oisv (a : IE) (ks : List Nat)
  | fld (a : IE) (f : Str) | isc (a : IE) (j : Nat) | isv (a : IE) | lenset (a : IE)
inductive IEs where
  | nil | cons (e : IE) (es : IEs)
inductive IEo where
  | none | some (e : IE)
/-- tests -/
inductive IT where
  | val (e : IE) | not (t : IT) | and (a b : IT) | or (a b : IT) | one (a : IT)
inductive ITo where
  | none | some (t : IT)
inductive II where
  | seq (e : IE) | rng1 (e : IE) | rng2 (a b : IE) | zip (a b : IE) | enum (a : IE)
end
mutual
inductive IS where
  | asg (i : Nat) (e : IE) | cell (i : Nat) (e : IE) | unp (ts : Tgs) (e : IE) | aug (i : Nat) (op : Bop) (e : IE)
  | ife (c : IT) (a b : ISs) | for (tg : Tg) (it : II) (body : ISs) | whl (c : IT) (body : ISs)
  | ret (e : IE) | retn | app (i : Nat) (e : IE) | exp (e : IE) | pas | brk | con
  | raise (k : Nat) (es : IEs) | try (b : ISs) (hs : IHs)
inductive ISs where
  | nil | cons (s : IS) (ss : ISs)
/-- except clauses: the class, the name's slot, the suite -/
inductive IHs where
  | nil | cons (j : Nat) (i : Option Nat) (b : ISs) (r : IHs)
end

/-- the classes of except clauses -/
def hsIds : IHs → List Nat
  | .nil => []
  | .cons j _ _ r => j :: hsIds r
/-! ### operations on data -/
def flatD : PyData → Bool
  | .none | .bool _ | .int _ | .str _ => true
  | _ => false
def szOk (n : Nat) : Bool := decide (n ≤ sizeLine)
def binD : Bop → PyData → PyData → Option PyData
  | .add, .int a, .int b => some (.int (a + b))
  | .add, .str a, .str b => if szOk (a.length + b.length) then some (.str (a ++ b)) else none
  | .add, .tuple a, .tuple b => if szOk (a.length + b.length) then some (.tuple (a ++ b)) else none
  | .sub, .int a, .int b => some (.int (a - b))
  | .mul, .int a, .int b => if (-(2 ^ 64) < b ∧ b < 2 ^ 64) ∨ (-(2 ^ 64) < a ∧ a < 2 ^ 64) then some (.int (a * b)) else none
  | .mul, .str a, .int b => if -(2 ^ 62) ≤ b ∧ b < 2 ^ 62 ∧ a.length * b.toNat ≤ sizeLine then some (.str ⟨(List.replicate b.toNat a.cps.toList).flatten.toArray⟩) else none
  | .fdiv, .int a, .int b => if 0 < b ∧ b < 1073741824 then some (.int (a / b)) else none
  | .mod, .int a, .int b => if 0 < b then some (.int (a % b)) else none
  | .pow, .int a, .int b => if 0 ≤ b ∧ b ≤ 1000000 ∧ a.natAbs < 2 ^ 64 then some (.int (a ^ b.toNat)) else none
  | _, _, _ => none
/-- binary operations that give a fresh list -/
def binL : Bop → PyData → PyData → Option (List PyData)
  | .add, .list a, .list b => if szOk (a.length + b.length) then some (a ++ b) else none
  | .mul, .list a, .int b => if -(2 ^ 63) ≤ b ∧ b < 2 ^ 63 ∧ a.length * b.toNat ≤ sizeLine then some (List.replicate b.toNat a).flatten else none
  | _, _, _ => none
def eqD : PyData → PyData → Option Bool
  | .int a, .int b => some (decide (a = b))
  | .str a, .str b => some (decide (a = b))
  | .bool a, .bool b => some (decide (a = b))
  | .none, .none => some true
  | a, b => if SeqAt.shaped a && SeqAt.shaped b then some (PyData.eqv a b) else none
def ltS (a b : Str) : Bool := decide (a.cps.toList < b.cps.toList)
def inD (x : PyData) : PyData → Option Bool
  | .list ds => if flatD x && ds.all flatD then some (ds.any fun y => PyData.eqv y x) else none
  | .tuple ds => if flatD x && ds.all flatD then some (ds.any fun y => PyData.eqv y x) else none
  | .str z => match x with
    | .str y => match y.cps.toList with
      | [c] => some (decide (c ∈ z.cps.toList))
      | _ => none
    | _ => none
  | _ => none
def isNoneD : PyData → Bool
  | .none => true
  | _ => false
def cmpD : Cop → PyData → PyData → Option Bool
  | .eq, a, b => eqD a b
  | .ne, a, b => (eqD a b).map (!·)
  | .lt, .int a, .int b => some (decide (a < b))
  | .lt, .str a, .str b => some (ltS a b)
  | .le, .int a, .int b => some (decide (a ≤ b))
  | .le, .str a, .str b => some (!ltS b a)
  | .gt, .int a, .int b => some (decide (b < a))
  | .gt, .str a, .str b => some (ltS b a)
  | .ge, .int a, .int b => some (decide (b ≤ a))
  | .ge, .str a, .str b => some (!ltS a b)
  | .isin, a, b => inD a b
  | .notin, a, b => (inD a b).map (!·)
  | .is, a, .none => some (isNoneD a)
  | .isnot, a, .none => some (!isNoneD a)
  | .is, .bool a, .bool b => some (decide (a = b))
  | .isnot, .bool a, .bool b => some (!decide (a = b))
  | _, _, _ => none
def truD : PyData → Option Bool
  | .none => some false
  | .bool b => some b
  | .int i => some (i != 0)
  | .str x => if szOk x.length then some (!decide (x.length = 0)) else none
  | .tuple ds => some (!ds.isEmpty)
  | .list ds => some (!ds.isEmpty)
  | _ => none
def atD {α : Type} (xs : List α) (i : Int) : Option α := atI xs i
def subD : PyData → PyData → Option PyData
  | .list ds, .int i => atI ds i
  | .tuple ds, .int i => atI ds i
  | .str z, .int i => if szOk z.length then (atI z.cps.toList i).map fun c => .str ⟨#[c]⟩ else none
  | _, _ => none
def cutD {α : Type} (xs : List α) (lo hi : Option Int) : List α := (xs.drop (HT.sIx xs.length 0 lo)).take (HT.sIx xs.length xs.length hi - HT.sIx xs.length 0 lo)
/-- slices of tuples and texts; of lists -/
def sliceD : PyData → Option Int → Option Int → Option PyData
  | .tuple ds, lo, hi => some (.tuple (cutD ds lo hi))
  | .str z, lo, hi => if szOk z.length then some (.str (cutS z lo hi)) else none
  | _, _, _ => none
def sliceL : PyData → Option Int → Option Int → Option (List PyData)
  | .list ds, lo, hi => some (cutD ds lo hi)
  | _, _, _ => none
inductive Kd where
  | non | bl | int | str | lst | tup | dic
def kd : PyData → Kd
  | .none => .non | .bool _ => .bl | .int _ => .int | .str _ => .str | .list _ => .lst | .tuple _ => .tup | .dict _ => .dic
def tyB : Ty → Kd → Bool
  | .int, .int => true
  | .int, .bl => true
  | .bool, .bl => true
  | .str, .str => true
  | .tuple, .tup => true
  | .list, .lst => true
  | .dict, .dic => true
  | _, _ => false
def tyD (t : Ty) (d : PyData) : Option Bool := match d with
  | .dict _ => none
  | d => some (tyB t (kd d))
def bools : List PyData → Option (List Bool)
  | [] => some []
  | .bool b :: r => (bools r).map (b :: ·)
  | _ => none
def intsD : List PyData → Option (List Int)
  | [] => some []
  | .int i :: r => (intsD r).map (i :: ·)
  | _ => none
def strsD : List PyData → Option (List Str)
  | [] => some []
  | .str i :: r => (strsD r).map (i :: ·)
  | _ => none
def biD : Bi → List PyData → Option PyData
  | .len, [.list ds] => some (.int ds.length)
  | .len, [.tuple ds] => some (.int ds.length)
  | .len, [.str z] => if szOk z.length then some (.int z.length) else none
  | .abs, [.int i] => some (.int (if i < 0 then -i else i))
  | .int, [.int i] => some (.int i)
  | .int, [.bool b] => some (.int (if b then 1 else 0))
  | .min2, [.int i, .int j] => some (.int (if j < i then j else i))
  | .max2, [.int i, .int j] => some (.int (if j > i then j else i))
  | .sum, [.list ds] => (intsD ds).map fun is => .int is.sum
  | .tuple, [.list ds] => some (.tuple ds)
  | .tuple, [.tuple ds] => some (.tuple ds)
  | .all, [.list ds] => (bools ds).map fun bs => .bool (bs.all id)
  | .any, [.list ds] => (bools ds).map fun bs => .bool (bs.any id)
  | .ord, [.str z] => if z.length = 1 then some (.int (z.cps.getD 0 0 : Nat)) else none
  | .str, [.int i] => if i.natAbs.log2 < 1920 then some (.str (toString i)) else none
  | _, _ => none
def biL : Bi → List PyData → Option (List PyData)
  | .list, [.list ds] => some ds
  | .list, [.tuple ds] => some ds
  | _, _ => none
def meD : Me → PyData → PyData → Option PyData
  | .join, .str a, .list ds => (strsD ds).bind fun ys => if (ys.map (·.length)).sum + ys.length * a.length ≤ 16777216 then some (.str (Txt.join a ys)) else none
  | .join, .str a, .tuple ds => (strsD ds).bind fun ys => if (ys.map (·.length)).sum + ys.length * a.length ≤ 16777216 then some (.str (Txt.join a ys)) else none
  | _, _, _ => none
/-- what a walk gives -/
def itemsD : PyData → Option (List PyData)
  | .list ds => some ds
  | .tuple ds => some ds
  | .str z => some (z.cps.toList.map fun c => .str ⟨#[c]⟩)
  | _ => none

/-- an error as a value: its class, its fields -/
def objD (k : Nat) (fs : List (Str × PyData)) : PyData := .dict ((.none, .int k) :: fs.map fun p => (.str p.1, p.2))
def objFs : List (PyData × PyData) → List (Str × PyData)
  | [] => []
  | (.str f, q) :: r => (f, q) :: objFs r
  | _ :: r => objFs r
def objFld (d : PyData) (f : Str) : Option PyData := match d with
  | .dict ((.none, .int _) :: r) => (objFs r).lookup f
  | _ => none
def objCls (d : PyData) : Option Nat := match d with
  | .dict ((.none, .int k) :: _) => if 0 ≤ k then some k.toNat else none
  | _ => none
/-- how many different texts -/
def oneS (acc : List Str) (x : Str) : List Str := if acc.any (· == x) then acc else acc ++ [x]
def setS (l : List Str) : List Str := l.foldl oneS []
def setN (l : List Str) : Option Nat := if l.length ≤ 4000 then some (setS l).length else none
def setD : PyData → Option Nat
  | .list ds => (strsD ds).bind setN
  | .tuple ds => (strsD ds).bind setN
  | _ => none

/-! ### the machine -/
def look (d : D) (c : S) : Option PyData := match d with
  | .t d => some d
  | .own ds => some (.list ds)
  | .scr ds => some (.list ds)
  | .err _ _ => none
  | .ref i => match c[i]? with
    | some (.lst ds) => some (.list ds)
    | none => none
def frz : D → D
  | .own ds => .t (.list ds)
  | d => d
def ofO {α β : Type} (o : Option α) (f : α → R β) : R β := match o with
  | some a => f a
  | none => .no
mutual
def setTg : Tg → PyData → Rho → Option Rho
  | .one i, d, ρ => some (ρ.set i (some (.t d)))
  | .many ts, .tuple ds, ρ => setTgs ts ds ρ
  | .many _, _, _ => none
def setTgs : Tgs → List PyData → Rho → Option Rho
  | .nil, [], ρ => some ρ
  | .cons t ts, d :: ds, ρ => (setTg t d ρ).bind fun ρ1 => setTgs ts ds ρ1
  | _, _, _ => none
end
mutual
def slotsOf : Tg → List Nat
  | .one i => [i]
  | .many ts => slotsOfs ts
def slotsOfs : Tgs → List Nat
  | .nil => []
  | .cons t ts => slotsOf t ++ slotsOfs ts
end
def wipeD (ρ : Rho) : List Nat → Rho
  | [] => ρ
  | v :: vs => (wipeD ρ vs).set v none
def zipD : List PyData → List PyData → List PyData
  | a :: as, b :: bs => .tuple [a, b] :: zipD as bs
  | _, _ => []
def enumD : Nat → List PyData → List PyData
  | _, [] => []
  | n, a :: as => .tuple [.int (n : Nat), a] :: enumD (n + 1) as
def rngD (lo : Int) (n : Nat) : List PyData := (List.range n).map fun i => .int (lo + (i : Nat))
def nox {α : Type} : R α → R α
  | .ex _ _ => .no
  | r => r
/-- a comprehension's turns -/
def compL (f : PyData → S → R (Option PyData)) : List PyData → List PyData → S → R (List PyData)
  | [], acc, c => .ok acc c
  | x :: xs, acc, c => (f x c).bind fun o c1 => match o with
    | some y => if acc.length < sizeLine then compL f xs (acc ++ [y]) c1 else .no
    | none => compL f xs acc c1

def dat (d : D) (c : S) : R PyData := ofO (look d c) fun q => .ok q c
def pd (r : R D) : R PyData := r.bind dat
/-- a value that may lie in data -/
def tvD (d : D) : Option PyData := match frz d with
  | .t q => some q
  | _ => none
def tv (r : R D) : R PyData := r.bind fun d c => ofO (tvD d) fun q => .ok q c
def allT : List D → Option (List PyData)
  | [] => some []
  | d :: ds => (tvD d).bind fun q => (allT ds).map (q :: ·)
def lookAll : List D → S → Option (List PyData)
  | [], _ => some []
  | d :: ds, c => (look d c).bind fun q => (lookAll ds c).map (q :: ·)
def two (x y : D) (c : S) (f : PyData → PyData → R D) : R D := ofO (look (frz x) c) fun a => ofO (look (frz y) c) fun b => f a b
def lookX (d : D) (c : S) : Option PyData := match d with
  | .scr _ => none
  | d => look d c
def twoX (x y : D) (c : S) (f : PyData → PyData → R D) : R D := ofO (lookX (frz x) c) fun a => ofO (lookX (frz y) c) fun b => f a b
def resT (o : Option PyData) (l : Option (List PyData)) (c : S) : R D := match o with
  | some z => .ok (.t z) c
  | none => match l with
    | some z => .ok (.own z) c
    | none => .no
def resB (o : Option Bool) (c : S) : R D := match o with
  | some z => .ok (.t (.bool z)) c
  | none => .no
def popD (i : Nat) (y : D) (c : S) : R D := match y with
  | .t (.int k) => if k = 0 then (match c[i]? with
    | some (.lst (y :: r)) => .ok (.t y) (c.set i (.lst r))
    | _ => .no) else .no
  | _ => .no
section
variable (cl : Nat → List D → S → R D) (gl : Nat → Option PyData)
mutual
def evE : IE → Rho → S → R D
  | .lit d, _, c => .ok (.t d) c
  | .var i, ρ, c => match ρ[i]? with
    | some (some d) => .ok d c
    | _ => .no
  | .glob j, _, c => ofO (gl j) fun d => .ok (.t d) c
  | .bin op a b, ρ, c => (evE a ρ c).bind fun x c1 => (evE b ρ c1).bind fun y c2 => twoX x y c2 fun p q => resT (binD op p q) (binL op p q) c2
  | .neg a, ρ, c => (pd (evE a ρ c)).bind fun x c1 => match x with
    | .int i => .ok (.t (.int (-i))) c1
    | _ => .no
  | .cmp op a b, ρ, c => (evE a ρ c).bind fun x c1 => (evE b ρ c1).bind fun y c2 => two x y c2 fun p q => resB (cmpD op p q) c2
  | .chain o1 o2 a b e, ρ, c => (evE a ρ c).bind fun x c1 => (evE b ρ c1).bind fun y c2 => two x y c2 fun p q => ofO (cmpD o1 p q) fun z =>
      if z then (evE e ρ c2).bind fun w c3 => two y w c3 fun p q => resB (cmpD o2 p q) c3 else .ok (.t (.bool false)) c2
  | .and a b, ρ, c => (evE a ρ c).bind fun x c1 => match x with
    | .t (.bool true) => evE b ρ c1
    | .t (.bool false) => .ok (.t (.bool false)) c1
    | _ => .no
  | .or a b, ρ, c => (evE a ρ c).bind fun x c1 => match x with
    | .t (.bool true) => .ok (.t (.bool true)) c1
    | .t (.bool false) => evE b ρ c1
    | _ => .no
  | .one a, ρ, c => evE a ρ c
  | .not a, ρ, c => (evT a ρ c).bind fun z c1 => .ok (.t (.bool (!z))) c1
  | .ite t a b, ρ, c => (evT t ρ c).bind fun z c1 => if z then evE a ρ c1 else evE b ρ c1
  | .tup es, ρ, c => (evA es ρ c).bind fun ds c1 => ofO (allT ds) fun qs => if szOk qs.length then .ok (.t (.tuple qs)) c1 else .no
  | .lst es, ρ, c => (evA es ρ c).bind fun ds c1 => ofO (allT ds) fun qs => if szOk qs.length then .ok (.own qs) c1 else .no
  | .sub a b, ρ, c => (evE a ρ c).bind fun x c1 => (evE b ρ c1).bind fun y c2 => two x y c2 fun p q => resT (subD p q) none c2
  | .slice a lo hi, ρ, c => (evE a ρ c).bind fun x c1 => (evO lo ρ c1).bind fun l c2 => (evO hi ρ c2).bind fun h c3 => ofO (look (frz x) c3) fun p => resT (sliceD p l h) (sliceL p l h) c3
  | .comp e tg it cond, ρ, c => (evI it ρ c).bind fun items c1 =>
      (nox (compL (fun x c2 => ofO (setTg tg x (wipeD ρ (slotsOf tg))) fun ρ1 => (evC cond ρ1 c2).bind fun b c3 => if b then (tv (evE e ρ1 c3)).bind fun y c4 => .ok (some y) c4 else .ok none c3) items [] c1)).bind fun ds c5 => .ok (.own ds) c5
  | .call k es, ρ, c => (evA es ρ c).bind fun ds c1 => (cl k ds c1).out ρ
  | .bi b es, ρ, c => (evA es ρ c).bind fun ds c1 => ofO (lookAll ds c1) fun qs => resT (biD b qs) (biL b qs) c1
  | .pop0 o e, ρ, c => (evE o ρ c).bind fun x c1 => match x with
    | .ref i => (evE e ρ c1).bind fun y c2 => popD i y c2
    | _ => .no
  | .me m o e, ρ, c => (evE o ρ c).bind fun x c1 => match x with
    | .t (.str z) => (evE e ρ c1).bind fun y c2 => ofO (look (frz y) c2) fun q => resT (meD m (.str z) q) none c2
    | _ => .no
  | .isi a ty, ρ, c => (pd (evE a ρ c)).bind fun x c1 => resB (tyD ty x) c1
  | .mk k es, ρ, c => (evA es ρ c).bind fun ds c1 => ofO (allT ds) fun qs => if qs.length = (clsFlds k).length then .ok (.t (objD k ((clsFlds k).zip qs))) c1 else .no
  | .ofld a f ks, ρ, c => (tv (evE a ρ c)).bind fun q c1 => ofO (objCls q) fun k => if ks.contains k then ofO (objFld q f) fun z => .ok (.t z) c1 else .no
  | .oisc a j ks, ρ, c => (tv (evE a ρ c)).bind fun q c1 => ofO (objCls q) fun k => if ks.contains k then .ok (.t (.bool (isSub k j))) c1 else .no
  | .oisv a ks, ρ, c => (tv (evE a ρ c)).bind fun q c1 => ofO (objCls q) fun k => if ks.contains k then .ok (.t (.bool true)) c1 else .no
  | .fld a f, ρ, c => (evE a ρ c).bind fun d c1 => match d with
    | .err _ fs => ofO (fs.lookup f) fun q => .ok (.t q) c1
    | _ => .no
  | .isc a j, ρ, c => (evE a ρ c).bind fun d c1 => match d with
    | .err k [] => .ok (.t (.bool (isSub k j))) c1
    | _ => .no
  | .isv a, ρ, c => (evE a ρ c).bind fun d c1 => match d with
    | .err _ [] => .ok (.t (.bool true)) c1
    | _ => .no
  | .lenset a, ρ, c => (pd (evE a ρ c)).bind fun x c1 => ofO (setD x) fun n => .ok (.t (.int n)) c1
def evT : IT → Rho → S → R Bool
  | .val e, ρ, c => (pd (evE e ρ c)).bind fun d c1 => ofO (truD d) fun z => .ok z c1
  | .not a, ρ, c => (evT a ρ c).bind fun z c1 => .ok (!z) c1
  | .and a b, ρ, c => (evT a ρ c).bind fun z c1 => if z then evT b ρ c1 else .ok false c1
  | .or a b, ρ, c => (evT a ρ c).bind fun z c1 => if z then .ok true c1 else evT b ρ c1
  | .one a, ρ, c => evT a ρ c
/-- arguments -/
def evA : IEs → Rho → S → R (List D)
  | .nil, _, c => .ok [] c
  | .cons e es, ρ, c => (evE e ρ c).bind fun d c1 => (evA es ρ c1).bind fun ds c2 => .ok (frz d :: ds) c2
def evO : IEo → Rho → S → R (Option Int)
  | .none, _, c => .ok none c
  | .some e, ρ, c => (evE e ρ c).bind fun d c1 => match d with
    | .t (.int i) => .ok (some i) c1
    | _ => .no
def evC : ITo → Rho → S → R Bool
  | .none, _, c => .ok true c
  | .some e, ρ, c => evT e ρ c
def evI : II → Rho → S → R (List PyData)
  | .seq e, ρ, c => (tv (evE e ρ c)).bind fun q c1 => ofO (itemsD q) fun xs => .ok xs c1
  | .rng1 e, ρ, c => (evE e ρ c).bind fun d c1 => match d with
    | .t (.int n) => if -(2 ^ 62) ≤ n ∧ n < 2 ^ 62 then .ok (rngD 0 n.toNat) c1 else .no
    | _ => .no
  | .rng2 a b, ρ, c => (evE a ρ c).bind fun d c1 => (evE b ρ c1).bind fun e c2 => match d, e with
    | .t (.int i), .t (.int j) => if -(2 ^ 62) ≤ i ∧ i < 2 ^ 62 ∧ -(2 ^ 62) ≤ j ∧ j < 2 ^ 62 then .ok (rngD i (j - i).toNat) c2 else .no
    | _, _ => .no
  | .zip a b, ρ, c => (evE a ρ c).bind fun d c1 => (evE b ρ c1).bind fun e c2 => match frz d, frz e with
    | .t (.list xs), .t (.list ys) => .ok (zipD xs ys) c2
    | .t (.tuple xs), .t (.tuple ys) => .ok (zipD xs ys) c2
    | _, _ => .no
  | .enum a, ρ, c => (tv (evE a ρ c)).bind fun q c1 => match q with
    | .list xs => .ok (enumD 0 xs) c1
    | .tuple xs => .ok (enumD 0 xs) c1
    | _ => .no
end
/-! ### statements -/
inductive Fl where
  | nx | ret (d : D) | brk | con
abbrev RS := R (Fl × Rho)
/-- the turns of a for -/
def forL (tg : Tg) (f : Rho → S → RS) : List PyData → Rho → S → RS
  | [], ρ, c => .ok (.nx, ρ) c
  | x :: xs, ρ, c => ofO (setTg tg x ρ) fun ρ1 => (f ρ1 c).bind fun p c1 => match p with
    | (.nx, ρ2) => forL tg f xs ρ2 c1
    | (.con, ρ2) => forL tg f xs ρ2 c1
    | (.brk, ρ2) => .ok (.nx, ρ2) c1
    | (.ret d, ρ2) => .ok (.ret d, ρ2) c1
def whlL (t : Rho → S → R Bool) (f : Rho → S → RS) : Nat → Rho → S → RS
  | 0, _, _ => .no
  | n + 1, ρ, c => (t ρ c).bind fun b c0 => if b then (f ρ c0).bind fun p c1 => match p with
    | (.nx, ρ2) => whlL t f n ρ2 c1
    | (.con, ρ2) => whlL t f n ρ2 c1
    | (.brk, ρ2) => .ok (.nx, ρ2) c1
    | (.ret d, ρ2) => .ok (.ret d, ρ2) c1 else .ok (.nx, ρ) c0
def appD (j : Nat) (y : PyData) (ρ : Rho) (c : S) : RS := match c[j]? with
  | some (.lst ds) => if ds.length < sizeLine then .ok (.nx, ρ) (c.set j (.lst (ds ++ [y]))) else .no
  | none => .no
def augD : Bop → PyData → PyData → Option PyData
  | .pow, _, _ => none
  | op, .int i, .int j => binD op (.int i) (.int j)
  | .add, .str i, .str j => binD .add (.str i) (.str j)
  | _, _, _ => none
def tryR (r : RS) (f : Exn → S → RS) : RS := match r with
  | .ex e c => f e c
  | r => r
/-- the slots in an except suite -/
def heldAt (i : Option Nat) (e : Exn) : Rho := match i with
  | some i => e.env.set i (some (.err e.cls e.fs))
  | none => e.env
def isErr : D → Bool
  | .err _ _ => true
  | _ => false
def unErr : Option D → Option D
  | some (.err _ _) => none
  | x => x
/-- .. behind it -/
def offR (i : Option Nat) (p : Fl × Rho) (c : S) : RS :=
  let ρ := (match i with | some i => p.2.set i none | none => p.2).map unErr
  match p.1 with
  | .ret d => if isErr d then .no else .ok (.ret d, ρ) c
  | f => .ok (f, ρ) c
variable (wf : Nat)
mutual
def exS : IS → Rho → S → RS
  | .asg i e, ρ, c => (evE cl gl e ρ c).bind fun d c1 => .ok (.nx, ρ.set i (some (frz d))) c1
  | .cell i e, ρ, c => (evE cl gl e ρ c).bind fun d c1 => match d with
    | .own ds => .ok (.nx, ρ.set i (some (.ref c1.length))) (c1 ++ [.lst ds])
    | _ => .no
  | .unp is e, ρ, c => (tv (evE cl gl e ρ c)).bind fun q c1 => match q with
    | .tuple ds => ofO (setTgs is ds ρ) fun ρ1 => .ok (.nx, ρ1) c1
    | _ => .no
  | .aug i op e, ρ, c => match ρ[i]? with
    | some (some (.t x)) => (evE cl gl e ρ c).bind fun d c1 => match d with
      | .t y => ofO (augD op x y) fun z => .ok (.nx, ρ.set i (some (.t z))) c1
      | _ => .no
    | _ => .no
  | .ife t a b, ρ, c => (evT cl gl t ρ c).bind fun z c1 => if z then exSs a ρ c1 else exSs b ρ c1
  | .for tg it body, ρ, c => (evI cl gl it ρ c).bind fun xs c1 => forL tg (fun ρ1 c2 => exSs body ρ1 c2) xs ρ c1
  | .whl t body, ρ, c => whlL (fun ρ1 c1 => evT cl gl t ρ1 c1) (fun ρ1 c1 => exSs body ρ1 c1) wf ρ c
  | .ret e, ρ, c => (evE cl gl e ρ c).bind fun d c1 => .ok (.ret d, ρ) c1
  | .retn, ρ, c => .ok (.ret (.t .none), ρ) c
  | .app i e, ρ, c => match ρ[i]? with
    | some (some (.ref j)) => (tv (evE cl gl e ρ c)).bind fun y c1 => appD j y ρ c1
    | _ => .no
  | .exp e, ρ, c => (evE cl gl e ρ c).bind fun _ c1 => .ok (.nx, ρ) c1
  | .pas, ρ, c => .ok (.nx, ρ) c
  | .brk, ρ, c => .ok (.brk, ρ) c
  | .con, ρ, c => .ok (.con, ρ) c
  | .raise k es, ρ, c => (evA cl gl es ρ c).bind fun ds c1 => ofO (allT ds) fun qs => if qs.length = (clsFlds k).length then .ex ⟨k, (clsFlds k).zip qs, ρ⟩ c1 else .no
  | .try b hs, ρ, c => tryR (exSs b ρ c) fun e c1 => exHs hs e c1
def exSs : ISs → Rho → S → RS
  | .nil, ρ, c => .ok (.nx, ρ) c
  | .cons s ss, ρ, c => (exS s ρ c).bind fun p c1 => match p with
    | (.nx, ρ1) => exSs ss ρ1 c1
    | p => .ok p c1
def exHs : IHs → Exn → S → RS
  | .nil, e, c => .ex e c
  | .cons j i b r, e, c => if isSub e.cls j then (nox (exSs b (heldAt i e) c)).bind fun p c1 => offR i p c1 else exHs r e c
end
/-- what leaves a def -/
def leave (n : Nat) (d : D) (c : S) : R D := match d with
  | .ref j => if j < n then .ok (.ref j) (c.take n) else match c[j]? with
    | some (.lst ds) => .ok (.own ds) (c.take n)
    | none => .no
  | d => .ok d (c.take n)
end
def cutX {α : Type} (n : Nat) : R α → R α
  | .ex e c => .ex ⟨e.cls, e.fs, []⟩ (c.take n)
  | r => r
structure Fn where
  name : Str
  ps : List Str
  N : List Str
  body : ISs
def startD (k : Nat) (ds : List D) : Rho := ds.map some ++ List.replicate (k - ds.length) none
section
variable (fns : List Fn) (gl : Nat → Option PyData) (wf : Nat)
def run : Nat → Nat → List D → S → R D
  | 0, _, _, _ => .no
  | n + 1, k, ds, c => ofO fns[k]? fun fn => if ds.length = fn.ps.length then
      cutX c.length ((exSs (run n) gl wf fn.body (startD fn.N.length ds) c).bind fun p c1 => match p with
        | (.ret d, _) => leave c.length d c1
        | (.nx, _) => leave c.length (.t .none) c1
        | _ => .no)
    else .no
end
end SK

/-! SK2: when a piece stands for a text. -/
namespace SK
open PySem PySem.Spec PyProof.Rows L2
structure Tx where
  N : List Str
  nm : List Str
  gn : List Str
  hot : Bool
  ecs : List Nat
def okName (x : Str) : Bool := !(x == ("__debug__" : Str)) && !(x == ("__classdict__" : Str)) && !decide (x = ("__name__" : Str))
def isVis (sc : Scope) (x : Str) : Bool := match sc.names.lookup x with
  | some .local | some .cell | some .free => true
  | _ => false
def isGl (sc : Scope) (x : Str) : Bool := decide (sc.names.lookup x = some .globalImplicit) && okName x
def isLoc (sc : Scope) (x : Str) : Bool := decide (sc.names.lookup x = some .local)
def bopOf : Bop → Operator
  | .add => .Add | .sub => .Sub | .mul => .Mult | .fdiv => .FloorDiv | .mod => .Mod | .pow => .Pow
def copOf : Cop → CmpOp
  | .eq => .Eq | .ne => .NotEq | .lt => .Lt | .le => .LtE | .gt => .Gt | .ge => .GtE | .isin => .In | .notin => .NotIn | .is => .Is | .isnot => .IsNot
def biName : Bi → Str
  | .len => "len" | .abs => "abs" | .int => "int" | .min2 => "min" | .max2 => "max" | .sum => "sum" | .tuple => "tuple" | .list => "list" | .all => "all" | .any => "any" | .ord => "ord" | .sorted => "sorted" | .str => "str"
def meName : Me → Str
  | .join => "join"
def tyName : Ty → Str
  | .int => "int" | .str => "str" | .bool => "bool" | .tuple => "tuple" | .list => "list" | .dict => "dict"
def maName (X : Tx) (sc : Scope) (i : Nat) : Expr → Bool
  | .Name x _ => decide (X.N[i]? = some x) && isLoc sc x && okName x
  | _ => false
mutual
def maTg (X : Tx) (sc : Scope) : Tg → Expr → Bool
  | .one i, e => maName X sc i e
  | .many ts, .Tuple es _ _ => maTgs X sc ts es
  | _, _ => false
def maTgs (X : Tx) (sc : Scope) : Tgs → List Expr → Bool
  | .nil, [] => true
  | .cons t ts, e :: es => maTg X sc t e && maTgs X sc ts es
  | _, _ => false
end
/-- a target of a def's own statement: a local, perhaps captured further in -/
def isLocF (sc : Scope) (x : Str) : Bool := decide (sc.names.lookup x = some .local) || decide (sc.names.lookup x = some .cell)
def maNameF (X : Tx) (sc : Scope) (i : Nat) : Expr → Bool
  | .Name x _ => decide (X.N[i]? = some x) && isLocF sc x && okName x
  | _ => false
mutual
def maTgF (X : Tx) (sc : Scope) : Tg → Expr → Bool
  | .one i, e => maNameF X sc i e
  | .many ts, .Tuple es _ _ => maTgsF X sc ts es
  | _, _ => false
def maTgsF (X : Tx) (sc : Scope) : Tgs → List Expr → Bool
  | .nil, [] => true
  | .cons t ts, e :: es => maTgF X sc t e && maTgsF X sc ts es
  | _, _ => false
end
def ownOf (X : Tx) (tg : Tg) : List (Str × Nat) := (slotsOf tg).map fun i => ((X.N[i]?).getD ("" : Str), i)
def noCall0 : Expr → Bool
  | .Call _ [] _ _ => false
  | _ => true
def pl : Expr → Bool
  | .Starred _ _ => false
  | .Slice _ _ _ _ => false
  | .Set _ _ _ => false
  | _ => true
def callOf : Expr → Option (Str × List Expr)
  | .Call (.Name x _) args [] _ => some (x, args)
  | _ => none
theorem callOf_some {e : Expr} {x : Str} {args : List Expr} (h : callOf e = some (x, args)) : ∃ p pos, e = .Call (.Name x p) args [] pos := by
  unfold callOf at h
  split at h
  · cases h; exact ⟨_, _, rfl⟩
  · cases h
def isTup : Expr → Bool
  | .Tuple _ _ _ => true
  | _ => false
theorem isTup_some {e : Expr} (h : isTup e = true) : ∃ es k p, e = .Tuple es k p := by
  cases e <;> first | exact ⟨_, _, _, rfl⟩ | (simp [isTup] at h)
/-- its truth is its value's -/
def plainT : Expr → Bool
  | .UnaryOp .Not _ _ => false
  | .BoolOp _ _ _ => false
  | .IfExp _ _ _ _ => false
  | _ => true
mutual
def maE (X : Tx) (sc : Scope) : IE → Expr → Bool
  | .lit .none, .Constant .none _ _ => true
  | .lit (.bool b), .Constant (.bool b') _ _ => b == b'
  | .lit (.int i), .Constant (.int j) _ _ => decide (i = j)
  | .lit (.str s), .Constant (.str s') _ _ => decide (s = s')
  | .var i, .Name x _ => decide (X.N[i]? = some x) && isVis sc x && okName x
  | .glob j, .Name x _ => decide (X.gn[j]? = some x) && isGl sc x
  | .bin op a b, .BinOp a' op' b' _ => decide (bopOf op = op') && maE X sc a a' && maE X sc b b'
  | .neg a, .UnaryOp .USub a' _ => maE X sc a a'
  | .cmp op a b, .Compare a' [op'] [b'] _ => decide (copOf op = op') && maE X sc a a' && maE X sc b b'
  | .chain o1 o2 a b c, .Compare a' [p1, p2] [b', c'] _ => decide (copOf o1 = p1) && decide (copOf o2 = p2) && maE X sc a a' && maE X sc b b' && maE X sc c c'
  | .and a b, .BoolOp .And (x :: y :: r) pos => maE X sc a x && maE X sc b (.BoolOp .And (y :: r) pos)
  | .or a b, .BoolOp .Or (x :: y :: r) pos => maE X sc a x && maE X sc b (.BoolOp .Or (y :: r) pos)
  | .one a, .BoolOp _ [x] _ => maE X sc a x
  | .not (.val a), .UnaryOp .Not a' _ => maE X sc a a'
  | .ite t a b, .IfExp t' a' b' _ => maT X sc t t' && maE X sc a a' && maE X sc b b'
  | .tup es, .Tuple es' _ _ => maEs X sc es es'
  | .lst es, .List es' _ => maEs X sc es es'
  | .slice a lo hi, .Subscript a' (.Slice lo' hi' none _) _ => maE X sc a a' && maO X sc lo lo' && maO X sc hi hi'
  | .sub a b, .Subscript a' b' _ => maE X sc a a' && maE X sc b b'
  | .comp e tg it cond, .ListComp e' [⟨tg', it', ifs, as⟩] scope _ => !X.hot && decide (as = 0) && pl it' && maI X sc it tg' it' && blkC X.N sc scope (ownOf X tg) && maTg X (relS scope sc) tg tg' && maC X (relS scope sc) cond ifs && maE X (relS scope sc) e e'
  | .call k es, .Call (.Name x _) es' [] _ => !X.hot && decide (X.nm[k]? = some x) && isGl sc x && maEs X sc es es'
  | .bi b es, .Call (.Name x _) es' [] _ => !X.hot && decide (biName b = x) && isGl sc x && maEs X sc es es'
  | .pop0 o e, .Call (.Attribute o' n ap) [e'] [] cp => decide (n = ("pop" : Str)) && noCall0 o' && (ap.endLine == cp.line) && maE X sc o o' && maE X sc e e'
  | .me m o e, .Call (.Attribute o' n ap) [e'] [] cp => decide (n = meName m) && noCall0 o' && (ap.endLine == cp.line) && maE X sc o o' && maE X sc e e'
  | .isi a ty, .Call (.Name x _) [a', .Name y _] [] _ => decide (x = ("isinstance" : Str)) && isGl sc x && decide (y = tyName ty) && isGl sc y && maE X sc a a'
  | .mk k es, .Call (.Name x _) es' [] _ => !X.hot && X.ecs.contains k && decide (es'.length = (clsFlds k).length) && decide (x = clsName k) && isGl sc x && maEs X sc es es'
  | .ofld a f ks, .Attribute a' n _ => decide (ks = X.ecs) && decide (n = f) && fldNames.contains f && noCall0 a' && !X.hot && maE X sc a a'
  | .oisc a j ks, .Call (.Name x _) [a', .Name y _] [] _ => decide (ks = X.ecs) && !X.hot && X.ecs.contains j && decide (x = ("isinstance" : Str)) && isGl sc x && decide (y = clsName j) && isGl sc y && maE X sc a a'
  | .oisv a ks, .Call (.Name x _) [a', .Name y _] [] _ => decide (ks = X.ecs) && !X.hot && decide (x = ("isinstance" : Str)) && isGl sc x && decide (y = ("ValueError" : Str)) && isGl sc y && maE X sc a a'
  | .fld a f, .Attribute a' n _ => decide (n = f) && fldNames.contains f && noCall0 a' && X.hot && maE X sc a a'
  | .isc a j, .Call (.Name x _) [a', .Name y _] [] _ => X.hot && X.ecs.contains j && decide (x = ("isinstance" : Str)) && isGl sc x && decide (y = clsName j) && isGl sc y && maE X sc a a'
  | .isv a, .Call (.Name x _) [a', .Name y _] [] _ => X.hot && decide (x = ("isinstance" : Str)) && isGl sc x && decide (y = ("ValueError" : Str)) && isGl sc y && maE X sc a a'
  | .lenset a, .Call (.Name x _) [e'] [] _ => !X.hot && decide (x = ("len" : Str)) && isGl sc x && (match callOf e' with
    | some (y, [a']) => decide (y = ("set" : Str)) && isGl sc y && maE X sc a a'
    | _ => false)
  | _, _ => false
def maT (X : Tx) (sc : Scope) : IT → Expr → Bool
  | .not a, .UnaryOp .Not a' _ => maT X sc a a'
  | .and a b, .BoolOp .And (x :: y :: r) pos => maT X sc a x && maT X sc b (.BoolOp .And (y :: r) pos)
  | .or a b, .BoolOp .Or (x :: y :: r) pos => maT X sc a x && maT X sc b (.BoolOp .Or (y :: r) pos)
  | .one a, .BoolOp _ [x] _ => maT X sc a x
  | .val e, e' => maE X sc e e' && plainT e'
  | _, _ => false
def maEs (X : Tx) (sc : Scope) : IEs → List Expr → Bool
  | .nil, [] => true
  | .cons e es, e' :: es' => maE X sc e e' && maEs X sc es es'
  | _, _ => false
def maO (X : Tx) (sc : Scope) : IEo → Option Expr → Bool
  | .none, none => true
  | .some e, some e' => maE X sc e e'
  | _, _ => false
def maC (X : Tx) (sc : Scope) : ITo → List Expr → Bool
  | .none, [] => true
  | .some e, [e'] => maT X sc e e'
  | _, _ => false
def maI (X : Tx) (sc : Scope) : II → Expr → Expr → Bool
  | .rng1 e, _, t => match callOf t with
    | some (x, [e']) => decide (x = ("range" : Str)) && isGl sc x && maE X sc e e'
    | _ => false
  | .rng2 a b, _, t => match callOf t with
    | some (x, [a', b']) => decide (x = ("range" : Str)) && isGl sc x && maE X sc a a' && maE X sc b b'
    | _ => false
  | .zip a b, tg, t => match callOf t with
    | some (x, [a', b']) => isTup tg && decide (x = ("zip" : Str)) && isGl sc x && maE X sc a a' && maE X sc b b'
    | _ => false
  | .enum a, tg, t => match callOf t with
    | some (x, [a']) => isTup tg && decide (x = ("enumerate" : Str)) && isGl sc x && maE X sc a a'
    | _ => false
  | .seq e, _, e' => maE X sc e e'
end
/-- what may make a fresh list, and isn't a comprehension -/
def noComp : Expr → Bool
  | .ListComp _ _ _ _ => false
  | .SetComp _ _ _ _ => false
  | .DictComp _ _ _ _ _ => false
  | _ => true
/-- a comprehension that is assigned begins on its name's line, and has no such name of its own -/
def compLine (sc : Scope) (x : Str) (p : Pos) : Expr → Bool
  | .ListComp _ _ scope cp => decide (sc.names.lookup x = some .cell) || (p.line == cp.line) && !(scope.names.any fun (n, k) => n == x && (k == .local || k == .cell))
  | .SetComp _ _ _ _ => false
  | .DictComp _ _ _ _ _ => false
  | _ => true
def oneName : List Expr → Option (Str × Pos)
  | [.Name x p] => some (x, p)
  | _ => none
theorem oneName_some {ts : List Expr} {x : Str} {p : Pos} (h : oneName ts = some (x, p)) : ts = [.Name x p] := by
  unfold oneName at h
  split at h
  · cases h; rfl
  · cases h
def oneTup : List Expr → Option (List Expr)
  | [.Tuple es _ _] => some es
  | _ => none
theorem oneTup_some {ts : List Expr} {es : List Expr} (h : oneTup ts = some es) : ∃ k p, ts = [.Tuple es k p] := by
  unfold oneTup at h
  split at h
  · cases h; exact ⟨_, _, rfl⟩
  · cases h
def appOf : Expr → Option (Str × Str × Expr × Pos × Pos)
  | .Call (.Attribute (.Name x _) n ap) [e'] [] cp => some (x, n, e', ap, cp)
  | _ => none
theorem appOf_some {c : Expr} {x n : Str} {e' : Expr} {ap cp : Pos} (h : appOf c = some (x, n, e', ap, cp)) : ∃ xp, c = .Call (.Attribute (.Name x xp) n ap) [e'] [] cp := by
  unfold appOf at h
  split at h
  · cases h; exact ⟨_, rfl⟩
  · cases h
def onOk (X : Tx) (sc : Scope) : Option Nat → Option Str → Bool
  | none, none => true
  | some i, some n => decide (X.N[i]? = some n) && isLoc sc n
  | _, _ => false
mutual
def maS (X : Tx) (sc : Scope) : IS → Stmt → Bool
  | .asg i e, .Assign ts e' _ => match oneName ts with
    | some (x, p) => maNameF X sc i (.Name x p) && maE X sc e e' && compLine sc x p e'
    | none => false
  | .cell i e, .Assign ts e' _ => match oneName ts with
    | some (x, p) => maNameF X sc i (.Name x p) && maE X sc e e' && compLine sc x p e'
    | none => false
  | .unp is e, .Assign ts e' _ => match oneTup ts with
    | some es => !X.hot && maTgsF X sc is es && maE X sc e e' && noComp e' && !isTup e'
    | none => false
  | .aug i op e, .AugAssign (.Name x p) op' e' _ => decide (bopOf op = op') && maNameF X sc i (.Name x p) && maE X sc e e'
  | .ife t a b, .If t' a' b' _ => maT X sc t t' && maSs X sc a a' && maSs X sc b b'
  | .for tg it body, .For tg' it' body' [] _ => !X.hot && pl it' && maI X sc it tg' it' && maTgF X sc tg tg' && maSs X sc body body'
  | .whl t body, .While t' body' [] _ => !X.hot && maT X sc t t' && maSs X sc body body'
  | .ret e, .Return (some e') _ => maE X sc e e'
  | .retn, .Return none _ => true
  | .app i e, .Expr c _ => match appOf c with
    | some (x, n, e', ap, cp) => (ap.endLine == cp.line) && decide (n = ("append" : Str)) && decide (X.N[i]? = some x) && isVis sc x && okName x && maE X sc e e'
    | none => false
  | .exp e, .Expr e' _ => maE X sc e e' && noComp e'
  | .pas, .Expr (.Constant (.str _) _ _) _ => true
  | .pas, .Pass _ => true
  | .brk, .Break _ => true
  | .con, .Continue _ => true
  | .raise k es, .Raise (some c) none _ => match callOf c with
    | some (x, es') => !X.hot && X.ecs.contains k && decide (es'.length = (clsFlds k).length) && decide (x = clsName k) && isGl sc x && maEs X sc es es'
    | none => false
  | .try b hs, .Try body hs' [] [] _ => !X.hot && !hs'.isEmpty && maSs X sc b body && maHs X sc hs hs'
  | _, _ => false
def maSs (X : Tx) (sc : Scope) : ISs → List Stmt → Bool
  | .nil, [] => true
  | .cons s ss, s' :: ss' => maS X sc s s' && maSs X sc ss ss'
  | _, _ => false
def maHs (X : Tx) (sc : Scope) : IHs → List ExceptHandler → Bool
  | .nil, [] => true
  | .cons j i b r, .ExceptHandler (some (.Name y _)) on (s :: ss) _ :: hs => X.ecs.contains j && decide (y = clsName j) && isGl sc y && onOk X sc i on && maSs ⟨X.N, X.nm, X.gn, true, X.ecs⟩ sc b (s :: ss) && maHs X sc r hs
  | _, _ => false
end
theorem maE_pl {X : Tx} {sc : Scope} {i : IE} {e : Expr} (h : maE X sc i e = true) : pl e = true := by
  cases e <;> first
    | rfl
    | (cases i <;> first | (simp [maE] at h; done) | (rename_i d; cases d <;> (simp [maE] at h; done)))
end SK

/-! SK3: how the machine's state lies in the heap. -/
namespace SK
open PySem PySem.Spec PyProof.Rows L2
open Evl (Ex)


/-- where the global x leads -/
def gaK (K : PySem.W.Frag) (x : Str) : Addr := match PySem.W.nsIn K mainGlobals x with
  | some (some (.ref a)) => a
  | _ => 0
mutual
inductive Dq (K : PySem.W.Frag) (F : Hp) : V → PyData → Prop
  | non : Dq K F .non .none
  | bl (b : Bool) : Dq K F (.bl b) (.bool b)
  | int (i : Int) : Dq K F (.int i) (.int i)
  | str (x : Str) : Dq K F (.str x) (.str x)
  | lst {a : Addr} {xs : List V} {ds : List PyData} : Rd F a (.lst xs) → DqAll K F xs ds → Dq K F (.ref a) (.list ds)
  | tup {a : Addr} {xs : List V} {ds : List PyData} : SqT K F a xs → DqAll K F xs ds → Dq K F (.ref a) (.tuple ds)
  | ob0 {a : Addr} (k : Nat) : F a = some (exo a (gaK K (clsName k)) none) → Dq K F (.ref a) (objD k [])
  | obj {a dx : Addr} (k : Nat) {ns : List Str} {vs : List V} {qs : List PyData} : F a = some (exo a (gaK K (clsName k)) (some dx)) → F dx = some (exd dx (ns.zip vs).reverse) → ns ≠ [] → ns = clsFlds k → vs.length = ns.length → DqAll K F vs qs → Dq K F (.ref a) (objD k (ns.zip qs))
inductive DqAll (K : PySem.W.Frag) (F : Hp) : List V → List PyData → Prop
  | nil : DqAll K F [] []
  | cons {v : V} {vs : List V} {d : PyData} {ds : List PyData} : Dq K F v d → DqAll K F vs ds → DqAll K F (v :: vs) (d :: ds)
end
mutual
theorem Dq.dp {K : PySem.W.Frag} {F : Hp} : ∀ {v : V} (d : PyData), PyData.canLay0 d = true → Dq K F v d → Dp K F v d
  | _, .none, _, h => by cases h; exact .non
  | _, .bool _, _, h => by cases h; exact .bl _
  | _, .int _, _, h => by cases h; exact .int _
  | _, .str _, _, h => by cases h; exact .str _
  | _, .list ds, hc, h => by
    cases h with
    | lst s a => exact .lst (.inl s) (DqAll.dp ds (by simpa only [PyData.canLay0] using hc) a)
  | _, .tuple ds, hc, h => by
    cases h with
    | tup s a => exact .tup s (DqAll.dp ds (by simpa only [PyData.canLay0] using hc) a)
  | _, .dict _, hc, h => by simp [PyData.canLay0] at hc
theorem DqAll.dp {K : PySem.W.Frag} {F : Hp} : ∀ {vs : List V} (ds : List PyData), PyData.canLayAll0 ds = true → DqAll K F vs ds → DpAll K F vs ds
  | _, [], _, h => by cases h; exact .nil
  | _, d :: ds, hc, h => by
    simp only [PyData.canLayAll0, Bool.and_eq_true] at hc
    cases h with
    | cons a b => exact .cons (Dq.dp d hc.1 a) (DqAll.dp ds hc.2 b)
end
/-! ### data under a growing heap -/
mutual
theorem Dq.mono' {K : PySem.W.Frag} {F F' : Hp} (e : Ex F F') : ∀ {v : V} {d : PyData}, Dq K F v d → Dq K F' v d
  | _, _, .non => .non
  | _, _, .bl b => .bl b
  | _, _, .int i => .int i
  | _, _, .str x => .str x
  | _, _, .lst s a => .lst (Evl.ex_rd e s) (DqAll.mono' e a)
  | _, _, .tup s a => .tup (Evl.ex_t e s) (DqAll.mono' e a)
  | _, _, .ob0 k h => .ob0 k (e _ _ h)
  | _, _, .obj k h1 h2 h3 h4 h5 a => .obj k (e _ _ h1) (e _ _ h2) h3 h4 h5 (DqAll.mono' e a)
theorem DqAll.mono' {K : PySem.W.Frag} {F F' : Hp} (e : Ex F F') : ∀ {vs : List V} {ds : List PyData}, DqAll K F vs ds → DqAll K F' vs ds
  | _, _, .nil => .nil
  | _, _, .cons a b => .cons (Dq.mono' e a) (DqAll.mono' e b)
end
theorem Dq.mono {K : PySem.W.Frag} {F F' : Hp} (e : Ex F F') {v : V} (d : PyData) (h : Dq K F v d) : Dq K F' v d := h.mono' e
theorem DqAll.mono {K : PySem.W.Frag} {F F' : Hp} (e : Ex F F') {vs : List V} (ds : List PyData) (h : DqAll K F vs ds) : DqAll K F' vs ds := h.mono' e
section
variable {K : PySem.W.Frag} {F F' : Hp}
theorem DqAll.len : ∀ {vs : List V} {ds : List PyData}, DqAll K F vs ds → vs.length = ds.length
  | _, _, .nil => rfl
  | _, _, .cons _ b => by simp [DqAll.len b]
theorem DqAll.get : ∀ {vs : List V} {ds : List PyData} {i : Nat} {d : PyData}, DqAll K F vs ds → ds[i]? = some d → ∃ v, vs[i]? = some v ∧ Dq K F v d
  | _, _, _, _, .nil, h => by simp at h
  | _, _, 0, _, .cons a _, h => by simp at h; subst h; exact ⟨_, rfl, a⟩
  | _, _, i + 1, _, .cons _ b, h => by simpa using DqAll.get (i := i) b (by simpa using h)
theorem DqAll.getV : ∀ {vs : List V} {ds : List PyData} {i : Nat} {v : V}, DqAll K F vs ds → vs[i]? = some v → ∃ d, ds[i]? = some d ∧ Dq K F v d
  | _, _, _, _, .nil, h => by simp at h
  | _, _, 0, _, .cons a _, h => by simp at h; subst h; exact ⟨_, rfl, a⟩
  | _, _, i + 1, _, .cons _ b, h => by simpa using DqAll.getV (i := i) b (by simpa using h)
theorem DqAll.append : ∀ {vs ws : List V} {ds es : List PyData}, DqAll K F vs ds → DqAll K F ws es → DqAll K F (vs ++ ws) (ds ++ es)
  | _, _, _, _, .nil, h => h
  | _, _, _, _, .cons a b, h => .cons a (DqAll.append b h)
theorem DqAll.take : ∀ {vs : List V} {ds : List PyData} (n : Nat), DqAll K F vs ds → DqAll K F (vs.take n) (ds.take n)
  | _, _, 0, _ => .nil
  | _, _, _ + 1, .nil => .nil
  | _, _, n + 1, .cons a b => .cons a (DqAll.take n b)
theorem DqAll.drop : ∀ {vs : List V} {ds : List PyData} (n : Nat), DqAll K F vs ds → DqAll K F (vs.drop n) (ds.drop n)
  | _, _, 0, h => h
  | _, _, _ + 1, .nil => .nil
  | _, _, n + 1, .cons _ b => DqAll.drop n b
theorem DqAll.cut {vs : List V} {ds : List PyData} (lo hi : Option Int) (h : DqAll K F vs ds) : DqAll K F (cutV vs lo hi) (cutD ds lo hi) := by
  unfold cutV cutD
  rw [h.len]
  exact (h.drop _).take _
theorem DqAll.rep {vs : List V} {ds : List PyData} (h : DqAll K F vs ds) : ∀ n : Nat, DqAll K F (List.replicate n vs).flatten (List.replicate n ds).flatten
  | 0 => .nil
  | n + 1 => by
    rw [List.replicate_succ, List.replicate_succ, List.flatten_cons, List.flatten_cons]
    exact h.append (DqAll.rep h n)
theorem DqAll.intsV : ∀ {vs : List V} {ds : List PyData} {is : List Int}, DqAll K F vs ds → intsD ds = some is → vs = is.map V.int
  | _, _, _, .nil, h => by cases h; rfl
  | _, _, _, .cons a b, h => by
    cases a <;> simp [intsD, objD] at h
    obtain ⟨r, h1, rfl⟩ := h
    rw [DqAll.intsV b h1]; rfl
theorem DqAll.boolsV : ∀ {vs : List V} {ds : List PyData} {is : List Bool}, DqAll K F vs ds → bools ds = some is → vs = is.map V.bl
  | _, _, _, .nil, h => by cases h; rfl
  | _, _, _, .cons a b, h => by
    cases a <;> simp [bools, objD] at h
    obtain ⟨r, h1, rfl⟩ := h
    rw [DqAll.boolsV b h1]; rfl
theorem DqAll.strsV : ∀ {vs : List V} {ds : List PyData} {is : List Str}, DqAll K F vs ds → strsD ds = some is → vs = is.map V.str
  | _, _, _, .nil, h => by cases h; rfl
  | _, _, _, .cons a b, h => by
    cases a <;> simp [strsD, objD] at h
    obtain ⟨r, h1, rfl⟩ := h
    rw [DqAll.strsV b h1]; rfl
theorem DqAll.ofInts : ∀ (is : List Int), DqAll K F (is.map V.int) (is.map PyData.int)
  | [] => .nil
  | i :: is => .cons (.int i) (DqAll.ofInts is)
theorem flat_V {v : V} {d : PyData} (h : Dq K F v d) (hd : flatD d = true) : flatV v = true := by
  cases h <;> first | rfl | (simp [flatD, objD] at hd)
theorem flat_Vs : ∀ {vs : List V} {ds : List PyData}, DqAll K F vs ds → ds.all flatD = true → vs.all flatV = true
  | _, _, .nil, _ => rfl
  | _, _, .cons a b, h => by
    rw [List.all_cons, Bool.and_eq_true] at h ⊢
    exact ⟨flat_V a h.1, flat_Vs b h.2⟩
theorem eqV_D {v w : V} {d e : PyData} (h : Dq K F v d) (h2 : Dq K F w e) (hd : flatD d = true) (he : flatD e = true) : eqV v w = PyData.eqv d e := by
  cases h <;> cases h2 <;> first | rfl | (simp [flatD, objD] at hd he; done) | (simp [eqV, PyData.eqv])
theorem inV_D {v : V} {d : PyData} (h : Dq K F v d) (hd : flatD d = true) : ∀ {vs : List V} {ds : List PyData}, DqAll K F vs ds → ds.all flatD = true → inV v vs = ds.any fun y => PyData.eqv y d
  | _, _, .nil, _ => rfl
  | _, _, .cons a b, hh => by
    rw [List.all_cons, Bool.and_eq_true] at hh
    unfold inV
    rw [List.any_cons, List.any_cons, eqV_D a h hh.1 hd]
    have := inV_D h hd b hh.2
    unfold inV at this
    rw [this]
end

/-! ### the state -/
section
variable (K : PySem.W.Frag)
/-- an error that an except suite holds: what is known of it -/
structure Held where
  p : Nat → List (Str × PyData) → V → Hp → Prop
  mono : ∀ {F F' : Hp} {k fs v}, Ex F F' → p k fs v F → p k fs v F'
def noHeld : Held := ⟨fun _ _ _ _ => False, fun _ h => h⟩
variable (hld : Held)
def RepD (G F : Hp) (m : List Addr) (H : Hp) : D → V → Prop
  | .t d, v => Dq K F v d
  | .own ds, v => ∃ p xs, v = .ref p ∧ H p = some (.lst xs) ∧ F p = none ∧ p ∉ m ∧ G p = none ∧ DqAll K F xs ds
  | .ref i, v => ∃ a, v = .ref a ∧ m[i]? = some a
  | .scr ds, v => ∃ a xs, v = .ref a ∧ SqL K F a xs ∧ DqAll K F xs ds
  | .err k fs, v => hld.p k fs v F
structure StOk (G F : Hp) (m : List Addr) (H : Hp) (c : S) : Prop where
  sub : Ex F H
  len : m.length = c.length
  nd : m.Nodup
  cel : ∀ (i : Nat) (a : Addr), m[i]? = some a → F a = none ∧ ∃ ds xs, c[i]? = some (.lst ds) ∧ H a = some (.lst xs) ∧ DqAll K F xs ds
  gs : Ex G H
  gf : ∀ (p : Addr) (o : HO), G p = some o → F p = none ∧ p ∉ m
/-- what a slot holds -/
def RepS (F : Hp) (m : List Addr) : D → V → Prop
  | .t d, v => Dq K F v d
  | .own _, _ => False
  | .ref i, v => ∃ a, v = .ref a ∧ m[i]? = some a
  | .scr ds, v => ∃ a xs, v = .ref a ∧ SqL K F a xs ∧ DqAll K F xs ds
  | .err k fs, v => hld.p k fs v F
structure EnvOk (F : Hp) (m : List Addr) (σ : L2.St) (ρ : Rho) : Prop where
  len : ρ.length = σ.length
  at_ : ∀ (i : Nat) (d : D), ρ[i]? = some (some d) → ∃ v, σ[i]? = some (some v) ∧ RepS K hld F m d v
/-- what may be read -/
def RdD (F H : Hp) (v : V) : PyData → Prop
  | .list ds => ∃ a xs, v = .ref a ∧ SqL K H a xs ∧ DqAll K F xs ds
  | .tuple ds => ∃ a xs, v = .ref a ∧ SqT K F a xs ∧ DqAll K F xs ds
  | d => Dq K F v d
/-- .. and put together -/
def RdX (F H : Hp) (v : V) : PyData → Prop
  | .list ds => ∃ a xs, v = .ref a ∧ Rd H a (.lst xs) ∧ DqAll K F xs ds
  | .tuple ds => ∃ a xs, v = .ref a ∧ SqT K F a xs ∧ DqAll K F xs ds
  | d => Dq K F v d
end
section
variable {K : PySem.W.Frag} {hld : Held} {G F F' : Hp} {m : List Addr} {H : Hp} {c : S} {σ : L2.St} {ρ : Rho}
theorem ex_upd {p : Addr} {o : HO} (h : F p = none) : Ex F (upd F p o) := Ex.new h
theorem none_sub (e : Ex F H) {p : Addr} (h : H p = none) : F p = none := Evl.fresh_back e h
theorem StOk.out (s : StOk K G F m H c) {p : Addr} (h : H p = none) : p ∉ m := fun hm => by
  obtain ⟨i, hi⟩ := List.getElem?_of_mem hm
  obtain ⟨_, _, _, _, hH, _⟩ := s.cel i p hi
  rw [h] at hH; cases hH
/-- a new frozen object -/
theorem StOk.new (s : StOk K G F m H c) {p : Addr} {o : HO} (h : H p = none) : StOk K G (upd F p o) m (upd H p o) c := by
  have hF := none_sub s.sub h
  have hm := s.out h
  refine ⟨fun a u e => ?_, s.len, s.nd, fun i a hi => ?_, fun a u e => ?_, fun a u e => ⟨?_, (s.gf a u e).2⟩⟩
  rotate_left 2
  · rw [upd_ne (ne_of_none (s.gs a u e) h)]; exact s.gs a u e
  · rw [upd_ne (ne_of_none (s.gs a u e) h)]; exact (s.gf a u e).1
  · by_cases ha : a = p
    · subst ha; rw [upd_same] at e ⊢; exact e
    · rw [upd_ne ha] at e ⊢; exact s.sub a u e
  · have ha : a ≠ p := fun z => hm (z ▸ List.mem_of_getElem? hi)
    obtain ⟨f0, ds, xs, h1, h2, h3⟩ := s.cel i a hi
    exact ⟨by rw [upd_ne ha]; exact f0, ds, xs, h1, by rw [upd_ne ha]; exact h2, h3.mono (ex_upd hF)⟩
/-- a new object, not frozen -/
theorem StOk.newH (s : StOk K G F m H c) {p : Addr} {o : HO} (h : H p = none) : StOk K G F m (upd H p o) c := by
  have hm := s.out h
  refine ⟨fun a u e => ?_, s.len, s.nd, fun i a hi => ?_, fun a u e => ?_, s.gf⟩
  rotate_left 2
  · rw [upd_ne (ne_of_none (s.gs a u e) h)]; exact s.gs a u e
  · rw [upd_ne (ne_of_none (s.sub a u e) h)]; exact s.sub a u e
  · have ha : a ≠ p := fun z => hm (z ▸ List.mem_of_getElem? hi)
    obtain ⟨f0, ds, xs, h1, h2, h3⟩ := s.cel i a hi
    exact ⟨f0, ds, xs, h1, by rw [upd_ne ha]; exact h2, h3⟩
/-- an object that stands, frozen from now on -/
theorem StOk.freeze (s : StOk K G F m H c) {p : Addr} {o : HO} (h : H p = some o) (hF : F p = none) (hm : p ∉ m) (hG : G p = none) : StOk K G (upd F p o) m H c := by
  refine ⟨fun a u e => ?_, s.len, s.nd, fun i a hi => ?_, s.gs, fun a u e => ⟨?_, (s.gf a u e).2⟩⟩
  rotate_left 2
  · rw [upd_ne (ne_of_none e hG)]; exact (s.gf a u e).1
  · by_cases ha : a = p
    · subst ha; rw [upd_same] at e; rw [← e]; exact h
    · rw [upd_ne ha] at e; exact s.sub a u e
  · have ha : a ≠ p := fun z => hm (z ▸ List.mem_of_getElem? hi)
    obtain ⟨f0, ds, xs, h1, h2, h3⟩ := s.cel i a hi
    exact ⟨by rw [upd_ne ha]; exact f0, ds, xs, h1, h2, h3.mono (ex_upd hF)⟩
/-- a cell's content changed -/
theorem StOk.put (s : StOk K G F m H c) {i : Nat} {a : Addr} {ys : List V} {ds : List PyData} (hi : m[i]? = some a) (hd : DqAll K F ys ds) : StOk K G F m (upd H a (.lst ys)) (c.set i (.lst ds)) := by
  obtain ⟨f0, _⟩ := s.cel i a hi
  refine ⟨fun b u e => ?_, by rw [List.length_set]; exact s.len, s.nd, fun j b hj => ?_, fun b u e => ?_, s.gf⟩
  rotate_left 2
  · have hb : b ≠ a := fun z => (s.gf b u e).2 (z ▸ List.mem_of_getElem? hi)
    rw [upd_ne hb]; exact s.gs b u e
  · have hb : b ≠ a := fun z => by rw [z, f0] at e; cases e
    rw [upd_ne hb]; exact s.sub b u e
  · by_cases hij : i = j
    · subst hij
      rw [hi] at hj; cases hj
      have hl : i < c.length := by rw [← s.len]; exact (List.getElem?_eq_some_iff.mp hi).1
      exact ⟨f0, ds, ys, by rw [List.getElem?_set_self hl], upd_same, hd⟩
    · obtain ⟨g0, es, xs, h1, h2, h3⟩ := s.cel j b hj
      have hb : b ≠ a := fun z => by
        subst z
        obtain ⟨l1, e1⟩ := List.getElem?_eq_some_iff.mp hi
        obtain ⟨l2, e2⟩ := List.getElem?_eq_some_iff.mp hj
        exact hij ((List.getElem_inj s.nd).mp (e1.trans e2.symm))
      exact ⟨g0, es, xs, by rw [List.getElem?_set_ne hij]; exact h1, by rw [upd_ne hb]; exact h2, h3⟩
/-- a new cell -/
theorem StOk.cell (s : StOk K G F m H c) {p : Addr} {xs : List V} {ds : List PyData} (h : H p = some (.lst xs)) (hF : F p = none) (hm : p ∉ m) (hG : G p = none) (hd : DqAll K F xs ds) : StOk K G F (m ++ [p]) H (c ++ [.lst ds]) := by
  refine ⟨s.sub, by rw [List.length_append, List.length_append, s.len]; rfl, ?_, fun j b hj => ?_, s.gs, fun b u e => ⟨(s.gf b u e).1, fun hb => ?_⟩⟩
  rotate_left 2
  · rcases List.mem_append.mp hb with hb | hb
    · exact (s.gf b u e).2 hb
    · have : b = p := by simpa using hb
      rw [this, hG] at e; cases e
  · rw [List.nodup_append]
    exact ⟨s.nd, by simp, fun a ha b hb => by
      simp at hb; subst hb; exact fun z => hm (z ▸ ha)⟩
  · by_cases hl : j < m.length
    · rw [List.getElem?_append_left hl] at hj
      obtain ⟨g0, es, xs, h1, h2, h3⟩ := s.cel j b hj
      exact ⟨g0, es, xs, by rw [List.getElem?_append_left (by rw [← s.len]; exact hl)]; exact h1, h2, h3⟩
    · rw [List.getElem?_append_right (by omega)] at hj
      have hj0 : j - m.length = 0 := by
        have := (List.getElem?_eq_some_iff.mp hj).1
        simp at this; omega
      rw [hj0] at hj
      simp at hj; subst hj
      refine ⟨hF, ds, xs, ?_, h, hd⟩
      rw [List.getElem?_append_right (by rw [← s.len]; omega), ← s.len, hj0]
      rfl
theorem StOk.take (s : StOk K G F m H c) (n : Nat) : StOk K G F (m.take n) H (c.take n) := by
  refine ⟨s.sub, by rw [List.length_take, List.length_take, s.len], s.nd.sublist (List.take_sublist _ _), fun i a hi => ?_, s.gs, fun p o e => ⟨(s.gf p o e).1, fun hp => (s.gf p o e).2 (List.mem_of_mem_take hp)⟩⟩
  have hl : i < n := by
    have := (List.getElem?_eq_some_iff.mp hi).1
    rw [List.length_take] at this; omega
  rw [List.getElem?_take_of_lt hl] at hi
  obtain ⟨g0, es, xs, h1, h2, h3⟩ := s.cel i a hi
  exact ⟨g0, es, xs, by rw [List.getElem?_take_of_lt hl]; exact h1, h2, h3⟩

theorem pre_get {m m' : List Addr} (h : m <+: m') {i : Nat} {a : Addr} (hi : m[i]? = some a) : m'[i]? = some a := by
  obtain ⟨l, e⟩ := List.getElem?_eq_some_iff.mp hi
  rw [List.prefix_iff_getElem?.mp h i l, e]
theorem RepS.mono (e : Ex F F') {m' : List Addr} (hm : m <+: m') {d : D} {v : V} (h : RepS K hld F m d v) : RepS K hld F' m' d v := by
  cases d with
  | t q => exact Dq.mono e q h
  | own => exact h
  | ref i =>
    obtain ⟨a, rfl, hi⟩ := h
    exact ⟨a, rfl, pre_get hm hi⟩
  | scr ds =>
    obtain ⟨a, xs, rfl, h1, h2⟩ := h
    exact ⟨a, xs, rfl, Evl.ex_l e h1, h2.mono e⟩
  | err k fs => exact hld.mono e h
theorem EnvOk.mono (e : Ex F F') {m' : List Addr} (hm : m <+: m') (h : EnvOk K hld F m σ ρ) : EnvOk K hld F' m' σ ρ :=
  ⟨h.len, fun i d hi => by
    obtain ⟨v, hv, r⟩ := h.at_ i d hi
    exact ⟨v, hv, r.mono e hm⟩⟩
theorem EnvOk.set (h : EnvOk K hld F m σ ρ) (i : Nat) {d : D} {v : V} (r : RepS K hld F m d v) : EnvOk K hld F m (σ.set i (some v)) (ρ.set i (some d)) := by
  refine ⟨by rw [List.length_set, List.length_set]; exact h.len, fun j e hj => ?_⟩
  by_cases hij : i = j
  · subst hij
    by_cases hl : i < ρ.length
    · rw [List.getElem?_set_self hl] at hj
      cases hj
      exact ⟨v, by rw [List.getElem?_set_self (by rw [← h.len]; exact hl)], r⟩
    · rw [List.getElem?_eq_none (by rw [List.length_set]; omega)] at hj; cases hj
  · rw [List.getElem?_set_ne hij] at hj
    obtain ⟨w, hw, rw'⟩ := h.at_ j e hj
    exact ⟨w, by rw [List.getElem?_set_ne hij]; exact hw, rw'⟩
theorem EnvOk.wipe1 (h : EnvOk K hld F m σ ρ) (i : Nat) : EnvOk K hld F m (σ.set i none) (ρ.set i none) := by
  refine ⟨by rw [List.length_set, List.length_set]; exact h.len, fun j e hj => ?_⟩
  by_cases hij : i = j
  · subst hij
    by_cases hl : i < ρ.length
    · rw [List.getElem?_set_self hl] at hj; cases hj
    · rw [List.getElem?_eq_none (by rw [List.length_set]; omega)] at hj; cases hj
  · rw [List.getElem?_set_ne hij] at hj
    obtain ⟨w, hw, rw'⟩ := h.at_ j e hj
    exact ⟨w, by rw [List.getElem?_set_ne hij]; exact hw, rw'⟩
theorem EnvOk.wipe (h : EnvOk K hld F m σ ρ) : ∀ vs : List Nat, EnvOk K hld F m (L2.wipe σ vs) (wipeD ρ vs)
  | [] => h
  | v :: vs => (EnvOk.wipe h vs).wipe1 v
theorem RepD.mono (e : Ex F F') {d : D} {v : V} (hd : ∀ ds, d ≠ .own ds) (h : RepD K hld G F m H d v) : RepD K hld G F' m H d v := by
  cases d with
  | t q => exact Dq.mono e q h
  | own ds => exact absurd rfl (hd ds)
  | ref i => exact h
  | scr ds =>
    obtain ⟨a, xs, rfl, h1, h2⟩ := h
    exact ⟨a, xs, rfl, Evl.ex_l e h1, h2.mono e⟩
  | err k fs => exact hld.mono e h
theorem frz_no (d : D) : ∀ ds, frz d ≠ .own ds := fun ds => by cases d <;> simp [frz]
/-- a value, frozen -/
theorem rep_frz {d : D} {v : V} (s : StOk K G F m H c) (h : RepD K hld G F m H d v) : ∃ F', Ex F F' ∧ StOk K G F' m H c ∧ RepS K hld F' m (frz d) v := by
  cases d with
  | t q => exact ⟨F, Ex.refl F, s, h⟩
  | own ds =>
    obtain ⟨p, xs, rfl, hp, hF, hm, hG, hd⟩ := h
    exact ⟨upd F p (.lst xs), ex_upd hF, s.freeze hp hF hm hG, .lst (.inl upd_same) (hd.mono (ex_upd hF))⟩
  | ref i => exact ⟨F, Ex.refl F, s, h⟩
  | scr ds => exact ⟨F, Ex.refl F, s, h⟩
  | err => exact ⟨F, Ex.refl F, s, h⟩
theorem rx_of {v : V} {d : PyData} (e : Ex F H) (h : Dq K F v d) : RdX K F H v d := by
  cases h with
  | lst s a => exact ⟨_, _, rfl, Evl.ex_rd e s, a⟩
  | tup s a => exact ⟨_, _, rfl, s, a⟩
  | non => exact .non
  | bl => exact .bl _
  | int => exact .int _
  | str => exact .str _
  | ob0 k h => exact (Dq.ob0 k h : Dq K F _ (objD k []))
  | obj k h1 h2 h3 h4 h5 a => exact (Dq.obj k h1 h2 h3 h4 h5 a : Dq K F _ (objD k _))
theorem RdX.rd {v : V} {d : PyData} (h : RdX K F H v d) : RdD K F H v d := by
  cases d with
  | list ds =>
    obtain ⟨a, xs, rfl, h1, h2⟩ := h
    exact ⟨a, xs, rfl, .inl h1, h2⟩
  | tuple => exact h
  | none => exact h
  | bool => exact h
  | int => exact h
  | str => exact h
  | dict => exact h
/-- a value, looked at -/
theorem rep_lookX {d : D} {v : V} {q : PyData} (s : StOk K G F m H c) (h : RepS K hld F m d v) (hq : lookX d c = some q) : RdX K F H v q := by
  cases d with
  | t r => cases hq; exact rx_of s.sub h
  | own => exact h.elim
  | ref i =>
    obtain ⟨a, rfl, hi⟩ := h
    obtain ⟨_, ds, xs, h1, h2, h3⟩ := s.cel i a hi
    simp [lookX, look, h1] at hq
    subst hq
    exact ⟨a, xs, rfl, .inl h2, h3⟩
  | scr ds => cases hq
  | err => cases hq
theorem rep_look {d : D} {v : V} {q : PyData} (s : StOk K G F m H c) (h : RepS K hld F m d v) (hq : look d c = some q) : RdD K F H v q := by
  cases d with
  | t r => exact (rep_lookX (d := .t r) s h hq).rd
  | own => exact h.elim
  | ref i => exact (rep_lookX (d := .ref i) s h hq).rd
  | scr ds =>
    cases hq
    obtain ⟨a, xs, rfl, h1, h2⟩ := h
    exact ⟨a, xs, rfl, Evl.ex_l s.sub h1, h2⟩
  | err => cases hq
theorem rd_dp {v : V} {d : PyData} (hc : PyData.canLay0 d = true) (e : Ex F H) (h : RdD K F H v d) : Dp K H v d := by
  cases d with
  | list ds =>
    obtain ⟨a, xs, rfl, s, hd⟩ := h
    exact .lst s (DqAll.dp _ (by simpa only [PyData.canLay0] using hc) (hd.mono e))
  | tuple ds =>
    obtain ⟨a, xs, rfl, s, hd⟩ := h
    exact .tup (Evl.ex_t e s) (DqAll.dp _ (by simpa only [PyData.canLay0] using hc) (hd.mono e))
  | none => exact Dq.dp _ hc (Dq.mono e _ h)
  | bool => exact Dq.dp _ hc (Dq.mono e _ h)
  | int => exact Dq.dp _ hc (Dq.mono e _ h)
  | str => exact Dq.dp _ hc (Dq.mono e _ h)
  | dict => exact Dq.dp _ hc (Dq.mono e _ h)
theorem rd_flat {v : V} {d : PyData} (h : RdD K F H v d) (hf : flatD d = true) : Dq K F v d := by
  cases d <;> first | exact h | (simp [flatD] at hf)
end
end SK

/-! SK4: the operations by values. -/
namespace SK
open PySem PySem.Spec PyProof.Rows L2
open Evl (Ex)
section
variable {X : Cx}
theorem Rd.lstM {pins : List (Addr × Obj)} {σ : L2.St} {H : Hp} {s : Shared} {l : Addr} {xs : List V} (I : Inv X pins σ H s) (hH : Rd H l (.lst xs)) : xs.length ≤ sizeLine ∧ ∃ (its : List Value) (n : Nat), Vals xs its ∧ xs.length = its.length ∧ s.heap.get? l = some { cls := .type "list", data := .seq its.toArray n } := by
  obtain ⟨z, its, n, r, e⟩ := hH.ok I.hok
  exact ⟨z, its, n, r, r.length, e⟩
def rCatR : R2 := fun x y H Q => ∃ l b xs zs, x = .ref l ∧ y = .ref b ∧ Rd H l (.lst xs) ∧ Rd H b (.lst zs) ∧ xs.length + zs.length ≤ sizeLine ∧ ∀ p, H p = none → Q (.ref p) (upd H p (.lst (xs ++ zs)))
theorem op_catR : OpR X (binaryOp .Add) rCatR := by
  intro pins s σ H x y v u Q I rx ry h
  obtain ⟨l, b, xs, zs, rfl, rfl, hH, hB, hz, q⟩ := h
  cases rx
  cases ry
  obtain ⟨z, its, n, r, hl, e⟩ := Rd.lstM I hH
  obtain ⟨z2, its2, n2, r2, hl2, e2⟩ := Rd.lstM I hB
  refine PySem.P.add_list e e2 ?_ (by rw [List.size_toArray, List.size_toArray]; omega)
  have ea : its.toArray ++ its2.toArray = (its ++ its2).toArray := by simp
  rw [ea]
  exact ⟨.ref _, _, I.lnew (t' := s.toks) (r.append r2) (by rw [List.length_append]; omega), rfl, q _ I.fresh⟩
def rRepR : R2 := fun x y H Q => ∃ l k xs, x = .ref l ∧ y = .int k ∧ Rd H l (.lst xs) ∧ -(2 ^ 63) ≤ k ∧ k < 2 ^ 63 ∧ xs.length * k.toNat ≤ sizeLine ∧
  ∀ p, H p = none → Q (.ref p) (upd H p (.lst (List.replicate k.toNat xs).flatten))
theorem op_repR : OpR X (binaryOp .Mult) rRepR := by
  intro pins s σ H x y v u Q I rx ry h
  obtain ⟨l, k, xs, rfl, rfl, hH, h1, h2, hz, q⟩ := h
  cases rx
  obtain ⟨t, rfl⟩ := ry
  obtain ⟨z, its, n, r, hl, e⟩ := Rd.lstM I hH
  have hlen : its.toArray.size * k.toNat ≤ sizeLine := by rw [List.size_toArray, ← hl]; exact hz
  have hcap : ¬ its.toArray.size * k.toNat > (2 ^ 63 - 1) / 8 := by
    have : (sizeLine : Nat) ≤ (2 ^ 63 - 1) / 8 := by decide
    omega
  have hfit : ¬ (!Builtin.List.listFitsIndex k) = true := by
    rw [fitsIndex_both h1 h2]
    exact Bool.false_ne_true
  have hlong : ¬ Builtin.List.listTooLong (its.toArray.size * k.toNat) = true := by
    rw [notLongL hlen]
    exact Bool.false_ne_true
  have hnew : List.foldl (fun x1 x2 => x1 ++ x2) #[] (List.replicate (if its.toArray.isEmpty = true then 0 else k.toNat) its.toArray) = (List.replicate k.toNat its).flatten.toArray := by
    have f0 : ∀ m : Nat, List.foldl (fun x1 x2 => x1 ++ x2) #[] (List.replicate m its.toArray) = (List.replicate m its).flatten.toArray := fun m => by
      have := foldl_rep its m []
      rw [List.nil_append] at this
      exact this
    rw [f0]
    cases its with
    | nil => simp
    | cons a r' => rw [if_neg (by simp)]
  refine wpAny_binaryOp_repeat_ref (T := "list") (U := "int") (by decide) ⟨_, e, rfl⟩ (fun s' => typeIs_int s' k t) noFill_list_mul F.fills_int_mul F.slot_int_rmul repeat_list F.slot_int_index.lookup
    (call_meets F.slot_int_rmul (typeIs_int s k t) F.entry_int_rmul (F.args_int_rmul_2 _ _) (int___rmul___int_list k t l its.toArray n)
      ⟨e, rfl, ⟨_, e, rfl⟩, call_meets F.slot_list_mul ⟨_, e, rfl⟩ F.entry_list_mul (F.args_list_mul_2 _ _) (AutoListH.list___mul___list_int_3 l its.toArray n k t hfit hcap hlong) ⟨e, ?_⟩⟩)
  rw [hnew]
  exact ⟨.ref _, _, I.lnew (t' := s.toks) (r.rep k.toNat) (by rw [PyProof.Rows.lm_len_rep_flat, Nat.mul_comm]; exact hz), rfl, q _ I.fresh⟩
/-- text * int -/
def rMulS : R2 := fun x y H Q => ∃ (z : Str) (k : Int), x = .str z ∧ y = .int k ∧ -(2 ^ 62) ≤ k ∧ k < 2 ^ 62 ∧ z.length * k.toNat ≤ sizeLine ∧ Q (.str ⟨(List.replicate k.toNat z.cps.toList).flatten.toArray⟩) H
theorem fold_rep (l : List Nat) : ∀ (n : Nat) (acc : List Nat), List.foldl (fun x1 x2 => x1 ++ x2) acc.toArray (List.replicate n l.toArray) = (acc ++ (List.replicate n l).flatten).toArray
  | 0, acc => by simp
  | n + 1, acc => by
    rw [List.replicate_succ, List.foldl_cons, List.replicate_succ, List.flatten_cons, ← List.append_assoc]
    have : acc.toArray ++ l.toArray = (acc ++ l).toArray := by simp
    rw [this, fold_rep l n]
theorem op_mulS : OpR X (binaryOp .Mult) rMulS := by
  intro pins s σ H x y v u Q I rx ry h
  obtain ⟨z, k, rfl, rfl, h1, h2, hz, q⟩ := h
  obtain ⟨t, rfl⟩ := rx
  obtain ⟨t2, rfl⟩ := ry
  have sl : sizeLine = 16777216 := rfl
  refine PySem.P.mul_str ?_ (fun hn he => ?_) (fun hn he => ?_) ?_
  · rw [decide_eq_false (by omega), decide_eq_false (by omega)]; rfl
  · have hk : 1 ≤ k := by omega
    intro hgt
    have hk2 : (k.toNat : Int) = k := Int.toNat_of_nonneg (by omega)
    have h3 : ((z.length * k.toNat : Nat) : Int) ≤ ((16777216 : Nat) : Int) := Int.ofNat_le.mpr (by rw [← sl]; exact hz)
    rw [Int.natCast_mul, hk2] at h3
    have h4 : ((2 ^ 63 - 1) / k + 1) * k > 2 ^ 63 - 1 := by
      have := Int.lt_ediv_add_one_mul_self (2 ^ 63 - 1) (show (0 : Int) < k by omega)
      exact this
    have h5 : ((z.length : Int)) * k ≥ ((2 ^ 63 - 1) / k + 1) * k := Int.mul_le_mul_of_nonneg_right (by omega) (by omega)
    omega
  · unfold PySem.Builtin.Str.tooLong
    exact decide_eq_false (by rw [sl] at hz; omega)
  · by_cases hn : k < 1
    · rw [if_pos hn]
      have e0 : k.toNat = 0 := by omega
      rw [e0] at q
      exact ⟨by decide, ⟨.str Str.empty, H, I.tok _, ⟨_, rfl⟩, q⟩⟩
    · rw [if_neg hn]
      by_cases he : (k == 1 || z.length == 0) = true
      · rw [if_pos he]
        have e1 : (⟨(List.replicate k.toNat z.cps.toList).flatten.toArray⟩ : Str) = z := by
          rw [Bool.or_eq_true] at he
          rcases he with he | he
          · have : k = 1 := by simpa using he
            subst this
            simp
          · have h0 : z.cps.toList = [] := by
              have : z.cps.size = 0 := by
                have := (beq_iff_eq).mp he
                exact this
              exact List.eq_nil_of_length_eq_zero (by rw [Array.length_toList]; exact this)
            have hf : (List.replicate k.toNat ([] : List Nat)).flatten = [] := by
              rw [List.flatten_eq_nil_iff]; intro l hl; exact List.eq_of_mem_replicate hl
            rw [h0, hf]
            cases z with
            | mk c =>
              show (⟨#[]⟩ : Str) = ⟨c⟩
              have : c.toList = [] := h0
              rw [← Array.toArray_toList (xs := c), this]
        rw [e1] at q
        exact ⟨.str z, H, I, ⟨_, rfl⟩, q⟩
      · rw [if_neg he]
        have := fold_rep z.cps.toList k.toNat []
        simp only [List.nil_append, Array.toArray_toList] at this
        have e2 : List.foldl (fun x1 x2 => x1 ++ x2) #[] (List.replicate k.toNat z.cps) = (List.replicate k.toNat z.cps.toList).flatten.toArray := this
        rw [e2]
        refine ⟨?_, ⟨.str _, H, I.tok _, ⟨_, rfl⟩, q⟩⟩
        show (List.replicate k.toNat z.cps.toList).flatten.toArray.size ≤ sizeLine
        rw [List.size_toArray, PyProof.Rows.lm_len_rep_flat, Nat.mul_comm, Array.length_toList]
        exact hz
end

/-! ### binary operations -/
def rAddS : R2 := fun x y H Q => ∃ i j, x = .str i ∧ y = .str j ∧ i.length + j.length ≤ sizeLine ∧ Q (.str (i ++ j)) H
def rBin (K : PySem.W.Frag) : Bop → R2
  | .add => fun x y H Q => rI0 (fun i j => .int (i + j)) x y H Q ∨ rAddS x y H Q ∨ rCatA K x y H Q ∨ rCatR x y H Q
  | .sub => rI0 (fun i j => .int (i - j))
  | .mul => fun x y H Q => rI CMul (fun i j => .int (i * j)) x y H Q ∨ rRepR x y H Q ∨ rMulS x y H Q
  | .fdiv => rI CDiv (fun i j => .int (i / j))
  | .mod => rI (fun _ j => 0 < j) (fun i j => .int (i % j))
  | .pow => rI CPow (fun i j => .int (i ^ j.toNat))
theorem or_bin {X : Cx} : ∀ op : Bop, OpR X (binaryOp (bopOf op)) (rBin X.K op)
  | .add => OpR.or op_add (OpR.or op_add_str (OpR.or op_catA op_catR))
  | .sub => op_sub
  | .mul => OpR.or op_mul (OpR.or op_repR op_mulS)
  | .fdiv => op_fdiv
  | .mod => op_mod
  | .pow => op_pow
section
variable {K : PySem.W.Frag} {G F : Hp} {m : List Addr} {H : Hp} {c : S} {x y : V} {Q : VK}
/-- what is wanted behind an operation -/
structure Good (K : PySem.W.Frag) (G F : Hp) (m : List Addr) (c : S) (o : Option PyData) (l : Option (List PyData)) (Q : VK) : Prop where
  gt : ∀ z, o = some z → ∀ F' H' v, Ex F F' → StOk K G F' m H' c → Dq K F' v z → Q v H'
  gl : o = none → ∀ zs, l = some zs → ∀ H' p xs, StOk K G F m H' c → H' p = some (.lst xs) → F p = none → p ∉ m → G p = none → DqAll K F xs zs → Q (.ref p) H'
  gor : o.isSome = true ∨ l.isSome = true
theorem Good.int {i : Int} {l : Option (List PyData)} (g : Good K G F m c (some (.int i)) l Q) (s : StOk K G F m H c) : Q (.int i) H := g.gt _ rfl F H _ (Ex.refl F) s (.int i)
theorem Good.str {i : Str} {l : Option (List PyData)} (g : Good K G F m c (some (.str i)) l Q) (s : StOk K G F m H c) : Q (.str i) H := g.gt _ rfl F H _ (Ex.refl F) s (.str i)
theorem Good.bl {i : Bool} {l : Option (List PyData)} (g : Good K G F m c (some (.bool i)) l Q) (s : StOk K G F m H c) : Q (.bl i) H := g.gt _ rfl F H _ (Ex.refl F) s (.bl i)
theorem Good.tupN {zs : List PyData} {l : Option (List PyData)} (g : Good K G F m c (some (.tuple zs)) l Q) (s : StOk K G F m H c) {xs : List V} (h : DqAll K F xs zs) : ∀ p, H p = none → Q (.ref p) (upd H p (.tup xs)) := fun p hp =>
  g.gt _ rfl (upd F p (.tup xs)) _ _ (ex_upd (none_sub s.sub hp)) (s.new hp) (.tup (.inl (.inl upd_same)) (h.mono (ex_upd (none_sub s.sub hp))))
theorem Good.lstN {zs : List PyData} (g : Good K G F m c none (some zs) Q) (s : StOk K G F m H c) {xs : List V} (h : DqAll K F xs zs) : ∀ p, H p = none → Q (.ref p) (upd H p (.lst xs)) := fun p hp =>
  g.gl rfl _ rfl _ p xs (s.newH hp) upd_same (none_sub s.sub hp) (s.out hp) (none_sub s.gs hp) h
theorem szOk_le {n : Nat} (h : szOk n = true) : n ≤ sizeLine := of_decide_eq_true h
theorem bin_ok (op : Bop) (p q : PyData) (s : StOk K G F m H c) (hx : RdX K F H x p) (hy : RdX K F H y q) (g : Good K G F m c (binD op p q) (binL op p q) Q) : rBin K op x y H Q := by
  have go := g.gor
  cases op with
  | add =>
    cases p <;> cases q <;> try (simp [binD, binL] at go; done)
    · cases hx; cases hy
      exact .inl ⟨_, _, rfl, rfl, g.int s⟩
    · cases hx; cases hy
      simp only [binD, binL] at g go
      split at g
      · rename_i h
        exact .inr (.inl ⟨_, _, rfl, rfl, szOk_le h, g.str s⟩)
      · rename_i h
        rw [if_neg h] at go; simp at go
    · obtain ⟨a, xs, rfl, h1, h2⟩ := hx
      obtain ⟨b, ys, rfl, h3, h4⟩ := hy
      simp only [binD, binL] at g go
      split at g
      · rename_i h
        exact .inr (.inr (.inr ⟨a, b, xs, ys, rfl, rfl, h1, h3, by rw [h2.len, h4.len]; exact szOk_le h, g.lstN s (h2.append h4)⟩))
      · rename_i h
        rw [if_neg h] at go; simp at go
    · obtain ⟨a, xs, rfl, h1, h2⟩ := hx
      obtain ⟨b, ys, rfl, h3, h4⟩ := hy
      simp only [binD, binL] at g go
      split at g
      · rename_i h
        refine .inr (.inr (.inl ⟨a, b, xs, ys, rfl, rfl, Evl.ex_t s.sub h1, Evl.ex_t s.sub h3, by rw [h2.len, h4.len]; exact szOk_le h, fun e => ?_, fun _ e => ?_, fun _ _ => g.tupN s (h2.append h4)⟩))
        · subst e; cases h2
          exact g.gt _ rfl F H _ (Ex.refl F) s (.tup h3 h4)
        · subst e; cases h4
          refine g.gt _ rfl F H _ (Ex.refl F) s (.tup h1 ?_)
          rw [List.append_nil]; exact h2
      · rename_i h
        rw [if_neg h] at go; simp at go
  | sub =>
    cases p <;> cases q <;> try (simp [binD, binL] at go; done)
    cases hx; cases hy
    exact ⟨_, _, rfl, rfl, g.int s⟩
  | mul =>
    cases p <;> cases q <;> try (simp [binD, binL] at go; done)
    · cases hx; cases hy
      simp only [binD, binL] at g go
      split at g
      · rename_i h
        exact .inl ⟨_, _, rfl, rfl, h.symm, g.int s⟩
      · rename_i h
        rw [if_neg h] at go; simp at go
    · cases hx; cases hy
      simp only [binD, binL] at g go
      split at g
      · rename_i h
        exact .inr (.inr ⟨_, _, rfl, rfl, h.1, h.2.1, h.2.2, g.str s⟩)
      · rename_i h
        rw [if_neg h] at go; simp at go
    · obtain ⟨a, xs, rfl, h1, h2⟩ := hx
      cases hy
      simp only [binD, binL] at g go
      split at g
      · rename_i h
        exact .inr (.inl ⟨a, _, xs, rfl, rfl, h1, h.1, h.2.1, by rw [h2.len]; exact h.2.2, g.lstN s (h2.rep _)⟩)
      · rename_i h
        rw [if_neg h] at go; simp at go
  | fdiv =>
    cases p <;> cases q <;> try (simp [binD, binL] at go; done)
    cases hx; cases hy
    simp only [binD, binL] at g go
    split at g
    · rename_i h
      exact ⟨_, _, rfl, rfl, h, g.int s⟩
    · rename_i h
      rw [if_neg h] at go; simp at go
  | mod =>
    cases p <;> cases q <;> try (simp [binD, binL] at go; done)
    cases hx; cases hy
    simp only [binD, binL] at g go
    split at g
    · rename_i h
      exact ⟨_, _, rfl, rfl, h, g.int s⟩
    · rename_i h
      rw [if_neg h] at go; simp at go
  | pow =>
    cases p <;> cases q <;> try (simp [binD, binL] at go; done)
    cases hx; cases hy
    simp only [binD, binL] at g go
    split at g
    · rename_i h
      exact ⟨_, _, rfl, rfl, h, g.int s⟩
    · rename_i h
      rw [if_neg h] at go; simp at go
end
end SK

/-! SK5: comparisons, items, slices, built-in functions, by values. -/
namespace SK
open PySem PySem.Spec PyProof.Rows L2
open Evl (Ex)
def rLtS : R2 := fun x y H Q => ∃ i j, x = .str i ∧ y = .str j ∧ Q (.bl (decide (i.cps.toList < j.cps.toList))) H
def rLeS : R2 := fun x y H Q => ∃ i j, x = .str i ∧ y = .str j ∧ Q (.bl (!decide (j.cps.toList < i.cps.toList))) H
def rGtS : R2 := fun x y H Q => ∃ i j, x = .str i ∧ y = .str j ∧ Q (.bl (decide (j.cps.toList < i.cps.toList))) H
def rGeS : R2 := fun x y H Q => ∃ i j, x = .str i ∧ y = .str j ∧ Q (.bl (!decide (i.cps.toList < j.cps.toList))) H
def rSg : R2 := fun x y H Q => ∃ (c : Nat) (z : Str), x = .str ⟨#[c]⟩ ∧ y = .str z ∧ Q (.bl (decide (c ∈ z.cps.toList))) H
def rNSg : R2 := fun x y H Q => ∃ (c : Nat) (z : Str), x = .str ⟨#[c]⟩ ∧ y = .str z ∧ Q (.bl (!decide (c ∈ z.cps.toList))) H
def rIsNn : R2 := fun x y H Q => y = .non ∧ Q (.bl (decide (x = .non))) H
def rNotNn : R2 := fun x y H Q => y = .non ∧ Q (.bl (!decide (x = .non))) H
def rCop (K : PySem.W.Frag) : Cop → R2
  | .eq => fun x y H Q => rEq x y H Q ∨ rEqD K x y H Q
  | .ne => fun x y H Q => rNe x y H Q ∨ rNeD K x y H Q
  | .lt => fun x y H Q => rI0 (fun i j => .bl (decide (i < j))) x y H Q ∨ rLtS x y H Q
  | .le => fun x y H Q => rI0 (fun i j => .bl (decide (i ≤ j))) x y H Q ∨ rLeS x y H Q
  | .gt => fun x y H Q => rI0 (fun i j => .bl (decide (j < i))) x y H Q ∨ rGtS x y H Q
  | .ge => fun x y H Q => rI0 (fun i j => .bl (decide (j ≤ i))) x y H Q ∨ rGeS x y H Q
  | .isin => fun x y H Q => rIn K false x y H Q ∨ rSg x y H Q
  | .notin => fun x y H Q => rIn K true x y H Q ∨ rNSg x y H Q
  | .is => fun x y H Q => rIsNn x y H Q ∨ rIsB x y H Q
  | .isnot => fun x y H Q => rNotNn x y H Q ∨ rNotB x y H Q
theorem or_cop {X : Cx} (hu : X.A.units + 64 < cLine) : ∀ op : Cop, OpR X (compareOp (copOf op)) (rCop X.K op)
  | .eq => OpR.or op_eq (op_eqD hu)
  | .ne => OpR.or op_ne (op_neD hu)
  | .lt => OpR.or op_lt op_lt_str
  | .le => OpR.or op_le op_le_str
  | .gt => OpR.or op_gt op_gt_str
  | .ge => OpR.or op_ge op_ge_str
  | .isin => OpR.or op_in_seq op_in_sign
  | .notin => OpR.or op_notIn_seq op_notIn_sign
  | .is => OpR.or op_isN op_isBl
  | .isnot => OpR.or op_notN op_notBl
section
variable {K : PySem.W.Frag} {G F : Hp} {m : List Addr} {H : Hp} {c : S} {x y : V} {Q : VK}
theorem eqD_ok {p q : PyData} {z : Bool} (s : Ex F H) (hx : RdD K F H x p) (hy : RdD K F H y q) (h : eqD p q = some z) (k : Q (.bl z) H) : rEq x y H Q ∨ rEqD K x y H Q := by
  have gen : ((if SeqAt.shaped p && SeqAt.shaped q then some (PyData.eqv p q) else none) = some z) → rEqD K x y H Q := fun h => by
    split at h
    · rename_i hc
      cases h
      rw [Bool.and_eq_true] at hc
      exact ⟨p, q, (rd_dp (PySem.SeqAt.canLay_of_shaped hc.1) s hx), (rd_dp (PySem.SeqAt.canLay_of_shaped hc.2) s hy), hc.1, hc.2, k⟩
    · cases h
  cases p <;> cases q <;> first
    | (exact .inr (gen h))
    | (cases hx; cases hy; simp [eqD] at h; subst h; exact .inl ⟨rfl, by simpa using k⟩)
theorem neD_ok {p q : PyData} {z : Bool} (s : Ex F H) (hx : RdD K F H x p) (hy : RdD K F H y q) (h : eqD p q = some z) (k : Q (.bl (!z)) H) : rNe x y H Q ∨ rNeD K x y H Q := by
  have gen : ((if SeqAt.shaped p && SeqAt.shaped q then some (PyData.eqv p q) else none) = some z) → rNeD K x y H Q := fun h => by
    split at h
    · rename_i hc
      cases h
      rw [Bool.and_eq_true] at hc
      exact ⟨p, q, (rd_dp (PySem.SeqAt.canLay_of_shaped hc.1) s hx), (rd_dp (PySem.SeqAt.canLay_of_shaped hc.2) s hy), hc.1, hc.2, k⟩
    · cases h
  cases p <;> cases q <;> first
    | (exact .inr (gen h))
    | (cases hx; cases hy; simp [eqD] at h; subst h; exact .inl ⟨rfl, by simpa using k⟩)
theorem inD_ok {p q : PyData} {z : Bool} (neg : Bool) (s : Ex F H) (hx : RdD K F H x p) (hy : RdD K F H y q) (h : inD p q = some z) (k : Q (.bl (if neg then !z else z)) H) :
    rIn K neg x y H Q ∨ ∃ (c : Nat) (w : Str), x = .str ⟨#[c]⟩ ∧ y = .str w ∧ Q (.bl (if neg then !decide (c ∈ w.cps.toList) else decide (c ∈ w.cps.toList))) H := by
  cases q with
  | list ds =>
    obtain ⟨a, xs, rfl, h1, h2⟩ := hy
    simp only [inD] at h
    split at h
    · rename_i hc
      rw [Bool.and_eq_true] at hc
      cases h
      have hx' := Dq.mono s _ (rd_flat hx hc.1)
      have h2' := h2.mono s
      refine .inl ⟨a, xs, rfl, .inl h1, flat_V hx' hc.1, flat_Vs h2' hc.2, ?_⟩
      rw [inV_D hx' hc.1 h2' hc.2]
      exact k
    · cases h
  | tuple ds =>
    obtain ⟨a, xs, rfl, h1, h2⟩ := hy
    simp only [inD] at h
    split at h
    · rename_i hc
      rw [Bool.and_eq_true] at hc
      cases h
      have hx' := Dq.mono s _ (rd_flat hx hc.1)
      have h2' := h2.mono s
      refine .inl ⟨a, xs, rfl, .inr (Evl.ex_t s h1), flat_V hx' hc.1, flat_Vs h2' hc.2, ?_⟩
      rw [inV_D hx' hc.1 h2' hc.2]
      exact k
    · cases h
  | str w =>
    cases hy
    cases p <;> try (simp [inD] at h; done)
    rename_i y'
    cases hx
    simp only [inD] at h
    split at h
    · rename_i c hc
      cases h
      refine .inr ⟨c, w, ?_, rfl, k⟩
      have : y' = ⟨#[c]⟩ := by
        cases y' with
        | mk a =>
          have : a.toList = [c] := hc
          rw [← Array.toArray_toList (xs := a), this]
      rw [this]
    · cases h
  | none => simp [inD] at h
  | bool => simp [inD] at h
  | int => simp [inD] at h
  | dict => simp [inD] at h
theorem isnon_ok {p : PyData} (hx : RdD K F H x p) : decide (x = .non) = isNoneD p := by
  cases p with
  | none => cases hx; rfl
  | bool => cases hx; rfl
  | int => cases hx; rfl
  | str => cases hx; rfl
  | list => obtain ⟨_, _, rfl, _⟩ := hx; rfl
  | tuple => obtain ⟨_, _, rfl, _⟩ := hx; rfl
  | dict => cases hx <;> rfl
theorem cmp_ok (op : Cop) (p q : PyData) {z : Bool} (s : Ex F H) (hx : RdD K F H x p) (hy : RdD K F H y q) (h : cmpD op p q = some z) (k : Q (.bl z) H) : rCop K op x y H Q := by
  cases op with
  | eq => exact eqD_ok s hx hy h k
  | ne =>
    simp only [cmpD, Option.map_eq_some_iff] at h
    obtain ⟨w, h1, rfl⟩ := h
    exact neD_ok s hx hy h1 k
  | isin => exact inD_ok false s hx hy h k
  | notin =>
    simp only [cmpD, Option.map_eq_some_iff] at h
    obtain ⟨w, h1, rfl⟩ := h
    exact inD_ok true s hx hy h1 k
  | lt => cases p <;> cases q <;> first | (simp [cmpD] at h; done) | (cases hx; cases hy; cases h; first | exact .inl ⟨_, _, rfl, rfl, k⟩ | exact .inr ⟨_, _, rfl, rfl, k⟩)
  | le => cases p <;> cases q <;> first | (simp [cmpD] at h; done) | (cases hx; cases hy; cases h; first | exact .inl ⟨_, _, rfl, rfl, k⟩ | exact .inr ⟨_, _, rfl, rfl, k⟩)
  | gt => cases p <;> cases q <;> first | (simp [cmpD] at h; done) | (cases hx; cases hy; cases h; first | exact .inl ⟨_, _, rfl, rfl, k⟩ | exact .inr ⟨_, _, rfl, rfl, k⟩)
  | ge => cases p <;> cases q <;> first | (simp [cmpD] at h; done) | (cases hx; cases hy; cases h; first | exact .inl ⟨_, _, rfl, rfl, k⟩ | exact .inr ⟨_, _, rfl, rfl, k⟩)
  | is =>
    cases q <;> try (cases p <;> simp [cmpD] at h; done)
    · cases hy
      simp only [cmpD, Option.some.injEq] at h
      refine .inl ⟨rfl, ?_⟩
      rw [isnon_ok hx, h]; exact k
    · cases p <;> first | (simp [cmpD] at h; done) | (cases hx; cases hy; cases h; exact .inr ⟨_, _, rfl, rfl, k⟩)
  | isnot =>
    cases q <;> try (cases p <;> simp [cmpD] at h; done)
    · cases hy
      simp only [cmpD, Option.some.injEq] at h
      refine .inl ⟨rfl, ?_⟩
      rw [isnon_ok hx]
      rw [h]
      exact k
    · cases p <;> first | (simp [cmpD] at h; done) | (cases hx; cases hy; cases h; exact .inr ⟨_, _, rfl, rfl, k⟩)

/-! ### items and slices -/
theorem at_ok {vs : List V} {ds : List PyData} {i : Int} {z : PyData} (h : DqAll K F vs ds) (e : atI ds i = some z) : ∃ v, atI vs i = some v ∧ Dq K F v z := by
  unfold atI at *
  rw [h.len]
  cases hi : ixN ds.length i with
  | none => rw [hi] at e; cases e
  | some j =>
    rw [hi] at e
    exact h.get e
theorem sub_ok (p q : PyData) {z : PyData} (s : StOk K G F m H c) (hx : RdD K F H x p) (hy : RdD K F H y q) (h : subD p q = some z) (k : ∀ F' H' v, Ex F F' → StOk K G F' m H' c → Dq K F' v z → Q v H') : rIx K x y H Q := by
  cases q <;> try (cases p <;> simp [subD] at h; done)
  cases hy
  cases p <;> try (simp [subD] at h; done)
  · cases hx
    simp only [subD] at h
    split at h
    · rename_i hz
      rw [Option.map_eq_some_iff] at h
      obtain ⟨cc, h1, rfl⟩ := h
      exact .inr (.inr ⟨_, _, cc, rfl, rfl, szOk_le hz, h1, k F H _ (Ex.refl F) s (.str _)⟩)
    · cases h
  · obtain ⟨a, xs, rfl, h1, h2⟩ := hx
    obtain ⟨v, hv, hd⟩ := at_ok h2 h
    exact .inl ⟨a, xs, _, v, rfl, rfl, h1, hv, k F H v (Ex.refl F) s hd⟩
  · obtain ⟨a, xs, rfl, h1, h2⟩ := hx
    obtain ⟨v, hv, hd⟩ := at_ok h2 h
    exact .inr (.inl ⟨a, xs, _, v, rfl, rfl, Evl.ex_t s.sub h1, hv, k F H v (Ex.refl F) s hd⟩)
def rSl (K : PySem.W.Frag) : V → Option Int → Option Int → Hp → VK → Prop := fun x lo hi H Q => rSlL K x lo hi H Q ∨ rSlA K x lo hi H Q ∨ rSlS x lo hi H Q
theorem sl_any {X : Cx} : SlR X (rSl X.K) := SlR.or sl_list (SlR.or sl_tupA sl_str)
theorem cutD_whole {α : Type} {ds : List α} {lo hi : Option Int} (h : HT.sIx ds.length 0 lo = 0 ∧ HT.sIx ds.length ds.length hi = ds.length) : cutD ds lo hi = ds := by
  unfold cutD
  rw [h.1, h.2]
  simp
theorem slice_ok (p : PyData) (lo hi : Option Int) (s : StOk K G F m H c) (hx : RdD K F H x p) (g : Good K G F m c (sliceD p lo hi) (sliceL p lo hi) Q) : rSl K x lo hi H Q := by
  have go := g.gor
  cases p <;> try (simp [sliceD, sliceL] at go; done)
  · cases hx
    simp only [sliceD, sliceL] at g go
    split at g
    · rename_i hz
      exact .inr (.inr ⟨_, rfl, szOk_le hz, g.str s⟩)
    · rename_i h
      rw [if_neg h] at go; simp at go
  · obtain ⟨a, xs, rfl, h1, h2⟩ := hx
    simp only [sliceD, sliceL] at g go
    exact .inl ⟨a, xs, rfl, h1, g.lstN s (h2.cut lo hi)⟩
  · obtain ⟨a, xs, rfl, h1, h2⟩ := hx
    simp only [sliceD, sliceL] at g go
    refine .inr (.inl ⟨a, xs, rfl, Evl.ex_t s.sub h1, fun e => ?_, fun _ => g.tupN s (h2.cut lo hi)⟩)
    rw [h2.len] at e
    rw [cutD_whole e] at g
    exact g.gt _ rfl F H _ (Ex.refl F) s (.tup h1 h2)

/-! ### truth -/
theorem emp_ok {vs : List V} {ds : List PyData} (h : DqAll K F vs ds) : (!ds.isEmpty) = !vs.isEmpty := by cases h <;> rfl
theorem tru_d (p : PyData) {z : Bool} (s : StOk K G F m H c) (hx : RdD K F H x p) (h : truD p = some z) : TruV K x H z := by
  cases p with
  | none => cases hx; cases h; rfl
  | bool => cases hx; cases h; rfl
  | int => cases hx; cases h; rfl
  | str =>
    cases hx
    simp only [truD] at h
    split at h
    · rename_i hz
      cases h
      refine ⟨szOk_le hz, ?_⟩
      rename_i w
      by_cases h0 : w.length = 0
      · rw [h0]; rfl
      · rw [decide_eq_false h0]
        have : ((w.length : Int) != 0) = true := by rw [bne_iff_ne]; omega
        rw [this]; rfl
    · cases h
  | list ds =>
    obtain ⟨a, xs, rfl, h1, h2⟩ := hx
    cases h
    exact .inl ⟨xs, h1, emp_ok h2⟩
  | tuple ds =>
    obtain ⟨a, xs, rfl, h1, h2⟩ := hx
    cases h
    exact .inr (.inl ⟨xs, Evl.ex_t s.sub h1, emp_ok h2⟩)
  | dict => simp [truD] at h

/-! ### isinstance -/
def tyV : Ty → String
  | .int => "int" | .str => "str" | .bool => "bool" | .tuple => "tuple" | .list => "list" | .dict => "dict"
def kdN : Kd → String
  | .non => "NoneType" | .bl => "bool" | .int => "int" | .str => "str" | .lst => "list" | .tup => "tuple" | .dic => "dict"
theorem kit_all (t : Ty) (k : Kd) : PySem.W.kitOne K (.type (kdN k)) (.type (tyV t)) = some (tyB t k) := by
  cases t <;> cases k <;> exact kit_ty (by decide +kernel)
theorem ty_ok (p : PyData) (t : Ty) {z : Bool} (s : StOk K G F m H c) (hx : RdD K F H x p) (h : tyD t p = some z) (k : Q (.bl z) H) : rIsi K [x, .ty (tyV t)] H Q := by
  by_cases hd : ∃ kvs, p = .dict kvs
  · obtain ⟨kvs, rfl⟩ := hd; simp [tyD] at h
  have h2 : tyD t p = some (tyB t (kd p)) := by
    unfold tyD
    split
    · exact absurd ⟨_, rfl⟩ hd
    · rfl
  rw [h2] at h
  cases h
  have fin : TyX K H x (.type (kdN (kd p))) → rIsi K [x, .ty (tyV t)] H Q := fun h1 => ⟨x, _, _, _, _, rfl, .ty _, h1, kit_all t (kd p), k⟩
  refine fin ?_
  cases p with
  | none => cases hx; exact .base .non
  | bool => cases hx; exact .base (.bl _)
  | int => cases hx; exact .base (.int _)
  | str => cases hx; exact .base (.str _)
  | list ds =>
    obtain ⟨a, xs, rfl, h1, h2⟩ := hx
    rcases h1 with (h1 | ⟨o, h1⟩) | ⟨o, its, n, h1, h3, _⟩
    · exact .base (.lst h1)
    · exact .base (.frz h1)
    · exact .kList h1 h3
  | tuple ds =>
    obtain ⟨a, xs, rfl, h1, h2⟩ := hx
    rcases Evl.ex_t s.sub h1 with (h1 | ⟨o, h1⟩) | ⟨o, its, n, h1, h3, _⟩
    · exact .base (.tup h1)
    · exact .fTuple h1
    · exact .kTuple h1 h3
  | dict kvs => exact absurd ⟨kvs, rfl⟩ hd

/-! ### built-in functions -/
def rLenA (K : PySem.W.Frag) : List V → Hp → VK → Prop := fun xs H Q => ∃ x n, xs = [x] ∧ LenV K x H n ∧ Q (.int n) H
def rAbsA : List V → Hp → VK → Prop := fun xs H Q => ∃ i, xs = [.int i] ∧ Q (.int (if i < 0 then -i else i)) H
def rIntA : List V → Hp → VK → Prop := fun xs H Q => (∃ i, xs = [.int i] ∧ Q (.int i) H) ∨ ∃ k, xs = [.bl k] ∧ Q (.int (if k then 1 else 0)) H
def rMinA : List V → Hp → VK → Prop := fun xs H Q => ∃ i j, xs = [.int i, .int j] ∧ Q (.int (if j < i then j else i)) H
def rMaxA : List V → Hp → VK → Prop := fun xs H Q => ∃ i j, xs = [.int i, .int j] ∧ Q (.int (if j > i then j else i)) H
def rTupA (K : PySem.W.Frag) : List V → Hp → VK → Prop := fun xs H Q => ∃ p ys, xs = [.ref p] ∧ ((SqL K H p ys ∧ ∀ l, H l = none → Q (.ref l) (upd H l (.tup ys))) ∨ (SqT K H p ys ∧ Q (.ref p) H))
def rLstA (K : PySem.W.Frag) : List V → Hp → VK → Prop := fun xs H Q => ∃ p ys, xs = [.ref p] ∧ (SqL K H p ys ∨ SqT K H p ys) ∧ ∀ l, H l = none → Q (.ref l) (upd H l (.lst ys))
def rOrdA : List V → Hp → VK → Prop := fun xs H Q => ∃ x, xs = [.str x] ∧ x.length = 1 ∧ Q (.int (x.cps.getD 0 0 : Nat)) H
def rStrA : List V → Hp → VK → Prop := fun xs H Q => ∃ i, xs = [.int i] ∧ i.natAbs.log2 < 1920 ∧ Q (.str (toString i)) H
def rBi (K : PySem.W.Frag) : Bi → List V → Hp → VK → Prop
  | .len => rLenA K
  | .abs => rAbsA
  | .int => rIntA
  | .min2 => rMinA
  | .max2 => rMaxA
  | .sum => rSum K
  | .tuple => rTupA K
  | .list => rLstA K
  | .all => rAll K
  | .any => rAny K
  | .ord => rOrdA
  | .sorted => fun _ _ _ => False
  | .str => rStrA
theorem one_of {vs : List V} {d : PyData} (h : Paired (RdD K F H) vs [d]) : ∃ v, vs = [v] ∧ RdD K F H v d := by
  cases h with
  | cons a b => cases b; exact ⟨_, rfl, a⟩
theorem two_of {vs : List V} {d e : PyData} (h : Paired (RdD K F H) vs [d, e]) : ∃ v w, vs = [v, w] ∧ RdD K F H v d ∧ RdD K F H w e := by
  cases h with
  | cons a b => cases b with
    | cons a2 b2 => cases b2; exact ⟨_, _, rfl, a, a2⟩
theorem bi_ok (b : Bi) {vs : List V} {ds : List PyData} (s : StOk K G F m H c) (hx : Paired (RdD K F H) vs ds) (g : Good K G F m c (biD b ds) (biL b ds) Q) : rBi K b vs H Q := by
  have go := g.gor
  cases b with
  | len =>
    match ds, hx with
    | [.list es], hx =>
      obtain ⟨v, rfl, a, xs, rfl, h1, h2⟩ := one_of hx
      refine ⟨_, xs.length, rfl, .inl ⟨xs, h1, rfl⟩, ?_⟩
      rw [h2.len]; exact g.int s
    | [.tuple es], hx =>
      obtain ⟨v, rfl, a, xs, rfl, h1, h2⟩ := one_of hx
      refine ⟨_, xs.length, rfl, .inr ⟨xs, Evl.ex_t s.sub h1, rfl⟩, ?_⟩
      rw [h2.len]; exact g.int s
    | [.str z], hx =>
      obtain ⟨v, rfl, h1⟩ := one_of hx
      cases h1
      simp only [biD, biL] at g go
      split at g
      · rename_i hz
        exact ⟨_, _, rfl, ⟨szOk_le hz, rfl⟩, g.int s⟩
      · rename_i h
        rw [if_neg h] at go; simp at go
    | [], _ => simp [biD, biL] at go
    | [.none], _ => simp [biD, biL] at go
    | [.bool _], _ => simp [biD, biL] at go
    | [.int _], _ => simp [biD, biL] at go
    | [.dict _], _ => simp [biD, biL] at go
    | _ :: _ :: _, _ => simp [biD, biL] at go
  | abs =>
    match ds, hx with
    | [.int i], hx =>
      obtain ⟨v, rfl, h1⟩ := one_of hx
      cases h1
      exact ⟨_, rfl, g.int s⟩
    | [], _ => simp [biD, biL] at go
    | [.none], _ => simp [biD, biL] at go
    | [.bool _], _ => simp [biD, biL] at go
    | [.str _], _ => simp [biD, biL] at go
    | [.list _], _ => simp [biD, biL] at go
    | [.tuple _], _ => simp [biD, biL] at go
    | [.dict _], _ => simp [biD, biL] at go
    | _ :: _ :: _, _ => simp [biD, biL] at go
  | int =>
    match ds, hx with
    | [.int i], hx =>
      obtain ⟨v, rfl, h1⟩ := one_of hx
      cases h1
      exact .inl ⟨_, rfl, g.int s⟩
    | [.bool i], hx =>
      obtain ⟨v, rfl, h1⟩ := one_of hx
      cases h1
      exact .inr ⟨_, rfl, g.int s⟩
    | [], _ => simp [biD, biL] at go
    | [.none], _ => simp [biD, biL] at go
    | [.str _], _ => simp [biD, biL] at go
    | [.list _], _ => simp [biD, biL] at go
    | [.tuple _], _ => simp [biD, biL] at go
    | [.dict _], _ => simp [biD, biL] at go
    | _ :: _ :: _, _ => simp [biD, biL] at go
  | min2 =>
    match ds, hx with
    | [p, q], hx =>
      obtain ⟨v, w, rfl, h1, h2⟩ := two_of hx
      cases p <;> cases q <;> try (simp [biD, biL] at go; done)
      cases h1; cases h2
      exact ⟨_, _, rfl, g.int s⟩
    | [], _ => simp [biD, biL] at go
    | [_], _ => simp [biD, biL] at go
    | _ :: _ :: _ :: _, _ => simp [biD, biL] at go
  | max2 =>
    match ds, hx with
    | [p, q], hx =>
      obtain ⟨v, w, rfl, h1, h2⟩ := two_of hx
      cases p <;> cases q <;> try (simp [biD, biL] at go; done)
      cases h1; cases h2
      exact ⟨_, _, rfl, g.int s⟩
    | [], _ => simp [biD, biL] at go
    | [_], _ => simp [biD, biL] at go
    | _ :: _ :: _ :: _, _ => simp [biD, biL] at go
  | sum =>
    match ds, hx with
    | [p], hx =>
      cases p <;> try (simp [biD, biL] at go; done)
      obtain ⟨v, rfl, a, xs, rfl, h1, h2⟩ := one_of hx
      simp only [biD, biL] at g go
      rename_i es _
      cases e : intsD es with
      | none => rw [e] at go; simp at go
      | some is =>
        rw [e] at g
        refine ⟨a, is, rfl, (by rw [← h2.intsV e]; exact h1), g.int s⟩
    | [], _ => simp [biD, biL] at go
    | _ :: _ :: _, _ => simp [biD, biL] at go
  | tuple =>
    match ds, hx with
    | [p], hx =>
      cases p <;> try (simp [biD, biL] at go; done)
      · obtain ⟨v, rfl, a, xs, rfl, h1, h2⟩ := one_of hx
        exact ⟨a, xs, rfl, .inl ⟨h1, g.tupN s h2⟩⟩
      · obtain ⟨v, rfl, a, xs, rfl, h1, h2⟩ := one_of hx
        exact ⟨a, xs, rfl, .inr ⟨Evl.ex_t s.sub h1, g.gt _ rfl F H _ (Ex.refl F) s (.tup h1 h2)⟩⟩
    | [], _ => simp [biD, biL] at go
    | _ :: _ :: _, _ => simp [biD, biL] at go
  | list =>
    match ds, hx with
    | [p], hx =>
      cases p <;> try (simp [biD, biL] at go; done)
      · obtain ⟨v, rfl, a, xs, rfl, h1, h2⟩ := one_of hx
        exact ⟨a, xs, rfl, .inl h1, g.lstN s h2⟩
      · obtain ⟨v, rfl, a, xs, rfl, h1, h2⟩ := one_of hx
        exact ⟨a, xs, rfl, .inr (Evl.ex_t s.sub h1), g.lstN s h2⟩
    | [], _ => simp [biD, biL] at go
    | _ :: _ :: _, _ => simp [biD, biL] at go
  | all =>
    match ds, hx with
    | [p], hx =>
      cases p <;> try (simp [biD, biL] at go; done)
      obtain ⟨v, rfl, a, xs, rfl, h1, h2⟩ := one_of hx
      simp only [biD, biL] at g go
      rename_i es _
      cases e : bools es with
      | none => rw [e] at go; simp at go
      | some is =>
        rw [e] at g
        refine ⟨a, is, rfl, (by rw [← h2.boolsV e]; exact h1), g.bl s⟩
    | [], _ => simp [biD, biL] at go
    | _ :: _ :: _, _ => simp [biD, biL] at go
  | any =>
    match ds, hx with
    | [p], hx =>
      cases p <;> try (simp [biD, biL] at go; done)
      obtain ⟨v, rfl, a, xs, rfl, h1, h2⟩ := one_of hx
      simp only [biD, biL] at g go
      rename_i es _
      cases e : bools es with
      | none => rw [e] at go; simp at go
      | some is =>
        rw [e] at g
        refine ⟨a, is, rfl, (by rw [← h2.boolsV e]; exact h1), g.bl s⟩
    | [], _ => simp [biD, biL] at go
    | _ :: _ :: _, _ => simp [biD, biL] at go
  | ord =>
    match ds, hx with
    | [p], hx =>
      cases p <;> try (simp [biD, biL] at go; done)
      obtain ⟨v, rfl, h1⟩ := one_of hx
      cases h1
      simp only [biD, biL] at g go
      split at g
      · rename_i hz
        exact ⟨_, rfl, hz, g.int s⟩
      · rename_i h
        rw [if_neg h] at go; simp at go
    | [], _ => simp [biD, biL] at go
    | _ :: _ :: _, _ => simp [biD, biL] at go
  | sorted => simp [biD, biL] at go
  | str =>
    match ds, hx with
    | [p], hx =>
      cases p <;> try (simp [biD, biL] at go; done)
      obtain ⟨v, rfl, h1⟩ := one_of hx
      cases h1
      simp only [biD, biL] at g go
      split at g
      · rename_i hz
        exact ⟨_, rfl, hz, g.str s⟩
      · rename_i h
        rw [if_neg h] at go; simp at go
    | [], _ => simp [biD, biL] at go
    | _ :: _ :: _, _ => simp [biD, biL] at go
end
end SK

/-! SK6: what a piece promises of its text. -/
namespace SK
open PySem PySem.Spec PyProof.Rows L2
open Evl (Ex)
def Out {α : Type} (r : R α) (P : α → S → Prop) (E : Exn → S → Prop) : Prop := match r with
  | .ok a c => P a c
  | .ex e c => E e c
  | .no => False
theorem Out.imp {α : Type} {r : R α} {P P' : α → S → Prop} {E E' : Exn → S → Prop} (h : Out r P E) (hP : ∀ a c, P a c → P' a c) (hE : ∀ e c, E e c → E' e c) : Out r P' E' := by
  cases r with
  | ok a c => exact hP a c h
  | ex e c => exact hE e c h
  | no => exact h
theorem out_bind {α β : Type} {r : R α} {f : α → S → R β} {P : β → S → Prop} {E : Exn → S → Prop} : Out (r.bind f) P E ↔ Out r (fun a c => Out (f a c) P E) E := by
  cases r <;> exact Iff.rfl
theorem R.bind_assoc {α β γ : Type} (r : R α) (f : α → S → R β) (g : β → S → R γ) : (r.bind f).bind g = r.bind fun a c => (f a c).bind g := by
  cases r <;> rfl
theorem out_ofO {α β : Type} {o : Option α} {f : α → R β} {P : β → S → Prop} {E : Exn → S → Prop} (h : Out (ofO o f) P E) : ∃ a, o = some a ∧ Out (f a) P E := by
  cases o with
  | none => exact h.elim
  | some a => exact ⟨a, rfl, h⟩
abbrev RXT := Nat → List (Str × PyData) → Value → Option Addr → Hp → Prop
/-- what is known of an error under way -/
def RXc (K : PySem.W.Frag) (ecs : List Nat) : RXT := fun k fs cls dd F => k ∈ ecs ∧ cls = .ref (gaK K (clsName k)) ∧
  ((fs = [] ∧ clsFlds k = [] ∧ dd = none) ∨ (fs ≠ [] ∧ clsFlds k ≠ [] ∧ ∃ d xs, dd = some d ∧ F d = some (.xd xs) ∧ ∀ f q, fs.lookup f = some q → ∃ v, xs.lookup f = some v ∧ Dq K F v q))
theorem RXc.mono {K : PySem.W.Frag} {ecs : List Nat} {k : Nat} {fs : List (Str × PyData)} {cls : Value} {dd : Option Addr} {F F' : Hp} (h : Ex F F') (r : RXc K ecs k fs cls dd F) : RXc K ecs k fs cls dd F' := by
  obtain ⟨h1, h2, h3 | ⟨h0, h3, d, xs, h4, h5, h6⟩⟩ := r
  · exact ⟨h1, h2, .inl h3⟩
  · exact ⟨h1, h2, .inr ⟨h0, h3, d, xs, h4, h d _ h5, fun f q hq => by
      obtain ⟨v, hv, r⟩ := h6 f q hq
      exact ⟨v, hv, Dq.mono h q r⟩⟩⟩
section
variable (K : PySem.W.Frag) (hld : Held) (RX : RXT) (W : WX)
def ExP (G F : Hp) (m : List Addr) (σ : L2.St) : Exn → S → Prop := fun e c' => ∀ F' H' cls dd, Ex F F' → StOk K G F' m H' c' → EnvOk K hld F' m σ e.env → RX e.cls e.fs cls dd F' → W cls dd σ H'
def PD (G F : Hp) (m : List Addr) (Q : VK) : D → S → Prop := fun d c' => ∀ F' H' v, Ex F F' → StOk K G F' m H' c' → RepD K hld G F' m H' d v → Q v H'
def tE (ev : Rho → S → R D) : TE := fun σ H Q => ∃ F G m ρ c, StOk K G F m H c ∧ EnvOk K hld F m σ ρ ∧ Out (ev ρ c) (PD K hld G F m Q) (ExP K hld RX W G F m σ)
def tT (ev : Rho → S → R Bool) : TT := fun σ H Q => ∃ F G m ρ c, StOk K G F m H c ∧ EnvOk K hld F m σ ρ ∧ Out (ev ρ c) (fun b c' => ∀ F' H', Ex F F' → StOk K G F' m H' c' → Q b H') (ExP K hld RX W G F m σ)
def tA (ev : Rho → S → R (List D)) : TA := fun σ H Q => ∃ F G m ρ c, StOk K G F m H c ∧ EnvOk K hld F m σ ρ ∧ Out (ev ρ c) (fun ds c' => ∀ F' H' vs, Ex F F' → StOk K G F' m H' c' → Paired (RepS K hld F' m) ds vs → Q vs H') (ExP K hld RX W G F m σ)
def tO (ev : Rho → S → R (Option Int)) : TO := fun σ H Q => ∃ F G m ρ c, StOk K G F m H c ∧ EnvOk K hld F m σ ρ ∧ Out (ev ρ c) (fun o c' => ∀ F' H', Ex F F' → StOk K G F' m H' c' → Q o H') (ExP K hld RX W G F m σ)
end
section
variable {K : PySem.W.Frag} {hld : Held} {RX : RXT} {W : WX} {G F F1 : Hp} {m : List Addr} {H : Hp} {c : S} {σ : L2.St} {ρ : Rho} {Q : VK}
theorem ExP.mono (e : Ex F F1) {x : Exn} {c' : S} (h : ExP K hld RX W G F m σ x c') : ExP K hld RX W G F1 m σ x c' := fun F' H' cls dd e' => h F' H' cls dd (e.trans e')
theorem pfx : m <+: m := List.prefix_refl m
/-- one part of an expression is evaluated, its value frozen -/
theorem step {ev : Rho → S → R D} {β : Type} {f : D → S → R β} {P : β → S → Prop} {E : Exn → S → Prop} (s : StOk K G F m H c) (en : EnvOk K hld F m σ ρ) (hE : ∀ e c', E e c' → ExP K hld RX W G F m σ e c') (o : Out ((ev ρ c).bind f) P E)
    (k : ∀ F1 H1 c1 d v, Ex F F1 → StOk K G F1 m H1 c1 → EnvOk K hld F1 m σ ρ → RepS K hld F1 m (frz d) v → (∀ e c', E e c' → ExP K hld RX W G F1 m σ e c') → Out (f d c1) P E → Q v H1) : tE K hld RX W ev σ H Q := by
  refine ⟨F, G, m, ρ, c, s, en, (out_bind.mp o).imp (fun d c1 h F' H' v e s' r => ?_) hE⟩
  obtain ⟨F2, e2, s2, r2⟩ := rep_frz s' r
  exact k F2 H' c1 d v (e.trans e2) s2 (en.mono (e.trans e2) pfx) r2 (fun x c' hx => (hE x c' hx).mono (e.trans e2)) h
/-- as it stands -/
theorem stepD {ev : Rho → S → R D} {β : Type} {f : D → S → R β} {P : β → S → Prop} {E : Exn → S → Prop} (s : StOk K G F m H c) (en : EnvOk K hld F m σ ρ) (hE : ∀ e c', E e c' → ExP K hld RX W G F m σ e c') (o : Out ((ev ρ c).bind f) P E)
    (k : ∀ F1 H1 c1 d v, Ex F F1 → StOk K G F1 m H1 c1 → EnvOk K hld F1 m σ ρ → RepD K hld G F1 m H1 d v → (∀ e c', E e c' → ExP K hld RX W G F1 m σ e c') → Out (f d c1) P E → Q v H1) : tE K hld RX W ev σ H Q :=
  ⟨F, G, m, ρ, c, s, en, (out_bind.mp o).imp (fun d c1 h F' H' v e s' r => k F' H' c1 d v e s' (en.mono e pfx) r (fun x c' hx => (hE x c' hx).mono e) h) hE⟩
theorem stepT {ev : Rho → S → R Bool} {β : Type} {f : Bool → S → R β} {P : β → S → Prop} {E : Exn → S → Prop} {Q : Bool → Hp → Prop} (s : StOk K G F m H c) (en : EnvOk K hld F m σ ρ) (hE : ∀ e c', E e c' → ExP K hld RX W G F m σ e c') (o : Out ((ev ρ c).bind f) P E)
    (k : ∀ F1 H1 c1 b, Ex F F1 → StOk K G F1 m H1 c1 → EnvOk K hld F1 m σ ρ → (∀ e c', E e c' → ExP K hld RX W G F1 m σ e c') → Out (f b c1) P E → Q b H1) : tT K hld RX W ev σ H Q :=
  ⟨F, G, m, ρ, c, s, en, (out_bind.mp o).imp (fun b c1 h F' H' e s' => k F' H' c1 b e s' (en.mono e pfx) (fun x c' hx => (hE x c' hx).mono e) h) hE⟩
theorem stepA {ev : Rho → S → R (List D)} {β : Type} {f : List D → S → R β} {P : β → S → Prop} {E : Exn → S → Prop} {Q : List V → Hp → Prop} (s : StOk K G F m H c) (en : EnvOk K hld F m σ ρ) (hE : ∀ e c', E e c' → ExP K hld RX W G F m σ e c') (o : Out ((ev ρ c).bind f) P E)
    (k : ∀ F1 H1 c1 ds vs, Ex F F1 → StOk K G F1 m H1 c1 → EnvOk K hld F1 m σ ρ → Paired (RepS K hld F1 m) ds vs → (∀ e c', E e c' → ExP K hld RX W G F1 m σ e c') → Out (f ds c1) P E → Q vs H1) : tA K hld RX W ev σ H Q :=
  ⟨F, G, m, ρ, c, s, en, (out_bind.mp o).imp (fun ds c1 h F' H' vs e s' r => k F' H' c1 ds vs e s' (en.mono e pfx) r (fun x c' hx => (hE x c' hx).mono e) h) hE⟩
theorem stepO {ev : Rho → S → R (Option Int)} {β : Type} {f : Option Int → S → R β} {P : β → S → Prop} {E : Exn → S → Prop} {Q : Option Int → Hp → Prop} (s : StOk K G F m H c) (en : EnvOk K hld F m σ ρ) (hE : ∀ e c', E e c' → ExP K hld RX W G F m σ e c') (o : Out ((ev ρ c).bind f) P E)
    (k : ∀ F1 H1 c1 b, Ex F F1 → StOk K G F1 m H1 c1 → EnvOk K hld F1 m σ ρ → (∀ e c', E e c' → ExP K hld RX W G F1 m σ e c') → Out (f b c1) P E → Q b H1) : tO K hld RX W ev σ H Q :=
  ⟨F, G, m, ρ, c, s, en, (out_bind.mp o).imp (fun b c1 h F' H' e s' => k F' H' c1 b e s' (en.mono e pfx) (fun x c' hx => (hE x c' hx).mono e) h) hE⟩
/-- one part, looked at -/
theorem stepP {ev : Rho → S → R D} {β : Type} {f : PyData → S → R β} {P : β → S → Prop} {E : Exn → S → Prop} (s : StOk K G F m H c) (en : EnvOk K hld F m σ ρ) (hE : ∀ e c', E e c' → ExP K hld RX W G F m σ e c') (o : Out ((pd (ev ρ c)).bind f) P E)
    (k : ∀ F1 H1 c1 q v, Ex F F1 → StOk K G F1 m H1 c1 → EnvOk K hld F1 m σ ρ → RdD K F1 H1 v q → (∀ e c', E e c' → ExP K hld RX W G F1 m σ e c') → Out (f q c1) P E → Q v H1) : tE K hld RX W ev σ H Q := by
  unfold pd at o
  rw [R.bind_assoc] at o
  refine step s en hE o fun F1 H1 c1 d v e1 s1 en1 r1 hE1 o1 => ?_
  have o2 := out_bind.mp o1
  unfold dat at o2
  obtain ⟨q, hq, o3⟩ := out_ofO o2
  have hq' : look (frz d) c1 = some q := by
    cases d <;> exact hq
  exact k F1 H1 c1 q v e1 s1 en1 (rep_look s1 r1 hq') hE1 o3
/-- one part, to lie in data -/
theorem stepV {ev : Rho → S → R D} {β : Type} {f : PyData → S → R β} {P : β → S → Prop} {E : Exn → S → Prop} (s : StOk K G F m H c) (en : EnvOk K hld F m σ ρ) (hE : ∀ e c', E e c' → ExP K hld RX W G F m σ e c') (o : Out ((tv (ev ρ c)).bind f) P E)
    (k : ∀ F1 H1 c1 q v, Ex F F1 → StOk K G F1 m H1 c1 → EnvOk K hld F1 m σ ρ → Dq K F1 v q → (∀ e c', E e c' → ExP K hld RX W G F1 m σ e c') → Out (f q c1) P E → Q v H1) : tE K hld RX W ev σ H Q := by
  unfold tv at o
  rw [R.bind_assoc] at o
  refine step s en hE o fun F1 H1 c1 d v e1 s1 en1 r1 hE1 o1 => ?_
  have o2 := out_bind.mp o1
  obtain ⟨q, hq, o3⟩ := out_ofO o2
  unfold tvD at hq
  split at hq
  · rename_i q' e
    cases hq
    rw [e] at r1
    exact k F1 H1 c1 q v e1 s1 en1 r1 hE1 o3
  · cases hq
/-- a result -/
theorem pd_t {z : PyData} {v : V} {F1 : Hp} {Q : VK} (h : PD K hld G F m Q (.t z) c) (e : Ex F F1) (s : StOk K G F1 m H c) (r : Dq K F1 v z) : Q v H := h F1 H v e s r
theorem good_of {o : Option PyData} {l : Option (List PyData)} {F1 : Hp} {Ee : Exn → S → Prop} (h : Out (resT o l c) (PD K hld G F m Q) Ee) (e : Ex F F1) : Good K G F1 m c o l Q := by
  unfold resT at h
  cases o with
  | some z => exact ⟨fun z' hz F' H' v e' s' r => by cases hz; exact h F' H' v (e.trans e') s' r, (fun hz => by cases hz), .inl rfl⟩
  | none =>
    cases l with
    | some zs => exact ⟨(fun _ hz => by cases hz), (fun _ zs' hz H' p xs s' hp hF hm hG hd => by cases hz; exact h F1 H' (.ref p) e s' ⟨p, xs, rfl, hp, hF, hm, hG, hd⟩), .inr rfl⟩
    | none => exact h.elim
theorem resB_of {o : Option Bool} {F1 : Hp} {Ee : Exn → S → Prop} (h : Out (resB o c) (PD K hld G F m Q) Ee) (e : Ex F F1) (s : StOk K G F1 m H c) : ∃ z, o = some z ∧ Q (.bl z) H := by
  cases o with
  | none => exact h.elim
  | some z => exact ⟨z, rfl, h F1 H _ e s (.bl z)⟩
/-- two operands, the first evaluated ahead of the second -/
theorem two_of' {x y : D} {v w : V} {f : PyData → PyData → R D} {P : D → S → Prop} {Ee : Exn → S → Prop} {F1 F2 : Hp} {H2 : Hp} {c2 : S} (e2 : Ex F1 F2) (s2 : StOk K G F2 m H2 c2) (r1 : RepS K hld F1 m (frz x) v) (r2 : RepS K hld F2 m (frz y) w) (h : Out (two x y c2 f) P Ee) :
    ∃ p q, RdD K F2 H2 v p ∧ RdD K F2 H2 w q ∧ Out (f p q) P Ee := by
  obtain ⟨p, hp, h⟩ := out_ofO h
  obtain ⟨q, hq, h⟩ := out_ofO h
  exact ⟨p, q, rep_look s2 (r1.mono e2 pfx) hp, rep_look s2 r2 hq, h⟩
theorem two_ofX {x y : D} {v w : V} {f : PyData → PyData → R D} {P : D → S → Prop} {Ee : Exn → S → Prop} {F1 F2 : Hp} {H2 : Hp} {c2 : S} (e2 : Ex F1 F2) (s2 : StOk K G F2 m H2 c2) (r1 : RepS K hld F1 m (frz x) v) (r2 : RepS K hld F2 m (frz y) w) (h : Out (twoX x y c2 f) P Ee) :
    ∃ p q, RdX K F2 H2 v p ∧ RdX K F2 H2 w q ∧ Out (f p q) P Ee := by
  obtain ⟨p, hp, h⟩ := out_ofO h
  obtain ⟨q, hq, h⟩ := out_ofO h
  exact ⟨p, q, rep_lookX s2 (r1.mono e2 pfx) hp, rep_lookX s2 r2 hq, h⟩
theorem PE.imp {X : Cx} {e : Expr} {t t' : TE} (h : PE X e t) (hi : ∀ σ H Q, t' σ H Q → t σ H Q) : PE X e t' := ⟨fun pins s σ H Q I q => h.run pins s σ H Q I (hi σ H Q q)⟩
theorem PT.imp {X : Cx} {e : Expr} {t t' : TT} (h : PT X e t) (hi : ∀ σ H Q, t' σ H Q → t σ H Q) : PT X e t' := ⟨fun pins s σ H Q I q => h.run pins s σ H Q I (hi σ H Q q)⟩
theorem PA.imp {X : Cx} {e : List Expr} {t t' : TA} (h : PA X e t) (hi : ∀ σ H Q, t' σ H Q → t σ H Q) : PA X e t' := ⟨fun pos pins s σ H Q I q => h.run pos pins s σ H Q I (hi σ H Q q)⟩
theorem PO.imp {X : Cx} {e : Option Expr} {t t' : TO} (h : PO X e t) (hi : ∀ σ H Q, t' σ H Q → t σ H Q) : PO X e t' := ⟨fun pins s σ H Q I q => h.run pins s σ H Q I (hi σ H Q q)⟩
end

/-! ### what a context is -/
def bltNames : List Str := ["len", "abs", "int", "min", "max", "sum", "tuple", "list", "all", "any", "ord", "sorted", "str", "bool", "dict", "isinstance", "range", "zip", "enumerate", "set", "ValueError"]
/-- in an except suite: the error that is held -/
structure HotOk (X : Cx) (ecs : List Nat) (hld : Held) : Prop where
  ex : ∃ (a : Addr) (oe : Obj) (cls : Value) (dd : Option Addr) (X0 : Cx) (pn : List (Addr × Obj)), X = X0.suite a ((a, oe) :: pn) ∧ Zc cls dd oe ∧ (∃ vs, oe.data = .fields vs) ∧ (∃ k, k ∈ ecs ∧ cls = .ref (gaK X.K (clsName k))) ∧ ∀ k fs v F, hld.p k fs v F → v = .ref a ∧ RXc X.K ecs k fs cls dd F
structure CxOk (X : Cx) (T : Tx) (sc : Scope) (W : WX) (hld : Held) : Prop where
  N : X.N = T.N
  nd : X.N.Nodup
  sc : X.env.scope = sc
  kind : X.env.scope.kind = .function
  calm : T.hot = false → X.calm = true
  nh : T.hot = false → hld = noHeld
  held : T.hot = true → HotOk X T.ecs hld
  takes : Takes X W
  passes : PassesOwn (model X.prog X.w) X.A X.env X.xe
  hu : X.A.units + 64 < cLine
  blt : ∀ x ∈ bltNames, X.mg x = none
section
variable {K : PySem.W.Frag} {hld : Held} {RX : RXT} {W : WX} {X : Cx} {T : Tx} {sc : Scope} {cl : Nat → List D → S → R D} {gl : Nat → Option PyData}
theorem isVis_ok (C : CxOk X T sc W hld) {x : Str} (h : isVis sc x = true) : Vis X.env.scope x := by
  rw [C.sc]
  unfold isVis at h
  split at h
  · rename_i e; exact .inl e
  · rename_i e; exact .inr (.inl e)
  · rename_i e; exact .inr (.inr e)
  · cases h
theorem okName_ok {x : Str} (h : okName x = true) : (x == ("__debug__" : Str)) = false ∧ (x == ("__classdict__" : Str)) = false ∧ x ≠ "__name__" := by
  unfold okName at h
  simp only [Bool.and_eq_true, Bool.not_eq_true', decide_eq_false_iff_not] at h
  exact ⟨h.1.1, h.1.2, h.2⟩
theorem isGl_ok (C : CxOk X T sc W hld) {x : Str} (h : isGl sc x = true) : Gl X x ∧ (x == ("__debug__" : Str)) = false ∧ x ≠ "__name__" := by
  unfold isGl at h
  rw [Bool.and_eq_true, decide_eq_true_eq] at h
  have := okName_ok h.2
  refine ⟨?_, this.1, this.2.2⟩
  show X.env.scope.names.lookup x = _
  rw [C.sc]; exact h.1

theorem e_lit {d : PyData} {e : Expr} (h : maE T sc (.lit d) e = true) : PE X e (tE K hld RX W (evE cl gl (.lit d))) := by
  cases d <;> cases e <;> try (simp [maE] at h; done)
  all_goals (rename_i v _ _; cases v <;> try (simp [maE] at h; done))
  · exact PE.imp pe_non fun σ H Q ⟨F, G, m, ρ, c, s, en, o⟩ => o F H _ (Ex.refl F) s .non
  · simp only [maE, beq_iff_eq] at h; subst h
    exact PE.imp pe_bl fun σ H Q ⟨F, G, m, ρ, c, s, en, o⟩ => o F H _ (Ex.refl F) s (.bl _)
  · simp only [maE, decide_eq_true_eq] at h; subst h
    exact PE.imp pe_int fun σ H Q ⟨F, G, m, ρ, c, s, en, o⟩ => o F H _ (Ex.refl F) s (.int _)
  · simp only [maE, decide_eq_true_eq] at h; subst h
    exact PE.imp pe_str fun σ H Q ⟨F, G, m, ρ, c, s, en, o⟩ => o F H _ (Ex.refl F) s (.str _)
theorem e_var (C : CxOk X T sc W hld) {i : Nat} {x : Str} {p : Pos} (h : maE T sc (.var i) (.Name x p) = true) : PE X (.Name x p) (tE K hld RX W (evE cl gl (.var i))) := by
  simp only [maE, Bool.and_eq_true, decide_eq_true_eq] at h
  obtain ⟨⟨h1, h2⟩, h3⟩ := h
  obtain ⟨n1, n2, _⟩ := okName_ok h3
  refine PE.imp (pe_var (by rw [C.N]; exact h1) (isVis_ok C h2) n1 n2) fun σ H Q ⟨F, G, m, ρ, c, s, en, o⟩ => ?_
  simp only [evE] at o
  split at o
  · rename_i d hd
    obtain ⟨v, hv, r⟩ := en.at_ i d hd
    refine ⟨v, hv, o F H v (Ex.refl F) s ?_⟩
    cases d with
    | t q => exact r
    | own q => exact r.elim
    | ref j => exact r
    | scr q => exact r
    | err => exact r
  · exact o.elim
theorem e_glob (C : CxOk X T sc W hld) {j : Nat} {x : Str} {p : Pos} (hg : ∀ (j : Nat) (x : Str) (d : PyData), T.gn[j]? = some x → gl j = some d → ∃ u v, X.mg x = some u ∧ RelV v u ∧ ∀ F, Dq K F v d) (h : maE T sc (.glob j) (.Name x p) = true) : PE X (.Name x p) (tE K hld RX W (evE cl gl (.glob j))) := by
  simp only [maE, Bool.and_eq_true, decide_eq_true_eq] at h
  obtain ⟨g1, g2, _⟩ := isGl_ok C h.2
  cases e : gl j with
  | none => exact ⟨fun pins s σ H Q I ⟨F, G, m, ρ, c, st, en, o⟩ => by
      simp only [evE, e] at o
      exact o.elim⟩
  | some d =>
    obtain ⟨u, v, h1, h2, h3⟩ := hg j x d h.1 e
    refine PE.imp (pe_glob (v := v) g1 h1 h2 g2) fun σ H Q ⟨F, G, m, ρ, c, s, en, o⟩ => ?_
    simp only [evE, e] at o
    exact o F H v (Ex.refl F) s (h3 F)
theorem e_bin {op : Bop} {a b : IE} {a' b' : Expr} {p : Pos} (ha : PE X a' (tE X.K hld RX W (evE cl gl a))) (hb : PE X b' (tE X.K hld RX W (evE cl gl b))) :
    PE X (.BinOp a' (bopOf op) b' p) (tE X.K hld RX W (evE cl gl (.bin op a b))) := by
  refine PE.imp (pe_op (or_bin op) ha hb) fun σ H Q ⟨F, G, m, ρ, c, s, en, o⟩ => ?_
  simp only [evE] at o
  refine step s en (fun _ _ h => h) o fun F1 H1 c1 d v e1 s1 en1 r1 hE1 o1 => ?_
  refine step s1 en1 hE1 o1 fun F2 H2 c2 d2 w e2 s2 en2 r2 hE2 o2 => ?_
  obtain ⟨p, q, hp, hq, o3⟩ := two_ofX e2 s2 r1 r2 o2
  exact bin_ok op p q s2 hp hq (good_of o3 (e1.trans e2))
theorem e_cmp (C : CxOk X T sc W hld) {op : Cop} {a b : IE} {a' b' : Expr} {p : Pos} (hm : behindInMarks (copOf op) b' = false) (ha : PE X a' (tE X.K hld RX W (evE cl gl a))) (hb : PE X b' (tE X.K hld RX W (evE cl gl b))) :
    PE X (.Compare a' [copOf op] [b'] p) (tE X.K hld RX W (evE cl gl (.cmp op a b))) := by
  refine PE.imp (pe_cmpR (or_cop C.hu op) ha hb hm) fun σ H Q ⟨F, G, m, ρ, c, s, en, o⟩ => ?_
  simp only [evE] at o
  refine step s en (fun _ _ h => h) o fun F1 H1 c1 d v e1 s1 en1 r1 hE1 o1 => ?_
  refine step s1 en1 hE1 o1 fun F2 H2 c2 d2 w e2 s2 en2 r2 hE2 o2 => ?_
  obtain ⟨p, q, hp, hq, o3⟩ := two_of' e2 s2 r1 r2 o2
  obtain ⟨z, hz, k⟩ := resB_of o3 (e1.trans e2) s2
  exact cmp_ok op p q s2.sub hp hq hz k
theorem e_neg {a : IE} {a' : Expr} {p : Pos} (ha : PE X a' (tE X.K hld RX W (evE cl gl a))) : PE X (.UnaryOp .USub a' p) (tE X.K hld RX W (evE cl gl (.neg a))) := by
  refine PE.imp (pe_un un_neg ha) fun σ H Q ⟨F, G, m, ρ, c, s, en, o⟩ => ?_
  simp only [evE] at o
  refine stepP s en (fun _ _ h => h) o fun F1 H1 c1 q v e1 s1 en1 r1 hE1 o1 => ?_
  cases q <;> try exact o1.elim
  cases r1
  exact ⟨_, rfl, o1 F1 H1 _ e1 s1 (.int _)⟩
theorem e_not {a : IE} {a' : Expr} {p : Pos} (ha : PE X a' (tE X.K hld RX W (evE cl gl a))) : PE X (.UnaryOp .Not a' p) (tE X.K hld RX W (evE cl gl (.not (.val a)))) := by
  refine PE.imp (pe_notT ha) fun σ H Q ⟨F, G, m, ρ, c, s, en, o⟩ => ?_
  simp only [evE, evT, R.bind_assoc] at o
  refine stepP s en (fun _ _ h => h) o fun F1 H1 c1 q v e1 s1 en1 r1 hE1 o1 => ?_
  have o2 := out_bind.mp o1
  obtain ⟨z, hz, o3⟩ := out_ofO o2
  exact ⟨z, tru_d q s1 r1 hz, o3 F1 H1 _ e1 s1 (.bl _)⟩
theorem e_chain (C : CxOk X T sc W hld) {o1 o2 : Cop} {a b e : IE} {a' b' e' : Expr} {p : Pos} (hm : lastMarks [copOf o1, copOf o2] [b', e'] = false) (ha : PE X a' (tE X.K hld RX W (evE cl gl a))) (hb : PE X b' (tE X.K hld RX W (evE cl gl b))) (he : PE X e' (tE X.K hld RX W (evE cl gl e))) :
    PE X (.Compare a' [copOf o1, copOf o2] [b', e'] p) (tE X.K hld RX W (evE cl gl (.chain o1 o2 a b e))) := by
  refine PE.imp (pe_chain (or_cop C.hu o1) (or_cop C.hu o2) ha hb he hm) fun σ H Q ⟨F, G, m, ρ, c, s, en, o⟩ => ?_
  simp only [evE] at o
  refine step s en (fun _ _ h => h) o fun F1 H1 c1 d v e1 s1 en1 r1 hE1 oo1 => ?_
  refine step s1 en1 hE1 oo1 fun F2 H2 c2 d2 w e2 s2 en2 r2 hE2 oo2 => ?_
  obtain ⟨p, q, hp, hq, oo3⟩ := two_of' e2 s2 r1 r2 oo2
  obtain ⟨z, hz, oo4⟩ := out_ofO oo3
  refine cmp_ok o1 p q s2.sub hp hq hz ⟨z, rfl, ?_⟩
  cases z with
  | false =>
    exact oo4 F2 H2 _ (e1.trans e2) s2 (.bl false)
  | true =>
    refine step s2 en2 hE2 oo4 fun F3 H3 c3 d3 u e3 s3 en3 r3 hE3 oo5 => ?_
    obtain ⟨p3, q3, hp3, hq3, oo6⟩ := two_of' (x := d2) e3 s3 r2 r3 oo5
    obtain ⟨z, hz, k⟩ := resB_of oo6 ((e1.trans e2).trans e3) s3
    exact cmp_ok o2 p3 q3 s3.sub hp3 hq3 hz k
theorem e_and {a b : IE} {x y : Expr} {r : List Expr} {p : Pos} (ha : PE X x (tE X.K hld RX W (evE cl gl a))) (hb : PE X (.BoolOp .And (y :: r) p) (tE X.K hld RX W (evE cl gl b))) :
    PE X (.BoolOp .And (x :: y :: r) p) (tE X.K hld RX W (evE cl gl (.and a b))) := by
  refine PE.imp (pe_and ha hb) fun σ H Q ⟨F, G, m, ρ, c, s, en, o⟩ => ?_
  simp only [evE] at o
  refine stepD s en (fun _ _ h => h) o fun F1 H1 c1 d v e1 s1 en1 r1 hE1 o1 => ?_
  split at o1
  · cases r1
    exact ⟨true, rfl, F1, G, m, ρ, c1, s1, en1, o1.imp (fun d c' h F' H' v e' => h F' H' v (e1.trans e')) hE1⟩
  · cases r1
    exact ⟨false, rfl, o1 F1 H1 _ e1 s1 (.bl false)⟩
  · exact o1.elim
theorem e_or {a b : IE} {x y : Expr} {r : List Expr} {p : Pos} (ha : PE X x (tE X.K hld RX W (evE cl gl a))) (hb : PE X (.BoolOp .Or (y :: r) p) (tE X.K hld RX W (evE cl gl b))) :
    PE X (.BoolOp .Or (x :: y :: r) p) (tE X.K hld RX W (evE cl gl (.or a b))) := by
  refine PE.imp (pe_or ha hb) fun σ H Q ⟨F, G, m, ρ, c, s, en, o⟩ => ?_
  simp only [evE] at o
  refine stepD s en (fun _ _ h => h) o fun F1 H1 c1 d v e1 s1 en1 r1 hE1 o1 => ?_
  split at o1
  · cases r1
    exact ⟨true, rfl, o1 F1 H1 _ e1 s1 (.bl true)⟩
  · cases r1
    exact ⟨false, rfl, F1, G, m, ρ, c1, s1, en1, o1.imp (fun d c' h F' H' v e' => h F' H' v (e1.trans e')) hE1⟩
  · exact o1.elim
theorem e_one {a : IE} {x : Expr} {op : BoolOp} {p : Pos} (ha : PE X x (tE X.K hld RX W (evE cl gl a))) : PE X (.BoolOp op [x] p) (tE X.K hld RX W (evE cl gl (.one a))) :=
  PE.imp (pe_one ha) fun σ H Q h => by simpa only [evE] using h
theorem e_ite {t : IT} {a b : IE} {t' a' b' : Expr} {p : Pos} (ht : PT X t' (tT X.K hld RX W (evT cl gl t))) (ha : PE X a' (tE X.K hld RX W (evE cl gl a))) (hb : PE X b' (tE X.K hld RX W (evE cl gl b))) : PE X (.IfExp t' a' b' p) (tE X.K hld RX W (evE cl gl (.ite t a b))) := by
  refine PE.imp (pe_ifExp ht ha hb) fun σ H Q ⟨F, G, m, ρ, c, s, en, o⟩ => ?_
  simp only [evE] at o
  refine stepT s en (fun _ _ h => h) o fun F1 H1 c1 z e1 s1 en1 hE1 o1 => ?_
  cases z with
  | true => exact ⟨F1, G, m, ρ, c1, s1, en1, o1.imp (fun d c' h F' H' v e' => h F' H' v (e1.trans e')) hE1⟩
  | false => exact ⟨F1, G, m, ρ, c1, s1, en1, o1.imp (fun d c' h F' H' v e' => h F' H' v (e1.trans e')) hE1⟩
theorem e_sub {a b : IE} {a' b' : Expr} {p : Pos} (hs : PlainIx b') (ha : PE X a' (tE X.K hld RX W (evE cl gl a))) (hb : PE X b' (tE X.K hld RX W (evE cl gl b))) : PE X (.Subscript a' b' p) (tE X.K hld RX W (evE cl gl (.sub a b))) := by
  refine PE.imp (pe_ix ix_seq ha hb hs) fun σ H Q ⟨F, G, m, ρ, c, s, en, o⟩ => ?_
  simp only [evE] at o
  refine step s en (fun _ _ h => h) o fun F1 H1 c1 d v e1 s1 en1 r1 hE1 o1 => ?_
  refine step s1 en1 hE1 o1 fun F2 H2 c2 d2 w e2 s2 en2 r2 hE2 o2 => ?_
  obtain ⟨p, q, hp, hq, o3⟩ := two_of' e2 s2 r1 r2 o2
  have g := good_of o3 (e1.trans e2)
  have hz := g.gor
  cases hsub : subD p q with
  | none => rw [hsub] at hz; simp at hz
  | some z => exact sub_ok p q s2 hp hq hsub (g.gt z hsub)
theorem e_slice {a : IE} {lo hi : IEo} {a' : Expr} {lo' hi' : Option Expr} {p p2 : Pos} (ha : PE X a' (tE X.K hld RX W (evE cl gl a))) (hl : PO X lo' (tO X.K hld RX W (evO cl gl lo))) (hh : PO X hi' (tO X.K hld RX W (evO cl gl hi))) :
    PE X (.Subscript a' (.Slice lo' hi' none p2) p) (tE X.K hld RX W (evE cl gl (.slice a lo hi))) := by
  refine PE.imp (pe_slice sl_any ha hl hh) fun σ H Q ⟨F, G, m, ρ, c, s, en, o⟩ => ?_
  simp only [evE] at o
  refine step s en (fun _ _ h => h) o fun F1 H1 c1 d v e1 s1 en1 r1 hE1 o1 => ?_
  refine stepO s1 en1 hE1 o1 fun F2 H2 c2 l e2 s2 en2 hE2 o2 => ?_
  refine stepO s2 en2 hE2 o2 fun F3 H3 c3 h e3 s3 en3 hE3 o3 => ?_
  obtain ⟨p, hp, o4⟩ := out_ofO o3
  exact slice_ok p l h s3 (rep_look s3 (r1.mono (e2.trans e3) pfx) hp) (good_of o4 ((e1.trans e2).trans e3))
theorem o_none : PO X none (tO X.K hld RX W (evO cl gl .none)) := PO.imp po_none fun σ H Q ⟨F, G, m, ρ, c, s, en, o⟩ => by
  simp only [evO] at o
  exact o F H (Ex.refl F) s
theorem o_some {a : IE} {a' : Expr} (ha : PE X a' (tE X.K hld RX W (evE cl gl a))) : PO X (some a') (tO X.K hld RX W (evO cl gl (.some a))) := PO.imp (po_some ha) fun σ H Q ⟨F, G, m, ρ, c, s, en, o⟩ => by
  simp only [evO] at o
  refine stepD s en (fun _ _ h => h) o fun F1 H1 c1 d v e1 s1 en1 r1 hE1 o1 => ?_
  split at o1
  · cases r1
    exact ⟨_, rfl, o1 F1 H1 e1 s1⟩
  · exact o1.elim
/-! ### tests -/
theorem t_val {a : IE} {a' : Expr} (he : ∀ whole, isTrue a' X.env whole = (do let v ← whole; standAt a'.pos; holding [v] (truthy v))) (ha : PE X a' (tE X.K hld RX W (evE cl gl a))) : PT X a' (tT X.K hld RX W (evT cl gl (.val a))) := by
  refine PT.imp (pt_truth ha he) fun σ H Q ⟨F, G, m, ρ, c, s, en, o⟩ => ?_
  simp only [evT] at o
  refine stepP s en (fun _ _ h => h) o fun F1 H1 c1 q v e1 s1 en1 r1 hE1 o1 => ?_
  obtain ⟨z, hz, o3⟩ := out_ofO o1
  exact ⟨z, tru_d q s1 r1 hz, o3 F1 H1 e1 s1⟩
theorem t_cmp (C : CxOk X T sc W hld) {op : Cop} {a b : IE} {a' b' : Expr} {p : Pos} (hm : behindInMarks (copOf op) b' = false) (ha : PE X a' (tE X.K hld RX W (evE cl gl a))) (hb : PE X b' (tE X.K hld RX W (evE cl gl b))) :
    PT X (.Compare a' [copOf op] [b'] p) (tT X.K hld RX W (evT cl gl (.val (.cmp op a b)))) := by
  refine PT.imp (pt_cmpR (or_cop C.hu op) ha hb hm) fun σ H Q ⟨F, G, m, ρ, c, s, en, o⟩ => ?_
  simp only [evT, evE, pd, R.bind_assoc] at o
  refine step s en (fun _ _ h => h) o fun F1 H1 c1 d v e1 s1 en1 r1 hE1 o1 => ?_
  refine step s1 en1 hE1 o1 fun F2 H2 c2 d2 w e2 s2 en2 r2 hE2 o2 => ?_
  have o2' := out_bind.mp o2
  obtain ⟨p, q, hp, hq, o3⟩ := two_of' e2 s2 r1 r2 o2'
  cases hz : cmpD op p q with
  | none => rw [hz] at o3; exact o3.elim
  | some z =>
    rw [hz] at o3
    exact cmp_ok op p q s2.sub hp hq hz ⟨z, rfl, o3 F2 H2 (e1.trans e2) s2⟩
theorem t_chain (C : CxOk X T sc W hld) {o1 o2 : Cop} {a b e : IE} {a' b' e' : Expr} {p : Pos} (hm : lastMarks [copOf o1, copOf o2] [b', e'] = false) (ha : PE X a' (tE X.K hld RX W (evE cl gl a))) (hb : PE X b' (tE X.K hld RX W (evE cl gl b))) (he : PE X e' (tE X.K hld RX W (evE cl gl e))) :
    PT X (.Compare a' [copOf o1, copOf o2] [b', e'] p) (tT X.K hld RX W (evT cl gl (.val (.chain o1 o2 a b e)))) := by
  refine PT.imp (pt_chain (or_cop C.hu o1) (or_cop C.hu o2) ha hb he hm) fun σ H Q ⟨F, G, m, ρ, c, s, en, o⟩ => ?_
  simp only [evT, evE, pd, R.bind_assoc] at o
  refine step s en (fun _ _ h => h) o fun F1 H1 c1 d v e1 s1 en1 r1 hE1 oo1 => ?_
  refine step s1 en1 hE1 oo1 fun F2 H2 c2 d2 w e2 s2 en2 r2 hE2 oo2 => ?_
  obtain ⟨p, q, hp, hq, oo3⟩ := two_of' e2 s2 r1 r2 (out_bind.mp oo2)
  obtain ⟨z, hz, oo4⟩ := out_ofO oo3
  refine cmp_ok o1 p q s2.sub hp hq hz ⟨z, rfl, ?_⟩
  cases z with
  | false => exact ⟨false, rfl, oo4 F2 H2 (e1.trans e2) s2⟩
  | true =>
    simp only [if_true] at oo4 ⊢
    refine step s2 en2 hE2 oo4 fun F3 H3 c3 d3 u e3 s3 en3 r3 hE3 oo5 => ?_
    obtain ⟨p3, q3, hp3, hq3, oo6⟩ := two_of' (x := d2) e3 s3 r2 r3 oo5
    cases hz : cmpD o2 p3 q3 with
    | none => rw [hz] at oo6; exact oo6.elim
    | some z =>
      rw [hz] at oo6
      exact cmp_ok o2 p3 q3 s3.sub hp3 hq3 hz ⟨z, rfl, oo6 F3 H3 ((e1.trans e2).trans e3) s3⟩
theorem t_not {t : IT} {t' : Expr} {p : Pos} (ht : PT X t' (tT X.K hld RX W (evT cl gl t))) : PT X (.UnaryOp .Not t' p) (tT X.K hld RX W (evT cl gl (.not t))) := by
  refine PT.imp (pt_not ht) fun σ H Q ⟨F, G, m, ρ, c, s, en, o⟩ => ?_
  simp only [evT] at o
  exact stepT s en (fun _ _ h => h) o fun F1 H1 c1 z e1 s1 en1 hE1 o1 => o1 F1 H1 e1 s1
theorem w_and {a b : IT} {x y : Expr} {r : List Expr} {p : Pos} (ha : PT X x (tT X.K hld RX W (evT cl gl a))) (hb : PW X (.BoolOp .And (y :: r) p) (tT X.K hld RX W (evT cl gl b))) : PW X (.BoolOp .And (x :: y :: r) p) (tT X.K hld RX W (evT cl gl (.and a b))) :=
  ⟨fun whole pins s' σ H Q I ⟨F, G, m, ρ, c, s, en, o⟩ => (pw_and ha hb).run whole pins s' σ H Q I (by
    simp only [evT] at o
    refine stepT s en (fun _ _ h => h) o fun F1 H1 c1 z e1 s1 en1 hE1 o1 => ?_
    cases z with
    | true => exact ⟨F1, G, m, ρ, c1, s1, en1, o1.imp (fun d c' h F' H' e' => h F' H' (e1.trans e')) hE1⟩
    | false => exact o1 F1 H1 e1 s1)⟩
theorem w_or {a b : IT} {x y : Expr} {r : List Expr} {p : Pos} (ha : PT X x (tT X.K hld RX W (evT cl gl a))) (hb : PW X (.BoolOp .Or (y :: r) p) (tT X.K hld RX W (evT cl gl b))) : PW X (.BoolOp .Or (x :: y :: r) p) (tT X.K hld RX W (evT cl gl (.or a b))) :=
  ⟨fun whole pins s' σ H Q I ⟨F, G, m, ρ, c, s, en, o⟩ => (pw_or ha hb).run whole pins s' σ H Q I (by
    simp only [evT] at o
    refine stepT s en (fun _ _ h => h) o fun F1 H1 c1 z e1 s1 en1 hE1 o1 => ?_
    cases z with
    | true => exact o1 F1 H1 e1 s1
    | false => exact ⟨F1, G, m, ρ, c1, s1, en1, o1.imp (fun d c' h F' H' e' => h F' H' (e1.trans e')) hE1⟩)⟩
theorem w_one_and {a : IT} {x : Expr} {p : Pos} (ha : PT X x (tT X.K hld RX W (evT cl gl a))) : PW X (.BoolOp .And [x] p) (tT X.K hld RX W (evT cl gl (.one a))) :=
  ⟨fun whole pins s' σ H Q I h => (pw_and1 ha).run whole pins s' σ H Q I (by simpa only [tT, evT] using h)⟩
theorem w_one_or {a : IT} {x : Expr} {p : Pos} (ha : PT X x (tT X.K hld RX W (evT cl gl a))) : PW X (.BoolOp .Or [x] p) (tT X.K hld RX W (evT cl gl (.one a))) :=
  ⟨fun whole pins s' σ H Q I h => (pw_or1 ha).run whole pins s' σ H Q I (by simpa only [tT, evT] using h)⟩
end
end SK

/-! SK7: argument lists, displays, calls. -/
namespace SK
open PySem PySem.Spec PyProof.Rows L2
open Evl (Ex)
theorem star_of {e : Expr} {es : List Expr} {env : Env} (h : pl e = true) : starEach (e :: es) env = (false, eval e env) :: starEach es env := by
  cases e <;> first | rfl | (simp [pl] at h)
theorem nostars {pos : Pos} {env : Env} : ∀ {es : List Expr}, es.all pl = true → (backTo pos (starEach es env)).any (·.1) = false
  | [], _ => rfl
  | e :: es, h => by
    rw [List.all_cons, Bool.and_eq_true] at h
    rw [star_of h.1]
    show (false || (backTo pos (starEach es env)).any (·.1)) = false
    rw [Bool.false_or]
    exact nostars h.2
theorem maEs_pl {X : Tx} {sc : Scope} : ∀ {i : IEs} {es : List Expr}, maEs X sc i es = true → es.all pl = true
  | .nil, [], _ => rfl
  | .nil, _ :: _, h => by simp [maEs] at h
  | .cons _ _, [], h => by simp [maEs] at h
  | .cons a b, e :: es, h => by
    simp only [maEs, Bool.and_eq_true] at h
    rw [List.all_cons, maE_pl h.1, maEs_pl h.2]; rfl
section
variable {K : PySem.W.Frag} {hld : Held} {RX : RXT} {W : WX} {X : Cx} {T : Tx} {sc : Scope} {cl : Nat → List D → S → R D} {gl : Nat → Option PyData}
variable {G F : Hp} {m : List Addr} {H : Hp} {c : S}
theorem RepS.D (r : RepS K hld F m d v) : RepD K hld G F m H d v := by
  cases d with
  | t => exact r
  | own => exact r.elim
  | ref => exact r
  | scr => exact r
  | err => exact r
theorem frz_idem {d : SK.D} {v : V} (r : RepS K hld F m d v) : frz d = d := by
  cases d with
  | t => rfl
  | own => exact r.elim
  | ref => rfl
  | scr => rfl
  | err => rfl
theorem PairS.mono {F' : Hp} (e : Ex F F') : ∀ {ds : List SK.D} {vs : List V}, Paired (RepS K hld F m) ds vs → Paired (RepS K hld F' m) ds vs
  | _, _, .nil => .nil
  | _, _, .cons a b => .cons (a.mono e pfx) (PairS.mono e b)
theorem allT_ok : ∀ {ds : List SK.D} {vs : List V} {qs : List PyData}, Paired (RepS K hld F m) ds vs → allT ds = some qs → DqAll K F vs qs
  | _, _, _, .nil, h => by cases h; exact .nil
  | _, _, _, .cons (a := d) a b, h => by
    unfold allT at h
    cases hd : tvD d with
    | none => rw [hd] at h; cases h
    | some q =>
      rw [hd] at h
      simp only [Option.bind_some, Option.map_eq_some_iff] at h
      obtain ⟨qs, h2, rfl⟩ := h
      refine .cons ?_ (allT_ok b h2)
      unfold tvD at hd
      rw [frz_idem a] at hd
      split at hd
      · cases hd; exact a
      · cases hd
theorem lookAll_ok (s : StOk K G F m H c) : ∀ {ds : List SK.D} {vs : List V} {qs : List PyData}, Paired (RepS K hld F m) ds vs → lookAll ds c = some qs → Paired (RdD K F H) vs qs
  | _, _, _, .nil, h => by cases h; exact .nil
  | _, _, _, .cons (a := d) a b, h => by
    unfold lookAll at h
    cases hd : look d c with
    | none => rw [hd] at h; cases h
    | some q =>
      rw [hd] at h
      simp only [Option.bind_some, Option.map_eq_some_iff] at h
      obtain ⟨qs, h2, rfl⟩ := h
      exact .cons (rep_look s a hd) (lookAll_ok s b h2)
theorem a_nil : PA X [] (tA X.K hld RX W (evA cl gl .nil)) := PA.imp pa_nil fun σ H Q ⟨F, G, m, ρ, c, s, en, o⟩ => by
  simp only [evA] at o
  exact o F H [] (Ex.refl F) s .nil
theorem a_cons {a : IE} {as : IEs} {e : Expr} {es : List Expr} (hp : pl e = true) (ha : PE X e (tE X.K hld RX W (evE cl gl a))) (hs : PA X es (tA X.K hld RX W (evA cl gl as))) : PA X (e :: es) (tA X.K hld RX W (evA cl gl (.cons a as))) :=
  PA.imp (pa_cons ha hs (star_of hp)) fun σ H Q ⟨F, G, m, ρ, c, s, en, o⟩ => by
    simp only [evA] at o
    refine step s en (fun _ _ h => h) o fun F1 H1 c1 d v e1 s1 en1 r1 hE1 o1 => ?_
    refine stepA s1 en1 hE1 o1 fun F2 H2 c2 ds vs e2 s2 en2 r2 hE2 o2 => ?_
    exact o2 F2 H2 (v :: vs) (e1.trans e2) s2 (.cons (r1.mono e2 pfx) r2)
theorem e_tup {as : IEs} {es : List Expr} {k : Nat} {p : Pos} (h : PA X es (tA X.K hld RX W (evA cl gl as))) : PE X (.Tuple es k p) (tE X.K hld RX W (evE cl gl (.tup as))) :=
  PE.imp (pe_tup h) fun σ H Q ⟨F, G, m, ρ, c, s, en, o⟩ => by
    simp only [evE] at o
    refine stepA s en (fun _ _ h => h) o fun F1 H1 c1 ds vs e1 s1 en1 r1 hE1 o1 => ?_
    obtain ⟨qs, hq, o2⟩ := out_ofO o1
    have hd := allT_ok r1 hq
    split at o2
    · rename_i hz
      refine ⟨by rw [hd.len]; exact szOk_le hz, fun p hp => ?_⟩
      have hF := none_sub s1.sub hp
      exact o2 (upd F1 p (.tup vs)) _ _ (e1.trans (ex_upd hF)) (s1.new hp) (.tup (.inl (.inl upd_same)) (hd.mono (ex_upd hF)))
    · exact o2.elim
theorem e_lst {as : IEs} {es : List Expr} {p : Pos} (h : PA X es (tA X.K hld RX W (evA cl gl as))) : PE X (.List es p) (tE X.K hld RX W (evE cl gl (.lst as))) :=
  PE.imp (pe_lst h) fun σ H Q ⟨F, G, m, ρ, c, s, en, o⟩ => by
    simp only [evE] at o
    refine stepA s en (fun _ _ h => h) o fun F1 H1 c1 ds vs e1 s1 en1 r1 hE1 o1 => ?_
    obtain ⟨qs, hq, o2⟩ := out_ofO o1
    have hd := allT_ok r1 hq
    split at o2
    · rename_i hz
      refine ⟨by rw [hd.len]; exact szOk_le hz, fun p hp => ?_⟩
      exact o2 F1 _ _ e1 (s1.newH hp) ⟨p, vs, rfl, upd_same, none_sub s1.sub hp, s1.out hp, none_sub s1.gs hp, hd⟩
    · exact o2.elim

/-! ### built-in functions -/
theorem pe_bi (C : CxOk X T sc W hld) (hh : T.hot = false) {b : Bi} {e : Expr} {es : List Expr} {t : TA} {p pos : Pos} (hes : (e :: es).all pl = true) (hg : isGl sc (biName b) = true) (ha : PA X (e :: es) t) : PE X (.Call (.Name (biName b) p) (e :: es) [] pos) (tCB (rBi X.K b) t) := by
  obtain ⟨g1, g2, g3⟩ := isGl_ok C hg
  rw [List.all_cons, Bool.and_eq_true] at hes
  have h1 := star_of (es := es) (env := X.env) hes.1
  have h2 := nostars (pos := pos) (env := X.env) hes.2
  cases b with
  | len => exact pe_callB call_len g1 (C.blt _ (by decide)) PySem.boot_len ha g3 g2 h1 h2
  | abs => exact pe_callB call_abs g1 (C.blt _ (by decide)) PyProof.Rows.boot_abs ha g3 g2 h1 h2
  | int => exact pe_callTy call_int1 g1 (C.blt _ (by decide)) PyProof.Rows.boot_int ha g3 g2 h1 h2
  | min2 => exact pe_callB (call_min2 (C.calm hh)) g1 (C.blt _ (by decide)) PyProof.Rows.boot_min ha g3 g2 h1 h2
  | max2 => exact pe_callB (call_max2 (C.calm hh)) g1 (C.blt _ (by decide)) PyProof.Rows.boot_max ha g3 g2 h1 h2
  | sum => exact pe_callB (cr_sum (C.calm hh)) g1 (C.blt _ (by decide)) PyProof.Rows.boot_sum ha g3 g2 h1 h2
  | tuple => exact pe_callTy call_tuple_of g1 (C.blt _ (by decide)) PyProof.Rows.boot_tuple ha g3 g2 h1 h2
  | list => exact pe_callTy call_list_of g1 (C.blt _ (by decide)) PyProof.Rows.boot_list ha g3 g2 h1 h2
  | all => exact pe_callB (cr_all (C.calm hh)) g1 (C.blt _ (by decide)) PyProof.Rows.boot_all ha g3 g2 h1 h2
  | any => exact pe_callB (cr_any (C.calm hh)) g1 (C.blt _ (by decide)) PyProof.Rows.boot_any ha g3 g2 h1 h2
  | ord => exact pe_callB call_ord g1 (C.blt _ (by decide)) PyProof.Rows.boot_ord ha g3 g2 h1 h2
  | sorted => exact pe_callB (r := fun _ _ _ => False) (fun _ _ _ _ _ _ _ _ _ h => h.elim) g1 (C.blt _ (by decide)) (show bootBuiltins "sorted" = some (.builtin "sorted") by decide +kernel) ha g3 g2 h1 h2
  | str => exact pe_callTy call_str_int g1 (C.blt _ (by decide)) PyProof.Rows.boot_str ha g3 g2 h1 h2
theorem biD_nil (b : Bi) : biD b [] = none ∧ biL b [] = none := by cases b <;> exact ⟨rfl, rfl⟩
theorem e_bi (C : CxOk X T sc W hld) (hh : T.hot = false) {b : Bi} {as : IEs} {es : List Expr} {p pos : Pos} (hes : es.all pl = true) (hg : isGl sc (biName b) = true) (ha : PA X es (tA X.K hld RX W (evA cl gl as))) (h0 : es = [] → as = .nil) : PE X (.Call (.Name (biName b) p) es [] pos) (tE X.K hld RX W (evE cl gl (.bi b as))) := by
  cases es with
  | nil =>
    rw [h0 rfl]
    refine ⟨fun pins s σ H Q I ⟨F, G, m, ρ, c, st, en, o⟩ => ?_⟩
    simp only [evE, evA, R.bind, lookAll, ofO, (biD_nil b).1, (biD_nil b).2, resT] at o
    exact o.elim
  | cons e es =>
    refine PE.imp (pe_bi C hh hes hg ha) fun σ H Q ⟨F, G, m, ρ, c, s, en, o⟩ => ?_
    simp only [evE] at o
    refine stepA s en (fun _ _ h => h) o fun F1 H1 c1 ds vs e1 s1 en1 r1 hE1 o1 => ?_
    obtain ⟨qs, hq, o2⟩ := out_ofO o1
    exact bi_ok b s1 (lookAll_ok s1 r1 hq) (good_of o2 e1)

/-! ### defs of one's own -/
def spOf (K : PySem.W.Frag) (RX : RXT) (n : Nat) (f : List SK.D → S → R SK.D) : Sp := fun vs H Q E => ∃ F G m c ds, vs.length = n ∧ StOk K G F m H c ∧ Paired (RepS K noHeld F m) ds vs ∧
  Out (f ds c) (PD K noHeld G F m Q) (fun e c' => ∀ F' H' cls dd, Ex F F' → StOk K G F' m H' c' → RX e.cls e.fs cls dd F' → E cls dd H')
structure CallOk (X : Cx) (RX : RXT) (x : Str) (f : List SK.D → S → R SK.D) : Prop where
  ex : ∃ (a : Addr) (fd : FuncData) (ps : List Str) (lv : Nat), FnOk X.prog X.w X.K X.mg X.base (L2.CX X.prog X.w) lv a fd ps (spOf X.K RX ps.length f) ∧ Room lv X.A ∧ X.mg x = some (.ref a) ∧ PySem.W.keepIn X.K (.ref a) = true ∧ Binds X.K fd ps [] ∧ ∀ ds c, ds.length ≠ ps.length → f ds c = .no
theorem pe_callS0 {CX : CXT} {k : Nat} {f : Addr} {fd : FuncData} {ps : List Str} {sp : Sp} {E : L2.St → XK} {x : Str} {p pos : Pos} (F : FnOk X.prog X.w X.K X.mg X.base CX k f fd ps sp) (hr : Room k X.A) (hg : Gl X x) (hm : X.mg x = some (.ref f)) (hk : PySem.W.keepIn X.K (.ref f) = true) (hb : Binds X.K fd ps []) (hx : ∀ σ, PassesAt CX X σ (E σ))
    (hdb : (x == ("__debug__" : Str)) = false) : PE X (.Call (.Name x p) [] [] pos) (tCallS sp E tNil) := by
  refine ⟨fun pins s σ H Q I h => ?_⟩
  refine wpAny_Call_Name_kw (ld_glob I hg hm ?_ hdb)
  exact PySem.W.callWith_K0 I.kIn hk (run_fnS (us := []) F hr hb (hx σ) I .nil h)
theorem out_out {α : Type} {r : R α} {ρ : Rho} {P : α → S → Prop} {E : Exn → S → Prop} : Out (r.out ρ) P E ↔ Out r P (fun e c => E ⟨e.cls, e.fs, ρ⟩ c) := by
  cases r <;> exact Iff.rfl
theorem e_call (C : CxOk X T sc W hld) (hh : T.hot = false) {k : Nat} {x : Str} {as : IEs} {es : List Expr} {p pos : Pos} (hes : es.all pl = true) (hg : isGl sc x = true) (co : CallOk X RX x (cl k)) (ha : PA X es (tA X.K hld RX W (evA cl gl as))) (h0 : es = [] → as = .nil) :
    PE X (.Call (.Name x p) es [] pos) (tE X.K hld RX W (evE cl gl (.call k as))) := by
  obtain ⟨a, fd, ps, lv, Fn, hr, hm, hk, hb, hne⟩ := co.ex
  obtain ⟨g1, g2, g3⟩ := isGl_ok C hg
  obtain rfl := C.nh hh
  cases es with
  | nil =>
    rw [h0 rfl]
    refine PE.imp (pe_callS0 (E := WE W) Fn hr g1 hm hk hb (fun σ => passAt C.takes σ) g2) fun σ H Q ⟨F, G, m, ρ, c, s, en, o⟩ => ?_
    simp only [evE, evA, R.bind] at o
    by_cases hl : ([] : List SK.D).length = ps.length
    · exact ⟨F, G, m, c, [], hl, s, .nil, (out_out.mp o).imp (fun _ _ h => h) fun x c' h F' H' cls dd e s' r => h F' H' cls dd e s' (en.mono e pfx) r⟩
    · rw [hne _ _ hl] at o; exact o.elim
  | cons e es =>
    rw [List.all_cons, Bool.and_eq_true] at hes
    refine PE.imp (pe_callS (E := WE W) Fn hr g1 hm hk hb (fun σ => passAt C.takes σ) ha g2 (star_of hes.1) (nostars hes.2)) fun σ H Q ⟨F, G, m, ρ, c, s, en, o⟩ => ?_
    simp only [evE] at o
    refine stepA s en (fun _ _ h => h) o fun F1 H1 c1 ds vs e1 s1 en1 r1 hE1 o1 => ?_
    by_cases hl : ds.length = ps.length
    · exact ⟨F1, G, m, c1, ds, by rw [← hl]; exact (Paired.length r1).symm, s1, r1, (out_out.mp o1).imp (fun d c' h F' H' v e' => h F' H' v (e1.trans e')) fun x c' h F' H' cls dd e s' r => hE1 _ _ h F' H' cls dd e s' (en1.mono e pfx) r⟩
    · rw [hne _ _ hl] at o1; exact o1.elim

/-! ### methods -/
theorem few1 {e : Expr} {env : Env} {pos : Pos} (hp : pl e = true) : ((backTo pos (starEach [e] env)).all (fun x => !x.1) && (backToKw pos (keywordEach [] env)).all (fun x => x.1.isSome)
      && decide ([e].length + ([] : List Keyword).length + (if ([] : List Keyword).isEmpty then 0 else 1) < 30)) = true := by
  rw [star_of hp]; rfl
theorem base_of {o : Expr} {n : Str} {env : Env} {w : Sem Value} (h : noCall0 o = true) : attributeBase o n env w = w := by
  unfold attributeBase
  split
  · simp [noCall0] at h
  · rfl
theorem e_pop {o a : IE} {o' e' : Expr} {ap cp : Pos} (h0 : noCall0 o' = true) (hl : (ap.endLine == cp.line) = true) (hp : pl e' = true) (ho : PE X o' (tE X.K hld RX W (evE cl gl o))) (ha : PE X e' (tE X.K hld RX W (evE cl gl a))) :
    PE X (.Call (.Attribute o' ("pop" : Str) ap) [e'] [] cp) (tE X.K hld RX W (evE cl gl (.pop0 o a))) := by
  refine PE.imp (pe_bm PySem.F.plainAttrs_list PySem.F.slot_list_pop PySem.F.type_list_pop mt_popAt ho (pa_cons ha pa_nil (star_of hp)) (base_of h0) (few1 hp) hl (star_of hp) rfl) fun σ H Q ⟨F, G, m, ρ, c, s, en, o⟩ => ?_
  simp only [evE] at o
  refine stepD s en (fun _ _ h => h) o fun F1 H1 c1 d v e1 s1 en1 r1 hE1 o1 => ?_
  split at o1
  · rename_i i
    obtain ⟨ad, rfl, hi⟩ := r1
    obtain ⟨_, ds, xs, h1, h2, h3⟩ := s1.cel i ad hi
    refine ⟨.inl ⟨rfl, xs, .inl (.inl h2)⟩, ?_⟩
    refine stepD s1 en1 hE1 o1 fun F2 H2 c2 d2 w e2 s2 en2 r2 hE2 o2 => ?_
    unfold popD at o2
    split at o2
    · cases r2
      split at o2
      · rename_i k hk
        subst hk
        split at o2
        · rename_i y r hc
          obtain ⟨f0, ds', xs', g1, g2, g3⟩ := s2.cel i ad hi
          rw [hc] at g1
          cases g1
          cases g3 with
          | cons ga gb =>
            rename_i yv ys
            refine ⟨ad, yv :: ys, 0, 0, yv, rfl, rfl, g2, by decide, by decide, by simp [seqIndex?], rfl, ?_⟩
            exact o2 F2 _ yv (e1.trans e2) (s2.put hi gb) ga
        · exact o2.elim
      · exact o2.elim
    · exact o2.elim
  · exact o1.elim
theorem e_join {o a : IE} {o' e' : Expr} {ap cp : Pos} (h0 : noCall0 o' = true) (hl : (ap.endLine == cp.line) = true) (hp : pl e' = true) (ho : PE X o' (tE X.K hld RX W (evE cl gl o))) (ha : PE X e' (tE X.K hld RX W (evE cl gl a))) :
    PE X (.Call (.Attribute o' ("join" : Str) ap) [e'] [] cp) (tE X.K hld RX W (evE cl gl (.me .join o a))) := by
  refine PE.imp (pe_bm PySem.F.plainAttrs_str PySem.F.slot_str_join PySem.F.type_str_join mt_join ho (pa_cons ha pa_nil (star_of hp)) (base_of h0) (few1 hp) hl (star_of hp) rfl) fun σ H Q ⟨F, G, m, ρ, c, s, en, o⟩ => ?_
  simp only [evE] at o
  refine stepD s en (fun _ _ h => h) o fun F1 H1 c1 d v e1 s1 en1 r1 hE1 o1 => ?_
  split at o1
  · rename_i z
    cases r1
    refine ⟨rfl, ?_⟩
    refine step s1 en1 hE1 o1 fun F2 H2 c2 d2 w e2 s2 en2 r2 hE2 o2 => ?_
    obtain ⟨q, hq, o3⟩ := out_ofO o2
    have g := good_of o3 (e1.trans e2)
    have rq := rep_look s2 r2 hq
    have go := g.gor
    cases q <;> try (simp [meD] at go; done)
    · obtain ⟨ad, xs, rfl, h1, h2⟩ := rq
      simp only [meD] at g go
      rename_i es
      cases e : strsD es with
      | none => rw [e] at go; simp at go
      | some is =>
        rw [e] at g go
        simp only [Option.bind_some] at g go
        split at g
        · rename_i hz
          exact ⟨z, ad, is, rfl, rfl, .inl (by rw [← h2.strsV e]; exact h1), hz, g.str s2⟩
        · rename_i h
          rw [if_neg h] at go; simp at go
    · obtain ⟨ad, xs, rfl, h1, h2⟩ := rq
      simp only [meD] at g go
      rename_i es
      cases e : strsD es with
      | none => rw [e] at go; simp at go
      | some is =>
        rw [e] at g go
        simp only [Option.bind_some] at g go
        split at g
        · rename_i hz
          exact ⟨z, ad, is, rfl, rfl, .inr (by rw [← h2.strsV e]; exact Evl.ex_t s2.sub h1), hz, g.str s2⟩
        · rename_i h
          rw [if_neg h] at go; simp at go
  · exact o1.elim

/-! ### isinstance -/
theorem ty_boot (t : Ty) : bootBuiltins (tyName t) = some (.type (tyV t)) := by cases t <;> decide +kernel
theorem e_isi (C : CxOk X T sc W hld) {a : IE} {t : Ty} {e' : Expr} {p p2 pos : Pos} (hp : pl e' = true) (hg : isGl sc ("isinstance" : Str) = true) (hg2 : isGl sc (tyName t) = true) (ha : PE X e' (tE X.K hld RX W (evE cl gl a))) :
    PE X (.Call (.Name ("isinstance" : Str) p) [e', .Name (tyName t) p2] [] pos) (tE X.K hld RX W (evE cl gl (.isi a t))) := by
  obtain ⟨g1, g2, g3⟩ := isGl_ok C hg
  obtain ⟨k1, k2, k3⟩ := isGl_ok C hg2
  have hn : X.mg (tyName t) = none := C.blt _ (by cases t <;> decide)
  have h2 : PE X (.Name (tyName t) p2) (tC (.ty (tyV t))) := pe_bltn k1 hn (ty_boot t) rfl k3 k2
  refine PE.imp (pe_callB call_isi g1 (C.blt _ (by decide)) PyProof.Rows.boot_isinstance (pa_cons ha (pa_cons h2 pa_nil) (star_of hp)) g3 g2 (star_of hp) rfl) fun σ H Q ⟨F, G, m, ρ, c, s, en, o⟩ => ?_
  simp only [evE] at o
  refine stepP s en (fun _ _ h => h) o fun F1 H1 c1 q v e1 s1 en1 r1 hE1 o1 => ?_
  obtain ⟨z, hz, k⟩ := resB_of o1 e1 s1
  exact ty_ok q t s1 r1 hz k
end
end SK

/-! SKE: enumerate over a tuple. -/
namespace SK
open PySem PySem.Spec PyProof.Rows L2
set_option maxHeartbeats 1000000 in
theorem meets_enumerate_newB1 {v : Value} {o : Obj} {H : Heap → Prop} (B : Begins v o H) :
    Meets (Builtin.«enumerate.__new__» ⟨[.type "enumerate", v], []⟩) (fun _ R s => H s.heap ∧
      R (.ok (.ret (.ref (s.heap.push o).objs.size))) { s with heap := (s.heap.push o).push { cls := .type "enumerate", data := .fields #[.none, .bool false, .ref s.heap.objs.size, rawInt 0, .none, .none] } }) :=
  .of_wp fun prog w A R s h => by
    obtain ⟨hp, g, d, tk, os⟩ := s; obtain ⟨h1, h⟩ := h
    have hsub := sub_enumerate
    have q1 : ∀ {A' : Around} {E : Value → Shared → Prop} {Q : Value → Shared → Prop}, Q (.ref hp.objs.size) ⟨hp.push o, g, d, tk, os⟩ → wpAny (model prog w) A' (pyIter v) Q E ⟨hp, g, d, tk, os⟩ :=
      fun q => B.iter prog w _ _ ⟨hp, g, d, tk, os⟩ _ h1 q
    wp_walk using q1
    refine wpAny_stack_any fun st => wpAny_pure ?_
    split
    · rename_i c _ _ _ _ _
      cases (c == Value.type "enumerate")
      · wp_walk using q1
        exact ⟨_, rfl, h⟩
      · wp_walk using q1
        exact ⟨_, rfl, h⟩
    · wp_walk using q1
      exact ⟨_, rfl, h⟩
section
variable {prog : Program} {w : World} {A : Around} {E : Value → Shared → Prop} {s : Shared}
theorem call_enumB {v : Value} {o : Obj} {H : Heap → Prop} {Q : Value → Shared → Prop} (B : Begins v o H) (h1 : H s.heap)
    (h : ∀ h', IsEnum h' (s.heap.objs.size + 1) s.heap.objs.size 0 .none → h'.get? s.heap.objs.size = some o → h'.objs.size = s.heap.objs.size + 2 →
      (∀ b o, s.heap.get? b = some o → h'.get? b = some o) → Q (.ref (s.heap.objs.size + 1)) { s with heap := h' }) :
    wpAny (model prog w) A (call (.type "enumerate") [v]) Q E s := by
  refine callType_new F.called_enumerate (by decide) (F.typeCall_enumerate_1 _) (F.newCall_enumerate_1 _) (fun obj => F.args_object_init_2 obj _) F.entry_enumerate_new
    (meets_enumerate_newB1 B) ⟨h1, ?_⟩
  have hz : (s.heap.push o).objs.size = s.heap.objs.size + 1 := Heap.size_push ..
  show _ ∧ _
  rw [hz]
  have he : IsEnum ((s.heap.push o).push { cls := .type "enumerate", data := .fields #[.none, .bool false, .ref s.heap.objs.size, rawInt 0, .none, .none] }) (s.heap.objs.size + 1) s.heap.objs.size 0 .none := by
    have := Heap.get?_push_size (s.heap.push o) (o := { cls := .type "enumerate", data := .fields #[.none, .bool false, .ref s.heap.objs.size, rawInt 0, .none, .none] }) rfl
    rw [hz] at this; exact this
  refine ⟨⟨_, he, rfl⟩, h _ he (Heap.get?_push_of_some _ (Heap.get?_push_size _ B.free)) (by rw [Heap.size_push, hz]) fun b o x => Heap.get?_push_of_some _ (Heap.get?_push_of_some _ x)⟩
theorem enum_endT {e it l : Addr} {i : Nat} {items : Array Value} {old : Value} {Q : Option Value → Shared → Prop} (hh : A.handled = none)
    (he : IsEnum s.heap e it i old) (hit : s.heap.IsTupleIter it l i) (hl : s.heap.IsTuple l items) (hx : items[i]? = none)
    (hQ : ∀ h', Heap.ExtBut it s.heap h' → Q none { s with heap := h' }) : wpAny (model prog w) A (pyNext (.ref e)) Q E s := by
  have hT : s.TypeIs (.ref e) "enumerate" := ⟨_, he, rfl⟩
  unfold pyNext
  refine wpAny_bind (wpAny_attempt (wpAny_callSpecial?_slot (name := Str.ofString "__next__") hT F.slot_enumerate_next
    (wpAny_call_entry F.slot_enumerate_next hT F.entry_enumerate_next ?_ (F.args_enumerate_next_1 _))))
  show wpAny _ _ (field (.ref e) 2 >>= _) _ _ _
  refine wpAny_bind (wpAny_field he rfl (x := .ref it) rfl ?_)
  refine wpAny_bind (wpAny_nextOf_tuple_end hh hit hl hx fun h' x he' hx' => ?_)
  obtain ⟨o, ho, hc⟩ := hx'
  refine wpAny_bind (wpAny_isInstance (T := "StopIteration") (b := true) ⟨o, ho, hc⟩ isSubtype_stop ?_)
  exact wpAny_pure (hQ _ he')
end
/-- enumerate over a tuple at a -/
def IteT (K : PySem.W.Frag) (a : Addr) : It :=
  ⟨fun i H => ∃ (xs : List V) (x : V), SqT K H a xs ∧ xs[i]? = some x, fun i H v H' => ∃ T x, v = .ref T ∧ H T = none ∧ H' = upd H T (.tup [.int (i : Nat), x]) ∧ ∀ xs, SqT K H a xs → xs[i]? = some x, fun i H => ∃ xs : List V, SqT K H a xs ∧ xs.length ≤ i⟩
theorem turn_enumT {P : Program} {w : World} {K : PySem.W.Frag} {elts : List Expr} {kk : Nat} {tpos : Pos} (a e it : Addr) :
    Turn P w K (.Tuple elts kk tpos) (IteT K a) [e, it] e (fun i h => (∃ old, IsEnum h e it ((i : Nat) : Int) old) ∧ h.IsTupleIter it a i ∧ e ≠ it ∧ a ≠ it ∧ a ≠ e) where
  mem := by simp
  obj := fun i h st b hb => by
    obtain ⟨⟨old, he⟩, ⟨o, ho, hc, hd⟩, _⟩ := st
    have e' : b = e ∨ b = it := by simpa using hb
    rcases e' with z | z
    · rw [z]; exact ⟨_, he, fun v q => nomatch q⟩
    · rw [z]; exact ⟨o, ho, fun v q => by rw [hd] at q; cases q⟩
  keep := fun i h h' st k => let ⟨⟨old, he⟩, hi, hne⟩ := st; ⟨⟨old, k e (by simp) _ he⟩, hi.at fun o q => k it (by simp) o q, hne⟩
  item := by
    intro X hP hw hK hc i pins s σ H E I hf st hg
    subst hP hw hK
    obtain ⟨⟨old, he⟩, hit, hne, hat, hae⟩ := st
    obtain ⟨xs, x, hq, hx⟩ := hg
    obtain ⟨its, rv, p, hz⟩ := I.tuple hq
    obtain ⟨u, hu, ru⟩ := rv.get hx
    have hel : e < s.heap.objs.size := Heap.lt_size he
    have hil : it < s.heap.objs.size := by obtain ⟨_, q, _⟩ := hit; exact Heap.lt_size q
    have hlt : i < its.toArray.size := by
      have := (List.getElem?_eq_some_iff.mp hu).1
      simpa using this
    have D := Draws.tuple (prog := X.prog) (w := X.w) (A := X.A.in1) (I.ok.hd hc) it a hat its.toArray
    refine wpAny_pyNext_enum_itemD D he ⟨hit, p⟩ hlt hne (by simp [Ne.symm hae, hne]) fun y h' tk hy ho hit' hT hsz hk => ?_
    have hyu : y = u := by
      have : its.toArray[i]? = some u := by simpa using hu
      exact Option.some.inj (hy.symm.trans this)
    subst hyu
    refine ⟨_, rfl, wpAny_letOwnedTupleGo_enum (s := { s with heap := h', toks := tk + 1 }) ho fun h'' he' sb => ?_⟩
    have hT2 : h''.get? s.heap.objs.size = some { cls := .type "tuple", data := .seq #[.int i tk, y] } := (sb.2 _ (Nat.ne_of_gt hel)).trans hT
    have new : ObjOk X.prog X.w (upd H s.heap.objs.size (.tup [.int (i : Nat), x])) h'' s.heap.objs.size (.tup [.int (i : Nat), x]) :=
      ⟨by show 2 ≤ sizeLine; decide, [.int i tk, y], .cons ⟨_, rfl⟩ (.cons ru .nil), ⟨_, hT2, rfl, _, rfl⟩⟩
    have I1 : Inv X pins σ (upd H s.heap.objs.size (.tup [.int (i : Nat), x])) { s with heap := h'', toks := tk + 1 } :=
      I.turnedNew (ch := [e, it]) (fun b ob hb q => (sb.2 b (fun z => hb (by simp [z]))).trans (hk b ob (fun z => hb (by simp [z])) (fun z => hb (by simp [z])) q)) hf (Nat.le_refl _) new
    refine ⟨.ref s.heap.objs.size, _, I1, rfl, ⟨_, x, rfl, I.hok.fresh (Nat.le_refl _), rfl, fun ys hy => by rw [I.tuple_inj hy hq]; exact hx⟩, ⟨⟨y, ?_⟩, hit'.1.at fun o q => (sb.2 it (Ne.symm hne)).trans q, hne, hat, hae⟩, fun b hb => ?_⟩
    · have e1 : ((i + 1 : Nat) : Int) = (i : Int) + 1 := by omega
      rw [e1]; exact he'
    · have hb' : b < s.heap.objs.size := by
        have e' : b = e ∨ b = it := by simpa using hb
        rcases e' with z | z
        · rw [z]; exact hel
        · rw [z]; exact hil
      rw [upd_ne (Nat.ne_of_lt hb')]
      exact (hf b hb).1
  done := by
    intro X hP hw hK hc i pins s σ H E I hf st hg
    subst hP hw hK
    obtain ⟨⟨old, he⟩, hit, hne, hat, hae⟩ := st
    obtain ⟨xs, hq, hx⟩ := hg
    obtain ⟨its, rv, p, hz⟩ := I.tuple hq
    obtain ⟨f0, f1, f2, f3, f4, f5⟩ := hf it (by simp)
    have hl := rv.length
    exact enum_endT (A := X.A) (I.ok.hd hc) he hit p (by simp; omega) fun h' eb => ⟨rfl, I.turned (t' := s.toks) (fun b o hb q => eb b o hb q) f0 f1 f3 f4 f5⟩
  self := fun A i s Q E st h => let ⟨⟨_, he⟩, _⟩ := st; wpAny_pyIter_enum he h
def iEnumT (K : PySem.W.Frag) (ta : TA) : TI := fun σ H R => ta σ H fun vs H1 => ∃ a xs, vs = [.ref a] ∧ SqT K H1 a xs ∧ R (IteT K a) H1
theorem pi_enumT {X : Cx} {e : Expr} {ta : TA} {p pos tpos : Pos} {elts : List Expr} {kk : Nat} (hg : Gl X "enumerate") (hm : X.mg "enumerate" = none) (ha : PA X [e] ta) (hs : starEach [e] X.env = [(false, eval e X.env)]) :
    PI X (.Tuple elts kk tpos) (.Call (.Name "enumerate" p) [e] [] pos) (iEnumT X.K ta) := by
  refine ⟨fun pins s σ H R I h => ?_⟩
  refine Call_ (ld_blt I hg hm boot_enumerate (PyProof.Rows.callWith_type1 (thn (ha.run pos pins s σ H _ I h) fun us s1 ⟨vs, H1, I1, r1, q1⟩ => ?_) hs rfl))
  obtain ⟨a, xs, ex, hq, q⟩ := q1
  subst ex
  cases r1 with
  | cons r rr =>
    cases rr
    cases r
    obtain ⟨its, rv, p', hz⟩ := I1.tuple hq
    have hal : a < s1.heap.objs.size := by
      obtain ⟨_, q, _⟩ := p'
      exact Heap.lt_size q
    refine call_enumB (begins_tuple a its.toArray) p' fun h' he hit hsz hk => wpAny_pyIter_enum he ?_
    have I2 : Inv X pins σ H1 { s1 with heap := h' } := I1.kept (t' := s1.toks) hk
    refine ⟨s1.heap.objs.size + 1, [s1.heap.objs.size + 1, s1.heap.objs.size], _, _, H1, rfl, I2, turn_enumT a (s1.heap.objs.size + 1) s1.heap.objs.size, ⟨⟨.none, he⟩, ⟨_, hit, rfl, rfl⟩, Nat.succ_ne_self _, Nat.ne_of_lt hal, Nat.ne_of_lt (Nat.lt_succ_of_lt hal)⟩, fun b hb => ?_, q⟩
    have e' : b = s1.heap.objs.size + 1 ∨ b = s1.heap.objs.size := by simpa using hb
    have hle : s1.heap.objs.size ≤ b := by
      rcases e' with z | z
      · rw [z]; exact Nat.le_add_right _ _
      · rw [z]; exact Nat.le_refl _
    exact I1.fpOk hle (I1.hok.fresh hle)
end SK

/-! SK8: targets, what is walked, comprehensions. -/
namespace SK
open PySem PySem.Spec PyProof.Rows L2
open Evl (Ex)
open RZ (ItzT pi_zipA iZipA)
/-! ### targets -/
def lenTgs : Tgs → Nat
  | .nil => 0
  | .cons _ ts => lenTgs ts + 1
mutual
def gD (K : PySem.W.Frag) : Tg → TG
  | .one i => gName i
  | .many ts => gTup K (lenTgs ts) (gDs K ts)
def gDs (K : PySem.W.Frag) : Tgs → TGs
  | .nil => gNil
  | .cons t ts => gCons (gD K t) (gDs K ts)
end
theorem tg_shape {T : Tx} {sc : Scope} {t : Tg} {e : Expr} (h : maTg T sc t e = true) : ∀ es env, assignEach (e :: es) env = (false, assign e env) :: assignEach es env := by
  intro es env
  cases t with
  | one i => cases e <;> first | rfl | (simp [maTg, maName] at h)
  | many ts => cases e <;> first | rfl | (simp [maTg] at h)
theorem tgs_shape {T : Tx} {sc : Scope} : ∀ {ts : Tgs} {es : List Expr}, maTgs T sc ts es = true → ∀ env, (assignEach es env).length = lenTgs ts ∧ (assignEach es env).findIdx? (·.1) = none
  | .nil, [], _, _ => ⟨rfl, rfl⟩
  | .nil, _ :: _, h, _ => by simp [maTgs] at h
  | .cons _ _, [], h, _ => by simp [maTgs] at h
  | .cons t ts, e :: es, h, env => by
    simp only [maTgs, Bool.and_eq_true] at h
    obtain ⟨h1, h2⟩ := tgs_shape h.2 env
    rw [tg_shape h.1 es env]
    refine ⟨by rw [List.length_cons, h1]; rfl, ?_⟩
    rw [List.findIdx?_cons, h2]; rfl
theorem setTgs_len : ∀ {ts : Tgs} {ds : List PyData} {ρ ρ1 : Rho}, setTgs ts ds ρ = some ρ1 → ds.length = lenTgs ts
  | .nil, [], _, _, _ => rfl
  | .nil, _ :: _, _, _, h => by simp [setTgs] at h
  | .cons _ _, [], _, _, h => by simp [setTgs] at h
  | .cons t ts, d :: ds, ρ, ρ1, h => by
    simp only [setTgs] at h
    cases h1 : setTg t d ρ with
    | none => rw [h1] at h; cases h
    | some ρ2 =>
      rw [h1] at h
      rw [List.length_cons, setTgs_len h]; rfl
theorem wipe_at (σ : L2.St) (j : Nat) : ∀ vs : List Nat, (L2.wipe σ vs)[j]? = if j ∈ vs then (if j < σ.length then some none else none) else σ[j]?
  | [] => by simp [L2.wipe]
  | v :: vs => by
    unfold L2.wipe
    by_cases hj : v = j
    · subst hj
      simp only [List.mem_cons, true_or, if_true]
      by_cases hl : v < σ.length
      · rw [List.getElem?_set_self (by rw [wipe_length]; exact hl), if_pos hl]
      · rw [if_neg hl, List.getElem?_eq_none (by rw [List.length_set, wipe_length]; omega)]
    · rw [List.getElem?_set_ne hj, wipe_at σ j vs]
      have : (j ∈ v :: vs) = (j ∈ vs) := by simp [Ne.symm hj]
      simp only [this]
theorem wipe_set {σ : L2.St} {i : Nat} {x : Option V} {vs : List Nat} (h : i ∈ vs) : L2.wipe (σ.set i x) vs = L2.wipe σ vs := by
  apply List.ext_getElem?
  intro j
  rw [wipe_at, wipe_at, List.length_set]
  by_cases hj : j ∈ vs
  · rw [if_pos hj, if_pos hj]
  · rw [if_neg hj, if_neg hj]
    exact List.getElem?_set_ne (fun e => hj (by rw [← e]; exact h))
theorem wipe_wipe (σ : L2.St) (vs : List Nat) : L2.wipe (L2.wipe σ vs) vs = L2.wipe σ vs := by
  apply List.ext_getElem?
  intro j
  rw [wipe_at, wipe_at, wipe_length]
  by_cases hj : j ∈ vs
  · rw [if_pos hj, if_pos hj]
  · rw [if_neg hj, if_neg hj]
theorem tg_shapeF {T : Tx} {sc : Scope} {t : Tg} {e : Expr} (h : maTgF T sc t e = true) : ∀ es env, assignEach (e :: es) env = (false, assign e env) :: assignEach es env := by
  intro es env
  cases t with
  | one i => cases e <;> first | rfl | (simp [maTgF, maNameF] at h)
  | many ts => cases e <;> first | rfl | (simp [maTgF] at h)
theorem tgs_shapeF {T : Tx} {sc : Scope} : ∀ {ts : Tgs} {es : List Expr}, maTgsF T sc ts es = true → ∀ env, (assignEach es env).length = lenTgs ts ∧ (assignEach es env).findIdx? (·.1) = none
  | .nil, [], _, _ => ⟨rfl, rfl⟩
  | .nil, _ :: _, h, _ => by simp [maTgsF] at h
  | .cons _ _, [], h, _ => by simp [maTgsF] at h
  | .cons t ts, e :: es, h, env => by
    simp only [maTgsF, Bool.and_eq_true] at h
    obtain ⟨h1, h2⟩ := tgs_shapeF h.2 env
    rw [tg_shapeF h.1 es env]
    refine ⟨by rw [List.length_cons, h1]; rfl, ?_⟩
    rw [List.findIdx?_cons, h2]; rfl
theorem isLocF_ok {X : Cx} {sc : Scope} {x : Str} (hs : X.env.scope = sc) (h : isLocF sc x = true) : Loc X.env.scope x := by
  rw [hs]
  unfold isLocF at h
  simp only [Bool.or_eq_true, decide_eq_true_eq] at h
  exact h
mutual
theorem pg_okF {X : Cx} {T : Tx} {sc : Scope} (hN : X.N = T.N) (nd : X.N.Nodup) (hs : X.env.scope = sc) (calm : X.calm = true) (hfn : ∀ x, X.fn x = true) : ∀ {t : Tg} {e : Expr}, maTgF T sc t e = true → PG X e (gD X.K t)
  | .one i, e, h => by
    cases e <;> simp [maTgF, maNameF] at h
    rename_i x p
    obtain ⟨⟨h1, h2⟩, h3⟩ := h
    simp only [gD]
    exact pg_name nd (by rw [hN]; exact h1) (isLocF_ok hs h2) (.inl (hfn x))
  | .many ts, e, h => by
    cases e <;> simp [maTgF] at h
    obtain ⟨h1, h2⟩ := tgs_shapeF h X.env
    simp only [gD]
    exact pg_tup calm (pgs_okF hN nd hs calm hfn h) h1 h2
theorem pgs_okF {X : Cx} {T : Tx} {sc : Scope} (hN : X.N = T.N) (nd : X.N.Nodup) (hs : X.env.scope = sc) (calm : X.calm = true) (hfn : ∀ x, X.fn x = true) : ∀ {ts : Tgs} {es : List Expr}, maTgsF T sc ts es = true → PGs X es (gDs X.K ts)
  | .nil, es, h => by
    cases es <;> simp [maTgsF] at h
    simp only [gDs]
    exact pgs_nil
  | .cons t ts, es, h => by
    cases es with
    | nil => simp [maTgsF] at h
    | cons e es =>
      simp only [maTgsF, Bool.and_eq_true] at h
      simp only [gDs]
      exact pgs_cons (pg_okF hN nd hs calm hfn h.1) (pgs_okF hN nd hs calm hfn h.2) (by rw [tg_shapeF h.1 es X.env]; rfl)
end
section
variable {K : PySem.W.Frag} {hld : Held} {RX : RXT} {W : WX} {X : Cx} {T : Tx} {sc : Scope} {cl : Nat → List D → S → R D} {gl : Nat → Option PyData}
mutual
theorem pg_ok (hN : X.N = T.N) (nd : X.N.Nodup) (hs : X.env.scope = sc) (calm : X.calm = true) : ∀ {t : Tg} {e : Expr}, maTg T sc t e = true → PG X e (gD X.K t)
  | .one i, e, h => by
    cases e <;> simp [maTg, maName] at h
    rename_i x p
    obtain ⟨⟨h1, h2⟩, h3⟩ := h
    have hl : X.env.scope.names.lookup x = some .local := by
      rw [hs]; exact of_decide_eq_true h2
    simp only [gD]
    exact pg_name nd (by rw [hN]; exact h1) (.inl hl) (.inr hl)
  | .many ts, e, h => by
    cases e <;> simp [maTg] at h
    obtain ⟨h1, h2⟩ := tgs_shape h X.env
    simp only [gD]
    exact pg_tup calm (pgs_ok hN nd hs calm h) h1 h2
theorem pgs_ok (hN : X.N = T.N) (nd : X.N.Nodup) (hs : X.env.scope = sc) (calm : X.calm = true) : ∀ {ts : Tgs} {es : List Expr}, maTgs T sc ts es = true → PGs X es (gDs X.K ts)
  | .nil, es, h => by
    cases es <;> simp [maTgs] at h
    simp only [gDs]
    exact pgs_nil
  | .cons t ts, es, h => by
    cases es with
    | nil => simp [maTgs] at h
    | cons e es =>
      simp only [maTgs, Bool.and_eq_true] at h
      simp only [gDs]
      exact pgs_cons (pg_ok hN nd hs calm h.1) (pgs_ok hN nd hs calm h.2) (by rw [tg_shape h.1 es X.env]; rfl)
end
mutual
theorem gD_ok {G F : Hp} {m : List Addr} {H : Hp} {c : S} (s : StOk K G F m H c) : ∀ (t : Tg) {v : V} {d : PyData} {σ : L2.St} {ρ ρ1 : Rho} {Q : L2.St → Hp → Prop}, EnvOk K hld F m σ ρ → Dq K F v d → setTg t d ρ = some ρ1 →
    (∀ σ1, EnvOk K hld F m σ1 ρ1 → (∀ vs, (∀ i ∈ slotsOf t, i ∈ vs) → L2.wipe σ1 vs = L2.wipe σ vs) → Q σ1 H) → gD K t v σ H Q
  | .one i, v, d, σ, ρ, ρ1, Q, en, r, h, k => by
    cases h
    simp only [gD]
    refine k _ (en.set i (d := .t d) r) fun vs hv => ?_
    exact wipe_set (hv i (by simp [slotsOf]))
  | .many ts, v, d, σ, ρ, ρ1, Q, en, r, h, k => by
    cases d <;> try (simp [setTg] at h; done)
    cases r with
    | tup hs ha =>
      simp only [setTg] at h
      simp only [gD]
      refine ⟨_, _, rfl, Evl.ex_t s.sub hs, ?_, gDs_ok s ts en ha h fun σ1 e1 w1 => k σ1 e1 fun vs hv => w1 vs (by simpa [slotsOf] using hv)⟩
      rw [ha.len]
      exact setTgs_len h
theorem gDs_ok {G F : Hp} {m : List Addr} {H : Hp} {c : S} (s : StOk K G F m H c) : ∀ (ts : Tgs) {vs : List V} {ds : List PyData} {σ : L2.St} {ρ ρ1 : Rho} {Q : L2.St → Hp → Prop}, EnvOk K hld F m σ ρ → DqAll K F vs ds → setTgs ts ds ρ = some ρ1 →
    (∀ σ1, EnvOk K hld F m σ1 ρ1 → (∀ ws, (∀ i ∈ slotsOfs ts, i ∈ ws) → L2.wipe σ1 ws = L2.wipe σ ws) → Q σ1 H) → gDs K ts vs σ H Q
  | .nil, vs, ds, σ, ρ, ρ1, Q, en, r, h, k => by
    cases ds with
    | nil =>
      cases h
      cases r
      simp only [gDs]
      exact ⟨rfl, k σ en fun _ _ => rfl⟩
    | cons => simp [setTgs] at h
  | .cons t ts, vs, ds, σ, ρ, ρ1, Q, en, r, h, k => by
    cases ds with
    | nil => simp [setTgs] at h
    | cons d ds =>
      cases r with
      | cons r1 r2 =>
        simp only [setTgs] at h
        cases h1 : setTg t d ρ with
        | none => rw [h1] at h; cases h
        | some ρ2 =>
          rw [h1] at h
          simp only [gDs]
          refine ⟨_, _, rfl, gD_ok s t en r1 h1 fun σ2 e2 w2 => gDs_ok s ts e2 r2 h fun σ3 e3 w3 => k σ3 e3 fun ws hw => ?_⟩
          rw [w3 ws (fun i hi => hw i (by simp [slotsOfs, hi])), w2 ws (fun i hi => hw i (by simp [slotsOfs, hi]))]
end

/-! ### what is walked -/
/-- an iterator gives these items, at any later state -/
structure ItOk (K : PySem.W.Frag) (F : Hp) (items : List PyData) (J : It) : Prop where
  go : ∀ (i : Nat) (x : PyData), items[i]? = some x → ∀ (G F' : Hp) m' H' c', Ex F F' → StOk K G F' m' H' c' → J.go i H' ∧ ∀ v H'', J.yld i H' v H'' → ∃ F'', Ex F' F'' ∧ Ex H' H'' ∧ StOk K G F'' m' H'' c' ∧ Dq K F'' v x
  stop : ∀ (G F' : Hp) m' H' c', Ex F F' → StOk K G F' m' H' c' → J.stop items.length H'
theorem ItOk.list {F : Hp} {a : Addr} {xs : List V} {ds : List PyData} (h : Rd F a (.lst xs)) (hd : DqAll K F xs ds) : ItOk K F ds (Itl K a) := by
  refine ⟨fun i x hx G F' m' H' c' e s => ?_, fun G F' m' H' c' e s => ⟨xs, .inl (Evl.ex_rd (e.trans s.sub) h), by rw [hd.len]; exact Nat.le_refl _⟩⟩
  obtain ⟨v, hv, r⟩ := hd.get hx
  have hq : SqL K H' a xs := .inl (Evl.ex_rd (e.trans s.sub) h)
  refine ⟨⟨xs, v, hq, hv⟩, fun w H'' hy => ?_⟩
  obtain ⟨rfl, hw⟩ := hy
  have := hw xs hq
  rw [hv] at this; cases this
  exact ⟨F', Ex.refl F', Ex.refl _, s, Dq.mono e _ r⟩
theorem ItOk.tup {F : Hp} {a : Addr} {xs : List V} {ds : List PyData} (h : SqT K F a xs) (hd : DqAll K F xs ds) : ItOk K F ds (Itt K a) := by
  refine ⟨fun i x hx G F' m' H' c' e s => ?_, fun G F' m' H' c' e s => ⟨xs, Evl.ex_t (e.trans s.sub) h, by rw [hd.len]; exact Nat.le_refl _⟩⟩
  obtain ⟨v, hv, r⟩ := hd.get hx
  have hq : SqT K H' a xs := Evl.ex_t (e.trans s.sub) h
  refine ⟨⟨xs, v, hq, hv⟩, fun w H'' hy => ?_⟩
  obtain ⟨rfl, hw⟩ := hy
  have := hw xs hq
  rw [hv] at this; cases this
  exact ⟨F', Ex.refl F', Ex.refl _, s, Dq.mono e _ r⟩
theorem ItOk.str {F : Hp} {z : Str} : ItOk K F (z.cps.toList.map fun c => .str ⟨#[c]⟩) (Its z) := by
  refine ⟨fun i x hx G F' m' H' c' e s => ?_, fun G F' m' H' c' e s => ?_⟩
  · rw [List.getElem?_map] at hx
    cases hc : z.cps.toList[i]? with
    | none => rw [hc] at hx; cases hx
    | some cc =>
      rw [hc] at hx; cases hx
      have hl : i < z.cps.size := by
        have := (List.getElem?_eq_some_iff.mp hc).1
        simpa using this
      refine ⟨hl, fun w H'' hy => ?_⟩
      obtain ⟨rfl, c2, h2, rfl⟩ := hy
      have : c2 = cc := by
        rw [Array.getElem?_toList] at hc
        rw [hc] at h2; cases h2; rfl
      subst this
      exact ⟨F', Ex.refl F', Ex.refl _, s, .str _⟩
  · show z.cps.size ≤ _
    rw [List.length_map, Array.length_toList]
    exact Nat.le_refl _
theorem ItOk.rng {F : Hp} {lo : Int} {n : Nat} : ItOk K F (rngD lo n) (Itr lo n) := by
  refine ⟨fun i x hx G F' m' H' c' e s => ?_, fun G F' m' H' c' e s => ?_⟩
  · unfold rngD at hx
    rw [List.getElem?_map] at hx
    by_cases hl : i < n
    · rw [List.getElem?_range hl] at hx
      cases hx
      refine ⟨hl, fun w H'' hy => ?_⟩
      obtain ⟨rfl, rfl⟩ := hy
      exact ⟨F', Ex.refl F', Ex.refl _, s, .int _⟩
    · rw [List.getElem?_eq_none (by rw [List.length_range]; omega)] at hx; cases hx
  · show n ≤ _
    unfold rngD
    rw [List.length_map, List.length_range]
    exact Nat.le_refl _
theorem zipD_get : ∀ {ds es : List PyData} {i : Nat} {x : PyData}, (zipD ds es)[i]? = some x → ∃ a b, ds[i]? = some a ∧ es[i]? = some b ∧ x = .tuple [a, b]
  | [], es, i, x, h => by cases es <;> simp [zipD] at h
  | _ :: _, [], i, x, h => by simp [zipD] at h
  | a :: as, b :: bs, 0, x, h => by
    simp [zipD] at h; subst h; exact ⟨a, b, rfl, rfl, rfl⟩
  | a :: as, b :: bs, i + 1, x, h => by
    simp only [zipD, List.getElem?_cons_succ] at h
    simpa using zipD_get h
theorem zipD_len : ∀ {ds es : List PyData}, ds.length ≤ (zipD ds es).length ∨ es.length ≤ (zipD ds es).length
  | [], es => .inl (Nat.zero_le _)
  | _ :: _, [] => .inr (Nat.zero_le _)
  | a :: as, b :: bs => by
    simp only [zipD, List.length_cons]
    rcases zipD_len (ds := as) (es := bs) with h | h
    · exact .inl (by omega)
    · exact .inr (by omega)
theorem pairNew {G F' : Hp} {m' : List Addr} {H' : Hp} {c' : S} {Ta : Addr} {v w : V} {a b : PyData} (s : StOk K G F' m' H' c') (hT : H' Ta = none) (r1 : Dq K F' v a) (r2 : Dq K F' w b) :
    ∃ F'', Ex F' F'' ∧ Ex H' (upd H' Ta (.tup [v, w])) ∧ StOk K G F'' m' (upd H' Ta (.tup [v, w])) c' ∧ Dq K F'' (.ref Ta) (.tuple [a, b]) := by
  have hF := none_sub s.sub hT
  exact ⟨upd F' Ta (.tup [v, w]), ex_upd hF, Ex.new hT, s.new hT, .tup (.inl (.inl upd_same)) (.cons (Dq.mono (ex_upd hF) _ r1) (.cons (Dq.mono (ex_upd hF) _ r2) .nil))⟩
theorem ItOk.zipL {F : Hp} {a b : Addr} {xs ys : List V} {ds es : List PyData} (h : Rd F a (.lst xs)) (hd : DqAll K F xs ds) (h' : Rd F b (.lst ys)) (he : DqAll K F ys es) : ItOk K F (zipD ds es) (Itz K a b) := by
  refine ⟨fun i x hx G F' m' H' c' e s => ?_, fun G F' m' H' c' e s => ⟨xs, ys, .inl (Evl.ex_rd (e.trans s.sub) h), .inl (Evl.ex_rd (e.trans s.sub) h'), by rw [hd.len, he.len]; exact zipD_len⟩⟩
  obtain ⟨p, q, hp, hq, rfl⟩ := zipD_get hx
  obtain ⟨v, hv, r⟩ := hd.get hp
  obtain ⟨w, hw, r'⟩ := he.get hq
  have q1 : SqL K H' a xs := .inl (Evl.ex_rd (e.trans s.sub) h)
  have q2 : SqL K H' b ys := .inl (Evl.ex_rd (e.trans s.sub) h')
  refine ⟨⟨xs, ys, v, w, q1, q2, hv, hw⟩, fun u H'' hy => ?_⟩
  obtain ⟨Ta, x1, x2, rfl, hT, rfl, f1, f2⟩ := hy
  have := f1 xs q1; rw [hv] at this; cases this
  have := f2 ys q2; rw [hw] at this; cases this
  exact pairNew s hT (Dq.mono e _ r) (Dq.mono e _ r')
theorem ItOk.zipT {F : Hp} {a b : Addr} {xs ys : List V} {ds es : List PyData} (h : SqT K F a xs) (hd : DqAll K F xs ds) (h' : SqT K F b ys) (he : DqAll K F ys es) : ItOk K F (zipD ds es) (ItzT K a b) := by
  refine ⟨fun i x hx G F' m' H' c' e s => ?_, fun G F' m' H' c' e s => ⟨xs, ys, Evl.ex_t (e.trans s.sub) h, Evl.ex_t (e.trans s.sub) h', by rw [hd.len, he.len]; exact zipD_len⟩⟩
  obtain ⟨p, q, hp, hq, rfl⟩ := zipD_get hx
  obtain ⟨v, hv, r⟩ := hd.get hp
  obtain ⟨w, hw, r'⟩ := he.get hq
  have q1 : SqT K H' a xs := Evl.ex_t (e.trans s.sub) h
  have q2 : SqT K H' b ys := Evl.ex_t (e.trans s.sub) h'
  refine ⟨⟨xs, ys, v, w, q1, q2, hv, hw⟩, fun u H'' hy => ?_⟩
  obtain ⟨Ta, x1, x2, rfl, hT, rfl, f1, f2⟩ := hy
  have := f1 xs q1; rw [hv] at this; cases this
  have := f2 ys q2; rw [hw] at this; cases this
  exact pairNew s hT (Dq.mono e _ r) (Dq.mono e _ r')
theorem enumD_get : ∀ {ds : List PyData} {n i : Nat} {x : PyData}, (enumD n ds)[i]? = some x → ∃ a, ds[i]? = some a ∧ x = .tuple [.int ((n + i : Nat) : Int), a]
  | [], n, i, x, h => by simp [enumD] at h
  | a :: as, n, 0, x, h => by
    simp [enumD] at h; subst h; exact ⟨a, rfl, rfl⟩
  | a :: as, n, i + 1, x, h => by
    simp only [enumD, List.getElem?_cons_succ] at h
    obtain ⟨b, hb, rfl⟩ := enumD_get h
    refine ⟨b, by simpa using hb, ?_⟩
    rw [show n + 1 + i = n + (i + 1) by omega]
theorem enumD_len : ∀ {ds : List PyData} {n : Nat}, (enumD n ds).length = ds.length
  | [], _ => rfl
  | a :: as, n => by simp [enumD, enumD_len (ds := as)]
theorem ItOk.enumL {F : Hp} {a : Addr} {xs : List V} {ds : List PyData} (h : Rd F a (.lst xs)) (hd : DqAll K F xs ds) : ItOk K F (enumD 0 ds) (Ite K a) := by
  refine ⟨fun i x hx G F' m' H' c' e s => ?_, fun G F' m' H' c' e s => ⟨xs, .inl (Evl.ex_rd (e.trans s.sub) h), by rw [hd.len, enumD_len]; exact Nat.le_refl _⟩⟩
  obtain ⟨p, hp, rfl⟩ := enumD_get hx
  obtain ⟨v, hv, r⟩ := hd.get hp
  have q1 : SqL K H' a xs := .inl (Evl.ex_rd (e.trans s.sub) h)
  refine ⟨⟨xs, v, q1, hv⟩, fun u H'' hy => ?_⟩
  obtain ⟨Ta, x1, rfl, hT, rfl, f1⟩ := hy
  have := f1 xs q1; rw [hv] at this; cases this
  rw [Nat.zero_add]
  exact pairNew s hT (.int _) (Dq.mono e _ r)
theorem ItOk.enumT {F : Hp} {a : Addr} {xs : List V} {ds : List PyData} (h : SqT K F a xs) (hd : DqAll K F xs ds) : ItOk K F (enumD 0 ds) (IteT K a) := by
  refine ⟨fun i x hx G F' m' H' c' e s => ?_, fun G F' m' H' c' e s => ⟨xs, Evl.ex_t (e.trans s.sub) h, by rw [hd.len, enumD_len]; exact Nat.le_refl _⟩⟩
  obtain ⟨p, hp, rfl⟩ := enumD_get hx
  obtain ⟨v, hv, r⟩ := hd.get hp
  have q1 : SqT K H' a xs := Evl.ex_t (e.trans s.sub) h
  refine ⟨⟨xs, v, q1, hv⟩, fun u H'' hy => ?_⟩
  obtain ⟨Ta, x1, rfl, hT, rfl, f1⟩ := hy
  have := f1 xs q1; rw [hv] at this; cases this
  rw [Nat.zero_add]
  exact pairNew s hT (.int _) (Dq.mono e _ r)
/-- the reading of what is walked -/
def tIt (K : PySem.W.Frag) (hld : Held) (RX : RXT) (W : WX) (ev : Rho → S → R (List PyData)) : TI := fun σ H P => ∃ F G m ρ c, StOk K G F m H c ∧ EnvOk K hld F m σ ρ ∧ Out (ev ρ c) (fun items c' => ∀ F' H' J, Ex F F' → StOk K G F' m H' c' → ItOk K F' items J → P J H') (ExP K hld RX W G F m σ)
theorem PI.imp {X : Cx} {tg e : Expr} {t t' : TI} (h : PI X tg e t) (hi : ∀ σ H Q, t' σ H Q → t σ H Q) : PI X tg e t' := ⟨fun pins s σ H Q I q => h.run pins s σ H Q I (hi σ H Q q)⟩
theorem i_rng1 (C : CxOk X T sc W hld) {a : IE} {tg e' : Expr} {p pos : Pos} (hp : pl e' = true) (hg : isGl sc ("range" : Str) = true) (ha : PE X e' (tE X.K hld RX W (evE cl gl a))) : PI X tg (.Call (.Name ("range" : Str) p) [e'] [] pos) (tIt X.K hld RX W (evI cl gl (.rng1 a))) := by
  obtain ⟨g1, g2, g3⟩ := isGl_ok C hg
  refine PI.imp (pi_range1 g1 (C.blt _ (by decide)) (pa_cons ha pa_nil (star_of hp)) (star_of hp)) fun σ H Q ⟨F, G, m, ρ, c, s, en, o⟩ => ?_
  simp only [evI] at o
  refine stepD s en (fun _ _ h => h) o fun F1 H1 c1 d v e1 s1 en1 r1 hE1 o1 => ?_
  split at o1
  · rename_i n
    cases r1
    split at o1
    · rename_i hn
      exact ⟨n, rfl, hn.1, hn.2, o1 F1 H1 _ e1 s1 .rng⟩
    · exact o1.elim
  · exact o1.elim
theorem i_rng2 (C : CxOk X T sc W hld) {a b : IE} {tg a' b' : Expr} {p pos : Pos} (hp : pl a' = true) (hp2 : pl b' = true) (hg : isGl sc ("range" : Str) = true) (ha : PE X a' (tE X.K hld RX W (evE cl gl a))) (hb : PE X b' (tE X.K hld RX W (evE cl gl b))) :
    PI X tg (.Call (.Name ("range" : Str) p) [a', b'] [] pos) (tIt X.K hld RX W (evI cl gl (.rng2 a b))) := by
  obtain ⟨g1, g2, g3⟩ := isGl_ok C hg
  refine PI.imp (pi_range2 g1 (C.blt _ (by decide)) (pa_cons ha (pa_cons hb pa_nil (star_of hp2)) (star_of hp)) (by rw [star_of hp, star_of hp2]; rfl) (star_of hp2)) fun σ H Q ⟨F, G, m, ρ, c, s, en, o⟩ => ?_
  simp only [evI] at o
  refine step s en (fun _ _ h => h) o fun F1 H1 c1 d v e1 s1 en1 r1 hE1 o1 => ?_
  refine step s1 en1 hE1 o1 fun F2 H2 c2 d2 v2 e2 s2 en2 r2 hE2 o2 => ?_
  split at o2
  · rename_i n k
    cases r1
    cases r2
    split at o2
    · rename_i hn
      exact ⟨n, k, rfl, hn, o2 F2 H2 _ (e1.trans e2) s2 .rng⟩
    · exact o2.elim
  · exact o2.elim
theorem i_seq {a : IE} {tg e' : Expr} (ha : PE X e' (tE X.K hld RX W (evE cl gl a))) : PI X tg e' (tIt X.K hld RX W (evI cl gl (.seq a))) := by
  refine ⟨fun pins s' σ H Q I ⟨F, G, m, ρ, c, s, en, o⟩ => ?_⟩
  simp only [evI] at o
  cases hE : evE cl gl a ρ c with
  | no => rw [hE] at o; exact o.elim
  | ex x c' =>
    rw [hE] at o
    exact (pi_list ha).run pins s' σ H Q I ⟨F, G, m, ρ, c, s, en, by rw [hE]; exact o⟩
  | ok d c1 =>
    rw [hE] at o
    obtain ⟨q, hq, o1⟩ := out_ofO (out_bind.mp o)
    obtain ⟨xs, hx, o2⟩ := out_ofO o1
    have key : ∀ {P : V → Hp → Prop}, (∀ F1 H1 v, Ex F F1 → StOk X.K G F1 m H1 c1 → Dq X.K F1 v q → P v H1) → tE X.K hld RX W (evE cl gl a) σ H P := fun {P} k => ⟨F, G, m, ρ, c, s, en, by
      rw [hE]
      refine fun F' H' v e s2 r => ?_
      obtain ⟨F2, e2, s3, r2⟩ := rep_frz s2 r
      unfold tvD at hq
      split at hq
      · rename_i q' e4
        cases hq
        rw [e4] at r2
        exact k F2 H' v (e.trans e2) s3 r2
      · cases hq⟩
    cases q <;> try (simp [itemsD] at hx; done)
    · cases hx
      exact (pi_str ha).run pins s' σ H Q I (key fun F1 H1 v e s1 r => by
        cases r
        exact ⟨_, rfl, o2 F1 H1 _ e s1 .str⟩)
    · cases hx
      exact (pi_list ha).run pins s' σ H Q I (key fun F1 H1 v e s1 r => by
        cases r with
        | lst h1 h2 => exact ⟨_, rfl, ⟨_, .inl (Evl.ex_rd s1.sub h1)⟩, o2 F1 H1 _ e s1 (.list h1 h2)⟩)
    · cases hx
      exact (pi_tup ha).run pins s' σ H Q I (key fun F1 H1 v e s1 r => by
        cases r with
        | tup h1 h2 => exact ⟨_, rfl, ⟨_, Evl.ex_t s1.sub h1⟩, o2 F1 H1 _ e s1 (.tup h1 h2)⟩)
theorem i_zip (C : CxOk X T sc W hld) {a b : IE} {elts : List Expr} {kk : Nat} {tpos : Pos} {a' b' : Expr} {p pos : Pos} (hp : pl a' = true) (hp2 : pl b' = true) (hg : isGl sc ("zip" : Str) = true) (ha : PE X a' (tE X.K hld RX W (evE cl gl a))) (hb : PE X b' (tE X.K hld RX W (evE cl gl b))) :
    PI X (.Tuple elts kk tpos) (.Call (.Name ("zip" : Str) p) [a', b'] [] pos) (tIt X.K hld RX W (evI cl gl (.zip a b))) := by
  obtain ⟨g1, g2, g3⟩ := isGl_ok C hg
  refine PI.imp (pi_zipA g1 (C.blt _ (by decide)) (pa_cons ha (pa_cons hb pa_nil (star_of hp2)) (star_of hp)) (star_of hp) (by rw [star_of hp2]; rfl)) fun σ H Q ⟨F, G, m, ρ, c, s, en, o⟩ => ?_
  simp only [evI] at o
  refine step s en (fun _ _ h => h) o fun F1 H1 c1 d v e1 s1 en1 r1 hE1 o1 => ?_
  refine step s1 en1 hE1 o1 fun F2 H2 c2 d2 v2 e2 s2 en2 r2 hE2 o2 => ?_
  split at o2
  · rename_i xs ys h1 h2
    rw [h1] at r1
    rw [h2] at r2
    have r1 := Dq.mono e2 _ r1
    cases r1 with
    | lst p1 p2 => cases r2 with
      | lst q1 q2 => exact ⟨_, _, _, _, rfl, .inl ⟨.inl (Evl.ex_rd s2.sub p1), .inl (Evl.ex_rd s2.sub q1), o2 F2 H2 _ (e1.trans e2) s2 (.zipL p1 p2 q1 q2)⟩⟩
  · rename_i xs ys h1 h2
    rw [h1] at r1
    rw [h2] at r2
    have r1 := Dq.mono e2 _ r1
    cases r1 with
    | tup p1 p2 => cases r2 with
      | tup q1 q2 => exact ⟨_, _, _, _, rfl, .inr ⟨Evl.ex_t s2.sub p1, Evl.ex_t s2.sub q1, o2 F2 H2 _ (e1.trans e2) s2 (.zipT p1 p2 q1 q2)⟩⟩
  · exact o2.elim
theorem i_enum (C : CxOk X T sc W hld) {a : IE} {elts : List Expr} {kk : Nat} {tpos : Pos} {a' : Expr} {p pos : Pos} (hp : pl a' = true) (hg : isGl sc ("enumerate" : Str) = true) (ha : PE X a' (tE X.K hld RX W (evE cl gl a))) :
    PI X (.Tuple elts kk tpos) (.Call (.Name ("enumerate" : Str) p) [a'] [] pos) (tIt X.K hld RX W (evI cl gl (.enum a))) := by
  obtain ⟨g1, g2, g3⟩ := isGl_ok C hg
  have pl1 := pi_enum (tpos := tpos) (elts := elts) (kk := kk) (pos := pos) (p := p) g1 (C.blt _ (by decide)) (pa_cons ha pa_nil (star_of hp)) (star_of hp)
  have pl2 := pi_enumT (tpos := tpos) (elts := elts) (kk := kk) (pos := pos) (p := p) g1 (C.blt _ (by decide)) (pa_cons ha pa_nil (star_of hp)) (star_of hp)
  refine ⟨fun pins s' σ H Q I ⟨F, G, m, ρ, c, s, en, o⟩ => ?_⟩
  simp only [evI] at o
  cases hE : evE cl gl a ρ c with
  | no => rw [hE] at o; exact o.elim
  | ex x c' =>
    rw [hE] at o
    exact pl1.run pins s' σ H Q I ⟨F, G, m, ρ, c, s, en, by rw [hE]; exact o⟩
  | ok d c1 =>
    rw [hE] at o
    obtain ⟨q, hq, o1⟩ := out_ofO (out_bind.mp o)
    have key : ∀ {P : V → Hp → Prop}, (∀ F1 H1 v, Ex F F1 → StOk X.K G F1 m H1 c1 → Dq X.K F1 v q → P v H1) → tE X.K hld RX W (evE cl gl a) σ H P := fun {P} k => ⟨F, G, m, ρ, c, s, en, by
      rw [hE]
      refine fun F' H' v e s2 r => ?_
      obtain ⟨F2, e2, s3, r2⟩ := rep_frz s2 r
      unfold tvD at hq
      split at hq
      · rename_i q' e4
        cases hq
        rw [e4] at r2
        exact k F2 H' v (e.trans e2) s3 r2
      · cases hq⟩
    cases q <;> try exact o1.elim
    · exact pl1.run pins s' σ H Q I (key fun F1 H1 v e s1 r => by
        cases r with
        | lst h1 h2 => exact ⟨_, _, rfl, .inl (Evl.ex_rd s1.sub h1), o1 F1 H1 _ e s1 (.enumL h1 h2)⟩)
    · exact pl2.run pins s' σ H Q I (key fun F1 H1 v e s1 r => by
        cases r with
        | tup h1 h2 => exact ⟨_, _, rfl, Evl.ex_t s1.sub h1, o1 F1 H1 _ e s1 (.enumT h1 h2)⟩)
end
end SK

/-! SK9: comprehensions; every expression. -/
namespace SK
open PySem PySem.Spec PyProof.Rows L2
open Evl (Ex)
abbrev W0 : WX := fun _ _ _ _ => False
theorem out_nox {α : Type} {r : R α} {P : α → S → Prop} {E : Exn → S → Prop} (h : Out (nox r) P E) : Out r P (fun _ _ => False) := by
  cases r <;> exact h
theorem own_slots (T : Tx) (tg : Tg) : (ownOf T tg).map (·.2) = slotsOf tg := by
  unfold ownOf
  rw [List.map_map]
  exact List.map_id' _
section
variable {hld : Held} {RX : RXT} {W : WX} {X : Cx} {T : Tx} {sc : Scope} {cl : Nat → List D → S → R D} {gl : Nat → Option PyData}
/-- one turn of a comprehension -/
def cTurn (cl : Nat → List D → S → R D) (gl : Nat → Option PyData) (e : IE) (tg : Tg) (cond : ITo) (ρ : Rho) : PyData → S → R (Option PyData) := fun x c2 =>
  ofO (setTg tg x (wipeD ρ (slotsOf tg))) fun ρ1 => (evC cl gl cond ρ1 c2).bind fun b c3 => if b then (tv (evE cl gl e ρ1 c3)).bind fun y c4 => .ok (some y) c4 else .ok none c3
theorem e_comp (C : CxOk X T sc W hld) (hh : T.hot = false) {e : IE} {it : II} {tg : Tg} {cond : ITo} {e' tg' it' : Expr} {ifs : List Expr} {scope : Scope} {pos : Pos} (hit : pl it' = true)
    (hI : PI X tg' it' (tIt X.K hld RX W (evI cl gl it))) (hb : blkC T.N sc scope (ownOf T tg) = true)
    (hg : ∀ (s : Shared) (H : Hp) (Cc : Addr) (clo : List (Str × Addr)) (fp : List Addr), PG (X.blk s H scope (compEnvC scope clo Cc X.env) fp) tg' (gD X.K tg))
    (ht : ∀ (s : Shared) (H : Hp) (Cc : Addr) (clo : List (Str × Addr)) (fp : List Addr), PTs (X.blk s H scope (compEnvC scope clo Cc X.env) fp) ifs (tT X.K hld RX W0 (evC cl gl cond)))
    (he : ∀ (s : Shared) (H : Hp) (Cc : Addr) (clo : List (Str × Addr)) (fp : List Addr), PE (X.blk s H scope (compEnvC scope clo Cc X.env) fp) e' (tE X.K hld RX W0 (evE cl gl e))) :
    PE X (.ListComp e' [⟨tg', it', ifs, 0⟩] scope pos) (tE X.K hld RX W (evE cl gl (.comp e tg it cond))) ∧
    ∀ {i : Nat} {y : Str} {py : Pos} {spos : Pos}, X.N[i]? = some y → X.env.scope.names.lookup y = some .local → swapsWith (.ListComp e' [⟨tg', it', ifs, 0⟩] scope pos) (some (.Name y py)) spos.line X.env = pure true →
      PS X (.Assign [.Name y py] (.ListComp e' [⟨tg', it', ifs, 0⟩] scope pos) spos) (tAsg (tE X.K hld RX W (evE cl gl (.comp e tg it cond))) (gName i)) := by
  have hfold : ∀ x, foldedSetIterable it' X.env x = pure x := fun x => by
    cases it' <;> first | rfl | (simp [pl] at hit)
  have ok : BlkOk X.N X.env.scope scope (ownOf T tg) := by
    rw [C.N, C.sc]; exact blkOk_by hb
  have core : ∀ σ H Q, tE X.K hld RX W (evE cl gl (.comp e tg it cond)) σ H Q → tLc (tIt X.K hld RX W (evI cl gl it)) (gD X.K tg) (tT X.K hld RX W0 (evC cl gl cond)) (tE X.K hld RX W0 (evE cl gl e)) ((ownOf T tg).map (·.2)) σ H Q := by
    intro σ H Q ⟨F, G, m, ρ, c, s, en, o⟩
    rw [own_slots]
    simp only [evE] at o
    refine ⟨F, G, m, ρ, c, s, en, (out_bind.mp o).imp (fun items c1 h F' H' J e0 s' Jk => ?_) (fun _ _ h => h)⟩
    intro Dl hD
    have h := out_nox (out_bind.mp h)
    refine ⟨fun i mm H2 => i + mm = items.length ∧ ∃ F2 acc xs c2, Ex F' F2 ∧ StOk X.K G F2 m H2 c2 ∧ H2 Dl = some (.lst xs) ∧ F2 Dl = none ∧ Dl ∉ m ∧ G Dl = none ∧ DqAll X.K F2 xs acc ∧
      Out (compL (cTurn cl gl e tg cond ρ) (items.drop i) acc c2) (fun ds c5 => PD X.K hld G F m Q (.own ds) c5) (fun _ _ => False),
      ⟨items.length, by omega, F', [], [], c1, Ex.refl F', s'.newH hD, upd_same, none_sub s'.sub hD, s'.out hD, none_sub s'.gs hD, .nil, ?_⟩, fun i mm H2 hW => ?_⟩
    · exact h
    · obtain ⟨hi, F2, acc, xs, c2, e2, s2, hDl, hF, hm, hG, hd, ho⟩ := hW
      by_cases hlt : i < items.length
      · obtain ⟨x, hx⟩ : ∃ x, items[i]? = some x := ⟨_, List.getElem?_eq_getElem hlt⟩
        -- the list that grows is protected
        have sG2 : StOk X.K (upd G Dl (.lst xs)) F2 m H2 c2 := ⟨s2.sub, s2.len, s2.nd, s2.cel, fun a u ea => by
              by_cases ha : a = Dl
              · subst ha; rw [upd_same] at ea; rw [← ea]; exact hDl
              · rw [upd_ne ha] at ea; exact s2.gs a u ea, fun a u ea => by
              by_cases ha : a = Dl
              · subst ha; exact ⟨hF, hm⟩
              · rw [upd_ne ha] at ea; exact s2.gf a u ea⟩
        obtain ⟨hgo, hy⟩ := Jk.go i x hx (upd G Dl (.lst xs)) F2 m H2 c2 e2 sG2
        refine .inr ⟨hgo, fun H3 => ∃ m', m' < mm ∧ ((i + 1) + m' = items.length ∧ ∃ F2 acc xs c2, Ex F' F2 ∧ StOk X.K G F2 m H3 c2 ∧ H3 Dl = some (.lst xs) ∧ F2 Dl = none ∧ Dl ∉ m ∧ G Dl = none ∧ DqAll X.K F2 xs acc ∧
          Out (compL (cTurn cl gl e tg cond ρ) (items.drop (i + 1)) acc c2) (fun ds c5 => PD X.K hld G F m Q (.own ds) c5) (fun _ _ => False)), fun H3 h3 => h3, fun v H3 hv => ?_⟩
        obtain ⟨F3, e3, eH, sG, rv⟩ := hy v H3 hv
        have hD3 : H3 Dl = some (.lst xs) := eH _ _ hDl
        have hdrop : items.drop i = x :: items.drop (i + 1) := by
          rw [List.drop_eq_getElem_cons hlt]
          have : items[i] = x := by
            rw [List.getElem?_eq_getElem hlt] at hx; exact Option.some.inj hx
          rw [this]
        rw [hdrop] at ho
        simp only [compL] at ho
        have ho := out_bind.mp ho
        obtain ⟨ρ1, hρ, ho⟩ := out_ofO ho
        have un : ∀ {F4 : Hp} {H4 : Hp} {c4 : S}, StOk X.K (upd G Dl (.lst xs)) F4 m H4 c4 → StOk X.K G F4 m H4 c4 ∧ H4 Dl = some (.lst xs) ∧ F4 Dl = none := fun {F4 H4 c4} s4 =>
          ⟨⟨s4.sub, s4.len, s4.nd, s4.cel, fun a u ea => s4.gs a u (by rw [upd_ne (ne_of_none ea hG)]; exact ea), fun a u ea => s4.gf a u (by rw [upd_ne (ne_of_none ea hG)]; exact ea)⟩, s4.gs _ _ upd_same, (s4.gf _ _ upd_same).1⟩
        have enW : EnvOk X.K hld F3 m (L2.wipe σ (slotsOf tg)) (wipeD ρ (slotsOf tg)) := (en.mono (((e0.trans e2).trans e3)) pfx).wipe _
        refine gD_ok sG tg enW rv hρ fun σ1 en1 hw1 => ⟨by rw [hw1 _ (fun _ h => h), wipe_wipe], ?_⟩
        refine ⟨F3, upd G Dl (.lst xs), m, ρ1, c2, sG, en1, (out_bind.mp ho).imp (fun b c3 h5 F5 H5 e5 s5 => ?_) (fun _ _ h => h.elim)⟩
        cases b with
        | false =>
          obtain ⟨s5', hD5, hF5⟩ := un s5
          exact ⟨mm - 1, by omega, by omega, F5, acc, xs, c3, (e2.trans e3).trans e5, s5', hD5, hF5, hm, hG, hd.mono (e3.trans e5), h5⟩
        | true =>
          have h5 := out_bind.mp h5
          unfold tv at h5
          have h5 := out_bind.mp h5
          refine ⟨F5, upd G Dl (.lst xs), m, ρ1, c3, s5, en1.mono e5 pfx, h5.imp (fun d c4 h6 F6 H6 yv e6 s6 r6 => ?_) (fun _ _ h => h.elim)⟩
          obtain ⟨y, hyq, h7⟩ := out_ofO h6
          obtain ⟨F7, e7, s7, r7⟩ := rep_frz s6 r6
          have ry : Dq X.K F7 yv y := by
            unfold tvD at hyq
            split at hyq
            · rename_i q' e8
              cases hyq
              rw [e8] at r7
              exact r7
            · cases hyq
          obtain ⟨s7', hD7, hF7⟩ := un s7
          have h7 : Out (if acc.length < sizeLine then compL (cTurn cl gl e tg cond ρ) (items.drop (i + 1)) (acc ++ [y]) c4 else .no) (fun ds c5 => PD X.K hld G F m Q (.own ds) c5) (fun _ _ => False) := h7
          split at h7
          · rename_i hsz
            refine ⟨xs, hD7, by rw [hd.len]; exact hsz, mm - 1, by omega, by omega, F7, acc ++ [y], xs ++ [yv], c4, ((e2.trans e3).trans e5).trans (e6.trans e7), ?_, upd_same, hF7, hm, hG, ?_, h7⟩
            · refine ⟨fun a u ea => ?_, s7'.len, s7'.nd, fun j a hj => ?_, fun a u ea => ?_, s7'.gf⟩
              · rw [upd_ne (ne_of_none ea hF7)]; exact s7'.sub a u ea
              · have ha : a ≠ Dl := fun z => hm (z ▸ List.mem_of_getElem? hj)
                rw [upd_ne ha]
                exact s7'.cel j a hj
              · rw [upd_ne (ne_of_none ea hG)]; exact s7'.gs a u ea
            · exact (hd.mono (e3.trans (e5.trans (e6.trans e7)))).append (.cons ry .nil)
          · exact h7.elim
      · have hi0 : i = items.length := by omega
        subst hi0
        refine .inl ⟨Jk.stop G F2 m H2 c2 e2 s2, ?_⟩
        rw [List.drop_length] at ho
        exact ho F2 H2 (.ref Dl) (e0.trans e2) s2 ⟨Dl, xs, rfl, hDl, hF, hm, hG, hd⟩
  refine ⟨PE.imp (pe_lc (C.calm hh) C.nd hI ok hg ht he hfold) core, fun {i y py spos} hy hyl hsw => ?_⟩
  have h := ps_setLc (i := i) (y := y) (py := py) (spos := spos) (C.calm hh) C.nd hy hyl hsw hI ok hg ht he hfold
  exact ⟨fun pins s σ H Dd I q => h.run pins s σ H Dd I (core σ H _ q)⟩
end
end SK

/-! SKS: len(set(xs)), xs a list or a tuple of texts, however many. -/
namespace SK
open PySem PySem.Spec PyProof.Rows
def metS (xs : List Str) (i : Nat) : List Str := setS (xs.take i)
theorem metS_succ {xs : List Str} {i : Nat} (h : i < xs.length) :
    metS xs (i + 1) = oneS (metS xs i) (xs.getD i Str.empty) := by
  have hx : xs.getD i Str.empty = xs[i] := by simp [List.getD, List.getElem?_eq_getElem h]
  unfold metS setS
  rw [hx, List.take_succ_eq_append_getElem h, List.foldl_append]; rfl
theorem oneS_any (a : List Str) (x k : Str) : (oneS a x).any (· == k) = (a.any (· == k) || decide (k = x)) := by
  unfold oneS
  by_cases h : a.any (· == x) = true
  · rw [if_pos h]
    by_cases e : k = x
    · rw [e, h]; rfl
    · simp [e]
  · rw [if_neg h, List.any_append]
    by_cases e : k = x
    · subst e; simp
    · have : (x == k) = false := beq_eq_false_iff_ne.mpr fun z => e z.symm
      simp [this, e]
theorem oneS_len (a : List Str) (x : Str) : (oneS a x).length = if a.any (· == x) = true then a.length else a.length + 1 := by
  unfold oneS; split <;> simp
theorem metS_le (xs : List Str) : ∀ i, (metS xs i).length ≤ i
  | 0 => by simp [metS, setS]
  | i + 1 => by
    have ih := metS_le xs i
    by_cases h : i < xs.length
    · rw [metS_succ h, oneS_len]
      split <;> omega
    · have e : metS xs (i + 1) = metS xs i := by
        unfold metS
        rw [List.take_of_length_le (by omega), List.take_of_length_le (by omega)]
      rw [e]; omega
section
variable {prog : Program} {w : World} {A : Around} {R : Result → Shared → Prop} {I : Addr} {fp wr : List Addr}
variable {G : Array GenState → Array GenState → Prop} {n : Nat} {P : Nat → Value → Prop} {St : Nat → Shared → Prop}
/-- what the set at a holds after i texts -/
abbrev InS (prog : Program) (w : World) (h : Heap) (a : Addr) (xs : List Str) (i : Nat) : Prop :=
  h.SetOf (PySem.strKind prog w) a (fun k => (metS xs i).any (· == k)) (metS xs i).length
theorem loopN (W : WalksS prog w A.in1 I fp wr G n P St) (a : Addr) (ha : a ∉ fp) (xs : List Str) (hl : xs.length = n) (hb : n ≤ 4000)
    (val : ∀ i v, P i v → ∃ t, v = .str (xs.getD i Str.empty) t) :
    ∀ (k i : Nat) (s : Shared), n - i = k → i ≤ n → St i s → InS prog w s.heap a xs i →
      (∀ s2, Moved (a :: wr) G s s2 → InS prog w s2.heap a xs n → R (.ok (.ret .none)) s2) →
      codeAny (model prog w) A (.builtin "set.update.loop" ⟨[.ref a, .ref I], []⟩) R s := by
  have hw : a ∉ wr := fun h => ha (W.sub _ h)
  have up : ∀ b ∈ wr, b ∈ a :: wr := fun b => List.mem_cons_of_mem _
  intro k
  induction k with
  | zero =>
    intro i s e1 e2 st hs hr
    obtain rfl : i = n := by omega
    apply codeAny_builtin PyProof.Rows.F.entry_set_update_loop
    rw [Around.under_plainId PyProof.Rows.F.plain_set_update_loop _]
    show wpAny _ A.in1 (pyNext (.ref I) >>= _) _ _ s
    refine wpAny_bind (W.done s _ _ st fun s2 mv => ?_)
    show wpAny _ A.in1 (ret Value.none) _ _ s2
    refine wpAny_pure (hr s2 (mv.mono up) ?_)
    obtain ⟨o, es, ep, t, ho, more⟩ := hs
    exact ⟨o, es, ep, t, mv.heap a _ hw ho, more⟩
  | succ k ih =>
    intro i s e1 e2 st hs hr
    have lt : i < n := by omega
    apply codeAny_builtin PyProof.Rows.F.entry_set_update_loop
    rw [Around.under_plainId PyProof.Rows.F.plain_set_update_loop _]
    show wpAny _ A.in1 (pyNext (.ref I) >>= _) _ _ s
    refine wpAny_bind (W.item i s _ _ lt st fun v s2 hp st2 mv => ?_)
    obtain ⟨t, rfl⟩ := val i v hp
    have hs2 : InS prog w s2.heap a xs i := by
      obtain ⟨o, es, ep, tb, ho, more⟩ := hs
      exact ⟨o, es, ep, tb, mv.heap a _ hw ho, more⟩
    show wpAny _ A.in1 (holding [Value.str (xs.getD i Str.empty) t] (setAdd a (.str (xs.getD i Str.empty) t)) >>= _) _ _ s2
    apply wpAny_bind; apply wpAny_holding
    unfold setAdd
    apply wpAny_holding
    refine wpAny_bind ((PySem.strKind prog w).pyHash (k := xs.getD i Str.empty) (strKind_is _ _ _ _) ?_)
    have room : (metS xs i).length + 1 < scanBound := by
      have := metS_le xs i
      unfold scanBound; omega
    refine wpAny_setAddHashed_of (s := { s2 with toks := s2.toks + 1 }) (knd := PySem.strKind prog w) (strKind_is _ _ _ _) rfl hs2 room fun h3 same hs3 => ?_
    have hs4 : InS prog w h3 a xs (i + 1) :=
      SetOf_congr hs3 (fun k2 => by rw [metS_succ (by omega), oneS_any]) (by rw [metS_succ (by omega), oneS_len])
    refine wpAny_pure ⟨plainId_quiet PyProof.Rows.F.plain_set_update_loop _, ih (i + 1) _ (by omega) lt (W.frame _ s2 _ _ st2 (Nat.le_succ _) fun b hbf o e => ?_) hs4 fun s5 mv5 hs5 => ?_⟩
    · have nb : b ≠ a := fun z => ha (z ▸ hbf)
      rw [same.2 b nb]; exact e
    · refine hr s5 (Moved.trans W.gtrans ((mv.mono up).then_heap (Nat.le_succ _) fun b o hbf e => ?_) mv5) hs5
      have nb : b ≠ a := fun z => hbf (z ▸ List.mem_cons_self)
      rw [same.2 b nb]; exact e
end
section
variable {prog : Program} {w : World} {A : Around} {E : Value → Shared → Prop} {s : Shared}
/-- what set(texts) leaves: a set at the heap's end, and all else as it was -/
abbrev GoN (prog : Program) (w : World) (s : Shared) (xs : List Str) (h2 : Heap) : Prop :=
  InS prog w h2 s.heap.objs.size xs xs.length ∧ ∀ b o, b < s.heap.objs.size → s.heap.get? b = some o → h2.get? b = some o
/-- the object that set() has made -/
abbrev fresh0 (led : Bool) : Obj := { cls := .type "set", dict := none, data := .set #[] 0 (.fresh 0 0 led) }
set_option maxHeartbeats 3200000 in
theorem setL {l : Addr} {items : Array Value} {xs : List Str} {Q : Value → Shared → Prop}
    (calm0 : A.handled = none) (seq0 : s.heap.IsList l items) (txt0 : StrsAre items.toList xs) (few0 : xs.length ≤ 4000)
    (done0 : ∀ (h3 : Heap) (tk : Nat), GoN prog w s xs h3 → Q (.ref s.heap.objs.size) { s with heap := h3, toks := tk }) :
    wpAny (model prog w) A (call (.type "set") [.ref l]) Q E s := by
  have ⟨cc, tt, mro0⟩ := PySem.F.called_set.mro
  have made0 := PySem.F.called_set.made; have sub0 := PySem.F.called_set.sub
  apply wpAny_call; apply codeAny_of_tree
  show wpAny _ _ (callAny (.type "set") _) _ _ _
  apply wpAny_pure; refine ⟨Code.quiet_builtin _ (by decide +kernel), codeAny_builtin PySem.F.entry_type_call ?_⟩
  rw [Around.under_plain (weight_type_call_type "set" [.ref l] []) rfl]
  have nt0 := PySem.F.called_set.notType; have cr0 := PySem.F.called_set.canCreate
  have tc0 := PySem.F.typeCall_set_1 (.ref l); repeat (any_goals (first | assumption | wp_step))
  refine codeAny_mono (code_set_new_1 (.ref l) (E := E)
    (Q₁ := fun ob s1 => ∃ led, ob = .ref s.heap.objs.size ∧ s1 = { s with heap := s.heap.push (fresh0 led) }) fun led => ⟨led, rfl, rfl⟩) fun r s1 hr => ?_
  match r, hr with
  | .error e, hr => exact hr
  | .ok (.ret ob), hr =>
    obtain ⟨led, rfl, rfl⟩ := hr
    have at0 : (s.heap.push (fresh0 led)).get? s.heap.objs.size = some (fresh0 led) := Heap.get?_push_size _ rfl
    have ty0 : Shared.TypeIs { s with heap := s.heap.push (fresh0 led) } (.ref s.heap.objs.size) "set" := ⟨_, at0, rfl⟩
    have look0 := PySem.F.called_set.init.lookup; have bind0 := PySem.F.called_set.init.bind (.ref s.heap.objs.size)
    repeat (any_goals (first | assumption | wp_step))
    refine codeAny_mono (codeAny_call_builtin (R := wants (fun r s2 => r = .none ∧ ∃ h3 tk, s2 = { s with heap := h3, toks := tk } ∧ GoN prog w s xs h3) E)
      PySem.F.called_set.init.plain PySem.F.entry_set_init (check_set_init_1 ty0 ?_)) fun r2 s2 hr2 => ?_
    · obtain ⟨⟨oc0, od0, dt0, os0⟩, ho0, hc0, n0, hd0⟩ := seq0
      simp only at hc0 hd0; subst hc0 hd0
      have ho1 : (s.heap.push (fresh0 led)).get? l = some { cls := .type "list", dict := od0, data := .seq items n0, slots := os0 } := Heap.get?_push_of_some _ ho0
      have k0 := PySem.F.sub_list_set; have k1 := PySem.F.sub_list_frozenset
      have k2 : (Value.type "list" == Value.type "dict") = false := by decide
      have seq1 : (s.heap.push (fresh0 led)).IsList l items := ⟨_, ho1, rfl, n0, rfl⟩
      unfold Builtin.«set.__init__» noKeywords Builtin.Frozenset.updateFrom
      generalize pi0 : pyIter = PI
      wp_walk
      subst pi0
      apply wpAny_pyIter_list seq1; apply wpAny_bind; apply wpAny_runValue
      have lt0 : l < s.heap.objs.size := Heap.lt_size ho0
      have calm3 : A.in1.in1.in1.handled = none := by simp [calm0]
      have ne0 : l ≠ (s.heap.push (fresh0 led)).objs.size := by
        rw [Heap.size_push]; exact Nat.ne_of_lt (Nat.lt_succ_of_lt lt0)
      have out0 : s.heap.objs.size ∉ [(s.heap.push (fresh0 led)).objs.size, l] := by
        rw [Heap.size_push]; simp only [List.mem_cons, List.not_mem_nil, or_false, not_or]
        exact ⟨Nat.ne_of_lt (Nat.lt_succ_self _), Nat.ne_of_gt lt0⟩
      have sz0 : xs.length = items.size := by rw [← StrsAre.len_eq txt0, Array.length_toList]
      have val0 : ∀ (i : Nat) (v : Value), items[i]? = some v → ∃ t, v = .str (xs.getD i Str.empty) t := fun i v hv =>
        SS.strs_at txt0 i v (by rw [Array.getElem?_toList]; exact hv)
      refine loopN ((Walks.list calm3 _ l ne0 items).toS) s.heap.objs.size out0 xs sz0 (by rw [← sz0]; exact few0) val0 (items.size - 0) 0 _ (by omega) (Nat.zero_le _)
        ⟨⟨_, Heap.get?_push_size _ rfl, rfl, rfl⟩, (seq1.push _)⟩ ?_ fun s5 mv => ?_
      · have at1 : ((s.heap.push (fresh0 led)).push { cls := .type "list_iterator", data := .fields #[.ref l, .int 0 0] }).get? s.heap.objs.size = some (fresh0 led) := Heap.get?_push_of_some _ at0
        exact SetOf_congr ((setObjOf_fresh (knd := PySem.strKind prog w) led).setOf at1 (by unfold scanBound; omega)) (fun _ => rfl) rfl
      · intro in5
        obtain ⟨h5, g5, d5, t5, o5⟩ := s5
        obtain rfl : g5 = s.gens := mv.gens
        obtain rfl : d5 = s.drawn := mv.drawn
        obtain rfl : o5 = s.os := mv.os
        show wpAny _ _ _ _ _ _
        apply wpAny_pure
        show wpAny _ _ (ret Value.none) _ _ _
        refine wpAny_pure ⟨rfl, h5, t5, rfl, by rw [sz0]; exact in5, fun b o hb e => ?_⟩
        refine mv.heap b o ?_ (Heap.get?_push_of_some _ (Heap.get?_push_of_some _ e))
        rw [Heap.size_push]; simp only [List.mem_cons, List.not_mem_nil, or_false, not_or]
        exact ⟨Nat.ne_of_lt hb, Nat.ne_of_lt (Nat.lt_succ_of_lt hb)⟩
    · match r2, hr2 with
      | .error e, hr2 => exact hr2
      | .ok (.ret r), hr2 =>
        obtain ⟨rfl, h3, tk, rfl, hg⟩ := hr2
        repeat (any_goals (first | assumption | wp_step))
        exact done0 _ _ hg
      | .ok .next, hr2 => exact hr2.elim
      | .ok .brk, hr2 => exact hr2.elim
      | .ok .cont, hr2 => exact hr2.elim
  | .ok .next, hr => exact hr.elim
  | .ok .brk, hr => exact hr.elim
  | .ok .cont, hr => exact hr.elim
set_option maxHeartbeats 3200000 in
theorem setT {l : Addr} {items : Array Value} {xs : List Str} {Q : Value → Shared → Prop}
    (calm0 : A.handled = none) (seq0 : s.heap.IsTuple l items) (txt0 : StrsAre items.toList xs) (few0 : xs.length ≤ 4000)
    (done0 : ∀ (h3 : Heap) (tk : Nat), GoN prog w s xs h3 → Q (.ref s.heap.objs.size) { s with heap := h3, toks := tk }) :
    wpAny (model prog w) A (call (.type "set") [.ref l]) Q E s := by
  have ⟨cc, tt, mro0⟩ := PySem.F.called_set.mro
  have made0 := PySem.F.called_set.made; have sub0 := PySem.F.called_set.sub
  apply wpAny_call; apply codeAny_of_tree
  show wpAny _ _ (callAny (.type "set") _) _ _ _
  apply wpAny_pure; refine ⟨Code.quiet_builtin _ (by decide +kernel), codeAny_builtin PySem.F.entry_type_call ?_⟩
  rw [Around.under_plain (weight_type_call_type "set" [.ref l] []) rfl]
  have nt0 := PySem.F.called_set.notType; have cr0 := PySem.F.called_set.canCreate
  have tc0 := PySem.F.typeCall_set_1 (.ref l); repeat (any_goals (first | assumption | wp_step))
  refine codeAny_mono (code_set_new_1 (.ref l) (E := E)
    (Q₁ := fun ob s1 => ∃ led, ob = .ref s.heap.objs.size ∧ s1 = { s with heap := s.heap.push (fresh0 led) }) fun led => ⟨led, rfl, rfl⟩) fun r s1 hr => ?_
  match r, hr with
  | .error e, hr => exact hr
  | .ok (.ret ob), hr =>
    obtain ⟨led, rfl, rfl⟩ := hr
    have at0 : (s.heap.push (fresh0 led)).get? s.heap.objs.size = some (fresh0 led) := Heap.get?_push_size _ rfl
    have ty0 : Shared.TypeIs { s with heap := s.heap.push (fresh0 led) } (.ref s.heap.objs.size) "set" := ⟨_, at0, rfl⟩
    have look0 := PySem.F.called_set.init.lookup; have bind0 := PySem.F.called_set.init.bind (.ref s.heap.objs.size)
    repeat (any_goals (first | assumption | wp_step))
    refine codeAny_mono (codeAny_call_builtin (R := wants (fun r s2 => r = .none ∧ ∃ h3 tk, s2 = { s with heap := h3, toks := tk } ∧ GoN prog w s xs h3) E)
      PySem.F.called_set.init.plain PySem.F.entry_set_init (check_set_init_1 ty0 ?_)) fun r2 s2 hr2 => ?_
    · obtain ⟨⟨oc0, od0, dt0, os0⟩, ho0, hc0, n0, hd0⟩ := seq0
      simp only at hc0 hd0; subst hc0 hd0
      have ho1 : (s.heap.push (fresh0 led)).get? l = some { cls := .type "tuple", dict := od0, data := .seq items n0, slots := os0 } := Heap.get?_push_of_some _ ho0
      have k0 := PySem.F.sub_tuple_set; have k1 := PySem.F.sub_tuple_frozenset
      have k2 : (Value.type "tuple" == Value.type "dict") = false := by decide
      have seq1 : (s.heap.push (fresh0 led)).IsTuple l items := ⟨_, ho1, rfl, n0, rfl⟩
      unfold Builtin.«set.__init__» noKeywords Builtin.Frozenset.updateFrom
      generalize pi0 : pyIter = PI
      wp_walk
      subst pi0
      apply wpAny_pyIter_tuple seq1; apply wpAny_bind; apply wpAny_runValue
      have lt0 : l < s.heap.objs.size := Heap.lt_size ho0
      have calm3 : A.in1.in1.in1.handled = none := by simp [calm0]
      have ne0 : l ≠ (s.heap.push (fresh0 led)).objs.size := by
        rw [Heap.size_push]; exact Nat.ne_of_lt (Nat.lt_succ_of_lt lt0)
      have out0 : s.heap.objs.size ∉ [(s.heap.push (fresh0 led)).objs.size, l] := by
        rw [Heap.size_push]; simp only [List.mem_cons, List.not_mem_nil, or_false, not_or]
        exact ⟨Nat.ne_of_lt (Nat.lt_succ_self _), Nat.ne_of_gt lt0⟩
      have sz0 : xs.length = items.size := by rw [← StrsAre.len_eq txt0, Array.length_toList]
      have val0 : ∀ (i : Nat) (v : Value), items[i]? = some v → ∃ t, v = .str (xs.getD i Str.empty) t := fun i v hv =>
        SS.strs_at txt0 i v (by rw [Array.getElem?_toList]; exact hv)
      refine loopN ((Walks.tuple calm3 _ l ne0 items).toS) s.heap.objs.size out0 xs sz0 (by rw [← sz0]; exact few0) val0 (items.size - 0) 0 _ (by omega) (Nat.zero_le _)
        ⟨⟨_, Heap.get?_push_size _ rfl, rfl, rfl⟩, (seq1.push _)⟩ ?_ fun s5 mv => ?_
      · have at1 : ((s.heap.push (fresh0 led)).push { cls := .type "tuple_iterator", data := .fields #[.ref l, .int 0 0] }).get? s.heap.objs.size = some (fresh0 led) := Heap.get?_push_of_some _ at0
        exact SetOf_congr ((setObjOf_fresh (knd := PySem.strKind prog w) led).setOf at1 (by unfold scanBound; omega)) (fun _ => rfl) rfl
      · intro in5
        obtain ⟨h5, g5, d5, t5, o5⟩ := s5
        obtain rfl : g5 = s.gens := mv.gens
        obtain rfl : d5 = s.drawn := mv.drawn
        obtain rfl : o5 = s.os := mv.os
        show wpAny _ _ _ _ _ _
        apply wpAny_pure
        show wpAny _ _ (ret Value.none) _ _ _
        refine wpAny_pure ⟨rfl, h5, t5, rfl, by rw [sz0]; exact in5, fun b o hb e => ?_⟩
        refine mv.heap b o ?_ (Heap.get?_push_of_some _ (Heap.get?_push_of_some _ e))
        rw [Heap.size_push]; simp only [List.mem_cons, List.not_mem_nil, or_false, not_or]
        exact ⟨Nat.ne_of_lt hb, Nat.ne_of_lt (Nat.lt_succ_of_lt hb)⟩
    · match r2, hr2 with
      | .error e, hr2 => exact hr2
      | .ok (.ret r), hr2 =>
        obtain ⟨rfl, h3, tk, rfl, hg⟩ := hr2
        repeat (any_goals (first | assumption | wp_step))
        exact done0 _ _ hg
      | .ok .next, hr2 => exact hr2.elim
      | .ok .brk, hr2 => exact hr2.elim
      | .ok .cont, hr2 => exact hr2.elim
  | .ok .next, hr => exact hr.elim
  | .ok .brk, hr => exact hr.elim
  | .ok .cont, hr => exact hr.elim
end
open L2 in
/-- len(set(xs)) -/
def tLenN (K : PySem.W.Frag) (ta : TE) : TE := fun σ H Q => ta σ H fun x H1 => ∃ l, ∃ xs : List Str, x = .ref l ∧ (SqL K H1 l (xs.map V.str) ∨ SqT K H1 l (xs.map V.str)) ∧ xs.length ≤ 4000 ∧ Q (.int ((setS xs).length : Nat)) H1
open L2 in
theorem pe_lenN {X : Cx} {a : Expr} {ta : TE} {p p2 q pos : Pos} (hc : X.calm = true) (hg : Gl X "len") (hm : X.mg "len" = none) (hg2 : Gl X "set") (hm2 : X.mg "set" = none) (ha : PE X a ta)
    (na : starEach [a] X.env = (false, eval a X.env) :: starEach [] X.env) :
    PE X (.Call (.Name "len" p) [.Call (.Name "set" p2) [a] [] q] [] pos) (tLenN X.K ta) := by
  refine ⟨fun pins s σ H Q I h => ?_⟩
  refine Call_ (ld_blt I hg hm boot_len ?_)
  refine callWith_builtin1 (args_cons ?_ rfl) rfl rfl
  refine Call_ (ld_blt I hg2 hm2 boot_set ?_)
  refine callWith_type1 (args_cons (thn (ha.run pins s σ H _ I h) fun v s1 ⟨x, H1, I1, r1, q1⟩ => args_nil ?_) na) na rfl
  obtain ⟨l, xs, rfl, hq, hb, q1⟩ := q1
  cases r1
  have fin : ∀ (h3 : Heap) (tk : Nat), GoN X.prog X.w s1 xs h3 →
      wpAny (model X.prog X.w) X.A (spliced (backTo pos (starEach [] X.env))) (fun vs s2 => wpAny (model X.prog X.w) X.A (call (.builtin "len") (Value.ref s1.heap.objs.size :: vs)) (EP X pins σ Q) X.xe s2) X.xe { s1 with heap := h3, toks := tk } := fun h3 tk ⟨hS, hk⟩ => by
    apply args_nil
    obtain ⟨o, es, ep, t, ho, hex, hd, _, _, _, hf, hn⟩ := hS
    have I2 : Inv X pins σ H1 { s1 with heap := h3, toks := tk } := I1.kept fun b o e => hk b o (Heap.lt_size e) e
    have em : metS xs xs.length = setS xs := by unfold metS; rw [List.take_length]
    rw [em] at hn
    have : (setS xs).length ≤ 4000 := by rw [← em]; exact Nat.le_trans (metS_le xs _) hb
    exact call_len_set ho hex hd hf (by rw [hn] <;> omega) ⟨.int (setS xs).length, H1, I2.tok _, ⟨_, by rw [hn]⟩, q1⟩
  rcases hq with hq | hq
  · obtain ⟨its, r, pl, hz⟩ := I1.list hq
    exact setL (I1.ok.hd hc) pl.isList (by simpa using strsAre_of r) hb fin
  · obtain ⟨its, r, pl, hz⟩ := I1.tuple hq
    exact setT (I1.ok.hd hc) pl (by simpa using strsAre_of r) hb fin
end SK

/-! SKF: errors: what the text says of their classes; fields and isinstance of an error that a suite holds; len(set(texts)). -/
namespace SK
open PySem PySem.Spec PyProof.Rows L2
open Evl (Ex)
/-- the base classes behind an own error -/
def veB : List Value := [.type "ValueError", .type "Exception", .type "BaseException", .type "object"]
/-- what the text says of the error class with the number k -/
structure ErrK (K : PySem.W.Frag) (mg : Str → Option Value) (ecs : List Nat) (k : Nat) : Prop where
  mg : mg (clsName k) = some (.ref (gaK K (clsName k)))
  keep : PySem.W.keepIn K (.ref (gaK K (clsName k))) = true
  exC : PySem.W.subIn K (.ref (gaK K (clsName k))) (.type "BaseException") = some true
  tyC : PySem.W.typeIn K (.ref (gaK K (clsName k))) = some (.type "type")
  xf : XfC K (gaK K (clsName k))
  ei : ExcC K (gaK K (clsName k))
  exm : ∀ j ∈ ecs, PySem.W.exmOne K (.ref (gaK K (clsName k))) (.ref (gaK K (clsName j))) = some (isSub k j)
  isi : ∀ j ∈ ecs, PySem.W.kitOne K (.ref (gaK K (clsName k))) (.ref (gaK K (clsName j))) = some (isSub k j)
  isv : PySem.W.kitOne K (.ref (gaK K (clsName k))) (.type "ValueError") = some true
  no0 : clsFlds k = [] → PySem.W.excIn K (gaK K (clsName k)) veB "ValueError.__new__" = true
  fld : ∀ f ∈ fldNames, PySem.W.findIn K (.ref (gaK K (clsName k))) f = some none
abbrev ErrsOk (X : Cx) (ecs : List Nat) : Prop := ∀ k ∈ ecs, ErrK X.K X.mg ecs k
section
variable {X : Cx} {T : Tx} {sc : Scope} {W : WX} {hld : Held} {RX : RXT} {cl : Nat → List D → S → R D} {gl : Nat → Option PyData}
theorem e_fld (C : CxOk X T sc W hld) (B : ErrsOk X T.ecs) (hh : T.hot = true) {a : IE} {f : Str} {e' : Expr} {p : Pos} (hn : f ∈ fldNames) (h0 : noCall0 e' = true) (ha : PE X e' (tE X.K hld RX W (evE cl gl a))) :
    PE X (.Attribute e' f p) (tE X.K hld RX W (evE cl gl (.fld a f))) := by
  obtain ⟨ad, oe, cls, dd, X0, pn, rfl, hz, hf, ⟨k, hk, rfl⟩, hp⟩ := (C.held hh).ex
  have Ek := B k hk
  refine PE.imp (pe_xf (X := X0) Ek.xf (Ek.fld f hn) hz hf ha (base_of h0)) fun σ H Q ⟨F, G, m, ρ, c, s, en, o⟩ => ?_
  simp only [evE] at o
  refine stepD s en (fun _ _ h => h) o fun F1 H1 c1 d v e1 s1 en1 r1 hE1 o1 => ?_
  split at o1
  · rename_i k' fs
    obtain ⟨q, hq, o2⟩ := out_ofO o1
    obtain ⟨rfl, hk', hc, h3 | ⟨_, h3, d2, xs, hd2, hx, hv⟩⟩ := hp k' fs v F1 r1
    · rw [h3.1] at hq; cases hq
    · obtain ⟨w, hw, rw'⟩ := hv f q hq
      exact ⟨rfl, rfl, d2, xs, w, hd2, s1.sub _ _ hx, hw, o2 F1 H1 w e1 s1 rw'⟩
  · exact o1.elim
/-- isinstance(held, c) -/
theorem e_ish (C : CxOk X T sc W hld) (B : ErrsOk X T.ecs) (hh : T.hot = true) {a : IE} {ev : Rho → S → R D} {x : Str} {e' : Expr} {cv : Value} {cV : V} {ans : Nat → Bool} {p p2 pos : Pos} (hpl : pl e' = true) (hg : isGl sc ("isinstance" : Str) = true)
    (h2 : PE X (.Name x p2) (tC cV)) (hcv : ∀ u, RelV cV u → u = cv) (hkit : ∀ k ∈ T.ecs, PySem.W.kitOne X.K (.ref (gaK X.K (clsName k))) cv = some (ans k))
    (hev : ∀ ρ c, ev ρ c = (evE cl gl a ρ c).bind fun d c1 => match d with
      | .err k [] => .ok (.t (.bool (ans k))) c1
      | _ => .no)
    (ha : PE X e' (tE X.K hld RX W (evE cl gl a))) :
    PE X (.Call (.Name ("isinstance" : Str) p) [e', .Name x p2] [] pos) (tE X.K hld RX W ev) := by
  obtain ⟨g1, g2, g3⟩ := isGl_ok C hg
  obtain ⟨ad, oe, cls, dd, X0, pn, rfl, hz, hf, ⟨k, hk, rfl⟩, hp⟩ := (C.held hh).ex
  have hb : (X0.suite ad ((ad, oe) :: pn)).mg "isinstance" = none := C.blt _ (by decide)
  have Ek := B k hk
  cases dd with
  | none =>
    refine PE.imp (pe_callB (call_isE (X := X0) Ek.ei hz hf) g1 hb PyProof.Rows.boot_isinstance (pa_cons ha (pa_cons h2 pa_nil) (star_of hpl)) g3 g2 (star_of hpl) rfl) fun σ H Q ⟨F, G, m, ρ, c, s, en, o⟩ => ?_
    rw [hev] at o
    refine stepD s en (fun _ _ h => h) o fun F1 H1 c1 d v e1 s1 en1 r1 hE1 o1 => ?_
    split at o1
    · rename_i k'
      obtain ⟨rfl, hk', hc, _⟩ := hp k' [] v F1 r1
      refine ⟨cV, cv, ans k', rfl, hcv, ?_, o1 F1 H1 _ e1 s1 (.bl _)⟩
      rw [Value.ref.inj hc]
      exact hkit k' hk'
    · exact o1.elim
  | some d0 =>
    have no : CallR (X0.suite ad ((ad, oe) :: pn)) (.builtin "isinstance") (fun _ _ _ => False) := fun _ _ _ _ _ _ _ _ _ h => h.elim
    refine PE.imp (pe_callB no g1 hb PyProof.Rows.boot_isinstance (pa_cons ha (pa_cons h2 pa_nil) (star_of hpl)) g3 g2 (star_of hpl) rfl) fun σ H Q ⟨F, G, m, ρ, c, s, en, o⟩ => ?_
    rw [hev] at o
    refine stepD s en (fun _ _ h => h) o fun F1 H1 c1 d v e1 s1 en1 r1 hE1 o1 => ?_
    split at o1
    · rename_i k'
      obtain ⟨rfl, hk', hc, h3 | ⟨h3, _⟩⟩ := hp k' [] v F1 r1
      · cases h3.2.2
      · exact (h3 rfl).elim
    · exact o1.elim
theorem e_isc (C : CxOk X T sc W hld) (B : ErrsOk X T.ecs) (hh : T.hot = true) {a : IE} {j : Nat} {e' : Expr} {p p2 pos : Pos} (hj : j ∈ T.ecs) (hpl : pl e' = true) (hg : isGl sc ("isinstance" : Str) = true) (hg2 : isGl sc (clsName j) = true)
    (ha : PE X e' (tE X.K hld RX W (evE cl gl a))) : PE X (.Call (.Name ("isinstance" : Str) p) [e', .Name (clsName j) p2] [] pos) (tE X.K hld RX W (evE cl gl (.isc a j))) := by
  obtain ⟨k1, k2, k3⟩ := isGl_ok C hg2
  refine e_ish (ans := fun k => isSub k j) C B hh hpl hg (pe_glob (v := .ref (gaK X.K (clsName j))) k1 (B j hj).mg rfl k2) (fun u r => r) (fun k hk => (B k hk).isi j hj) (fun ρ c => by first | (simp only [evE]; done) | (simp only [evE]; congr 1)) ha
theorem e_isv (C : CxOk X T sc W hld) (B : ErrsOk X T.ecs) (hh : T.hot = true) {a : IE} {e' : Expr} {p p2 pos : Pos} (hpl : pl e' = true) (hg : isGl sc ("isinstance" : Str) = true) (hg2 : isGl sc ("ValueError" : Str) = true)
    (ha : PE X e' (tE X.K hld RX W (evE cl gl a))) : PE X (.Call (.Name ("isinstance" : Str) p) [e', .Name ("ValueError" : Str) p2] [] pos) (tE X.K hld RX W (evE cl gl (.isv a))) := by
  obtain ⟨k1, k2, k3⟩ := isGl_ok C hg2
  have hn : X.mg "ValueError" = none := C.blt _ (by decide)
  refine e_ish (ans := fun _ => true) C B hh hpl hg (pe_bltn (v := .ty "ValueError") k1 hn (by decide +kernel) rfl k3 k2) (fun u r => r) (fun k hk => (B k hk).isv) (fun ρ c => by first | (simp only [evE]; done) | (simp only [evE]; congr 1)) ha
theorem e_lenset (C : CxOk X T sc W hld) (hh : T.hot = false) {a : IE} {e' : Expr} {p p2 q pos : Pos} (hpl : pl e' = true) (hg : isGl sc ("len" : Str) = true) (hg2 : isGl sc ("set" : Str) = true)
    (ha : PE X e' (tE X.K hld RX W (evE cl gl a))) : PE X (.Call (.Name ("len" : Str) p) [.Call (.Name ("set" : Str) p2) [e'] [] q] [] pos) (tE X.K hld RX W (evE cl gl (.lenset a))) := by
  obtain ⟨k1, k2, k3⟩ := isGl_ok C hg
  obtain ⟨l1, l2, l3⟩ := isGl_ok C hg2
  refine PE.imp (pe_lenN (C.calm hh) k1 (C.blt _ (by decide)) l1 (C.blt _ (by decide)) ha (star_of hpl)) fun σ H Q ⟨F, G, m, ρ, c, s, en, o⟩ => ?_
  simp only [evE] at o
  refine stepP s en (fun _ _ h => h) o fun F1 H1 c1 x v e1 s1 en1 r1 hE1 o1 => ?_
  obtain ⟨n, hn, o2⟩ := out_ofO o1
  have fin : ∀ xs, setN xs = some n → xs.length ≤ 4000 ∧ Q (.int ((setS xs).length : Nat)) H1 := fun xs h => by
    unfold setN at h
    split at h
    · rename_i hz
      cases h
      exact ⟨hz, o2 F1 H1 _ e1 s1 (.int _)⟩
    · cases h
  cases x with
  | list ds =>
    obtain ⟨l, xs, rfl, h1, h2⟩ := r1
    simp only [setD] at hn
    obtain ⟨ys, hy, hn⟩ := Option.bind_eq_some_iff.mp hn
    have := h2.strsV hy
    subst this
    exact ⟨l, ys, rfl, .inl h1, fin ys hn⟩
  | tuple ds =>
    obtain ⟨l, xs, rfl, h1, h2⟩ := r1
    simp only [setD] at hn
    obtain ⟨ys, hy, hn⟩ := Option.bind_eq_some_iff.mp hn
    have := h2.strsV hy
    subst this
    exact ⟨l, ys, rfl, .inr (Evl.ex_t s1.sub h1), fin ys hn⟩
  | _ => simp [setD] at hn
end
end SK

/-! SKA: every expression that a piece stands for keeps the piece's promise. -/
namespace SK
open PySem PySem.Spec PyProof.Rows L2
open Evl (Ex)
/-- the promise of an __init__ that stores its parameters -/
def spIni (C : Addr) (fs : List Str) : Sp := fun vs H Q _ => ∃ a ws, vs = .ref a :: ws ∧ ws.length = fs.length ∧ H a = some (exo a C none) ∧ ∀ d, H d = none → d ≠ a → Q .non (upd (upd H d (exd d (fs.zip ws).reverse)) a (exo a C (some d)))
structure InitOk (X : Cx) (k : Nat) : Prop where
  cls : OexC X.K (gaK X.K (clsName k))
  ex : ∃ (fI : Addr) (fd : FuncData) (lv : Nat), PySem.W.findIn X.K (.ref (gaK X.K (clsName k))) "__init__" = some (some (.ref fI)) ∧ PySem.W.typeIn X.K (.ref fI) = some (.type "function") ∧
    FnOk X.prog X.w X.K X.mg X.base (L2.CX X.prog X.w) lv fI fd ("self" :: clsFlds k) (spIni (gaK X.K (clsName k)) (clsFlds k)) ∧ Room (lv + 1) X.A ∧ Binds X.K fd ("self" :: clsFlds k) []
structure BaseOk (X : Cx) (T : Tx) (RX : RXT) (cl : Nat → List D → S → R D) (gl : Nat → Option PyData) : Prop where
  rx : RX = RXc X.K T.ecs
  calls : T.hot = false → ∀ (k : Nat) (x : Str), T.nm[k]? = some x → CallOk X RX x (cl k)
  inits : T.hot = false → ∀ k ∈ T.ecs, clsFlds k ≠ [] → InitOk X k
  errs : ErrsOk X T.ecs
  globs : ∀ (j : Nat) (x : Str) (d : PyData), T.gn[j]? = some x → gl j = some d → ∃ u v, X.mg x = some u ∧ RelV v u ∧ ∀ F, Dq X.K F v d
/-! ### errors as values -/
section
variable {X : Cx} {C : Addr} {bmB : List Value} {B newId initId : String}
/-- an own error class without __init__, made -/
theorem pe_own0 {x : Str} {p pos : Pos} (F : ExcBaseFacts B newId initId bmB) (q : PySem.W.excIn X.K C bmB newId = true) (gC : X.mg x = some (.ref C)) (kC : PySem.W.keepIn X.K (.ref C) = true) (hg : Gl X x) (hdb : (x == ("__debug__" : Str)) = false) :
    PE X (.Call (.Name x p) [] [] pos) (fun _ H Q => ∀ a, H a = none → Q (.ref a) (upd H a (exo a C none))) := by
  refine ⟨fun ps s σ H Q I h => ?_⟩
  apply wpAny_Call_Name_kw
  apply ld_glob I hg gC _ hdb
  refine PySem.W.callWith_K0 I.kIn kC ?_
  obtain ⟨_, _, _, _, _, _, _, _, _, _, _, _, _, _, _, _, _, hC, hN, hni, T⟩ := exc_obj I.kIn q
  refine wpAny_call_exc_subT F T hC hN hni (fun h2 e hm => ?_) (Nat.zero_le _)
  have hn : H e = none := I.hok.gone hm.new
  obtain ⟨t, ht, _, _⟩ := hm.there
  exact ⟨.ref e, _, I.laidN hm.keeps hm.new hn (exo_ok ht), rfl, h e hn⟩
/-- .. with an __init__ -/
theorem pe_oexV {CX : CXT} {x : Str} {fI : Addr} {k : Nat} {fd : FuncData} {ps : List Str} {sp : Sp} {e : Expr} {es : List Expr} {ta : TA} {p pos : Pos} (T : OexC X.K C) (iC : PySem.W.findIn X.K (.ref C) "__init__" = some (some (.ref fI))) (tI : PySem.W.typeIn X.K (.ref fI) = some (.type "function"))
    (F1 : FnOk X.prog X.w X.K X.mg X.base CX k fI fd ps sp) (hr : Room (k + 1) X.A) (hb : Binds X.K fd ps []) (hx : Passes CX X (fun _ _ _ => False)) (hg : Gl X x) (hm : X.mg x = some (.ref C)) (ha : PA X (e :: es) ta) (hdb : (x == ("__debug__" : Str)) = false)
    (he : starEach (e :: es) X.env = (false, eval e X.env) :: starEach es X.env) (hpl : (backTo pos (starEach es X.env)).any (·.1) = false) :
    PE X (.Call (.Name x p) (e :: es) [] pos) (fun σ H Q => ta σ H fun vs H1 => vs.length ≤ 1000 ∧ ∀ a, H1 a = none → sp (.ref a :: vs) (upd H1 a (exo a C none)) (fun v H2 => v = .non ∧ Q (.ref a) H2) (fun _ _ _ => False)) := by
  refine ⟨fun pins s σ H Q I h => ?_⟩
  have ⟨nm, q, N, bs, bm, sn, sub, ab, col, dd, k0, k1, k2, k3, k5, hC, hbm⟩ := T.cls
  apply wpAny_Call_Name_kw
  apply ld_glob I hg hm _ hdb
  refine PySem.W.callWith_K (h₀ := X.base) I.ok.mod.kin T.kC (thn (ha.run pos pins s σ H _ I h) fun us s1 ⟨vs, H1, I1, r1, hz, q1⟩ => ⟨I1.kIn, ?_⟩) he hpl
  show wpAny _ _ (call (.ref C) us) _ _ _
  obtain ⟨hp, g, dr, tk, os⟩ := s1
  have hsz : hp.objs.size ≤ hp.objs.size + 1 := Nat.le_succ _
  have hn : H1 (hp.objs.size + 1) = none := I1.hok.fresh hsz
  have hq := q1 (hp.objs.size + 1) hn
  have kk : ∀ b o, hp.get? b = some o → ((hp.push (PySem.W.kdv_tup us)).push (PySem.HandSPX.excO C hp.objs.size)).get? b = some o := fun b o e => by
    apply Heap.get?_push_of_some; exact Heap.get?_push_of_some _ e
  have at1 : ((hp.push (PySem.W.kdv_tup us)).push (PySem.HandSPX.excO C hp.objs.size)).get? (hp.objs.size + 1) = some (PySem.HandSPX.excO C hp.objs.size) := by heap_get
  have I2 := I1.laid (t' := tk) (a := hp.objs.size + 1) (o := exo (hp.objs.size + 1) C none) (h' := (hp.push (PySem.W.kdv_tup us)).push (PySem.HandSPX.excO C hp.objs.size)) kk hsz (exo_ok at1)
  have r2 : Vals (V.ref (hp.objs.size + 1) :: vs) (Value.ref (hp.objs.size + 1) :: us) := .cons rfl r1
  have hl : (Value.ref (hp.objs.size + 1) :: us).length = ps.length := by rw [← r2.length, F1.len _ _ _ _ hq]
  have hus : us.length ≤ sizeLine := by
    rw [← Paired.length r1, sizeLine_eq]; omega
  have bd := hb { heap := (hp.push (PySem.W.kdv_tup us)).push (PySem.HandSPX.excO C hp.objs.size), gens := g, drawn := dr, toks := tk, os := os } (Value.ref (hp.objs.size + 1) :: us) I2.kIn (by rw [List.append_nil]; exact hl)
  rw [List.append_nil] at bd
  refine wpAny_call (PySem.HandSPX.call_own F.excBase_ValueError (fun Y => PySem.HandSPX.refsVE_contains Y bm hbm) (I1.kIn _ _ hC) (PySem.W.looks_findIn I1.kIn iC) (fun self => PySem.W.bind_fn I1.kIn self tI) hus
    (codeAny_mono (F1.run _ X.stack _ _ ⟨Value.ref (hp.objs.size + 1) :: us, []⟩ (Value.ref (hp.objs.size + 1) :: us) _ _ (fun _ _ _ => False) (hr.make C us []) (I2.env0.make C us []) bd r2 hq) fun r s3 hq3 => ?_))
  match r, hq3 with
  | .error er, hq3 => exact hx pins σ _ _ er s3 I2 hq3
  | .ok (.ret u), hq3 =>
    obtain ⟨v, H3, I3, r3, ev, q3⟩ := I2.after hq3
    subst ev
    exact ⟨r3, .ref (hp.objs.size + 1), H3, I3, rfl, q3⟩
  | .ok .next, hq3 => exact hq3.elim
  | .ok .brk, hq3 => exact hq3.elim
  | .ok .cont, hq3 => exact hq3.elim
/-- isinstance of such a value -/
def rIsO (K : PySem.W.Frag) : List V → Hp → VK → Prop := fun xs H Q => ∃ (a D : Addr) (d : Option Addr) (c : V) (cv : Value) (b : Bool), xs = [.ref a, c] ∧ H a = some (exo a D d) ∧ (∀ dx, d = some dx → ∃ fs, H dx = some (exd dx fs)) ∧ ExcC K D ∧ (∀ u, RelV c u → u = cv) ∧ PySem.W.kitOne K (.ref D) cv = some b ∧ Q (.bl b) H
theorem call_isO : CallR X (.builtin "isinstance") (rIsO X.K) := by
  intro pins s σ H xs us Q I r h
  obtain ⟨a, D, d, c, cv, b, rfl, ha, hd, ex, hcv, e, q⟩ := h
  obtain ⟨u1, u2, rfl, r1, r2⟩ := vals2 r
  cases r1
  have ec := hcv _ r2
  subst ec
  obtain ⟨t1, ho⟩ := exo_at I.hok ha
  have hcl : (PySem.W.clsIn X.K D).isSome = true := by
    obtain ⟨cd, hc, _⟩ := PySem.W.any_some ex.hd
    rw [hc]; rfl
  have J : ∃ od, PySem.W.InstAt s.heap a { cls := .ref D, dict := d, data := .fields #[.ref t1, .none, .none, .none, .bool false, .none] } D od := by
    cases d with
    | none => exact ⟨none, ho, rfl, rfl, trivial⟩
    | some dx =>
      obtain ⟨fs, hx⟩ := hd dx rfl
      obtain ⟨mA, ⟨o, es, ep, h1, _⟩, _⟩ := exd_at I.hok hx
      exact ⟨some o, ho, rfl, rfl, h1⟩
  obtain ⟨od, J⟩ := J
  exact PySem.W.kia_one (PySem.W.kitx_exc (od := od) hcl ex.hg ex.hk ex.hs ex.ha ex.hn ex.ht ex.hm) I.kIn J e (fun z => nomatch z) fun tk => ⟨.bl b, H, I.kept (t' := tk) fun _ _ z => z, rfl, q⟩
/-- a field of such a value -/
def tOf (K : PySem.W.Frag) (f : Str) (te : TE) : TE := fun σ H Q => te σ H fun x H1 => ∃ (a D d : Addr) (fs : List (Str × V)) (v : V), x = .ref a ∧ H1 a = some (exo a D (some d)) ∧ H1 d = some (exd d fs) ∧ XfC K D ∧ PySem.W.findIn K (.ref D) f = some none ∧ fs.lookup f = some v ∧ Q v H1
theorem pe_of {e : Expr} {te : TE} {pos : Pos} {f : Str} (he : PE X e te) (hb : attributeBase e f X.env (eval e X.env) = eval e X.env) : PE X (.Attribute e f pos) (tOf X.K f te) := by
  refine ⟨fun pins s σ H Q I h => ?_⟩
  refine attr_of hb (thn (he.run pins s σ H _ I h) fun u s1 ⟨x, H1, I1, rx, a, D, d, fs, v, ex, ha, hd, T, no, l, q⟩ => ?_)
  subst ex
  obtain rfl : u = Value.ref a := rx
  obtain ⟨t1, ho⟩ := exo_at I1.hok ha
  obtain ⟨mA, hns, hr⟩ := exd_at I1.hok hd
  obtain ⟨od, hod, hl⟩ := lookIn_ns hns
  obtain ⟨u, hu, ru⟩ := RelO.some_of (v := v) (o := mA f) (by rw [← l]; exact hr f)
  have J : PySem.W.InstAt s1.heap a { cls := .ref D, dict := some d, data := .fields #[.ref t1, .none, .none, .none, .bool false, .none] } D (some od) := ⟨ho, rfl, rfl, hod⟩
  exact HandSPX.exc_get I1.kIn J T.ga T.gg T.exC (PySem.W.findObj_own T.hdC no rfl (by rw [hl, hu])) (handed_of ru) ⟨v, H1, I1.tok _, ru, q⟩
end
section
variable {X : Cx} {T : Tx} {sc : Scope} {W : WX} {hld : Held} {RX : RXT} {cl : Nat → List D → S → R D} {gl : Nat → Option PyData}
theorem flds_of {k : Nat} (h : clsFlds k ≠ []) : ∃ f g, clsFlds k = [f] ∨ (clsFlds k = [f, g] ∧ (g == f) = false) := by
  unfold clsFlds at h ⊢
  split at h
  · exact ⟨_, "", .inl rfl⟩
  · exact ⟨_, "", .inl rfl⟩
  · exact ⟨"index", "reason", .inr ⟨rfl, by decide⟩⟩
  · exact ⟨_, "", .inl rfl⟩
  · exact (h rfl).elim
theorem look_flds {K : PySem.W.Frag} {k : Nat} {F : Hp} (h : clsFlds k ≠ []) {ws : List V} {qs : List PyData} (hd : DqAll K F ws qs) (hl : qs.length = (clsFlds k).length) :
    ∀ f q, ((clsFlds k).zip qs).lookup f = some q → ∃ v, ((clsFlds k).zip ws).reverse.lookup f = some v ∧ Dq K F v q := by
  intro f q hq
  obtain ⟨f1, f2, e | ⟨e, ne⟩⟩ := flds_of h
  · rw [e] at hq hl ⊢
    cases hd with
    | nil => simp at hl
    | cons a b =>
      cases b with
      | cons => simp at hl
      | nil =>
        simp only [List.zip_cons_cons, List.zip_nil_right, List.lookup] at hq
        split at hq
        · cases hq
          rename_i hb
          exact ⟨_, by simp [List.lookup, hb], a⟩
        · cases hq
  · rw [e] at hq hl ⊢
    cases hd with
    | nil => simp at hl
    | cons a b =>
      cases b with
      | nil => simp at hl
      | cons a2 b =>
        cases b with
        | cons => simp at hl
        | nil =>
          simp only [List.zip_cons_cons, List.zip_nil_right, List.lookup] at hq
          split at hq
          · cases hq
            rename_i hb
            have hf : f = f1 := by simpa using hb
            subst hf
            have : (f == f2) = false := by
              rw [Bool.eq_false_iff] at ne ⊢
              intro z
              exact ne (by have : f = f2 := by simpa using z
                           subst this; simp)
            exact ⟨_, by simp [List.lookup, this], a⟩
          · split at hq
            · cases hq
              rename_i hb
              exact ⟨_, by simp [List.lookup, hb], a2⟩
            · cases hq
theorem objFs_map : ∀ fs : List (Str × PyData), objFs (fs.map fun p => (PyData.str p.1, p.2)) = fs
  | [] => rfl
  | (f, q) :: r => by simp [objFs, objFs_map r]
theorem e_mk (C : CxOk X T sc W hld) (B : BaseOk X T RX cl gl) (hh : T.hot = false) {k : Nat} {as : IEs} {es : List Expr} {p pos : Pos} (hk : k ∈ T.ecs) (hlen : es.length = (clsFlds k).length) (hg : isGl sc (clsName k) = true) (hes : es.all pl = true)
    (ha : PA X es (tA X.K hld RX W (evA cl gl as))) (h0 : es = [] → as = .nil) : PE X (.Call (.Name (clsName k) p) es [] pos) (tE X.K hld RX W (evE cl gl (.mk k as))) := by
  obtain ⟨g1, g2, g3⟩ := isGl_ok C hg
  have Ek := B.errs k hk
  by_cases hf : clsFlds k = []
  · rw [hf] at hlen
    obtain rfl : es = [] := List.length_eq_zero_iff.mp hlen
    rw [h0 rfl]
    refine PE.imp (pe_own0 F.excBase_ValueError (Ek.no0 hf) Ek.mg Ek.keep g1 g2) fun σ H Q ⟨F, G, m, ρ, c, s, en, o⟩ a na => ?_
    simp only [evE, evA, R.bind, allT, ofO] at o
    rw [if_pos (by rw [hf]; rfl), hf] at o
    have hF := none_sub s.sub na
    exact o (upd F a (exo a (gaK X.K (clsName k)) none)) _ _ (ex_upd hF) (s.new na) (.ob0 k upd_same)
  · cases es with
    | nil => exact (hf (List.length_eq_zero_iff.mp hlen.symm)).elim
    | cons e es =>
      rw [List.all_cons, Bool.and_eq_true] at hes
      obtain ⟨hc, fI, fd, lv, i1, i2, Fn, hr, hb⟩ := B.inits hh k hk hf
      refine PE.imp (pe_oexV hc i1 i2 Fn hr hb (fun pins σ H s e s2 I z => passAt (W := W0) takes0 σ pins H s e s2 I z) g1 Ek.mg ha g2 (star_of hes.1) (nostars hes.2)) fun σ H Q ⟨F, G, m, ρ, c, s, en, o⟩ => ?_
      simp only [evE] at o
      refine stepA s en (fun _ _ h => h) o fun F1 H1 c1 ds vs e1 s1 en1 r1 hE1 o1 => ?_
      obtain ⟨qs, hq, o2⟩ := out_ofO o1
      have hd := allT_ok r1 hq
      split at o2
      · rename_i hl
        have hvl : vs.length = (clsFlds k).length := by rw [hd.len]; exact hl
        refine ⟨by rw [hvl]; unfold clsFlds; split <;> decide, fun a na => ⟨a, vs, rfl, hvl, upd_same, fun d nd hda => ⟨rfl, ?_⟩⟩⟩
        rw [upd_ne hda] at nd
        have eH : upd (upd (upd H1 a (exo a (gaK X.K (clsName k)) none)) d (exd d ((clsFlds k).zip vs).reverse)) a (exo a (gaK X.K (clsName k)) (some d)) = upd (upd H1 d (exd d ((clsFlds k).zip vs).reverse)) a (exo a (gaK X.K (clsName k)) (some d)) := by
          funext b
          by_cases hb : b = a
          · rw [hb, upd_same, upd_same]
          · rw [upd_ne hb, upd_ne hb]
            by_cases hbd : b = d
            · rw [hbd, upd_same, upd_same]
            · rw [upd_ne hbd, upd_ne hbd, upd_ne hb]
        rw [eH]
        have hF := none_sub s1.sub nd
        have na2 : upd H1 d (exd d ((clsFlds k).zip vs).reverse) a = none := by rw [upd_ne (Ne.symm hda)]; exact na
        have s2 := s1.new (o := exd d ((clsFlds k).zip vs).reverse) nd
        have hF2 := none_sub s2.sub na2
        have ee : Ex F1 (upd (upd F1 d (exd d ((clsFlds k).zip vs).reverse)) a (exo a (gaK X.K (clsName k)) (some d))) := (ex_upd hF).trans (ex_upd hF2)
        exact o2 _ _ _ (e1.trans ee) (s2.new (o := exo a (gaK X.K (clsName k)) (some d)) na2) (.obj k upd_same (by rw [upd_ne hda]; exact upd_same) hf rfl hvl (hd.mono ee))
      · exact o2.elim
/-- what an error's data says -/
theorem obj_inv {K : PySem.W.Frag} {F : Hp} {v : V} {q : PyData} {k : Nat} (h : Dq K F v q) (hk : objCls q = some k) : ∃ a, v = .ref a ∧
    ((F a = some (exo a (gaK K (clsName k)) none) ∧ ∀ f, objFld q f = none) ∨
      ∃ dx xs, F a = some (exo a (gaK K (clsName k)) (some dx)) ∧ F dx = some (exd dx xs) ∧ ∀ f z, objFld q f = some z → ∃ w, xs.lookup f = some w ∧ Dq K F w z) := by
  cases h with
  | @ob0 a k2 h =>
    have : k2 = k := by simpa [objCls, objD] using hk
    subst this
    exact ⟨a, rfl, .inl ⟨h, fun f => rfl⟩⟩
  | @obj a dx k2 ns vs qs h1 h2 h3 h4 h5 hd =>
    have : k2 = k := by simpa [objCls, objD] using hk
    subst this
    subst h4
    refine ⟨a, rfl, .inr ⟨dx, _, h1, h2, fun f z hz => ?_⟩⟩
    have e : objFld (objD k2 ((clsFlds k2).zip qs)) f = ((clsFlds k2).zip qs).lookup f := by
      show (objFs (List.map _ _)).lookup f = _
      rw [objFs_map]
    rw [e] at hz
    exact look_flds h3 hd (by rw [← hd.len, h5]) f z hz
  | non => simp [objCls] at hk
  | bl => simp [objCls] at hk
  | int => simp [objCls] at hk
  | str => simp [objCls] at hk
  | lst => simp [objCls] at hk
  | tup => simp [objCls] at hk
theorem e_ofld (B : ErrsOk X T.ecs) {a : IE} {f : Str} {e' : Expr} {p : Pos} (hn : f ∈ fldNames) (h0 : noCall0 e' = true) (ha : PE X e' (tE X.K hld RX W (evE cl gl a))) :
    PE X (.Attribute e' f p) (tE X.K hld RX W (evE cl gl (.ofld a f T.ecs))) := by
  refine PE.imp (pe_of ha (base_of h0)) fun σ H Q ⟨F, G, m, ρ, c, s, en, o⟩ => ?_
  simp only [evE] at o
  refine stepV s en (fun _ _ h => h) o fun F1 H1 c1 q v e1 s1 en1 r1 hE1 o1 => ?_
  obtain ⟨k, hk, o2⟩ := out_ofO o1
  split at o2
  · rename_i hm
    rw [List.contains_iff_mem] at hm
    obtain ⟨z, hz, o3⟩ := out_ofO o2
    have Ek := B k hm
    obtain ⟨ad, rfl, ⟨_, hno⟩ | ⟨dx, xs, h1, h2, h3⟩⟩ := obj_inv r1 hk
    · rw [hno f] at hz; cases hz
    · obtain ⟨w, hw, rw'⟩ := h3 f z hz
      exact ⟨ad, _, dx, xs, w, rfl, s1.sub _ _ h1, s1.sub _ _ h2, Ek.xf, Ek.fld f hn, hw, o3 F1 H1 w e1 s1 rw'⟩
  · exact o2.elim
theorem e_ois (C : CxOk X T sc W hld) (B : ErrsOk X T.ecs) {a : IE} {ev : Rho → S → R D} {x : Str} {e' : Expr} {cv : Value} {cV : V} {ans : Nat → Bool} {p p2 pos : Pos} (hpl : pl e' = true) (hg : isGl sc ("isinstance" : Str) = true)
    (h2 : PE X (.Name x p2) (tC cV)) (hcv : ∀ u, RelV cV u → u = cv) (hkit : ∀ k ∈ T.ecs, PySem.W.kitOne X.K (.ref (gaK X.K (clsName k))) cv = some (ans k))
    (hev : ∀ ρ c, ev ρ c = (tv (evE cl gl a ρ c)).bind fun q c1 => ofO (objCls q) fun k => if T.ecs.contains k then .ok (.t (.bool (ans k))) c1 else .no)
    (ha : PE X e' (tE X.K hld RX W (evE cl gl a))) : PE X (.Call (.Name ("isinstance" : Str) p) [e', .Name x p2] [] pos) (tE X.K hld RX W ev) := by
  obtain ⟨g1, g2, g3⟩ := isGl_ok C hg
  refine PE.imp (pe_callB call_isO g1 (C.blt _ (by decide)) PyProof.Rows.boot_isinstance (pa_cons ha (pa_cons h2 pa_nil) (star_of hpl)) g3 g2 (star_of hpl) rfl) fun σ H Q ⟨F, G, m, ρ, c, s, en, o⟩ => ?_
  rw [hev] at o
  refine stepV s en (fun _ _ h => h) o fun F1 H1 c1 q v e1 s1 en1 r1 hE1 o1 => ?_
  obtain ⟨k, hk, o2⟩ := out_ofO o1
  split at o2
  · rename_i hm
    rw [List.contains_iff_mem] at hm
    have Ek := B k hm
    have fin : Q (.bl (ans k)) H1 := o2 F1 H1 _ e1 s1 (.bl _)
    obtain ⟨ad, rfl, ⟨h1, _⟩ | ⟨dx, xs, h1, h2, _⟩⟩ := obj_inv r1 hk
    · exact ⟨ad, _, none, cV, cv, ans k, rfl, s1.sub _ _ h1, (fun _ z => by cases z), Ek.ei, hcv, hkit k hm, fin⟩
    · exact ⟨ad, _, some dx, cV, cv, ans k, rfl, s1.sub _ _ h1, (fun _ z => by cases z; exact ⟨xs, s1.sub _ _ h2⟩), Ek.ei, hcv, hkit k hm, fin⟩
  · exact o2.elim
theorem e_oisc (C : CxOk X T sc W hld) (B : ErrsOk X T.ecs) {a : IE} {j : Nat} {e' : Expr} {p p2 pos : Pos} (hj : j ∈ T.ecs) (hpl : pl e' = true) (hg : isGl sc ("isinstance" : Str) = true) (hg2 : isGl sc (clsName j) = true)
    (ha : PE X e' (tE X.K hld RX W (evE cl gl a))) : PE X (.Call (.Name ("isinstance" : Str) p) [e', .Name (clsName j) p2] [] pos) (tE X.K hld RX W (evE cl gl (.oisc a j T.ecs))) := by
  obtain ⟨k1, k2, k3⟩ := isGl_ok C hg2
  refine e_ois (ans := fun k => isSub k j) C B hpl hg (pe_glob (v := .ref (gaK X.K (clsName j))) k1 (B j hj).mg rfl k2) (fun u r => r) (fun k hk => (B k hk).isi j hj) (fun ρ c => by simp only [evE]) ha
theorem e_oisv (C : CxOk X T sc W hld) (B : ErrsOk X T.ecs) {a : IE} {e' : Expr} {p p2 pos : Pos} (hpl : pl e' = true) (hg : isGl sc ("isinstance" : Str) = true) (hg2 : isGl sc ("ValueError" : Str) = true)
    (ha : PE X e' (tE X.K hld RX W (evE cl gl a))) : PE X (.Call (.Name ("isinstance" : Str) p) [e', .Name ("ValueError" : Str) p2] [] pos) (tE X.K hld RX W (evE cl gl (.oisv a T.ecs))) := by
  obtain ⟨k1, k2, k3⟩ := isGl_ok C hg2
  have hn : X.mg "ValueError" = none := C.blt _ (by decide)
  refine e_ois (ans := fun _ => true) C B hpl hg (pe_bltn (v := .ty "ValueError") k1 hn (by decide +kernel) rfl k3 k2) (fun u r => r) (fun k hk => (B k hk).isv) (fun ρ c => by simp only [evE]) ha
end
theorem noset {e : Expr} (h : pl e = true) (op : CmpOp) : behindInMarks op e = false := by
  cases e <;> first | rfl | (simp [pl] at h)
theorem noset2 {a b : Expr} (hb : pl b = true) (o1 o2 : CmpOp) : lastMarks [o1, o2] [a, b] = false := by
  show behindInMarks o2 b = false
  exact noset hb o2
theorem plainIx {e : Expr} (h : pl e = true) : PlainIx e := by
  intro o i
  cases e <;> first | rfl | (simp [pl] at h)
theorem plainT_of {e : Expr} (h : plainT e = true) (hc : ∀ a ops cs p, e ≠ .Compare a ops cs p) {env : Env} : ∀ whole, isTrue e env whole = (do let v ← whole; standAt e.pos; holding [v] (truthy v)) := by
  intro whole
  cases e <;> first
    | rfl
    | (simp [plainT] at h; done)
    | (exact absurd rfl (hc _ _ _ _))
    | (rename_i op _ _; cases op <;> first | rfl | (simp [plainT] at h))
theorem blk_ok {X : Cx} {T : Tx} {sc scope : Scope} {W : WX} {hld : Held} (C : CxOk X T sc W hld) (hh : T.hot = false) (hk : scope.kind = .function) (s : Shared) (H : Hp) (Cc : Addr) (clo : List (Str × Addr)) (fp : List Addr) : CxOk (X.blk s H scope (compEnvC scope clo Cc X.env) fp) T (relS scope sc) W0 hld :=
  ⟨C.N, C.nd, by rw [← C.sc]; rfl, hk, C.calm, C.nh, (fun h => by rw [hh] at h; cases h), takes0, PassesOwn.never, C.hu, C.blt⟩
theorem blkKind {N : List Str} {sc scope : Scope} {own : List (Str × Nat)} (h : blkC N sc scope own = true) : scope.kind = .function := (blkOk_by h).kind
theorem blk_base {X : Cx} {T : Tx} {RX : RXT} {cl : Nat → List D → S → R D} {gl : Nat → Option PyData} (B : BaseOk X T RX cl gl) (s : Shared) (H : Hp) (scope : Scope) (cenv : Env) (fp : List Addr) : BaseOk (X.blk s H scope cenv fp) T RX cl gl :=
  ⟨B.rx, fun hh k x h => ⟨(B.calls hh k x h).ex⟩, fun hh k h h0 => ⟨(B.inits hh k h h0).cls, (B.inits hh k h h0).ex⟩, B.errs, B.globs⟩
section
variable {RX : RXT} {T : Tx} {cl : Nat → List D → S → R D} {gl : Nat → Option PyData}
mutual
theorem E_ok : ∀ (i : IE) {X : Cx} {sc : Scope} {W : WX} {hld : Held} {e : Expr}, CxOk X T sc W hld → BaseOk X T RX cl gl → maE T sc i e = true → PE X e (tE X.K hld RX W (evE cl gl i))
  | .lit d, X, sc, W, _, e, C, B, h => e_lit h
  | .var i, X, sc, W, _, e, C, B, h => by
    cases e <;> try (simp [maE] at h; done)
    exact e_var C h
  | .glob j, X, sc, W, _, e, C, B, h => by
    cases e <;> try (simp [maE] at h; done)
    exact e_glob C B.globs h
  | .bin op a b, X, sc, W, _, e, C, B, h => by
    cases e <;> try (simp [maE] at h; done)
    simp only [maE, Bool.and_eq_true, decide_eq_true_eq] at h
    obtain ⟨⟨rfl, h1⟩, h2⟩ := h
    exact e_bin (E_ok a C B h1) (E_ok b C B h2)
  | .neg a, X, sc, W, _, e, C, B, h => by
    cases e <;> try (simp [maE] at h; done)
    rename_i op x p
    cases op <;> try (simp [maE] at h; done)
    simp only [maE] at h
    exact e_neg (E_ok a C B h)
  | .cmp op a b, X, sc, W, _, e, C, B, h => by
    cases e <;> try (simp [maE] at h; done)
    rename_i l ops cs p
    match ops, cs, h with
    | [o], [r], h =>
      simp only [maE, Bool.and_eq_true, decide_eq_true_eq] at h
      obtain ⟨⟨rfl, h1⟩, h2⟩ := h
      exact e_cmp C (noset (maE_pl h2) _) (E_ok a C B h1) (E_ok b C B h2)
    | [], _, h => simp [maE] at h
    | _ :: _ :: _, _, h => simp [maE] at h
    | [_], [], h => simp [maE] at h
    | [_], _ :: _ :: _, h => simp [maE] at h
  | .chain o1 o2 a b c, X, sc, W, _, e, C, B, h => by
    cases e <;> try (simp [maE] at h; done)
    rename_i l ops cs p
    match ops, cs, h with
    | [p1, p2], [r, q], h =>
      simp only [maE, Bool.and_eq_true, decide_eq_true_eq] at h
      obtain ⟨⟨⟨⟨rfl, rfl⟩, h1⟩, h2⟩, h3⟩ := h
      exact e_chain C (noset2 (maE_pl h3) _ _) (E_ok a C B h1) (E_ok b C B h2) (E_ok c C B h3)
    | [], _, h => simp [maE] at h
    | [_], _, h => simp [maE] at h
    | _ :: _ :: _ :: _, _, h => simp [maE] at h
    | [_, _], [], h => simp [maE] at h
    | [_, _], [_], h => simp [maE] at h
    | [_, _], _ :: _ :: _ :: _, h => simp [maE] at h
  | .and a b, X, sc, W, _, e, C, B, h => by
    cases e <;> try (simp [maE] at h; done)
    rename_i op vs p
    match op, vs, h with
    | .And, x :: y :: r, h =>
      simp only [maE, Bool.and_eq_true] at h
      exact e_and (E_ok a C B h.1) (E_ok b C B h.2)
    | .And, [], h => simp [maE] at h
    | .And, [_], h => simp [maE] at h
    | .Or, _, h => simp [maE] at h
  | .or a b, X, sc, W, _, e, C, B, h => by
    cases e <;> try (simp [maE] at h; done)
    rename_i op vs p
    match op, vs, h with
    | .Or, x :: y :: r, h =>
      simp only [maE, Bool.and_eq_true] at h
      exact e_or (E_ok a C B h.1) (E_ok b C B h.2)
    | .Or, [], h => simp [maE] at h
    | .Or, [_], h => simp [maE] at h
    | .And, _, h => simp [maE] at h
  | .one a, X, sc, W, _, e, C, B, h => by
    cases e <;> try (simp [maE] at h; done)
    rename_i op vs p
    match vs, h with
    | [x], h =>
      simp only [maE] at h
      exact e_one (E_ok a C B h)
    | [], h => simp [maE] at h
    | _ :: _ :: _, h => simp [maE] at h
  | .not t, X, sc, W, _, e, C, B, h => by
    cases e <;> try (simp [maE] at h; done)
    rename_i op x p
    cases op <;> try (simp [maE] at h; done)
    cases t <;> try (simp [maE] at h; done)
    simp only [maE] at h
    exact e_not (E_ok _ C B h)
  | .ite t a b, X, sc, W, _, e, C, B, h => by
    cases e <;> try (simp [maE] at h; done)
    simp only [maE, Bool.and_eq_true] at h
    exact e_ite (T_ok t C B h.1.1) (E_ok a C B h.1.2) (E_ok b C B h.2)
  | .tup es, X, sc, W, _, e, C, B, h => by
    cases e <;> try (simp [maE] at h; done)
    simp only [maE] at h
    exact e_tup (A_ok es C B h)
  | .lst es, X, sc, W, _, e, C, B, h => by
    cases e <;> try (simp [maE] at h; done)
    simp only [maE] at h
    exact e_lst (A_ok es C B h)
  | .sub a b, X, sc, W, _, e, C, B, h => by
    cases e <;> try (simp [maE] at h; done)
    simp only [maE, Bool.and_eq_true] at h
    exact e_sub (plainIx (maE_pl h.2)) (E_ok a C B h.1) (E_ok b C B h.2)
  | .slice a lo hi, X, sc, W, _, e, C, B, h => by
    cases e <;> try (simp [maE] at h; done)
    rename_i x sl p
    cases sl <;> try (simp [maE] at h; done)
    rename_i l u st p2
    cases st <;> try (simp [maE] at h; done)
    simp only [maE, Bool.and_eq_true] at h
    exact e_slice (E_ok a C B h.1.1) (O_ok lo C B h.1.2) (O_ok hi C B h.2)
  | .comp e0 tg it cond, X, sc, W, _, e, C, B, h => by
    cases e <;> try (simp [maE] at h; done)
    rename_i elt gens scope p
    match gens, h with
    | [⟨tg', it', ifs, as⟩], h =>
      simp only [maE, Bool.and_eq_true, decide_eq_true_eq] at h
      obtain ⟨⟨⟨⟨⟨⟨⟨hh, rfl⟩, hp⟩, h1⟩, h2⟩, h3⟩, h4⟩, h5⟩ := h
      rw [Bool.not_eq_true'] at hh
      exact (e_comp C hh hp (I_ok it C B h1) h2 (fun s H Cc clo fp => pg_ok (X := X.blk s H scope (compEnvC scope clo Cc X.env) fp) C.N C.nd (blk_ok C hh (blkKind h2) s H Cc clo fp).sc (C.calm hh) h3)
        (fun s H Cc clo fp => C_ok cond (blk_ok C hh (blkKind h2) s H Cc clo fp) (blk_base B s H scope _ fp) h4) (fun s H Cc clo fp => E_ok e0 (blk_ok C hh (blkKind h2) s H Cc clo fp) (blk_base B s H scope _ fp) h5)).1
    | [], h => simp [maE] at h
    | _ :: _ :: _, h => simp [maE] at h
  | .call k es, X, sc, W, _, e, C, B, h => by
    cases e <;> try (simp [maE] at h; done)
    rename_i f args kws p
    cases f <;> try (simp [maE] at h; done)
    cases kws <;> try (simp [maE] at h; done)
    simp only [maE, Bool.and_eq_true, decide_eq_true_eq] at h
    exact e_call C (Bool.not_eq_true' _ |>.mp h.1.1.1) (maEs_pl h.2) h.1.2 (B.calls (Bool.not_eq_true' _ |>.mp h.1.1.1) _ _ h.1.1.2) (A_ok es C B h.2) (fun e0 => by
      subst e0
      cases es with
      | nil => rfl
      | cons => simp [maEs] at h)
  | .bi b es, X, sc, W, _, e, C, B, h => by
    cases e <;> try (simp [maE] at h; done)
    rename_i f args kws p
    cases f <;> try (simp [maE] at h; done)
    cases kws <;> try (simp [maE] at h; done)
    simp only [maE, Bool.and_eq_true, decide_eq_true_eq] at h
    obtain ⟨⟨⟨hh, rfl⟩, h1⟩, h2⟩ := h
    rw [Bool.not_eq_true'] at hh
    exact e_bi C hh (maEs_pl h2) h1 (A_ok es C B h2) (fun e0 => by
      subst e0
      cases es with
      | nil => rfl
      | cons => simp [maEs] at h2)
  | .me m o a, X, sc, W, _, e, C, B, h => by
    cases e <;> try (simp [maE] at h; done)
    rename_i f args kws p
    cases f <;> try (simp [maE] at h; done)
    cases kws <;> try (simp [maE] at h; done)
    match args, h with
    | [x], h =>
      simp only [maE, Bool.and_eq_true, decide_eq_true_eq] at h
      obtain ⟨⟨⟨⟨rfl, h0⟩, hl⟩, h1⟩, h2⟩ := h
      cases m with
      | join => exact e_join h0 hl (maE_pl h2) (E_ok o C B h1) (E_ok a C B h2)
    | [], h => simp [maE] at h
    | _ :: _ :: _, h => simp [maE] at h
  | .pop0 o a, X, sc, W, _, e, C, B, h => by
    cases e <;> try (simp [maE] at h; done)
    rename_i f args kws p
    cases f <;> try (simp [maE] at h; done)
    cases kws <;> try (simp [maE] at h; done)
    match args, h with
    | [x], h =>
      simp only [maE, Bool.and_eq_true, decide_eq_true_eq] at h
      obtain ⟨⟨⟨⟨rfl, h0⟩, hl⟩, h1⟩, h2⟩ := h
      exact e_pop h0 hl (maE_pl h2) (E_ok o C B h1) (E_ok a C B h2)
    | [], h => simp [maE] at h
    | _ :: _ :: _, h => simp [maE] at h
  | .isi a t, X, sc, W, _, e, C, B, h => by
    cases e <;> try (simp [maE] at h; done)
    rename_i f args kws p
    cases f <;> try (simp [maE] at h; done)
    cases kws <;> try (simp [maE] at h; done)
    match args, h with
    | [], h => simp [maE] at h
    | [_], h => simp [maE] at h
    | _ :: _ :: _ :: _, h => simp [maE] at h
    | [_, y], h =>
      cases y <;> try (simp [maE] at h; done)
      rename_i y p2
      simp only [maE, Bool.and_eq_true, decide_eq_true_eq] at h
      obtain ⟨⟨⟨⟨rfl, g1⟩, rfl⟩, g2⟩, h2⟩ := h
      exact e_isi C (maE_pl h2) g1 g2 (E_ok a C B h2)
  | .mk k es, X, sc, W, _, e, C, B, h => by
    cases e <;> try (simp [maE] at h; done)
    rename_i f args kws p
    cases f <;> try (simp [maE] at h; done)
    cases kws <;> try (simp [maE] at h; done)
    simp only [maE, Bool.and_eq_true, decide_eq_true_eq, List.contains_iff_mem] at h
    obtain ⟨⟨⟨⟨⟨hh, hk⟩, hl⟩, rfl⟩, hg⟩, he⟩ := h
    rw [Bool.not_eq_true'] at hh
    exact e_mk C B hh hk hl hg (maEs_pl he) (A_ok es C B he) (fun e0 => by
      subst e0
      cases es with
      | nil => rfl
      | cons => simp [maEs] at he)
  | .ofld a f ks, X, sc, W, _, e, C, B, h => by
    cases e <;> try (simp [maE] at h; done)
    simp only [maE, Bool.and_eq_true, decide_eq_true_eq, List.contains_iff_mem] at h
    obtain ⟨⟨⟨⟨⟨rfl, rfl⟩, hf⟩, h0⟩, hh⟩, h1⟩ := h
    exact e_ofld B.errs hf h0 (E_ok a C B h1)
  | .oisc a j ks, X, sc, W, _, e, C, B, h => by
    cases e <;> try (simp [maE] at h; done)
    rename_i f args kws p
    cases f <;> try (simp [maE] at h; done)
    cases kws <;> try (simp [maE] at h; done)
    match args, h with
    | [], h => simp [maE] at h
    | [_], h => simp [maE] at h
    | _ :: _ :: _ :: _, h => simp [maE] at h
    | [_, y], h =>
      cases y <;> try (simp [maE] at h; done)
      rename_i y p2
      simp only [maE, Bool.and_eq_true, decide_eq_true_eq, List.contains_iff_mem] at h
      obtain ⟨⟨⟨⟨⟨⟨⟨rfl, hh⟩, hj⟩, rfl⟩, g1⟩, rfl⟩, g2⟩, h2⟩ := h
      exact e_oisc C B.errs hj (maE_pl h2) g1 g2 (E_ok a C B h2)
  | .oisv a ks, X, sc, W, _, e, C, B, h => by
    cases e <;> try (simp [maE] at h; done)
    rename_i f args kws p
    cases f <;> try (simp [maE] at h; done)
    cases kws <;> try (simp [maE] at h; done)
    match args, h with
    | [], h => simp [maE] at h
    | [_], h => simp [maE] at h
    | _ :: _ :: _ :: _, h => simp [maE] at h
    | [_, y], h =>
      cases y <;> try (simp [maE] at h; done)
      rename_i y p2
      simp only [maE, Bool.and_eq_true, decide_eq_true_eq] at h
      obtain ⟨⟨⟨⟨⟨⟨rfl, hh⟩, rfl⟩, g1⟩, rfl⟩, g2⟩, h2⟩ := h
      exact e_oisv C B.errs (maE_pl h2) g1 g2 (E_ok a C B h2)
  | .fld a f, X, sc, W, _, e, C, B, h => by
    cases e <;> try (simp [maE] at h; done)
    simp only [maE, Bool.and_eq_true, decide_eq_true_eq, List.contains_iff_mem] at h
    obtain ⟨⟨⟨⟨rfl, hf⟩, h0⟩, hh⟩, h1⟩ := h
    exact e_fld C B.errs hh hf h0 (E_ok a C B h1)
  | .isc a j, X, sc, W, _, e, C, B, h => by
    cases e <;> try (simp [maE] at h; done)
    rename_i f args kws p
    cases f <;> try (simp [maE] at h; done)
    cases kws <;> try (simp [maE] at h; done)
    match args, h with
    | [], h => simp [maE] at h
    | [_], h => simp [maE] at h
    | _ :: _ :: _ :: _, h => simp [maE] at h
    | [_, y], h =>
      cases y <;> try (simp [maE] at h; done)
      rename_i y p2
      simp only [maE, Bool.and_eq_true, decide_eq_true_eq, List.contains_iff_mem] at h
      obtain ⟨⟨⟨⟨⟨⟨hh, hj⟩, rfl⟩, g1⟩, rfl⟩, g2⟩, h2⟩ := h
      exact e_isc C B.errs hh hj (maE_pl h2) g1 g2 (E_ok a C B h2)
  | .isv a, X, sc, W, _, e, C, B, h => by
    cases e <;> try (simp [maE] at h; done)
    rename_i f args kws p
    cases f <;> try (simp [maE] at h; done)
    cases kws <;> try (simp [maE] at h; done)
    match args, h with
    | [], h => simp [maE] at h
    | [_], h => simp [maE] at h
    | _ :: _ :: _ :: _, h => simp [maE] at h
    | [_, y], h =>
      cases y <;> try (simp [maE] at h; done)
      rename_i y p2
      simp only [maE, Bool.and_eq_true, decide_eq_true_eq] at h
      obtain ⟨⟨⟨⟨⟨hh, rfl⟩, g1⟩, rfl⟩, g2⟩, h2⟩ := h
      exact e_isv C B.errs hh (maE_pl h2) g1 g2 (E_ok a C B h2)
  | .lenset a, X, sc, W, _, e, C, B, h => by
    cases e <;> try (simp [maE] at h; done)
    rename_i f args kws p
    cases f <;> try (simp [maE] at h; done)
    cases kws <;> try (simp [maE] at h; done)
    match args, h with
    | [], h => simp [maE] at h
    | _ :: _ :: _, h => simp [maE] at h
    | [y], h =>
      simp only [maE, Bool.and_eq_true, decide_eq_true_eq] at h
      obtain ⟨⟨⟨hh, rfl⟩, g1⟩, h3⟩ := h
      rw [Bool.not_eq_true'] at hh
      split at h3
      · rename_i z b hc
        obtain ⟨p3, p4, rfl⟩ := callOf_some hc
        simp only [Bool.and_eq_true, decide_eq_true_eq] at h3
        obtain ⟨⟨rfl, g2⟩, h2⟩ := h3
        exact e_lenset C hh (maE_pl h2) g1 g2 (E_ok a C B h2)
      · cases h3
termination_by i => sizeOf i
theorem T_ok : ∀ (i : IT) {X : Cx} {sc : Scope} {W : WX} {hld : Held} {e : Expr}, CxOk X T sc W hld → BaseOk X T RX cl gl → maT T sc i e = true → PT X e (tT X.K hld RX W (evT cl gl i))
  | .val a, X, sc, W, _, e, C, B, h => by
    simp only [maT, Bool.and_eq_true] at h
    by_cases hc : ∃ l ops cs p, e = .Compare l ops cs p
    · obtain ⟨l, ops, cs, p, rfl⟩ := hc
      have h1 := h.1
      cases a with
      | cmp op x y =>
        match ops, cs, h1 with
        | [o], [r], h =>
          simp only [maE, Bool.and_eq_true, decide_eq_true_eq] at h
          obtain ⟨⟨rfl, h1⟩, h2⟩ := h
          exact t_cmp C (noset (maE_pl h2) _) (E_ok x C B h1) (E_ok y C B h2)
        | [], _, h => simp [maE] at h
        | _ :: _ :: _, _, h => simp [maE] at h
        | [_], [], h => simp [maE] at h
        | [_], _ :: _ :: _, h => simp [maE] at h
      | chain o1 o2 x y z =>
        match ops, cs, h1 with
        | [p1, p2], [r, q], h =>
          simp only [maE, Bool.and_eq_true, decide_eq_true_eq] at h
          obtain ⟨⟨⟨⟨rfl, rfl⟩, h1⟩, h2⟩, h3⟩ := h
          exact t_chain C (noset2 (maE_pl h3) _ _) (E_ok x C B h1) (E_ok y C B h2) (E_ok z C B h3)
        | [], _, h => simp [maE] at h
        | [_], _, h => simp [maE] at h
        | _ :: _ :: _ :: _, _, h => simp [maE] at h
        | [_, _], [], h => simp [maE] at h
        | [_, _], [_], h => simp [maE] at h
        | [_, _], _ :: _ :: _ :: _, h => simp [maE] at h
      | lit d => exfalso; cases d <;> simp [maE] at h1
      | not t => exfalso; cases t <;> simp [maE] at h1
      | _ => exfalso; simp [maE] at h1
    · exact t_val (plainT_of h.2 fun l ops cs p e0 => hc ⟨l, ops, cs, p, e0⟩) (E_ok a C B h.1)
  | .not t, X, sc, W, _, e, C, B, h => by
    cases e <;> try (simp [maT] at h; done)
    rename_i op x p
    cases op <;> try (simp [maT] at h; done)
    simp only [maT] at h
    exact t_not (T_ok t C B h)
  | .and a b, X, sc, W, _, e, C, B, h => by
    cases e <;> try (simp [maT] at h; done)
    rename_i op vs p
    match op, vs, h with
    | .And, x :: y :: r, h =>
      simp only [maT, Bool.and_eq_true] at h
      exact (w_and (T_ok a C B h.1) (W_ok b C B h.2)).pt
    | .And, [], h => simp [maT] at h
    | .And, [_], h => simp [maT] at h
    | .Or, _, h => simp [maT] at h
  | .or a b, X, sc, W, _, e, C, B, h => by
    cases e <;> try (simp [maT] at h; done)
    rename_i op vs p
    match op, vs, h with
    | .Or, x :: y :: r, h =>
      simp only [maT, Bool.and_eq_true] at h
      exact (w_or (T_ok a C B h.1) (W_ok b C B h.2)).pt
    | .Or, [], h => simp [maT] at h
    | .Or, [_], h => simp [maT] at h
    | .And, _, h => simp [maT] at h
  | .one a, X, sc, W, _, e, C, B, h => by
    cases e <;> try (simp [maT] at h; done)
    rename_i op vs p
    match op, vs, h with
    | .And, [x], h =>
      simp only [maT] at h
      exact (w_one_and (T_ok a C B h)).pt
    | .Or, [x], h =>
      simp only [maT] at h
      exact (w_one_or (T_ok a C B h)).pt
    | _, [], h => simp [maT] at h
    | _, _ :: _ :: _, h => simp [maT] at h
termination_by i => sizeOf i
theorem W_ok : ∀ (i : IT) {X : Cx} {sc : Scope} {W : WX} {hld : Held} {op : BoolOp} {vs : List Expr} {p : Pos}, CxOk X T sc W hld → BaseOk X T RX cl gl → maT T sc i (.BoolOp op vs p) = true → PW X (.BoolOp op vs p) (tT X.K hld RX W (evT cl gl i))
  | .val a, X, sc, W, _, op, vs, p, C, B, h => by simp [maT, plainT] at h
  | .not t, X, sc, W, _, op, vs, p, C, B, h => by simp [maT] at h
  | .and a b, X, sc, W, _, op, vs, p, C, B, h => by
    match op, vs, h with
    | .And, x :: y :: r, h =>
      simp only [maT, Bool.and_eq_true] at h
      exact w_and (T_ok a C B h.1) (W_ok b C B h.2)
    | .And, [], h => simp [maT] at h
    | .And, [_], h => simp [maT] at h
    | .Or, _, h => simp [maT] at h
  | .or a b, X, sc, W, _, op, vs, p, C, B, h => by
    match op, vs, h with
    | .Or, x :: y :: r, h =>
      simp only [maT, Bool.and_eq_true] at h
      exact w_or (T_ok a C B h.1) (W_ok b C B h.2)
    | .Or, [], h => simp [maT] at h
    | .Or, [_], h => simp [maT] at h
    | .And, _, h => simp [maT] at h
  | .one a, X, sc, W, _, op, vs, p, C, B, h => by
    match op, vs, h with
    | .And, [x], h =>
      simp only [maT] at h
      exact w_one_and (T_ok a C B h)
    | .Or, [x], h =>
      simp only [maT] at h
      exact w_one_or (T_ok a C B h)
    | _, [], h => simp [maT] at h
    | _, _ :: _ :: _, h => simp [maT] at h
termination_by i => sizeOf i
theorem A_ok : ∀ (i : IEs) {X : Cx} {sc : Scope} {W : WX} {hld : Held} {es : List Expr}, CxOk X T sc W hld → BaseOk X T RX cl gl → maEs T sc i es = true → PA X es (tA X.K hld RX W (evA cl gl i))
  | .nil, X, sc, W, _, [], C, B, h => a_nil
  | .nil, X, sc, W, _, _ :: _, C, B, h => by simp [maEs] at h
  | .cons a as, X, sc, W, _, [], C, B, h => by simp [maEs] at h
  | .cons a as, X, sc, W, _, e :: es, C, B, h => by
    simp only [maEs, Bool.and_eq_true] at h
    exact a_cons (maE_pl h.1) (E_ok a C B h.1) (A_ok as C B h.2)
termination_by i => sizeOf i
theorem O_ok : ∀ (i : IEo) {X : Cx} {sc : Scope} {W : WX} {hld : Held} {e : Option Expr}, CxOk X T sc W hld → BaseOk X T RX cl gl → maO T sc i e = true → PO X e (tO X.K hld RX W (evO cl gl i))
  | .none, X, sc, W, _, none, C, B, h => o_none
  | .none, X, sc, W, _, some _, C, B, h => by simp [maO] at h
  | .some a, X, sc, W, _, none, C, B, h => by simp [maO] at h
  | .some a, X, sc, W, _, some e, C, B, h => by
    simp only [maO] at h
    exact o_some (E_ok a C B h)
termination_by i => sizeOf i
theorem C_ok : ∀ (i : ITo) {X : Cx} {sc : Scope} {W : WX} {hld : Held} {es : List Expr}, CxOk X T sc W hld → BaseOk X T RX cl gl → maC T sc i es = true → PTs X es (tT X.K hld RX W (evC cl gl i))
  | .none, X, sc, W, _, [], C, B, h => ⟨fun pins s σ H Q I ⟨F, G, m, ρ, c, st, en, o⟩ => pts_nil.run pins s σ H Q I (by
      simp only [evC] at o
      exact o F H (Ex.refl F) st)⟩
  | .none, X, sc, W, _, _ :: _, C, B, h => by simp [maC] at h
  | .some t, X, sc, W, _, [e], C, B, h => by
    simp only [maC] at h
    exact ⟨fun pins s σ H Q I q => (pts_one (T_ok t C B h)).run pins s σ H Q I (by simpa only [tT, evC] using q)⟩
  | .some t, X, sc, W, _, [], C, B, h => by simp [maC] at h
  | .some t, X, sc, W, _, _ :: _ :: _, C, B, h => by simp [maC] at h
termination_by i => sizeOf i
theorem I_ok : ∀ (i : II) {X : Cx} {sc : Scope} {W : WX} {hld : Held} {tg e : Expr}, CxOk X T sc W hld → BaseOk X T RX cl gl → maI T sc i tg e = true → PI X tg e (tIt X.K hld RX W (evI cl gl i))
  | .seq a, X, sc, W, _, tg, e, C, B, h => by
    simp only [maI] at h
    exact i_seq (E_ok a C B h)
  | .rng1 a, X, sc, W, _, tg, e, C, B, h => by
    simp only [maI] at h
    split at h
    · rename_i x e' hc
      obtain ⟨p, pos, rfl⟩ := callOf_some hc
      simp only [Bool.and_eq_true, decide_eq_true_eq] at h
      obtain ⟨⟨rfl, h1⟩, h2⟩ := h
      exact i_rng1 C (maE_pl h2) h1 (E_ok a C B h2)
    · cases h
  | .rng2 a b, X, sc, W, _, tg, e, C, B, h => by
    simp only [maI] at h
    split at h
    · rename_i x a' b' hc
      obtain ⟨p, pos, rfl⟩ := callOf_some hc
      simp only [Bool.and_eq_true, decide_eq_true_eq] at h
      obtain ⟨⟨⟨rfl, h1⟩, h2⟩, h3⟩ := h
      exact i_rng2 C (maE_pl h2) (maE_pl h3) h1 (E_ok a C B h2) (E_ok b C B h3)
    · cases h
  | .zip a b, X, sc, W, _, tg, e, C, B, h => by
    simp only [maI] at h
    split at h
    · rename_i x a' b' hc
      obtain ⟨p, pos, rfl⟩ := callOf_some hc
      simp only [Bool.and_eq_true, decide_eq_true_eq] at h
      obtain ⟨⟨⟨⟨ht, rfl⟩, h1⟩, h2⟩, h3⟩ := h
      obtain ⟨es, k, p2, rfl⟩ := isTup_some ht
      exact i_zip C (maE_pl h2) (maE_pl h3) h1 (E_ok a C B h2) (E_ok b C B h3)
    · cases h
  | .enum a, X, sc, W, _, tg, e, C, B, h => by
    simp only [maI] at h
    split at h
    · rename_i x a' hc
      obtain ⟨p, pos, rfl⟩ := callOf_some hc
      simp only [Bool.and_eq_true, decide_eq_true_eq] at h
      obtain ⟨⟨⟨ht, rfl⟩, h1⟩, h2⟩ := h
      obtain ⟨es, k, p2, rfl⟩ := isTup_some ht
      exact i_enum C (maE_pl h2) h1 (E_ok a C B h2)
    · cases h
termination_by i => sizeOf i
end
end
end SK

namespace SK
open PySem PySem.Spec PyProof.Rows L2
section
variable {X : Cx} {C : Addr} {bmB : List Value} {B newId initId : String}
/-- an own error class called with nothing -/
theorem mk_own0 {x : Str} {p pos : Pos} (F : ExcBaseFacts B newId initId bmB) (q : PySem.W.excIn X.K C bmB newId = true) (gC : X.mg x = some (.ref C)) (kC : PySem.W.keepIn X.K (.ref C) = true) (r : Raises X (.ref C)) (hg : Gl X x)
    (hdb : (x == ("__debug__" : Str)) = false) : PMk X (.Call (.Name x p) [] [] pos) (fun _ H Q => Q (.ref C) none H) := by
  intro ps s σ H Q I h
  apply wpAny_Call_Name_kw
  apply ld_glob I hg gC _ hdb
  refine PySem.W.callWith_K0 I.kIn kC ?_
  obtain ⟨_, _, _, _, _, _, _, _, _, _, _, _, _, _, _, _, _, hC, hN, hni, T⟩ := exc_obj I.kIn q
  refine wpAny_call_exc_subT F T hC hN hni (fun h' e hm => mk_of I hm r h (I.hok.gone hm.new)) (Nat.zero_le _)
end
end SK
/-! XE2: a try with any number of clauses, each with a name for the error or with none. -/
namespace SK
open PySem PySem.Spec PyProof.Rows L2
/-- one clause: its class, the slot of its name if it has one, what its suite asks for -/
structure Cl where
  c : Value
  i : Option Nat
  ts : Addr → Value → Option Addr → TS
def clD (D : Ends) : Option Nat → Ends
  | none => D
  | some i => { nx := fun τ J => D.nx (τ.set i none) J, rt := D.rt, bk := fun τ J => D.bk (τ.set i none) J, ct := fun τ J => D.ct (τ.set i none) J }
def clS (τ : L2.St) (e : Addr) : Option Nat → L2.St
  | none => τ
  | some i => τ.set i (some (.ref e))
def wCl (K : PySem.W.Frag) (Wo : WX) (D : Ends) : List Cl → WX
  | [] => Wo
  | k :: r => fun t d τ J => ∃ b, PySem.W.exmOne K t k.c = some b ∧ (b = true → ∀ e, J e = none → k.ts e t d (clD D k.i) (clS τ e k.i) J) ∧ (b = false → wCl K Wo D r t d τ J)
def clN (X : Cx) : Option Str → Option Nat → Prop
  | none, none => True
  | some n, some i => X.N.Nodup ∧ X.N[i]? = some n ∧ X.env.kindOf n = some .local
  | _, _ => False
inductive ClOk (X : Cx) : List ExceptHandler → List Cl → Prop
  | nil : ClOk X [] []
  | cons {x : Str} {k : Cl} {on : Option Str} {b : Stmt} {bs : List Stmt} {p q : Pos} {hs : List ExceptHandler} {ks : List Cl} (nm : Names X x k.c) (hn : clN X on k.i)
      (su : ∀ (e : Addr) (o : Obj) (t : Value) (d : Option Addr) (ps : List (Addr × Obj)), Zc t d o → (∃ vs, o.data = .fields vs) → PSs (X.suite e ((e, o) :: ps)) (b :: bs) (k.ts e t d)) (r : ClOk X hs ks) :
      ClOk X (.ExceptHandler (some (.Name x p)) on (b :: bs) q :: hs) (k :: ks)
section
variable {X : Cx} {body : List Stmt} {hd : ExceptHandler} {hs : List ExceptHandler} {ks : List Cl} {pos : Pos} {tb : WX → TS} {Wo : WX}
theorem try_cl (st : X.stack = X.env :: X.outer) (fr : X.env.frame = some X.env.locals) (tk : Takes X Wo)
    (hb : ∀ (V : WX) (ps : List (Addr × Obj)) (xe : Value → Shared → Prop), Takes (X.tr ps xe) V → PassesOwn (model X.prog X.w) X.A X.env xe → PSs (X.tr ps xe) body (tb V))
    (ok : ClOk X (hd :: hs) ks) : PS X (.Try body (hd :: hs) [] [] pos) (fun D τ J => tb (wCl X.K Wo D ks) D τ J) := by
  refine ⟨fun ps s τ J D I h => ?_⟩
  have frs0 : X.A.frames = some (X.env :: X.outer) := by rw [I.ok.frames, st]
  apply wpAny_Try_except
  refine wpAny_mono ((hb (wCl X.K Wo D ks) (X.pn ++ ps) (fun e z1 => wpAny (model X.prog X.w) X.A (noteFrame e X.env) (fun _ z2 => wpAny (model X.prog X.w) X.A (setFlight e none) (fun _ z3 => wpAny (model X.prog X.w) X.A (handleBy e X.env (hd :: hs)) (SP X ps D) X.xe z3) X.xe z2) X.xe z1) ?caught PassesOwn.looking).run [] s τ J D (I.toTry _) h) ?done (fun e z he => he)
  case caught =>
    rintro u z ⟨a, G, sb, qs, τ', J', t, d, rfl, I', nb, up, sky, na, os, ag, w⟩
    have I1 : L2.Inv X ps τ' J' sb := I'.ofTry I.ok
    show wpAny (model X.prog X.w) X.A (noteFrame (.ref a) X.env) _ _ _
    refine Sky.land Zc.steady frs0 fr (by rw [← st]; exact sky) fun h3 fl up3 => ?_
    have I3 : L2.Inv X ps τ' J' { z with heap := h3 } := I1.landed nb fl.1 (up.trans up3) os ag
    obtain ⟨o3, v3, g3, z3, d3⟩ := fl.there
    have out : a ∉ L2.frs (X.env :: X.outer) := fun m => by
      obtain ⟨_, o', e', nf⟩ := fl.2.2.1.mem m
      rw [g3] at e'
      cases e'
      exact nf _ d3
    have out1 : a ≠ X.env.locals := fun y => out (List.mem_filterMap.mpr ⟨X.env, List.mem_cons_self, by rw [fr, y]⟩)
    have out2 : a ∉ X.fs := fun m => by
      obtain ⟨e, he, q⟩ := List.mem_filterMap.mp m
      exact out (List.mem_filterMap.mpr ⟨e, List.mem_cons_of_mem _ he, q⟩)
    have I4 := I3.suite g3 d3 na out1 out2
    have all : ∀ {gs : List ExceptHandler} {js : List Cl}, ClOk X gs js → wCl X.K Wo D js t d τ' J' → wpAny (model X.prog X.w) X.A (handleBy (.ref a) X.env gs) (SP X ps D) X.xe { z with heap := h3 } := by
      intro gs js kk
      induction kk with
      | nil =>
        intro w
        apply wpAny_handleBy_nil
        obtain ⟨_, _, _, ob, vs, T, oT, ts', he, hz, hdd, h1, hr⟩ := id fl
        unfold PySem.passOn
        refine wpAny_bind (wpAny_field he hdd h1 ?_)
        rw [if_neg (show ¬ ((Value.ref T == Value.none) = true) from by simp)]
        have last : wpAny (model X.prog X.w) X.A (setFlight (.ref a) X.env.frame) (fun _ y => wpAny (model X.prog X.w) X.A (throw (.ref a) : Sem Flow) (SP X ps D) X.xe y) X.xe { z with heap := h3 } := by
          rw [fr]
          exact HandSPX.setFlight_upZ fl fun h4 hh up4 => wpAny_throw (tk _ _ ⟨a, G, sb, ps, τ', J', t, d, rfl, I1, nb, (up.trans up3).trans up4, .inr (.inr (by rw [st]; exact hh)), na, os, ag, w⟩)
        first | exact wpAny_bind (wpAny_pure (wpAny_bind last)) | exact wpAny_bind last
      | @cons x k on b bs p q gs2 js2 nm hn su r ih =>
        rintro ⟨yes, hm, hy, hno⟩
        refine wpAny_handleBy_cons (codeAny_handlers_test ?_) (by intro q; cases q)
        have lt : PySem.W.Looks (model X.prog X.w) h3 (typeOf (.ref a)) t := fun A Q E s k q => wpAny_typeOf_ref (k _ _ g3) (by rw [z3.1]; exact q)
        have lm := PySem.W.exm_one (M := model X.prog X.w) I3.kIn lt hm
        have name : ∀ {Q : Value → Shared → Prop} {E : Value → Shared → Prop}, Q k.c { z with heap := h3 } → wpAny (model X.prog X.w) (X.A.mark (some (.ref a))) (eval (.Name x p) X.env) Q E { z with heap := h3 } := fun {Q E} q => by
          rcases nm with ⟨g, db, m1 | ⟨m1, bv, n2⟩⟩
          · exact ld_glob (X := X.suite a ((a, o3) :: (X.pn ++ ps))) I4 g m1 q db
          · exact ld_blt (X := X.suite a ((a, o3) :: (X.pn ++ ps))) I4 g m1 bv q n2 db
        refine name (lm.here ?_)
        cases yes with
        | false =>
          show wpAny _ X.A (handleBy (.ref a) X.env gs2) _ _ _
          exact ih (hno rfl)
        | true =>
          have wish := hy rfl a na
          obtain ⟨kc, ki, kts⟩ := k
          cases on with
          | none =>
            cases ki with
            | some i => exact False.elim hn
            | none =>
              apply codeAny_handlers_suite
              refine HandSPX.lands_againZ fl fun h4 fl4 up4 => ?_
              obtain ⟨o4, v4, g4, z4, d4⟩ := fl4.there
              have I5 := (I1.landed nb fl4.1 ((up.trans up3).trans up4) os ag : L2.Inv X ps τ' J' { z with heap := h4 }).suite g4 d4 na out1 out2
              refine wpAny_mono ((su a o4 t d (X.pn ++ ps) z4 ⟨_, d4⟩).run [] _ _ J' _ I5 wish) (fun f y hp => ?_) (fun _ _ y => False.elim y)
              cases f
              case ret u => exact hp.elim fun v r => r.elim fun τ6 r => r.elim fun J6 r => ⟨v, τ6, J6, r.1.unsuite I.ok, r.2.1, r.2.2⟩
              all_goals exact hp.elim fun τ6 r => r.elim fun J6 r => ⟨τ6, J6, r.1.unsuite I.ok, r.2⟩
          | some n =>
            cases ki with
            | none => exact False.elim hn
            | some i =>
              obtain ⟨nd, ix, lc⟩ := hn
              apply codeAny_handlers_suite_as
              refine HandSPX.lands_againZ fl fun h4 fl4 up4 => ?_
              obtain ⟨o4, v4, g4, z4, d4⟩ := fl4.there
              have I5 := (I1.landed nb fl4.1 ((up.trans up3).trans up4) os ag : L2.Inv X ps τ' J' { z with heap := h4 }).suite g4 d4 na out1 out2
              refine store_ok (X := X.suite a ((a, o4) :: (X.pn ++ ps))) (v := .ref a) I5 nd ix (.inl lc) rfl (fun s5 I6 => ?_) (.inr lc)
              refine wpAny_mono ((su a o4 t d (X.pn ++ ps) z4 ⟨_, d4⟩).run [] s5 _ J' _ I6 wish) (fun f y hp => ?_) (fun _ _ y => False.elim y)
              have off : ∀ {τ6 : L2.St} {J6 : Hp} {Q : Shared → Prop}, L2.Inv (X.suite a ((a, o4) :: (X.pn ++ ps))) [] τ6 J6 y → (∀ s7, L2.Inv X ps (τ6.set i none) J6 s7 → Q s7) →
                  wpAny (model X.prog X.w) X.A (do bindName X.env n .none; unbindBehindTheSuite X.env n q) (fun _ s7 => Q s7) X.xe y := fun I7 hq => gone_ok (I7.unsuite I.ok) nd ix lc hq
              cases f
              case ret u => exact hp.elim fun v r => r.elim fun τ6 r => r.elim fun J6 r => off r.1 fun s7 I7 => ⟨v, _, J6, I7, r.2.1, r.2.2⟩
              all_goals exact hp.elim fun τ6 r => r.elim fun J6 r => off r.1 fun s7 I7 => ⟨_, J6, I7, r.2⟩
    exact all ok w
  case done =>
    intro f z hp
    cases f
    case next => exact hp.elim fun τ6 r => r.elim fun J6 r => wpAny_execs_nil ⟨τ6, J6, r.1.ofTry I.ok, r.2⟩
    case ret u => exact hp.elim fun v r => r.elim fun τ6 r => r.elim fun J6 r => ⟨v, τ6, J6, r.1.ofTry I.ok, r.2.1, r.2.2⟩
    all_goals exact hp.elim fun τ6 r => r.elim fun J6 r => ⟨τ6, J6, r.1.ofTry I.ok, r.2⟩
end
end SK

/-! SKB: every statement that a piece stands for keeps the piece's promise. -/
namespace SK
open PySem PySem.Spec PyProof.Rows L2
open Evl (Ex)
section
variable (K : PySem.W.Frag) (hld : Held) (RX : RXT) (W : WX)
def PSt (G F : Hp) (m : List Addr) (n : Nat) (D : Ends) : Fl × Rho → S → Prop := fun p c' => ∀ F' m' H' σ', Ex F F' → m <+: m' → StOk K G F' m' H' c' → EnvOk K hld F' m' σ' p.2 → σ'.length = n → match p.1 with
  | .nx => D.nx σ' H'
  | .ret d => ∀ v, RepD K hld G F' m' H' d v → D.rt v H'
  | .brk => D.bk σ' H'
  | .con => D.ct σ' H'
def ExS (G F : Hp) (m : List Addr) (n : Nat) : Exn → S → Prop := fun e c' => ∀ F' m' H' (σ' : L2.St) cls dd, Ex F F' → m <+: m' → StOk K G F' m' H' c' → EnvOk K hld F' m' σ' e.env → σ'.length = n → RX e.cls e.fs cls dd F' → W cls dd σ' H'
def tS (ev : Rho → S → RS) : TS := fun D σ H => ∃ F G m ρ c, StOk K G F m H c ∧ EnvOk K hld F m σ ρ ∧ Out (ev ρ c) (PSt K hld G F m σ.length D) (ExS K hld RX W G F m σ.length)
end
section
variable {hld : Held} {RX : RXT} {W : WX} {X : Cx} {T : Tx} {sc : Scope} {cl : Nat → List D → S → R D} {gl : Nat → Option PyData} {wf : Nat}
variable {K : PySem.W.Frag} {G F F1 : Hp} {m m1 : List Addr} {H : Hp} {c : S} {σ : L2.St} {ρ : Rho}
theorem ExS.ex {n : Nat} (hn : σ.length = n) {x : Exn} {c' : S} (h : ExS K hld RX W G F m n x c') : ExP K hld RX W G F m σ x c' := fun F' H' cls dd e s en r => h F' m H' σ cls dd e pfx s en hn r
theorem ExS.mono (e : Ex F F1) (hm : m <+: m1) {n : Nat} {x : Exn} {c' : S} (h : ExS K hld RX W G F m n x c') : ExS K hld RX W G F1 m1 n x c' := fun F' m' H' σ' cls dd e' hm' => h F' m' H' σ' cls dd (e.trans e') (hm.trans hm')
theorem PSt.mono {n : Nat} {D : Ends} (e : Ex F F1) (hm : m <+: m1) {p : Fl × Rho} {c' : S} (h : PSt K hld G F m n D p c') : PSt K hld G F1 m1 n D p c' := fun F' m' H' σ' e' hm' => h F' m' H' σ' (e.trans e') (hm.trans hm')
theorem PSs.imp {X : Cx} {e : List Stmt} {t t' : TS} (h : PSs X e t) (hi : ∀ D σ H, t' D σ H → t D σ H) : PSs X e t' := ⟨fun pins s σ H D I q => h.run pins s σ H D I (hi D σ H q)⟩
theorem PS.imp {X : Cx} {e : Stmt} {t t' : TS} (h : PS X e t) (hi : ∀ D σ H, t' D σ H → t D σ H) : PS X e t' := ⟨fun pins s σ H D I q => h.run pins s σ H D I (hi D σ H q)⟩
theorem swaps_no {e : Expr} {t : Option Expr} {l : Nat} {env : Env} (h : noComp e = true) : swapsWith e t l env = pure false := by
  cases e <;> first | rfl | (simp [noComp] at h)
theorem compLine_no {sc : Scope} {x : Str} {p : Pos} {e : Expr} (h : compLine sc x p e = true) : noComp e = true ∨ ∃ a b c d, e = .ListComp a b c d := by
  cases e <;> first | (exact .inl rfl) | (exact .inr ⟨_, _, _, _, rfl⟩) | (simp [compLine] at h)
theorem swaps_cell {elt : Expr} {gs : List Comprehension} {scope : Scope} {pos py : Pos} {y : Str} {l : Nat} {env : Env} (hy : env.scope.names.lookup y = some .cell) : swapsWith (.ListComp elt gs scope pos) (some (.Name y py)) l env = pure false := by
  have ky : env.kindOf y = some .cell := hy
  have kf : (some NameKind.cell == some NameKind.local) = false := by decide
  unfold swapsWith
  simp only [ky, kf, Bool.and_false, Bool.false_and]
/-- name = value, whatever the value's form -/
theorem ps_name (C : CxOk X T sc W hld) (B : BaseOk X T RX cl gl) (hfn : ∀ x, X.fn x = true) {i : Nat} {a : IE} {x : Str} {p pos : Pos} {e : Expr} (hn : maNameF T sc i (.Name x p) = true) (he : maE T sc a e = true) (hc : compLine sc x p e = true) :
    PS X (.Assign [.Name x p] e pos) (tAsg (tE X.K hld RX W (evE cl gl a)) (gName i)) := by
  simp only [maNameF, Bool.and_eq_true, decide_eq_true_eq] at hn
  obtain ⟨⟨h1, h2⟩, h3⟩ := hn
  have hloc := isLocF_ok C.sc h2
  have hi : X.N[i]? = some x := by rw [C.N]; exact h1
  rcases compLine_no hc with h | ⟨elt, gens, scope, cp, rfl⟩
  · exact ps_set C.nd hi hloc (E_ok a C B he) (swaps_no h) (.inl (hfn x))
  rcases hloc with hl | hl
  rotate_left
  · exact ps_set C.nd hi (.inr hl) (E_ok a C B he) (swaps_cell hl) (.inl (hfn x))
  · cases a with
    | comp e0 tg it cond =>
      match gens, he with
      | [⟨tg', it', ifs, as⟩], he =>
        simp only [maE, Bool.and_eq_true, decide_eq_true_eq] at he
        obtain ⟨⟨⟨⟨⟨⟨⟨hh, rfl⟩, hp⟩, h1'⟩, h2'⟩, h3'⟩, h4'⟩, h5'⟩ := he
        rw [Bool.not_eq_true'] at hh
        have hc : (p.line == cp.line) = true ∧ (scope.names.any fun (n, k) => n == x && (k == .local || k == .cell)) = false := by
          rw [C.sc] at hl
          simp only [compLine, hl, Bool.or_eq_true, decide_eq_true_eq, Bool.and_eq_true, Bool.not_eq_true'] at hc
          rcases hc with hc | hc
          · cases hc
          · exact hc
        refine (e_comp C hh hp (I_ok it C B h1') h2' (fun s H Cc clo fp => pg_ok (X := X.blk s H scope (compEnvC scope clo Cc X.env) fp) C.N C.nd (blk_ok C hh (blkKind h2') s H Cc clo fp).sc (C.calm hh) h3')
          (fun s H Cc clo fp => C_ok cond (blk_ok C hh (blkKind h2') s H Cc clo fp) (blk_base B s H scope _ fp) h4') (fun s H Cc clo fp => E_ok e0 (blk_ok C hh (blkKind h2') s H Cc clo fp) (blk_base B s H scope _ fp) h5')).2 hi hl ?_
        exact sw_true C.kind hl hc.1 hc.2
      | [], he => simp [maE] at he
      | _ :: _ :: _, he => simp [maE] at he
    | lit d => cases d <;> simp [maE] at he
    | not t => cases t <;> simp [maE] at he
    | _ => simp [maE] at he
theorem s_asg (C : CxOk X T sc W hld) (B : BaseOk X T RX cl gl) (hfn : ∀ x, X.fn x = true) {i : Nat} {a : IE} {x : Str} {p pos : Pos} {e : Expr} (hn : maNameF T sc i (.Name x p) = true) (he : maE T sc a e = true) (hc : compLine sc x p e = true) :
    PS X (.Assign [.Name x p] e pos) (tS X.K hld RX W (exS cl gl wf (.asg i a))) := by
  refine PS.imp (ps_name C B hfn hn he hc) fun D σ H ⟨F, G, m, ρ, c, s, en, o⟩ => ?_
  simp only [exS] at o
  refine step s en (fun _ _ h => h.ex rfl) o fun F1 H1 c1 d v e1 s1 en1 r1 hE1 o1 => ?_
  exact o1 F1 m H1 _ e1 pfx s1 (en1.set i r1) (List.length_set ..)
theorem s_cell (C : CxOk X T sc W hld) (B : BaseOk X T RX cl gl) (hfn : ∀ x, X.fn x = true) {i : Nat} {a : IE} {x : Str} {p pos : Pos} {e : Expr} (hn : maNameF T sc i (.Name x p) = true) (he : maE T sc a e = true) (hc : compLine sc x p e = true) :
    PS X (.Assign [.Name x p] e pos) (tS X.K hld RX W (exS cl gl wf (.cell i a))) := by
  refine PS.imp (ps_name C B hfn hn he hc) fun D σ H ⟨F, G, m, ρ, c, s, en, o⟩ => ?_
  simp only [exS] at o
  refine stepD s en (fun _ _ h => h.ex rfl) o fun F1 H1 c1 d v e1 s1 en1 r1 hE1 o1 => ?_
  split at o1
  · rename_i ds
    obtain ⟨ad, xs, rfl, hp, hF, hm, hG, hd⟩ := r1
    have hm2 : m <+: m ++ [ad] := List.prefix_append _ _
    refine o1 F1 (m ++ [ad]) H1 _ e1 hm2 (s1.cell hp hF hm hG hd) ((en1.mono (Ex.refl F1) hm2).set i (d := .ref c1.length) ⟨ad, rfl, ?_⟩) (List.length_set ..)
    rw [← s1.len]
    simp
  · exact o1.elim
theorem s_ife (C : CxOk X T sc W hld) {t : IT} {a b : ISs} {t' : Expr} {a' b' : List Stmt} {p : Pos} (ht : PT X t' (tT X.K hld RX W (evT cl gl t))) (ha : PSs X a' (tS X.K hld RX W (exSs cl gl wf a))) (hb : PSs X b' (tS X.K hld RX W (exSs cl gl wf b))) :
    PS X (.If t' a' b' p) (tS X.K hld RX W (exS cl gl wf (.ife t a b))) := by
  refine PS.imp (ps_if ht ha hb) fun D σ H ⟨F, G, m, ρ, c, s, en, o⟩ => ?_
  simp only [exS] at o
  refine stepT s en (fun _ _ h => h.ex rfl) o fun F1 H1 c1 z e1 s1 en1 hE1 o1 => ?_
  cases z with
  | true => exact ⟨F1, G, m, ρ, c1, s1, en1, o1.imp (fun _ _ h => h.mono e1 pfx) (fun _ _ h => h.mono e1 pfx)⟩
  | false => exact ⟨F1, G, m, ρ, c1, s1, en1, o1.imp (fun _ _ h => h.mono e1 pfx) (fun _ _ h => h.mono e1 pfx)⟩
theorem s_ret {a : IE} {a' : Expr} {p : Pos} (ha : PE X a' (tE X.K hld RX W (evE cl gl a))) : PS X (.Return (some a') p) (tS X.K hld RX W (exS cl gl wf (.ret a))) := by
  refine PS.imp (ps_ret ha) fun D σ H ⟨F, G, m, ρ, c, s, en, o⟩ => ?_
  simp only [exS] at o
  refine stepD s en (fun _ _ h => h.ex rfl) o fun F1 H1 c1 d v e1 s1 en1 r1 hE1 o1 => ?_
  exact o1 F1 m H1 σ e1 pfx s1 en1 rfl v r1
theorem s_retn {p : Pos} : PS X (.Return none p) (tS X.K hld RX W (exS cl gl wf .retn)) := by
  refine PS.imp ps_retN fun D σ H ⟨F, G, m, ρ, c, s, en, o⟩ => ?_
  simp only [exS] at o
  exact o F m H σ (Ex.refl F) pfx s en rfl _ .non
theorem s_exp {a : IE} {a' : Expr} {p : Pos} (hc : noComp a' = true) (ha : PE X a' (tE X.K hld RX W (evE cl gl a))) : PS X (.Expr a' p) (tS X.K hld RX W (exS cl gl wf (.exp a))) := by
  refine PS.imp (ps_expr ha (swaps_no hc)) fun D σ H ⟨F, G, m, ρ, c, s, en, o⟩ => ?_
  simp only [exS] at o
  refine stepD s en (fun _ _ h => h.ex rfl) o fun F1 H1 c1 d v e1 s1 en1 r1 hE1 o1 => ?_
  exact o1 F1 m H1 σ e1 pfx s1 en1 rfl
theorem s_nx {st : Stmt} (h : PS X st tNext) : PS X st (tS X.K hld RX W (exS cl gl wf .pas)) := by
  refine PS.imp h fun D σ H ⟨F, G, m, ρ, c, s, en, o⟩ => ?_
  simp only [exS] at o
  exact o F m H σ (Ex.refl F) pfx s en rfl
theorem s_brk {p : Pos} : PS X (.Break p) (tS X.K hld RX W (exS cl gl wf .brk)) := by
  refine PS.imp ps_break fun D σ H ⟨F, G, m, ρ, c, s, en, o⟩ => ?_
  simp only [exS] at o
  exact o F m H σ (Ex.refl F) pfx s en rfl
theorem s_con {p : Pos} : PS X (.Continue p) (tS X.K hld RX W (exS cl gl wf .con)) := by
  refine PS.imp ps_continue fun D σ H ⟨F, G, m, ρ, c, s, en, o⟩ => ?_
  simp only [exS] at o
  exact o F m H σ (Ex.refl F) pfx s en rfl
theorem ss_nil : PSs X [] (tS X.K hld RX W (exSs cl gl wf .nil)) := by
  refine PSs.imp pss_nil fun D σ H ⟨F, G, m, ρ, c, s, en, o⟩ => ?_
  simp only [exSs] at o
  exact o F m H σ (Ex.refl F) pfx s en rfl
theorem ss_cons {a : IS} {as : ISs} {st : Stmt} {sts : List Stmt} (ha : PS X st (tS X.K hld RX W (exS cl gl wf a))) (hs : PSs X sts (tS X.K hld RX W (exSs cl gl wf as))) : PSs X (st :: sts) (tS X.K hld RX W (exSs cl gl wf (.cons a as))) := by
  refine PSs.imp (pss_cons ha hs) fun D σ H ⟨F, G, m, ρ, c, s, en, o⟩ => ?_
  simp only [exSs] at o
  refine ⟨F, G, m, ρ, c, s, en, (out_bind.mp o).imp (fun p c1 h F' m' H' σ' e' hm' s' en' hl => ?_) (fun _ _ h => h)⟩
  obtain ⟨fl, ρ1⟩ := p
  cases fl with
  | nx => exact ⟨F', G, m', ρ1, c1, s', en', h.imp (fun _ _ h => by rw [hl]; exact h.mono e' hm') (fun _ _ h => by rw [hl]; exact h.mono e' hm')⟩
  | ret d => exact h F' m' H' σ' e' hm' s' en' hl
  | brk => exact h F' m' H' σ' e' hm' s' en' hl
  | con => exact h F' m' H' σ' e' hm' s' en' hl
mutual
theorem setTg_keep : ∀ (t : Tg) {d : PyData} {ρ ρ1 : Rho}, setTg t d ρ = some ρ1 → ρ1.length = ρ.length
  | .one i, d, ρ, ρ1, h => by cases h; exact List.length_set ..
  | .many ts, d, ρ, ρ1, h => by
    cases d <;> try (simp [setTg] at h; done)
    simp only [setTg] at h
    exact setTgs_keep ts h
theorem setTgs_keep : ∀ (ts : Tgs) {ds : List PyData} {ρ ρ1 : Rho}, setTgs ts ds ρ = some ρ1 → ρ1.length = ρ.length
  | .nil, [], ρ, ρ1, h => by cases h; rfl
  | .nil, _ :: _, _, _, h => by simp [setTgs] at h
  | .cons _ _, [], _, _, h => by simp [setTgs] at h
  | .cons t ts, d :: ds, ρ, ρ1, h => by
    simp only [setTgs] at h
    cases h1 : setTg t d ρ with
    | none => rw [h1] at h; cases h
    | some ρ2 =>
      rw [h1] at h
      exact (setTgs_keep ts h).trans (setTg_keep t h1)
end
theorem s_app (C : CxOk X T sc W hld) {i : Nat} {a : IE} {x : Str} {e' : Expr} {xp ap cp p : Pos} (h1 : T.N[i]? = some x) (h2 : isVis sc x = true) (h3 : okName x = true) (hl : (ap.endLine == cp.line) = true) (hp : pl e' = true) (ha : PE X e' (tE X.K hld RX W (evE cl gl a))) :
    PS X (.Expr (.Call (.Attribute (.Name x xp) ("append" : Str) ap) [e'] [] cp) p) (tS X.K hld RX W (exS cl gl wf (.app i a))) := by
  obtain ⟨n1, n2, _⟩ := okName_ok h3
  refine PS.imp (ps_expr (pe_bm PySem.F.plainAttrs_list PySem.F.slot_list_append PySem.F.type_list_append mt_append (pe_var (by rw [C.N]; exact h1) (isVis_ok C h2) n1 n2) (pa_cons ha pa_nil (star_of hp)) (base_of rfl) (few1 hp) hl (star_of hp) rfl) (swaps_no rfl)) fun D σ H ⟨F, G, m, ρ, c, s, en, o⟩ => ?_
  simp only [exS] at o
  split at o
  · rename_i j hj
    obtain ⟨v, hv, ad, rfl, hi⟩ := en.at_ i _ hj
    obtain ⟨_, ds, xs, g1, g2, g3⟩ := s.cel j ad hi
    refine ⟨.ref ad, hv, .inl ⟨rfl, xs, .inl (.inl g2)⟩, ?_⟩
    refine stepV s en (fun _ _ h => h.ex rfl) o fun F1 H1 c1 q w e1 s1 en1 r1 hE1 o1 => ?_
    unfold appD at o1
    split at o1
    · rename_i ds' hc
      obtain ⟨f0, ds2, xs2, k1, k2, k3⟩ := s1.cel j ad hi
      rw [hc] at k1
      cases k1
      split at o1
      · rename_i hsz
        exact ⟨ad, xs2, w, rfl, rfl, k2, by rw [k3.len]; exact hsz, o1 F1 m _ σ e1 pfx (s1.put hi (k3.append (.cons r1 .nil))) en1 rfl⟩
      · exact o1.elim
    · exact o1.elim
  · exact o.elim
theorem s_unp (C : CxOk X T sc W hld) (hh : T.hot = false) (hfn : ∀ x, X.fn x = true) {ts : Tgs} {a : IE} {es : List Expr} {k : Nat} {e' : Expr} {p pos : Pos} (ht : maTgsF T sc ts es = true) (hc : noComp e' = true) (hn : isTup e' = false) (ha : PE X e' (tE X.K hld RX W (evE cl gl a))) :
    PS X (.Assign [.Tuple es k p] e' pos) (tS X.K hld RX W (exS cl gl wf (.unp ts a))) := by
  have hsw : swappedStores [.Tuple es k p] e' X.env = pure none := by
    cases e' <;> first | rfl | (simp [isTup] at hn)
  refine PS.imp (ps_asg ha (pg_okF (t := .many ts) C.N C.nd C.sc (C.calm hh) hfn (by simpa only [maTgF] using ht)) (by unfold swapsWithSole; exact swaps_no hc) hsw) fun D σ H ⟨F, G, m, ρ, c, s, en, o⟩ => ?_
  simp only [exS] at o
  refine stepV s en (fun _ _ h => h.ex rfl) o fun F1 H1 c1 q w e1 s1 en1 r1 hE1 o1 => ?_
  split at o1
  · rename_i ds
    obtain ⟨ρ1, hr, o2⟩ := out_ofO o1
    refine gD_ok s1 (.many ts) en1 r1 (by simpa only [setTg] using hr) fun σ1 en2 _ => ?_
    exact o2 F1 m H1 σ1 e1 pfx s1 en2 (by rw [← en2.len, setTgs_keep ts hr, en.len])
  · exact o1.elim
def rAug : Bop → R2
  | .add => fun x y H Q => rI0 (fun i j => .int (i + j)) x y H Q ∨ rAddS x y H Q
  | .sub => rI0 (fun i j => .int (i - j))
  | .mul => rI CMul (fun i j => .int (i * j))
  | .fdiv => rI CDiv (fun i j => .int (i / j))
  | .mod => rI (fun _ j => 0 < j) (fun i j => .int (i % j))
  | .pow => fun _ _ _ _ => False
theorem or_aug {X : Cx} : ∀ op : Bop, OpR X (inplaceOp (bopOf op)) (rAug op)
  | .add => OpR.or iop_add iop_add_str
  | .sub => iop_sub
  | .mul => iop_mul
  | .fdiv => iop_fdiv
  | .mod => iop_mod
  | .pow => fun _ _ _ _ _ _ _ _ _ _ _ _ h => h.elim
theorem aug_ok {op : Bop} {p q z : PyData} {x y : V} {Q : VK} (hx : Dq K F x p) (hy : Dq K F y q) (h : augD op p q = some z) (k : ∀ v, Dq K F v z → Q v H) : rAug op x y H Q := by
  cases op <;> cases p <;> cases q <;> try (simp [augD, binD] at h; done)
  all_goals (cases hx; cases hy; simp only [augD, binD] at h)
  · cases h; exact .inl ⟨_, _, rfl, rfl, k _ (.int _)⟩
  · split at h
    · rename_i hz
      cases h; exact .inr ⟨_, _, rfl, rfl, szOk_le hz, k _ (.str _)⟩
    · cases h
  · cases h; exact ⟨_, _, rfl, rfl, k _ (.int _)⟩
  · split at h
    · rename_i hz
      cases h; exact ⟨_, _, rfl, rfl, hz.symm, k _ (.int _)⟩
    · cases h
  · split at h
    · rename_i hz
      cases h; exact ⟨_, _, rfl, rfl, hz, k _ (.int _)⟩
    · cases h
  · split at h
    · rename_i hz
      cases h; exact ⟨_, _, rfl, rfl, hz, k _ (.int _)⟩
    · cases h
theorem s_aug (C : CxOk X T sc W hld) (hfn : ∀ x, X.fn x = true) {i : Nat} {op : Bop} {a : IE} {x : Str} {e' : Expr} {p pos : Pos} (hn : maNameF T sc i (.Name x p) = true) (ha : PE X e' (tE X.K hld RX W (evE cl gl a))) :
    PS X (.AugAssign (.Name x p) (bopOf op) e' pos) (tS X.K hld RX W (exS cl gl wf (.aug i op a))) := by
  simp only [maNameF, Bool.and_eq_true, decide_eq_true_eq] at hn
  obtain ⟨⟨h1, h2⟩, h3⟩ := hn
  refine PS.imp (ps_aug C.nd (by rw [C.N]; exact h1) (isLocF_ok C.sc h2) ha (or_aug op) (.inl (hfn x))) fun D σ H ⟨F, G, m, ρ, c, s, en, o⟩ => ?_
  simp only [exS] at o
  split at o
  · rename_i z hz
    obtain ⟨v, hv, r⟩ := en.at_ i _ hz
    refine ⟨v, hv, ?_⟩
    refine stepD s en (fun _ _ h => h.ex rfl) o fun F1 H1 c1 d w e1 s1 en1 r1 hE1 o1 => ?_
    split at o1
    · rename_i y
      obtain ⟨q, hq, o2⟩ := out_ofO o1
      exact aug_ok (Dq.mono e1 _ r) r1 hq fun u ru => o2 F1 m H1 _ e1 pfx s1 (en1.set i (d := .t q) ru) (List.length_set ..)
    · exact o1.elim
  · exact o.elim
theorem s_for (C : CxOk X T sc W hld) (hh : T.hot = false) {tg : Tg} {it : II} {body : ISs} {tg' it' : Expr} {body' : List Stmt} {p : Pos} (hit : pl it' = true) (hI : PI X tg' it' (tIt X.K hld RX W (evI cl gl it))) (hg : PG X tg' (gD X.K tg)) (hb : PSs X body' (tS X.K hld RX W (exSs cl gl wf body))) :
    PS X (.For tg' it' body' [] p) (tS X.K hld RX W (exS cl gl wf (.for tg it body))) := by
  have hfold : ∀ x, foldedSetIterable it' X.env x = pure x := fun x => by
    cases it' <;> first | rfl | (simp [pl] at hit)
  refine PS.imp (ps_for C.passes (C.calm hh) hI hg hb hfold) fun D σ H ⟨F, G, m, ρ, c, s, en, o⟩ => ?_
  simp only [exS] at o
  refine ⟨F, G, m, ρ, c, s, en, (out_bind.mp o).imp (fun items c1 h F1 H1 J e1 s1 Jk => ?_) (fun _ _ h => h.ex rfl)⟩
  refine ⟨fun i mm σ' H' => i + mm = items.length ∧ σ'.length = σ.length ∧ ∃ F2 m2 ρ2 c2, Ex F1 F2 ∧ m <+: m2 ∧ StOk X.K G F2 m2 H' c2 ∧ EnvOk X.K hld F2 m2 σ' ρ2 ∧
    Out (forL tg (fun ρ1 c2 => exSs cl gl wf body ρ1 c2) (items.drop i) ρ2 c2) (PSt X.K hld G F m σ.length D) (ExS X.K hld RX W G F m σ.length),
    ⟨items.length, by omega, rfl, F1, m, ρ, c1, Ex.refl F1, pfx, s1, en.mono e1 pfx, h⟩, fun i mm σ' H' hW => ?_⟩
  obtain ⟨hi, hsl, F2, m2, ρ2, c2, e2, hm2, s2, en2, ho⟩ := hW
  by_cases hlt : i < items.length
  · obtain ⟨x, hx⟩ : ∃ x, items[i]? = some x := ⟨_, List.getElem?_eq_getElem hlt⟩
    obtain ⟨hgo, hy⟩ := Jk.go i x hx G F2 m2 H' c2 e2 s2
    refine .inr ⟨hgo, fun σ3 H3 => ∃ m', m' < mm ∧ ((i + 1) + m' = items.length ∧ σ3.length = σ.length ∧ ∃ F2 m2 ρ2 c2, Ex F1 F2 ∧ m <+: m2 ∧ StOk X.K G F2 m2 H3 c2 ∧ EnvOk X.K hld F2 m2 σ3 ρ2 ∧
      Out (forL tg (fun ρ1 c2 => exSs cl gl wf body ρ1 c2) (items.drop (i + 1)) ρ2 c2) (PSt X.K hld G F m σ.length D) (ExS X.K hld RX W G F m σ.length)), fun σ3 H3 h3 => h3, fun v H3 hv => ?_⟩
    obtain ⟨F3, e3, eH, s3, rv⟩ := hy v H3 hv
    have hdrop : items.drop i = x :: items.drop (i + 1) := by
      rw [List.drop_eq_getElem_cons hlt]
      have : items[i] = x := by
        rw [List.getElem?_eq_getElem hlt] at hx; exact Option.some.inj hx
      rw [this]
    rw [hdrop] at ho
    simp only [forL] at ho
    obtain ⟨ρ3, hρ, ho⟩ := out_ofO ho
    refine gD_ok s3 tg (en2.mono e3 pfx) rv hρ fun σ3 en3 _ => ?_
    have hsl3 : σ3.length = σ.length := by rw [← en3.len, setTg_keep tg hρ, en2.len, hsl]
    refine ⟨F3, G, m2, ρ3, c2, s3, en3, (out_bind.mp ho).imp (fun pr c4 h4 F5 m5 H5 σ5 e5 hm5 s5 en5 hl5 => ?_) (fun _ _ h => by rw [hsl3]; exact h.mono ((e1.trans e2).trans e3) hm2)⟩
    rw [hsl3] at hl5
    obtain ⟨fl, ρ5⟩ := pr
    cases fl with
    | nx => exact ⟨mm - 1, by omega, by omega, hl5, F5, m5, ρ5, c4, (e2.trans e3).trans e5, hm2.trans hm5, s5, en5, h4⟩
    | con => exact ⟨mm - 1, by omega, by omega, hl5, F5, m5, ρ5, c4, (e2.trans e3).trans e5, hm2.trans hm5, s5, en5, h4⟩
    | brk => exact h4 F5 m5 H5 σ5 (((e1.trans e2).trans e3).trans e5) (hm2.trans hm5) s5 en5 hl5
    | ret d => exact h4 F5 m5 H5 σ5 (((e1.trans e2).trans e3).trans e5) (hm2.trans hm5) s5 en5 hl5
  · have hi0 : i = items.length := by omega
    subst hi0
    refine .inl ⟨Jk.stop G F2 m2 H' c2 e2 s2, ?_⟩
    rw [List.drop_length] at ho
    exact ho F2 m2 H' σ' (e1.trans e2) hm2 s2 en2 hsl
theorem s_whl (C : CxOk X T sc W hld) {t : IT} {body : ISs} {t' : Expr} {body' : List Stmt} {p : Pos} (ht : PT X t' (tT X.K hld RX W (evT cl gl t))) (hb : PSs X body' (tS X.K hld RX W (exSs cl gl wf body))) :
    PS X (.While t' body' [] p) (tS X.K hld RX W (exS cl gl wf (.whl t body))) := by
  refine PS.imp (ps_while C.passes ht hb) fun D σ H ⟨F, G, m, ρ, c, s, en, o⟩ => ?_
  simp only [exS] at o
  refine ⟨fun mm σ' H' => σ'.length = σ.length ∧ ∃ F2 m2 ρ2 c2, Ex F F2 ∧ m <+: m2 ∧ StOk X.K G F2 m2 H' c2 ∧ EnvOk X.K hld F2 m2 σ' ρ2 ∧
    Out (whlL (fun ρ1 c1 => evT cl gl t ρ1 c1) (fun ρ1 c1 => exSs cl gl wf body ρ1 c1) mm ρ2 c2) (PSt X.K hld G F m σ.length D) (ExS X.K hld RX W G F m σ.length),
    ⟨wf, rfl, F, m, ρ, c, Ex.refl F, pfx, s, en, o⟩, fun mm σ' H' hW => ?_⟩
  obtain ⟨hsl, F2, m2, ρ2, c2, e2, hm2, s2, en2, ho⟩ := hW
  cases mm with
  | zero => exact ho.elim
  | succ k =>
    simp only [whlL] at ho
    refine stepT s2 en2 (fun _ _ h => (h.mono e2 hm2).ex hsl) ho fun F3 H3 c3 z e3 s3 en3 hE3 o3 => ?_
    cases z with
    | true =>
      refine ⟨fun σ4 H4 => ∃ m', m' < k + 1 ∧ (σ4.length = σ.length ∧ ∃ F2 m2 ρ2 c2, Ex F F2 ∧ m <+: m2 ∧ StOk X.K G F2 m2 H4 c2 ∧ EnvOk X.K hld F2 m2 σ4 ρ2 ∧
        Out (whlL (fun ρ1 c1 => evT cl gl t ρ1 c1) (fun ρ1 c1 => exSs cl gl wf body ρ1 c1) m' ρ2 c2) (PSt X.K hld G F m σ.length D) (ExS X.K hld RX W G F m σ.length)), fun σ4 H4 h4 => h4, ?_⟩
      simp only [if_true] at o3
      refine ⟨F3, G, m2, ρ2, c3, s3, en3, (out_bind.mp o3).imp (fun pr c4 h4 F5 m5 H5 σ5 e5 hm5 s5 en5 hl5 => ?_) (fun _ _ h => by rw [hsl]; exact h.mono (e2.trans e3) hm2)⟩
      rw [hsl] at hl5
      obtain ⟨fl, ρ5⟩ := pr
      cases fl with
      | nx => exact ⟨k, by omega, hl5, F5, m5, ρ5, c4, (e2.trans e3).trans e5, hm2.trans hm5, s5, en5, h4⟩
      | con => exact ⟨k, by omega, hl5, F5, m5, ρ5, c4, (e2.trans e3).trans e5, hm2.trans hm5, s5, en5, h4⟩
      | brk => exact h4 F5 m5 H5 σ5 ((e2.trans e3).trans e5) (hm2.trans hm5) s5 en5 hl5
      | ret d => exact h4 F5 m5 H5 σ5 ((e2.trans e3).trans e5) (hm2.trans hm5) s5 en5 hl5
    | false =>
      exact o3 F3 m2 H3 σ' (e2.trans e3) hm2 s3 en3 hsl
/-! ### raise and try -/
structure SxOk (X : Cx) : Prop where
  st : X.stack = X.env :: X.outer
  fr : X.env.frame = some X.env.locals
theorem s_raise (C : CxOk X T sc W hld) (B : BaseOk X T RX cl gl) (hh : T.hot = false) {k : Nat} {as : IEs} {es : List Expr} {p pos ps : Pos} (hk : k ∈ T.ecs) (hlen : es.length = (clsFlds k).length) (hg : isGl sc (clsName k) = true) (hes : es.all pl = true)
    (ha : PA X es (tA X.K hld RX W (evA cl gl as))) (h0 : es = [] → as = .nil) : PS X (.Raise (some (.Call (.Name (clsName k) p) es [] pos)) none ps) (tS X.K hld RX W (exS cl gl wf (.raise k as))) := by
  obtain ⟨g1, g2, g3⟩ := isGl_ok C hg
  obtain rfl := B.rx
  have Ek := B.errs k hk
  by_cases hf : clsFlds k = []
  · rw [hf] at hlen
    obtain rfl : es = [] := List.length_eq_zero_iff.mp hlen
    rw [h0 rfl]
    refine PS.imp (L2.ps_raise (C.calm hh) C.takes (mk_own0 F.excBase_ValueError (Ek.no0 hf) Ek.mg Ek.keep (raises_own Ek.exC Ek.tyC) g1 g2)) fun D σ H ⟨F, G, m, ρ, c, s, en, o⟩ => ?_
    simp only [exS, evA, R.bind, allT, ofO] at o
    rw [if_pos (by rw [hf]; rfl)] at o
    exact o F m H σ _ none (Ex.refl F) pfx s en rfl ⟨hk, rfl, .inl ⟨by rw [hf]; rfl, hf, rfl⟩⟩
  · cases es with
    | nil => exact (hf (List.length_eq_zero_iff.mp hlen.symm)).elim
    | cons e es =>
      rw [List.all_cons, Bool.and_eq_true] at hes
      obtain ⟨hc, fI, fd, lv, i1, i2, Fn, hr, hb⟩ := B.inits hh k hk hf
      refine PS.imp (L2.ps_raise (C.calm hh) C.takes (pmk_oex hc i1 i2 Fn hr hb .nil (fun pins σ H s e s' I z => passAt (W := W0) takes0 σ pins H s e s' I z) g1 Ek.mg ha g2 (star_of hes.1) (nostars hes.2))) fun D σ H ⟨F, G, m, ρ, c, s, en, o⟩ => ?_
      · simp only [exS] at o
        refine stepA s en (fun _ _ h => h.ex rfl) o fun F1 H1 c1 ds vs e1 s1 en1 r1 hE1 o1 => ?_
        obtain ⟨qs, hq, o2⟩ := out_ofO o1
        have hd := allT_ok r1 hq
        split at o2
        · rename_i hl
          have hvl : vs.length = (clsFlds k).length := by rw [hd.len]; exact hl
          refine ⟨?_, fun a hna => ⟨a, vs, by rw [List.append_nil], hvl, upd_same, fun d hnd hda => ⟨rfl, d, ((clsFlds k).zip vs).reverse, upd_same, ?_, ?_, ?_⟩⟩⟩
          · rw [hvl]
            unfold clsFlds; split <;> decide
          · rw [upd_ne hda, upd_same]
          · rw [upd_ne hda] at hnd; exact hnd
          · rw [upd_ne hda] at hnd
            have eH : upd (del (upd (upd (upd H1 a (exo a (gaK X.K (clsName k)) none)) d (exd d ((clsFlds k).zip vs).reverse)) a (exo a (gaK X.K (clsName k)) (some d))) a) d (.xd ((clsFlds k).zip vs).reverse) = upd H1 d (.xd ((clsFlds k).zip vs).reverse) := by
              funext b
              by_cases hb : b = d
              · rw [hb, upd_same, upd_same]
              · rw [upd_ne hb, upd_ne hb]
                by_cases hba : b = a
                · rw [hba, del_same, hna]
                · rw [del_ne hba, upd_ne hba, upd_ne hb, upd_ne hba]
            rw [eH]
            have hF := none_sub s1.sub hnd
            refine o2 (upd F1 d (.xd ((clsFlds k).zip vs).reverse)) m _ σ _ (some d) (e1.trans (ex_upd hF)) pfx (s1.new hnd) (en1.mono (ex_upd hF) pfx) rfl ⟨hk, rfl, .inr ⟨?_, hf, d, _, rfl, upd_same, look_flds hf (hd.mono (ex_upd hF)) hl⟩⟩
            intro z
            have z2 : (clsFlds k).zip qs = [] := z
            have : ((clsFlds k).zip qs).length = 0 := by rw [z2]; rfl
            rw [List.length_zip, hl, Nat.min_self] at this
            exact hf (List.length_eq_zero_iff.mp this)
        · exact o2.elim
/-! what an except suite holds -/
def heldBy (K : PySem.W.Frag) (ecs : List Nat) (a : Addr) (t : Value) (d : Option Addr) : Held := ⟨fun k fs v F => v = .ref a ∧ RXc K ecs k fs t d F, fun e h => ⟨h.1, h.2.mono e⟩⟩
def clsOf (K : PySem.W.Frag) (ecs : List Nat) (cl : Nat → List D → S → R D) (gl : Nat → Option PyData) (wf : Nat) : IHs → List Cl
  | .nil => []
  | .cons j i b r => ⟨.ref (gaK K (clsName j)), i, fun a t d D σ H => (∃ k, k ∈ ecs ∧ t = .ref (gaK K (clsName k))) ∧ tS K (heldBy K ecs a t d) (RXc K ecs) W0 (fun ρ c => nox (exSs cl gl wf b ρ c)) D σ H⟩ :: clsOf K ecs cl gl wf r
theorem out_nox2 {α : Type} {r : R α} {P : α → S → Prop} {E E' : Exn → S → Prop} (h : Out (nox r) P E) : Out (nox r) P E' := by
  cases r <;> exact h
theorem EnvOk.toHeld {hl : Held} (h : EnvOk K noHeld F m σ ρ) : EnvOk K hl F m σ ρ := ⟨h.len, fun i d hi => by
  obtain ⟨v, hv, r⟩ := h.at_ i d hi
  refine ⟨v, hv, ?_⟩
  cases d with
  | err => exact r.elim
  | own => exact r
  | t => exact r
  | ref => exact r
  | scr => exact r⟩
theorem EnvOk.unHeld {hl : Held} (h : EnvOk K hl F m σ ρ) : EnvOk K noHeld F m σ (ρ.map unErr) := ⟨by rw [List.length_map]; exact h.len, fun i d hi => by
  rw [List.getElem?_map] at hi
  cases hr : ρ[i]? with
  | none => rw [hr] at hi; cases hi
  | some o =>
    rw [hr] at hi
    simp only [Option.map_some, Option.some.injEq] at hi
    cases o with
    | none => cases hi
    | some d' =>
      cases d' with
      | err => cases hi
      | own => cases hi; exact h.at_ i _ hr
      | t => cases hi; exact h.at_ i _ hr
      | ref => cases hi; exact h.at_ i _ hr
      | scr => cases hi; exact h.at_ i _ hr⟩
theorem RepD.unHeld {hl hl' : Held} {d : D} {v : V} (he : isErr d = false) (h : RepD K hl G F m H d v) : RepD K hl' G F m H d v := by
  cases d with
  | err => cases he
  | own => exact h
  | t => exact h
  | ref => exact h
  | scr => exact h
theorem clauses {K : PySem.W.Frag} {mg : Str → Option Value} {ecs : List Nat} (errs : ∀ k ∈ ecs, ErrK K mg ecs k) {G F : Hp} {m : List Addr} {n : Nat} {D : Ends} {e : Exn} {c1 : S} {F' : Hp} {m' : List Addr} {H' : Hp} {σ' : L2.St} {cls : Value} {dd : Option Addr}
    (ex : Ex F F') (hm : m <+: m') (s : StOk K G F' m' H' c1) (en : EnvOk K noHeld F' m' σ' e.env) (hl : σ'.length = n) (r : RXc K ecs e.cls e.fs cls dd F') :
    ∀ (hs : IHs), (∀ j ∈ hsIds hs, j ∈ ecs) → Out (exHs cl gl wf hs e c1) (PSt K noHeld G F m n D) (ExS K noHeld (RXc K ecs) W G F m n) → wCl K W D (clsOf K ecs cl gl wf hs) cls dd σ' H'
  | .nil, _, o => by
    simp only [exHs] at o
    exact o F' m' H' σ' cls dd ex hm s en hl r
  | .cons j i b rest, hj, o => by
    obtain ⟨hk, hcls, hrest⟩ := id r
    have hj0 : j ∈ ecs := hj j (by simp [hsIds])
    refine ⟨isSub e.cls j, by rw [hcls]; exact (errs _ hk).exm j hj0, fun yes a na => ⟨⟨_, hk, hcls⟩, ?_⟩, fun no => ?_⟩
    · simp only [exHs, yes, if_true] at o
      have o2 := out_bind.mp o
      have enH : EnvOk K (heldBy K ecs a cls dd) F' m' (clS σ' a i) (heldAt i e) := by
        cases i with
        | none => exact en.toHeld
        | some i => exact (en.toHeld (hl := heldBy K ecs a cls dd)).set i (d := .err e.cls e.fs) ⟨rfl, r⟩
      have hlen : (clS σ' a i).length = n := by
        cases i with
        | none => exact hl
        | some i => exact (List.length_set ..).trans hl
      refine ⟨F', G, m', heldAt i e, c1, s, enH, ?_⟩
      refine out_nox2 (o2.imp (fun p c2 h F2 m2 H2 σ2 e2 hm2 s2 en2 hl2 => ?_) (fun _ _ h => h))
      rw [hlen] at hl2
      obtain ⟨fl, ρ2⟩ := p
      have en3 : ∀ i, EnvOk K noHeld F2 m2 (match i with | some i => σ2.set i none | none => σ2) ((match i with | some i => ρ2.set i none | none => ρ2).map unErr) := fun i => by
        cases i with
        | none => exact en2.unHeld
        | some i => exact (en2.wipe1 i).unHeld
      have hl3 : ∀ i : Option Nat, (match i with | some i => σ2.set i none | none => σ2 : L2.St).length = n := fun i => by
        cases i with
        | none => exact hl2
        | some i => exact (List.length_set ..).trans hl2
      unfold offR at h
      cases fl with
      | nx =>
        have h3 := h F2 m2 H2 _ (ex.trans e2) (hm.trans hm2) s2 (en3 i) (hl3 i)
        cases i with
        | none => exact h3
        | some i => exact h3
      | brk =>
        have h3 := h F2 m2 H2 _ (ex.trans e2) (hm.trans hm2) s2 (en3 i) (hl3 i)
        cases i with
        | none => exact h3
        | some i => exact h3
      | con =>
        have h3 := h F2 m2 H2 _ (ex.trans e2) (hm.trans hm2) s2 (en3 i) (hl3 i)
        cases i with
        | none => exact h3
        | some i => exact h3
      | ret d =>
        simp only at h
        split at h
        · exact h.elim
        · rename_i hne
          have h3 := h F2 m2 H2 _ (ex.trans e2) (hm.trans hm2) s2 (en3 i) (hl3 i)
          intro v rv
          have h4 := h3 v (rv.unHeld (Bool.eq_false_iff.mpr hne))
          cases i with
          | none => exact h4
          | some i => exact h4
    · simp only [exHs, no] at o
      exact clauses errs ex hm s en hl r rest (fun j2 h2 => hj j2 (by simp [hsIds, h2])) (by simpa using o)
theorem maHs_ids {T : Tx} : ∀ {hs : IHs} {hs' : List ExceptHandler}, maHs T sc hs hs' = true → ∀ j ∈ hsIds hs, j ∈ T.ecs
  | .nil, _, _ => by simp [hsIds]
  | .cons j i b r, [], h => by simp [maHs] at h
  | .cons j i b r, .ExceptHandler ty on body p :: hs', h => by
    match ty, body, h with
    | some (.Name y q), s :: ss, h =>
      simp only [maHs, Bool.and_eq_true, List.contains_iff_mem] at h
      intro j2 h2
      simp only [hsIds, List.mem_cons] at h2
      rcases h2 with rfl | h2
      · exact h.1.1.1.1.1
      · exact maHs_ids h.2 j2 h2
    | none, _, h => simp [maHs] at h
    | some _, [], h => simp [maHs] at h
theorem s_try (C : CxOk X T sc W hld) (B : BaseOk X T RX cl gl) (hx : SxOk X) (hh : T.hot = false) {b : ISs} {hs : IHs} {body : List Stmt} {h0 : ExceptHandler} {hs' : List ExceptHandler} {p : Pos} (hma : maHs T sc hs (h0 :: hs') = true)
    (hb : ∀ (V : WX) (ps : List (Addr × Obj)) (xe : Value → Shared → Prop), Takes (X.tr ps xe) V → PassesOwn (model X.prog X.w) X.A X.env xe → PSs (X.tr ps xe) body (tS X.K hld RX V (exSs cl gl wf b)))
    (hc : ClOk X (h0 :: hs') (clsOf X.K T.ecs cl gl wf hs)) : PS X (.Try body (h0 :: hs') [] [] p) (tS X.K hld RX W (exS cl gl wf (.try b hs))) := by
  obtain rfl := B.rx
  obtain rfl := C.nh hh
  refine PS.imp (try_cl hx.st hx.fr C.takes hb hc) fun D σ H ⟨F, G, m, ρ, c, s, en, o⟩ => ?_
  refine ⟨F, G, m, ρ, c, s, en, ?_⟩
  simp only [exS] at o
  cases hr : exSs cl gl wf b ρ c with
  | ok q c1 => rw [hr] at o; exact o
  | no => rw [hr] at o; exact o.elim
  | ex e c1 =>
    rw [hr] at o
    intro F' m' H' σ' cls dd ex hm s' en' hl r
    exact clauses B.errs ex hm s' en' hl r hs (maHs_ids hma) o
theorem h_cons (C : CxOk X T sc W hld) (B : BaseOk X T RX cl gl) (hx : SxOk X) {j : Nat} {i : Option Nat} {r : IHs} {bb : ISs} {on : Option Str} {p q : Pos} {s : Stmt} {ss : List Stmt} {hs' : List ExceptHandler} (hj : j ∈ T.ecs) (hg : isGl sc (clsName j) = true) (hon : onOk T sc i on = true)
    (hsu : ∀ (a : Addr) (o : Obj) (t : Value) (d : Option Addr) (ps : List (Addr × Obj)), CxOk (X.suite a ((a, o) :: ps)) ⟨T.N, T.nm, T.gn, true, T.ecs⟩ sc W0 (heldBy X.K T.ecs a t d) → BaseOk (X.suite a ((a, o) :: ps)) ⟨T.N, T.nm, T.gn, true, T.ecs⟩ RX cl gl →
      PSs (X.suite a ((a, o) :: ps)) (s :: ss) (tS X.K (heldBy X.K T.ecs a t d) RX W0 (exSs cl gl wf bb)))
    (hr : ClOk X hs' (clsOf X.K T.ecs cl gl wf r)) : ClOk X (.ExceptHandler (some (.Name (clsName j) q)) on (s :: ss) p :: hs') (clsOf X.K T.ecs cl gl wf (.cons j i bb r)) := by
  obtain ⟨g1, g2, g3⟩ := isGl_ok C hg
  obtain rfl := B.rx
  refine .cons ⟨g1, g2, .inl (B.errs j hj).mg⟩ ?_ (fun a o t d ps hz hf => ⟨fun pins s1 τ H D I ⟨⟨k, hk, ht⟩, q⟩ => ?_⟩) hr
  · match i, on, hon with
    | none, none, _ => exact True.intro
    | some i, some n, hon =>
      simp only [onOk, Bool.and_eq_true, decide_eq_true_eq, isLoc] at hon
      refine ⟨C.nd, by rw [C.N]; exact hon.1, ?_⟩
      show X.env.scope.names.lookup n = _
      rw [C.sc]; exact hon.2
    | none, some _, hon => simp [onOk] at hon
    | some _, none, hon => simp [onOk] at hon
  · have C2 : CxOk (X.suite a ((a, o) :: ps)) ⟨T.N, T.nm, T.gn, true, T.ecs⟩ sc W0 (heldBy X.K T.ecs a t d) :=
      ⟨C.N, C.nd, C.sc, C.kind, fun z => (Bool.noConfusion z), fun z => (Bool.noConfusion z), fun _ => ⟨⟨a, o, t, d, X, ps, rfl, hz, hf, ⟨k, hk, ht⟩, fun _ _ _ _ z => z⟩⟩, takes0, PassesOwn.never, C.hu, C.blt⟩
    have B2 : BaseOk (X.suite a ((a, o) :: ps)) ⟨T.N, T.nm, T.gn, true, T.ecs⟩ (RXc X.K T.ecs) cl gl :=
      ⟨rfl, fun z => (Bool.noConfusion z), fun z => (Bool.noConfusion z), B.errs, B.globs⟩
    refine (hsu a o t d ps C2 B2).run pins s1 τ H D I ?_
    obtain ⟨F, G, m, ρ, c, st, en, o2⟩ := q
    exact ⟨F, G, m, ρ, c, st, en, (out_nox o2).imp (fun _ _ h => h) (fun _ _ h => h.elim)⟩
mutual
theorem S_ok : ∀ (i : IS) {T : Tx} {X : Cx} {sc : Scope} {W : WX} {hld : Held} {st : Stmt}, CxOk X T sc W hld → BaseOk X T RX cl gl → (∀ x, X.fn x = true) → SxOk X → maS T sc i st = true → PS X st (tS X.K hld RX W (exS cl gl wf i))
  | .asg i a, T, X, sc, W, _, st, C, B, hfn, hx, h => by
    cases st <;> try (simp [maS] at h; done)
    simp only [maS] at h
    split at h
    · rename_i x p hc
      obtain rfl := oneName_some hc
      simp only [Bool.and_eq_true] at h
      exact s_asg C B hfn h.1.1 h.1.2 h.2
    · cases h
  | .cell i a, T, X, sc, W, _, st, C, B, hfn, hx, h => by
    cases st <;> try (simp [maS] at h; done)
    simp only [maS] at h
    split at h
    · rename_i x p hc
      obtain rfl := oneName_some hc
      simp only [Bool.and_eq_true] at h
      exact s_cell C B hfn h.1.1 h.1.2 h.2
    · cases h
  | .unp ts a, T, X, sc, W, _, st, C, B, hfn, hx, h => by
    cases st <;> try (simp [maS] at h; done)
    simp only [maS] at h
    split at h
    · rename_i es hc
      obtain ⟨k, p, rfl⟩ := oneTup_some hc
      simp only [Bool.and_eq_true, Bool.not_eq_true'] at h
      obtain ⟨⟨⟨⟨hh, h1⟩, h2⟩, h3⟩, h4⟩ := h
      exact s_unp C hh hfn h1 h3 h4 (E_ok a C B h2)
    · cases h
  | .aug i op a, T, X, sc, W, _, st, C, B, hfn, hx, h => by
    cases st <;> try (simp [maS] at h; done)
    rename_i t op' e p
    cases t <;> try (simp [maS] at h; done)
    simp only [maS, Bool.and_eq_true, decide_eq_true_eq] at h
    obtain ⟨⟨rfl, h1⟩, h2⟩ := h
    exact s_aug C hfn h1 (E_ok a C B h2)
  | .ife t a b, T, X, sc, W, _, st, C, B, hfn, hx, h => by
    cases st <;> try (simp [maS] at h; done)
    simp only [maS, Bool.and_eq_true] at h
    exact s_ife C (T_ok t C B h.1.1) (SS_ok a C B hfn hx h.1.2) (SS_ok b C B hfn hx h.2)
  | .for tg it body, T, X, sc, W, _, st, C, B, hfn, hx, h => by
    cases st <;> try (simp [maS] at h; done)
    rename_i tg' it' body' els p
    cases els <;> try (simp [maS] at h; done)
    simp only [maS, Bool.and_eq_true] at h
    obtain ⟨⟨⟨⟨hh, h1⟩, h2⟩, h3⟩, h4⟩ := h
    rw [Bool.not_eq_true'] at hh
    exact s_for C hh h1 (I_ok it C B h2) (pg_okF C.N C.nd C.sc (C.calm hh) hfn h3) (SS_ok body C B hfn hx h4)
  | .whl t body, T, X, sc, W, _, st, C, B, hfn, hx, h => by
    cases st <;> try (simp [maS] at h; done)
    rename_i t' body' els p
    cases els <;> try (simp [maS] at h; done)
    simp only [maS, Bool.and_eq_true] at h
    exact s_whl C (T_ok t C B h.1.2) (SS_ok body C B hfn hx h.2)
  | .ret a, T, X, sc, W, _, st, C, B, hfn, hx, h => by
    cases st <;> try (simp [maS] at h; done)
    rename_i v p
    cases v <;> try (simp [maS] at h; done)
    simp only [maS] at h
    exact s_ret (E_ok a C B h)
  | .retn, T, X, sc, W, _, st, C, B, hfn, hx, h => by
    cases st <;> try (simp [maS] at h; done)
    rename_i v p
    cases v <;> try (simp [maS] at h; done)
    exact s_retn
  | .app i a, T, X, sc, W, _, st, C, B, hfn, hx, h => by
    cases st <;> try (simp [maS] at h; done)
    simp only [maS] at h
    split at h
    · rename_i x n e' ap cp hc
      obtain ⟨xp, rfl⟩ := appOf_some hc
      simp only [Bool.and_eq_true, decide_eq_true_eq] at h
      obtain ⟨⟨⟨⟨⟨hl, rfl⟩, h1⟩, h2⟩, h3⟩, h4⟩ := h
      exact s_app C h1 h2 h3 hl (maE_pl h4) (E_ok a C B h4)
    · cases h
  | .exp a, T, X, sc, W, _, st, C, B, hfn, hx, h => by
    cases st <;> try (simp [maS] at h; done)
    simp only [maS, Bool.and_eq_true] at h
    exact s_exp h.2 (E_ok a C B h.1)
  | .pas, T, X, sc, W, _, st, C, B, hfn, hx, h => by
    cases st <;> try (simp [maS] at h; done)
    · rename_i e p
      cases e <;> try (simp [maS] at h; done)
      rename_i v k p2
      cases v <;> try (simp [maS] at h; done)
      exact s_nx ps_doc
    · exact s_nx ps_pass
  | .brk, T, X, sc, W, _, st, C, B, hfn, hx, h => by
    cases st <;> try (simp [maS] at h; done)
    exact s_brk
  | .con, T, X, sc, W, _, st, C, B, hfn, hx, h => by
    cases st <;> try (simp [maS] at h; done)
    exact s_con
  | .raise k es, T, X, sc, W, _, st, C, B, hfn, hx, h => by
    cases st <;> try (simp [maS] at h; done)
    rename_i c f p
    cases c <;> try (simp [maS] at h; done)
    cases f <;> try (simp [maS] at h; done)
    simp only [maS] at h
    split at h
    · rename_i x es' hc
      obtain ⟨p1, p2, rfl⟩ := callOf_some hc
      simp only [Bool.and_eq_true, decide_eq_true_eq, List.contains_iff_mem] at h
      obtain ⟨⟨⟨⟨⟨hh, hk⟩, hl⟩, rfl⟩, hg⟩, he⟩ := h
      rw [Bool.not_eq_true'] at hh
      exact s_raise C B hh hk hl hg (maEs_pl he) (A_ok es C B he) (fun e0 => by
        subst e0
        cases es with
        | nil => rfl
        | cons => simp [maEs] at he)
    · cases h
  | .try b hs, T, X, sc, W, hld, st, C, B, hfn, hx, h => by
    cases st <;> try (simp [maS] at h; done)
    rename_i body hs' els fin p
    cases els <;> try (simp [maS] at h; done)
    cases fin <;> try (simp [maS] at h; done)
    simp only [maS, Bool.and_eq_true] at h
    obtain ⟨⟨⟨hh, h0⟩, h1⟩, h2⟩ := h
    rw [Bool.not_eq_true'] at hh
    cases hs' with
    | nil => simp at h0
    | cons h0 hs' =>
        refine s_try C B hx hh h2 (fun V ps xe tk pa => SS_ok b (X := X.tr ps xe) ?_ ?_ hfn ⟨hx.st, hx.fr⟩ h1) (H_ok hs C B hfn hx hh h2)
        · exact ⟨C.N, C.nd, C.sc, C.kind, C.calm, C.nh, (fun z => by rw [hh] at z; cases z), tk, pa, C.hu, C.blt⟩
        · exact ⟨B.rx, fun hh k x h => ⟨(B.calls hh k x h).ex⟩, fun hh k h h0 => ⟨(B.inits hh k h h0).cls, (B.inits hh k h h0).ex⟩, B.errs, B.globs⟩
termination_by i => sizeOf i
theorem H_ok : ∀ (i : IHs) {T : Tx} {X : Cx} {sc : Scope} {W : WX} {hld : Held} {hs : List ExceptHandler}, CxOk X T sc W hld → BaseOk X T RX cl gl → (∀ x, X.fn x = true) → SxOk X → T.hot = false → maHs T sc i hs = true → ClOk X hs (clsOf X.K T.ecs cl gl wf i)
  | .nil, T, X, sc, W, _, [], C, B, hfn, hx, hh, h => .nil
  | .nil, T, X, sc, W, _, _ :: _, C, B, hfn, hx, hh, h => by simp [maHs] at h
  | .cons j i b r, T, X, sc, W, _, [], C, B, hfn, hx, hh, h => by simp [maHs] at h
  | .cons j i b r, T, X, sc, W, hld, .ExceptHandler ty on body p :: hs', C, B, hfn, hx, hh, h => by
    match ty, body, h with
    | none, _, h => simp [maHs] at h
    | some _, [], h => simp [maHs] at h
    | some (.Name y q), s :: ss, h =>
      simp only [maHs, Bool.and_eq_true, decide_eq_true_eq, List.contains_iff_mem] at h
      obtain ⟨⟨⟨⟨⟨hj, rfl⟩, hg⟩, hon⟩, hsu⟩, hr⟩ := h
      exact h_cons C B hx hj hg hon (fun a o t d ps C2 B2 => SS_ok b C2 B2 hfn ⟨hx.st, hx.fr⟩ hsu) (H_ok r C B hfn hx hh hr)
termination_by i => sizeOf i
theorem SS_ok : ∀ (i : ISs) {T : Tx} {X : Cx} {sc : Scope} {W : WX} {hld : Held} {sts : List Stmt}, CxOk X T sc W hld → BaseOk X T RX cl gl → (∀ x, X.fn x = true) → SxOk X → maSs T sc i sts = true → PSs X sts (tS X.K hld RX W (exSs cl gl wf i))
  | .nil, T, X, sc, W, _, [], C, B, hfn, hx, h => ss_nil
  | .nil, T, X, sc, W, _, _ :: _, C, B, hfn, hx, h => by simp [maSs] at h
  | .cons a as, T, X, sc, W, _, [], C, B, hfn, hx, h => by simp [maSs] at h
  | .cons a as, T, X, sc, W, _, st :: sts, C, B, hfn, hx, h => by
    simp only [maSs, Bool.and_eq_true] at h
    exact ss_cons (S_ok a C B hfn hx h.1) (SS_ok as C B hfn hx h.2)
termination_by i => sizeOf i
end
end
end SK

/-! SKC: every def of the table keeps what the machine says of it; the law's end. -/
namespace SK
open PySem PySem.Spec PyProof.Rows L2
open Evl (Ex)
/-- an __init__ that stores its parameters: its body -/
def iniSt (f : Str) : Stmt → Bool
  | .Assign [.Attribute (.Name o _) n _] (.Name x _) _ => decide (o = ("self" : Str)) && decide (n = f) && decide (x = f)
  | _ => false
def iniB : List Str → List Stmt → Bool
  | [], [] => true
  | f :: fs, s :: ss => iniSt f s && iniB fs ss
  | _, _ => false
theorem iniSt_some {f : Str} {s : Stmt} (h : iniSt f s = true) : ∃ p1 p2 p3 pos, s = .Assign [.Attribute (.Name "self" p1) f p2] (.Name f p3) pos := by
  unfold iniSt at h
  split at h
  · simp only [Bool.and_eq_true, decide_eq_true_eq] at h
    obtain ⟨⟨rfl, rfl⟩, rfl⟩ := h
    exact ⟨_, _, _, _, rfl⟩
  · cases h
/-- what the text must show of such an __init__ -/
structure IniK (K : PySem.W.Frag) (k : Nat) : Prop where
  cls : OexC K (gaK K (clsName k))
  ex : ∃ (fI : Addr) (fd : FuncData) (qual : Str) (st : Stmt), PySem.W.findIn K (.ref (gaK K (clsName k))) "__init__" = some (some (.ref fI)) ∧ PySem.W.typeIn K (.ref fI) = some (.type "function") ∧
    Fun K "__init__" qual st fI fd ∧ Binds K fd ("self" :: clsFlds k) [] ∧ FnScope ("self" :: clsFlds k) ("self" :: clsFlds k) (defScope st) ∧ iniB (clsFlds k) (defBody st) = true ∧
    (("self" : Str) :: clsFlds k).all (fun x => isVis (defScope st) x && okName x) = true
theorem isVis_vis {X : Cx} {x : Str} (h : isVis X.env.scope x = true) : Vis X.env.scope x := by
  unfold isVis at h
  split at h
  · rename_i e; exact .inl e
  · rename_i e; exact .inr (.inl e)
  · rename_i e; exact .inr (.inr e)
  · cases h
/-- self.f = f -/
theorem ps_ini {X : Cx} {i : Nat} {f : Str} {p1 p2 p3 pos : Pos} (h0 : X.N[0]? = some ("self" : Str)) (hi : X.N[i]? = some f) (v0 : isVis X.env.scope ("self" : Str) = true) (vi : isVis X.env.scope f = true) (oi : okName f = true) :
    PS X (.Assign [.Attribute (.Name "self" p1) f p2] (.Name f p3) pos) (tOst X.K f (tVar 0) (tVar i)) := by
  obtain ⟨n1, n2, _⟩ := okName_ok oi
  exact ps_ost (pe_var h0 (isVis_vis v0)) (pe_var hi (isVis_vis vi) n1 n2) rfl
section
variable {P : Program} {w : World} {K : PySem.W.Frag} {mg : Str → Option Value} {base : Heap}
theorem ini_ok {k : Nat} (I : IniK K k) (no : ∀ f ∈ clsFlds k, PySem.W.findIn K (.ref (gaK K (clsName k))) f = some none) (hf : clsFlds k ≠ []) :
    ∃ (fI : Addr) (fd : FuncData), PySem.W.findIn K (.ref (gaK K (clsName k))) "__init__" = some (some (.ref fI)) ∧ PySem.W.typeIn K (.ref fI) = some (.type "function") ∧
      FnOk P w K mg base (L2.CX P w) 2 fI fd ("self" :: clsFlds k) (spIni (gaK K (clsName k)) (clsFlds k)) ∧ Binds K fd ("self" :: clsFlds k) [] := by
  obtain ⟨hc, fI, fd, qual, st, i1, i2, hF, hb, hS, hB, hv⟩ := I
  refine ⟨fI, fd, i1, i2, ?_, hb⟩
  refine hF.okX (k := 1) hS (fun vs H Q E h => ?_) (fun cdv A outer s H vs Q E hr h => ?_)
  · obtain ⟨a, ws, rfl, hl, _⟩ := h
    rw [List.length_cons, List.length_cons, hl]
  · obtain ⟨a, ws, rfl, hl, ha, hq⟩ := h
    obtain ⟨f1, f2, e | ⟨e, ne⟩⟩ := flds_of hf
    · rw [e] at hB hv hl hq no ⊢
      match ws, hl with
      | [w1], _ =>
        match hbd : defBody st, hB with
        | [s1], hB =>
          simp only [iniB, Bool.and_true] at hB
          obtain ⟨p1, p2, p3, pos, rfl⟩ := iniSt_some hB
          simp only [List.all_cons, List.all_nil, Bool.and_true, Bool.and_eq_true] at hv
          refine ⟨_, pss_cons (ps_ini (i := 1) rfl rfl hv.1.1 hv.2.1 hv.2.2) pss_nil, ?_⟩
          refine ⟨w1, rfl, .ref a, rfl, a, _, rfl, hc, no f1 (by simp), .inl ⟨ha, fun dx hd hne => ?_⟩⟩
          exact hq dx hd hne
        | [], hB => simp [iniB] at hB
        | _ :: _ :: _, hB => simp [iniB] at hB
    · rw [e] at hB hv hl hq no ⊢
      match ws, hl with
      | [w1, w2], _ =>
        match hbd : defBody st, hB with
        | [s1, s2], hB =>
          simp only [iniB, Bool.and_true, Bool.and_eq_true] at hB
          obtain ⟨p1, p2, p3, pos, rfl⟩ := iniSt_some hB.1
          obtain ⟨q1, q2, q3, qos, rfl⟩ := iniSt_some hB.2
          simp only [List.all_cons, List.all_nil, Bool.and_true, Bool.and_eq_true] at hv
          refine ⟨_, pss_cons (ps_ini (i := 1) rfl rfl hv.1.1 hv.2.1.1 hv.2.1.2) (pss_cons (ps_ini (i := 2) rfl rfl hv.1.1 hv.2.2.1 hv.2.2.2) pss_nil), ?_⟩
          refine ⟨w1, rfl, .ref a, rfl, a, _, rfl, hc, no f1 (by simp), .inl ⟨ha, fun dx hd hne => ?_⟩⟩
          refine ⟨w2, rfl, .ref a, rfl, a, _, rfl, hc, no f2 (by simp), .inr ⟨dx, _, upd_same, by rw [upd_ne hne, upd_same], by simp, ?_⟩⟩
          have h3 := hq dx hd hne
          have eH : upd (upd (upd H dx (exd dx [(f1, w1)])) a (exo a (gaK K (clsName k)) (some dx))) dx (exd dx [(f2, w2), (f1, w1)]) = upd (upd H dx (exd dx [(f2, w2), (f1, w1)])) a (exo a (gaK K (clsName k)) (some dx)) := by
            funext b
            by_cases hb : b = dx
            · rw [hb, upd_same, upd_ne hne, upd_same]
            · rw [upd_ne hb]
              by_cases hba : b = a
              · rw [hba, upd_same, upd_same]
              · rw [upd_ne hba, upd_ne hba, upd_ne hb, upd_ne hb]
          show Q .non _
          rw [eH]
          exact h3
        | [], hB => simp [iniB] at hB
        | [_], hB => simp [iniB] at hB
        | _ :: _ :: _ :: _, hB => simp [iniB] at hB
end
/-- what the text must show of a table of defs -/
structure TabOk (K : PySem.W.Frag) (mg : Str → Option Value) (fns : List Fn) (gls : List (Str × PyData)) (ecs : List Nat) : Prop where
  fn : ∀ (k : Nat) (f : Fn), fns[k]? = some f → ∃ (a : Addr) (fd : FuncData) (st : Stmt), mg f.name = some (.ref a) ∧ Fun K f.name f.name st a fd ∧ Binds K fd f.ps [] ∧ FnScope f.N f.ps (defScope st) ∧
    maSs ⟨f.N, fns.map (·.name), gls.map (·.1), false, ecs⟩ (defScope st) f.body (defBody st) = true
  gv : ∀ (j : Nat) (x : Str) (d : PyData), gls[j]? = some (x, d) → ∃ u v, mg x = some u ∧ RelV v u ∧ ∀ F, Dq K F v d
  blt : ∀ x ∈ bltNames, mg x = none
  errs : ∀ k ∈ ecs, ErrK K mg ecs k
  inits : ∀ k ∈ ecs, clsFlds k ≠ [] → IniK K k
def glOf (gls : List (Str × PyData)) (j : Nat) : Option PyData := (gls[j]?).map (·.2)
theorem run_len {fns : List Fn} {gl : Nat → Option PyData} {wf n k : Nat} {f : Fn} (h : fns[k]? = some f) {ds : List D} {c : S} (hl : ds.length ≠ f.ps.length) : run fns gl wf n k ds c = .no := by
  cases n with
  | zero => rfl
  | succ n =>
    simp only [run, h, ofO]
    rw [if_neg hl]
section
variable {K : PySem.W.Frag} {G F : Hp} {m : List Addr} {H : Hp} {c : S}
theorem pair_start : ∀ {ds : List D} {vs : List V}, Paired (RepS K noHeld F m) ds vs → ∀ n, n - ds.length = n - vs.length → EnvOk K noHeld F m (vs.map some ++ List.replicate (n - vs.length) none) (ds.map some ++ List.replicate (n - ds.length) none) := by
  intro ds vs hp n hn
  rw [hn]
  have hl := Paired.length hp
  refine ⟨by simp [hl], fun i d hi => ?_⟩
  by_cases h : i < ds.length
  · rw [List.getElem?_append_left (by simpa using h), List.getElem?_map] at hi
    rw [List.getElem?_append_left (by simpa [← hl] using h), List.getElem?_map]
    have : ∀ {ds : List D} {vs : List V} {i : Nat} {d : D}, Paired (RepS K noHeld F m) ds vs → ds[i]? = some d → ∃ v, vs[i]? = some v ∧ RepS K noHeld F m d v := by
      intro ds vs i d hp
      induction hp generalizing i with
      | nil => intro h; simp at h
      | cons a _ ih =>
        intro h
        cases i with
        | zero => simp at h; subst h; exact ⟨_, rfl, a⟩
        | succ i => simpa using ih (by simpa using h)
    cases hd : ds[i]? with
    | none => rw [hd] at hi; cases hi
    | some d' =>
      rw [hd] at hi
      cases hi
      obtain ⟨v, hv, r⟩ := this hp hd
      exact ⟨v, by rw [hv]; rfl, r⟩
  · rw [List.getElem?_append_right (by simpa using h)] at hi
    rw [List.getElem?_replicate] at hi
    split at hi <;> cases hi
theorem take_pre {m m' : List Addr} (h : m <+: m') {n : Nat} (hn : m.length = n) : m'.take n = m := by
  subst hn
  exact (List.prefix_iff_eq_take.mp h).symm
/-- what leaves a def -/
theorem leave_ok {F' : Hp} {m' : List Addr} {H' : Hp} {c1 : S} {d : D} {v : V} {Q : VK} {Ee : Exn → S → Prop} (e : Ex F F') (hm : m <+: m') (hc : m.length = c.length) (s : StOk K G F' m' H' c1) (r : RepD K noHeld G F' m' H' d v) (h : Out (leave c.length d c1) (PD K noHeld G F m Q) Ee) : Q v H' := by
  have st := s.take c.length
  rw [take_pre hm hc] at st
  cases d with
  | t q => exact h F' H' v e st r
  | scr q => exact h F' H' v e st r
  | err k fs => exact r.elim
  | own ds =>
    obtain ⟨p, xs, rfl, h1, h2, h3, h4, h5⟩ := r
    refine h F' H' _ e st ⟨p, xs, rfl, h1, h2, fun hp => h3 ?_, h4, h5⟩
    obtain ⟨t, rfl⟩ := hm
    exact List.mem_append_left _ hp
  | ref j =>
    obtain ⟨a, rfl, hj⟩ := r
    unfold leave at h
    simp only at h
    split at h
    · rename_i hlt
      refine h F' H' _ e st ⟨a, rfl, ?_⟩
      obtain ⟨t, rfl⟩ := hm
      rw [List.getElem?_append_left (by rw [hc]; exact hlt)] at hj
      exact hj
    · rename_i hge
      split at h
      · rename_i ds hd
        obtain ⟨f0, ds', xs, g1, g2, g3⟩ := s.cel j a hj
        rw [hd] at g1
        cases g1
        have hG : G a = none := by
          cases hg : G a with
          | none => rfl
          | some u => exact absurd (List.mem_of_getElem? hj) (s.gf a u hg).2
        refine h F' H' _ e st ⟨a, xs, rfl, g2, f0, fun ha => ?_, hG, g3⟩
        obtain ⟨i, hi⟩ := List.getElem?_of_mem ha
        have hi' := pre_get hm hi
        obtain ⟨l1, q1⟩ := List.getElem?_eq_some_iff.mp hi'
        obtain ⟨l2, q2⟩ := List.getElem?_eq_some_iff.mp hj
        have hij : i = j := (List.getElem_inj s.nd).mp (q1.trans q2.symm)
        have hil : i < m.length := (List.getElem?_eq_some_iff.mp hi).1
        omega
      · exact h.elim
end
section
variable {P : Program} {w : World} {K : PySem.W.Frag} {mg : Str → Option Value} {base : Heap} {fns : List Fn} {gls : List (Str × PyData)} {ecs : List Nat} {wf : Nat}
theorem flds_names {k : Nat} {f : Str} (h : f ∈ clsFlds k) : f ∈ fldNames := by
  unfold clsFlds at h
  split at h <;> simp_all [fldNames]
  rcases h with h | h <;> simp [h]
theorem run_ok (Tb : TabOk K mg fns gls ecs) : ∀ (n k : Nat) (f : Fn), fns[k]? = some f → ∀ (a : Addr) (fd : FuncData) (st : Stmt), mg f.name = some (.ref a) → Fun K f.name f.name st a fd → Binds K fd f.ps [] → FnScope f.N f.ps (defScope st) →
    maSs ⟨f.N, fns.map (·.name), gls.map (·.1), false, ecs⟩ (defScope st) f.body (defBody st) = true → FnOk P w K mg base (L2.CX P w) (n + 3) a fd f.ps (spOf K (RXc K ecs) f.ps.length (run fns (glOf gls) wf n k))
  | 0, k, f, hk, a, fd, st, hm, hF, hb, hS, hma => by
    refine hF.okX (k := 2) hS (fun vs H Q E h => ?_) (fun cdv A outer s H vs Q E hr h => ?_)
    · obtain ⟨_, _, _, _, _, hl, _⟩ := h; exact hl
    · obtain ⟨_, _, _, _, _, _, _, _, o⟩ := h; exact o.elim
  | n + 1, k, f, hk, a, fd, st, hm, hF, hb, hS, hma => by
    refine hF.okX (k := n + 3) hS (fun vs H Q E h => ?_) (fun cdv A outer s H vs Q E hr h => ?_)
    · obtain ⟨_, _, _, _, _, hl, _⟩ := h; exact hl
    · obtain ⟨F, G, m, c, ds, hl, hs, hp, o⟩ := h
      have C : CxOk (cxOf (L2.CX P w) P w K mg base f.N f.name (defScope st) a cdv A outer s H E) ⟨f.N, fns.map (·.name), gls.map (·.1), false, ecs⟩ (defScope st) (fun cls d _ H => E cls d H) noHeld :=
        ⟨rfl, hS.nd, rfl, hS.kind, fun _ => rfl, fun _ => rfl, fun z => Bool.noConfusion z, takes_of rfl rfl rfl rfl, passes_of rfl, hr.units, Tb.blt⟩
      have B : BaseOk (cxOf (L2.CX P w) P w K mg base f.N f.name (defScope st) a cdv A outer s H E) ⟨f.N, fns.map (·.name), gls.map (·.1), false, ecs⟩ (RXc K ecs) (run fns (glOf gls) wf n) (glOf gls) := by
        refine ⟨rfl, fun _ k' x hx => ?_, fun _ k' hk' hf' => ?_, Tb.errs, fun j x d hx hd => ?_⟩
        · rw [List.getElem?_map] at hx
          cases hf : fns[k']? with
          | none => rw [hf] at hx; cases hx
          | some g =>
            rw [hf] at hx
            cases hx
            obtain ⟨a', fd', st', h1, h2, h3, h4, h5⟩ := Tb.fn k' g hf
            exact ⟨a', fd', g.ps, n + 3, run_ok Tb n k' g hf a' fd' st' h1 h2 h3 h4 h5, hr, h1, h2.kp, h3, fun ds c hne => run_len hf hne⟩
        · obtain ⟨fI, fd2, j1, j2, Fn2, hb2⟩ := ini_ok (P := P) (w := w) (mg := mg) (base := base) (Tb.inits k' hk' hf') (fun f hf2 => (Tb.errs k' hk').fld f (flds_names hf2)) hf'
          exact ⟨(Tb.inits k' hk' hf').cls, fI, fd2, 2, j1, j2, Fn2, hr.mono (by omega), hb2⟩
        · rw [List.getElem?_map] at hx
          unfold glOf at hd
          cases hg : gls[j]? with
          | none => rw [hg] at hx; cases hx
          | some p =>
            rw [hg] at hx hd
            cases hx
            cases hd
            exact Tb.gv j p.1 p.2 hg
      refine ⟨tS K noHeld (RXc K ecs) (fun cls d _ H => E cls d H) (exSs (run fns (glOf gls) wf n) (glOf gls) wf f.body), SS_ok f.body C B (fun _ => rfl) ⟨rfl, rfl⟩ hma, ?_⟩
      have hlen : ds.length = vs.length := Paired.length hp
      have o : Out (run fns (glOf gls) wf (n + 1) k ds c) (PD K noHeld G F m Q) (fun e c' => ∀ F' H' cls dd, Ex F F' → StOk K G F' m H' c' → RXc K ecs e.cls e.fs cls dd F' → E cls dd H') := o
      simp only [run, hk, ofO] at o
      rw [if_pos (by rw [hlen, hl])] at o
      refine ⟨F, G, m, startD f.N.length ds, c, hs, ?_, ?_⟩
      · unfold startD L2.start
        exact pair_start hp _ (by rw [hlen])
      · have o2 : Out ((exSs (run fns (glOf gls) wf n) (glOf gls) wf f.body (startD f.N.length ds) c).bind fun p c1 => match p with
            | (.ret d, _) => leave c.length d c1
            | (.nx, _) => leave c.length (.t .none) c1
            | _ => .no) (PD K noHeld G F m Q) (fun e c' => ∀ F' H' cls dd, Ex F F' → StOk K G F' m H' (c'.take c.length) → RXc K ecs e.cls e.fs cls dd F' → E cls dd H') := by
          revert o
          cases ((exSs (run fns (glOf gls) wf n) (glOf gls) wf f.body (startD f.N.length ds) c).bind fun p c1 => match p with
            | (.ret d, _) => leave c.length d c1
            | (.nx, _) => leave c.length (.t .none) c1
            | _ => .no) <;> exact fun o => o
        refine (out_bind.mp o2).imp (fun p c1 h F' m' H' σ' e hm' s' en hsl => ?_) (fun x c' h F' m' H' σ' cls dd e hm' s' _ hsl r => ?_)
        · obtain ⟨fl, ρ'⟩ := p
          cases fl with
          | ret d => exact fun v r => leave_ok e hm' hs.len s' r h
          | nx => exact leave_ok (v := .non) e hm' hs.len s' (d := .t .none) Dq.non h
          | brk => exact h.elim
          | con => exact h.elim
        · have st := s'.take c.length
          rw [take_pre hm' hs.len] at st
          exact h F' H' cls dd e st r
/-- the law's promise, from what the machine says -/
def spLaw (K : PySem.W.Frag) (most : Nat) : Sp := fun vs H Q E => ∃ (a : Addr) (ns : List Int), vs = [.ref a] ∧ SqL K H a (ns.map V.int) ∧ ns.length ≤ most ∧ ∀ H', Q (.bl true) H'
theorem law_ok {most : Nat} (Tb : TabOk K mg fns gls ecs) {n k : Nat} {f : Fn} {x : Str} (hk : fns[k]? = some f) (hps : f.ps = [x]) (hlaw : ∀ ns : List Int, ns.length ≤ most → run fns (glOf gls) wf n k [.scr (ns.map .int)] [] = .ok (.t (.bool true)) [])
    {a : Addr} {fd : FuncData} {st : Stmt} (h1 : mg f.name = some (.ref a)) (h2 : Fun K f.name f.name st a fd) (h3 : Binds K fd f.ps []) (h4 : FnScope f.N f.ps (defScope st)) (h5 : maSs ⟨f.N, fns.map (·.name), gls.map (·.1), false, ecs⟩ (defScope st) f.body (defBody st) = true) :
    FnOk P w K mg base (L2.CX P w) (n + 3) a fd [x] (spLaw K most) := by
  have h := run_ok (P := P) (w := w) (base := base) (wf := wf) Tb n k f hk a fd st h1 h2 h3 h4 h5
  rw [hps] at h
  refine h.imp fun vs H Q E ⟨ad, ns, hv, hs, hlen, hq⟩ => ?_
  subst hv
  have hd : DqAll K H (ns.map V.int) (ns.map PyData.int) := DqAll.ofInts ns
  refine ⟨H, fun _ => none, [], [], [.scr (ns.map .int)], rfl, ⟨Ex.refl H, rfl, List.nodup_nil, (fun i a hi => by simp at hi), (fun a o e => by cases e), (fun a o e => by cases e)⟩, .cons ⟨ad, _, rfl, hs, hd⟩ .nil, ?_⟩
  rw [hlaw ns hlen]
  exact fun F' H' v e s r => by
    cases r
    exact hq H'
end
end SK

/-! SKD: how the machine is computed with: one call's step, walks, comprehensions. -/
namespace SK
open PySem PySem.Spec PyProof.Rows L2
theorem bind_ok {α β : Type} (a : α) (c : S) (f : α → S → R β) : R.bind (.ok a c) f = f a c := rfl
theorem bind_ex {α β : Type} (e : Exn) (c : S) (f : α → S → R β) : R.bind (.ex e c) f = .ex e c := rfl
theorem bind_no {α β : Type} (f : α → S → R β) : R.bind (.no : R α) f = .no := rfl
theorem bind_ite {α β : Type} (p : Prop) [Decidable p] (a b : R α) (f : α → S → R β) : R.bind (if p then a else b) f = if p then R.bind a f else R.bind b f := by split <;> rfl
theorem ofO_some {α β : Type} (a : α) (f : α → R β) : ofO (some a) f = f a := rfl
theorem ofO_none {α β : Type} (f : α → R β) : ofO none f = .no := rfl
theorem nox_ok {α : Type} (a : α) (c : S) : nox (.ok a c) = .ok a c := rfl
def finF (n : Nat) (p : Fl × Rho) (c1 : S) : R D := match p with
  | (.ret d, _) => leave n d c1
  | (.nx, _) => leave n (.t .none) c1
  | _ => .no
def fin (n : Nat) (r : RS) : R D := cutX n (r.bind (finF n))
theorem fin_t (n : Nat) (q : PyData) (ρ : Rho) (c : S) : fin n (.ok (.ret (.t q), ρ) c) = .ok (.t q) (c.take n) := rfl
theorem fin_own (n : Nat) (q : List PyData) (ρ : Rho) (c : S) : fin n (.ok (.ret (.own q), ρ) c) = .ok (.own q) (c.take n) := rfl
theorem fin_nx (n : Nat) (ρ : Rho) (c : S) : fin n (.ok (.nx, ρ) c) = .ok (.t .none) (c.take n) := rfl
theorem fin_ite (n : Nat) (p : Prop) [Decidable p] (a b : RS) : fin n (if p then a else b) = if p then fin n a else fin n b := by split <;> rfl
theorem run_step {fns : List Fn} {gl : Nat → Option PyData} {wf n k : Nat} {ds : List D} {c : S} {f : Fn} (h : fns[k]? = some f) (hl : ds.length = f.ps.length) :
    SK.run fns gl wf (n + 1) k ds c = fin c.length (exSs (SK.run fns gl wf n) gl wf f.body (startD f.N.length ds) c) := by
  show ofO fns[k]? _ = _
  rw [h, ofO_some, if_pos hl]
  unfold fin
  congr 1
theorem setTg_one (i : Nat) (d : PyData) (ρ : Rho) : setTg (.one i) d ρ = some (ρ.set i (some (.t d))) := by rw [setTg]
theorem setTg_many (ts : Tgs) (ds : List PyData) (ρ : Rho) : setTg (.many ts) (.tuple ds) ρ = setTgs ts ds ρ := by rw [setTg]
theorem setTgs_nil (ρ : Rho) : setTgs .nil [] ρ = some ρ := by rw [setTgs]
theorem setTgs_cons (t : Tg) (ts : Tgs) (d : PyData) (ds : List PyData) (ρ : Rho) : setTgs (.cons t ts) (d :: ds) ρ = (setTg t d ρ).bind fun ρ1 => setTgs ts ds ρ1 := by rw [setTgs]
section
variable {cl : Nat → List D → S → R D} {gl : Nat → Option PyData} {wf : Nat}
theorem exSs_cons (s : IS) (ss : ISs) (ρ : Rho) (c : S) : exSs cl gl wf (.cons s ss) ρ c = (exS cl gl wf s ρ c).bind fun p c1 => match p with
    | (.nx, ρ1) => exSs cl gl wf ss ρ1 c1
    | p => .ok p c1 := by
  first
  | (rw [exSs]; done)
  | (rw [exSs]; congr 1)
theorem exSs_nx {s : IS} {ss : ISs} {ρ ρ1 : Rho} {c c1 : S} (h : exS cl gl wf s ρ c = .ok (.nx, ρ1) c1) : exSs cl gl wf (.cons s ss) ρ c = exSs cl gl wf ss ρ1 c1 := by rw [exSs_cons, h]; rfl
theorem exSs_ret {s : IS} {ss : ISs} {ρ ρ1 : Rho} {d : D} {c c1 : S} (h : exS cl gl wf s ρ c = .ok (.ret d, ρ1) c1) : exSs cl gl wf (.cons s ss) ρ c = .ok (.ret d, ρ1) c1 := by rw [exSs_cons, h]; rfl
/-- the turns of a comprehension -/
def turn (cl : Nat → List D → S → R D) (gl : Nat → Option PyData) (e : IE) (tg : Tg) (cond : ITo) (ρ : Rho) (x : PyData) (c2 : S) : R (Option PyData) :=
  ofO (setTg tg x (wipeD ρ (slotsOf tg))) fun ρ1 => (evC cl gl cond ρ1 c2).bind fun b c3 => if b then (tv (evE cl gl e ρ1 c3)).bind fun y c4 => .ok (some y) c4 else .ok none c3
theorem evE_bin {op : Bop} {a b : IE} {ρ : Rho} {c c1 c2 : S} {x y : D} {p q r : PyData} (h1 : evE cl gl a ρ c = .ok x c1) (h2 : evE cl gl b ρ c1 = .ok y c2) (hp : lookX (frz x) c2 = some p) (hq : lookX (frz y) c2 = some q) (h : binD op p q = some r) : evE cl gl (.bin op a b) ρ c = .ok (.t r) c2 := by
  rw [evE, h1, bind_ok, h2, bind_ok]
  unfold twoX
  rw [hp, ofO_some, hq, ofO_some]
  show resT (binD op p q) (binL op p q) c2 = _
  rw [h]
  rfl
theorem evE_comp (e : IE) (tg : Tg) (it : II) (cond : ITo) (ρ : Rho) (c : S) : evE cl gl (.comp e tg it cond) ρ c = (evI cl gl it ρ c).bind fun items c1 => (nox (compL (turn cl gl e tg cond ρ) items [] c1)).bind fun ds c5 => .ok (.own ds) c5 := by
  rw [evE]; rfl
end
theorem compL_ok {f : PyData → S → R (Option PyData)} {g : PyData → PyData} {c : S} : ∀ (items acc : List PyData), (∀ x ∈ items, f x c = .ok (some (g x)) c) → acc.length + items.length ≤ 16777216 → compL f items acc c = .ok (acc ++ items.map g) c
  | [], acc, _, _ => by simp [compL]
  | x :: xs, acc, h, hz => by
    have sl : PySem.sizeLine = 16777216 := rfl
    rw [List.length_cons] at hz
    simp only [compL, h x (List.mem_cons_self ..), bind_ok]
    rw [if_pos (by rw [sl]; omega), compL_ok xs (acc ++ [g x]) (fun y hy => h y (List.mem_cons_of_mem _ hy)) (by rw [List.length_append]; simp; omega)]
    simp
theorem compL_nil {f : PyData → S → R (Option PyData)} {c : S} : ∀ (items acc : List PyData), (∀ x ∈ items, f x c = .ok none c) → compL f items acc c = .ok acc c
  | [], acc, _ => rfl
  | x :: xs, acc, h => by
    simp only [compL, h x (List.mem_cons_self ..), bind_ok]
    exact compL_nil xs acc fun y hy => h y (List.mem_cons_of_mem _ hy)
inductive Two {α β : Type} (Q : α → β → Prop) : List α → List β → Prop where
  | nil : Two Q [] []
  | cons {a : α} {b : β} {as : List α} {bs : List β} : Q a b → Two Q as bs → Two Q (a :: as) (b :: bs)
theorem Two.length {α β : Type} {Q : α → β → Prop} {as : List α} {bs : List β} (h : Two Q as bs) : as.length = bs.length := by
  induction h with
  | nil => rfl
  | cons _ _ ih => simp [ih]
/-- a comprehension that changes what its turns keep -/
theorem compL_st {f : PyData → S → R (Option PyData)} {α : Type} (ι : α → PyData) (P : S → Prop) (Q : α → PyData → Prop) : ∀ (xs : List α) (acc : List PyData) (c : S), P c → (∀ x ∈ xs, ∀ c, P c → ∃ y c', f (ι x) c = .ok (some y) c' ∧ P c' ∧ Q x y) → acc.length + xs.length ≤ 16777216 →
    ∃ ys c', compL f (xs.map ι) acc c = .ok (acc ++ ys) c' ∧ P c' ∧ Two Q xs ys
  | [], acc, c, hc, _, _ => ⟨[], c, by simp [compL], hc, .nil⟩
  | x :: xs, acc, c, hc, h, hz => by
    have sl : PySem.sizeLine = 16777216 := rfl
    rw [List.length_cons] at hz
    obtain ⟨y, c1, e1, h1, q1⟩ := h x (List.mem_cons_self ..) c hc
    obtain ⟨ys, c2, e2, h2, q2⟩ := compL_st ι P Q xs (acc ++ [y]) c1 h1 (fun z hz => h z (List.mem_cons_of_mem _ hz)) (by rw [List.length_append]; simp; omega)
    refine ⟨y :: ys, c2, ?_, h2, .cons q1 q2⟩
    simp only [List.map_cons, compL, e1, bind_ok]
    rw [if_pos (by rw [sl]; omega), e2, List.append_assoc]
    rfl
/-- a walk whose turns all go on and change but the target -/
theorem forL_keep {tg : Tg} {f : Rho → S → RS} {c : S} {β : Type} (mk : β → Rho) : ∀ (items : List PyData) (o : β), (∀ x ∈ items, ∀ o, ∃ ρ1 o', setTg tg x (mk o) = some ρ1 ∧ f ρ1 c = .ok (.nx, mk o') c) → ∃ o', forL tg f items (mk o) c = .ok (.nx, mk o') c
  | [], o, _ => ⟨o, rfl⟩
  | x :: xs, o, h => by
    obtain ⟨ρ1, o1, e1, e2⟩ := h x (List.mem_cons_self ..) o
    obtain ⟨o2, e3⟩ := forL_keep mk xs o1 fun y hy => h y (List.mem_cons_of_mem _ hy)
    exact ⟨o2, by rw [forL, e1, ofO_some, e2, bind_ok]; exact e3⟩
/-- a walk that keeps P, whatever its turns change -/
theorem forL_st {tg : Tg} {f : Rho → S → RS} (P : Nat → Rho → S → Prop) : ∀ (items : List PyData) (n : Nat) (ρ : Rho) (c : S), P (n + items.length) ρ c → (∀ x ∈ items, ∀ n ρ c, P (n + 1) ρ c → ∃ ρ1 ρ2 c2, setTg tg x ρ = some ρ1 ∧ f ρ1 c = .ok (.nx, ρ2) c2 ∧ P n ρ2 c2) → ∃ ρ' c', forL tg f items ρ c = .ok (.nx, ρ') c' ∧ P n ρ' c'
  | [], n, ρ, c, hp, _ => ⟨ρ, c, rfl, hp⟩
  | x :: xs, n, ρ, c, hp, h => by
    obtain ⟨ρ1, ρ2, c2, e1, e2, h2⟩ := h x (List.mem_cons_self ..) (n + xs.length) ρ c hp
    obtain ⟨ρ3, c3, e3, h3⟩ := forL_st P xs n ρ2 c2 h2 fun y hy => h y (List.mem_cons_of_mem _ hy)
    exact ⟨ρ3, c3, by rw [forL, e1, ofO_some, e2, bind_ok]; exact e3, h3⟩
theorem bools_map : ∀ bs : List Bool, bools (bs.map .bool) = some bs
  | [] => rfl
  | b :: bs => by simp [bools, bools_map bs]
theorem atI_nat {α : Type} (xs : List α) (k : Nat) (h : k < xs.length) : L2.atI xs (k : Int) = xs[k]? := by
  have e : L2.ixN xs.length (k : Int) = some k := by
    unfold L2.ixN
    rw [if_pos (by omega), if_pos (by omega)]
    rfl
  unfold L2.atI
  rw [e]
  rfl
theorem rng_succ (lo : Int) (n : Nat) : rngD lo (n + 1) = .int lo :: rngD (lo + 1) n := by
  unfold rngD
  rw [List.range_succ_eq_map, List.map_cons, List.map_map]
  congr 1
  · simp
  · apply List.map_congr_left
    intro a _
    simp
    omega
theorem rng_len (lo : Int) (n : Nat) : (rngD lo n).length = n := by unfold rngD; simp
theorem rng_mem {lo : Int} {n : Nat} {x : PyData} (h : x ∈ rngD lo n) : ∃ k : Nat, k < n ∧ x = .int (lo + k) := by
  unfold rngD at h
  rw [List.mem_map] at h
  obtain ⟨k, hk, rfl⟩ := h
  exact ⟨k, List.mem_range.mp hk, rfl⟩
theorem cut_to {α : Type} (xs : List α) (k : Nat) : cutD xs none (some (k : Int)) = xs.take k := by
  unfold cutD
  rw [HT.sIx_none, HT.sIx_nat, List.drop_zero, Nat.sub_zero]
  by_cases h : k ≤ xs.length
  · rw [Nat.min_eq_left h]
  · rw [Nat.min_eq_right (by omega), List.take_length, List.take_of_length_le (by omega)]
theorem cut_from {α : Type} (xs : List α) (k : Nat) : cutD xs (some (k : Int)) none = xs.drop k := by
  unfold cutD
  rw [HT.sIx_none, HT.sIx_nat]
  by_cases h : k ≤ xs.length
  · rw [Nat.min_eq_left h, List.take_of_length_le (by rw [List.length_drop]; omega)]
  · rw [Nat.min_eq_right (by omega)]
    rw [List.drop_of_length_le (by omega), List.drop_of_length_le (by omega)]
    simp
theorem cut_last {α : Type} (xs : List α) : (cutD xs none (some (-1))).length = xs.length - 1 := by
  unfold cutD
  rw [List.length_take, List.length_drop]
  simp [HT.sIx]
  omega
end SK

/-! SKH: what the text says of the error classes, by computing. -/
namespace SK
open PySem PySem.Spec PyProof.Rows L2
section
variable (K : PySem.W.Frag) (ecs : List Nat) (k : Nat)
abbrev adK : Addr := gaK K (clsName k)
def eiB : Bool := decide (PySem.W.findIn K (.ref (adK K k)) "__class__" = some (some (.builtin "object.__class__"))) &&
  (decide (PySem.W.specialIn K (.builtin "object.__class__") "__get__" = some (some (.builtin "getset_descriptor.__get__"))) &&
    (decide (PySem.W.takesIn K (.builtin "object.__class__") = some true) && decide (PySem.W.mroIn K (adK K k) (.type "object") = some true)))
def errB : Bool := decide (PySem.W.nsIn K mainGlobals (clsName k) = some (some (.ref (adK K k)))) && (PySem.W.keepIn K (.ref (adK K k)) &&
  (decide (PySem.W.subIn K (.ref (adK K k)) (.type "BaseException") = some true) && (decide (PySem.W.typeIn K (.ref (adK K k)) = some (.type "type")) &&
    (xfB K (adK K k) && (eiB K k && ((ecs.all fun j => decide (PySem.W.exmOne K (.ref (adK K k)) (.ref (adK K j)) = some (isSub k j)) && decide (PySem.W.kitOne K (.ref (adK K k)) (.ref (adK K j)) = some (isSub k j))) &&
      (decide (PySem.W.kitOne K (.ref (adK K k)) (.type "ValueError") = some true) && ((!(clsFlds k).isEmpty || PySem.W.excIn K (adK K k) veB "ValueError.__new__") &&
        fldNames.all fun f => decide (PySem.W.findIn K (.ref (adK K k)) f = some none)))))))))
variable {K ecs k} {h : Heap} {mg : Str → Option Value}
theorem errK_of (X : K.In h) (G : h.Ns mainGlobals mg) (b : errB K ecs k = true) : ErrK K mg ecs k := by
  unfold errB at b
  simp only [Bool.and_eq_true, decide_eq_true_eq] at b
  obtain ⟨b1, b2, b3, b4, b5, b6, b7, b8, b9, b10⟩ := b
  have x := xfB_ok b5
  unfold eiB at b6
  simp only [Bool.and_eq_true, decide_eq_true_eq] at b6
  obtain ⟨c1, c2, c3, c4⟩ := b6
  rw [List.all_eq_true] at b7 b10
  refine ⟨PySem.W.mg_of X G b1, b2, b3, b4, x, ⟨x.ga, x.gg, x.exC, x.hdC, c1, c2, c3, c4⟩, fun j hj => ?_, fun j hj => ?_, b8, fun e => ?_, fun f hf => of_decide_eq_true (b10 f hf)⟩
  · have := b7 j hj
    simp only [Bool.and_eq_true, decide_eq_true_eq] at this
    exact this.1
  · have := b7 j hj
    simp only [Bool.and_eq_true, decide_eq_true_eq] at this
    exact this.2
  · rw [e] at b9
    simpa using b9
end
/-- an own error class whose __init__ stores its parameters -/
def oexB (K : PySem.W.Frag) (C : Addr) : Bool := (match K.lookup C with
  | some ⟨.type "type", _, .cls cd, sl⟩ => (match cd.mro, sl.toList with
    | .ref C' :: bm, [_, _, _, _, some (.builtin n), _] => C' == C && n == "ValueError.__new__" && !cd.hasDel && cd.hasDict && PySem.HandSPX.refsVE bm
    | _, _ => false)
  | _ => false) && decide (PySem.W.findIn K (.ref C) "__setattr__" = some (some (.builtin "object.__setattr__")))
theorem oex_of {K : PySem.W.Frag} {C : Addr} (b : oexB K C = true) (h1 : PySem.W.subIn K (.ref C) (.type "BaseException") = some true) (h2 : PySem.W.typeIn K (.ref C) = some (.type "type")) (h3 : PySem.W.keepIn K (.ref C) = true) : OexC K C := by
  unfold oexB at b
  rw [Bool.and_eq_true, decide_eq_true_eq] at b
  obtain ⟨b, sa⟩ := b
  refine ⟨?_, sa, h1, h2, h3⟩
  split at b
  · rename_i dd cd sl ho
    split at b
    · rename_i C' bm k0 k1 k2 k3 n k5 hm hs
      simp only [Bool.and_eq_true, beq_iff_eq, Bool.not_eq_true'] at b
      obtain ⟨⟨⟨⟨rfl, rfl⟩, hdel⟩, hdi⟩, hr⟩ := b
      obtain ⟨nm, bs, mro, ns, qn, hd, sn, sub, ab, col, del⟩ := cd
      dsimp only at hm hdel hdi
      subst hm hdel hdi
      have hsl : sl = #[k0, k1, k2, k3, some (.builtin "ValueError.__new__"), k5] := by
        obtain ⟨l⟩ := sl
        simp only at hs
        rw [hs]
      subst hsl
      exact ⟨nm, qn, ns, bs, bm, sn, sub, ab, col, dd, k0, k1, k2, k3, k5, ho, hr⟩
    · cases b
  · cases b
/-- the j-th statement of a class's body -/
def inCls (s : Stmt) (j : Nat) : Stmt := match s with
  | .ClassDef _ _ _ body _ _ _ _ _ _ _ => body.getD j (.Pass ⟨0, 0, 0, 0⟩)
  | _ => .Pass ⟨0, 0, 0, 0⟩
end SK
namespace SK
open PySem PySem.Spec PyProof.Rows L2
/-! ### constants of the module -/
def all2 {α β : Type} (f : α → β → Bool) : List α → List β → Bool
  | [], [] => true
  | a :: as, b :: bs => f a b && all2 f as bs
  | _, _ => false
/-- the value u is the data d, all of it in the written part -/
def gvB (K : PySem.W.Frag) : Nat → PyData → Value → Bool
  | _, .none, .none => true
  | _, .bool b, .bool c => b == c
  | _, .int i, .int j _ => decide (i = j)
  | _, .str s, .str z _ => decide (s = z)
  | n + 1, .tuple ds, .ref a => match K.lookup a with
    | some ⟨.type "tuple", _, .seq its _, _⟩ => decide (its.size ≤ PySem.sizeLine) && all2 (gvB K n) ds its.toList
    | _ => false
  | _, _, _ => false
theorem gvB_ok {K : PySem.W.Frag} : ∀ (n : Nat) (d : PyData) (u : Value), gvB K n d u = true → ∃ v, RelV v u ∧ ∀ F, Dq K F v d := by
  have lists : ∀ (n : Nat), (∀ (d : PyData) (u : Value), gvB K n d u = true → ∃ v, RelV v u ∧ ∀ F, Dq K F v d) → ∀ (ds : List PyData) (us : List Value), all2 (gvB K n) ds us = true → ∃ vs, Vals vs us ∧ ∀ F, DqAll K F vs ds := by
    intro n ih ds
    induction ds with
    | nil =>
      intro us h
      cases us with
      | nil => exact ⟨[], .nil, fun _ => .nil⟩
      | cons => simp [all2] at h
    | cons d ds ihd =>
      intro us h
      cases us with
      | nil => simp [all2] at h
      | cons u us =>
        simp only [all2, Bool.and_eq_true] at h
        obtain ⟨v, r, hv⟩ := ih d u h.1
        obtain ⟨vs, rs, hvs⟩ := ihd us h.2
        exact ⟨v :: vs, .cons r rs, fun F => .cons (hv F) (hvs F)⟩
  have flat : ∀ (n : Nat) (d : PyData) (u : Value), (∀ ds, d ≠ .tuple ds) → gvB K n d u = true → ∃ v, RelV v u ∧ ∀ F, Dq K F v d := by
    intro n d u hd h
    cases d with
    | none => cases u <;> first | exact ⟨.non, rfl, fun _ => .non⟩ | (simp [gvB] at h)
    | bool b =>
      cases u with
      | bool c =>
        simp only [gvB, beq_iff_eq] at h
        subst h
        exact ⟨.bl b, rfl, fun _ => .bl _⟩
      | _ => simp [gvB] at h
    | int i =>
      cases u with
      | int j t =>
        simp only [gvB, decide_eq_true_eq] at h
        subst h
        exact ⟨.int i, ⟨t, rfl⟩, fun _ => .int _⟩
      | _ => simp [gvB] at h
    | str s =>
      cases u with
      | str z t =>
        simp only [gvB, decide_eq_true_eq] at h
        subst h
        exact ⟨.str s, ⟨t, rfl⟩, fun _ => .str _⟩
      | _ => simp [gvB] at h
    | tuple ds => exact absurd rfl (hd ds)
    | list => cases u <;> simp [gvB] at h
    | dict => cases u <;> simp [gvB] at h
  intro n
  induction n with
  | zero =>
    intro d u h
    cases d with
    | tuple ds => cases u <;> simp [gvB] at h
    | _ => exact flat 0 _ u (by simp) h
  | succ n ih =>
    intro d u h
    cases d with
    | tuple ds =>
      cases u with
      | ref a =>
        simp only [gvB] at h
        split at h
        · rename_i dd its nn sl ho
          rw [Bool.and_eq_true, decide_eq_true_eq] at h
          obtain ⟨vs, r, hv⟩ := lists n ih ds its.toList h.2
          exact ⟨.ref a, rfl, fun F => .tup (.inr ⟨_, its, nn, ho, rfl, rfl, h.1, r⟩) (hv F)⟩
        · cases h
      | _ => simp [gvB] at h
    | _ => exact flat (n + 1) _ u (by simp) h
def gB (K : PySem.W.Frag) (p : Str × PyData) : Bool := match PySem.W.nsIn K mainGlobals p.1 with
  | some (some u) => gvB K 9 p.2 u
  | _ => false
theorem gB_ok {K : PySem.W.Frag} {h : Heap} {mg : Str → Option Value} {gls : List (Str × PyData)} (X : K.In h) (G : h.Ns mainGlobals mg) (b : gls.all (gB K) = true) (j : Nat) (x : Str) (d : PyData) (hj : gls[j]? = some (x, d)) :
    ∃ u v, mg x = some u ∧ RelV v u ∧ ∀ F, Dq K F v d := by
  have c := List.all_eq_true.mp b (x, d) (List.mem_of_getElem? hj)
  unfold gB at c
  split at c
  · rename_i u e
    obtain ⟨v, r, hv⟩ := gvB_ok 9 d u c
    exact ⟨u, v, PySem.W.mg_of X G e, r, hv⟩
  · cases c
theorem gaK_of {K : PySem.W.Frag} {x : Str} {C : Addr} (e : PySem.W.nsIn K mainGlobals x = some (some (.ref C))) : gaK K x = C := by
  unfold gaK
  rw [e]
end SK

namespace Q00
open PySem SK
abbrev k_law_draws : Nat := 0
abbrev k_law_next : Nat := 1
abbrev k_law_kinds : Nat := 2
abbrev k_law : Nat := 3
def ecs : List Nat := [10, 0, 1, 2, 3, 4, 5, 6, 7, 8]
def b_law_draws : ISs := (.cons (.cell 3 (.lst .nil))
    (.cons (.for (.one 4) (.seq (.slice (.var 0) (.some (.var 1)) .none)) (.cons (.asg 5 (.bi .abs (.cons (.bi .int (.cons (.var 4) .nil)) .nil)))
    (.cons (.ife (.val (.cmp .lt (.var 5) (.bin .pow (.lit (.int 10)) (.lit (.int 18))))) (.cons (.asg 6 (.bin .mod (.bi .int (.cons (.bin .add (.bin .mul (.var 5) (.lit (.int 48271))) (.lit (.int 11))) .nil)) (.lit (.int 2147483647))))
    (.cons (.app 3 (.var 5))
    (.cons (.app 3 (.bin .fdiv (.bin .mod (.bi .int (.cons (.bin .add (.bin .add (.bin .mul (.var 6) (.lit (.int 16807))) (.bin .fdiv (.var 5) (.lit (.int 9)))) (.lit (.int 3))) .nil)) (.lit (.int 2147483647))) (.lit (.int 7))))
    (.cons (.app 3 (.bin .fdiv (.bin .mod (.bi .int (.cons (.bin .add (.bin .add (.bin .mul (.var 6) (.lit (.int 69621))) (.bin .fdiv (.var 5) (.lit (.int 5)))) (.lit (.int 7))) .nil)) (.lit (.int 2147483647))) (.lit (.int 11))))
    .nil)))) (.cons (.for (.one 7) (.rng1 (.lit (.int 20))) (.cons (.ife (.val (.cmp .gt (.var 5) (.lit (.int 0)))) (.cons (.app 3 (.bin .mod (.bi .int (.cons (.var 5) .nil)) (.lit (.int 10000))))
    .nil) .nil)
    (.cons (.asg 5 (.bin .fdiv (.var 5) (.lit (.int 10000))))
    .nil)))
    .nil))
    .nil)))
    (.cons (.ret (.slice (.var 3) .none (.some (.var 2))))
    .nil)))
def f_law_draws : Fn := ⟨("_law_draws" : Str), [("script" : Str), ("start" : Str), ("most" : Str)], [("script" : Str), ("start" : Str), ("most" : Str), ("draws" : Str), ("cell" : Str), ("number" : Str), ("mixed" : Str), ("k" : Str)], b_law_draws⟩
def b_law_next : ISs := (.cons (.ife (.val (.cmp .eq (.bi .len (.cons (.var 0) .nil)) (.lit (.int 0)))) (.cons (.ret (.lit (.int 0)))
    .nil) .nil)
    (.cons (.ret (.pop0 (.var 0) (.lit (.int 0))))
    .nil))
def f_law_next : Fn := ⟨("_law_next" : Str), [("draws" : Str)], [("draws" : Str)], b_law_next⟩
def b_law_kinds : ISs := (.cons (.asg 1 (.lst (.cons (.oisc (.var 0) 0 [10, 0, 1, 2, 3, 4, 5, 6, 7, 8]) (.cons (.oisc (.var 0) 1 [10, 0, 1, 2, 3, 4, 5, 6, 7, 8]) (.cons (.oisc (.var 0) 2 [10, 0, 1, 2, 3, 4, 5, 6, 7, 8]) (.cons (.oisc (.var 0) 3 [10, 0, 1, 2, 3, 4, 5, 6, 7, 8]) (.cons (.oisc (.var 0) 4 [10, 0, 1, 2, 3, 4, 5, 6, 7, 8]) (.cons (.oisc (.var 0) 5 [10, 0, 1, 2, 3, 4, 5, 6, 7, 8]) (.cons (.oisc (.var 0) 6 [10, 0, 1, 2, 3, 4, 5, 6, 7, 8]) (.cons (.oisc (.var 0) 7 [10, 0, 1, 2, 3, 4, 5, 6, 7, 8]) (.cons (.oisc (.var 0) 8 [10, 0, 1, 2, 3, 4, 5, 6, 7, 8]) .nil)))))))))))
    (.cons (.ret (.tup (.cons (.var 1) (.cons (.oisc (.var 0) 10 [10, 0, 1, 2, 3, 4, 5, 6, 7, 8]) (.cons (.oisv (.var 0) [10, 0, 1, 2, 3, 4, 5, 6, 7, 8]) .nil)))))
    .nil))
def f_law_kinds : Fn := ⟨("_law_kinds" : Str), [("error" : Str)], [("error" : Str), ("rows" : Str)], b_law_kinds⟩
def b_law : ISs := (.cons (.cell 1 (.call k_law_draws (.cons (.var 0) (.cons (.lit (.int 0)) (.cons (.lit (.int 6)) .nil)))))
    (.cons (.asg 2 (.sub (.lst (.cons (.lit (.str ("shape" : Str))) (.cons (.lit (.str ("field" : Str))) (.cons (.lit (.str ("kind" : Str))) (.cons (.lit (.str ("large" : Str))) (.cons (.lit (.str ("range" : Str))) .nil)))))) (.bin .mod (.call k_law_next (.cons (.var 1) .nil)) (.lit (.int 5)))))
    (.cons (.asg 3 (.bin .mod (.call k_law_next (.cons (.var 1) .nil)) (.lit (.int 2001))))
    (.cons (.asg 4 (.lst (.cons (.mk 0 .nil) (.cons (.mk 1 .nil) (.cons (.mk 2 .nil) (.cons (.mk 3 .nil) (.cons (.mk 4 .nil) (.cons (.mk 5 .nil) (.cons (.mk 6 (.cons (.var 2) .nil)) (.cons (.mk 7 (.cons (.var 3) .nil)) (.cons (.mk 8 (.cons (.var 3) (.cons (.var 2) .nil))) .nil)))))))))))
    (.cons (.for (.one 5) (.rng1 (.lit (.int 9))) (.cons (.ife (.val (.cmp .ne (.call k_law_kinds (.cons (.sub (.var 4) (.var 5)) .nil)) (.tup (.cons (.comp (.cmp .eq (.var 6) (.var 5)) (.one 6) (.rng1 (.lit (.int 9))) .none) (.cons (.lit (.bool true)) (.cons (.lit (.bool true)) .nil)))))) (.cons (.ret (.lit (.bool false)))
    .nil) .nil)
    .nil))
    (.cons (.ife (.or (.val (.cmp .ne (.ofld (.sub (.var 4) (.lit (.int 6))) ("reason" : Str) [10, 0, 1, 2, 3, 4, 5, 6, 7, 8]) (.var 2))) (.one (.val (.cmp .ne (.ofld (.sub (.var 4) (.lit (.int 7))) ("index" : Str) [10, 0, 1, 2, 3, 4, 5, 6, 7, 8]) (.var 3))))) (.cons (.ret (.lit (.bool false)))
    .nil) .nil)
    (.cons (.ret (.and (.cmp .eq (.ofld (.sub (.var 4) (.lit (.int 8))) ("index" : Str) [10, 0, 1, 2, 3, 4, 5, 6, 7, 8]) (.var 3)) (.one (.cmp .eq (.ofld (.sub (.var 4) (.lit (.int 8))) ("reason" : Str) [10, 0, 1, 2, 3, 4, 5, 6, 7, 8]) (.var 2)))))
    .nil)))))))
def f_law : Fn := ⟨("law" : Str), [("script" : Str)], [("script" : Str), ("draws" : Str), ("reason" : Str), ("index" : Str), ("errors" : Str), ("k" : Str), ("at" : Str)], b_law⟩
def fns : List Fn := [f_law_draws, f_law_next, f_law_kinds, f_law]
def gls : List (Str × PyData) := []
abbrev gl := SK.glOf gls
end Q00

namespace Q00
open SK
open PySem (PyData Str)
/-! ### the draws -/
def bodyK : ISs := (.cons (.ife (.val (.cmp .gt (.var 5) (.lit (.int 0)))) (.cons (.app 3 (.bin .mod (.bi .int (.cons (.var 5) .nil)) (.lit (.int 10000)))) .nil) .nil) (.cons (.asg 5 (.bin .fdiv (.var 5) (.lit (.int 10000)))) .nil))
def PK (sc : D) (n : Nat) (ρ : Rho) (c : S) : Prop := ∃ (i : Int) (x4 x6 x7 : Option D) (is : List Int), ρ = [some sc, some (.t (.int 0)), some (.t (.int 6)), some (.ref 0), x4, some (.t (.int i)), x6, x7] ∧ c = [.lst (is.map .int)] ∧ is.length + n ≤ 90000
theorem turnK (cl : Nat → List D → S → R D) (sc : D) (x : PyData) (n : Nat) (ρ : Rho) (c : S) (h : PK sc (n + 1) ρ c) : ∃ ρ1 ρ2 c2, setTg (.one 7) x ρ = some ρ1 ∧ exSs cl gl 100 bodyK ρ1 c = .ok (.nx, ρ2) c2 ∧ PK sc n ρ2 c2 := by
  obtain ⟨i, x4, x6, x7, is, rfl, rfl, hz⟩ := h
  by_cases h0 : 0 < i
  · have e : is.length < 16777216 := by omega
    refine ⟨_, [some sc, some (.t (.int 0)), some (.t (.int 6)), some (.ref 0), x4, some (.t (.int (i / 10000))), x6, some (.t x)], [.lst ((is ++ [i % 10000]).map .int)], setTg_one .., ?_, i / 10000, x4, x6, some (.t x), is ++ [i % 10000], rfl, rfl, by simp; omega⟩
    simp [bodyK, exSs, exS, evE, evT, evA, evO, evC, evI, bind_ok, SK.R.out, bind_ex, bind_no, ofO_some, ofO_none, nox_ok, fin_t, fin_own, fin_nx, List.take_length, look, lookX, frz, two, twoX, resT, resB, tv, tvD, pd, dat, allT, lookAll, popD, appD, binD, binL, cmpD, eqD, truD, subD, sliceD, sliceL, tyD, kd, tyB, biD, biL, meD, itemsD, isNoneD, leave, startD, setTg_one, setTg_many, setTgs_nil, setTgs_cons, slotsOf, slotsOfs, wipeD, augD, List.length_cons, List.length_nil, List.map_cons, List.map_nil, List.getElem?_cons_zero, List.getElem?_cons_succ, List.getElem?_nil, List.set_cons_zero, List.set_cons_succ, List.cons_append, List.nil_append, List.replicate_succ, List.replicate_zero, Nat.reduceAdd, Nat.reduceSub, if_true, if_false, Bool.false_eq_true, Option.map_some, Option.map_none, Option.bind_some, Option.bind_none, Bool.not_true, Bool.not_false, decide_true, decide_false, h0, PySem.sizeLine, e]
  · refine ⟨_, [some sc, some (.t (.int 0)), some (.t (.int 6)), some (.ref 0), x4, some (.t (.int (i / 10000))), x6, some (.t x)], [.lst (is.map .int)], setTg_one .., ?_, i / 10000, x4, x6, some (.t x), is, rfl, rfl, by omega⟩
    simp [bodyK, exSs, exS, evE, evT, evA, evO, evC, evI, bind_ok, SK.R.out, bind_ex, bind_no, ofO_some, ofO_none, nox_ok, fin_t, fin_own, fin_nx, List.take_length, look, lookX, frz, two, twoX, resT, resB, tv, tvD, pd, dat, allT, lookAll, popD, appD, binD, binL, cmpD, eqD, truD, subD, sliceD, sliceL, tyD, kd, tyB, biD, biL, meD, itemsD, isNoneD, leave, startD, setTg_one, setTg_many, setTgs_nil, setTgs_cons, slotsOf, slotsOfs, wipeD, augD, List.length_cons, List.length_nil, List.map_cons, List.map_nil, List.getElem?_cons_zero, List.getElem?_cons_succ, List.getElem?_nil, List.set_cons_zero, List.set_cons_succ, List.cons_append, List.nil_append, List.replicate_succ, List.replicate_zero, Nat.reduceAdd, Nat.reduceSub, if_true, if_false, Bool.false_eq_true, Option.map_some, Option.map_none, Option.bind_some, Option.bind_none, Bool.not_true, Bool.not_false, decide_true, decide_false, h0, PySem.sizeLine]
def bodyN : ISs := (.cons (.asg 5 (.bi .abs (.cons (.bi .int (.cons (.var 4) .nil)) .nil)))
    (.cons (.ife (.val (.cmp .lt (.var 5) (.bin .pow (.lit (.int 10)) (.lit (.int 18))))) (.cons (.asg 6 (.bin .mod (.bi .int (.cons (.bin .add (.bin .mul (.var 5) (.lit (.int 48271))) (.lit (.int 11))) .nil)) (.lit (.int 2147483647))))
    (.cons (.app 3 (.var 5))
    (.cons (.app 3 (.bin .fdiv (.bin .mod (.bi .int (.cons (.bin .add (.bin .add (.bin .mul (.var 6) (.lit (.int 16807))) (.bin .fdiv (.var 5) (.lit (.int 9)))) (.lit (.int 3))) .nil)) (.lit (.int 2147483647))) (.lit (.int 7))))
    (.cons (.app 3 (.bin .fdiv (.bin .mod (.bi .int (.cons (.bin .add (.bin .add (.bin .mul (.var 6) (.lit (.int 69621))) (.bin .fdiv (.var 5) (.lit (.int 5)))) (.lit (.int 7))) .nil)) (.lit (.int 2147483647))) (.lit (.int 11))))
    .nil)))) (.cons (.for (.one 7) (.rng1 (.lit (.int 20))) bodyK)
    .nil))
    .nil))
def PN (sc : D) (n : Nat) (ρ : Rho) (c : S) : Prop := ∃ (x4 x5 x6 x7 : Option D) (is : List Int), ρ = [some sc, some (.t (.int 0)), some (.t (.int 6)), some (.ref 0), x4, x5, x6, x7] ∧ c = [.lst (is.map .int)] ∧ is.length + 20 * n ≤ 90000
theorem turnN (cl : Nat → List D → S → R D) (sc : D) (v : Int) (n : Nat) (ρ : Rho) (c : S) (h : PN sc (n + 1) ρ c) : ∃ ρ1 ρ2 c2, setTg (.one 4) (.int v) ρ = some ρ1 ∧ exSs cl gl 100 bodyN ρ1 c = .ok (.nx, ρ2) c2 ∧ PN sc n ρ2 c2 := by
  obtain ⟨x4, x5, x6, x7, is, rfl, rfl, hz⟩ := h
  generalize hw : (if v < 0 then -v else v) = w
  by_cases h0 : w < 1000000000000000000
  · have e : is.length < 16777216 := by omega
    have e1 : is.length + 1 < 16777216 := by omega
    have e2 : is.length + 1 + 1 < 16777216 := by omega
    refine ⟨_, [some sc, some (.t (.int 0)), some (.t (.int 6)), some (.ref 0), some (.t (.int v)), some (.t (.int w)), some (.t (.int ((w * 48271 + 11) % 2147483647))), x7],
      [.lst ((is ++ [w] ++ [((w * 48271 + 11) % 2147483647 * 16807 + w / 9 + 3) % 2147483647 / 7] ++ [((w * 48271 + 11) % 2147483647 * 69621 + w / 5 + 7) % 2147483647 / 11]).map .int)], setTg_one .., ?_, some (.t (.int v)), some (.t (.int w)), some (.t (.int ((w * 48271 + 11) % 2147483647))), x7, _, rfl, rfl, by simp; omega⟩
    simp [bodyN, exSs, exS, evE, evT, evA, evO, evC, evI, bind_ok, SK.R.out, bind_ex, bind_no, ofO_some, ofO_none, nox_ok, fin_t, fin_own, fin_nx, List.take_length, look, lookX, frz, two, twoX, resT, resB, tv, tvD, pd, dat, allT, lookAll, popD, appD, binD, binL, cmpD, eqD, truD, subD, sliceD, sliceL, tyD, kd, tyB, biD, biL, meD, itemsD, isNoneD, leave, startD, setTg_one, setTg_many, setTgs_nil, setTgs_cons, slotsOf, slotsOfs, wipeD, augD, List.length_cons, List.length_nil, List.map_cons, List.map_nil, List.getElem?_cons_zero, List.getElem?_cons_succ, List.getElem?_nil, List.set_cons_zero, List.set_cons_succ, List.cons_append, List.nil_append, List.replicate_succ, List.replicate_zero, Nat.reduceAdd, Nat.reduceSub, if_true, if_false, Bool.false_eq_true, Option.map_some, Option.map_none, Option.bind_some, Option.bind_none, Bool.not_true, Bool.not_false, decide_true, decide_false, hw, h0, PySem.sizeLine, e, e1, e2]
  · obtain ⟨ρ', c', e3, i, y4, y6, y7, js, rfl, rfl, hj⟩ := forL_st (tg := .one 7) (f := fun ρ1 c2 => exSs cl gl 100 bodyK ρ1 c2) (PK sc) (rngD 0 20) (20 * n) [some sc, some (.t (.int 0)), some (.t (.int 6)), some (.ref 0), some (.t (.int v)), some (.t (.int w)), x6, x7] [.lst (is.map .int)] ⟨w, some (.t (.int v)), x6, x7, is, rfl, rfl, by rw [rng_len]; omega⟩ (fun x _ m ρ c h => turnK cl sc x m ρ c h)
    refine ⟨_, _, _, setTg_one .., ?_, y4, some (.t (.int i)), y6, y7, js, rfl, rfl, by omega⟩
    have e4 : exS cl gl 100 (.for (.one 7) (.rng1 (.lit (.int 20))) bodyK) [some sc, some (.t (.int 0)), some (.t (.int 6)), some (.ref 0), some (.t (.int v)), some (.t (.int w)), x6, x7] [.lst (is.map .int)] = .ok (.nx, [some sc, some (.t (.int 0)), some (.t (.int 6)), some (.ref 0), y4, some (.t (.int i)), y6, y7]) [.lst (js.map .int)] := by
      rw [exS, show evI cl gl (.rng1 (.lit (.int 20))) _ _ = .ok (rngD 0 20) _ from rfl, bind_ok]
      exact e3
    simp only [bodyN]
    generalize hX : IS.for _ _ _ = X at e4 ⊢
    simp [exSs, exS, evE, evT, evA, evO, evC, evI, bind_ok, SK.R.out, bind_ex, bind_no, ofO_some, ofO_none, nox_ok, fin_t, fin_own, fin_nx, List.take_length, look, lookX, frz, two, twoX, resT, resB, tv, tvD, pd, dat, allT, lookAll, popD, appD, binD, binL, cmpD, eqD, truD, subD, sliceD, sliceL, tyD, kd, tyB, biD, biL, meD, itemsD, isNoneD, leave, startD, setTg_one, setTg_many, setTgs_nil, setTgs_cons, slotsOf, slotsOfs, wipeD, augD, List.length_cons, List.length_nil, List.map_cons, List.map_nil, List.getElem?_cons_zero, List.getElem?_cons_succ, List.getElem?_nil, List.set_cons_zero, List.set_cons_succ, List.cons_append, List.nil_append, List.replicate_succ, List.replicate_zero, Nat.reduceAdd, Nat.reduceSub, if_true, if_false, Bool.false_eq_true, Option.map_some, Option.map_none, Option.bind_some, Option.bind_none, Bool.not_true, Bool.not_false, decide_true, decide_false, hw, h0, e4]
theorem law_draws_ok (n : Nat) (ns : List Int) (hl : ns.length ≤ 63) : ∃ is : List Int, SK.run fns gl 100 (n + 1) k_law_draws [.scr (ns.map .int), .t (.int 0), .t (.int 6)] [] = .ok (.own (is.map .int)) [] := by
  rw [run_step (f := f_law_draws) rfl rfl]
  obtain ⟨ρ', c', e3, y4, y5, y6, y7, js, rfl, rfl, hj⟩ := forL_st (tg := .one 4) (f := fun ρ1 c2 => exSs (SK.run fns gl 100 n) gl 100 bodyN ρ1 c2) (PN (.scr (ns.map .int))) (ns.map .int) 0 [some (.scr (ns.map .int)), some (.t (.int 0)), some (.t (.int 6)), some (.ref 0), none, none, none, none] [.lst []] ⟨none, none, none, none, [], rfl, rfl, by rw [List.length_map]; simp; omega⟩ (fun x hx m ρ c h => by
    rw [List.mem_map] at hx
    obtain ⟨v, _, rfl⟩ := hx
    exact turnN _ _ v m ρ c h)
  refine ⟨js.take 6, ?_⟩
  show fin _ (exSs _ gl 100 b_law_draws _ _) = _
  simp only [b_law_draws]
  generalize hX : IS.for (.one 4) _ _ = X
  have e4 : exS (SK.run fns gl 100 n) gl 100 X [some (.scr (ns.map .int)), some (.t (.int 0)), some (.t (.int 6)), some (.ref 0), none, none, none, none] [.lst []] = .ok (.nx, [some (.scr (ns.map .int)), some (.t (.int 0)), some (.t (.int 6)), some (.ref 0), y4, y5, y6, y7]) [.lst (js.map .int)] := by
    subst hX
    have c0 : cutD (ns.map PyData.int) (some 0) none = ns.map PyData.int := cut_from _ 0
    rw [exS, show evI (SK.run fns gl 100 n) gl (.seq (.slice (.var 0) (.some (.var 1)) .none)) [some (.scr (ns.map .int)), some (.t (.int 0)), some (.t (.int 6)), some (.ref 0), none, none, none, none] [.lst []] = .ok (ns.map .int) [.lst []] by simp [exSs, exS, evE, evT, evA, evO, evC, evI, bind_ok, SK.R.out, bind_ex, bind_no, ofO_some, ofO_none, nox_ok, fin_t, fin_own, fin_nx, List.take_length, look, lookX, frz, two, twoX, resT, resB, tv, tvD, pd, dat, allT, lookAll, popD, appD, binD, binL, cmpD, eqD, truD, subD, sliceD, sliceL, tyD, kd, tyB, biD, biL, meD, itemsD, isNoneD, leave, startD, setTg_one, setTg_many, setTgs_nil, setTgs_cons, slotsOf, slotsOfs, wipeD, augD, List.length_cons, List.length_nil, List.map_cons, List.map_nil, List.getElem?_cons_zero, List.getElem?_cons_succ, List.getElem?_nil, List.set_cons_zero, List.set_cons_succ, List.cons_append, List.nil_append, List.replicate_succ, List.replicate_zero, Nat.reduceAdd, Nat.reduceSub, if_true, if_false, Bool.false_eq_true, Option.map_some, Option.map_none, Option.bind_some, Option.bind_none, Bool.not_true, Bool.not_false, decide_true, decide_false, c0], bind_ok]
    exact e3
  have c6 : cutD (js.map PyData.int) none (some 6) = (js.take 6).map PyData.int := by rw [List.map_take]; exact cut_to _ 6
  simp [f_law_draws, exSs, exS, evE, evT, evA, evO, evC, evI, bind_ok, SK.R.out, bind_ex, bind_no, ofO_some, ofO_none, nox_ok, fin_t, fin_own, fin_nx, List.take_length, look, lookX, frz, two, twoX, resT, resB, tv, tvD, pd, dat, allT, lookAll, popD, appD, binD, binL, cmpD, eqD, truD, subD, sliceD, sliceL, tyD, kd, tyB, biD, biL, meD, itemsD, isNoneD, leave, startD, setTg_one, setTg_many, setTgs_nil, setTgs_cons, slotsOf, slotsOfs, wipeD, augD, List.length_cons, List.length_nil, List.map_cons, List.map_nil, List.getElem?_cons_zero, List.getElem?_cons_succ, List.getElem?_nil, List.set_cons_zero, List.set_cons_succ, List.cons_append, List.nil_append, List.replicate_succ, List.replicate_zero, Nat.reduceAdd, Nat.reduceSub, if_true, if_false, Bool.false_eq_true, Option.map_some, Option.map_none, Option.bind_some, Option.bind_none, Bool.not_true, Bool.not_false, decide_true, decide_false, szOk, PySem.sizeLine, e4, c6]
end Q00

namespace Q00
open SK
open PySem (PyData Str)
theorem law_next_ok (n : Nat) (is : List Int) (c : S) : ∃ (d : Int) (js : List Int), SK.run fns gl 100 (n + 1) k_law_next [.ref 0] (.lst (is.map .int) :: c) = .ok (.t (.int d)) (.lst (js.map .int) :: c) := by
  rw [run_step (f := f_law_next) rfl rfl]
  cases is with
  | nil => exact ⟨0, [], by simp [exSs, exS, evE, evT, evA, evO, evC, evI, bind_ok, SK.R.out, bind_ex, bind_no, ofO_some, ofO_none, nox_ok, fin_t, fin_own, fin_nx, List.take_length, look, lookX, frz, two, twoX, resT, resB, tv, tvD, pd, dat, allT, lookAll, popD, appD, binD, binL, cmpD, eqD, truD, subD, sliceD, sliceL, tyD, kd, tyB, biD, biL, meD, itemsD, isNoneD, leave, startD, setTg_one, setTg_many, setTgs_nil, setTgs_cons, slotsOf, slotsOfs, wipeD, augD, List.length_cons, List.length_nil, List.map_cons, List.map_nil, List.getElem?_cons_zero, List.getElem?_cons_succ, List.getElem?_nil, List.set_cons_zero, List.set_cons_succ, List.cons_append, List.nil_append, List.replicate_succ, List.replicate_zero, Nat.reduceAdd, Nat.reduceSub, if_true, if_false, Bool.false_eq_true, Option.map_some, Option.map_none, Option.bind_some, Option.bind_none, Bool.not_true, Bool.not_false, decide_true, decide_false, f_law_next, b_law_next]⟩
  | cons i is =>
    have h : ¬ ((is.length : Int) + 1 = 0) := by omega
    refine ⟨i, is, ?_⟩
    simp [exSs, exS, evE, evT, evA, evO, evC, evI, bind_ok, SK.R.out, bind_ex, bind_no, ofO_some, ofO_none, nox_ok, fin_t, fin_own, fin_nx, List.take_length, look, lookX, frz, two, twoX, resT, resB, tv, tvD, pd, dat, allT, lookAll, popD, appD, binD, binL, cmpD, eqD, truD, subD, sliceD, sliceL, tyD, kd, tyB, biD, biL, meD, itemsD, isNoneD, leave, startD, setTg_one, setTg_many, setTgs_nil, setTgs_cons, slotsOf, slotsOfs, wipeD, augD, List.length_cons, List.length_nil, List.map_cons, List.map_nil, List.getElem?_cons_zero, List.getElem?_cons_succ, List.getElem?_nil, List.set_cons_zero, List.set_cons_succ, List.cons_append, List.nil_append, List.replicate_succ, List.replicate_zero, Nat.reduceAdd, Nat.reduceSub, if_true, if_false, Bool.false_eq_true, Option.map_some, Option.map_none, Option.bind_some, Option.bind_none, Bool.not_true, Bool.not_false, decide_true, decide_false, f_law_next, b_law_next, h]

def kb (k : Nat) : List PyData := (List.range 9).map fun j => .bool (decide (k = j))
def res (k : Nat) : PyData := .tuple [.list (kb k), .bool true, .bool true]
theorem law_kinds_ok (n : Nat) (c : S) (fs : List (Str × PyData)) : ∀ k : Nat, k < 9 → SK.run fns gl 100 (n + 1) k_law_kinds [.t (objD k fs)] c = .ok (.t (res k)) c := by
  have b3 : szOk 3 = true := decide_eq_true (by show _ ≤ 16777216; omega)
  have b9 : szOk 9 = true := decide_eq_true (by show _ ≤ 16777216; omega)
  intro k hk
  rw [run_step (f := f_law_kinds) rfl rfl]
  match k, hk with
  | 0, _ => simp [exSs, exS, evE, evT, evA, evO, evC, evI, bind_ok, SK.R.out, bind_ex, bind_no, ofO_some, ofO_none, nox_ok, fin_t, fin_own, fin_nx, List.take_length, look, lookX, frz, two, twoX, resT, resB, tv, tvD, pd, dat, allT, lookAll, popD, appD, binD, binL, cmpD, eqD, truD, subD, sliceD, sliceL, tyD, kd, tyB, biD, biL, meD, itemsD, isNoneD, leave, startD, setTg_one, setTg_many, setTgs_nil, setTgs_cons, slotsOf, slotsOfs, wipeD, augD, List.length_cons, List.length_nil, List.map_cons, List.map_nil, List.getElem?_cons_zero, List.getElem?_cons_succ, List.getElem?_nil, List.set_cons_zero, List.set_cons_succ, List.cons_append, List.nil_append, List.replicate_succ, List.replicate_zero, Nat.reduceAdd, Nat.reduceSub, if_true, if_false, Bool.false_eq_true, Option.map_some, Option.map_none, Option.bind_some, Option.bind_none, Bool.not_true, Bool.not_false, decide_true, decide_false, f_law_kinds, b_law_kinds, objD, objCls, isSub, b3, b9, res, kb, List.range, List.range.loop]
  | 1, _ => simp [exSs, exS, evE, evT, evA, evO, evC, evI, bind_ok, SK.R.out, bind_ex, bind_no, ofO_some, ofO_none, nox_ok, fin_t, fin_own, fin_nx, List.take_length, look, lookX, frz, two, twoX, resT, resB, tv, tvD, pd, dat, allT, lookAll, popD, appD, binD, binL, cmpD, eqD, truD, subD, sliceD, sliceL, tyD, kd, tyB, biD, biL, meD, itemsD, isNoneD, leave, startD, setTg_one, setTg_many, setTgs_nil, setTgs_cons, slotsOf, slotsOfs, wipeD, augD, List.length_cons, List.length_nil, List.map_cons, List.map_nil, List.getElem?_cons_zero, List.getElem?_cons_succ, List.getElem?_nil, List.set_cons_zero, List.set_cons_succ, List.cons_append, List.nil_append, List.replicate_succ, List.replicate_zero, Nat.reduceAdd, Nat.reduceSub, if_true, if_false, Bool.false_eq_true, Option.map_some, Option.map_none, Option.bind_some, Option.bind_none, Bool.not_true, Bool.not_false, decide_true, decide_false, f_law_kinds, b_law_kinds, objD, objCls, isSub, b3, b9, res, kb, List.range, List.range.loop]
  | 2, _ => simp [exSs, exS, evE, evT, evA, evO, evC, evI, bind_ok, SK.R.out, bind_ex, bind_no, ofO_some, ofO_none, nox_ok, fin_t, fin_own, fin_nx, List.take_length, look, lookX, frz, two, twoX, resT, resB, tv, tvD, pd, dat, allT, lookAll, popD, appD, binD, binL, cmpD, eqD, truD, subD, sliceD, sliceL, tyD, kd, tyB, biD, biL, meD, itemsD, isNoneD, leave, startD, setTg_one, setTg_many, setTgs_nil, setTgs_cons, slotsOf, slotsOfs, wipeD, augD, List.length_cons, List.length_nil, List.map_cons, List.map_nil, List.getElem?_cons_zero, List.getElem?_cons_succ, List.getElem?_nil, List.set_cons_zero, List.set_cons_succ, List.cons_append, List.nil_append, List.replicate_succ, List.replicate_zero, Nat.reduceAdd, Nat.reduceSub, if_true, if_false, Bool.false_eq_true, Option.map_some, Option.map_none, Option.bind_some, Option.bind_none, Bool.not_true, Bool.not_false, decide_true, decide_false, f_law_kinds, b_law_kinds, objD, objCls, isSub, b3, b9, res, kb, List.range, List.range.loop]
  | 3, _ => simp [exSs, exS, evE, evT, evA, evO, evC, evI, bind_ok, SK.R.out, bind_ex, bind_no, ofO_some, ofO_none, nox_ok, fin_t, fin_own, fin_nx, List.take_length, look, lookX, frz, two, twoX, resT, resB, tv, tvD, pd, dat, allT, lookAll, popD, appD, binD, binL, cmpD, eqD, truD, subD, sliceD, sliceL, tyD, kd, tyB, biD, biL, meD, itemsD, isNoneD, leave, startD, setTg_one, setTg_many, setTgs_nil, setTgs_cons, slotsOf, slotsOfs, wipeD, augD, List.length_cons, List.length_nil, List.map_cons, List.map_nil, List.getElem?_cons_zero, List.getElem?_cons_succ, List.getElem?_nil, List.set_cons_zero, List.set_cons_succ, List.cons_append, List.nil_append, List.replicate_succ, List.replicate_zero, Nat.reduceAdd, Nat.reduceSub, if_true, if_false, Bool.false_eq_true, Option.map_some, Option.map_none, Option.bind_some, Option.bind_none, Bool.not_true, Bool.not_false, decide_true, decide_false, f_law_kinds, b_law_kinds, objD, objCls, isSub, b3, b9, res, kb, List.range, List.range.loop]
  | 4, _ => simp [exSs, exS, evE, evT, evA, evO, evC, evI, bind_ok, SK.R.out, bind_ex, bind_no, ofO_some, ofO_none, nox_ok, fin_t, fin_own, fin_nx, List.take_length, look, lookX, frz, two, twoX, resT, resB, tv, tvD, pd, dat, allT, lookAll, popD, appD, binD, binL, cmpD, eqD, truD, subD, sliceD, sliceL, tyD, kd, tyB, biD, biL, meD, itemsD, isNoneD, leave, startD, setTg_one, setTg_many, setTgs_nil, setTgs_cons, slotsOf, slotsOfs, wipeD, augD, List.length_cons, List.length_nil, List.map_cons, List.map_nil, List.getElem?_cons_zero, List.getElem?_cons_succ, List.getElem?_nil, List.set_cons_zero, List.set_cons_succ, List.cons_append, List.nil_append, List.replicate_succ, List.replicate_zero, Nat.reduceAdd, Nat.reduceSub, if_true, if_false, Bool.false_eq_true, Option.map_some, Option.map_none, Option.bind_some, Option.bind_none, Bool.not_true, Bool.not_false, decide_true, decide_false, f_law_kinds, b_law_kinds, objD, objCls, isSub, b3, b9, res, kb, List.range, List.range.loop]
  | 5, _ => simp [exSs, exS, evE, evT, evA, evO, evC, evI, bind_ok, SK.R.out, bind_ex, bind_no, ofO_some, ofO_none, nox_ok, fin_t, fin_own, fin_nx, List.take_length, look, lookX, frz, two, twoX, resT, resB, tv, tvD, pd, dat, allT, lookAll, popD, appD, binD, binL, cmpD, eqD, truD, subD, sliceD, sliceL, tyD, kd, tyB, biD, biL, meD, itemsD, isNoneD, leave, startD, setTg_one, setTg_many, setTgs_nil, setTgs_cons, slotsOf, slotsOfs, wipeD, augD, List.length_cons, List.length_nil, List.map_cons, List.map_nil, List.getElem?_cons_zero, List.getElem?_cons_succ, List.getElem?_nil, List.set_cons_zero, List.set_cons_succ, List.cons_append, List.nil_append, List.replicate_succ, List.replicate_zero, Nat.reduceAdd, Nat.reduceSub, if_true, if_false, Bool.false_eq_true, Option.map_some, Option.map_none, Option.bind_some, Option.bind_none, Bool.not_true, Bool.not_false, decide_true, decide_false, f_law_kinds, b_law_kinds, objD, objCls, isSub, b3, b9, res, kb, List.range, List.range.loop]
  | 6, _ => simp [exSs, exS, evE, evT, evA, evO, evC, evI, bind_ok, SK.R.out, bind_ex, bind_no, ofO_some, ofO_none, nox_ok, fin_t, fin_own, fin_nx, List.take_length, look, lookX, frz, two, twoX, resT, resB, tv, tvD, pd, dat, allT, lookAll, popD, appD, binD, binL, cmpD, eqD, truD, subD, sliceD, sliceL, tyD, kd, tyB, biD, biL, meD, itemsD, isNoneD, leave, startD, setTg_one, setTg_many, setTgs_nil, setTgs_cons, slotsOf, slotsOfs, wipeD, augD, List.length_cons, List.length_nil, List.map_cons, List.map_nil, List.getElem?_cons_zero, List.getElem?_cons_succ, List.getElem?_nil, List.set_cons_zero, List.set_cons_succ, List.cons_append, List.nil_append, List.replicate_succ, List.replicate_zero, Nat.reduceAdd, Nat.reduceSub, if_true, if_false, Bool.false_eq_true, Option.map_some, Option.map_none, Option.bind_some, Option.bind_none, Bool.not_true, Bool.not_false, decide_true, decide_false, f_law_kinds, b_law_kinds, objD, objCls, isSub, b3, b9, res, kb, List.range, List.range.loop]
  | 7, _ => simp [exSs, exS, evE, evT, evA, evO, evC, evI, bind_ok, SK.R.out, bind_ex, bind_no, ofO_some, ofO_none, nox_ok, fin_t, fin_own, fin_nx, List.take_length, look, lookX, frz, two, twoX, resT, resB, tv, tvD, pd, dat, allT, lookAll, popD, appD, binD, binL, cmpD, eqD, truD, subD, sliceD, sliceL, tyD, kd, tyB, biD, biL, meD, itemsD, isNoneD, leave, startD, setTg_one, setTg_many, setTgs_nil, setTgs_cons, slotsOf, slotsOfs, wipeD, augD, List.length_cons, List.length_nil, List.map_cons, List.map_nil, List.getElem?_cons_zero, List.getElem?_cons_succ, List.getElem?_nil, List.set_cons_zero, List.set_cons_succ, List.cons_append, List.nil_append, List.replicate_succ, List.replicate_zero, Nat.reduceAdd, Nat.reduceSub, if_true, if_false, Bool.false_eq_true, Option.map_some, Option.map_none, Option.bind_some, Option.bind_none, Bool.not_true, Bool.not_false, decide_true, decide_false, f_law_kinds, b_law_kinds, objD, objCls, isSub, b3, b9, res, kb, List.range, List.range.loop]
  | 8, _ => simp [exSs, exS, evE, evT, evA, evO, evC, evI, bind_ok, SK.R.out, bind_ex, bind_no, ofO_some, ofO_none, nox_ok, fin_t, fin_own, fin_nx, List.take_length, look, lookX, frz, two, twoX, resT, resB, tv, tvD, pd, dat, allT, lookAll, popD, appD, binD, binL, cmpD, eqD, truD, subD, sliceD, sliceL, tyD, kd, tyB, biD, biL, meD, itemsD, isNoneD, leave, startD, setTg_one, setTg_many, setTgs_nil, setTgs_cons, slotsOf, slotsOfs, wipeD, augD, List.length_cons, List.length_nil, List.map_cons, List.map_nil, List.getElem?_cons_zero, List.getElem?_cons_succ, List.getElem?_nil, List.set_cons_zero, List.set_cons_succ, List.cons_append, List.nil_append, List.replicate_succ, List.replicate_zero, Nat.reduceAdd, Nat.reduceSub, if_true, if_false, Bool.false_eq_true, Option.map_some, Option.map_none, Option.bind_some, Option.bind_none, Bool.not_true, Bool.not_false, decide_true, decide_false, f_law_kinds, b_law_kinds, objD, objCls, isSub, b3, b9, res, kb, List.range, List.range.loop]
theorem res_eq : ∀ k : Nat, k < 9 → PySem.SeqAt.shaped (res k) = true := by decide +kernel
def errs (r : Str) (i : Int) : List PyData := [objD 0 [], objD 1 [], objD 2 [], objD 3 [], objD 4 [], objD 5 [], objD 6 [("reason", .str r)], objD 7 [("index", .int i)], objD 8 [("index", .int i), ("reason", .str r)]]
theorem errs_at (r : Str) (i : Int) : ∀ k : Nat, k < 9 → ∃ fs, L2.atI (errs r i) (k : Int) = some (objD k fs) := by
  intro k hk
  rw [atI_nat _ _ (by exact hk)]
  match k, hk with
  | 0, _ => exact ⟨_, rfl⟩
  | 1, _ => exact ⟨_, rfl⟩
  | 2, _ => exact ⟨_, rfl⟩
  | 3, _ => exact ⟨_, rfl⟩
  | 4, _ => exact ⟨_, rfl⟩
  | 5, _ => exact ⟨_, rfl⟩
  | 6, _ => exact ⟨_, rfl⟩
  | 7, _ => exact ⟨_, rfl⟩
  | 8, _ => exact ⟨_, rfl⟩
theorem bits_eq : ∀ k : Nat, k < 9 → (List.range 9).map (fun j => decide (((0 : Int) + (j : Nat)) = ((k : Nat) : Int))) = (List.range 9).map (fun j => decide (k = j)) := by decide +kernel
def kBody : ISs := (.cons (.ife (.val (.cmp .ne (.call k_law_kinds (.cons (.sub (.var 4) (.var 5)) .nil)) (.tup (.cons (.comp (.cmp .eq (.var 6) (.var 5)) (.one 6) (.rng1 (.lit (.int 9))) .none) (.cons (.lit (.bool true)) (.cons (.lit (.bool true)) .nil)))))) (.cons (.ret (.lit (.bool false)))
    .nil) .nil)
    .nil)
theorem kinds_turn (cl : Nat → List D → S → R D) (r : Str) (i : Int) (k : Nat) (hk : k < 9) (x0 x1 x2 x3 x6 : Option D) (c : S) (h : ∀ fs, cl k_law_kinds [.t (objD k fs)] c = .ok (.t (res k)) c) :
    exSs cl gl 100 kBody [x0, x1, x2, x3, some (.t (.list (errs r i))), some (.t (.int (k : Int))), x6] c = .ok (.nx, [x0, x1, x2, x3, some (.t (.list (errs r i))), some (.t (.int (k : Int))), x6]) c := by
  obtain ⟨fs, e⟩ := errs_at r i k hk
  have b3 : szOk 3 = true := decide_eq_true (by show _ ≤ 16777216; omega)
  unfold kBody
  generalize hX : IE.comp _ _ _ _ = X
  have hc : evE cl gl X [x0, x1, x2, x3, some (.t (.list (errs r i))), some (.t (.int (k : Int))), x6] c = .ok (.own (kb k)) c := by
    subst hX
    rw [evE_comp, show evI cl gl (.rng1 (.lit (.int 9))) _ c = .ok (rngD 0 9) c from rfl, bind_ok, compL_ok (g := fun x => match x with | .int j => .bool (decide (j = ((k : Nat) : Int))) | x => x) (rngD 0 9) [] (fun x hx => by
      obtain ⟨j, hj, rfl⟩ := rng_mem hx
      simp [turn, exSs, exS, evE, evT, evA, evO, evC, evI, bind_ok, SK.R.out, bind_ex, bind_no, ofO_some, ofO_none, nox_ok, fin_t, fin_own, fin_nx, List.take_length, look, lookX, frz, two, twoX, resT, resB, tv, tvD, pd, dat, allT, lookAll, popD, appD, binD, binL, cmpD, eqD, truD, subD, sliceD, sliceL, tyD, kd, tyB, biD, biL, meD, itemsD, isNoneD, leave, startD, setTg_one, setTg_many, setTgs_nil, setTgs_cons, slotsOf, slotsOfs, wipeD, augD, List.length_cons, List.length_nil, List.map_cons, List.map_nil, List.getElem?_cons_zero, List.getElem?_cons_succ, List.getElem?_nil, List.set_cons_zero, List.set_cons_succ, List.cons_append, List.nil_append, List.replicate_succ, List.replicate_zero, Nat.reduceAdd, Nat.reduceSub, if_true, if_false, Bool.false_eq_true, Option.map_some, Option.map_none, Option.bind_some, Option.bind_none, Bool.not_true, Bool.not_false, decide_true, decide_false]) (by simp [rng_len])]
    have q : (rngD 0 9).map (fun x => match x with | .int j => PyData.bool (decide (j = ((k : Nat) : Int))) | x => x) = kb k := by
      have := congrArg (List.map PyData.bool) (bits_eq k hk)
      rw [List.map_map, List.map_map] at this
      exact this
    rw [q]
    rfl
  have eqr : eqD (res k) (.tuple [.list (kb k), .bool true, .bool true]) = some true := by
    have sh := res_eq k hk
    show (if PySem.SeqAt.shaped (res k) && PySem.SeqAt.shaped (res k) then some (PyData.eqv (res k) (res k)) else none) = _
    rw [sh]
    simp only [Bool.and_self, if_true]
    rw [PySem.SeqAt.eqv_refl _ (PySem.SeqAt.canLay_of_shaped sh)]
  generalize kb k = KB at *
  generalize res k = RK at *
  generalize errs r i = E at *
  simp [exSs, exS, evE, evT, evA, evO, evC, evI, bind_ok, SK.R.out, bind_ex, bind_no, ofO_some, ofO_none, nox_ok, fin_t, fin_own, fin_nx, List.take_length, look, lookX, frz, two, twoX, resT, resB, tv, tvD, pd, dat, allT, lookAll, popD, appD, binD, binL, cmpD, truD, subD, sliceD, sliceL, tyD, kd, tyB, biD, biL, meD, itemsD, isNoneD, leave, startD, setTg_one, setTg_many, setTgs_nil, setTgs_cons, slotsOf, slotsOfs, wipeD, augD, List.length_cons, List.length_nil, List.map_cons, List.map_nil, List.getElem?_cons_zero, List.getElem?_cons_succ, List.getElem?_nil, List.set_cons_zero, List.set_cons_succ, List.cons_append, List.nil_append, List.replicate_succ, List.replicate_zero, Nat.reduceAdd, Nat.reduceSub, if_true, if_false, Bool.false_eq_true, Option.map_some, Option.map_none, Option.bind_some, Option.bind_none, Bool.not_true, Bool.not_false, decide_true, decide_false, e, h fs, hc, b3, eqr]
def L11 : Nat → List D → S → R D := SK.run fns gl 100 11
theorem law_true (ns : List Int) (hn : ns.length ≤ 63) : SK.run fns gl 100 12 k_law [.scr (ns.map .int)] [] = .ok (.t (.bool true)) [] := by
  rw [run_step (f := f_law) rfl rfl]
  show fin 0 (exSs L11 gl 100 b_law [some (.scr (ns.map .int)), none, none, none, none, none, none] []) = _
  obtain ⟨is0, e1⟩ : ∃ is : List Int, L11 k_law_draws [.scr (ns.map .int), .t (.int 0), .t (.int 6)] [] = .ok (.own (is.map .int)) [] := law_draws_ok 10 ns hn
  obtain ⟨d, is1, e2⟩ : ∃ (d : Int) (js : List Int), L11 k_law_next [.ref 0] [.lst (is0.map .int)] = .ok (.t (.int d)) [.lst (js.map .int)] := law_next_ok 10 is0 []
  obtain ⟨d2, is2, e3⟩ : ∃ (d : Int) (js : List Int), L11 k_law_next [.ref 0] [.lst (is1.map .int)] = .ok (.t (.int d)) [.lst (js.map .int)] := law_next_ok 10 is1 []
  generalize hc : [Cell.lst (is2.map PyData.int)] = c at *
  have ek : ∀ k, k < 9 → ∀ fs, L11 k_law_kinds [.t (objD k fs)] c = .ok (.t (res k)) c := fun k hk fs => law_kinds_ok 10 c fs k hk
  generalize L11 = cl at *
  unfold b_law
  have b5 : szOk 5 = true := decide_eq_true (by show _ ≤ 16777216; omega)
  have b9 : szOk 9 = true := decide_eq_true (by show _ ≤ 16777216; omega)
  obtain ⟨r, hr⟩ : ∃ r : Str, L2.atI [PyData.str "shape", .str "field", .str "kind", .str "large", .str "range"] (d % 5) = some (.str r) := by
    have q5 : d % 5 = 0 ∨ d % 5 = 1 ∨ d % 5 = 2 ∨ d % 5 = 3 ∨ d % 5 = 4 := by omega
    rcases q5 with e | e | e | e | e <;> rw [e]
    · exact ⟨_, rfl⟩
    · exact ⟨_, rfl⟩
    · exact ⟨_, rfl⟩
    · exact ⟨_, rfl⟩
    · exact ⟨_, rfl⟩
  rw [exSs_nx (ρ1 := [some (.scr (ns.map .int)), some (.ref 0), none, none, none, none, none]) (c1 := [.lst (is0.map .int)]) (by simp [exSs, exS, evE, evT, evA, evO, evC, evI, bind_ok, SK.R.out, bind_ex, bind_no, ofO_some, ofO_none, nox_ok, fin_t, fin_own, fin_nx, List.take_length, look, lookX, frz, two, twoX, resT, resB, tv, tvD, pd, dat, allT, lookAll, popD, appD, binD, binL, cmpD, eqD, truD, subD, sliceD, sliceL, tyD, kd, tyB, biD, biL, meD, itemsD, isNoneD, leave, startD, setTg_one, setTg_many, setTgs_nil, setTgs_cons, slotsOf, slotsOfs, wipeD, augD, List.length_cons, List.length_nil, List.map_cons, List.map_nil, List.getElem?_cons_zero, List.getElem?_cons_succ, List.getElem?_nil, List.set_cons_zero, List.set_cons_succ, List.cons_append, List.nil_append, List.replicate_succ, List.replicate_zero, Nat.reduceAdd, Nat.reduceSub, if_true, if_false, Bool.false_eq_true, Option.map_some, Option.map_none, Option.bind_some, Option.bind_none, Bool.not_true, Bool.not_false, decide_true, decide_false, e1])]
  rw [exSs_nx (ρ1 := [some (.scr (ns.map .int)), some (.ref 0), some (.t (.str r)), none, none, none, none]) (c1 := [.lst (is1.map .int)]) (by simp [exSs, exS, evE, evT, evA, evO, evC, evI, bind_ok, SK.R.out, bind_ex, bind_no, ofO_some, ofO_none, nox_ok, fin_t, fin_own, fin_nx, List.take_length, look, lookX, frz, two, twoX, resT, resB, tv, tvD, pd, dat, allT, lookAll, popD, appD, binD, binL, cmpD, eqD, truD, subD, sliceD, sliceL, tyD, kd, tyB, biD, biL, meD, itemsD, isNoneD, leave, startD, setTg_one, setTg_many, setTgs_nil, setTgs_cons, slotsOf, slotsOfs, wipeD, augD, List.length_cons, List.length_nil, List.map_cons, List.map_nil, List.getElem?_cons_zero, List.getElem?_cons_succ, List.getElem?_nil, List.set_cons_zero, List.set_cons_succ, List.cons_append, List.nil_append, List.replicate_succ, List.replicate_zero, Nat.reduceAdd, Nat.reduceSub, if_true, if_false, Bool.false_eq_true, Option.map_some, Option.map_none, Option.bind_some, Option.bind_none, Bool.not_true, Bool.not_false, decide_true, decide_false, e2, hr, b5])]
  generalize hi : d2 % 2001 = i
  rw [exSs_nx (ρ1 := [some (.scr (ns.map .int)), some (.ref 0), some (.t (.str r)), some (.t (.int i)), none, none, none]) (c1 := c) (by simp [exSs, exS, evE, evT, evA, evO, evC, evI, bind_ok, SK.R.out, bind_ex, bind_no, ofO_some, ofO_none, nox_ok, fin_t, fin_own, fin_nx, List.take_length, look, lookX, frz, two, twoX, resT, resB, tv, tvD, pd, dat, allT, lookAll, popD, appD, binD, binL, cmpD, eqD, truD, subD, sliceD, sliceL, tyD, kd, tyB, biD, biL, meD, itemsD, isNoneD, leave, startD, setTg_one, setTg_many, setTgs_nil, setTgs_cons, slotsOf, slotsOfs, wipeD, augD, List.length_cons, List.length_nil, List.map_cons, List.map_nil, List.getElem?_cons_zero, List.getElem?_cons_succ, List.getElem?_nil, List.set_cons_zero, List.set_cons_succ, List.cons_append, List.nil_append, List.replicate_succ, List.replicate_zero, Nat.reduceAdd, Nat.reduceSub, if_true, if_false, Bool.false_eq_true, Option.map_some, Option.map_none, Option.bind_some, Option.bind_none, Bool.not_true, Bool.not_false, decide_true, decide_false, e3, hi])]
  generalize hx0 : some (D.scr (ns.map PyData.int)) = x0 at *
  generalize hx1 : some (D.ref 0) = x1 at *
  rw [exSs_nx (ρ1 := [x0, x1, some (.t (.str r)), some (.t (.int i)), some (.t (.list (errs r i))), none, none]) (c1 := c) (by simp [exSs, exS, evE, evT, evA, evO, evC, evI, bind_ok, SK.R.out, bind_ex, bind_no, ofO_some, ofO_none, nox_ok, fin_t, fin_own, fin_nx, List.take_length, look, lookX, frz, two, twoX, resT, resB, tv, tvD, pd, dat, allT, lookAll, popD, appD, binD, binL, cmpD, eqD, truD, subD, sliceD, sliceL, tyD, kd, tyB, biD, biL, meD, itemsD, isNoneD, leave, startD, setTg_one, setTg_many, setTgs_nil, setTgs_cons, slotsOf, slotsOfs, wipeD, augD, List.length_cons, List.length_nil, List.map_cons, List.map_nil, List.getElem?_cons_zero, List.getElem?_cons_succ, List.getElem?_nil, List.set_cons_zero, List.set_cons_succ, List.cons_append, List.nil_append, List.replicate_succ, List.replicate_zero, Nat.reduceAdd, Nat.reduceSub, if_true, if_false, Bool.false_eq_true, Option.map_some, Option.map_none, Option.bind_some, Option.bind_none, Bool.not_true, Bool.not_false, decide_true, decide_false, clsFlds, errs, b9])]
  obtain ⟨y5, e9⟩ := forL_keep (tg := .one 5) (f := fun ρ1 c2 => exSs cl gl 100 kBody ρ1 c2) (c := c)
    (fun o => [x0, x1, some (.t (.str r)), some (.t (.int i)), some (.t (.list (errs r i))), o, none]) (rngD 0 9) none (fun x hx o => by
      obtain ⟨k, hk, rfl⟩ := rng_mem hx
      refine ⟨_, some (.t (.int (k : Int))), setTg_one .., ?_⟩
      rw [Int.zero_add]
      exact kinds_turn cl r i k hk _ _ _ _ _ c (ek k hk))
  rw [exSs_nx (ρ1 := [x0, x1, some (.t (.str r)), some (.t (.int i)), some (.t (.list (errs r i))), y5, none]) (c1 := c) (by
    rw [exS, show evI cl gl (.rng1 (.lit (.int 9))) _ c = .ok (rngD 0 9) c from rfl, bind_ok]
    exact e9)]
  have a6 : L2.atI (errs r i) 6 = some (objD 6 [("reason", .str r)]) := rfl
  have a7 : L2.atI (errs r i) 7 = some (objD 7 [("index", .int i)]) := rfl
  have a8 : L2.atI (errs r i) 8 = some (objD 8 [("index", .int i), ("reason", .str r)]) := rfl
  have o6 : objFld (objD 6 [("reason", .str r)]) "reason" = some (.str r) := rfl
  have o7 : objFld (objD 7 [("index", .int i)]) "index" = some (.int i) := rfl
  have o8 : objFld (objD 8 [("index", .int i), ("reason", .str r)]) "index" = some (.int i) := rfl
  have o9 : objFld (objD 8 [("index", .int i), ("reason", .str r)]) "reason" = some (.str r) := rfl
  have k6 : ∀ fs, objCls (objD 6 fs) = some 6 := fun fs => rfl
  have k7 : ∀ fs, objCls (objD 7 fs) = some 7 := fun fs => rfl
  have k8 : ∀ fs, objCls (objD 8 fs) = some 8 := fun fs => rfl
  generalize errs r i = E at *
  generalize ("reason" : Str) = z1 at *
  generalize ("index" : Str) = z2 at *
  rw [exSs_nx (ρ1 := [x0, x1, some (.t (.str r)), some (.t (.int i)), some (.t (.list E)), y5, none]) (c1 := c) (by simp [exSs, exS, evE, evT, evA, evO, evC, evI, bind_ok, SK.R.out, bind_ex, bind_no, ofO_some, ofO_none, nox_ok, fin_t, fin_own, fin_nx, List.take_length, look, lookX, frz, two, twoX, resT, resB, tv, tvD, pd, dat, allT, lookAll, popD, appD, binD, binL, cmpD, eqD, truD, subD, sliceD, sliceL, tyD, kd, tyB, biD, biL, meD, itemsD, isNoneD, leave, startD, setTg_one, setTg_many, setTgs_nil, setTgs_cons, slotsOf, slotsOfs, wipeD, augD, List.length_cons, List.length_nil, List.map_cons, List.map_nil, List.getElem?_cons_zero, List.getElem?_cons_succ, List.getElem?_nil, List.set_cons_zero, List.set_cons_succ, List.cons_append, List.nil_append, List.replicate_succ, List.replicate_zero, Nat.reduceAdd, Nat.reduceSub, if_true, if_false, Bool.false_eq_true, Option.map_some, Option.map_none, Option.bind_some, Option.bind_none, Bool.not_true, Bool.not_false, decide_true, decide_false, a6, a7, k6, k7, o6, o7])]
  rw [exSs_ret (d := .t (.bool true)) (ρ1 := [x0, x1, some (.t (.str r)), some (.t (.int i)), some (.t (.list E)), y5, none]) (c1 := c) (by simp [exSs, exS, evE, evT, evA, evO, evC, evI, bind_ok, SK.R.out, bind_ex, bind_no, ofO_some, ofO_none, nox_ok, fin_t, fin_own, fin_nx, List.take_length, look, lookX, frz, two, twoX, resT, resB, tv, tvD, pd, dat, allT, lookAll, popD, appD, binD, binL, cmpD, eqD, truD, subD, sliceD, sliceL, tyD, kd, tyB, biD, biL, meD, itemsD, isNoneD, leave, startD, setTg_one, setTg_many, setTgs_nil, setTgs_cons, slotsOf, slotsOfs, wipeD, augD, List.length_cons, List.length_nil, List.map_cons, List.map_nil, List.getElem?_cons_zero, List.getElem?_cons_succ, List.getElem?_nil, List.set_cons_zero, List.set_cons_succ, List.cons_append, List.nil_append, List.replicate_succ, List.replicate_zero, Nat.reduceAdd, Nat.reduceSub, if_true, if_false, Bool.false_eq_true, Option.map_some, Option.map_none, Option.bind_some, Option.bind_none, Bool.not_true, Bool.not_false, decide_true, decide_false, a8, k8, o8, o9])]
  rfl
end Q00

namespace Q00
open PySem PySem.Spec PyProof.Rows L2 SK
def topS (i : Nat) : Stmt := PySem.Challenge.pw_sinktree_k00_errors.main.body.getD i (.Pass ⟨0, 0, 0, 0⟩)
abbrev s_law_draws : Stmt := topS 13
abbrev s_law_next : Stmt := topS 14
abbrev s_law_kinds : Stmt := topS 15
abbrev s_law : Stmt := topS 16
theorem sc_law_draws : FnScope f_law_draws.N f_law_draws.ps (defScope s_law_draws) := ⟨rfl, rfl, rfl, by decide +kernel, rfl, by decide +kernel, by decide +kernel⟩
theorem ma_law_draws : maSs ⟨f_law_draws.N, fns.map (·.name), gls.map (·.1), false, ecs⟩ (defScope s_law_draws) f_law_draws.body (defBody s_law_draws) = true := by decide +kernel
theorem sc_law_next : FnScope f_law_next.N f_law_next.ps (defScope s_law_next) := ⟨rfl, rfl, rfl, by decide +kernel, rfl, by decide +kernel, by decide +kernel⟩
theorem ma_law_next : maSs ⟨f_law_next.N, fns.map (·.name), gls.map (·.1), false, ecs⟩ (defScope s_law_next) f_law_next.body (defBody s_law_next) = true := by decide +kernel
theorem sc_law_kinds : FnScope f_law_kinds.N f_law_kinds.ps (defScope s_law_kinds) := ⟨rfl, rfl, rfl, by decide +kernel, rfl, by decide +kernel, by decide +kernel⟩
theorem ma_law_kinds : maSs ⟨f_law_kinds.N, fns.map (·.name), gls.map (·.1), false, ecs⟩ (defScope s_law_kinds) f_law_kinds.body (defBody s_law_kinds) = true := by decide +kernel
theorem sc_law : FnScope f_law.N f_law.ps (defScope s_law) := ⟨rfl, rfl, rfl, by decide +kernel, rfl, by decide +kernel, by decide +kernel⟩
theorem ma_law : maSs ⟨f_law.N, fns.map (·.name), gls.map (·.1), false, ecs⟩ (defScope s_law) f_law.body (defBody s_law) = true := by decide +kernel
abbrev i_6 : Stmt := inCls (topS 8) 0
theorem isc_6 : FnScope ["self", "reason"] ["self", "reason"] (defScope i_6) := ⟨rfl, rfl, rfl, by decide +kernel, rfl, by decide +kernel, by decide +kernel⟩
theorem ib_6 : iniB (clsFlds 6) (defBody i_6) = true := by decide +kernel
theorem iv_6 : ((("self" : Str) :: clsFlds 6).all fun x => isVis (defScope i_6) x && okName x) = true := by decide +kernel
abbrev i_7 : Stmt := inCls (topS 9) 0
theorem isc_7 : FnScope ["self", "index"] ["self", "index"] (defScope i_7) := ⟨rfl, rfl, rfl, by decide +kernel, rfl, by decide +kernel, by decide +kernel⟩
theorem ib_7 : iniB (clsFlds 7) (defBody i_7) = true := by decide +kernel
theorem iv_7 : ((("self" : Str) :: clsFlds 7).all fun x => isVis (defScope i_7) x && okName x) = true := by decide +kernel
abbrev i_8 : Stmt := inCls (topS 10) 0
theorem isc_8 : FnScope ["self", "index", "reason"] ["self", "index", "reason"] (defScope i_8) := ⟨rfl, rfl, rfl, by decide +kernel, rfl, by decide +kernel, by decide +kernel⟩
theorem ib_8 : iniB (clsFlds 8) (defBody i_8) = true := by decide +kernel
theorem iv_8 : ((("self" : Str) :: clsFlds 8).all fun x => isVis (defScope i_8) x && okName x) = true := by decide +kernel
theorem all_mk {P : Program} {w : World} {K : PySem.W.Frag} {h : Heap} {mg : Str → Option Value} {fa : Addr} (X : K.In h) (G : h.Ns mainGlobals mg) (hfa : mg "law" = some (.ref fa))
    {q1 : Addr} {od1 an1 : Option Addr} {sl1 : Array (Option Value)} {oc1 kV1 dc1 pm1 cd1 ct1 : Value}
    {q2 : Addr} {od2 an2 : Option Addr} {sl2 : Array (Option Value)} {oc2 kV2 dc2 pm2 cd2 ct2 : Value}
    {q3 : Addr} {od3 an3 : Option Addr} {sl3 : Array (Option Value)} {oc3 kV3 dc3 pm3 cd3 ct3 : Value}
    {q4 : Addr} {od4 an4 : Option Addr} {sl4 : Array (Option Value)} {oc4 kV4 dc4 pm4 cd4 ct4 : Value}
    {iC6 iq6 : Addr} {iod6 ian6 : Option Addr} {isl6 : Array (Option Value)} {ioc6 ikV6 idc6 ipm6 icd6 ict6 : Value}
    {iC7 iq7 : Addr} {iod7 ian7 : Option Addr} {isl7 : Array (Option Value)} {ioc7 ikV7 idc7 ipm7 icd7 ict7 : Value}
    {iC8 iq8 : Addr} {iod8 ian8 : Option Addr} {isl8 : Array (Option Value)} {ioc8 ikV8 idc8 ipm8 icd8 ict8 : Value}
    (a1 : PySem.W.nsIn K mainGlobals "_law_draws" = some (some (.ref q1))) (l1 : K.lookup q1 = some ⟨oc1, od1, .func (PySem.W.fnOf "_law_draws" "_law_draws" (defArgs s_law_draws) (defBody s_law_draws) (defScope s_law_draws) .none kV1 dc1 pm1 an1 cd1 ct1), sl1⟩) (c1 : PySem.W.codeIn K cd1 "_law_draws" = true) (k1 : PySem.W.keepIn K (.ref q1) = true)
    (a2 : PySem.W.nsIn K mainGlobals "_law_next" = some (some (.ref q2))) (l2 : K.lookup q2 = some ⟨oc2, od2, .func (PySem.W.fnOf "_law_next" "_law_next" (defArgs s_law_next) (defBody s_law_next) (defScope s_law_next) .none kV2 dc2 pm2 an2 cd2 ct2), sl2⟩) (c2 : PySem.W.codeIn K cd2 "_law_next" = true) (k2 : PySem.W.keepIn K (.ref q2) = true)
    (a3 : PySem.W.nsIn K mainGlobals "_law_kinds" = some (some (.ref q3))) (l3 : K.lookup q3 = some ⟨oc3, od3, .func (PySem.W.fnOf "_law_kinds" "_law_kinds" (defArgs s_law_kinds) (defBody s_law_kinds) (defScope s_law_kinds) .none kV3 dc3 pm3 an3 cd3 ct3), sl3⟩) (c3 : PySem.W.codeIn K cd3 "_law_kinds" = true) (k3 : PySem.W.keepIn K (.ref q3) = true)
    (a4 : PySem.W.nsIn K mainGlobals "law" = some (some (.ref q4))) (l4 : K.lookup q4 = some ⟨oc4, od4, .func (PySem.W.fnOf "law" "law" (defArgs s_law) (defBody s_law) (defScope s_law) .none kV4 dc4 pm4 an4 cd4 ct4), sl4⟩) (c4 : PySem.W.codeIn K cd4 "law" = true) (k4 : PySem.W.keepIn K (.ref q4) = true)
    (z_len : PySem.W.nsIn K mainGlobals "len" = some none)
    (z_abs : PySem.W.nsIn K mainGlobals "abs" = some none)
    (z_int : PySem.W.nsIn K mainGlobals "int" = some none)
    (z_min : PySem.W.nsIn K mainGlobals "min" = some none)
    (z_max : PySem.W.nsIn K mainGlobals "max" = some none)
    (z_sum : PySem.W.nsIn K mainGlobals "sum" = some none)
    (z_tuple : PySem.W.nsIn K mainGlobals "tuple" = some none)
    (z_list : PySem.W.nsIn K mainGlobals "list" = some none)
    (z_all : PySem.W.nsIn K mainGlobals "all" = some none)
    (z_any : PySem.W.nsIn K mainGlobals "any" = some none)
    (z_ord : PySem.W.nsIn K mainGlobals "ord" = some none)
    (z_sorted : PySem.W.nsIn K mainGlobals "sorted" = some none)
    (z_str : PySem.W.nsIn K mainGlobals "str" = some none)
    (z_bool : PySem.W.nsIn K mainGlobals "bool" = some none)
    (z_dict : PySem.W.nsIn K mainGlobals "dict" = some none)
    (z_isinstance : PySem.W.nsIn K mainGlobals "isinstance" = some none)
    (z_range : PySem.W.nsIn K mainGlobals "range" = some none)
    (z_zip : PySem.W.nsIn K mainGlobals "zip" = some none)
    (z_enumerate : PySem.W.nsIn K mainGlobals "enumerate" = some none)
    (z_set : PySem.W.nsIn K mainGlobals "set" = some none)
    (z_ValueError : PySem.W.nsIn K mainGlobals "ValueError" = some none)
    (gB : gls.all (SK.gB K) = true)
    (eB10 : errB K ecs 10 = true)
    (eB0 : errB K ecs 0 = true)
    (eB1 : errB K ecs 1 = true)
    (eB2 : errB K ecs 2 = true)
    (eB3 : errB K ecs 3 = true)
    (eB4 : errB K ecs 4 = true)
    (eB5 : errB K ecs 5 = true)
    (eB6 : errB K ecs 6 = true)
    (eB7 : errB K ecs 7 = true)
    (eB8 : errB K ecs 8 = true)
    (ig6 : PySem.W.nsIn K mainGlobals "BadProgram" = some (some (.ref iC6))) (if6 : PySem.W.findIn K (.ref iC6) "__init__" = some (some (.ref iq6))) (it6 : PySem.W.typeIn K (.ref iq6) = some (.type "function")) (il6 : K.lookup iq6 = some ⟨ioc6, iod6, .func (PySem.W.fnOf "__init__" "BadProgram.__init__" (defArgs i_6) (defBody i_6) (defScope i_6) .none ikV6 idc6 ipm6 ian6 icd6 ict6), isl6⟩) (ic6 : PySem.W.codeIn K icd6 "BadProgram.__init__" = true) (ik6 : PySem.W.keepIn K (.ref iq6) = true) (ix6 : oexB K (gaK K (clsName 6)) = true)
    (ig7 : PySem.W.nsIn K mainGlobals "BadText" = some (some (.ref iC7))) (if7 : PySem.W.findIn K (.ref iC7) "__init__" = some (some (.ref iq7))) (it7 : PySem.W.typeIn K (.ref iq7) = some (.type "function")) (il7 : K.lookup iq7 = some ⟨ioc7, iod7, .func (PySem.W.fnOf "__init__" "BadText.__init__" (defArgs i_7) (defBody i_7) (defScope i_7) .none ikV7 idc7 ipm7 ian7 icd7 ict7), isl7⟩) (ic7 : PySem.W.codeIn K icd7 "BadText.__init__" = true) (ik7 : PySem.W.keepIn K (.ref iq7) = true) (ix7 : oexB K (gaK K (clsName 7)) = true)
    (ig8 : PySem.W.nsIn K mainGlobals "BadCode" = some (some (.ref iC8))) (if8 : PySem.W.findIn K (.ref iC8) "__init__" = some (some (.ref iq8))) (it8 : PySem.W.typeIn K (.ref iq8) = some (.type "function")) (il8 : K.lookup iq8 = some ⟨ioc8, iod8, .func (PySem.W.fnOf "__init__" "BadCode.__init__" (defArgs i_8) (defBody i_8) (defScope i_8) .none ikV8 idc8 ipm8 ian8 icd8 ict8), isl8⟩) (ic8 : PySem.W.codeIn K icd8 "BadCode.__init__" = true) (ik8 : PySem.W.keepIn K (.ref iq8) = true) (ix8 : oexB K (gaK K (clsName 8)) = true) :
    ∃ fd : FuncData, (∀ (s : Shared) (v : Value), BindsTo s fd ⟨[v], []⟩ [("script", v)]) ∧ ∀ base : Heap, K.In base → base.Ns mainGlobals mg → FnOk P w K mg base (L2.CX P w) (12 + 3) fa fd ["script"] (spLaw K 63) := by
  have e := hfa.symm.trans (PySem.W.mg_of X G a4)
  cases e
  have F1 := fun_mk (st := s_law_draws) l1 c1 k1
  have b1 := F1.binds (ps := f_law_draws.ps) fun _ _ _ _ _ _ us hl => match us, hl with | [_, _, _], _ => rfl
  have F2 := fun_mk (st := s_law_next) l2 c2 k2
  have b2 := F2.binds (ps := f_law_next.ps) fun _ _ _ _ _ _ us hl => match us, hl with | [_], _ => rfl
  have F3 := fun_mk (st := s_law_kinds) l3 c3 k3
  have b3 := F3.binds (ps := f_law_kinds.ps) fun _ _ _ _ _ _ us hl => match us, hl with | [_], _ => rfl
  have F4 := fun_mk (st := s_law) l4 c4 k4
  have b4 := F4.binds (ps := f_law.ps) fun _ _ _ _ _ _ us hl => match us, hl with | [_], _ => rfl
  have Er : ∀ k ∈ ecs, ErrK K mg ecs k := by
    intro k hk
    simp only [ecs, List.mem_cons, List.not_mem_nil, or_false] at hk
    rcases hk with rfl | rfl | rfl | rfl | rfl | rfl | rfl | rfl | rfl | rfl
    · exact errK_of X G eB10
    · exact errK_of X G eB0
    · exact errK_of X G eB1
    · exact errK_of X G eB2
    · exact errK_of X G eB3
    · exact errK_of X G eB4
    · exact errK_of X G eB5
    · exact errK_of X G eB6
    · exact errK_of X G eB7
    · exact errK_of X G eB8
  have Tb : TabOk K mg fns gls ecs := by
    refine ⟨fun k f hf => ?_, gB_ok X G gB, fun x hx => ?_, Er, fun k hk hf => ?_⟩
    · match k, hf with
      | 0, hf => obtain rfl : f_law_draws = f := Option.some.inj hf; exact ⟨_, _, s_law_draws, PySem.W.mg_of X G a1, F1, b1, sc_law_draws, ma_law_draws⟩
      | 1, hf => obtain rfl : f_law_next = f := Option.some.inj hf; exact ⟨_, _, s_law_next, PySem.W.mg_of X G a2, F2, b2, sc_law_next, ma_law_next⟩
      | 2, hf => obtain rfl : f_law_kinds = f := Option.some.inj hf; exact ⟨_, _, s_law_kinds, PySem.W.mg_of X G a3, F3, b3, sc_law_kinds, ma_law_kinds⟩
      | 3, hf => obtain rfl : f_law = f := Option.some.inj hf; exact ⟨_, _, s_law, PySem.W.mg_of X G a4, F4, b4, sc_law, ma_law⟩
      | k + 4, hf => exact absurd (List.getElem?_eq_some_iff.mp hf).1 (by show ¬ k + 4 < 4; omega)
    · simp only [bltNames, List.mem_cons, List.not_mem_nil, or_false] at hx
      rcases hx with rfl | rfl | rfl | rfl | rfl | rfl | rfl | rfl | rfl | rfl | rfl | rfl | rfl | rfl | rfl | rfl | rfl | rfl | rfl | rfl | rfl
      · exact PySem.W.mg_none_of X G z_len
      · exact PySem.W.mg_none_of X G z_abs
      · exact PySem.W.mg_none_of X G z_int
      · exact PySem.W.mg_none_of X G z_min
      · exact PySem.W.mg_none_of X G z_max
      · exact PySem.W.mg_none_of X G z_sum
      · exact PySem.W.mg_none_of X G z_tuple
      · exact PySem.W.mg_none_of X G z_list
      · exact PySem.W.mg_none_of X G z_all
      · exact PySem.W.mg_none_of X G z_any
      · exact PySem.W.mg_none_of X G z_ord
      · exact PySem.W.mg_none_of X G z_sorted
      · exact PySem.W.mg_none_of X G z_str
      · exact PySem.W.mg_none_of X G z_bool
      · exact PySem.W.mg_none_of X G z_dict
      · exact PySem.W.mg_none_of X G z_isinstance
      · exact PySem.W.mg_none_of X G z_range
      · exact PySem.W.mg_none_of X G z_zip
      · exact PySem.W.mg_none_of X G z_enumerate
      · exact PySem.W.mg_none_of X G z_set
      · exact PySem.W.mg_none_of X G z_ValueError
    · simp only [ecs, List.mem_cons, List.not_mem_nil, or_false] at hk
      rcases hk with rfl | rfl | rfl | rfl | rfl | rfl | rfl | rfl | rfl | rfl
      · exact (hf rfl).elim
      · exact (hf rfl).elim
      · exact (hf rfl).elim
      · exact (hf rfl).elim
      · exact (hf rfl).elim
      · exact (hf rfl).elim
      · exact (hf rfl).elim
      · have eC : gaK K (clsName 6) = iC6 := gaK_of ig6
        have F := fun_mk (st := i_6) il6 ic6 ik6
        have E := Er 6 (by decide)
        exact ⟨oex_of ix6 E.exC E.tyC E.keep, _, _, _, i_6, by rw [eC]; exact if6, it6, F, F.binds (ps := "self" :: clsFlds 6) fun _ _ _ _ _ _ us hl => match us, hl with | [_, _], _ => rfl, isc_6, ib_6, iv_6⟩
      · have eC : gaK K (clsName 7) = iC7 := gaK_of ig7
        have F := fun_mk (st := i_7) il7 ic7 ik7
        have E := Er 7 (by decide)
        exact ⟨oex_of ix7 E.exC E.tyC E.keep, _, _, _, i_7, by rw [eC]; exact if7, it7, F, F.binds (ps := "self" :: clsFlds 7) fun _ _ _ _ _ _ us hl => match us, hl with | [_, _], _ => rfl, isc_7, ib_7, iv_7⟩
      · have eC : gaK K (clsName 8) = iC8 := gaK_of ig8
        have F := fun_mk (st := i_8) il8 ic8 ik8
        have E := Er 8 (by decide)
        exact ⟨oex_of ix8 E.exC E.tyC E.keep, _, _, _, i_8, by rw [eC]; exact if8, it8, F, F.binds (ps := "self" :: clsFlds 8) fun _ _ _ _ _ _ us hl => match us, hl with | [_, _, _], _ => rfl, isc_8, ib_8, iv_8⟩
  exact ⟨_, fun s v => .of_eq rfl, fun base _ _ => law_ok (wf := 100) Tb (k := 3) (f := f_law) rfl rfl law_true (PySem.W.mg_of X G a4) F4 b4 sc_law ma_law⟩
end Q00
open PySem PySem.W PyProof.Rows
set_option maxRecDepth 100000 in
set_option maxHeartbeats 0 in
theorem PySem.Challenge.cw_sinktree_k00_errors_holds : PySem.Challenge.rw_sinktree_k00_errors.Holds := by
  w_on; o_law; k_head; (case hw => w_witness2)
  k_fill
  refine L2.walk_of (l := PySem.Challenge.rw_sinktree_k00_errors) (n := 63) (k := 12 + 3) (x := "script") (CX := fun w => L2.CX PySem.Challenge.pw_sinktree_k00_errors w) (sp := fun w => SK.spLaw _ 63) rfl (by decide) rfl ⟨rfl, by decide, by decide⟩ (fun w h Y => PySem.W.kIn_of Y) ?F (fun _ _ a ns hl _ hS => ⟨a, ns, rfl, hS, hl, fun _ => rfl⟩) (fun _ _ _ _ _ h => h.elim fun _ h => h.elim fun _ h => h.elim fun _ h => h.elim fun _ h => h.elim fun _ h => h.2.2.2.2.2.2.2)
  case F =>
    intro w mg fa h KX G hmg
    refine' Q00.all_mk KX G hmg ?a1 ?l1 ?c1 ?k1 ?a2 ?l2 ?c2 ?k2 ?a3 ?l3 ?c3 ?k3 ?a4 ?l4 ?c4 ?k4 ?z_len ?z_abs ?z_int ?z_min ?z_max ?z_sum ?z_tuple ?z_list ?z_all ?z_any ?z_ord ?z_sorted ?z_str ?z_bool ?z_dict ?z_isinstance ?z_range ?z_zip ?z_enumerate ?z_set ?z_ValueError ?gB ?eB10 ?eB0 ?eB1 ?eB2 ?eB3 ?eB4 ?eB5 ?eB6 ?eB7 ?eB8 ?ig6 ?if6 ?it6 ?il6 ?ic6 ?ik6 ?ix6 ?ig7 ?if7 ?it7 ?il7 ?ic7 ?ik7 ?ix7 ?ig8 ?if8 ?it8 ?il8 ?ic8 ?ik8 ?ix8
    (case a1 => k_is); (case l1 => k_is); (case c1 => k_is); (case k1 => k_is); (case a2 => k_is); (case l2 => k_is); (case c2 => k_is); (case k2 => k_is); (case a3 => k_is); (case l3 => k_is); (case c3 => k_is); (case k3 => k_is); (case a4 => k_is); (case l4 => k_is); (case c4 => k_is); (case k4 => k_is); (case z_len => k_is); (case z_abs => k_is); (case z_int => k_is); (case z_min => k_is); (case z_max => k_is); (case z_sum => k_is); (case z_tuple => k_is); (case z_list => k_is); (case z_all => k_is); (case z_any => k_is); (case z_ord => k_is); (case z_sorted => k_is); (case z_str => k_is); (case z_bool => k_is); (case z_dict => k_is); (case z_isinstance => k_is); (case z_range => k_is); (case z_zip => k_is); (case z_enumerate => k_is); (case z_set => k_is); (case z_ValueError => k_is); (case ig6 => k_is); (case if6 => k_is); (case it6 => k_is); (case il6 => k_is); (case ic6 => k_is); (case ik6 => k_is); (case ig7 => k_is); (case if7 => k_is); (case it7 => k_is); (case il7 => k_is); (case ic7 => k_is); (case ik7 => k_is); (case ig8 => k_is); (case if8 => k_is); (case it8 => k_is); (case il8 => k_is); (case ic8 => k_is); (case ik8 => k_is)
    (case gB => kernel_rfl); (case eB10 => kernel_rfl); (case eB0 => kernel_rfl); (case eB1 => kernel_rfl); (case eB2 => kernel_rfl); (case eB3 => kernel_rfl); (case eB4 => kernel_rfl); (case eB5 => kernel_rfl); (case eB6 => kernel_rfl); (case eB7 => kernel_rfl); (case eB8 => kernel_rfl); (case ix6 => kernel_rfl); (case ix7 => kernel_rfl); (case ix8 => kernel_rfl)

