import PyProof.Rows.All
import Wide.All
import OpenK.AllK
import Wide.FinOn
import HandS.ForMost
import HandS.ForExc
import HandS.Gcd
import HandS.IsInst
import HandS.Wide
import HandS.Style
import HandS.Flow
import PyProof.ReprRoads
import HandS.TupAny
import HandS.Codes
import HandS.EndBits
import PySem.Challenge.RW_chance_k01_ratios
set_option Elab.async false
set_option linter.all false
set_option maxRecDepth 100000
/-! a small machine: data, objects, expressions, statements, their evaluation -/
namespace Mx
open PySem L2
/-! ### data -/
inductive D where
  | non | bl (b : Bool) | int (i : Int) | str (x : Str) | tup (l : List D) | ref (i : Nat)
inductive Ob where
  | lst (l : List D) | frz (l : List D) | ins (c : Nat) (fs : List (Str × D))
abbrev Sto := List Ob
abbrev Rho := List (Option D)
structure Exn where
  c : Nat
  fs : List (Str × D)
inductive Rs (α : Type) where
  | ok (a : α) (S : Sto) | er (x : Exn) (S : Sto)
abbrev Mo (α : Type) := Option (Rs α)
def bnd {α β : Type} (m : Mo α) (f : α → Sto → Mo β) : Mo β := match m with
  | some (.ok a S) => f a S
  | some (.er x S) => some (.er x S)
  | none => none
def lft {α : Type} (m : Option (α × Sto)) : Mo α := match m with
  | some (a, S) => some (.ok a S)
  | none => none
def lf0 {α : Type} (m : Option α) (S : Sto) : Mo α := match m with
  | some a => some (.ok a S)
  | none => none
/-! ### syntax -/
inductive B2 where
  | add | sub | mul | fdiv | mod | pow | shl
inductive Cm where
  | eq | ne | lt | le | gt | ge | is | isnot | isin | notin
inductive Ty where
  | int | bool | str | list | tuple
inductive Bi where
  | len | abs | int | sum | min | max | list | tuple | repr | gcd | lcm | range | enumerate | zip | reversed | sorted | bool
inductive Ib where
  | val | rng | enm | zip | rev
inductive Mt where
  | append | extend | pop
inductive Tg where
  | nm (i : Nat) | ns (l : List Nat)
mutual
inductive Ex where
  | var (i : Nat) | cst (d : D) | glb (i : Nat)
  | bin (o : B2) (a b : Ex) | neg (a : Ex) | nt (a : Ex)
  | cmp (o : Cm) (a b : Ex) | chn (o : Cm) (o' : Cm) (a b c : Ex)
  | an (a b : Ex) | or (a b : Ex) | ite (c a b : Ex)
  | cal (f : Nat) (as : Exs) | bi (b : Bi) (as : Exs) | isi (a : Ex) (t : Ty) | mth (m : Mt) (o : Ex) (as : Exs)
  | idx (a b : Ex) | slc (a : Ex) (lo hi : Exs)
  | tup (as : Exs) | lst (as : Exs)
  | lc (el : Ex) (own : List Nat) (t : Tg) (b : Ib) (as : Exs) (ifs : Exs)
inductive Exs where
  | nil | cons (a : Ex) (as : Exs)
end
mutual
inductive Sm where
  | pass | brk | cnt | expr (e : Ex) | ret (e : Ex) | retn
  | asg (t : Tg) (e : Ex) | seti (o i e : Ex) | par (i j : Nat) (a b : Ex) | aug (i : Nat) (o : B2) (e : Ex)
  | iff (c : Ex) (a b : Sms) | for (t : Tg) (k : Ib) (as : Exs) (b : Sms) | whl (c : Ex) (b : Sms)
inductive Sms where
  | nil | cons (s : Sm) (r : Sms)
end
/-! ### operations -/
def LIM : Nat := 1000000
def WID : Nat := 2 ^ 4000
def lstOf (S : Sto) (i : Nat) : Option (List D) := match S[i]? with
  | some (.lst l) => some l
  | some (.frz l) => some l
  | _ => none
def mutOf (S : Sto) (i : Nat) : Option (List D) := match S[i]? with
  | some (.lst l) => some l
  | _ => none
mutual
def pdW (f : Nat → Option PyData) : D → Option PyData
  | .non => some .none
  | .bl b => some (.bool b)
  | .int i => some (.int i)
  | .str x => some (.str x)
  | .tup l => (pdWs f l).map .tuple
  | .ref i => f i
def pdWs (f : Nat → Option PyData) : List D → Option (List PyData)
  | [] => some []
  | d :: ds => match pdW f d, pdWs f ds with
    | some x, some xs => some (x :: xs)
    | _, _ => none
end
def mapO {α β : Type} (f : α → Option β) : List α → Option (List β)
  | [] => some []
  | d :: ds => match f d, mapO f ds with
    | some x, some xs => some (x :: xs)
    | _, _ => none
def pdN : Nat → Sto → D → Option PyData
  | 0, _ => pdW fun _ => none
  | n + 1, S => pdW fun i => match lstOf S i with
    | some l => (mapO (pdN n S) l).map .list
    | none => none
def eqD (S : Sto) (a b : D) : Option Bool := match pdN 3 S a, pdN 3 S b with
  | some x, some y => if SeqAt.shaped x && SeqAt.shaped y then some (PyData.eqv x y) else none
  | _, _ => none
def tru (S : Sto) : D → Option Bool
  | .non => some false
  | .bl b => some b
  | .int i => some (i != 0)
  | .str x => if x.length ≤ LIM then some ((x.length : Int) != 0) else none
  | .tup l => some (!l.isEmpty)
  | .ref i => (lstOf S i).map fun l => !l.isEmpty
def intL : List D → Option (List Int)
  | [] => some []
  | .int i :: r => (intL r).map (i :: ·)
  | _ => none
def op2 : B2 → D → D → Sto → Option (D × Sto)
  | .add, .int i, .int j, S => some (.int (i + j), S)
  | .add, .tup a, .tup b, S => if a.length + b.length ≤ LIM then some (.tup (a ++ b), S) else none
  | .add, .ref a, .ref b, S => match mutOf S a, mutOf S b with
    | some x, some y => if x.length + y.length ≤ LIM then some (.ref S.length, S ++ [.lst (x ++ y)]) else none
    | _, _ => none
  | .sub, .int i, .int j, S => some (.int (i - j), S)
  | .mul, .int i, .int j, S => if i.natAbs < WID ∧ j.natAbs < WID then some (.int (i * j), S) else none
  | .mul, .ref a, .int j, S => match mutOf S a with
    | some x => if x.length * j.toNat ≤ LIM ∧ j.natAbs ≤ LIM then some (.ref S.length, S ++ [.lst (List.replicate j.toNat x).flatten]) else none
    | _ => none
  | .fdiv, .int i, .int j, S => if j ≠ 0 ∧ j.natAbs < WID then some (.int (i.fdiv j), S) else none
  | .mod, .int i, .int j, S => if j ≠ 0 then some (.int (i.fmod j), S) else none
  | .pow, .int i, .int j, S => if 0 ≤ j ∧ j ≤ 1000000 ∧ i.natAbs < 2 ^ 64 then some (.int (i ^ j.toNat), S) else none
  | .shl, .int i, .int j, S => if 0 ≤ j ∧ j ≤ 1000000 ∧ i.natAbs < 2 ^ 64 then some (.int (i * 2 ^ j.toNat), S) else none
  | _, _, _, _ => none
def isin (S : Sto) (a : D) : List D → Option Bool
  | [] => some false
  | d :: ds => match eqD S d a, isin S a ds with
    | some b, some c => some (b || c)
    | _, _ => none
def seqOf (S : Sto) : D → Option (List D)
  | .tup l => some l
  | .ref i => lstOf S i
  | _ => none
def cm2 : Cm → D → D → Sto → Option Bool
  | .eq, a, b, S => eqD S a b
  | .ne, a, b, S => (eqD S a b).map (!·)
  | .lt, .int i, .int j, _ => some (decide (i < j))
  | .le, .int i, .int j, _ => some (decide (i ≤ j))
  | .gt, .int i, .int j, _ => some (decide (j < i))
  | .ge, .int i, .int j, _ => some (decide (j ≤ i))
  | .is, .bl a, .bl b, _ => some (decide (a = b))
  | .is, .non, .non, _ => some true
  | .is, .bl _, .non, _ | .is, .int _, .non, _ | .is, .str _, .non, _ | .is, .tup _, .non, _ | .is, .ref _, .non, _ => some false
  | .isnot, .bl a, .bl b, _ => some (!decide (a = b))
  | .isnot, .non, .non, _ => some false
  | .isnot, .bl _, .non, _ | .isnot, .int _, .non, _ | .isnot, .str _, .non, _ | .isnot, .tup _, .non, _ | .isnot, .ref _, .non, _ => some true
  | .isin, a, b, S => (seqOf S b).bind fun l => isin S a l
  | .notin, a, b, S => ((seqOf S b).bind fun l => isin S a l).map (!·)
  | _, _, _, _ => none
def isTy (S : Sto) : D → Ty → Option Bool
  | .non, _ => some false
  | .bl _, .int => some true
  | .bl _, .bool => some true
  | .bl _, _ => some false
  | .int _, .int => some true
  | .int _, _ => some false
  | .str _, .str => some true
  | .str _, _ => some false
  | .tup _, .tuple => some true
  | .tup _, _ => some false
  | .ref i, t => (lstOf S i).map fun _ => match t with
    | .list => true
    | _ => false
def bi1 : Bi → List D → Sto → Option (D × Sto)
  | .len, [.tup l], S => some (.int l.length, S)
  | .len, [.ref i], S => (lstOf S i).map fun l => (.int l.length, S)
  | .abs, [.int i], S => some (.int (if i < 0 then -i else i), S)
  | .int, [.int i], S => some (.int i, S)
  | .int, [.bl b], S => some (.int (if b then 1 else 0), S)
  | .bool, [.int i], S => some (.bl (i != 0), S)
  | .bool, [.bl b], S => some (.bl b, S)
  | .sum, [.ref i], S => ((lstOf S i).bind intL).map fun ns => (.int ns.sum, S)
  | .min, [.int i, .int j], S => some (.int (if j < i then j else i), S)
  | .max, [.int i, .int j], S => some (.int (if j > i then j else i), S)
  | .list, [.tup l], S => some (.ref S.length, S ++ [.lst l])
  | .list, [.ref i], S => (lstOf S i).map fun l => (.ref S.length, S ++ [.lst l])
  | .tuple, [.tup l], S => some (.tup l, S)
  | .tuple, [.ref i], S => (lstOf S i).map fun l => (.tup l, S)
  | .gcd, [.int i, .int j], S => some (.int ((Nat.gcd i.natAbs j.natAbs : Nat) : Int), S)
  | .lcm, [.int i, .int j], S => if i.natAbs < 2 ^ 64 ∧ j.natAbs < 2 ^ 64 then some (.int ((Nat.lcm i.natAbs j.natAbs : Nat) : Int), S) else none
  | .repr, [d], S => match pdN 3 S d with
    | some x => if x.showable = true ∧ x.hasDict = false ∧ x.depth ≤ 60 ∧ x.shown.length ≤ LIM then some (.str x.shown, S) else none
    | none => none
  | _, _, _ => none
def mt1 : Mt → D → List D → Sto → Option (D × Sto)
  | .append, .ref i, [d], S => match mutOf S i with
    | some l => if l.length < LIM then some (.non, S.set i (.lst (l ++ [d]))) else none
    | none => none
  | .extend, .ref i, [.ref j], S => match mutOf S i, mutOf S j with
    | some l, some m => if l.length + m.length ≤ LIM then some (.non, S.set i (.lst (l ++ m))) else none
    | _, _ => none
  | .pop, .ref i, [], S => match mutOf S i with
    | some l => match l[l.length - 1]? with
      | some d => some (d, S.set i (.lst l.dropLast))
      | none => none
    | none => none
  | _, _, _, _ => none
def ix1 (S : Sto) : D → D → Option D
  | a, .int i => (seqOf S a).bind fun l => atI l i
  | _, _ => none
def oInt : List D → Option (Option Int)
  | [] => some none
  | [.int i] => some (some i)
  | _ => none
def isL (S : Sto) : D → Bool
  | .ref i => (lstOf S i).isSome
  | _ => false
def cutD (xs : List D) (lo hi : Option Int) : List D := (xs.drop (HT.sIx xs.length 0 lo)).take (HT.sIx xs.length xs.length hi - HT.sIx xs.length 0 lo)
def sl1 (a : D) (lo hi : List D) (S : Sto) : Option (D × Sto) := match oInt lo, oInt hi with
  | some l, some h => match a with
    | .tup xs => some (.tup (cutD xs l h), S)
    | .ref i => (lstOf S i).map fun xs => (.ref S.length, S ++ [.lst (cutD xs l h)])
    | _ => none
  | _, _ => none
/-! ### what is walked -/
inductive Itr where
  | items (l : List D) | live (r : Nat)
def nxt : Itr → Nat → Sto → Option (Option D)
  | .items l, i, _ => some l[i]?
  | .live r, i, S => (lstOf S r).map fun l => l[i]?
def lenI : Itr → Sto → Nat
  | .items l, _ => l.length
  | .live r, S => match lstOf S r with
    | some l => l.length
    | none => 0
def rng (lo : Int) (n : Nat) : List D := (List.range n).map fun (k : Nat) => D.int (lo + (k : Int))
def okR (i : Int) : Bool := Nat.ble i.natAbs (2 ^ 62 - 1)
def itV (S : Sto) : D → Option Itr
  | .tup l => some (.items l)
  | .ref r => (lstOf S r).map fun _ => .live r
  | _ => none
def it1 (S : Sto) : Ib → List D → Option Itr
  | .val, [d] => itV S d
  | .rng, [.int j] => if okR j then some (.items (rng 0 j.toNat)) else none
  | .rng, [.int i, .int j] => if okR i && okR j then some (.items (rng i (j - i).toNat)) else none
  | _, _ => none
def setAll : List Nat → List D → Rho → Option Rho
  | [], [], ρ => some ρ
  | i :: is, d :: ds, ρ => setAll is ds (ρ.set i (some d))
  | _, _, _ => none
def asgT : Tg → D → Rho → Option Rho
  | .nm i, d, ρ => some (ρ.set i (some d))
  | .ns is, .tup l, ρ => setAll is l ρ
  | _, _, _ => none
def wipeD (ρ : Rho) : List Nat → Rho
  | [] => ρ
  | v :: vs => (wipeD ρ vs).set v none
/-- the loop of a comprehension: k the list that grows -/
def lcL (el tst : Rho → Sto → Mo D) (t : Tg) (it : Itr) (ρ : Rho) (k : Nat) : Nat → Nat → Sto → Mo D
  | 0, _, _ => none
  | n + 1, i, S => match nxt it i S with
    | none => none
    | some none => some (.ok (.ref k) S)
    | some (some d) => match asgT t d ρ with
      | none => none
      | some ρ1 => match tst ρ1 S with
        | some (.ok (.bl true) S1) => match el ρ1 S1 with
          | some (.ok y S2) => match mutOf S2 k with
            | some acc => if acc.length < LIM then lcL el tst t it ρ k n (i + 1) (S2.set k (.lst (acc ++ [y]))) else none
            | none => none
          | _ => none
        | some (.ok (.bl false) S1) => lcL el tst t it ρ k n (i + 1) S1
        | _ => none
/-- a value as it is asked for: m = true: its truth -/
def fin (m : Bool) (r : Mo D) : Mo D := if m then bnd r fun d S => lf0 ((tru S d).map .bl) S else r
section
variable (R : Nat → List D → Sto → Mo D) (G : List D)
mutual
/-- m: as a test -/
def ev : Ex → Bool → Rho → Sto → Mo D
  | .var i, m, ρ, S => fin m (match ρ[i]? with
    | some (some d) => some (.ok d S)
    | _ => none)
  | .cst d, m, _, S => fin m (some (.ok d S))
  | .glb i, m, _, S => fin m (lf0 G[i]? S)
  | .bin o a b, m, ρ, S => fin m (bnd (ev a false ρ S) fun x S1 => bnd (ev b false ρ S1) fun y S2 => lft (op2 o x y S2))
  | .neg a, m, ρ, S => fin m (bnd (ev a false ρ S) fun x S1 => match x with
    | .int i => some (.ok (.int (-i)) S1)
    | _ => none)
  | .nt a, m, ρ, S => if m then bnd (ev a true ρ S) fun x S1 => match x with
      | .bl b => some (.ok (.bl (!b)) S1)
      | _ => none
    else bnd (ev a false ρ S) fun x S1 => lf0 ((tru S1 x).map fun b => .bl (!b)) S1
  | .cmp o a b, _, ρ, S => bnd (ev a false ρ S) fun x S1 => bnd (ev b false ρ S1) fun y S2 => lf0 ((cm2 o x y S2).map .bl) S2
  | .chn o o' a b c, _, ρ, S => bnd (ev a false ρ S) fun x S1 => bnd (ev b false ρ S1) fun y S2 => match cm2 o x y S2 with
    | some true => bnd (ev c false ρ S2) fun z S3 => lf0 ((cm2 o' y z S3).map .bl) S3
    | some false => some (.ok (.bl false) S2)
    | none => none
  | .an a b, m, ρ, S => bnd (ev a m ρ S) fun x S1 => match x with
    | .bl true => ev b m ρ S1
    | .bl false => some (.ok (.bl false) S1)
    | _ => none
  | .or a b, m, ρ, S => bnd (ev a m ρ S) fun x S1 => match x with
    | .bl true => some (.ok (.bl true) S1)
    | .bl false => ev b m ρ S1
    | _ => none
  | .ite c a b, m, ρ, S => if m then none else bnd (ev c true ρ S) fun x S1 => match x with
    | .bl true => ev a false ρ S1
    | .bl false => ev b false ρ S1
    | _ => none
  | .cal f as, m, ρ, S => fin m (bnd (evs as ρ S) fun ds S1 => R f ds S1)
  | .bi b as, m, ρ, S => fin m (bnd (evs as ρ S) fun ds S1 => lft (bi1 b ds S1))
  | .isi a t, m, ρ, S => fin m (bnd (ev a false ρ S) fun x S1 => lf0 ((isTy S1 x t).map .bl) S1)
  | .mth k o as, m, ρ, S => fin m (bnd (ev o false ρ S) fun x S1 => if isL S1 x then bnd (evs as ρ S1) fun ds S2 => lft (mt1 k x ds S2) else none)
  | .idx a b, m, ρ, S => fin m (bnd (ev a false ρ S) fun x S1 => bnd (ev b false ρ S1) fun y S2 => lf0 (ix1 S2 x y) S2)
  | .slc a lo hi, m, ρ, S => fin m (bnd (ev a false ρ S) fun x S1 => bnd (evs lo ρ S1) fun l S2 => if (oInt l).isSome then bnd (evs hi ρ S2) fun h S3 => lft (sl1 x l h S3) else none)
  | .tup as, m, ρ, S => fin m (bnd (evs as ρ S) fun ds S1 => if ds.length ≤ LIM then some (.ok (.tup ds) S1) else none)
  | .lst as, m, ρ, S => fin m (bnd (evs as ρ S) fun ds S1 => if ds.length ≤ LIM then some (.ok (.ref S1.length) (S1 ++ [.lst ds])) else none)
  | .lc el own t k as ifs, m, ρ, S => fin m (bnd (evs as ρ S) fun ds S1 => match it1 S1 k ds with
    | some j => lcL (fun ρ S => ev el false ρ S) (fun ρ S => evt ifs ρ S) t j (wipeD ρ own) S1.length (lenI j S1 + 1) 0 (S1 ++ [.lst []])
    | none => none)
def evs : Exs → Rho → Sto → Mo (List D)
  | .nil, _, S => some (.ok [] S)
  | .cons a as, ρ, S => bnd (ev a false ρ S) fun x S1 => bnd (evs as ρ S1) fun xs S2 => some (.ok (x :: xs) S2)
/-- a comprehension's tests: none, or one -/
def evt : Exs → Rho → Sto → Mo D
  | .nil, _, S => some (.ok (.bl true) S)
  | .cons a _, ρ, S => ev a true ρ S
end
end
end Mx
set_option Elab.async false
set_option linter.all false
set_option maxRecDepth 100000
/-! statements, defs; from the program's text to them -/
namespace Mx
open PySem L2
inductive Fl where
  | nx | ret (d : D) | brk | ct
inductive Rt where
  | ok (f : Fl) (ρ : Rho) (S : Sto) | er (x : Exn) (S : Sto)
abbrev MoS := Option Rt
def bnS {α : Type} (m : Mo α) (f : α → Sto → MoS) : MoS := match m with
  | some (.ok a S) => f a S
  | some (.er x S) => some (.er x S)
  | none => none
def nxS (r : Option (Rho × Sto)) : MoS := match r with
  | some (ρ, S) => some (.ok .nx ρ S)
  | none => none
def forL (t : Tg) (it : Itr) (body : Rho → Sto → MoS) : Nat → Nat → Rho → Sto → MoS
  | 0, _, _, _ => none
  | n + 1, i, ρ, S => match nxt it i S with
    | none => none
    | some none => some (.ok .nx ρ S)
    | some (some d) => match asgT t d ρ with
      | none => none
      | some ρ1 => match body ρ1 S with
        | some (.ok .nx ρ2 S2) => forL t it body n (i + 1) ρ2 S2
        | some (.ok .ct ρ2 S2) => forL t it body n (i + 1) ρ2 S2
        | some (.ok .brk ρ2 S2) => some (.ok .nx ρ2 S2)
        | r => r
def whL (c : Rho → Sto → Mo D) (body : Rho → Sto → MoS) : Nat → Rho → Sto → MoS
  | 0, _, _ => none
  | n + 1, ρ, S => bnS (c ρ S) fun x S1 => match x with
    | .bl true => match body ρ S1 with
      | some (.ok .nx ρ2 S2) => whL c body n ρ2 S2
      | some (.ok .ct ρ2 S2) => whL c body n ρ2 S2
      | some (.ok .brk ρ2 S2) => some (.ok .nx ρ2 S2)
      | r => r
    | .bl false => some (.ok .nx ρ S1)
    | _ => none
def seti (S : Sto) : D → D → D → Option Sto
  | .ref r, .int k, v => (mutOf S r).bind fun l => (ixN l.length k).map fun j => S.set r (.lst (l.set j v))
  | _, _, _ => none
def aug (o : B2) (S : Sto) : D → D → Option D
  | .int i, .int j => match o with
    | .add => some (.int (i + j))
    | .sub => some (.int (i - j))
    | _ => none
  | _, _ => none
section
variable (R : Nat → List D → Sto → Mo D) (G : List D) (w : Nat)
mutual
def ex : Sm → Rho → Sto → MoS
  | .pass, ρ, S => some (.ok .nx ρ S)
  | .brk, ρ, S => some (.ok .brk ρ S)
  | .cnt, ρ, S => some (.ok .ct ρ S)
  | .expr e, ρ, S => bnS (ev R G e false ρ S) fun _ S1 => some (.ok .nx ρ S1)
  | .ret e, ρ, S => bnS (ev R G e false ρ S) fun d S1 => some (.ok (.ret d) ρ S1)
  | .retn, ρ, S => some (.ok (.ret .non) ρ S)
  | .asg t e, ρ, S => bnS (ev R G e false ρ S) fun d S1 => nxS ((asgT t d ρ).map fun ρ1 => (ρ1, S1))
  | .seti o i e, ρ, S => bnS (ev R G e false ρ S) fun v S1 => bnS (ev R G o false ρ S1) fun x S2 => bnS (ev R G i false ρ S2) fun y S3 => nxS ((seti S3 x y v).map fun S4 => (ρ, S4))
  | .par i j a b, ρ, S => bnS (ev R G a false ρ S) fun x S1 => bnS (ev R G b false ρ S1) fun y S2 => some (.ok .nx ((ρ.set i (some x)).set j (some y)) S2)
  | .aug i o e, ρ, S => match ρ[i]? with
    | some (some x) => bnS (ev R G e false ρ S) fun y S1 => nxS ((aug o S1 x y).map fun z => (ρ.set i (some z), S1))
    | _ => none
  | .iff c a b, ρ, S => bnS (ev R G c true ρ S) fun x S1 => match x with
    | .bl true => exs a ρ S1
    | .bl false => exs b ρ S1
    | _ => none
  | .for t k as b, ρ, S => bnS (evs R G as ρ S) fun ds S1 => match it1 S1 k ds with
    | some j => forL t j (fun ρ S => exs b ρ S) (lenI j S1 + 1) 0 ρ S1
    | none => none
  | .whl c b, ρ, S => whL (fun ρ S => ev R G c true ρ S) (fun ρ S => exs b ρ S) w ρ S
def exs : Sms → Rho → Sto → MoS
  | .nil, ρ, S => some (.ok .nx ρ S)
  | .cons s r, ρ, S => match ex s ρ S with
    | some (.ok .nx ρ1 S1) => exs r ρ1 S1
    | x => x
end
end
/-- a def: its parameters, its names, its body -/
structure Fn where
  np : Nat
  nn : Nat
  body : Sms
def enter (F : Fn) (ds : List D) : Rho := ds.map some ++ List.replicate (F.nn - ds.length) none
def leave (r : MoS) : Mo D := match r with
  | some (.ok .nx _ S) => some (.ok .non S)
  | some (.ok (.ret d) _ S) => some (.ok d S)
  | some (.er x S) => some (.er x S)
  | _ => none
/-- k: how many calls may stand one in another; w: how many turns a while may take -/
def run (Fs : List Fn) (G : List D) (w : Nat) : Nat → Nat → List D → Sto → Mo D
  | 0, _, _, _ => none
  | k + 1, f, ds, S => match Fs[f]? with
    | some F => if ds.length = F.np then leave (exs (run Fs G w k) G w F.body (enter F ds) S) else none
    | none => none

/-! ### from the text -/
structure Tb where
  fn : List Str
  bis : List Str
  mth : List Str
  gl : List Str
def gli (sc : Scope) (x : Str) : Bool := decide (sc.names.lookup x = some .globalImplicit) && !(x == ("__debug__" : Str)) && !(x == ("__name__" : Str))
def vis (sc : Scope) (x : Str) : Bool := (decide (sc.names.lookup x = some .local) || decide (sc.names.lookup x = some .cell) || decide (sc.names.lookup x = some .free)) && !(x == ("__debug__" : Str)) && !(x == ("__classdict__" : Str))
def loc (B : Bool) (sc : Scope) (x : Str) : Bool := decide (sc.names.lookup x = some .local) || (!B && decide (sc.names.lookup x = some .cell))
def biOf (x : Str) : Option Bi :=
  if x = ("len" : Str) then some .len else if x = ("abs" : Str) then some .abs else if x = ("int" : Str) then some .int else if x = ("sum" : Str) then some .sum
  else if x = ("min" : Str) then some .min else if x = ("max" : Str) then some .max else if x = ("list" : Str) then some .list else if x = ("tuple" : Str) then some .tuple
  else if x = ("repr" : Str) then some .repr else if x = ("bool" : Str) then some .bool else none
def mbOf (x : Str) : Option Bi := if x = ("gcd" : Str) then some .gcd else if x = ("lcm" : Str) then some .lcm else none
def tyOf (x : Str) : Option Ty :=
  if x = ("int" : Str) then some .int else if x = ("bool" : Str) then some .bool else if x = ("str" : Str) then some .str else if x = ("list" : Str) then some .list
  else if x = ("tuple" : Str) then some .tuple else none
def mtOf (x : Str) : Option Mt := if x = ("append" : Str) then some .append else if x = ("extend" : Str) then some .extend else if x = ("pop" : Str) then some .pop else none
def b2Of : Operator → Option B2
  | .Add => some .add | .Sub => some .sub | .Mult => some .mul | .FloorDiv => some .fdiv | .Mod => some .mod | .Pow => some .pow | .LShift => some .shl
  | _ => none
def auOf : Operator → Option B2
  | .Add => some .add | .Sub => some .sub
  | _ => none
def cmOf : CmpOp → Option Cm
  | .Eq => some .eq | .NotEq => some .ne | .Lt => some .lt | .LtE => some .le | .Gt => some .gt | .GtE => some .ge | .Is => some .is | .IsNot => some .isnot | .In => some .isin | .NotIn => some .notin
def noStar : Expr → Bool
  | .Starred .. => false
  | _ => true
def noSlice : Expr → Bool
  | .Slice .. => false
  | _ => true
def noComp : Expr → Bool
  | .ListComp .. => false
  | .SetComp .. => false
  | .DictComp .. => false
  | _ => true
def noSuper : Expr → Bool
  | .Call (.Name ..) [] [] _ => false
  | _ => true
def noSet : Expr → Bool
  | .Set .. => false
  | _ => true
def noTuple : Expr → Bool
  | .Tuple .. => false
  | _ => true
def cpL (f : Expr → Option Ex) : List Expr → Option Exs
  | [] => some .nil
  | e :: es => if noStar e then match f e, cpL f es with
      | some m, some ms => some (.cons m ms)
      | _, _ => none
    else none
def slot (N : List Str) (x : Str) : Option Nat := if N.contains x then some (N.idxOf x) else none
def cpNs (N : List Str) (B : Bool) (sc : Scope) : List Expr → Option (List Nat)
  | [] => some []
  | .Name x _ :: es => if loc B sc x then match slot N x, cpNs N B sc es with
      | some i, some is => some (i :: is)
      | _, _ => none
    else none
  | _ => none
def cpT (N : List Str) (B : Bool) (sc : Scope) : Expr → Option Tg
  | .Name x _ => if loc B sc x then (slot N x).map .nm else none
  | .Tuple es _ _ => (cpNs N B sc es).map .ns
  | _ => none
/-- the iterable: range(..), or a value -/
def cpI (T : Tb) (sc : Scope) (f : Expr → Option Ex) : Expr → Option (Ib × Exs)
  | .Call (.Name x p) (a :: r) [] pos => if x = ("range" : Str) ∧ gli sc x = true ∧ T.bis.contains x = true ∧ r.length ≤ 1 then (cpL f (a :: r)).map fun m => (.rng, m) else (f (.Call (.Name x p) (a :: r) [] pos)).map fun m => (.val, .cons m .nil)
  | e => if noStar e && noSet e then (f e).map fun m => (.val, .cons m .nil) else none
def ownOf (N : List Str) : Expr → List (Str × Nat)
  | .Name x _ => [(x, N.idxOf x)]
  | .Tuple es _ _ => es.filterMap fun
    | .Name x _ => some (x, N.idxOf x)
    | _ => none
  | _ => []
def cp (T : Tb) (N : List Str) : Nat → Bool → Scope → Expr → Option Ex
  | 0, _, _, _ => none
  | n + 1, B, sc, e => match e with
    | .Name x _ => if vis sc x then (slot N x).map .var else if gli sc x && T.gl.contains x then some (.glb (T.gl.idxOf x)) else none
    | .Constant (.int i) _ _ => some (.cst (.int i))
    | .Constant (.bool b) _ _ => some (.cst (.bl b))
    | .Constant (.str x) _ _ => some (.cst (.str x))
    | .Constant .none _ _ => some (.cst .non)
    | .BinOp a op b _ => match b2Of op, cp T N n B sc a, cp T N n B sc b with
      | some o, some x, some y => some (.bin o x y)
      | _, _, _ => none
    | .UnaryOp .USub a _ => (cp T N n B sc a).map .neg
    | .UnaryOp .Not a _ => (cp T N n B sc a).map .nt
    | .Compare a [op] [b] _ => if behindInMarks op b = false then match cmOf op, cp T N n B sc a, cp T N n B sc b with
        | some o, some x, some y => some (.cmp o x y)
        | _, _, _ => none
      else none
    | .Compare a [op, op'] [b, c] _ => if lastMarks [op, op'] [b, c] = false then match cmOf op, cmOf op', cp T N n B sc a, cp T N n B sc b, cp T N n B sc c with
        | some o, some o', some x, some y, some z => some (.chn o o' x y z)
        | _, _, _, _, _ => none
      else none
    | .BoolOp .And (a :: b :: rest) p => match cp T N n B sc a, cp T N n B sc (.BoolOp .And (b :: rest) p) with
      | some x, some y => some (.an x y)
      | _, _ => none
    | .BoolOp .Or (a :: b :: rest) p => match cp T N n B sc a, cp T N n B sc (.BoolOp .Or (b :: rest) p) with
      | some x, some y => some (.or x y)
      | _, _ => none
    | .BoolOp _ [a] _ => cp T N n B sc a
    | .IfExp c a b _ => match cp T N n B sc c, cp T N n B sc a, cp T N n B sc b with
      | some x, some y, some z => some (.ite x y z)
      | _, _, _ => none
    | .Call (.Name x _) (a :: as) [] _ => if gli sc x then
        if T.fn.contains x then (cpL (cp T N n B sc) (a :: as)).map (.cal (T.fn.idxOf x))
        else if T.bis.contains x then
          if x = ("isinstance" : Str) then match as with
            | [.Name t _] => if gli sc t && T.bis.contains t then match tyOf t, cp T N n B sc a with
                | some ty, some m => if noStar a then some (.isi m ty) else none
                | _, _ => none
              else none
            | _ => none
          else match biOf x, cpL (cp T N n B sc) (a :: as) with
            | some b, some m => some (.bi b m)
            | _, _ => none
        else if T.mth.contains x then match mbOf x, cpL (cp T N n B sc) (a :: as) with
            | some b, some m => some (.bi b m)
            | _, _ => none
        else none
      else none
    | .Call (.Attribute o m ap) as [] p => if noSuper o && (ap.endLine == p.line) && decide (as.length < 20) then match mtOf m, cp T N n B sc o, cpL (cp T N n B sc) as with
        | some k, some x, some xs => some (.mth k x xs)
        | _, _, _ => none
      else none
    | .Subscript a (.Slice lo hi none _) _ => match cp T N n B sc a, (match lo with
        | none => some .nil
        | some l => (cp T N n B sc l).map fun m => .cons m .nil), (match hi with
        | none => some .nil
        | some h => (cp T N n B sc h).map fun m => .cons m .nil) with
      | some x, some l, some h => some (.slc x l h)
      | _, _, _ => none
    | .Subscript a b _ => if noSlice b then match cp T N n B sc a, cp T N n B sc b with
        | some x, some y => some (.idx x y)
        | _, _ => none
      else none
    | .Tuple es _ _ => (cpL (cp T N n B sc) es).map .tup
    | .List es _ => (cpL (cp T N n B sc) es).map .lst
    | .ListComp elt [⟨tg, it, ifs, a⟩] scope _ => if blkC N sc scope (ownOf N tg) && decide (ifs.length ≤ 1) && decide (a = 0) then
        match cpI T sc (cp T N n B sc) it, cpT N true (relS scope sc) tg, cp T N n true (relS scope sc) elt, cpL (cp T N n true (relS scope sc)) ifs with
        | some (k, as), some t, some m, some fs => some (.lc m ((ownOf N tg).map (·.2)) t k as fs)
        | _, _, _, _ => none
      else none
    | _ => none
/-- a store of a comprehension's list to a plain local name goes another way -/
def swB (sc : Scope) (e : Expr) (x : Str) (p : Pos) : Bool := match e with
  | .ListComp _ _ scope pos => decide (sc.names.lookup x = some .local) && (p.line == pos.line) && !(scope.names.any fun (n, k) => n == x && (k == .local || k == .cell))
  | _ => false
/-- `x, y = a, b` over two locals -/
def parOf (sc : Scope) : List Expr → Expr → Option (Str × Str × Expr × Expr)
  | [.Name x px, .Name y py], .Tuple [a, b] _ _ =>
    if loc true sc x && loc true sc y && decide (px.line = py.line) && !(x == y) && noStar a && noStar b && !(foldedForSure 8 a && foldedForSure 8 b) && !(constantsAlone 8 a && constantsAlone 8 b) then some (x, y, a, b) else none
  | _, _ => none
def cpS (T : Tb) (N : List Str) (n : Nat) : Nat → Scope → Stmt → Option Sm
  | 0, _, _ => none
  | q + 1, sc, s =>
    let c := cp T N n false sc
    let body : List Stmt → Option Sms := fun l => l.foldr (fun s r => match cpS T N n q sc s, r with
      | some a, some b => some (.cons a b)
      | _, _ => none) (some .nil)
    match s with
    | .Pass _ => some .pass
    | .Break _ => some .brk
    | .Continue _ => some .cnt
    | .Expr e _ => if noComp e then (c e).map .expr else none
    | .Return (some e) _ => (c e).map .ret
    | .Return none _ => some .retn
    | .Assign [.Name x p] e _ => match cpT N false sc (.Name x p), c e with
      | some t, some m => some (.asg t m)
      | _, _ => none
    | .Assign [.Tuple ts k p] e _ => match parOf sc ts e with
      | some (x, y, a, b) => match slot N x, slot N y, c a, c b with
        | some i, some j, some m, some m' => some (.par i j m m')
        | _, _, _, _ => none
      | none => if noTuple e && noComp e then match cpT N false sc (.Tuple ts k p), c e with
        | some t, some m => some (.asg t m)
        | _, _ => none
      else none
    | .Assign [.Subscript o i _] e _ => if noSlice i && noComp e then match c o, c i, c e with
        | some x, some y, some z => some (.seti x y z)
        | _, _, _ => none
      else none
    | .AugAssign (.Name x _) op e _ => if loc false sc x then match slot N x, auOf op, c e with
        | some i, some o, some m => some (.aug i o m)
        | _, _, _ => none
      else none
    | .If e a b _ => match c e, body a, body b with
      | some m, some x, some y => some (.iff m x y)
      | _, _, _ => none
    | .For tg it b [] _ => match cpI T sc c it, cpT N false sc tg, body b with
      | some (k, as), some t, some y => some (.for t k as y)
      | _, _, _ => none
    | .While e b [] _ => match c e, body b with
      | some m, some y => some (.whl m y)
      | _, _ => none
    | _ => none
def cpB (T : Tb) (N : List Str) (n q : Nat) (sc : Scope) (l : List Stmt) : Option Sms := l.foldr (fun s r => match cpS T N n q sc s, r with
      | some a, some b => some (.cons a b)
      | _, _ => none) (some .nil)
end Mx
set_option Elab.async false
set_option linter.all false
set_option maxRecDepth 100000
set_option maxHeartbeats 6500000
/-! the machine's data in the layer's heap -/
namespace Mx
open L2 PySem PySem.Spec PyProof.Rows
def fx : HO → Bool
  | .tup _ => true
  | .frz _ _ => true
  | _ => false
def Le (φ : List Addr) (H : Hp) (φ' : List Addr) (H' : Hp) : Prop := (∃ l, φ' = φ ++ l) ∧ ∀ a o, fx o = true → H a = some o → H' a = some o
theorem Le.refl (φ : List Addr) (H : Hp) : Le φ H φ H := ⟨⟨[], by simp⟩, fun _ _ _ h => h⟩
theorem Le.trans {φ φ1 φ2 : List Addr} {H H1 H2 : Hp} (a : Le φ H φ1 H1) (b : Le φ1 H1 φ2 H2) : Le φ H φ2 H2 := by
  obtain ⟨⟨l, rfl⟩, ha⟩ := a
  obtain ⟨⟨m, rfl⟩, hb⟩ := b
  exact ⟨⟨l ++ m, by simp⟩, fun c o h e => hb c o h (ha c o h e)⟩
theorem Le.get {φ φ' : List Addr} {H H' : Hp} (a : Le φ H φ' H') {i : Nat} {x : Addr} (h : φ[i]? = some x) : φ'[i]? = some x := by
  obtain ⟨⟨l, rfl⟩, _⟩ := a
  rw [List.getElem?_append_left (List.getElem?_eq_some_iff.mp h).1]
  exact h
theorem Le.heap {φ : List Addr} {H H' : Hp} (h : ∀ a o, fx o = true → H a = some o → H' a = some o) : Le φ H φ H' := ⟨⟨[], by simp⟩, h⟩
theorem Le.new {φ : List Addr} {H : Hp} {p : Addr} {o : HO} (n : H p = none) : Le φ H φ (upd H p o) := .heap fun a u _ e => by
  rw [upd_ne (ne_of_none e n)]
  exact e
theorem Le.mut {φ : List Addr} {H : Hp} {p : Addr} {xs : List V} {o : HO} (n : H p = some (.lst xs)) : Le φ H φ (upd H p o) := .heap fun a u f e => by
  rw [upd_ne (ne_of e n (by intro z; subst z; cases f))]
  exact e
theorem Le.more {φ : List Addr} {H : Hp} (l : List Addr) : Le φ H (φ ++ l) H := ⟨⟨l, rfl⟩, fun _ _ _ h => h⟩
section
variable (K : PySem.W.Frag) (ca : Nat → Addr)
theorem sqT_le {φ φ' : List Addr} {H H' : Hp} {a : Addr} {xs : List V} (e : Le φ H φ' H') (h : SqT K H a xs) : SqT K H' a xs := by
  (rcases h with (h | ⟨o, h⟩) | h)
  · exact .inl (.inl (e.2 _ _ rfl h))
  · exact .inl (.inr ⟨o, e.2 _ _ rfl h⟩)
  · exact .inr h
mutual
inductive RV (φ : List Addr) (H : Hp) : D → V → Prop
  | non : RV φ H .non .non
  | bl (b : Bool) : RV φ H (.bl b) (.bl b)
  | int (i : Int) : RV φ H (.int i) (.int i)
  | str (x : Str) : RV φ H (.str x) (.str x)
  | tup {a : Addr} {xs : List V} {l : List D} : SqT K H a xs → RVs φ H l xs → RV φ H (.tup l) (.ref a)
  | ref {i : Nat} {a : Addr} : φ[i]? = some a → RV φ H (.ref i) (.ref a)
inductive RVs (φ : List Addr) (H : Hp) : List D → List V → Prop
  | nil : RVs φ H [] []
  | cons {d : D} {v : V} {ds : List D} {vs : List V} : RV φ H d v → RVs φ H ds vs → RVs φ H (d :: ds) (v :: vs)
end
variable {K ca}
mutual
theorem RV.mono {φ φ' : List Addr} {H H' : Hp} (e : Le φ H φ' H') : ∀ {d : D} {v : V}, RV K φ H d v → RV K φ' H' d v
  | _, _, .non => .non
  | _, _, .bl b => .bl b
  | _, _, .int i => .int i
  | _, _, .str x => .str x
  | _, _, .tup s r => .tup (sqT_le K e s) (RVs.mono e r)
  | _, _, .ref h => .ref (e.get h)
theorem RVs.mono {φ φ' : List Addr} {H H' : Hp} (e : Le φ H φ' H') : ∀ {ds : List D} {vs : List V}, RVs K φ H ds vs → RVs K φ' H' ds vs
  | _, _, .nil => .nil
  | _, _, .cons r t => .cons (r.mono e) (RVs.mono e t)
end
theorem RVs.length {φ : List Addr} {H : Hp} : ∀ {ds : List D} {vs : List V}, RVs K φ H ds vs → ds.length = vs.length
  | _, _, .nil => rfl
  | _, _, .cons _ t => congrArg (· + 1) (RVs.length t)
theorem RVs.get {φ : List Addr} {H : Hp} : ∀ {ds : List D} {vs : List V} {i : Nat} {d : D}, RVs K φ H ds vs → ds[i]? = some d → ∃ v, vs[i]? = some v ∧ RV K φ H d v
  | _, _, _, _, .nil, e => (by simp at e)
  | _, _, 0, _, .cons r _, e => (by simp at e; subst e; exact ⟨_, rfl, r⟩)
  | _, _, i + 1, d, .cons _ t, e => by
    obtain ⟨v, h1, h2⟩ := RVs.get (i := i) (d := d) t (by simpa using e)
    exact ⟨v, by simpa using h1, h2⟩
theorem RVs.append {φ : List Addr} {H : Hp} : ∀ {ds es : List D} {vs us : List V}, RVs K φ H ds vs → RVs K φ H es us → RVs K φ H (ds ++ es) (vs ++ us)
  | _, _, _, _, .nil, s => s
  | _, _, _, _, .cons r t, s => .cons r (RVs.append t s)
theorem RVs.take {φ : List Addr} {H : Hp} : ∀ {ds : List D} {vs : List V} (n : Nat), RVs K φ H ds vs → RVs K φ H (ds.take n) (vs.take n)
  | _, _, 0, _ => .nil
  | _, _, _ + 1, .nil => .nil
  | _, _, n + 1, .cons r t => .cons r (RVs.take n t)
theorem RVs.drop {φ : List Addr} {H : Hp} : ∀ {ds : List D} {vs : List V} (n : Nat), RVs K φ H ds vs → RVs K φ H (ds.drop n) (vs.drop n)
  | _, _, 0, r => r
  | _, _, _ + 1, .nil => .nil
  | _, _, n + 1, .cons _ t => RVs.drop n t
theorem RVs.set {φ : List Addr} {H : Hp} {x : D} {v : V} (r : RV K φ H x v) : ∀ {ds : List D} {vs : List V} (i : Nat), RVs K φ H ds vs → RVs K φ H (ds.set i x) (vs.set i v)
  | _, _, _, .nil => .nil
  | _, _, 0, .cons _ t => (.cons r t)
  | _, _, i + 1, .cons q t => .cons q (RVs.set r i t)
theorem RVs.dropLast {φ : List Addr} {H : Hp} : ∀ {ds : List D} {vs : List V}, RVs K φ H ds vs → RVs K φ H ds.dropLast vs.dropLast
  | _, _, .nil => .nil
  | _, _, .cons r .nil => .nil
  | _, _, .cons r (.cons q t) => .cons r (RVs.dropLast (.cons q t))
theorem RVs.rep {φ : List Addr} {H : Hp} {ds : List D} {vs : List V} (h : RVs K φ H ds vs) : ∀ k : Nat, RVs K φ H (List.replicate k ds).flatten (List.replicate k vs).flatten
  | 0 => .nil
  | k + 1 => by
    simp only [List.replicate_succ, List.flatten_cons]
    exact h.append (RVs.rep h k)
theorem RVs.isEmpty {φ : List Addr} {H : Hp} {ds : List D} {vs : List V} (h : RVs K φ H ds vs) : ds.isEmpty = vs.isEmpty := by
  cases h <;> rfl
theorem RVs.atI {φ : List Addr} {H : Hp} {ds : List D} {vs : List V} (h : RVs K φ H ds vs) {i : Int} {d : D} (e : L2.atI ds i = some d) : ∃ v, L2.atI vs i = some v ∧ RV K φ H d v := by
  unfold L2.atI at e ⊢
  rw [← h.length]
  cases q : ixN ds.length i with
  | none => (rw [q] at e; cases e)
  | some j =>
    rw [q] at e
    exact h.get e
theorem RVs.cut {φ : List Addr} {H : Hp} {ds : List D} {vs : List V} (h : RVs K φ H ds vs) (lo hi : Option Int) : RVs K φ H (cutD ds lo hi) (cutV vs lo hi) := by
  unfold cutD cutV
  rw [← h.length]
  exact (h.drop _).take _
theorem RVs.ints {φ : List Addr} {H : Hp} : ∀ {ds : List D} {vs : List V} {ns : List Int}, RVs K φ H ds vs → intL ds = some ns → vs = ns.map V.int
  | [], _, ns, h, e => by
    cases h
    cases e
    rfl
  | .int i :: ds, _, ns, h, e => by
    cases h with
    | cons r t =>
      cases r
      simp only [intL, Option.map_eq_some_iff] at e
      obtain ⟨ms, e1, rfl⟩ := e
      rw [RVs.ints t e1]
      rfl
  | .non :: _, _, _, _, e => by cases e
  | .bl _ :: _, _, _, _, e => by cases e
  | .str _ :: _, _, _, _, e => by cases e
  | .tup _ :: _, _, _, _, e => by cases e
  | .ref _ :: _, _, _, _, e => by cases e
variable (K ca)
/-- a list that is only read: the script -/
def FzL (H : Hp) (a : Addr) (xs : List V) : Prop := SqL K (fun _ => none) a xs ∨ ∃ o, H a = some (.frz o (.lst xs))
def RFs (φ : List Addr) (H : Hp) (fs : List (Str × D)) (xs : List (Str × V)) : Prop := xs.map (·.1) = fs.map (·.1) ∧ RVs K φ H (fs.map (·.2)) (xs.map (·.2))
def RO (φ : List Addr) (H : Hp) (a : Addr) : Ob → Prop
  | .lst l => ∃ xs, H a = some (.lst xs) ∧ RVs K φ H l xs
  | .frz l => ∃ xs, FzL K H a xs ∧ RVs K φ H l xs
  | .ins c fs => ∃ dx xs, H a = some (.ins (ca c) dx xs) ∧ RFs K φ H fs xs
def isM : Ob → Bool
  | .frz _ => false
  | _ => true
structure RS (φ : List Addr) (H : Hp) (S : Sto) : Prop where
  len : φ.length = S.length
  ob : ∀ (i : Nat) (o : Ob) (a : Addr), S[i]? = some o → φ[i]? = some a → RO K ca φ H a o
  inj : ∀ (i j : Nat) (o u : Ob) (a : Addr), S[i]? = some o → S[j]? = some u → isM o = true → isM u = true → φ[i]? = some a → φ[j]? = some a → i = j
def RE (φ : List Addr) (H : Hp) (ρ : Rho) (σ : L2.St) : Prop := ρ.length = σ.length ∧ ∀ (i : Nat) (d : D), ρ[i]? = some (some d) → ∃ v, σ[i]? = some (some v) ∧ RV K φ H d v
def RX (φ : List Addr) (H : Hp) (x : Exn) (c : Value) (dd : Option Addr) : Prop := c = .ref (ca x.c) ∧ ∃ dx xs, dd = some dx ∧ H dx = some (.xd xs) ∧ RFs K φ H x.fs xs
variable {K ca}
section
variable {φ φ' : List Addr} {H H' : Hp} {S : Sto} {ρ : Rho} {σ : L2.St}
theorem FzL.seq {a : Addr} {xs : List V} (h : FzL K H a xs) : SqL K H a xs := by
  rcases h with h | ⟨o, h⟩
  · rcases h with (h | ⟨o, h⟩) | h
    · cases h
    · cases h
    · exact .inr h
  · exact .inl (.inr ⟨o, h⟩)
theorem FzL.mono (e : Le φ H φ' H') {a : Addr} {xs : List V} (h : FzL K H a xs) : FzL K H' a xs := by
  rcases h with h | ⟨o, h⟩
  · exact .inl h
  · exact .inr ⟨o, e.2 _ _ rfl h⟩
theorem RE.mono (h : RE K φ H ρ σ) (e : Le φ H φ' H') : RE K φ' H' ρ σ := ⟨h.1, fun i d q => by
  obtain ⟨v, h1, h2⟩ := h.2 i d q
  exact ⟨v, h1, h2.mono e⟩⟩
theorem RE.set (h : RE K φ H ρ σ) (i : Nat) {d : D} {v : V} (r : RV K φ H d v) : RE K φ H (ρ.set i (some d)) (σ.set i (some v)) := by
  refine ⟨by simp [h.1], fun j d' q => ?_⟩
  by_cases e : i = j
  · subst e
    have hl : i < ρ.length := by
      have := (List.getElem?_eq_some_iff.mp q).1
      simpa using this
    rw [List.getElem?_set_self hl] at q
    cases q
    exact ⟨v, List.getElem?_set_self (by rw [← h.1]; exact hl), r⟩
  · rw [List.getElem?_set_ne e] at q ⊢
    exact h.2 j d' q
theorem RE.drop (h : RE K φ H ρ σ) (i : Nat) : RE K φ H (ρ.set i none) (σ.set i none) := by
  refine ⟨by simp [h.1], fun j d' q => ?_⟩
  by_cases e : i = j
  · subst e
    have hl : i < ρ.length := by
      have := (List.getElem?_eq_some_iff.mp q).1
      simpa using this
    rw [List.getElem?_set_self hl] at q
    cases q
  · rw [List.getElem?_set_ne e] at q ⊢
    exact h.2 j d' q
theorem RE.wipe (h : RE K φ H ρ σ) : ∀ l : List Nat, RE K φ H (wipeD ρ l) (L2.wipe σ l)
  | [] => h
  | i :: l => (RE.wipe h l).drop i
theorem RS.at (h : RS K ca φ H S) {i : Nat} {o : Ob} (e : S[i]? = some o) : ∃ a, φ[i]? = some a ∧ RO K ca φ H a o := by
  have hl : i < φ.length := by rw [h.len]; exact (List.getElem?_eq_some_iff.mp e).1
  exact ⟨φ[i], List.getElem?_eq_getElem hl, h.ob i o _ e (List.getElem?_eq_getElem hl)⟩
theorem RS.lst (h : RS K ca φ H S) {i : Nat} {l : List D} {a : Addr} (e : lstOf S i = some l) (hi : φ[i]? = some a) : ∃ xs, SqL K H a xs ∧ RVs K φ H l xs := by
  unfold lstOf at e
  split at e
  · rename_i m q
    cases e
    obtain ⟨xs, h1, h2⟩ := h.ob _ _ _ q hi
    exact ⟨xs, .of h1, h2⟩
  · rename_i m q
    cases e
    obtain ⟨xs, h1, h2⟩ := h.ob _ _ _ q hi
    exact ⟨xs, h1.seq, h2⟩
  · cases e
theorem mutOf_at {i : Nat} {l : List D} (e : mutOf S i = some l) : S[i]? = some (.lst l) := by
  unfold mutOf at e
  split at e
  · rename_i m q
    cases e
    exact q
  · cases e
theorem RS.mut (h : RS K ca φ H S) {i : Nat} {l : List D} {a : Addr} (e : mutOf S i = some l) (hi : φ[i]? = some a) : ∃ xs, H a = some (.lst xs) ∧ RVs K φ H l xs := h.ob _ _ _ (mutOf_at e) hi
theorem RO.mono_at {a : Addr} {o : Ob} (e : Le φ H φ' H') (k : isM o = true → H' a = H a) (h : RO K ca φ H a o) : RO K ca φ' H' a o := by
  cases o with
  | lst l => obtain ⟨xs, h1, h2⟩ := h; exact ⟨xs, (k rfl).trans h1, h2.mono e⟩
  | frz l => obtain ⟨xs, h1, h2⟩ := h; exact ⟨xs, h1.mono e, h2.mono e⟩
  | ins c fs => obtain ⟨dx, xs, h1, h2, h3⟩ := h; exact ⟨dx, xs, (k rfl).trans h1, h2, h3.mono e⟩
theorem RO.some {a : Addr} {o : Ob} (h : RO K ca φ H a o) (m : isM o = true) : ∃ u, H a = some u := by
  cases o with
  | lst l => obtain ⟨xs, h1, _⟩ := h; exact ⟨_, h1⟩
  | frz l => cases m
  | ins c fs => obtain ⟨dx, xs, h1, _⟩ := h; exact ⟨_, h1⟩
/-- an untracked new object -/
theorem RS.new (h : RS K ca φ H S) {p : Addr} {u : HO} (n : H p = none) : RS K ca φ (upd H p u) S := by
  refine ⟨h.len, fun i o a e ha => ?_, h.inj⟩
  have q := h.ob i o a e ha
  refine q.mono_at (Le.new n) fun m => ?_
  obtain ⟨v, hv⟩ := q.some m
  rw [upd_ne (ne_of_none hv n)]
/-- a new object that is tracked from now on -/
theorem RS.add (h : RS K ca φ H S) {p : Addr} {u : HO} {o : Ob} (n : H p = none) (m : isM o = true) (r : RO K ca φ (upd H p u) p o) : RS K ca (φ ++ [p]) (upd H p u) (S ++ [o]) := by
  have le : Le φ (upd H p u) (φ ++ [p]) (upd H p u) := Le.more [p]
  have old : ∀ (i : Nat) (o' : Ob) (a : Addr), S[i]? = Option.some o' → φ[i]? = Option.some a → isM o' = true → a ≠ p := fun i o' a e ha m' z => by
    obtain ⟨v, hv⟩ := (h.ob i o' a e ha).some m'
    rw [z, n] at hv
    cases hv
  refine ⟨by simp [h.len], fun i o' a e ha => ?_, fun i j o1 o2 a e1 e2 m1 m2 a1 a2 => ?_⟩
  · by_cases hi : i < S.length
    · rw [List.getElem?_append_left hi] at e
      rw [List.getElem?_append_left (by rw [h.len]; exact hi)] at ha
      exact ((h.new n).ob i o' a e ha).mono_at le fun _ => rfl
    · have hl := (List.getElem?_eq_some_iff.mp e).1
      have hi' : i = S.length := by simp at hl; omega
      subst hi'
      rw [List.getElem?_append_right (Nat.le_refl _)] at e
      rw [← h.len, List.getElem?_append_right (Nat.le_refl _)] at ha
      simp at e ha
      subst e ha
      exact r.mono_at le fun _ => rfl
  · have key : ∀ (i : Nat) (o' : Ob), (S ++ [o])[i]? = Option.some o' → isM o' = true → (φ ++ [p])[i]? = Option.some a → (i < S.length ∧ S[i]? = Option.some o' ∧ φ[i]? = Option.some a) ∨ (i = S.length ∧ a = p) := fun i o' e m' ha => by
      by_cases hi : i < S.length
      · rw [List.getElem?_append_left hi] at e
        rw [List.getElem?_append_left (by rw [h.len]; exact hi)] at ha
        exact .inl ⟨hi, e, ha⟩
      · have hl := (List.getElem?_eq_some_iff.mp e).1
        have hi' : i = S.length := by simp at hl; omega
        subst hi'
        rw [← h.len, List.getElem?_append_right (Nat.le_refl _)] at ha
        simp at ha
        exact .inr ⟨rfl, ha.symm⟩
    rcases key i o1 e1 m1 a1 with ⟨_, x1, y1⟩ | ⟨x1, y1⟩ <;> rcases key j o2 e2 m2 a2 with ⟨_, x2, y2⟩ | ⟨x2, y2⟩
    · exact h.inj i j o1 o2 a x1 x2 m1 m2 y1 y2
    · exact absurd y2 (old i o1 a x1 y1 m1)
    · exact absurd y1 (old j o2 a x2 y2 m2)
    · omega
theorem RS.addL (h : RS K ca φ H S) {p : Addr} {xs : List V} {l : List D} (n : H p = none) (r : RVs K φ H l xs) : RS K ca (φ ++ [p]) (upd H p (.lst xs)) (S ++ [.lst l]) :=
  h.add n rfl ⟨xs, upd_same, r.mono (Le.new n)⟩
theorem Le.add {p : Addr} {u : HO} (n : H p = none) : Le φ H (φ ++ [p]) (upd H p u) := (Le.new n).trans (Le.more [p])
/-- a list is written -/
theorem RS.put (h : RS K ca φ H S) {i : Nat} {a : Addr} {l m : List D} {xs ys : List V} (e : S[i]? = some (.lst l)) (ha : φ[i]? = some a) (hx : H a = some (.lst xs)) (r : RVs K φ H m ys) :
    RS K ca φ (upd H a (.lst ys)) (S.set i (.lst m)) := by
  have le : Le φ H φ (upd H a (.lst ys)) := Le.mut hx
  have hi : i < S.length := (List.getElem?_eq_some_iff.mp e).1
  refine ⟨by simp [h.len], fun j o b q hb => ?_, fun j k o u b e1 e2 m1 m2 b1 b2 => ?_⟩
  · by_cases hj : i = j
    · subst hj
      rw [List.getElem?_set_self hi] at q
      cases q
      rw [ha] at hb
      cases hb
      exact ⟨ys, upd_same, r.mono le⟩
    · rw [List.getElem?_set_ne hj] at q
      refine (h.ob j o b q hb).mono_at le fun m => upd_ne fun z => hj ?_
      subst z
      exact h.inj i j _ o _ e q rfl m ha hb
  · have key : ∀ (j : Nat) (o : Ob), (S.set i (.lst m))[j]? = some o → isM o = true → ∃ o' : Ob, S[j]? = some o' ∧ isM o' = true := fun j o q mo => by
      by_cases hj : i = j
      · subst hj
        exact ⟨_, e, rfl⟩
      · rw [List.getElem?_set_ne hj] at q
        exact ⟨o, q, mo⟩
    obtain ⟨o1, x1, y1⟩ := key j o e1 m1
    obtain ⟨o2, x2, y2⟩ := key k u e2 m2
    exact h.inj j k o1 o2 b x1 x2 y1 y2 b1 b2
end
end
end Mx
set_option Elab.async false
set_option linter.all false
set_option maxRecDepth 100000
set_option maxHeartbeats 6500000
set_option exponentiation.threshold 5000
/-! the operations, over the layer's rules -/
namespace Mx
open L2 PySem PySem.Spec PyProof.Rows
section
variable {K : PySem.W.Frag} {ca : Nat → Addr} {φ φ' : List Addr} {H H' : Hp} {S S' : Sto} {ρ : Rho} {σ : L2.St}
theorem lim_line : LIM ≤ sizeLine := by rw [sizeLine_eq]; unfold LIM; decide
theorem lim_lt {n : Nat} (h : n < LIM) : n < sizeLine := Nat.lt_of_lt_of_le h lim_line
theorem lim_le {n : Nat} (h : n ≤ LIM) : n ≤ sizeLine := Nat.le_trans h lim_line
mutual
theorem RV.dp (f : Nat → Option PyData) (hf : ∀ i a x, φ[i]? = some a → f i = some x → Dp K H (.ref a) x) : ∀ {d : D} {v : V} {x : PyData}, RV K φ H d v → pdW f d = some x → Dp K H v x
  | _, _, _, .non, e => by cases e; exact .non
  | _, _, _, .bl b, e => by cases e; exact .bl b
  | _, _, _, .int i, e => by cases e; exact .int i
  | _, _, _, .str x, e => by cases e; exact .str x
  | _, _, _, .tup s r, e => by
    simp only [pdW, Option.map_eq_some_iff] at e
    obtain ⟨xs, e1, rfl⟩ := e
    exact .tup s (RVs.dp f hf r e1)
  | _, _, _, .ref h, e => hf _ _ _ h e
theorem RVs.dp (f : Nat → Option PyData) (hf : ∀ i a x, φ[i]? = some a → f i = some x → Dp K H (.ref a) x) : ∀ {ds : List D} {vs : List V} {xs : List PyData}, RVs K φ H ds vs → pdWs f ds = some xs → DpAll K H vs xs
  | _, _, _, .nil, e => by cases e; exact .nil
  | _, _, _, .cons r t, e => by
    simp only [pdWs] at e
    split at e
    · rename_i x xs e1 e2
      cases e
      exact .cons (RV.dp f hf r e1) (RVs.dp f hf t e2)
    · cases e
end
theorem RS.dp (h : RS K ca φ H S) : ∀ (n : Nat) {d : D} {v : V} {x : PyData}, RV K φ H d v → pdN n S d = some x → Dp K H v x
  | 0, _, _, _, r, e => r.dp _ (fun _ _ _ _ z => by cases z) e
  | n + 1, _, _, _, r, e => r.dp _ (fun i a x ha z => by
      split at z
      · rename_i l q
        obtain ⟨xs, h1, h2⟩ := h.lst q ha
        simp only [Option.map_eq_some_iff] at z
        obtain ⟨ys, e1, rfl⟩ := z
        refine .lst h1 ?_
        have go : ∀ {l : List D} {xs : List V} {ys : List PyData}, RVs K φ H l xs → mapO (pdN n S) l = some ys → DpAll K H xs ys := by
          intro l
          induction l with
          | nil => intro xs ys r e; cases r; cases e; exact .nil
          | cons d ds ih =>
            intro xs ys r e
            cases r with
            | cons r1 r2 =>
              simp only [mapO] at e
              split at e
              · rename_i y ys' e1 e2
                cases e
                exact .cons (RS.dp h n r1 e1) (ih r2 e2)
              · cases e
        exact go h2 e1
      · cases z) e
/-- what comes of it: as was asked -/
def Go (K : PySem.W.Frag) (ca : Nat → Addr) (E : XK) (φ : List Addr) (H : Hp) (r : Rs D) (Q : VK) : Prop := match r with
  | .ok d S' => ∀ φ' H' v, Le φ H φ' H' → RS K ca φ' H' S' → RV K φ' H' d v → Q v H'
  | .er x S' => ∀ φ' H' c dd, Le φ H φ' H' → RS K ca φ' H' S' → RX K ca φ' H' x c dd → E c dd H'
theorem Go.mono {E : XK} {r : Rs D} {Q : VK} (h : Go K ca E φ H r Q) (e : Le φ H φ' H') : Go K ca E φ' H' r Q := by
  cases r with
  | ok d S' => exact fun φ2 H2 v le => h φ2 H2 v (e.trans le)
  | er x S' => exact fun φ2 H2 c dd le => h φ2 H2 c dd (e.trans le)
variable {X : Cx} {E : XK}
/-- a rule of two values, from the machine's step -/
def rM2 (K : PySem.W.Frag) (ca : Nat → Addr) (E : XK) (f : D → D → Sto → Option (D × Sto)) : R2 := fun x y H Q => ∃ φ S d1 d2 d S', RS K ca φ H S ∧ RV K φ H d1 x ∧ RV K φ H d2 y ∧ f d1 d2 S = some (d, S') ∧ Go K ca E φ H (.ok d S') Q
theorem wid_log {n : Nat} (h : n < WID) : n.log2 < 9000 := by
  have h' : n < 2 ^ 4000 := h
  have := PySem.Flt.log2_lt_of (by decide : 0 < 4000) h'
  omega
theorem wid_mul {i j : Int} (h1 : i.natAbs < WID) (h2 : j.natAbs < WID) : CMulW i j := wide_mul (a := 4000) (b := 4000) h1 h2 (by decide) (by decide) (by decide)
theorem op_fdivX : OpR X (binaryOp .FloorDiv) (rI (fun _ j => j ≠ 0 ∧ j.natAbs < WID) fun i j => .int (i.fdiv j)) := opI fun _ _ _ _ _ _ _ hc q =>
  floordiv_int hc.1 q (.inl (PyProof.noPylong_of_log2 (wid_log hc.2)))
def opOf : B2 → Operator
  | .add => .Add | .sub => .Sub | .mul => .Mult | .fdiv => .FloorDiv | .mod => .Mod | .pow => .Pow | .shl => .LShift
theorem op2_ok (hK : X.K = K) (o : B2) : OpR X (binaryOp (opOf o)) (rM2 K ca E (op2 o)) := by
  subst hK
  intro pins s σ H; intro x y v u Q I rx ry h
  obtain ⟨φ, S, d1, d2, d, S', rs, r1, r2, e, go⟩ := h
  have nums : ∀ {z : Int}, .int z = d → S = S' → Q (.int z) H := fun {z} a b => by subst a b; exact go φ H _ (Le.refl _ _) rs (.int z)
  unfold op2 at e
  split at e
  · -- int + int
    cases r1; cases r2; cases e
    exact op_add pins s σ H _ _ v u Q I rx ry ⟨_, _, rfl, rfl, nums rfl rfl⟩
  · -- tuple + tuple
    rename_i l1 l2
    split at e
    · rename_i hz
      cases e
      cases r1 with
      | @tup a xs _ s1 t1 =>
        cases r2 with
        | @tup b ys _ s2 t2 =>
          refine op_catA pins s σ H _ _ v u Q I rx ry ⟨a, b, xs, ys, rfl, rfl, s1, s2, by rw [← t1.length, ← t2.length]; exact lim_le hz, fun ex => ?_, fun _ ey => ?_, fun _ _ p np => ?_⟩
          · subst ex
            have e1 : l1 = [] := by cases t1; rfl
            subst e1
            exact go φ H _ (Le.refl _ _) rs (.tup s2 t2)
          · subst ey
            have e2 : l2 = [] := by cases t2; rfl
            subst e2
            rw [List.append_nil] at go
            exact go φ H _ (Le.refl _ _) rs (.tup s1 t1)
          · have le : Le φ H φ (upd H p (.tup (xs ++ ys))) := Le.new np
            exact go φ _ _ le (rs.new np) (.tup (.of upd_same) ((t1.append t2).mono le))
    · cases e
  · -- list + list
    rename_i i j
    split at e
    · rename_i l1 l2 h1 h2
      split at e
      · rename_i hz
        cases e
        cases r1 with
        | ref ha =>
          cases r2 with
          | ref hb =>
            obtain ⟨xs, x1, y1⟩ := rs.mut h1 ha
            obtain ⟨ys, x2, y2⟩ := rs.mut h2 hb
            refine op_cat pins s σ H _ _ v u Q I rx ry ⟨_, _, xs, ys, rfl, rfl, x1, x2, by rw [← y1.length, ← y2.length]; exact lim_le hz, fun p np => ?_⟩
            refine go (φ ++ [p]) _ _ (Le.add np) (rs.addL np (y1.append y2)) (.ref ?_)
            rw [← rs.len]
            simp
      · cases e
    · cases e
  · -- int - int
    cases r1; cases r2; cases e
    exact op_sub pins s σ H _ _ v u Q I rx ry ⟨_, _, rfl, rfl, nums rfl rfl⟩
  · -- int * int
    split at e
    · rename_i hz
      cases r1; cases r2; cases e
      exact op_mulW pins s σ H _ _ v u Q I rx ry ⟨_, _, rfl, rfl, wid_mul hz.1 hz.2, nums rfl rfl⟩
    · cases e
  · -- list * int
    split at e
    · rename_i l h1
      split at e
      · rename_i hz
        cases e
        cases r2
        cases r1 with
        | ref ha =>
          obtain ⟨xs, x1, y1⟩ := rs.mut h1 ha
          have hn : LIM < 2 ^ 63 := by unfold LIM; decide
          refine op_rep pins s σ H _ _ v u Q I rx ry ⟨_, _, xs, rfl, rfl, x1, by omega, by omega, by rw [← y1.length]; exact lim_le hz.1, fun p np => ?_⟩
          refine go (φ ++ [p]) _ _ (Le.add np) (rs.addL np (y1.rep _)) (.ref ?_)
          rw [← rs.len]
          simp
      · cases e
    · cases e
  · -- int // int
    split at e
    · rename_i hz
      cases r1; cases r2; cases e
      exact op_fdivX pins s σ H _ _ v u Q I rx ry ⟨_, _, rfl, rfl, hz, nums rfl rfl⟩
    · cases e
  · split at e
    · rename_i hz
      cases r1; cases r2; cases e
      exact op_modN pins s σ H _ _ v u Q I rx ry ⟨_, _, rfl, rfl, hz, nums rfl rfl⟩
    · cases e
  · split at e
    · rename_i hz
      cases r1; cases r2; cases e
      exact op_pow pins s σ H _ _ v u Q I rx ry ⟨_, _, rfl, rfl, hz, nums rfl rfl⟩
    · cases e
  · split at e
    · rename_i hz
      cases r1; cases r2; cases e
      exact op_shl pins s σ H _ _ v u Q I rx ry ⟨_, _, rfl, rfl, hz, nums rfl rfl⟩
    · cases e
  · cases e
end
end Mx
set_option Elab.async false
set_option linter.all false
set_option maxRecDepth 100000
set_option maxHeartbeats 6500000
set_option exponentiation.threshold 5000
/-! comparisons, built-ins, methods, items, slices -/
namespace Mx
open L2 PySem PySem.Spec PyProof.Rows
section
variable {K : PySem.W.Frag} {ca : Nat → Addr} {φ φ' : List Addr} {H H' : Hp} {S S' : Sto} {ρ : Rho} {σ : L2.St} {X : Cx} {E : XK}
theorem eqD_some {a b : D} {c : Bool} (h : eqD S a b = some c) : ∃ x y, pdN 3 S a = some x ∧ pdN 3 S b = some y ∧ SeqAt.shaped x = true ∧ SeqAt.shaped y = true ∧ c = PyData.eqv x y := by
  unfold eqD at h
  split at h
  · rename_i x y h1 h2
    split at h
    · rename_i hs
      rw [Bool.and_eq_true] at hs
      cases h
      exact ⟨x, y, h1, h2, hs.1, hs.2, rfl⟩
    · cases h
  · cases h
theorem RS.seq (h : RS K ca φ H S) {d : D} {v : V} {l : List D} (r : RV K φ H d v) (e : seqOf S d = some l) : ∃ a xs, v = .ref a ∧ (SqL K H a xs ∨ SqT K H a xs) ∧ RVs K φ H l xs := by
  unfold seqOf at e
  split at e
  · cases e
    cases r with
    | tup s t => exact ⟨_, _, rfl, .inr s, t⟩
  · cases r with
    | ref ha =>
      obtain ⟨xs, h1, h2⟩ := h.lst e ha
      exact ⟨_, xs, rfl, .inl h1, h2⟩
  · cases e
theorem RS.tru (h : RS K ca φ H S) {d : D} {v : V} {b : Bool} (r : RV K φ H d v) (e : tru S d = some b) : TruV K v H b := by
  cases r with
  | non => cases e; rfl
  | bl c => cases e; rfl
  | int i => cases e; rfl
  | str x =>
    simp only [Mx.tru] at e
    split at e
    · rename_i hz
      cases e
      exact ⟨lim_le hz, rfl⟩
    · cases e
  | tup s t => cases e; exact .inr (.inl ⟨_, s, by rw [t.isEmpty]⟩)
  | ref ha =>
    simp only [Mx.tru, Option.map_eq_some_iff] at e
    obtain ⟨l, e1, rfl⟩ := e
    obtain ⟨xs, h1, h2⟩ := h.lst e1 ha
    exact .inl ⟨xs, h1, by rw [h2.isEmpty]⟩
/-! ### in -/
open Classical in
theorem isin_any (h : RS K ca φ H S) {pins : List (Addr × Obj)} {s : Shared} (hK : X.K = K) (hu : X.A.units + 100 < cLine) (I : Inv X pins σ H s) {a : D} {x : V} {u : Value} (ra : RV K φ H a x) (ru : L2.RelV x u) :
    ∀ {l : List D} {xs : List V} {us : List Value} {c : Bool}, isin S a l = some c → RVs K φ H l xs → Vals xs us → ∃ e : Value → Bool, (∀ y ∈ us, SeqAt.EqAt X.A.in1 s y u (e y)) ∧ us.any e = c := by
  subst hK
  intro l xs us c hc rl rv
  by_cases hl : l = []
  · subst hl
    cases rl
    cases rv
    cases hc
    exact ⟨fun _ => false, (fun y hy => by cases hy), rfl⟩
  · obtain ⟨dx, hdx, sdx⟩ : ∃ dx, pdN 3 S a = some dx ∧ SeqAt.shaped dx = true := by
      cases l with
      | nil => exact absurd rfl hl
      | cons d ds =>
        simp only [isin] at hc
        split at hc
        · rename_i b c' h1 h2
          obtain ⟨p, q, _, h4, _, h6, _⟩ := eqD_some h1
          exact ⟨q, h4, h6⟩
        · cases hc
    obtain ⟨ax, rx⟩ := Dp.reads I dx x u (h.dp 3 ra hdx) ru
    refine ⟨fun y => decide (∃ d as, Reads s.heap y d as ∧ PyData.eqv d dx = true), ?_⟩
    clear hl
    induction l generalizing xs us c with
    | nil =>
      cases rl
      cases rv
      cases hc
      exact ⟨(fun y hy => by cases hy), rfl⟩
    | cons d ds ih =>
      cases rl with
      | cons r1 r2 =>
        cases rv with
        | @cons _ u1 _ _ v1 v2 =>
          simp only [isin] at hc
          split at hc
          · rename_i b c' h1 h2
            cases hc
            obtain ⟨p, q, h3, h4, h5, h6, rfl⟩ := eqD_some h1
            rw [hdx] at h4
            cases h4
            obtain ⟨i1, i2⟩ := ih h2 r2 v2
            obtain ⟨ap, rp⟩ := Dp.reads I p _ _ (h.dp 3 r1 h3) v1
            have key : decide (∃ d as, Reads s.heap u1 d as ∧ PyData.eqv d dx = true) = PyData.eqv p dx := by
              cases q : PyData.eqv p dx with
              | true => exact decide_eq_true ⟨p, ap, rp, q⟩
              | false =>
                refine decide_eq_false fun ⟨d', as', r', z⟩ => ?_
                obtain ⟨e, _⟩ := PyProof.Rows.reads_det (fun _ _ e _ => e) rp r'
                rw [e, q] at z
                cases z
            refine ⟨fun y hy => ?_, ?_⟩
            · (rcases List.mem_cons.mp hy with rfl | hy)
              · have w := SeqAt.eqAt_reads p dx X.A.in1 s _ u ap ax rp rx (SeqAt.canLay_of_shaped h5) (SeqAt.canLay_of_shaped sdx) (by
                  have := SeqAt.depth_of_shaped h5
                  have h7 : min p.depth dx.depth ≤ p.depth := Nat.min_le_left _ _
                  show X.A.units + 1 + _ < cLine
                  omega)
                rw [← key] at w
                exact w
              · exact i1 y hy
            · rw [List.any_cons, i2, key]
          · cases hc
theorem in_ok (hK : X.K = K) (hu : X.A.units + 100 < cLine) (neg : Bool) : OpR X (compareOp (if neg then .NotIn else .In)) (fun x y H Q => ∃ φ S a d l c, RS K ca φ H S ∧ RV K φ H a x ∧ RV K φ H d y ∧ seqOf S d = some l ∧ isin S a l = some c ∧ Q (.bl (if neg then !c else c)) H) := by
  intro pins s σ H; intro x y v u Q I rx ry h
  obtain ⟨φ, S, a, d, l, c, rs, ra, rd, e1, e2, q⟩ := h
  obtain ⟨p, xs, rfl, hp, rl⟩ := rs.seq rd e1
  cases ry
  subst hK
  rcases hp with hp | hp
  · obtain ⟨its, rv, pl, hz⟩ := I.list hp
    obtain ⟨e, h1, h2⟩ := isin_any rs rfl hu I ra rx e2 rl rv
    cases neg with
    | false => exact SeqAt.in_listAt e pl.isList (fun y hy => h1 y (by simpa using hy)) ⟨.bl _, H, I, by simp [h2, L2.RelV], q⟩
    | true => exact SeqAt.notIn_listAt e pl.isList (fun y hy => h1 y (by simpa using hy)) ⟨.bl _, H, I, by simp [h2, L2.RelV], q⟩
  · obtain ⟨its, rv, pl, hz⟩ := I.tuple hp
    obtain ⟨e, h1, h2⟩ := isin_any rs rfl hu I ra rx e2 rl rv
    cases neg with
    | false => exact SeqAt.in_tupleAt e pl (fun y hy => h1 y (by simpa using hy)) ⟨.bl _, H, I, by simp [h2, L2.RelV], q⟩
    | true => exact SeqAt.notIn_tupleAt e pl (fun y hy => h1 y (by simpa using hy)) ⟨.bl _, H, I, by simp [h2, L2.RelV], q⟩
def cmOp : Cm → CmpOp
  | .eq => .Eq | .ne => .NotEq | .lt => .Lt | .le => .LtE | .gt => .Gt | .ge => .GtE | .is => .Is | .isnot => .IsNot | .isin => .In | .notin => .NotIn
def rC (K : PySem.W.Frag) (ca : Nat → Addr) (o : Cm) : R2 := fun x y H Q => ∃ φ S a b c, RS K ca φ H S ∧ RV K φ H a x ∧ RV K φ H b y ∧ cm2 o a b S = some c ∧ Q (.bl c) H
theorem cm2_ok (hK : X.K = K) (hu : X.A.units + 100 < cLine) (o : Cm) : OpR X (compareOp (cmOp o)) (rC K ca o) := by
  intro pins s σ H; intro x y v u Q I rx ry h
  obtain ⟨φ, S, a, b, c, rs, r1, r2, e, q⟩ := h
  have hu64 : X.A.units + 64 < cLine := by omega
  unfold cm2 at e
  split at e
  · obtain ⟨p, p', h1, h2, h3, h4, rfl⟩ := eqD_some e
    subst hK
    exact op_eqD hu64 pins s σ H x y v u Q I rx ry ⟨p, p', rs.dp 3 r1 h1, rs.dp 3 r2 h2, h3, h4, q⟩
  · simp only [Option.map_eq_some_iff] at e
    obtain ⟨c', e, rfl⟩ := e
    obtain ⟨p, p', h1, h2, h3, h4, rfl⟩ := eqD_some e
    subst hK
    exact op_neD hu64 pins s σ H x y v u Q I rx ry ⟨p, p', rs.dp 3 r1 h1, rs.dp 3 r2 h2, h3, h4, q⟩
  · cases r1; cases r2; cases e; exact op_lt pins s σ H _ _ v u Q I rx ry ⟨_, _, rfl, rfl, q⟩
  · cases r1; cases r2; cases e; exact op_le pins s σ H _ _ v u Q I rx ry ⟨_, _, rfl, rfl, q⟩
  · cases r1; cases r2; cases e; exact op_gt pins s σ H _ _ v u Q I rx ry ⟨_, _, rfl, rfl, q⟩
  · cases r1; cases r2; cases e; exact op_ge pins s σ H _ _ v u Q I rx ry ⟨_, _, rfl, rfl, q⟩
  · cases r1; cases r2; cases e; exact op_isBl pins s σ H _ _ v u Q I rx ry ⟨_, _, rfl, rfl, q⟩
  · cases r1; cases r2; cases e; exact op_isN pins s σ H _ _ v u Q I rx ry ⟨rfl, q⟩
  all_goals first
    | (cases r1; cases r2; cases e; exact op_isN pins s σ H _ _ v u Q I rx ry ⟨rfl, q⟩)
    | (cases r1; cases r2; cases e; exact op_notBl pins s σ H _ _ v u Q I rx ry ⟨_, _, rfl, rfl, q⟩)
    | (cases r1; cases r2; cases e; exact op_notN pins s σ H _ _ v u Q I rx ry ⟨rfl, q⟩)
    | skip
  · simp only [Option.bind_eq_some_iff] at e
    obtain ⟨l, e1, e2⟩ := e
    exact in_ok hK hu false pins s σ H x y v u Q I rx ry ⟨φ, S, a, b, l, c, rs, r1, r2, e1, e2, q⟩
  · simp only [Option.map_eq_some_iff, Option.bind_eq_some_iff] at e
    obtain ⟨c', ⟨l, e1, e2⟩, rfl⟩ := e
    exact in_ok hK hu true pins s σ H x y v u Q I rx ry ⟨φ, S, a, b, l, c', rs, r1, r2, e1, e2, q⟩
  · cases e
end
end Mx
set_option Elab.async false
set_option linter.all false
set_option maxRecDepth 100000
set_option maxHeartbeats 6500000
set_option exponentiation.threshold 5000
namespace Mx
open L2 PySem PySem.Spec PyProof.Rows
section
variable {K : PySem.W.Frag} {ca : Nat → Addr} {φ φ' : List Addr} {H H' : Hp} {S S' : Sto} {ρ : Rho} {σ : L2.St} {X : Cx} {E : XK}
/-! ### isinstance -/
def tyS : D → String
  | .non => "NoneType" | .bl _ => "bool" | .int _ => "int" | .str _ => "str" | .tup _ => "tuple" | .ref _ => "list"
def tyN : Ty → String
  | .int => "int" | .bool => "bool" | .str => "str" | .list => "list" | .tuple => "tuple"
theorem kits : (∀ t : Ty, kitB "NoneType" (tyN t) = some false) ∧ kitB "bool" "int" = some true ∧ kitB "bool" "bool" = some true ∧ kitB "bool" "str" = some false ∧ kitB "bool" "list" = some false ∧ kitB "bool" "tuple" = some false ∧
    kitB "int" "int" = some true ∧ kitB "int" "bool" = some false ∧ kitB "int" "str" = some false ∧ kitB "int" "list" = some false ∧ kitB "int" "tuple" = some false ∧
    kitB "str" "int" = some false ∧ kitB "str" "bool" = some false ∧ kitB "str" "str" = some true ∧ kitB "str" "list" = some false ∧ kitB "str" "tuple" = some false ∧
    kitB "tuple" "int" = some false ∧ kitB "tuple" "bool" = some false ∧ kitB "tuple" "str" = some false ∧ kitB "tuple" "list" = some false ∧ kitB "tuple" "tuple" = some true ∧
    kitB "list" "int" = some false ∧ kitB "list" "bool" = some false ∧ kitB "list" "str" = some false ∧ kitB "list" "list" = some true ∧ kitB "list" "tuple" = some false := by
  refine ⟨fun t => by cases t <;> decide +kernel, ?_⟩
  decide +kernel
theorem kit_of_isTy {d : D} {t : Ty} {b : Bool} (h : isTy S d t = some b) : kitB (tyS d) (tyN t) = some b := by
  obtain ⟨k0, k1, k2, k3, k4, k5, k6, k7, k8, k9, k10, k11, k12, k13, k14, k15, k16, k17, k18, k19, k20, k21, k22, k23, k24, k25⟩ := kits
  cases d with
  | non => cases h; exact k0 t
  | bl _ => cases t <;> cases h <;> assumption
  | int _ => cases t <;> cases h <;> assumption
  | str _ => cases t <;> cases h <;> assumption
  | tup _ => cases t <;> cases h <;> assumption
  | ref i =>
    simp only [isTy, Option.map_eq_some_iff] at h
    obtain ⟨l, _, rfl⟩ := h
    cases t <;> assumption
theorem RS.tyX (h : RS K ca φ H S) {d : D} {v : V} {t : Ty} {b : Bool} (r : RV K φ H d v) (e : isTy S d t = some b) : TyX K H v (.type (tyS d)) := by
  cases r with
  | non => exact .base .non
  | bl b => exact .base (.bl b)
  | int i => exact .base (.int i)
  | str x => exact .base (.str x)
  | tup s _ =>
    rcases s with (s | ⟨o, s⟩) | ⟨o, its, n, s, c, _⟩
    · exact .base (.tup s)
    · exact .fTuple s
    · exact .kTuple s c
  | ref ha =>
    simp only [isTy, Option.map_eq_some_iff] at e
    obtain ⟨l, e, _⟩ := e
    obtain ⟨xs, s, _⟩ := h.lst e ha
    rcases s with (s | ⟨o, s⟩) | ⟨o, its, n, s, c, _⟩
    · exact .base (.lst s)
    · exact .base (.frz s)
    · exact .kList s c
def rIsiM (K : PySem.W.Frag) (ca : Nat → Addr) : List V → Hp → VK → Prop := fun xs H Q => ∃ φ S d x t b, xs = [x, .ty (tyN t)] ∧ RS K ca φ H S ∧ RV K φ H d x ∧ isTy S d t = some b ∧ Q (.bl b) H
theorem isi_ok (hK : X.K = K) : CallR X (.builtin "isinstance") (rIsiM K ca) := by
  subst hK
  intro pins s σ H; intro xs us Q I r h
  obtain ⟨φ, S, d, x, t, b, rfl, rs, rd, e, q⟩ := h
  exact call_isi pins s σ H _ us Q I r ⟨x, .ty (tyN t), .type (tyS d), .type (tyN t), b, rfl, .ty _, rs.tyX rd e, kit_ty (kit_of_isTy e), q⟩
/-! ### built-in functions -/
theorem call_lcm : CallR X (.builtin "math.lcm") (fun vs H Q => ∃ a b : Int, vs = [.int a, .int b] ∧ a.natAbs < 2 ^ 64 ∧ b.natAbs < 2 ^ 64 ∧ Q (.int ((Nat.lcm a.natAbs b.natAbs : Nat) : Int)) H) := by
  intro pins s σ H; intro vs us Q I r h
  obtain ⟨a, b, rfl, h1, h2, q⟩ := h
  (obtain ⟨t, u, rfl⟩ := Vals.int2 r)
  have e1 : Nat.lcm 1 a.natAbs = a.natAbs := by simp [Nat.lcm]
  have hlt : (Nat.lcm a.natAbs b.natAbs) < 2 ^ 128 := by
    have h3 : Nat.lcm a.natAbs b.natAbs ≤ a.natAbs * b.natAbs := by
      unfold Nat.lcm
      exact Nat.div_le_self _ _
    have h4 : a.natAbs * b.natAbs < 2 ^ 64 * 2 ^ 64 := Nat.mul_lt_mul'' h1 h2
    have h5 : (2 : Nat) ^ 64 * 2 ^ 64 = 2 ^ 128 := by decide
    omega
  refine PySem.W.mg_lcm h1 h2 ?_ ?_
  · rw [e1, Int.natAbs_natCast]
    have h6 := PySem.Flt.log2_lt_of (by decide : 0 < 128) hlt
    have h7 : bitsLine = 134217728 := by decide
    omega
  · rw [e1]
    exact ⟨.int _, H, I.tok _, ⟨_, rfl⟩, q⟩
theorem call_repr (hg : X.A.guards = some []) (hu : X.A.units + 100 < cLine) : CallR X (.builtin "repr") (fun vs H Q => ∃ v d, vs = [v] ∧ Dp X.K H v d ∧ d.showable = true ∧ d.hasDict = false ∧ d.depth ≤ 60 ∧ d.shown.length ≤ LIM ∧ Q (.str d.shown) H) := by
  intro pins s σ H; intro vs us Q I r h
  obtain ⟨v, d, rfl, hd, h1, h2, h3, h4, q⟩ := h
  obtain ⟨u, rfl, ru⟩ := Vals.one r
  obtain ⟨as, rd⟩ := Dp.reads I d v u hd ru
  cases d with
  | none =>
    cases rd
    exact PySem.P.repr_of_none ⟨.str _, H, I.tok _, ⟨_, rfl⟩, q⟩
  | bool b =>
    cases rd
    refine PySem.P.repr_of_bool ⟨.str _, H, I.tok _, ⟨_, rfl⟩, ?_⟩
    simpa only [PyData.shown] using q
  | int i =>
    cases rd
    refine PySem.P.repr_of_int (by simpa [PyData.showable] using h1) ⟨.str _, H, I.tok _, ⟨_, rfl⟩, ?_⟩
    simpa only [PyData.shown] using q
  | str x =>
    cases rd
    refine PySem.P.repr_of_str ⟨.str _, H, I.tok _, ⟨_, rfl⟩, ?_⟩ (by simpa only [PyData.shown] using lim_le h4)
    simpa only [PyData.shown] using q
  | list xs =>
    cases ru' : hd with
    | lst s t =>
      cases ru
      exact repr_of_reads' rd h1 (PyData.noDict_hsm h2) hg (by omega) (fun _ _ e => e) (fun h' t' tk k => ⟨.str _, H, I.kept k, ⟨_, rfl⟩, q⟩) (lim_le h4)
  | tuple xs =>
    cases ru' : hd with
    | tup s t =>
      cases ru
      exact repr_of_reads' rd h1 (PyData.noDict_hsm h2) hg (by omega) (fun _ _ e => e) (fun h' t' tk k => ⟨.str _, H, I.kept k, ⟨_, rfl⟩, q⟩) (lim_le h4)
  | dict kvs => cases hd
def biV : Bi → Value
  | .len => .builtin "len" | .abs => .builtin "abs" | .int => .type "int" | .sum => .builtin "sum" | .min => .builtin "min" | .max => .builtin "max"
  | .list => .type "list" | .tuple => .type "tuple" | .repr => .builtin "repr" | .gcd => .builtin "math.gcd" | .lcm => .builtin "math.lcm" | .bool => .type "bool"
  | _ => .none
def rBi (K : PySem.W.Frag) (ca : Nat → Addr) (E : XK) (b : Bi) : List V → Hp → VK → Prop := fun xs H Q => ∃ φ S ds d S', RS K ca φ H S ∧ RVs K φ H ds xs ∧ bi1 b ds S = some (d, S') ∧ Go K ca E φ H (.ok d S') Q
theorem bi_ok (hK : X.K = K) (hc : X.calm = true) (hg : X.A.guards = some []) (hu : X.A.units + 100 < cLine) (b : Bi) : CallR X (biV b) (rBi K ca E b) := by
  subst hK
  intro pins s σ H; intro xs us Q I r h
  obtain ⟨φ, S, ds, d, S', rs, rd, e, go⟩ := h
  have same : ∀ {v : V}, S' = S → RV X.K φ H d v → Q v H := fun {v} a b => by subst a; exact go φ H _ (Le.refl _ _) rs b
  unfold bi1 at e
  split at e
  · cases e
    cases rd with
    | cons r1 r2 => cases r2; cases r1 with
      | tup s1 t1 => exact call_len_seq pins s σ H _ us Q I r ⟨_, _, rfl, .inr s1, by rw [← t1.length]; exact same rfl (.int _)⟩
  · simp only [Option.map_eq_some_iff] at e
    obtain ⟨l, e1, e2⟩ := e
    cases e2
    cases rd with
    | cons r1 r2 => cases r2; cases r1 with
      | ref ha =>
        obtain ⟨ys, s1, t1⟩ := rs.lst e1 ha
        exact call_len_seq pins s σ H _ us Q I r ⟨_, _, rfl, .inl s1, by rw [← t1.length]; exact same rfl (.int _)⟩
  · cases e
    cases rd with
    | cons r1 r2 => cases r2; cases r1; exact call_abs pins s σ H _ us Q I r ⟨_, rfl, same rfl (.int _)⟩
  · cases e
    cases rd with
    | cons r1 r2 => cases r2; cases r1; exact call_int1 pins s σ H _ us Q I r (.inl ⟨_, rfl, same rfl (.int _)⟩)
  · cases e
    cases rd with
    | cons r1 r2 => cases r2; cases r1; exact call_int1 pins s σ H _ us Q I r (.inr ⟨_, rfl, same rfl (.int _)⟩)
  · cases e
    cases rd with
    | cons r1 r2 => cases r2; cases r1; exact call_bool1 pins s σ H _ us Q I r (.inl ⟨_, rfl, same rfl (.bl _)⟩)
  · cases e
    cases rd with
    | cons r1 r2 => cases r2; cases r1; exact call_bool1 pins s σ H _ us Q I r (.inr ⟨_, rfl, same rfl (.bl _)⟩)
  · simp only [Option.map_eq_some_iff, Option.bind_eq_some_iff] at e
    obtain ⟨ns, ⟨l, e1, e2⟩, e3⟩ := e
    cases e3
    cases rd with
    | cons r1 r2 => cases r2; cases r1 with
      | ref ha =>
        obtain ⟨ys, s1, t1⟩ := rs.lst e1 ha
        rw [t1.ints e2] at s1
        exact cr_sum hc pins s σ H _ us Q I r ⟨_, ns, rfl, s1, same rfl (.int _)⟩
  · cases e
    cases rd with
    | cons r1 r2 => cases r2 with
      | cons r3 r4 => cases r4; cases r1; cases r3; exact call_min2 hc pins s σ H _ us Q I r ⟨_, _, rfl, same rfl (.int _)⟩
  · cases e
    cases rd with
    | cons r1 r2 => cases r2 with
      | cons r3 r4 => cases r4; cases r1; cases r3; exact call_max2 hc pins s σ H _ us Q I r ⟨_, _, rfl, same rfl (.int _)⟩
  · cases e
    cases rd with
    | cons r1 r2 => cases r2; cases r1 with
      | tup s1 t1 =>
        refine call_list_of pins s σ H _ us Q I r ⟨_, _, rfl, .inr s1, fun p np => ?_⟩
        refine go (φ ++ [p]) _ _ (Le.add np) (rs.addL np t1) (.ref ?_)
        rw [← rs.len]
        simp
  · simp only [Option.map_eq_some_iff] at e
    obtain ⟨l, e1, e2⟩ := e
    cases e2
    cases rd with
    | cons r1 r2 => cases r2; cases r1 with
      | ref ha =>
        obtain ⟨ys, s1, t1⟩ := rs.lst e1 ha
        refine call_list_of pins s σ H _ us Q I r ⟨_, _, rfl, .inl s1, fun p np => ?_⟩
        refine go (φ ++ [p]) _ _ (Le.add np) (rs.addL np t1) (.ref ?_)
        rw [← rs.len]
        simp
  · cases e
    cases rd with
    | cons r1 r2 => cases r2; cases r1 with
      | tup s1 t1 => exact call_tuple_of pins s σ H _ us Q I r ⟨_, _, rfl, .inr ⟨s1, same rfl (.tup s1 t1)⟩⟩
  · simp only [Option.map_eq_some_iff] at e
    obtain ⟨l, e1, e2⟩ := e
    cases e2
    cases rd with
    | cons r1 r2 => cases r2; cases r1 with
      | ref ha =>
        obtain ⟨ys, s1, t1⟩ := rs.lst e1 ha
        refine call_tuple_of pins s σ H _ us Q I r ⟨_, _, rfl, .inl ⟨s1, fun p np => ?_⟩⟩
        have le : Le φ H φ (upd H p (.tup ys)) := Le.new np
        exact go φ _ _ le (rs.new np) (.tup (.of upd_same) (t1.mono le))
  · cases e
    cases rd with
    | cons r1 r2 => cases r2 with
      | cons r3 r4 => cases r4; cases r1; cases r3; exact cr_gcd pins s σ H _ us Q I r ⟨_, _, rfl, same rfl (.int _)⟩
  · split at e
    · rename_i hz
      cases e
      cases rd with
      | cons r1 r2 => cases r2 with
        | cons r3 r4 => cases r4; cases r1; cases r3; exact call_lcm pins s σ H _ us Q I r ⟨_, _, rfl, hz.1, hz.2, same rfl (.int _)⟩
    · cases e
  · split at e
    · rename_i x q
      split at e
      · rename_i hz
        cases e
        cases rd with
        | cons r1 r2 => cases r2; exact call_repr hg hu pins s σ H _ us Q I r ⟨_, _, rfl, rs.dp 3 r1 q, hz.1, hz.2.1, hz.2.2.1, hz.2.2.2, same rfl (.str _)⟩
      · cases e
    · cases e
  · cases e
/-! ### methods of lists -/
def mtN : Mt → String
  | .append => "list.append" | .extend => "list.extend" | .pop => "list.pop"
def rMt (K : PySem.W.Frag) (ca : Nat → Addr) (E : XK) (k : Mt) : V → List V → Hp → VK → Prop := fun x xs H Q => ∃ φ S d0 ds d S', RS K ca φ H S ∧ RV K φ H d0 x ∧ RVs K φ H ds xs ∧ mt1 k d0 ds S = some (d, S') ∧ Go K ca E φ H (.ok d S') Q
theorem mt_ok (hK : X.K = K) (k : Mt) : MtR X (mtN k) (rMt K ca E k) := by
  subst hK
  intro pins s σ H x xs v us Q I rx r h
  obtain ⟨φ, S, d0, ds, d, S', rs, r0, rd, e, go⟩ := h
  unfold mt1 at e
  split at e
  · split at e
    · rename_i l q
      split at e
      · rename_i hz
        cases e
        cases r0 with
        | ref ha =>
          cases rd with
          | cons r1 r2 =>
            cases r2
            obtain ⟨ys, y1, y2⟩ := rs.mut q ha
            refine mt_append pins s σ H _ _ v us Q I rx r ⟨_, ys, _, rfl, rfl, y1, by rw [← y2.length]; exact lim_lt hz, ?_⟩
            exact go φ _ _ (Le.mut y1) (rs.put (mutOf_at q) ha y1 ((y2.append (.cons r1 .nil)).mono (Le.refl _ _))) .non
      · cases e
    · cases e
  · split at e
    · rename_i l m q1 q2
      split at e
      · rename_i hz
        cases e
        cases r0 with
        | ref ha =>
          cases rd with
          | cons r1 r2 =>
            cases r2
            cases r1 with
            | ref hb =>
              obtain ⟨ys, y1, y2⟩ := rs.mut q1 ha
              obtain ⟨zs, z1, z2⟩ := rs.mut q2 hb
              refine mt_extend pins s σ H _ _ v us Q I rx r ⟨_, _, ys, zs, rfl, rfl, y1, z1, by rw [← y2.length, ← z2.length]; exact lim_le hz, ?_⟩
              exact go φ _ _ (Le.mut y1) (rs.put (mutOf_at q1) ha y1 (y2.append z2)) .non
      · cases e
    · cases e
  · split at e
    · rename_i l q
      split at e
      · rename_i dl ql
        cases e
        cases r0 with
        | ref ha =>
          cases rd
          obtain ⟨ys, y1, y2⟩ := rs.mut q ha
          obtain ⟨y, hy, ry⟩ := y2.get ql
          rw [y2.length] at hy
          refine mt_pop pins s σ H _ _ v us Q I rx r ⟨_, ys, y, rfl, rfl, y1, hy, ?_⟩
          exact go φ _ _ (Le.mut y1) (rs.put (mutOf_at q) ha y1 y2.dropLast) (ry.mono (Le.mut y1))
      · cases e
    · cases e
  · cases e
/-! ### items, slices, a[i] = v -/
def rIxM (K : PySem.W.Frag) (ca : Nat → Addr) : R2 := fun x y H Q => ∃ φ S a b d, RS K ca φ H S ∧ RV K φ H a x ∧ RV K φ H b y ∧ ix1 S a b = some d ∧ ∀ v, RV K φ H d v → Q v H
theorem ix_ok (hK : X.K = K) : IxR X (rIxM K ca) := by
  subst hK
  intro value slice pins s; intro σ H x y v u Q I rx ry h hs
  obtain ⟨φ, S, a, b, d, rs, ra, rb, e, q⟩ := h
  unfold ix1 at e
  split at e
  · simp only [Option.bind_eq_some_iff] at e
    obtain ⟨l, e1, e2⟩ := e
    obtain ⟨p, xs, rfl, hp, rl⟩ := rs.seq ra e1
    obtain ⟨w, hw, rw'⟩ := rl.atI e2
    cases rb
    rcases hp with hp | hp
    · exact ix_list value slice pins s σ H _ _ v u Q I rx ry ⟨p, xs, _, w, rfl, rfl, hp, hw, q w rw'⟩ hs
    · exact ix_tup value slice pins s σ H _ _ v u Q I rx ry ⟨p, xs, _, w, rfl, rfl, hp, hw, q w rw'⟩ hs
  · cases e
def rSlM (K : PySem.W.Frag) (ca : Nat → Addr) (E : XK) : V → Option Int → Option Int → Hp → VK → Prop := fun x lo hi H Q => ∃ φ S a l h d S', RS K ca φ H S ∧ RV K φ H a x ∧ oInt l = some lo ∧ oInt h = some hi ∧ sl1 a l h S = some (d, S') ∧ Go K ca E φ H (.ok d S') Q
theorem sl_ok (hK : X.K = K) : SlR X (rSlM K ca E) := by
  subst hK
  intro pins s σ H; intro x v vl vu lo hi sl Q I rx hs pl pu h
  obtain ⟨φ, S, a, l, h', d, S', rs, ra, e1, e2, e, go⟩ := h
  unfold sl1 at e
  rw [e1, e2] at e
  simp only at e
  split at e
  · cases e
    cases ra with
    | @tup a0 zs l0 s1 t1 =>
      refine sl_tupA pins s σ H _ v vl vu lo hi sl Q I rx hs pl pu ⟨_, _, rfl, s1, fun hw => ?_, fun _ p np => ?_⟩
      · have ec := t1.cut lo hi
        have e3 : cutV zs lo hi = zs := by
          unfold cutV
          rw [hw.1, hw.2]
          simp
        rw [e3] at ec
        exact go φ H _ (Le.refl _ _) rs (.tup s1 ec)
      · exact go φ _ _ (Le.new np) (rs.new np) (.tup (.of upd_same) ((t1.cut lo hi).mono (Le.new np)))
  · simp only [Option.map_eq_some_iff] at e
    obtain ⟨xs, e3, e4⟩ := e
    cases e4
    cases ra with
    | ref ha =>
      obtain ⟨ys, s1, t1⟩ := rs.lst e3 ha
      refine sl_list pins s σ H _ v vl vu lo hi sl Q I rx hs pl pu ⟨_, _, rfl, s1, fun p np => ?_⟩
      refine go (φ ++ [p]) _ _ (Le.add np) (rs.addL np (t1.cut lo hi)) (.ref ?_)
      rw [← rs.len]
      simp
  · cases e
def rSetM (K : PySem.W.Frag) (ca : Nat → Addr) : TSet := fun o i v H Q => ∃ φ S d1 d2 d3 S', RS K ca φ H S ∧ RV K φ H d1 o ∧ RV K φ H d2 i ∧ RV K φ H d3 v ∧ seti S d1 d2 d3 = some S' ∧ ∀ H', Le φ H φ H' → RS K ca φ H' S' → Q H'
theorem set_ok : PSet X (rSetM K ca) := by
  intro pins s σ H; intro o i v ov iv u Q I ro ri rv h
  obtain ⟨φ, S, d1, d2, d3, S', rs, r1, r2, r3, e, q⟩ := h
  unfold seti at e
  split at e
  · simp only [Option.bind_eq_some_iff, Option.map_eq_some_iff] at e
    obtain ⟨l, e1, j, e2, rfl⟩ := e
    cases r2
    cases r1 with
    | ref ha =>
      obtain ⟨ys, y1, y2⟩ := rs.mut e1 ha
      refine set_list pins s σ H _ _ v ov iv u Q I ro ri rv ⟨_, ys, _, j, rfl, rfl, y1, by rw [← y2.length]; exact e2, ?_⟩
      exact q _ (Le.mut y1) (rs.put (mutOf_at e1) ha y1 (y2.set r3 j))
  · cases e
end
end Mx
set_option Elab.async false
set_option linter.all false
set_option maxRecDepth 100000
set_option maxHeartbeats 6500000
namespace Mx
open L2 PySem PySem.Spec PyProof.Rows
/-! ### a def's promise where no repr is under way -/
structure FnG (P : Program) (w : World) (K : PySem.W.Frag) (mg : Str → Option Value) (base : Heap) (C : CXT) (k : Nat) (f : Addr) (fd : FuncData) (ps : List Str) (sp : Sp) : Prop where
  few : ∀ vs H Q E, sp vs H Q E → vs.length = ps.length
  go : ∀ (A : Around) (out : List PySem.Env) (s : Shared) (H : Hp) (args : Args) (us : List Value) (vs : List V) (Q : VK) (E : XK),
    A.guards = some [] → Room k A → Env0 P w K mg base A out s H → BindsTo s fd args (ps.zip us) → Vals vs us → sp vs H Q E →
    codeAny (model P w) A (.call (.ref f) args) (CR C out P w H s Q E) s
theorem FnG.lift {P : Program} {w : World} {K : PySem.W.Frag} {mg : Str → Option Value} {base : Heap} {C : CXT} {j k : Nat} {f : Addr} {fd : FuncData} {ps : List Str} {sp : Sp}
    (F : FnG P w K mg base C j f fd ps sp) (h : j ≤ k) : FnG P w K mg base C k f fd ps sp :=
  ⟨F.few, fun A out s H args us vs Q E hg hr => F.go A out s H args us vs Q E hg (hr.mono h)⟩
/-- a def by its body; the body's reading is chosen at each entry -/
theorem fnG_of {P : Program} {w : World} {K : PySem.W.Frag} {mg : Str → Option Value} {base : Heap} {x qual : Str} {st : Stmt} {f : Addr} {fd : FuncData} {N ps : List Str} {k : Nat} {sp : Sp}
    (F : Fun K x qual st f fd) (S : FnScope N ps (defScope st)) (few : ∀ vs H Q E, sp vs H Q E → vs.length = ps.length)
    (hb : ∀ (cdv : Value) (A : Around) (out : List PySem.Env) (s : Shared) (H : Hp) (vs : List V) (Q : VK) (E : XK), A.guards = some [] →
      Room k (A.deeper (envOfC qual (defScope st) s.heap.objs.size f cdv)) → sp vs H Q E →
      ∃ t, PSs (cxOf (L2.CX P w) P w K mg base N qual (defScope st) f cdv A out s H E) (defBody st) t ∧ t { nx := fun _ H' => Q .non H', rt := Q } (L2.start N vs) H) :
    FnG P w K mg base (L2.CX P w) (k + 1) f fd ps sp := by
  (obtain ⟨oc, od, kV, doc, pm, an, cdv, ct, osl, rfl, lk, hcd⟩ := F.ex)
  constructor
  · exact few
  · intro A out s H args us vs Q E hg hr e0 hbd r hsp
    have hl := few _ _ _ _ hsp
    have old : ∀ b o, base.get? b = some o → s.heap.get? b = some o := fun b o e => (e0.bs b o e).1
    have hk : ∀ y ∈ ps.zip us, (defScope st).names.lookup y.1 = some .local ∨ ((defScope st).names.lookup y.1 = some .cell ∧ ((cellsFrom (s.heap.objs.size + 1) (defScope st).names []).lookup y.1).isSome = true) := by
      rintro ⟨n, v⟩ hy
      (rcases S.par n (List.of_mem_zip hy).1 with q | q)
      · exact Or.inl q
      · exact Or.inr ⟨q, PySem.W.cellsFrom_some _ _ _ (Or.inl q)⟩
    have KX := e0.mod.kin.keeps old
    refine codeAny_call_function hr.depth (KX _ _ lk) rfl S.co S.gen rfl (PySem.W.codeRec_of KX hcd) (hbd _ _ _ _ (wpAny_newFunctionEnv_cells S.kind hk fun env he s1 z => ?_))
    subst he
    refine ⟨(e0.mod.nolimit.keeps old).keeps z.toInCall.keep, codeAny_func ?_⟩
    obtain ⟨t, ht, hq⟩ := hb cdv A out s H vs Q E hg (hr.deeper _) hsp
    have I := inv_start (CX := L2.CX P w) (N := N) (qual := qual) (f := f) (cd := cdv) (E := E) S hr.hd e0 hl r z
    refine wpAny_mono (ht.run [] s1 (L2.start N vs) H _ I hq) (fun fl s' hs => ?_) (fun _ _ hs => hs)
    cases fl with
    | next =>
      obtain ⟨σ', H', J, q⟩ := hs
      exact ⟨.non, H', J.os, J.bare, J.base, J.hok, rfl, q⟩
    | ret u =>
      (obtain ⟨v, σ', H', J, rv, q⟩ := hs)
      exact ⟨v, H', J.os, J.bare, J.base, J.hok, rv, q⟩
    | brk => obtain ⟨_, _, _, q⟩ := hs; exact q.elim
    | cont => obtain ⟨_, _, _, q⟩ := hs; exact q.elim
section
variable {X : Cx} {C : CXT} {k : Nat} {f : Addr} {fd : FuncData} {ps : List Str} {sp : Sp} {E : XK}
theorem runG {pins : List (Addr × Obj)} {σ : L2.St} {H : Hp} {s : Shared} {Q : VK} {us : List Value} {vs : List V} (F : FnG X.prog X.w X.K X.mg X.base C k f fd ps sp)
    (hg : X.A.guards = some []) (hr : Room k X.A) (hb : Binds X.K fd ps []) (hx : Passes C X E) (I : Inv X pins σ H s) (r : Vals vs us) (h : sp vs H Q E) :
    wpAny (model X.prog X.w) X.A
      (call (.ref f) us) (EP X pins σ Q) X.xe s := by
  have hl : (us ++ []).length = ps.length := by rw [List.append_nil, ← r.length]; exact F.few _ _ _ _ h
  have hb' := hb s us I.kIn hl
  rw [List.append_nil] at hb'
  refine wpAny_call (codeAny_mono (F.go X.A X.stack s H ⟨us, []⟩ us vs Q E hg hr I.env0 hb' r h) fun o s' hq => ?_)
  cases o with
  | error e => (exact hx pins σ H s e s' I hq)
  | ok fl =>
    cases fl with
    | ret u => exact I.after hq
    | _ => exact False.elim hq
theorem pe_callG {x : Str} {p pos : Pos} {e : Expr} {es : List Expr} {t : TA} (F : FnG X.prog X.w X.K X.mg X.base C k f fd ps sp) (hg : X.A.guards = some []) (hr : Room k X.A) (gl : Gl X x) (hm : X.mg x = some (.ref f))
    (hk : PySem.W.keepIn X.K (.ref f) = true) (hb : Binds X.K fd ps []) (hx : Passes C X E) (ha : PA X (e :: es) t) (hd : (x == ("__debug__" : Str)) = false)
    (he : starEach (e :: es) X.env = (false, eval e X.env) :: starEach es X.env)
    (hpl : (backTo pos (starEach es X.env)).any (·.1) = false) :
    PE X (.Call (.Name x p) (e :: es) [] pos) (tCall sp [] E t) := by
  constructor
  intro pins s σ H Q I h
  refine wpAny_Call_Name_kw (ld_glob I gl hm ?_ hd)
  (refine PySem.W.callWith_K (h₀ := X.base) I.ok.mod.kin hk (thn (ha.run pos pins s σ H _ I h) fun us s1 ⟨vs, H1, I1, r, q⟩ => ⟨I1.kIn, ?_⟩) he hpl)
  have q1 : sp (vs ++ []) H1 Q E := q
  rw [List.append_nil] at q1
  exact runG F hg hr hb hx I1 r q1
end
theorem _root_.L2.PE.imp {X : Cx} {e : Expr} {t t' : TE} (h : PE X e t) (k : ∀ σ H Q, t' σ H Q → t σ H Q) : PE X e t' := ⟨fun pins s σ H Q I q => h.run pins s σ H Q I (k σ H Q q)⟩
theorem _root_.L2.PT.imp {X : Cx} {e : Expr} {t t' : TT} (h : PT X e t) (k : ∀ σ H Q, t' σ H Q → t σ H Q) : PT X e t' := ⟨fun pins s σ H Q I q => h.run pins s σ H Q I (k σ H Q q)⟩
theorem _root_.L2.PW.imp {X : Cx} {e : Expr} {t t' : TT} (h : PW X e t) (k : ∀ σ H Q, t' σ H Q → t σ H Q) : PW X e t' := ⟨fun wh pins s σ H Q I q => h.run wh pins s σ H Q I (k σ H Q q)⟩
theorem _root_.L2.PA.imp {X : Cx} {e : List Expr} {t t' : TA} (h : PA X e t) (k : ∀ σ H Q, t' σ H Q → t σ H Q) : PA X e t' := ⟨fun p pins s σ H Q I q => h.run p pins s σ H Q I (k σ H Q q)⟩
theorem _root_.L2.PS.imp {X : Cx} {e : Stmt} {t t' : TS} (h : PS X e t) (k : ∀ D σ H, t' D σ H → t D σ H) : PS X e t' := ⟨fun pins s σ H D I q => h.run pins s σ H D I (k D σ H q)⟩
theorem _root_.L2.PSs.imp {X : Cx} {e : List Stmt} {t t' : TS} (h : PSs X e t) (k : ∀ D σ H, t' D σ H → t D σ H) : PSs X e t' := ⟨fun pins s σ H D I q => h.run pins s σ H D I (k D σ H q)⟩
theorem _root_.L2.PI.imp {X : Cx} {tg e : Expr} {t t' : TI} (h : PI X tg e t) (k : ∀ σ H R, t' σ H R → t σ H R) : PI X tg e t' := ⟨fun pins s σ H Q I q => h.run pins s σ H Q I (k σ H Q q)⟩
theorem _root_.L2.PI.or {X : Cx} {tg e : Expr} {t t' : TI} (h : PI X tg e t) (h' : PI X tg e t') : PI X tg e (fun σ H R => t σ H R ∨ t' σ H R) := ⟨fun pins s σ H Q I q => q.elim (h.run pins s σ H Q I) (h'.run pins s σ H Q I)⟩
/-! ### lists without stars -/
theorem star_cons {e : Expr} (h : noStar e = true) (es : List Expr) (env : PySem.Env) : starEach (e :: es) env = (false, eval e env) :: starEach es env := by
  cases e <;> first | rfl | cases h
theorem cpL_star {f : Expr → Option Ex} : ∀ {es : List Expr} {ms : Exs}, cpL f es = some ms → ∀ e ∈ es, noStar e = true
  | [], _, _, e, he => by cases he
  | e :: es, ms, h, e', he => by
    simp only [cpL] at h
    split at h
    · rename_i hn
      split at h
      · rename_i m ms' h1 h2
        (rcases List.mem_cons.mp he with rfl | he)
        · exact hn
        · exact cpL_star h2 e' he
      · cases h
    · cases h
theorem plain_any (pos : Pos) (env : PySem.Env) : ∀ {es : List Expr}, (∀ e ∈ es, noStar e = true) → (backTo pos (starEach es env)).any (·.1) = false
  | [], _ => rfl
  | e :: es, h => by
    rw [star_cons (h e List.mem_cons_self)]
    show (false || (backTo pos (starEach es env)).any (·.1)) = false
    rw [plain_any pos env fun e' he => h e' (List.mem_cons_of_mem _ he)]
    rfl
theorem plain_all (pos : Pos) (env : PySem.Env) : ∀ {es : List Expr}, (∀ e ∈ es, noStar e = true) → (backTo pos (starEach es env)).all (fun x => !x.1) = true
  | [], _ => rfl
  | e :: es, h => by
    rw [star_cons (h e List.mem_cons_self)]
    show (!false && (backTo pos (starEach es env)).all (fun x => !x.1)) = true
    rw [plain_all pos env fun e' he => h e' (List.mem_cons_of_mem _ he)]
    rfl
/-! ### readings by the machine -/
section
variable (K : PySem.W.Frag) (ca : Nat → Addr) (R : Nat → List D → Sto → Mo D) (G : List D) (E : XK)
def tE (m : Ex) : TE := fun σ H Q => ∃ ρ S φ r, RE K φ H ρ σ ∧ RS K ca φ H S ∧ ev R G m false ρ S = some r ∧ Go K ca E φ H r Q
def tT (m : Ex) : TT := fun σ H Q => ∃ ρ S φ r, RE K φ H ρ σ ∧ RS K ca φ H S ∧ ev R G m true ρ S = some r ∧ Go K ca E φ H r fun v H' => ∃ b, v = .bl b ∧ Q b H'
def GoL (φ : List Addr) (H : Hp) (r : Rs (List D)) (Q : List V → Hp → Prop) : Prop := match r with
  | .ok ds S' => ∀ φ' H' vs, Le φ H φ' H' → RS K ca φ' H' S' → RVs K φ' H' ds vs → Q vs H'
  | .er x S' => ∀ φ' H' c dd, Le φ H φ' H' → RS K ca φ' H' S' → RX K ca φ' H' x c dd → E c dd H'
def tEs (m : Exs) : TA := fun σ H Q => ∃ ρ S φ r, RE K φ H ρ σ ∧ RS K ca φ H S ∧ evs R G m ρ S = some r ∧ GoL K ca E φ H r Q
/-- a def's promise: what the machine gives -/
def spR (f : List D → Sto → Mo D) : Sp := fun vs H Q E => ∃ φ S ds r, RVs K φ H ds vs ∧ RS K ca φ H S ∧ f ds S = some r ∧ Go K ca E φ H r Q
/-- the walk J is the machine's j -/
def JOk (φ : List Addr) (H : Hp) (J : It) (j : Itr) : Prop := ∀ φ' H' S i o, Le φ H φ' H' → RS K ca φ' H' S → nxt j i S = some o → match o with
  | none => J.stop i H'
  | some d => J.go i H' ∧ ∀ x H'', J.yld i H' x H'' → Le φ' H' φ' H'' ∧ RS K ca φ' H'' S ∧ RV K φ' H'' d x
def tI (k : Ib) (as : Exs) : TI := fun σ H P => ∃ ρ S φ r, RE K φ H ρ σ ∧ RS K ca φ H S ∧ evs R G as ρ S = some r ∧ match r with
  | .ok ds S' => ∃ j, it1 S' k ds = some j ∧ ∀ φ' H' J, Le φ H φ' H' → RS K ca φ' H' S' → JOk K ca φ' H' J j → P J H'
  | .er x S' => ∀ φ' H' c dd, Le φ H φ' H' → RS K ca φ' H' S' → RX K ca φ' H' x c dd → E c dd H'
end
section
variable {K : PySem.W.Frag} {ca : Nat → Addr} {R : Nat → List D → Sto → Mo D} {G : List D} {E : XK} {φ φ' : List Addr} {H H' : Hp} {S S' : Sto} {ρ : Rho} {σ : L2.St}
theorem GoL.mono {r : Rs (List D)} {Q : List V → Hp → Prop} (h : GoL K ca E φ H r Q) (e : Le φ H φ' H') : GoL K ca E φ' H' r Q := by
  cases r with
  | ok d S' => exact fun φ2 H2 v le => h φ2 H2 v (e.trans le)
  | er x S' => exact fun φ2 H2 c dd le => h φ2 H2 c dd (e.trans le)
/-- one expression, then the rest -/
theorem tE_bnd {m : Ex} {f : D → Sto → Mo D} {r : Rs D} {Q Q1 : VK} (he : RE K φ H ρ σ) (hs : RS K ca φ H S) (h : bnd (ev R G m false ρ S) f = some r) (go : Go K ca E φ H r Q)
    (k : ∀ d S1 φ1 H1 v, Le φ H φ1 H1 → RS K ca φ1 H1 S1 → RV K φ1 H1 d v → f d S1 = some r → Q1 v H1) : tE K ca R G E m σ H Q1 := by
  cases q : ev R G m false ρ S with
  | none => rw [q] at h; cases h
  | some o =>
    rw [q] at h
    cases o with
    | ok d S1 => exact ⟨ρ, S, φ, .ok d S1, he, hs, q, fun φ1 H1 v le rs rv => k d S1 φ1 H1 v le rs rv h⟩
    | er x S1 =>
      cases h
      exact ⟨ρ, S, φ, .er x S1, he, hs, q, go⟩
theorem tT_bnd {m : Ex} {f : D → Sto → Mo D} {r : Rs D} {Q : VK} {Q1 : Bool → Hp → Prop} (he : RE K φ H ρ σ) (hs : RS K ca φ H S) (h : bnd (ev R G m true ρ S) f = some r) (go : Go K ca E φ H r Q)
    (k : ∀ d S1 φ1 H1 v, Le φ H φ1 H1 → RS K ca φ1 H1 S1 → RV K φ1 H1 d v → f d S1 = some r → ∃ b, v = .bl b ∧ Q1 b H1) : tT K ca R G E m σ H Q1 := by
  cases q : ev R G m true ρ S with
  | none => rw [q] at h; cases h
  | some o =>
    rw [q] at h
    cases o with
    | ok d S1 => exact ⟨ρ, S, φ, .ok d S1, he, hs, q, fun φ1 H1 v le rs rv => k d S1 φ1 H1 v le rs rv h⟩
    | er x S1 =>
      cases h
      exact ⟨ρ, S, φ, .er x S1, he, hs, q, go⟩
theorem tEs_bnd {m : Exs} {f : List D → Sto → Mo D} {r : Rs D} {Q : VK} {Q1 : List V → Hp → Prop} (he : RE K φ H ρ σ) (hs : RS K ca φ H S) (h : bnd (evs R G m ρ S) f = some r) (go : Go K ca E φ H r Q)
    (k : ∀ d S1 φ1 H1 v, Le φ H φ1 H1 → RS K ca φ1 H1 S1 → RVs K φ1 H1 d v → f d S1 = some r → Q1 v H1) : tEs K ca R G E m σ H Q1 := by
  cases q : evs R G m ρ S with
  | none => rw [q] at h; cases h
  | some o =>
    rw [q] at h
    cases o with
    | ok d S1 => exact ⟨ρ, S, φ, .ok d S1, he, hs, q, fun φ1 H1 v le rs rv => k d S1 φ1 H1 v le rs rv h⟩
    | er x S1 =>
      cases h
      exact ⟨ρ, S, φ, .er x S1, he, hs, q, go⟩
theorem lft_some {α : Type} {o : Option (α × Sto)} {r : Rs α} (h : lft o = some r) : ∃ a S, o = some (a, S) ∧ r = .ok a S := by
  cases o with
  | none => cases h
  | some p => cases h; exact ⟨_, _, rfl, rfl⟩
theorem lf0_some {α : Type} {o : Option α} {S : Sto} {r : Rs α} (h : lf0 o S = some r) : ∃ a, o = some a ∧ r = .ok a S := by
  cases o with
  | none => cases h
  | some p => cases h; exact ⟨_, rfl, rfl⟩
theorem Go.here {d : D} {v : V} {Q : VK} (go : Go K ca E φ H (.ok d S) Q) (rs : RS K ca φ H S) (rv : RV K φ H d v) : Q v H := go φ H v (Le.refl _ _) rs rv
end
end Mx
set_option Elab.async false
set_option linter.all false
set_option maxRecDepth 100000
set_option maxHeartbeats 6500000
namespace Mx
open L2 PySem PySem.Spec PyProof.Rows
/-- the context, its names, its scope (B: a comprehension's block) -/
structure CK (T : Tb) (N : List Str) (K : PySem.W.Frag) (ca : Nat → Addr) (R : Nat → List D → Sto → Mo D) (G : List D) (k : Nat) (X : Cx) (sc : Scope) (B : Bool) (E : XK) : Prop where
  hs : X.env.scope = sc
  knd : sc.kind = .function
  hN : X.N = N
  nd : N.Nodup
  hK : X.K = K
  calm : X.calm = true
  gd : X.A.guards = some []
  room : Room k X.A
  fnl : B = false → ∀ x, X.fn x = true
  fns : ∀ x, T.fn.contains x = true → ∃ f fd ps, X.mg x = some (.ref f) ∧ PySem.W.keepIn X.K (.ref f) = true ∧ Binds X.K fd ps [] ∧ FnG X.prog X.w X.K X.mg X.base (L2.CX X.prog X.w) k f fd ps (spR K ca (R (T.fn.idxOf x)))
  bis : ∀ x, T.bis.contains x = true → X.mg x = none
  mth : ∀ x, T.mth.contains x = true → ∀ b, mbOf x = some b → X.mg x = some (biV b)
  gls : ∀ x, T.gl.contains x = true → ∀ d, G[T.gl.idxOf x]? = some d → ∃ u v, X.mg x = some u ∧ L2.RelV v u ∧ ∀ φ H, RV K φ H d v
  pas : Passes (L2.CX X.prog X.w) X E
section
variable {T : Tb} {N : List Str} {K : PySem.W.Frag} {ca : Nat → Addr} {R : Nat → List D → Sto → Mo D} {G : List D} {k : Nat} {X : Cx} {sc : Scope} {B : Bool} {E : XK}
variable {φ φ' : List Addr} {H H' : Hp} {S S' : Sto} {ρ : Rho} {σ : L2.St}
theorem CK.hu (c : CK T N K ca R G k X sc B E) : X.A.units + 100 < cLine := by have := c.room.un; omega
theorem slot_at {x : Str} {i : Nat} (h : slot N x = some i) : N[i]? = some x ∧ i = N.idxOf x := by
  unfold slot at h
  split at h
  · rename_i hc
    cases h
    have hm : x ∈ N := by simpa using hc
    exact ⟨by rw [List.getElem?_eq_getElem (List.idxOf_lt_length_iff.mpr hm), List.getElem_idxOf], rfl⟩
  · cases h
theorem vis_ok (c : CK T N K ca R G k X sc B E) {x : Str} (h : vis sc x = true) : Vis X.env.scope x ∧ (x == ("__debug__" : Str)) = false ∧ (x == ("__classdict__" : Str)) = false := by
  simp only [vis, Bool.and_eq_true, Bool.or_eq_true, decide_eq_true_eq, Bool.not_eq_true'] at h
  rw [c.hs]
  refine ⟨?_, h.1.2, h.2⟩
  rcases h.1.1 with (h | h) | h
  · exact .inl h
  · exact .inr (.inl h)
  · exact .inr (.inr h)
theorem gli_ok (c : CK T N K ca R G k X sc B E) {x : Str} (h : gli sc x = true) : Gl X x ∧ (x == ("__debug__" : Str)) = false ∧ x ≠ ("__name__" : Str) := by
  simp only [gli, Bool.and_eq_true, decide_eq_true_eq, Bool.not_eq_true'] at h
  refine ⟨?_, h.1.2, by simpa using h.2⟩
  show X.env.scope.names.lookup x = _
  rw [c.hs]
  exact h.1.1
/-- a value's truth -/
theorem pt_plain {e : Expr} {m : Ex} (hK : X.K = K) (h : PE X e (tE K ca R G E m)) (hm : ∀ ρ S, ev R G m true ρ S = bnd (ev R G m false ρ S) fun d S => lf0 ((tru S d).map .bl) S)
    (he : ∀ whole, isTrue e X.env whole = (do let v ← whole; standAt e.pos; holding [v] (truthy v))) : PT X e (tT K ca R G E m) := by
  refine (pt_truth h he).imp fun σ H Q ⟨ρ, S, φ, r, re, rs, e1, go⟩ => ?_
  rw [hm] at e1
  refine tE_bnd re rs e1 go fun d S1 φ1 H1 v le rs1 rv1 h1 => ?_
  obtain ⟨a, h2, rfl⟩ := lf0_some h1
  simp only [Option.map_eq_some_iff] at h2
  obtain ⟨b, h2, rfl⟩ := h2
  obtain ⟨b', eb, q⟩ := (go.mono le).here rs1 (.bl b)
  cases eb
  subst hK
  exact ⟨b, rs1.tru rv1 h2, q⟩
theorem e_var (c : CK T N K ca R G k X sc B E) {x : Str} {p : Pos} {i : Nat} (h1 : vis sc x = true) (h2 : slot N x = some i) : PE X (.Name x p) (tE K ca R G E (.var i)) := by
  obtain ⟨v1, v2, v3⟩ := vis_ok c h1
  refine (pe_var (i := i) (by rw [c.hN]; exact (slot_at h2).1) v1 v2 v3).imp fun σ H Q ⟨ρ, S, φ, r, re, rs, e1, go⟩ => ?_
  simp only [ev, fin, Bool.false_eq_true, if_false] at e1
  split at e1
  · rename_i d q
    cases e1
    obtain ⟨v, hv, rv⟩ := re.2 i d q
    exact ⟨v, hv, go.here rs rv⟩
  · cases e1
theorem e_cst {e : Expr} {d : D} {v : V} (h : PE X e (tC v)) (hv : ∀ φ H, RV K φ H d v) : PE X e (tE K ca R G E (.cst d)) := h.imp fun σ H Q ⟨ρ, S, φ, r, re, rs, e1, go⟩ => by
  cases e1
  exact go.here rs (hv _ _)
theorem e_glb (c : CK T N K ca R G k X sc B E) {x : Str} {p : Pos} (h1 : gli sc x = true) (h2 : T.gl.contains x = true) : PE X (.Name x p) (tE K ca R G E (.glb (T.gl.idxOf x))) := by
  obtain ⟨g1, g2, g3⟩ := gli_ok c h1
  cases hd : G[T.gl.idxOf x]? with
  | none => exact ⟨fun pins s σ H Q I ⟨ρ, S, φ, r, re, rs, e1, go⟩ => by simp only [ev, fin, hd, Bool.false_eq_true, if_false] at e1; cases e1⟩
  | some d =>
    obtain ⟨u, v, m1, m2, m3⟩ := c.gls x h2 d hd
    refine (pe_glob g1 m1 m2 g2).imp fun σ H Q ⟨ρ, S, φ, r, re, rs, e1, go⟩ => ?_
    simp only [ev, fin, hd, Bool.false_eq_true, if_false] at e1
    cases e1
    exact go.here rs (m3 _ _)
theorem b2_op {op : Operator} {o : B2} (h : b2Of op = some o) : op = opOf o := by
  cases op <;> cases h <;> rfl
theorem cm_op {op : CmpOp} {o : Cm} (h : cmOf op = some o) : op = cmOp o := by
  cases op <;> cases h <;> rfl
theorem e_bin (hK : X.K = K) {a b : Expr} {x y : Ex} {op : Operator} {o : B2} {p : Pos} (h : b2Of op = some o) (ha : PE X a (tE K ca R G E x)) (hb : PE X b (tE K ca R G E y)) : PE X (.BinOp a op b p) (tE K ca R G E (.bin o x y)) := by
  rw [b2_op h]
  refine (pe_op (op2_ok (ca := ca) (E := E) hK o) ha hb).imp fun σ H Q ⟨ρ, S, φ, r, re, rs, e1, go⟩ => ?_
  refine tE_bnd re rs e1 go fun d1 S1 φ1 H1 v1 le1 rs1 rv1 e2 => tE_bnd (re.mono le1) rs1 e2 (go.mono le1) fun d2 S2 φ2 H2 v2 le2 rs2 rv2 e3 => ?_
  obtain ⟨d, S', e4, rfl⟩ := lft_some e3
  exact ⟨φ2, S2, d1, d2, d, S', rs2, rv1.mono le2, rv2, e4, go.mono (le1.trans le2)⟩
theorem e_neg {a : Expr} {x : Ex} {p : Pos} (ha : PE X a (tE K ca R G E x)) : PE X (.UnaryOp .USub a p) (tE K ca R G E (.neg x)) := by
  refine (pe_un un_neg ha).imp fun σ H Q ⟨ρ, S, φ, r, re, rs, e1, go⟩ => ?_
  refine tE_bnd re rs e1 go fun d1 S1 φ1 H1 v1 le1 rs1 rv1 e2 => ?_
  split at e2
  · cases e2
    cases rv1
    exact ⟨_, rfl, (go.mono le1).here rs1 (.int _)⟩
  · cases e2
theorem e_nt (hK : X.K = K) {a : Expr} {x : Ex} {p : Pos} (ha : PE X a (tE K ca R G E x)) : PE X (.UnaryOp .Not a p) (tE K ca R G E (.nt x)) := by
  refine (pe_notT ha).imp fun σ H Q ⟨ρ, S, φ, r, re, rs, e1, go⟩ => ?_
  refine tE_bnd re rs e1 go fun d1 S1 φ1 H1 v1 le1 rs1 rv1 e2 => ?_
  obtain ⟨d, e3, rfl⟩ := lf0_some e2
  simp only [Option.map_eq_some_iff] at e3
  obtain ⟨b, e3, rfl⟩ := e3
  subst hK
  exact ⟨b, rs1.tru rv1 e3, (go.mono le1).here rs1 (.bl _)⟩
theorem t_nt {a : Expr} {x : Ex} {p : Pos} (ha : PT X a (tT K ca R G E x)) : PT X (.UnaryOp .Not a p) (tT K ca R G E (.nt x)) := by
  refine (pt_not ha).imp fun σ H Q ⟨ρ, S, φ, r, re, rs, e1, go⟩ => ?_
  refine tT_bnd re rs e1 go fun d1 S1 φ1 H1 v1 le1 rs1 rv1 e2 => ?_
  split at e2
  · cases e2
    cases rv1
    obtain ⟨b', eb, q⟩ := (go.mono le1).here rs1 (.bl _)
    cases eb
    exact ⟨_, rfl, q⟩
  · cases e2
end
end Mx
set_option Elab.async false
set_option linter.all false
set_option maxRecDepth 100000
set_option maxHeartbeats 6500000
namespace Mx
open L2 PySem PySem.Spec PyProof.Rows
section
variable {T : Tb} {N : List Str} {K : PySem.W.Frag} {ca : Nat → Addr} {R : Nat → List D → Sto → Mo D} {G : List D} {k : Nat} {X : Cx} {sc : Scope} {B : Bool} {E : XK}
variable {φ φ' : List Addr} {H H' : Hp} {S S' : Sto} {ρ : Rho} {σ : L2.St}
/-! ### comparisons -/
theorem e_cmp (hK : X.K = K) (hu : X.A.units + 100 < cLine) {a b : Expr} {x y : Ex} {op : CmpOp} {o : Cm} {p : Pos} (h : cmOf op = some o) (hm : behindInMarks op b = false) (ha : PE X a (tE K ca R G E x)) (hb : PE X b (tE K ca R G E y)) :
    PE X (.Compare a [op] [b] p) (tE K ca R G E (.cmp o x y)) ∧ PT X (.Compare a [op] [b] p) (tT K ca R G E (.cmp o x y)) := by
  rw [cm_op h] at hm ⊢
  constructor
  · refine (pe_cmpR (cm2_ok (ca := ca) hK hu o) ha hb hm).imp fun σ H Q ⟨ρ, S, φ, r, re, rs, e1, go⟩ => ?_
    refine tE_bnd re rs e1 go fun d1 S1 φ1 H1 v1 le1 rs1 rv1 e2 => tE_bnd (re.mono le1) rs1 e2 (go.mono le1) fun d2 S2 φ2 H2 v2 le2 rs2 rv2 e3 => ?_
    obtain ⟨d, e4, rfl⟩ := lf0_some e3
    simp only [Option.map_eq_some_iff] at e4
    obtain ⟨c, e4, rfl⟩ := e4
    exact ⟨φ2, S2, d1, d2, c, rs2, rv1.mono le2, rv2, e4, (go.mono (le1.trans le2)).here rs2 (.bl c)⟩
  · refine (pt_cmpR (cm2_ok (ca := ca) hK hu o) ha hb hm).imp fun σ H Q ⟨ρ, S, φ, r, re, rs, e1, go⟩ => ?_
    refine tE_bnd re rs e1 go fun d1 S1 φ1 H1 v1 le1 rs1 rv1 e2 => tE_bnd (re.mono le1) rs1 e2 (go.mono le1) fun d2 S2 φ2 H2 v2 le2 rs2 rv2 e3 => ?_
    obtain ⟨d, e4, rfl⟩ := lf0_some e3
    simp only [Option.map_eq_some_iff] at e4
    obtain ⟨c, e4, rfl⟩ := e4
    exact ⟨φ2, S2, d1, d2, c, rs2, rv1.mono le2, rv2, e4, (go.mono (le1.trans le2)).here rs2 (.bl c)⟩
theorem chn_read (hu : X.A.units + 100 < cLine) {x y z : Ex} {o o' : Cm} {Q : VK} {r : Rs D} (re : RE K φ H ρ σ) (rs : RS K ca φ H S) (e1 : ev R G (.chn o o' x y z) false ρ S = some r) (go : Go K ca E φ H r Q) :
    tChain (rC K ca o) (rC K ca o') (tE K ca R G E x) (tE K ca R G E y) (tE K ca R G E z) σ H Q := by
  refine tE_bnd re rs e1 go fun d1 S1 φ1 H1 v1 le1 rs1 rv1 e2 => tE_bnd (re.mono le1) rs1 e2 (go.mono le1) fun d2 S2 φ2 H2 v2 le2 rs2 rv2 e3 => ?_
  have le12 := le1.trans le2
  split at e3
  · rename_i q
    refine ⟨φ2, S2, d1, d2, true, rs2, rv1.mono le2, rv2, q, true, rfl, ?_⟩
    rw [if_pos rfl]
    refine tE_bnd (re.mono le12) rs2 e3 (go.mono le12) fun d3 S3 φ3 H3 v3 le3 rs3 rv3 e4 => ?_
    obtain ⟨d, e5, rfl⟩ := lf0_some e4
    simp only [Option.map_eq_some_iff] at e5
    obtain ⟨c, e5, rfl⟩ := e5
    exact ⟨φ3, S3, d2, d3, c, rs3, rv2.mono le3, rv3, e5, (go.mono (le12.trans le3)).here rs3 (.bl c)⟩
  · rename_i q
    refine ⟨φ2, S2, d1, d2, false, rs2, rv1.mono le2, rv2, q, false, rfl, ?_⟩
    (rw [if_neg Bool.false_ne_true])
    cases e3
    exact (go.mono le12).here rs2 (.bl false)
  · cases e3
theorem e_chn (hK : X.K = K) (hu : X.A.units + 100 < cLine) {a b c : Expr} {x y z : Ex} {op op' : CmpOp} {o o' : Cm} {p : Pos} (h : cmOf op = some o) (h' : cmOf op' = some o') (hm : lastMarks [op, op'] [b, c] = false)
    (ha : PE X a (tE K ca R G E x)) (hb : PE X b (tE K ca R G E y)) (hc : PE X c (tE K ca R G E z)) :
    PE X (.Compare a [op, op'] [b, c] p) (tE K ca R G E (.chn o o' x y z)) ∧ PT X (.Compare a [op, op'] [b, c] p) (tT K ca R G E (.chn o o' x y z)) := by
  rw [cm_op h, cm_op h'] at hm ⊢
  constructor
  · exact (pe_chain (cm2_ok (ca := ca) hK hu o) (cm2_ok (ca := ca) hK hu o') ha hb hc hm).imp fun σ H Q ⟨ρ, S, φ, r, re, rs, e1, go⟩ => chn_read hu re rs e1 go
  · refine (pt_chain (cm2_ok (ca := ca) hK hu o) (cm2_ok (ca := ca) hK hu o') ha hb hc hm).imp fun σ H Q ⟨ρ, S, φ, r, re, rs, e1, go⟩ => ?_
    exact chn_read (R := R) (G := G) (E := E) (x := x) (y := y) (z := z) hu re rs e1 go
/-! ### and, or -/
theorem w_an {a b : Expr} {rest : List Expr} {x y : Ex} {p : Pos} (ha : PT X a (tT K ca R G E x)) (hb : PW X (.BoolOp .And (b :: rest) p) (tT K ca R G E y)) : PW X (.BoolOp .And (a :: b :: rest) p) (tT K ca R G E (.an x y)) := by
  refine (pw_and ha hb).imp fun σ H Q ⟨ρ, S, φ, r, re, rs, e1, go⟩ => ?_
  refine tT_bnd re rs e1 go fun d1 S1 φ1 H1 v1 le1 rs1 rv1 e2 => ?_
  split at e2
  · cases rv1
    refine ⟨true, rfl, ?_⟩
    rw [if_pos rfl]
    exact ⟨ρ, S1, φ1, r, re.mono le1, rs1, e2, go.mono le1⟩
  · cases rv1
    cases e2
    refine ⟨false, rfl, ?_⟩
    (rw [if_neg Bool.false_ne_true])
    obtain ⟨b', eb, q⟩ := (go.mono le1).here rs1 (.bl false)
    cases eb
    exact q
  · cases e2
theorem w_or {a b : Expr} {rest : List Expr} {x y : Ex} {p : Pos} (ha : PT X a (tT K ca R G E x)) (hb : PW X (.BoolOp .Or (b :: rest) p) (tT K ca R G E y)) : PW X (.BoolOp .Or (a :: b :: rest) p) (tT K ca R G E (.or x y)) := by
  refine (pw_or ha hb).imp fun σ H Q ⟨ρ, S, φ, r, re, rs, e1, go⟩ => ?_
  refine tT_bnd re rs e1 go fun d1 S1 φ1 H1 v1 le1 rs1 rv1 e2 => ?_
  split at e2
  · cases rv1
    cases e2
    refine ⟨true, rfl, ?_⟩
    rw [if_pos rfl]
    obtain ⟨b', eb, q⟩ := (go.mono le1).here rs1 (.bl true)
    cases eb
    exact q
  · cases rv1
    refine ⟨false, rfl, ?_⟩
    (rw [if_neg Bool.false_ne_true])
    exact ⟨ρ, S1, φ1, r, re.mono le1, rs1, e2, go.mono le1⟩
  · cases e2
theorem e_an {a b : Expr} {rest : List Expr} {x y : Ex} {p : Pos} (ha : PE X a (tE K ca R G E x)) (hb : PE X (.BoolOp .And (b :: rest) p) (tE K ca R G E y)) : PE X (.BoolOp .And (a :: b :: rest) p) (tE K ca R G E (.an x y)) := by
  refine (pe_and ha hb).imp fun σ H Q ⟨ρ, S, φ, r, re, rs, e1, go⟩ => ?_
  refine tE_bnd re rs e1 go fun d1 S1 φ1 H1 v1 le1 rs1 rv1 e2 => ?_
  split at e2
  · cases rv1
    refine ⟨true, rfl, ?_⟩
    rw [if_pos rfl]
    exact ⟨ρ, S1, φ1, r, re.mono le1, rs1, e2, go.mono le1⟩
  · cases rv1
    cases e2
    refine ⟨false, rfl, ?_⟩
    (rw [if_neg Bool.false_ne_true])
    exact (go.mono le1).here rs1 (.bl false)
  · cases e2
theorem e_or {a b : Expr} {rest : List Expr} {x y : Ex} {p : Pos} (ha : PE X a (tE K ca R G E x)) (hb : PE X (.BoolOp .Or (b :: rest) p) (tE K ca R G E y)) : PE X (.BoolOp .Or (a :: b :: rest) p) (tE K ca R G E (.or x y)) := by
  refine (pe_or ha hb).imp fun σ H Q ⟨ρ, S, φ, r, re, rs, e1, go⟩ => ?_
  refine tE_bnd re rs e1 go fun d1 S1 φ1 H1 v1 le1 rs1 rv1 e2 => ?_
  split at e2
  · cases rv1
    cases e2
    refine ⟨true, rfl, ?_⟩
    rw [if_pos rfl]
    exact (go.mono le1).here rs1 (.bl true)
  · cases rv1
    refine ⟨false, rfl, ?_⟩
    (rw [if_neg Bool.false_ne_true])
    exact ⟨ρ, S1, φ1, r, re.mono le1, rs1, e2, go.mono le1⟩
  · cases e2
theorem e_ite {a b c : Expr} {x y z : Ex} {p : Pos} (hc : PT X c (tT K ca R G E x)) (ha : PE X a (tE K ca R G E y)) (hb : PE X b (tE K ca R G E z)) : PE X (.IfExp c a b p) (tE K ca R G E (.ite x y z)) := by
  refine (pe_ifExp hc ha hb).imp fun σ H Q ⟨ρ, S, φ, r, re, rs, e1, go⟩ => ?_
  refine tT_bnd re rs e1 go fun d1 S1 φ1 H1 v1 le1 rs1 rv1 e2 => ?_
  split at e2
  · cases rv1
    refine ⟨true, rfl, ?_⟩
    rw [if_pos rfl]
    exact ⟨ρ, S1, φ1, r, re.mono le1, rs1, e2, go.mono le1⟩
  · cases rv1
    refine ⟨false, rfl, ?_⟩
    (rw [if_neg Bool.false_ne_true])
    exact ⟨ρ, S1, φ1, r, re.mono le1, rs1, e2, go.mono le1⟩
  · cases e2
theorem t_ite {e : Expr} {x y z : Ex} : PT X e (tT K ca R G E (.ite x y z)) := ⟨fun pins s σ H Q I ⟨ρ, S, φ, r, re, rs, e1, go⟩ => by cases e1⟩
/-! ### argument lists -/
theorem es_of {f : Expr → Option Ex} (hf : ∀ e m, f e = some m → PE X e (tE K ca R G E m)) : ∀ {es : List Expr} {ms : Exs}, cpL f es = some ms → PA X es (tEs K ca R G E ms)
  | [], ms, h => by
    cases h
    refine pa_nil.imp fun σ H Q ⟨ρ, S, φ, r, re, rs, e1, go⟩ => ?_
    cases e1
    exact go φ H [] (Le.refl _ _) rs .nil
  | e :: es, ms, h => by
    simp only [cpL] at h
    split at h
    · rename_i hn
      split at h
      · rename_i m ms' h1 h2
        cases h
        refine (pa_cons (hf e m h1) (es_of hf h2) (star_cons hn _ _)).imp fun σ H Q ⟨ρ, S, φ, r, re, rs, e1, go⟩ => ?_
        simp only [evs] at e1
        cases q1 : ev R G m false ρ S with
        | none => rw [q1] at e1; cases e1
        | some o1 =>
          rw [q1] at e1
          cases o1 with
          | er x S1 => cases e1; exact ⟨ρ, S, φ, _, re, rs, q1, go⟩
          | ok d S1 =>
            refine ⟨ρ, S, φ, _, re, rs, q1, fun φ1 H1 v le1 rs1 rv1 => ?_⟩
            simp only [bnd] at e1
            cases q2 : evs R G ms' ρ S1 with
            | none => rw [q2] at e1; cases e1
            | some o2 =>
              rw [q2] at e1
              cases o2 with
              | er x S2 => cases e1; exact ⟨ρ, S1, φ1, _, re.mono le1, rs1, q2, fun φ2 H2 c dd le2 => go φ2 H2 c dd (le1.trans le2)⟩
              | ok ds S2 =>
                cases e1
                exact ⟨ρ, S1, φ1, _, re.mono le1, rs1, q2, fun φ2 H2 vs le2 rs2 rv2 => go φ2 H2 (v :: vs) (le1.trans le2) rs2 (.cons (rv1.mono le2) rv2)⟩
      · cases h
    · cases h
theorem e_tup {es : List Expr} {ms : Exs} {n : Nat} {p : Pos} (h : PA X es (tEs K ca R G E ms)) : PE X (.Tuple es n p) (tE K ca R G E (.tup ms)) := by
  refine (pe_tup h).imp fun σ H Q ⟨ρ, S, φ, r, re, rs, e1, go⟩ => ?_
  refine tEs_bnd re rs e1 go fun ds S1 φ1 H1 vs le1 rs1 rv1 e2 => ?_
  split at e2
  · rename_i hz
    cases e2
    refine ⟨by rw [← rv1.length]; exact lim_le hz, fun q nq => ?_⟩
    exact (go.mono le1) φ1 _ _ (Le.new nq) (rs1.new nq) (.tup (.of upd_same) (rv1.mono (Le.new nq)))
  · cases e2
theorem e_lst {es : List Expr} {ms : Exs} {p : Pos} (h : PA X es (tEs K ca R G E ms)) : PE X (.List es p) (tE K ca R G E (.lst ms)) := by
  refine (pe_lst h).imp fun σ H Q ⟨ρ, S, φ, r, re, rs, e1, go⟩ => ?_
  refine tEs_bnd re rs e1 go fun ds S1 φ1 H1 vs le1 rs1 rv1 e2 => ?_
  split at e2
  · rename_i hz
    cases e2
    refine ⟨by rw [← rv1.length]; exact lim_le hz, fun q nq => ?_⟩
    refine (go.mono le1) (φ1 ++ [q]) _ _ (Le.add nq) (rs1.addL nq rv1) (.ref ?_)
    rw [← rs1.len]
    simp
  · cases e2
/-! ### calls -/
theorem e_cal (c : CK T N K ca R G k X sc B E) {x : Str} {p q : Pos} {a : Expr} {as : List Expr} {ms : Exs} {f : Expr → Option Ex} (hf : ∀ e m, f e = some m → PE X e (tE K ca R G E m)) (h1 : gli sc x = true) (h2 : T.fn.contains x = true) (h3 : cpL f (a :: as) = some ms) :
    PE X (.Call (.Name x p) (a :: as) [] q) (tE K ca R G E (.cal (T.fn.idxOf x) ms)) := by
  obtain ⟨g1, g2, g3⟩ := gli_ok c h1
  obtain ⟨g, fd, ps, m1, m2, m3, m4⟩ := c.fns x h2
  have hn := cpL_star h3
  refine (pe_callG m4 c.gd c.room g1 m1 m2 m3 c.pas (es_of hf h3) g2 (star_cons (hn a List.mem_cons_self) _ _) (plain_any _ _ fun e he => hn e (List.mem_cons_of_mem _ he))).imp fun σ H Q ⟨ρ, S, φ, r, re, rs, e1, go⟩ => ?_
  refine tEs_bnd re rs e1 go fun ds S1 φ1 H1 vs le1 rs1 rv1 e2 => ?_
  rw [List.append_nil]
  exact ⟨φ1, S1, ds, r, rv1, rs1, e2, go.mono le1⟩
theorem bi_read {as : Exs} {b : Bi} {Q : VK} {r : Rs D} (re : RE K φ H ρ σ) (rs : RS K ca φ H S) (e1 : ev R G (.bi b as) false ρ S = some r) (go : Go K ca E φ H r Q) : tCB (rBi K ca E b) (tEs K ca R G E as) σ H Q := by
  refine tEs_bnd re rs e1 go fun ds S1 φ1 H1 vs le1 rs1 rv1 e2 => ?_
  obtain ⟨d, S', e3, rfl⟩ := lft_some e2
  exact ⟨φ1, S1, ds, d, S', rs1, rv1, e3, go.mono le1⟩
theorem e_bi (c : CK T N K ca R G k X sc B E) {x : Str} {p q : Pos} {a : Expr} {as : List Expr} {ms : Exs} {b : Bi} {f : Expr → Option Ex} (hf : ∀ e m, f e = some m → PE X e (tE K ca R G E m)) (h1 : gli sc x = true) (h2 : T.bis.contains x = true) (h3 : cpL f (a :: as) = some ms) (hb : biOf x = some b) :
    PE X (.Call (.Name x p) (a :: as) [] q) (tE K ca R G E (.bi b ms)) := by
  obtain ⟨g1, g2, g3⟩ := gli_ok c h1
  have hn := cpL_star h3
  have s1 := star_cons (hn a List.mem_cons_self) as X.env
  have s2 := plain_any q X.env fun e he => hn e (List.mem_cons_of_mem _ he)
  have pa := es_of hf h3
  have ok := bi_ok (X := X) (E := E) (ca := ca) c.hK c.calm c.gd c.hu b
  have mg := c.bis x h2
  have fin : ∀ {t : TE}, PE X (.Call (.Name x p) (a :: as) [] q) t → t = tCB (rBi K ca E b) (tEs K ca R G E ms) → PE X (.Call (.Name x p) (a :: as) [] q) (tE K ca R G E (.bi b ms)) := fun h e => by
    subst e
    exact h.imp fun σ H Q ⟨ρ, S, φ, r, re, rs, e1, go⟩ => bi_read re rs e1 go
  unfold biOf at hb
  split at hb
  · rename_i e; subst e; cases hb; exact fin (pe_callB ok g1 mg (by decide +kernel) pa (by decide) (by decide) s1 s2) rfl
  split at hb
  · rename_i e; subst e; cases hb; exact fin (pe_callB ok g1 mg (by decide +kernel) pa (by decide) (by decide) s1 s2) rfl
  split at hb
  · rename_i e; subst e; cases hb; exact fin (pe_callTy ok g1 mg (by decide +kernel) pa (by decide) (by decide) s1 s2) rfl
  split at hb
  · rename_i e; subst e; cases hb; exact fin (pe_callB ok g1 mg (by decide +kernel) pa (by decide) (by decide) s1 s2) rfl
  split at hb
  · rename_i e; subst e; cases hb; exact fin (pe_callB ok g1 mg (by decide +kernel) pa (by decide) (by decide) s1 s2) rfl
  split at hb
  · rename_i e; subst e; cases hb; exact fin (pe_callB ok g1 mg (by decide +kernel) pa (by decide) (by decide) s1 s2) rfl
  split at hb
  · rename_i e; subst e; cases hb; exact fin (pe_callTy ok g1 mg (by decide +kernel) pa (by decide) (by decide) s1 s2) rfl
  split at hb
  · rename_i e; subst e; cases hb; exact fin (pe_callTy ok g1 mg (by decide +kernel) pa (by decide) (by decide) s1 s2) rfl
  split at hb
  · rename_i e; subst e; cases hb; exact fin (pe_callB ok g1 mg (by decide +kernel) pa (by decide) (by decide) s1 s2) rfl
  split at hb
  · rename_i e; subst e; cases hb; exact fin (pe_callTy ok g1 mg (by decide +kernel) pa (by decide) (by decide) s1 s2) rfl
  · cases hb
theorem e_mb (c : CK T N K ca R G k X sc B E) {x : Str} {p q : Pos} {a : Expr} {as : List Expr} {ms : Exs} {b : Bi} {f : Expr → Option Ex} (hf : ∀ e m, f e = some m → PE X e (tE K ca R G E m)) (h1 : gli sc x = true) (h2 : T.mth.contains x = true) (h3 : cpL f (a :: as) = some ms) (hb : mbOf x = some b) :
    PE X (.Call (.Name x p) (a :: as) [] q) (tE K ca R G E (.bi b ms)) := by
  obtain ⟨g1, g2, g3⟩ := gli_ok c h1
  have hn := cpL_star h3
  have s1 := star_cons (hn a List.mem_cons_self) as X.env
  have s2 := plain_any q X.env fun e he => hn e (List.mem_cons_of_mem _ he)
  have pa := es_of hf h3
  have ok := bi_ok (X := X) (E := E) (ca := ca) c.hK c.calm c.gd c.hu b
  have mg := c.mth x h2 b hb
  have fin : ∀ {t : TE}, PE X (.Call (.Name x p) (a :: as) [] q) t → t = tCB (rBi K ca E b) (tEs K ca R G E ms) → PE X (.Call (.Name x p) (a :: as) [] q) (tE K ca R G E (.bi b ms)) := fun h e => by
    subst e
    exact h.imp fun σ H Q ⟨ρ, S, φ, r, re, rs, e1, go⟩ => bi_read re rs e1 go
  unfold mbOf at hb
  split at hb
  · cases hb; exact fin (pe_callBfun ok g1 mg pa g2 s1 s2) rfl
  split at hb
  · cases hb; exact fin (pe_callBfun ok g1 mg pa g2 s1 s2) rfl
  · cases hb
theorem e_isi (c : CK T N K ca R G k X sc B E) {x t : Str} {p q tp : Pos} {a : Expr} {m : Ex} {ty : Ty} (ha : PE X a (tE K ca R G E m)) (hn : noStar a = true) (hx : x = ("isinstance" : Str)) (h1 : gli sc x = true) (h2 : T.bis.contains x = true) (h3 : gli sc t = true) (h4 : T.bis.contains t = true) (ht : tyOf t = some ty) :
    PE X (.Call (.Name x p) [a, .Name t tp] [] q) (tE K ca R G E (.isi m ty)) := by
  obtain ⟨g1, g2, g3⟩ := gli_ok c h1
  obtain ⟨g4, g5, g6⟩ := gli_ok c h3
  subst hx
  have mt := c.bis t h4
  have pt : PE X (.Name t tp) (tC (.ty (tyN ty))) := by
    unfold tyOf at ht
    split at ht
    · rename_i e; subst e; cases ht; exact pe_bltn g4 mt (by decide +kernel) rfl g6 g5
    split at ht
    · rename_i e; subst e; cases ht; exact pe_bltn g4 mt (by decide +kernel) rfl g6 g5
    split at ht
    · rename_i e; subst e; cases ht; exact pe_bltn g4 mt (by decide +kernel) rfl g6 g5
    split at ht
    · rename_i e; subst e; cases ht; exact pe_bltn g4 mt (by decide +kernel) rfl g6 g5
    split at ht
    · rename_i e; subst e; cases ht; exact pe_bltn g4 mt (by decide +kernel) rfl g6 g5
    · cases ht
  refine (pe_callB (isi_ok (ca := ca) c.hK) g1 (c.bis _ h2) (by decide +kernel) (pa_cons ha (pa_cons pt pa_nil) (star_cons hn _ _)) (by decide) (by decide) (star_cons hn _ _) rfl).imp fun σ H Q ⟨ρ, S, φ, r, re, rs, e1, go⟩ => ?_
  refine tE_bnd re rs e1 go fun d1 S1 φ1 H1 v1 le1 rs1 rv1 e2 => ?_
  obtain ⟨d, e3, rfl⟩ := lf0_some e2
  simp only [Option.map_eq_some_iff] at e3
  obtain ⟨b, e3, rfl⟩ := e3
  exact ⟨φ1, S1, d1, v1, ty, b, rfl, rs1, rv1, e3, (go.mono le1).here rs1 (.bl b)⟩
end
end Mx
set_option Elab.async false
set_option linter.all false
set_option maxRecDepth 100000
set_option maxHeartbeats 6500000
namespace Mx
open L2 PySem PySem.Spec PyProof.Rows
section
variable {T : Tb} {N : List Str} {K : PySem.W.Frag} {ca : Nat → Addr} {R : Nat → List D → Sto → Mo D} {G : List D} {k : Nat} {X : Cx} {sc : Scope} {B : Bool} {E : XK}
variable {φ φ' : List Addr} {H H' : Hp} {S S' : Sto} {ρ : Rho} {σ : L2.St}
/-! ### methods of lists -/
theorem base_of {o : Expr} (h : noSuper o = true) (m : Str) (env : PySem.Env) (w : Sem Value) : attributeBase o m env w = w := by
  unfold attributeBase
  split
  · cases h
  · rfl
theorem RS.isL (h : RS K ca φ H S) {d : D} {v : V} (r : RV K φ H d v) (e : Mx.isL S d = true) : tyV K "list" v H := by
  unfold Mx.isL at e
  split at e
  · cases q : lstOf S _ with
    | none => (rw [q] at e; cases e)
    | some l =>
      cases r with
      | ref ha =>
        obtain ⟨xs, h1, _⟩ := h.lst q ha
        exact .inl ⟨rfl, xs, h1⟩
  · cases e
theorem mth_read {o : Ex} {as : Exs} {m : Mt} {Q : VK} {r : Rs D} (hK : X.K = K) (re : RE K φ H ρ σ) (rs : RS K ca φ H S) (e1 : ev R G (.mth m o as) false ρ S = some r) (go : Go K ca E φ H r Q) :
    tBM X.K "list" (rMt K ca E m) (tE K ca R G E o) (tEs K ca R G E as) σ H Q := by
  subst hK
  refine tE_bnd re rs e1 go fun d1 S1 φ1 H1 v1 le1 rs1 rv1 e2 => ?_
  split at e2
  · rename_i hl
    refine ⟨rs1.isL rv1 hl, tEs_bnd (re.mono le1) rs1 e2 (go.mono le1) fun ds S2 φ2 H2 vs le2 rs2 rv2 e3 => ?_⟩
    obtain ⟨d, S', e4, rfl⟩ := lft_some e3
    exact ⟨φ2, S2, d1, ds, d, S', rs2, rv1.mono le2, rv2, e4, go.mono (le1.trans le2)⟩
  · cases e2
theorem e_mth (hK : X.K = K) {o : Expr} {as : List Expr} {m : Str} {ap p : Pos} {x : Ex} {xs : Exs} {kd : Mt} {f : Expr → Option Ex} (hf : ∀ e m, f e = some m → PE X e (tE K ca R G E m)) (hm : mtOf m = some kd) (ho : PE X o (tE K ca R G E x)) (h3 : cpL f as = some xs)
    (hs : noSuper o = true) (hl : (ap.endLine == p.line) = true) (hn : as.length < 20) : PE X (.Call (.Attribute o m ap) as [] p) (tE K ca R G E (.mth kd x xs)) := by
  have ok := mt_ok (X := X) (E := E) (ca := ca) hK kd
  have st := cpL_star h3
  cases as with
  | nil =>
    cases h3
    have fin : ∀ {t : TE}, PE X (.Call (.Attribute o m ap) [] [] p) t → t = tBM0 X.K "list" (rMt K ca E kd) (tE K ca R G E x) → PE X (.Call (.Attribute o m ap) [] [] p) (tE K ca R G E (.mth kd x .nil)) := fun h e => by
      subst e
      refine h.imp fun σ H Q ⟨ρ, S, φ, r, re, rs, e1, go⟩ => ?_
      subst hK
      refine tE_bnd re rs e1 go fun d1 S1 φ1 H1 v1 le1 rs1 rv1 e2 => ?_
      split at e2
      · rename_i hl
        obtain ⟨d, S', e4, rfl⟩ := lft_some e2
        exact ⟨rs1.isL rv1 hl, φ1, S1, d1, [], d, S', rs1, rv1, .nil, e4, go.mono le1⟩
      · cases e2
    unfold mtOf at hm
    split at hm
    · rename_i e; subst e; cases hm; exact fin (pe_bm0 PySem.F.plainAttrs_list PySem.F.slot_list_append PySem.F.type_list_append ok ho (base_of hs _ _ _) hl) rfl
    split at hm
    · rename_i e; subst e; cases hm; exact fin (pe_bm0 PySem.F.plainAttrs_list PySem.F.slot_list_extend PySem.F.type_list_extend ok ho (base_of hs _ _ _) hl) rfl
    split at hm
    · rename_i e; subst e; cases hm; exact fin (pe_bm0 PySem.F.plainAttrs_list PySem.F.slot_list_pop PySem.F.type_list_pop ok ho (base_of hs _ _ _) hl) rfl
    · cases hm
  | cons a as =>
    have pa := es_of hf h3
    have s1 := star_cons (st a List.mem_cons_self) as X.env
    have s2 := plain_any p X.env fun e he => st e (List.mem_cons_of_mem _ he)
    have few : ((backTo p (starEach (a :: as) X.env)).all (fun x => !x.1) && (backToKw p (keywordEach [] X.env)).all (fun x => x.1.isSome)
      && decide ((a :: as).length + ([] : List Keyword).length + (if ([] : List Keyword).isEmpty then 0 else 1) < 30)) = true := by
      rw [plain_all p X.env st]
      have : (backToKw p (keywordEach [] X.env)).all (fun x => x.1.isSome) = true := rfl
      rw [this]
      simp only [Bool.true_and, decide_eq_true_eq, List.length_nil, List.isEmpty_nil, if_true]
      omega
    have fin : ∀ {t : TE}, PE X (.Call (.Attribute o m ap) (a :: as) [] p) t → t = tBM X.K "list" (rMt K ca E kd) (tE K ca R G E x) (tEs K ca R G E xs) → PE X (.Call (.Attribute o m ap) (a :: as) [] p) (tE K ca R G E (.mth kd x xs)) := fun h e => by
      subst e
      exact h.imp fun σ H Q ⟨ρ, S, φ, r, re, rs, e1, go⟩ => mth_read hK re rs e1 go
    unfold mtOf at hm
    split at hm
    · rename_i e; subst e; cases hm; exact fin (pe_bm PySem.F.plainAttrs_list PySem.F.slot_list_append PySem.F.type_list_append ok ho pa (base_of hs _ _ _) few hl s1 s2) rfl
    split at hm
    · rename_i e; subst e; cases hm; exact fin (pe_bm PySem.F.plainAttrs_list PySem.F.slot_list_extend PySem.F.type_list_extend ok ho pa (base_of hs _ _ _) few hl s1 s2) rfl
    split at hm
    · rename_i e; subst e; cases hm; exact fin (pe_bm PySem.F.plainAttrs_list PySem.F.slot_list_pop PySem.F.type_list_pop ok ho pa (base_of hs _ _ _) few hl s1 s2) rfl
    · cases hm
/-! ### items, slices -/
theorem plain_ix {b : Expr} (h : noSlice b = true) : PlainIx b := by
  intro o i
  cases b <;> first | rfl | cases h
theorem e_idx (hK : X.K = K) {a b : Expr} {x y : Ex} {p : Pos} (hb' : noSlice b = true) (ha : PE X a (tE K ca R G E x)) (hb : PE X b (tE K ca R G E y)) : PE X (.Subscript a b p) (tE K ca R G E (.idx x y)) := by
  refine (pe_ix (ix_ok (ca := ca) hK) ha hb (plain_ix hb')).imp fun σ H Q ⟨ρ, S, φ, r, re, rs, e1, go⟩ => ?_
  refine tE_bnd re rs e1 go fun d1 S1 φ1 H1 v1 le1 rs1 rv1 e2 => tE_bnd (re.mono le1) rs1 e2 (go.mono le1) fun d2 S2 φ2 H2 v2 le2 rs2 rv2 e3 => ?_
  obtain ⟨d, e4, rfl⟩ := lf0_some e3
  exact ⟨φ2, S2, d1, d2, d, rs2, rv1.mono le2, rv2, e4, fun v rv => (go.mono (le1.trans le2)).here rs2 rv⟩
/-- a part of a slice -/
def tOp1 (K : PySem.W.Frag) (ca : Nat → Addr) (R : Nat → List D → Sto → Mo D) (G : List D) (E : XK) (as : Exs) : TO := fun σ H Q => ∃ ρ S φ r, RE K φ H ρ σ ∧ RS K ca φ H S ∧ evs R G as ρ S = some r ∧ match r with
  | .ok ds S' => ∃ o, oInt ds = some o ∧ ∀ φ' H', Le φ H φ' H' → RS K ca φ' H' S' → Q o H'
  | .er x S' => ∀ φ' H' c dd, Le φ H φ' H' → RS K ca φ' H' S' → RX K ca φ' H' x c dd → E c dd H'
theorem po_ok {o : Option Expr} {as : Exs} {f : Expr → Option Ex} (hf : ∀ e m, f e = some m → PE X e (tE K ca R G E m)) (h : (match o with
        | none => some .nil
        | some l => (f l).map fun m => Exs.cons m .nil) = some as) : PO X o (tOp1 K ca R G E as) := by
  cases o with
  | none =>
    cases h
    refine ⟨fun pins s σ H Q I ⟨ρ, S, φ, r, re, rs, e1, q⟩ => po_none.run pins s σ H Q I ?_⟩
    cases e1
    obtain ⟨o, e2, q⟩ := q
    cases e2
    exact q φ H (Le.refl _ _) rs
  | some l =>
    (simp only [Option.map_eq_some_iff] at h)
    obtain ⟨m, h1, rfl⟩ := h
    refine ⟨fun pins s σ H Q I ⟨ρ, S, φ, r, re, rs, e1, q⟩ => (po_some (hf l m h1)).run pins s σ H Q I ?_⟩
    simp only [evs] at e1
    cases q1 : ev R G m false ρ S with
    | none => rw [q1] at e1; cases e1
    | some o1 =>
      rw [q1] at e1
      cases o1 with
      | er x S1 => cases e1; exact ⟨ρ, S, φ, _, re, rs, q1, q⟩
      | ok d S1 =>
        cases e1
        obtain ⟨o, e2, q⟩ := q
        refine ⟨ρ, S, φ, _, re, rs, q1, fun φ1 H1 v le1 rs1 rv1 => ?_⟩
        cases rv1 with
        | int i => cases e2; exact ⟨i, rfl, q φ1 H1 le1 rs1⟩
        | _ => cases e2
theorem e_slc (hK : X.K = K) {a : Expr} {lo hi : Option Expr} {x : Ex} {l h : Exs} {p p2 : Pos} (ha : PE X a (tE K ca R G E x)) (hl : PO X lo (tOp1 K ca R G E l)) (hh : PO X hi (tOp1 K ca R G E h)) : PE X (.Subscript a (.Slice lo hi none p2) p) (tE K ca R G E (.slc x l h)) := by
  refine (pe_slice (sl_ok (ca := ca) (E := E) hK) ha hl hh).imp fun σ H Q ⟨ρ, S, φ, r, re, rs, e1, go⟩ => ?_
  refine tE_bnd re rs e1 go fun d1 S1 φ1 H1 v1 le1 rs1 rv1 e2 => ?_
  cases q1 : evs R G l ρ S1 with
  | none => rw [q1] at e2; cases e2
  | some o1 =>
    rw [q1] at e2
    cases o1 with
    | er x S2 => cases e2; exact ⟨ρ, S1, φ1, _, re.mono le1, rs1, q1, fun φ2 H2 c dd le2 => go φ2 H2 c dd (le1.trans le2)⟩
    | ok ls S2 =>
      simp only [bnd] at e2
      split at e2
      · rename_i hls
        obtain ⟨lo', hls⟩ := Option.isSome_iff_exists.mp hls
        cases q2 : evs R G h ρ S2 with
        | none => rw [q2] at e2; cases e2
        | some o2 =>
          rw [q2] at e2
          cases o2 with
          | er x S3 =>
            cases e2
            exact ⟨ρ, S1, φ1, _, re.mono le1, rs1, q1, lo', hls, fun φ2 H2 le2 rs2 => ⟨ρ, S2, φ2, _, re.mono (le1.trans le2), rs2, q2, fun φ3 H3 c dd le3 => go φ3 H3 c dd (le1.trans (le2.trans le3))⟩⟩
          | ok hs S3 =>
            simp only at e2
            obtain ⟨d, S', e4, rfl⟩ := lft_some e2
            have e5 := e4
            unfold sl1 at e5
            split at e5
            · rename_i lo' hi' h1 h2
              exact ⟨ρ, S1, φ1, _, re.mono le1, rs1, q1, lo', h1, fun φ2 H2 le2 rs2 => ⟨ρ, S2, φ2, _, re.mono (le1.trans le2), rs2, q2, hi', h2, fun φ3 H3 le3 rs3 => ⟨φ3, S3, d1, ls, hs, d, S', rs3, (rv1.mono le2).mono le3, h1, h2, e4, go.mono (le1.trans (le2.trans le3))⟩⟩⟩
            · cases e5
      · cases e2
end
end Mx
set_option Elab.async false
set_option linter.all false
set_option maxRecDepth 100000
set_option maxHeartbeats 6500000
namespace Mx
open L2 PySem PySem.Spec PyProof.Rows
section
variable {T : Tb} {N : List Str} {K : PySem.W.Frag} {ca : Nat → Addr} {R : Nat → List D → Sto → Mo D} {G : List D} {k : Nat} {X : Cx} {sc : Scope} {B : Bool} {E : XK}
variable {φ φ' : List Addr} {H H' : Hp} {S S' : Sto} {ρ : Rho} {σ : L2.St}
/-! ### targets -/
def gNs : List Nat → TGs
  | [] => gNil
  | i :: is => gCons (gName i) (gNs is)
def gT (K : PySem.W.Frag) : Tg → TG
  | .nm i => gName i
  | .ns l => gTup K l.length (gNs l)
def tgS : Tg → List Nat
  | .nm i => [i]
  | .ns l => l
theorem loc_ok (c : CK T N K ca R G k X sc B E) {x : Str} (h : loc B sc x = true) : Loc X.env.scope x ∧ (X.fn x = true ∨ X.env.scope.names.lookup x = some .local) := by
  unfold loc at h
  rw [c.hs]
  simp only [Bool.or_eq_true, decide_eq_true_eq, Bool.and_eq_true, Bool.not_eq_true'] at h
  rcases h with h | ⟨h1, h2⟩
  · exact ⟨.inl h, .inr h⟩
  · exact ⟨.inr h2, .inl (c.fnl h1 x)⟩
theorem gn_ok (c : CK T N K ca R G k X sc B E) {x : Str} {p : Pos} {i : Nat} (h : loc B sc x = true) (h2 : slot N x = some i) : PG X (.Name x p) (gName i) :=
  pg_name (by rw [c.hN]; exact c.nd) (by rw [c.hN]; exact (slot_at h2).1) (loc_ok c h).1 (loc_ok c h).2
theorem cpNs_each (env : PySem.Env) : ∀ {es : List Expr} {l : List Nat}, cpNs N B sc es = some l → (assignEach es env).length = l.length ∧ (assignEach es env).findIdx? (·.1) = none
  | [], l, h => by cases h; exact ⟨rfl, rfl⟩
  | e :: es, l, h => by
    cases e with
    | Name x p =>
      simp only [cpNs] at h
      split at h
      · split at h
        · rename_i i is h1 h2
          cases h
          obtain ⟨q1, q2⟩ := cpNs_each env h2
          refine ⟨congrArg (· + 1) q1, ?_⟩
          show List.findIdx? (·.1) ((false, assign (.Name x p) env) :: assignEach es env) = none
          rw [List.findIdx?_cons, q2]
          rfl
        · cases h
      · cases h
    | _ => cases h
theorem gns_ok (c : CK T N K ca R G k X sc B E) : ∀ {es : List Expr} {l : List Nat}, cpNs N B sc es = some l → PGs X es (gNs l)
  | [], l, h => by cases h; exact pgs_nil
  | e :: es, l, h => by
    cases e with
    | Name x p =>
      simp only [cpNs] at h
      split at h
      · rename_i hl
        split at h
        · rename_i i is h1 h2
          cases h
          exact pgs_cons (gn_ok c hl h1) (gns_ok c h2) rfl
        · cases h
      · cases h
    | _ => cases h
theorem g_ok (c : CK T N K ca R G k X sc B E) {e : Expr} {t : Tg} (h : cpT N B sc e = some t) : PG X e (gT K t) := by
  cases e with
  | Name x p =>
    simp only [cpT] at h
    split at h
    · rename_i hl
      (simp only [Option.map_eq_some_iff] at h)
      obtain ⟨i, h1, rfl⟩ := h
      exact gn_ok c hl h1
    · cases h
  | Tuple es n p =>
    simp only [cpT, Option.map_eq_some_iff] at h
    obtain ⟨l, h1, rfl⟩ := h
    obtain ⟨q1, q2⟩ := cpNs_each X.env h1
    have := pg_tup (pos := p) (k := n) c.calm (gns_ok c h1) q1 q2
    rw [c.hK] at this
    exact this
  | _ => cases h
theorem wipe_set (σ : L2.St) {i : Nat} {x : Option V} : ∀ {vs : List Nat}, i ∈ vs → L2.wipe (σ.set i x) vs = L2.wipe σ vs
  | v :: vs, h => by
    have com : ∀ {vs : List Nat}, i ∉ vs → L2.wipe (σ.set i x) vs = (L2.wipe σ vs).set i x := fun {vs} => by
      induction vs with
      | nil => intro _; rfl
      | cons w ws ih =>
        intro hn
        simp only [List.mem_cons, not_or] at hn
        show (L2.wipe (σ.set i x) ws).set w none = ((L2.wipe σ ws).set w none).set i x
        rw [ih hn.2, List.set_comm _ _ hn.1]
    show (L2.wipe (σ.set i x) vs).set v none = (L2.wipe σ vs).set v none
    by_cases hi : i ∈ vs
    · rw [wipe_set σ hi]
    · have e : i = v := by
        (rcases List.mem_cons.mp h with e | e)
        · exact e
        · exact absurd e hi
      subst e
      rw [com hi, List.set_set]
theorem wipe_wipe (σ : L2.St) : ∀ vs : List Nat, L2.wipe (L2.wipe σ vs) vs = L2.wipe σ vs := by
  have gen : ∀ (us vs : List Nat), (∀ u ∈ us, u ∈ vs) → L2.wipe (L2.wipe σ us) vs = L2.wipe σ vs := by
    intro us
    induction us with
    | nil => intro vs _; rfl
    | cons u us ih =>
      intro vs h
      show L2.wipe ((L2.wipe σ us).set u none) vs = _
      rw [wipe_set _ (h u List.mem_cons_self), ih vs fun z hz => h z (List.mem_cons_of_mem _ hz)]
  exact fun vs => gen vs vs fun _ h => h
theorem ns_read : ∀ {l : List Nat} {ds : List D} {vs : List V} {ρ ρ1 : Rho} {σ : L2.St} {Q : L2.St → Hp → Prop}, setAll l ds ρ = some ρ1 → RE K φ H ρ σ → RVs K φ H ds vs →
    (∀ σ1, RE K φ H ρ1 σ1 → (∀ ws, (∀ i ∈ l, i ∈ ws) → L2.wipe σ1 ws = L2.wipe σ ws) → Q σ1 H) → gNs l vs σ H Q
  | [], ds, vs, ρ, ρ1, σ, Q, e, re, rv, q => by
    cases rv with
    | nil => cases e; exact ⟨rfl, q σ re fun _ _ => rfl⟩
    | cons r t => cases e
  | i :: is, ds, vs, ρ, ρ1, σ, Q, e, re, rv, q => by
    cases rv with
    | nil => cases e
    | cons r t =>
      refine ⟨_, _, rfl, ns_read e (re.set i r) t fun σ1 re1 hw => q σ1 re1 fun ws h => ?_⟩
      rw [hw ws fun j hj => h j (List.mem_cons_of_mem _ hj), wipe_set σ (h i List.mem_cons_self)]
theorem setAll_len : ∀ {l : List Nat} {ds : List D} {ρ ρ1 : Rho}, setAll l ds ρ = some ρ1 → ds.length = l.length
  | [], [], _, _, _ => rfl
  | [], _ :: _, _, _, h => by cases h
  | _ :: _, [], _, _, h => by cases h
  | _ :: is, _ :: ds, ρ, ρ1, h => congrArg (· + 1) (setAll_len (l := is) (ds := ds) h)
theorem g_read {t : Tg} {d : D} {v : V} {ρ1 : Rho} {Q : L2.St → Hp → Prop} (e : asgT t d ρ = some ρ1) (re : RE K φ H ρ σ) (rv : RV K φ H d v)
    (q : ∀ σ1, RE K φ H ρ1 σ1 → (∀ ws, (∀ i ∈ tgS t, i ∈ ws) → L2.wipe σ1 ws = L2.wipe σ ws) → Q σ1 H) : gT K t v σ H Q := by
  cases t with
  | nm i =>
    cases e
    exact q _ (re.set i rv) fun ws h => wipe_set σ (h i List.mem_cons_self)
  | ns l =>
    cases rv with
    | tup s t1 => exact ⟨_, _, rfl, s, by rw [← t1.length]; exact setAll_len e, ns_read e re t1 q⟩
    | _ => cases e
theorem own_sub {e : Expr} {t : Tg} (h : cpT N B sc e = some t) : ∀ i ∈ tgS t, i ∈ (ownOf N e).map (·.2) := by
  cases e with
  | Name x p =>
    simp only [cpT] at h
    split at h
    · simp only [Option.map_eq_some_iff] at h
      obtain ⟨i, h1, rfl⟩ := h
      intro j hj
      rw [(slot_at h1).2] at hj
      simpa [tgS, ownOf] using hj
    · cases h
  | Tuple es n p =>
    simp only [cpT, Option.map_eq_some_iff] at h
    obtain ⟨l, h1, rfl⟩ := h
    simp only [tgS, ownOf]
    clear n p
    induction es generalizing l with
    | nil => cases h1; intro i hi; cases hi
    | cons e es ih =>
      cases e with
      | Name x p =>
        simp only [cpNs] at h1
        split at h1
        · split at h1
          · rename_i i is h2 h3
            cases h1
            intro j hj
            rw [List.filterMap_cons]
            simp only [List.map_cons]
            rcases List.mem_cons.mp hj with rfl | hj
            · rw [(slot_at h2).2]
              exact List.mem_cons_self
            · exact List.mem_cons_of_mem _ (ih is h3 j hj)
          · cases h1
        · cases h1
      | _ => cases h1
  | _ => cases h
/-! ### walks -/
theorem jok_items {a : Addr} {xs : List V} {l : List D} (hs : SqT K H a xs) (r : RVs K φ H l xs) : JOk K ca φ H (Itt K a) (.items l) := by
  intro φ' H' S i o le rs e
  cases e
  have hs' := sqT_le K le hs
  have r' := r.mono le
  cases q : l[i]? with
  | none =>
    refine ⟨xs, hs', ?_⟩
    rw [← r.length]
    exact List.getElem?_eq_none_iff.mp q
  | some d =>
    obtain ⟨v, hv, rv⟩ := r'.get q
    refine ⟨⟨xs, v, hs', hv⟩, fun x H'' hy => ?_⟩
    obtain ⟨rfl, hy⟩ := hy
    have ex : x = v := Option.some.inj ((hy xs hs').symm.trans hv)
    subst ex
    exact ⟨Le.refl _ _, rs, rv⟩
theorem jok_live {r : Nat} {a : Addr} (h : φ[r]? = some a) : JOk K ca φ H (Itl K a) (.live r) := by
  intro φ' H' S i o le rs e
  simp only [nxt, Option.map_eq_some_iff] at e
  obtain ⟨l, e1, e2⟩ := e
  obtain ⟨xs, s1, t1⟩ := rs.lst e1 (le.get h)
  subst e2
  cases q : l[i]? with
  | none =>
    refine ⟨xs, s1, ?_⟩
    rw [← t1.length]
    exact List.getElem?_eq_none_iff.mp q
  | some d =>
    obtain ⟨v, hv, rv⟩ := t1.get q
    refine ⟨⟨xs, v, s1, hv⟩, fun x H'' hy => ?_⟩
    obtain ⟨rfl, hy⟩ := hy
    have ex : x = v := Option.some.inj ((hy xs s1).symm.trans hv)
    subst ex
    exact ⟨Le.refl _ _, rs, rv⟩
theorem jok_rng {lo : Int} {n : Nat} : JOk K ca φ H (L2.Itr lo n) (.items (rng lo n)) := by
  intro φ' H' S i o le rs e
  cases e
  cases q : (rng lo n)[i]? with
  | none =>
    have := List.getElem?_eq_none_iff.mp q
    show n ≤ i
    simpa [rng] using this
  | some d =>
    have hi := (List.getElem?_eq_some_iff.mp q).1
    have hi' : i < n := by simpa [rng] using hi
    refine ⟨hi', fun x H'' hy => ?_⟩
    obtain ⟨rfl, rfl⟩ := hy
    refine ⟨Le.refl _ _, rs, ?_⟩
    unfold rng at q
    rw [List.getElem?_map, List.getElem?_range hi'] at q
    cases q
    exact .int _
theorem evs_one {m : Ex} {r : Rs (List D)} (e : evs R G (.cons m .nil) ρ S = some r) : (∃ d S1, ev R G m false ρ S = some (.ok d S1) ∧ r = .ok [d] S1) ∨ ∃ x S1, ev R G m false ρ S = some (.er x S1) ∧ r = .er x S1 := by
  simp only [evs] at e
  cases q : ev R G m false ρ S with
  | none => (rw [q] at e; cases e)
  | some o =>
    rw [q] at e
    cases o with
    | ok d S1 => cases e; exact .inl ⟨d, S1, rfl, rfl⟩
    | er x S1 => cases e; exact .inr ⟨x, S1, rfl, rfl⟩
theorem i_val (hK : X.K = K) {tg e : Expr} {m : Ex} (h : PE X e (tE K ca R G E m)) : PI X tg e (tI K ca R G E .val (.cons m .nil)) := by
  refine ((pi_list h).or (pi_tup h)).imp fun σ H P ⟨ρ, S, φ, r, re, rs, e1, q⟩ => ?_
  subst hK
  rcases evs_one e1 with ⟨d, S1, e2, rfl⟩ | ⟨x, S1, e2, rfl⟩
  · obtain ⟨j, hj, q⟩ := q
    cases d with
    | tup l =>
      cases hj
      refine .inr ⟨ρ, S, φ, _, re, rs, e2, fun φ1 H1 v le1 rs1 rv1 => ?_⟩
      cases rv1 with
      | tup s t => exact ⟨_, rfl, ⟨_, s⟩, q φ1 H1 _ le1 rs1 (jok_items s t)⟩
    | ref i =>
      simp only [it1, itV, Option.map_eq_some_iff] at hj
      obtain ⟨l, hl, rfl⟩ := hj
      refine .inl ⟨ρ, S, φ, _, re, rs, e2, fun φ1 H1 v le1 rs1 rv1 => ?_⟩
      cases rv1 with
      | ref ha =>
        obtain ⟨xs, s1, _⟩ := rs1.lst hl ha
        exact ⟨_, rfl, ⟨xs, s1⟩, q φ1 H1 _ le1 rs1 (jok_live ha)⟩
    | _ => cases hj
  · exact .inl ⟨ρ, S, φ, _, re, rs, e2, q⟩
theorem okR_iff {i : Int} (h : okR i = true) : -(2 ^ 62) ≤ i ∧ i < 2 ^ 62 := by
  have h' : i.natAbs ≤ 2 ^ 62 - 1 := Nat.le_of_ble_eq_true h
  omega
theorem i_rng1 (c : CK T N K ca R G k X sc B E) {tg a : Expr} {m : Ex} {p q : Pos} (hn : noStar a = true) (g : gli sc "range" = true) (b : T.bis.contains ("range" : Str) = true) (h : PE X a (tE K ca R G E m)) :
    PI X tg (.Call (.Name "range" p) [a] [] q) (tI K ca R G E .rng (.cons m .nil)) := by
  refine (pi_range1 (gli_ok c g).1 (c.bis _ b) (pa_cons h pa_nil (star_cons hn _ _)) (star_cons hn _ _)).imp fun σ H P ⟨ρ, S, φ, r, re, rs, e1, q⟩ => ?_
  rcases evs_one e1 with ⟨d, S1, e2, rfl⟩ | ⟨x, S1, e2, rfl⟩
  · obtain ⟨j, hj, q⟩ := q
    refine ⟨ρ, S, φ, _, re, rs, e2, fun φ1 H1 v le1 rs1 rv1 => ?_⟩
    cases rv1 with
    | int i =>
      simp only [it1] at hj
      split at hj
      · rename_i hi
        cases hj
        obtain ⟨b1, b2⟩ := okR_iff hi
        exact ⟨i, rfl, b1, b2, q φ1 H1 _ le1 rs1 jok_rng⟩
      · cases hj
    | _ => cases hj
  · exact ⟨ρ, S, φ, _, re, rs, e2, q⟩
theorem i_rng2 (c : CK T N K ca R G k X sc B E) {tg a b : Expr} {m n : Ex} {p q : Pos} (hn : noStar a = true) (hn2 : noStar b = true) (g : gli sc "range" = true) (bi : T.bis.contains ("range" : Str) = true) (h : PE X a (tE K ca R G E m)) (h2 : PE X b (tE K ca R G E n)) :
    PI X tg (.Call (.Name "range" p) [a, b] [] q) (tI K ca R G E .rng (.cons m (.cons n .nil))) := by
  have st2 : starEach [b] X.env = [(false, eval b X.env)] := star_cons hn2 _ _
  refine (pi_range2 (gli_ok c g).1 (c.bis _ bi) (pa_cons h (pa_cons h2 pa_nil (star_cons hn2 _ _)) (star_cons hn _ _)) ((star_cons hn _ _).trans (by rw [st2])) st2).imp fun σ H P ⟨ρ, S, φ, r, re, rs, e1, q⟩ => ?_
  simp only [evs] at e1
  cases q1 : ev R G m false ρ S with
  | none => rw [q1] at e1; cases e1
  | some o1 =>
    rw [q1] at e1
    cases o1 with
    | er x S1 => cases e1; exact ⟨ρ, S, φ, _, re, rs, q1, q⟩
    | ok d1 S1 =>
      simp only [bnd] at e1
      refine ⟨ρ, S, φ, _, re, rs, q1, fun φ1 H1 v1 le1 rs1 rv1 => ?_⟩
      cases q2 : ev R G n false ρ S1 with
      | none => rw [q2] at e1; cases e1
      | some o2 =>
        rw [q2] at e1
        cases o2 with
        | er x S2 => cases e1; exact ⟨ρ, S1, φ1, _, re.mono le1, rs1, q2, fun φ2 H2 c dd le2 => q φ2 H2 c dd (le1.trans le2)⟩
        | ok d2 S2 =>
          cases e1
          obtain ⟨j, hj, q⟩ := q
          refine ⟨ρ, S1, φ1, _, re.mono le1, rs1, q2, fun φ2 H2 v2 le2 rs2 rv2 => ?_⟩
          cases rv1 with
          | int i =>
            cases rv2 with
            | int i2 =>
              simp only [it1] at hj
              split at hj
              · rename_i hi
                rw [Bool.and_eq_true] at hi
                cases hj
                obtain ⟨b1, b2⟩ := okR_iff hi.1
                obtain ⟨b3, b4⟩ := okR_iff hi.2
                exact ⟨i, i2, rfl, ⟨b1, b2, b3, b4⟩, q φ2 H2 _ (le1.trans le2) rs2 jok_rng⟩
              · cases hj
            | _ => cases hj
          | _ => cases hj
theorem fold_of {e : Expr} (h : noSet e = true) (env : PySem.Env) (x : Value) : foldedSetIterable e env x = pure x := by
  cases e <;> first | rfl | cases h
theorem i_ok (c : CK T N K ca R G k X sc B E) {tg e : Expr} {kd : Ib} {as : Exs} {f : Expr → Option Ex} (hf : ∀ e m, f e = some m → PE X e (tE K ca R G E m)) (h : cpI T sc f e = some (kd, as)) :
    PI X tg e (tI K ca R G E kd as) ∧ ∀ x, foldedSetIterable e X.env x = pure x := by
  unfold cpI at h
  split at h
  · rename_i x p a r pos
    refine ⟨?_, fun x => rfl⟩
    split at h
    · rename_i hx
      obtain ⟨rfl, h1, h2, h3⟩ := hx
      simp only [Option.map_eq_some_iff, Prod.mk.injEq] at h
      obtain ⟨ms, h4, h5, h6⟩ := h
      subst h5 h6
      have st := cpL_star h4
      cases r with
      | nil =>
        simp only [cpL] at h4
        split at h4
        · split at h4
          · rename_i m ms' q1 q2
            cases h4
            cases q2
            exact i_rng1 c (st a List.mem_cons_self) h1 h2 (hf _ _ q1)
          · cases h4
        · cases h4
      | cons b r =>
        cases r with
        | cons _ _ => simp at h3
        | nil =>
          simp only [cpL] at h4
          split at h4
          · split at h4
            · rename_i m ms' q1 q2
              cases h4
              split at q2
              · split at q2
                · rename_i m2 ms2 q3 q4
                  cases q2
                  cases q4
                  exact i_rng2 c (st a List.mem_cons_self) (st b (List.mem_cons_of_mem _ List.mem_cons_self)) h1 h2 (hf _ _ q1) (hf _ _ q3)
                · cases q2
              · cases q2
            · cases h4
          · cases h4
    · simp only [Option.map_eq_some_iff, Prod.mk.injEq] at h
      obtain ⟨m, h4, h5, h6⟩ := h
      subst h5 h6
      exact i_val c.hK (hf _ _ h4)
  · split at h
    · rename_i hn
      rw [Bool.and_eq_true] at hn
      simp only [Option.map_eq_some_iff, Prod.mk.injEq] at h
      obtain ⟨m, h4, h5, h6⟩ := h
      subst h5 h6
      exact ⟨i_val c.hK (hf _ _ h4), fold_of hn.2 _⟩
    · cases h
end
end Mx
set_option Elab.async false
set_option linter.all false
set_option maxRecDepth 100000
set_option maxHeartbeats 6500000
namespace Mx
open L2 PySem PySem.Spec PyProof.Rows
section
variable {T : Tb} {N : List Str} {K : PySem.W.Frag} {ca : Nat → Addr} {R : Nat → List D → Sto → Mo D} {G : List D} {k : Nat} {X : Cx} {sc : Scope} {B : Bool} {E : XK}
variable {φ φ' : List Addr} {H H' : Hp} {S S' : Sto} {ρ : Rho} {σ : L2.St}
/-- within a comprehension's block -/
theorem CK.blk (c : CK T N K ca R G k X sc B E) (s : Shared) (H : Hp) (scope : Scope) (hk : scope.kind = .function) (cl : List (Str × Addr)) (C : Addr) (fp : List Addr) :
    CK T N K ca R G k (X.blk s H scope (compEnvC scope cl C X.env) fp) (relS scope sc) true E0 where
  hs := by
    show relS scope X.env.scope = _
    rw [c.hs]
  knd := hk
  hN := c.hN
  nd := c.nd
  hK := c.hK
  calm := c.calm
  gd := c.gd
  room := c.room
  fnl := fun e => by cases e
  fns := c.fns
  bis := c.bis
  mth := c.mth
  gls := c.gls
  pas := passL
def tV (K : PySem.W.Frag) (ca : Nat → Addr) (R : Nat → List D → Sto → Mo D) (G : List D) (E : XK) : Exs → TT
  | .nil => tYes
  | .cons a _ => tT K ca R G E a
theorem lc_read {el : Ex} {own : List Nat} {t : Tg} {kd : Ib} {as ifs : Exs} {Q : VK} {r : Rs D} (ht : ∀ i ∈ tgS t, i ∈ own) (re : RE K φ H ρ σ) (rs : RS K ca φ H S) (e1 : ev R G (.lc el own t kd as ifs) false ρ S = some r) (go : Go K ca E φ H r Q) :
    tLc (tI K ca R G E kd as) (gT K t) (tV K ca R G E0 ifs) (tE K ca R G E0 el) own σ H Q := by
  have e2 : bnd (evs R G as ρ S) (fun ds S1 => match it1 S1 kd ds with
    | some j => lcL (fun ρ S => ev R G el false ρ S) (fun ρ S => evt R G ifs ρ S) t j (wipeD ρ own) S1.length (lenI j S1 + 1) 0 (S1 ++ [.lst []])
    | none => none) = some r := by
    rw [ev] at e1
    exact e1
  cases q1 : evs R G as ρ S with
  | none => rw [q1] at e2; cases e2
  | some o1 =>
    rw [q1] at e2
    cases o1 with
    | er x S1 => cases e2; exact ⟨ρ, S, φ, _, re, rs, q1, go⟩
    | ok ds S1 =>
      simp only [bnd] at e2
      split at e2
      · rename_i j hj
        refine ⟨ρ, S, φ, _, re, rs, q1, j, hj, fun φ1 H1 J le1 rs1 jok Dd nD => ?_⟩
        have b0 : RS K ca (φ1 ++ [Dd]) (upd H1 Dd (.lst [])) (S1 ++ [.lst []]) := rs1.addL nD .nil
        have bl : Le φ1 H1 (φ1 ++ [Dd]) (upd H1 Dd (.lst [])) := Le.add nD
        have kD : (φ1 ++ [Dd])[S1.length]? = some Dd := by rw [← rs1.len]; simp
        refine ⟨fun i m H2 => ∃ φ2 S2, Le (φ1 ++ [Dd]) (upd H1 Dd (.lst [])) φ2 H2 ∧ RS K ca φ2 H2 S2 ∧
          lcL (fun ρ S => ev R G el false ρ S) (fun ρ S => evt R G ifs ρ S) t j (wipeD ρ own) S1.length m i S2 = some r, ⟨_, _, _, Le.refl _ _, b0, e2⟩, ?_⟩
        rintro i m H2 ⟨φ2, S2, le2, rs2, e3⟩
        cases m with
        | zero => cases e3
        | succ n =>
          rw [lcL] at e3
          cases q2 : nxt j i S2 with
          | none => rw [q2] at e3; cases e3
          | some o2 =>
            rw [q2] at e3
            have jo := jok φ2 H2 S2 i o2 (bl.trans le2) rs2 q2
            cases o2 with
            | none =>
              cases e3
              exact .inl ⟨jo, (go.mono (le1.trans (bl.trans le2))).here rs2 (.ref (le2.get kD))⟩
            | some d =>
              simp only at e3
              refine .inr ⟨jo.1, fun H' => ∃ φ' S', Le (φ1 ++ [Dd]) (upd H1 Dd (.lst [])) φ' H' ∧ RS K ca φ' H' S' ∧
                lcL (fun ρ S => ev R G el false ρ S) (fun ρ S => evt R G ifs ρ S) t j (wipeD ρ own) S1.length n (i + 1) S' = some r, fun H' z => ⟨n, Nat.lt_succ_self n, z⟩, fun x H' hy => ?_⟩
              obtain ⟨le3, rs3, rv3⟩ := jo.2 x H' hy
              cases q3 : asgT t d (wipeD ρ own) with
              | none => rw [q3] at e3; cases e3
              | some ρ1 =>
                rw [q3] at e3
                have leA : Le φ H φ2 H' := le1.trans (bl.trans (le2.trans le3))
                refine g_read q3 ((re.mono leA).wipe own) rv3 fun σ1 re1 hw => ⟨(hw own ht).trans (wipe_wipe σ own), ?_⟩
                simp only at e3
                -- the test
                have tail : ∀ {S3 φ3 H3}, Le (φ1 ++ [Dd]) (upd H1 Dd (.lst [])) φ3 H3 → RS K ca φ3 H3 S3 → RE K φ3 H3 ρ1 σ1 →
                    (match ev R G el false ρ1 S3 with
                      | some (.ok y S2) => match mutOf S2 S1.length with
                        | some acc => if acc.length < LIM then lcL (fun ρ S => ev R G el false ρ S) (fun ρ S => evt R G ifs ρ S) t j (wipeD ρ own) S1.length n (i + 1) (S2.set S1.length (.lst (acc ++ [y]))) else none
                        | none => none
                      | _ => none) = some r →
                    tE K ca R G E0 el σ1 H3 fun y H4 => ∃ acc, H4 Dd = some (.lst acc) ∧ acc.length < sizeLine ∧ ∃ φ' S', Le (φ1 ++ [Dd]) (upd H1 Dd (.lst [])) φ' (upd H4 Dd (.lst (acc ++ [y]))) ∧ RS K ca φ' (upd H4 Dd (.lst (acc ++ [y]))) S' ∧
                      lcL (fun ρ S => ev R G el false ρ S) (fun ρ S => evt R G ifs ρ S) t j (wipeD ρ own) S1.length n (i + 1) S' = some r := by
                  intro S3 φ3 H3 leB rsB reB e5
                  cases q5 : ev R G el false ρ1 S3 with
                  | none => rw [q5] at e5; cases e5
                  | some o5 =>
                    rw [q5] at e5
                    cases o5 with
                    | er x S4 => cases e5
                    | ok y S4 =>
                      refine ⟨ρ1, S3, φ3, _, reB, rsB, q5, fun φ4 H4 v le4 rs4 rv4 => ?_⟩
                      simp only at e5
                      split at e5
                      · rename_i acc hacc
                        split at e5
                        · rename_i hz
                          have kD4 : φ4[S1.length]? = some Dd := (leB.trans le4).get kD
                          obtain ⟨xs, x1, x2⟩ := rs4.mut hacc kD4
                          refine ⟨xs, x1, by rw [← x2.length]; exact lim_lt hz, φ4, _, (leB.trans le4).trans (Le.mut x1), rs4.put (mutOf_at hacc) kD4 x1 (x2.append (.cons rv4 .nil)), e5⟩
                        · cases e5
                      · cases e5
                cases ifs with
                | nil =>
                  simp only [evt] at e3
                  simp only [tV, tYes, if_true]
                  exact tail (le2.trans le3) rs3 re1 e3
                | cons a rest =>
                  show tT K ca R G E0 a σ1 H' _
                  simp only [evt] at e3
                  cases q4 : ev R G a true ρ1 S2 with
                  | none => rw [q4] at e3; cases e3
                  | some o4 =>
                    rw [q4] at e3
                    cases o4 with
                    | er x S3 => cases e3
                    | ok b S3 =>
                      refine ⟨ρ1, S2, φ2, _, re1, rs3, q4, fun φ3 H3 v le4 rs4 rv4 => ?_⟩
                      cases rv4 with
                      | bl bb =>
                        refine ⟨bb, rfl, ?_⟩
                        cases bb with
                        | true =>
                          rw [if_pos rfl]
                          exact tail ((le2.trans le3).trans le4) rs4 (re1.mono le4) e3
                        | false =>
                          (rw [if_neg Bool.false_ne_true])
                          exact ⟨φ3, S3, (le2.trans le3).trans le4, rs4, e3⟩
                      | _ => cases e3
      · cases e2
/-- the parts of a comprehension, as its rule asks them -/
theorem lc_parts (c : CK T N K ca R G k X sc B E) {elt tg it : Expr} {ifs : List Expr} {scope : Scope} {t : Tg} {m : Ex} {fs : Exs} (n : Nat)
    (ih : ∀ (X : Cx) (sc : Scope) (B : Bool) (E : XK), CK T N K ca R G k X sc B E → ∀ e m, cp T N n B sc e = some m → PE X e (tE K ca R G E m) ∧ PT X e (tT K ca R G E m))
    (hb : blkC N sc scope (ownOf N tg) = true) (h2 : cpT N true (relS scope sc) tg = some t) (h3 : cp T N n true (relS scope sc) elt = some m) (h4 : cpL (cp T N n true (relS scope sc)) ifs = some fs) (h5 : ifs.length ≤ 1) :
    BlkOk X.N X.env.scope scope (ownOf N tg) ∧
    (∀ (s : Shared) (H : Hp) (C : Addr) (cl : List (Str × Addr)) (fp : List Addr), PG (X.blk s H scope (compEnvC scope cl C X.env) fp) tg (gT K t)) ∧
    (∀ (s : Shared) (H : Hp) (C : Addr) (cl : List (Str × Addr)) (fp : List Addr), PTs (X.blk s H scope (compEnvC scope cl C X.env) fp) ifs (tV K ca R G E0 fs)) ∧
    (∀ (s : Shared) (H : Hp) (C : Addr) (cl : List (Str × Addr)) (fp : List Addr), PE (X.blk s H scope (compEnvC scope cl C X.env) fp) elt (tE K ca R G E0 m)) := by
  have bo := blkOk_by hb
  have kd := bo.kind
  refine ⟨by rw [c.hN, c.hs]; exact bo, fun s H C cl fp => g_ok (c.blk s H scope kd cl C fp) h2, fun s H C cl fp => ?_, fun s H C cl fp => (ih _ _ _ _ (c.blk s H scope kd cl C fp) _ _ h3).1⟩
  cases ifs with
  | nil => cases h4; exact pts_nil
  | cons a rest =>
    cases rest with
    | cons _ _ => simp at h5
    | nil =>
      simp only [cpL] at h4
      split at h4
      · split at h4
        · rename_i m1 ms q1 q2
          cases h4
          exact pts_one (ih _ _ _ _ (c.blk s H scope kd cl C fp) _ _ q1).2
        · cases h4
      · cases h4
end
end Mx
set_option Elab.async false
set_option linter.all false
set_option maxRecDepth 100000
set_option maxHeartbeats 8000000
namespace Mx
open L2 PySem PySem.Spec PyProof.Rows
section
variable {T : Tb} {N : List Str} {K : PySem.W.Frag} {ca : Nat → Addr} {R : Nat → List D → Sto → Mo D} {G : List D} {k : Nat}
def Both (K : PySem.W.Frag) (ca : Nat → Addr) (R : Nat → List D → Sto → Mo D) (G : List D) (E : XK) (X : Cx) (e : Expr) (m : Ex) : Prop :=
  PE X e (tE K ca R G E m) ∧ PT X e (tT K ca R G E m) ∧ ∀ op vs p, e = .BoolOp op vs p → PW X e (tT K ca R G E m)
theorem both_of {X : Cx} {E : XK} {e : Expr} {m : Ex} (h1 : PE X e (tE K ca R G E m)) (h2 : PT X e (tT K ca R G E m)) (h3 : ∀ op vs p, e ≠ .BoolOp op vs p) : Both K ca R G E X e m := ⟨h1, h2, fun op vs p q => absurd q (h3 op vs p)⟩
/-- plain: its truth is its value's -/
theorem both_v {X : Cx} {E : XK} {e : Expr} {m : Ex} (hK : X.K = K) (h1 : PE X e (tE K ca R G E m)) (hm : ∀ ρ S, ev R G m true ρ S = bnd (ev R G m false ρ S) fun d S => lf0 ((tru S d).map .bl) S)
    (he : ∀ whole, isTrue e X.env whole = (do let v ← whole; standAt e.pos; holding [v] (truthy v))) (h3 : ∀ op vs p, e ≠ .BoolOp op vs p) : Both K ca R G E X e m := both_of h1 (pt_plain hK h1 hm he) h3
theorem cp_ok : ∀ (n : Nat) (X : Cx) (sc : Scope) (B : Bool) (E : XK), CK T N K ca R G k X sc B E → ∀ e m, cp T N n B sc e = some m → Both K ca R G E X e m := by
  intro n
  induction n with
  | zero => intro X sc B E c e m h; cases h
  | succ n ih =>
    intro X sc B E c e m h
    have hf : ∀ e m, cp T N n B sc e = some m → PE X e (tE K ca R G E m) := fun e m q => (ih X sc B E c e m q).1
    have ht : ∀ e m, cp T N n B sc e = some m → PT X e (tT K ca R G E m) := fun e m q => (ih X sc B E c e m q).2.1
    cases e with
    | Name x p =>
      simp only [cp] at h
      split at h
      · rename_i hv
        (simp only [Option.map_eq_some_iff] at h)
        obtain ⟨i, h1, rfl⟩ := h
        exact both_v c.hK (e_var c hv h1) (fun _ _ => rfl) (fun _ => rfl) (fun _ _ _ q => by cases q)
      · split at h
        · rename_i hg
          rw [Bool.and_eq_true] at hg
          cases h
          exact both_v c.hK (e_glb c hg.1 hg.2) (fun _ _ => rfl) (fun _ => rfl) (fun _ _ _ q => by cases q)
        · cases h
    | Constant v j p =>
      cases v with
      | int i => cases h; exact both_v c.hK (e_cst pe_int fun _ _ => .int i) (fun _ _ => rfl) (fun _ => rfl) (fun _ _ _ q => by cases q)
      | bool b => cases h; exact both_v c.hK (e_cst pe_bl fun _ _ => .bl b) (fun _ _ => rfl) (fun _ => rfl) (fun _ _ _ q => by cases q)
      | str x => cases h; exact both_v c.hK (e_cst pe_str fun _ _ => .str x) (fun _ _ => rfl) (fun _ => rfl) (fun _ _ _ q => by cases q)
      | none => cases h; exact both_v c.hK (e_cst pe_non fun _ _ => .non) (fun _ _ => rfl) (fun _ => rfl) (fun _ _ _ q => by cases q)
      | _ => cases h
    | BinOp a op b p =>
      simp only [cp] at h
      split at h
      · rename_i o x y h1 h2 h3
        cases h
        exact both_v c.hK (e_bin c.hK h1 (hf _ _ h2) (hf _ _ h3)) (fun _ _ => rfl) (fun _ => rfl) (fun _ _ _ q => by cases q)
      · cases h
    | UnaryOp op a p =>
      cases op with
      | USub =>
        simp only [cp, Option.map_eq_some_iff] at h
        obtain ⟨x, h1, rfl⟩ := h
        exact both_v c.hK (e_neg (hf _ _ h1)) (fun _ _ => rfl) (fun _ => rfl) (fun _ _ _ q => by cases q)
      | Not =>
        simp only [cp, Option.map_eq_some_iff] at h
        obtain ⟨x, h1, rfl⟩ := h
        exact both_of (e_nt c.hK (hf _ _ h1)) (t_nt (ht _ _ h1)) (fun _ _ _ q => by cases q)
      | _ => cases h
    | Compare a ops bs p =>
      rcases ops with _ | ⟨op, _ | ⟨op', _ | ⟨op3, ops⟩⟩⟩ <;> rcases bs with _ | ⟨b, _ | ⟨b', _ | ⟨b3, bs⟩⟩⟩
      case cons.nil.cons.nil =>
        simp only [cp] at h
        split at h
        · rename_i hm
          split at h
          · rename_i o x y h1 h2 h3
            cases h
            obtain ⟨q1, q2⟩ := e_cmp (p := p) c.hK c.hu h1 hm (hf _ _ h2) (hf _ _ h3)
            exact both_of q1 q2 (fun _ _ _ q => by cases q)
          · cases h
        · cases h
      case cons.cons.nil.cons.cons.nil =>
        simp only [cp] at h
        split at h
        · rename_i hm
          split at h
          · rename_i o o' x y z h1 h2 h3 h4 h5
            cases h
            obtain ⟨q1, q2⟩ := e_chn (p := p) c.hK c.hu h1 h2 hm (hf _ _ h3) (hf _ _ h4) (hf _ _ h5)
            exact both_of q1 q2 (fun _ _ _ q => by cases q)
          · cases h
        · cases h
      all_goals (simp only [cp] at h; cases h)
    | BoolOp op vs p =>
      cases vs with
      | nil => cases op <;> (simp only [cp] at h; cases h)
      | cons a vs =>
        cases vs with
        | nil =>
          have h' : cp T N n B sc a = some m := by cases op <;> simpa only [cp] using h
          obtain ⟨q1, q2, _⟩ := ih X sc B E c a m h'
          cases op with
          | And =>
            have w := pw_and1 (pos := p) q2
            exact ⟨pe_one q1, w.pt, fun op vs p e => by cases e; exact w⟩
          | Or =>
            have w := pw_or1 (pos := p) q2
            exact ⟨pe_one q1, w.pt, fun op vs p e => by cases e; exact w⟩
        | cons b rest =>
          cases op with
          | And =>
            simp only [cp] at h
            split at h
            · rename_i x y h1 h2
              cases h
              obtain ⟨q1, _, q3⟩ := ih X sc B E c _ _ h2
              have w := w_an (p := p) (ht _ _ h1) (q3 _ _ _ rfl)
              exact ⟨e_an (hf _ _ h1) q1, w.pt, fun op vs p e => by cases e; exact w⟩
            · cases h
          | Or =>
            simp only [cp] at h
            split at h
            · rename_i x y h1 h2
              cases h
              obtain ⟨q1, _, q3⟩ := ih X sc B E c _ _ h2
              have w := w_or (p := p) (ht _ _ h1) (q3 _ _ _ rfl)
              exact ⟨e_or (hf _ _ h1) q1, w.pt, fun op vs p e => by cases e; exact w⟩
            · cases h
    | IfExp t a b p =>
      simp only [cp] at h
      split at h
      · rename_i x y z h1 h2 h3
        cases h
        exact both_of (e_ite (ht _ _ h1) (hf _ _ h2) (hf _ _ h3)) t_ite (fun _ _ _ q => by cases q)
      · cases h
    | Call fn as kws p =>
      cases kws with
      | cons _ _ => cases fn <;> (cases as <;> (simp only [cp] at h; cases h))
      | nil =>
        cases fn with
        | Name x px =>
          cases as with
          | nil => simp only [cp] at h; cases h
          | cons a as =>
            have fin : ∀ {m : Ex}, PE X (.Call (.Name x px) (a :: as) [] p) (tE K ca R G E m) → (∀ ρ S, ev R G m true ρ S = bnd (ev R G m false ρ S) fun d S => lf0 ((tru S d).map .bl) S) → Both K ca R G E X (.Call (.Name x px) (a :: as) [] p) m := fun q1 q2 =>
              both_v c.hK q1 q2 (fun _ => rfl) (fun _ _ _ q => by cases q)
            simp only [cp] at h
            split at h
            · rename_i hg
              split at h
              · rename_i hc
                (simp only [Option.map_eq_some_iff] at h)
                obtain ⟨ms, h1, rfl⟩ := h
                exact fin (e_cal c hf hg hc h1) fun _ _ => rfl
              · split at h
                · rename_i hbs
                  split at h
                  · rename_i hi
                    split at h
                    · rename_i t tp
                      split at h
                      · rename_i hgt
                        rw [Bool.and_eq_true] at hgt
                        split at h
                        · rename_i ty m' h1 h2
                          split at h
                          · rename_i hns
                            cases h
                            exact fin (e_isi c (hf _ _ h2) hns hi hg hbs hgt.1 hgt.2 h1) fun _ _ => rfl
                          · cases h
                        · cases h
                      · cases h
                    · cases h
                  · split at h
                    · rename_i b ms h1 h2
                      cases h
                      exact fin (e_bi c hf hg hbs h2 h1) fun _ _ => rfl
                    · cases h
                · split at h
                  · rename_i hmt
                    split at h
                    · rename_i b ms h1 h2
                      cases h
                      exact fin (e_mb c hf hg hmt h2 h1) fun _ _ => rfl
                    · cases h
                  · cases h
            · cases h
        | Attribute o mn ap =>
          simp only [cp] at h
          split at h
          · rename_i hq
            simp only [Bool.and_eq_true, decide_eq_true_eq] at hq
            split at h
            · rename_i kd x xs h1 h2 h3
              cases h
              exact both_v c.hK (e_mth c.hK hf h1 (hf _ _ h2) h3 hq.1.1 hq.1.2 hq.2) (fun _ _ => rfl) (fun _ => rfl) (fun _ _ _ q => by cases q)
            · cases h
          · cases h
        | _ => cases as <;> (simp only [cp] at h; cases h)
    | Subscript a b p =>
      have plain : ∀ {m}, (if noSlice b then match cp T N n B sc a, cp T N n B sc b with
          | some x, some y => some (Ex.idx x y)
          | _, _ => none
        else none) = some m → Both K ca R G E X (.Subscript a b p) m := fun h => by
        split at h
        · rename_i hn
          split at h
          · rename_i x y h1 h2
            cases h
            exact both_v c.hK (e_idx c.hK hn (hf _ _ h1) (hf _ _ h2)) (fun _ _ => rfl) (fun _ => rfl) (fun _ _ _ q => by cases q)
          · cases h
        · cases h
      cases b with
      | Slice lo hi st p2 =>
        cases st with
        | some _ => simp only [cp] at h; exact plain h
        | none =>
          simp only [cp] at h
          split at h
          · rename_i x l u h1 h2 h3
            cases h
            exact both_v c.hK (e_slc c.hK (hf _ _ h1) (po_ok hf h2) (po_ok hf h3)) (fun _ _ => rfl) (fun _ => rfl) (fun _ _ _ q => by cases q)
          · cases h
      | _ => simp only [cp] at h; exact plain h
    | Tuple es j p =>
      simp only [cp, Option.map_eq_some_iff] at h
      obtain ⟨ms, h1, rfl⟩ := h
      exact both_v c.hK (e_tup (es_of hf h1)) (fun _ _ => rfl) (fun _ => rfl) (fun _ _ _ q => by cases q)
    | List es p =>
      simp only [cp, Option.map_eq_some_iff] at h
      obtain ⟨ms, h1, rfl⟩ := h
      exact both_v c.hK (e_lst (es_of hf h1)) (fun _ _ => rfl) (fun _ => rfl) (fun _ _ _ q => by cases q)
    | ListComp elt gs scope p =>
      rcases gs with _ | ⟨⟨tg, it, ifs, as⟩, _ | ⟨g2, gs⟩⟩
      · simp only [cp] at h; cases h
      · simp only [cp] at h
        split at h
        · rename_i hb
          rw [Bool.and_eq_true, Bool.and_eq_true] at hb
          have h0 : as = 0 := of_decide_eq_true hb.2
          subst h0
          split at h
          · rename_i kd as' t m' fs h1 h2 h3 h4
            cases h
            obtain ⟨p1, p2, p3, p4⟩ := lc_parts (it := it) c n (fun X sc B E c e m q => And.intro (ih X sc B E c e m q).1 (ih X sc B E c e m q).2.1) hb.1.1 h2 h3 h4 (of_decide_eq_true hb.1.2)
            obtain ⟨i1, i2⟩ := i_ok (tg := tg) c hf h1
            have pe : PE X (.ListComp elt [⟨tg, it, ifs, 0⟩] scope p) (tE K ca R G E (.lc m' ((ownOf N tg).map (·.2)) t kd as' fs)) := (pe_lc (pos := p) c.calm (by rw [c.hN]; exact c.nd) i1 p1 p2 p3 p4 i2).imp fun σ H Q ⟨ρ, S, φ, r, re, rs, e1, go⟩ => lc_read (own_sub h2) re rs e1 go
            exact both_v c.hK pe (fun _ _ => rfl) (fun _ => rfl) (fun _ _ _ q => by cases q)
          · cases h
        · cases h
      · simp only [cp] at h; cases h
    | _ => cases h
end
end Mx
set_option Elab.async false
set_option linter.all false
set_option maxRecDepth 100000
set_option maxHeartbeats 8000000
namespace Mx
open L2 PySem PySem.Spec PyProof.Rows
section
variable (K : PySem.W.Frag) (ca : Nat → Addr) (R : Nat → List D → Sto → Mo D) (G : List D) (w : Nat) (E : XK)
def GoS (φ : List Addr) (H : Hp) (r : Rt) (Z : Ends) : Prop := match r with
  | .ok f ρ' S' => ∀ φ' H', Le φ H φ' H' → RS K ca φ' H' S' → match f with
    | .nx => ∀ σ', RE K φ' H' ρ' σ' → Z.nx σ' H'
    | .brk => ∀ σ', RE K φ' H' ρ' σ' → Z.bk σ' H'
    | .ct => ∀ σ', RE K φ' H' ρ' σ' → Z.ct σ' H'
    | .ret d => ∀ v, RV K φ' H' d v → Z.rt v H'
  | .er x S' => ∀ φ' H' c dd, Le φ H φ' H' → RS K ca φ' H' S' → RX K ca φ' H' x c dd → E c dd H'
def tS (m : Sm) : TS := fun Z σ H => ∃ ρ S φ r, RE K φ H ρ σ ∧ RS K ca φ H S ∧ ex R G w m ρ S = some r ∧ GoS K ca E φ H r Z
def tSs (m : Sms) : TS := fun Z σ H => ∃ ρ S φ r, RE K φ H ρ σ ∧ RS K ca φ H S ∧ exs R G w m ρ S = some r ∧ GoS K ca E φ H r Z
end
section
variable {T : Tb} {N : List Str} {K : PySem.W.Frag} {ca : Nat → Addr} {R : Nat → List D → Sto → Mo D} {G : List D} {k w : Nat} {X : Cx} {sc : Scope} {B : Bool} {E : XK}
variable {φ φ' : List Addr} {H H' : Hp} {S S' : Sto} {ρ : Rho} {σ : L2.St}
theorem GoS.mono {r : Rt} {Z : Ends} (h : GoS K ca E φ H r Z) (e : Le φ H φ' H') : GoS K ca E φ' H' r Z := by
  cases r with
  | ok f ρ' S' => exact fun φ2 H2 le => h φ2 H2 (e.trans le)
  | er x S' => exact fun φ2 H2 c dd le => h φ2 H2 c dd (e.trans le)
theorem sE_bnd {m : Ex} {f : D → Sto → MoS} {r : Rt} {Z : Ends} {Q1 : VK} (he : RE K φ H ρ σ) (hs : RS K ca φ H S) (h : bnS (ev R G m false ρ S) f = some r) (go : GoS K ca E φ H r Z)
    (k : ∀ d S1 φ1 H1 v, Le φ H φ1 H1 → RS K ca φ1 H1 S1 → RV K φ1 H1 d v → f d S1 = some r → Q1 v H1) : tE K ca R G E m σ H Q1 := by
  cases q : ev R G m false ρ S with
  | none => rw [q] at h; cases h
  | some o =>
    rw [q] at h
    cases o with
    | ok d S1 => exact ⟨ρ, S, φ, .ok d S1, he, hs, q, fun φ1 H1 v le rs rv => k d S1 φ1 H1 v le rs rv h⟩
    | er x S1 => cases h; exact ⟨ρ, S, φ, .er x S1, he, hs, q, go⟩
theorem sT_bnd {m : Ex} {f : D → Sto → MoS} {r : Rt} {Z : Ends} {Q1 : Bool → Hp → Prop} (he : RE K φ H ρ σ) (hs : RS K ca φ H S) (h : bnS (ev R G m true ρ S) f = some r) (go : GoS K ca E φ H r Z)
    (k : ∀ d S1 φ1 H1 v, Le φ H φ1 H1 → RS K ca φ1 H1 S1 → RV K φ1 H1 d v → f d S1 = some r → ∃ b, v = .bl b ∧ Q1 b H1) : tT K ca R G E m σ H Q1 := by
  cases q : ev R G m true ρ S with
  | none => rw [q] at h; cases h
  | some o =>
    rw [q] at h
    cases o with
    | ok d S1 => exact ⟨ρ, S, φ, .ok d S1, he, hs, q, fun φ1 H1 v le rs rv => k d S1 φ1 H1 v le rs rv h⟩
    | er x S1 => cases h; exact ⟨ρ, S, φ, .er x S1, he, hs, q, go⟩
theorem nxS_some {o : Option (Rho × Sto)} {r : Rt} (h : nxS o = some r) : ∃ ρ S, o = some (ρ, S) ∧ r = .ok .nx ρ S := by
  cases o with
  | none => cases h
  | some p => cases h; exact ⟨_, _, rfl, rfl⟩
theorem GoS.here {Z : Ends} (go : GoS K ca E φ H (.ok .nx ρ S) Z) (rs : RS K ca φ H S) (re : RE K φ H ρ σ) : Z.nx σ H := go φ H (Le.refl _ _) rs σ re
/-! ### small statements -/
theorem s_pass {p : Pos} : PS X (.Pass p) (tS K ca R G w E .pass) := ps_pass.imp fun Z σ H ⟨ρ, S, φ, r, re, rs, e1, go⟩ => by
  cases e1
  exact go.here rs re
theorem s_brk {p : Pos} : PS X (.Break p) (tS K ca R G w E .brk) := ps_break.imp fun Z σ H ⟨ρ, S, φ, r, re, rs, e1, go⟩ => by
  cases e1
  exact go φ H (Le.refl _ _) rs σ re
theorem s_cnt {p : Pos} : PS X (.Continue p) (tS K ca R G w E .cnt) := ps_continue.imp fun Z σ H ⟨ρ, S, φ, r, re, rs, e1, go⟩ => by
  cases e1
  exact go φ H (Le.refl _ _) rs σ re
theorem swap_none {e : Expr} (h : noComp e = true) (t : Option Expr) (l : Nat) (env : PySem.Env) : swapsWith e t l env = pure false := by
  cases e <;> first | rfl | cases h
theorem s_expr {e : Expr} {m : Ex} {p : Pos} (hn : noComp e = true) (h : PE X e (tE K ca R G E m)) : PS X (.Expr e p) (tS K ca R G w E (.expr m)) := (ps_expr h (swap_none hn _ _ _)).imp fun Z σ H ⟨ρ, S, φ, r, re, rs, e1, go⟩ => by
  refine sE_bnd re rs e1 go fun d S1 φ1 H1 v le1 rs1 rv1 e2 => ?_
  cases e2
  exact (go.mono le1).here rs1 (re.mono le1)
theorem s_ret {e : Expr} {m : Ex} {p : Pos} (h : PE X e (tE K ca R G E m)) : PS X (.Return (some e) p) (tS K ca R G w E (.ret m)) := (ps_ret h).imp fun Z σ H ⟨ρ, S, φ, r, re, rs, e1, go⟩ => by
  refine sE_bnd re rs e1 go fun d S1 φ1 H1 v le1 rs1 rv1 e2 => ?_
  cases e2
  exact go φ1 H1 le1 rs1 v rv1
theorem s_retn {p : Pos} : PS X (.Return none p) (tS K ca R G w E .retn) := ps_retN.imp fun Z σ H ⟨ρ, S, φ, r, re, rs, e1, go⟩ => by
  cases e1
  exact go φ H (Le.refl _ _) rs .non .non
/-! ### stores -/
theorem asg_read {t : Tg} {m : Ex} {Z : Ends} {r : Rt} (re : RE K φ H ρ σ) (rs : RS K ca φ H S) (e1 : ex R G w (.asg t m) ρ S = some r) (go : GoS K ca E φ H r Z) : tAsg (tE K ca R G E m) (gT K t) Z σ H := by
  refine sE_bnd re rs e1 go fun d S1 φ1 H1 v le1 rs1 rv1 e2 => ?_
  obtain ⟨ρ2, S2, e3, rfl⟩ := nxS_some e2
  simp only [Option.map_eq_some_iff, Prod.mk.injEq] at e3
  obtain ⟨ρ3, e4, rfl, rfl⟩ := e3
  exact g_read e4 (re.mono le1) rv1 fun σ1 re1 _ => (go.mono le1).here rs1 re1
theorem s_asgT (c : CK T N K ca R G k X sc false E) {e : Expr} {ts : List Expr} {n : Nat} {q p : Pos} {m : Ex} {t : Tg} (h1 : noTuple e = true) (h2 : noComp e = true) (ht : cpT N false sc (.Tuple ts n q) = some t) (h : PE X e (tE K ca R G E m)) :
    PS X (.Assign [.Tuple ts n q] e p) (tS K ca R G w E (.asg t m)) := by
  have hw : swappedStores [.Tuple ts n q] e X.env = pure none := by
    cases e <;> first | rfl | cases h1
  exact (ps_asg h (g_ok c ht) (swap_none h2 (some (.Tuple ts n q)) p.line X.env) hw).imp fun Z σ H ⟨ρ, S, φ, r, re, rs, e1, go⟩ => asg_read re rs e1 go
theorem s_asg (c : CK T N K ca R G k X sc false E) {e : Expr} {x : Str} {q p : Pos} {m : Ex} {i : Nat} (hs : swapsWith e (some (.Name x q)) p.line X.env = pure false) (hl : loc false sc x = true) (hi : slot N x = some i) (h : PE X e (tE K ca R G E m)) :
    PS X (.Assign [.Name x q] e p) (tS K ca R G w E (.asg (.nm i) m)) := by
  have z := loc_ok c hl
  exact (ps_set (by rw [c.hN]; exact c.nd) (by rw [c.hN]; exact (slot_at hi).1) z.1 h hs z.2).imp fun Z σ H ⟨ρ, S, φ, r, re, rs, e1, go⟩ => asg_read (t := .nm i) re rs e1 go
theorem swap_lc (c : CK T N K ca R G k X sc false E) (elt : Expr) (gs : List Comprehension) (scope : Scope) (pos p : Pos) (x : Str) (l : Nat) :
    swapsWith (.ListComp elt gs scope pos) (some (.Name x p)) l X.env = pure (swB sc (.ListComp elt gs scope pos) x p) := by
  have k1 : X.env.blockKind = .function := by unfold PySem.Env.blockKind; rw [c.hs, c.knd]; rfl
  have k2 : X.env.kindOf x = sc.names.lookup x := by unfold PySem.Env.kindOf; rw [c.hs]
  unfold swapsWith swB
  simp only [k1, k2, Expr.pos]
  have e1 : ((ScopeKind.function == ScopeKind.function) : Bool) = true := by decide
  have e2 : (sc.names.lookup x == some NameKind.local) = decide (sc.names.lookup x = some .local) := by
    rw [Bool.eq_iff_iff]
    simp
  rw [e1, e2, Bool.true_and]
theorem s_asgN (c : CK T N K ca R G k X sc false E) (n : Nat) {e : Expr} {x : Str} {q p : Pos} {m : Ex} {t : Tg} (ht : cpT N false sc (.Name x q) = some t) (h : cp T N n false sc e = some m) :
    PS X (.Assign [.Name x q] e p) (tS K ca R G w E (.asg t m)) := by
  simp only [cpT] at ht
  split at ht
  · rename_i hl
    simp only [Option.map_eq_some_iff] at ht
    obtain ⟨i, hi, rfl⟩ := ht
    have pe := (cp_ok n X sc false E c e m h).1
    by_cases hn : noComp e = true
    · exact s_asg c (swap_none hn _ _ _) hl hi pe
    · cases e with
      | ListComp elt gs scope pos =>
        by_cases hw : swB sc (.ListComp elt gs scope pos) x q = true
        · have hs := (swap_lc c elt gs scope pos q x p.line).trans (by rw [hw])
          have hyl : X.env.scope.names.lookup x = some .local := by
            rw [c.hs]
            simp only [swB, Bool.and_eq_true, decide_eq_true_eq] at hw
            exact hw.1.1
          cases n with
          | zero => cases h
          | succ n =>
            rcases gs with _ | ⟨⟨tg, it, ifs, as⟩, _ | ⟨g2, gs⟩⟩
            · simp only [cp] at h; cases h
            · simp only [cp] at h
              split at h
              · rename_i hb
                rw [Bool.and_eq_true, Bool.and_eq_true] at hb
                have h0 : as = 0 := of_decide_eq_true hb.2
                subst h0
                split at h
                · rename_i kd as' t m' fs h1 h2 h3 h4
                  cases h
                  obtain ⟨p1, p2, p3, p4⟩ := lc_parts (it := it) c n (fun X sc B E c e m q => And.intro (cp_ok n X sc B E c e m q).1 (cp_ok n X sc B E c e m q).2.1) hb.1.1 h2 h3 h4 (of_decide_eq_true hb.1.2)
                  obtain ⟨i1, i2⟩ := i_ok (tg := tg) c (fun e m q => (cp_ok n X sc false E c e m q).1) h1
                  refine (ps_setLc c.calm (by rw [c.hN]; exact c.nd) (by rw [c.hN]; exact (slot_at hi).1) hyl hs i1 p1 p2 p3 p4 i2).imp fun Z σ H ⟨ρ, S, φ, r, re, rs, e1, go⟩ => ?_
                  -- the value, then the store
                  have e2 : bnS (ev R G (.lc m' ((ownOf N tg).map (·.2)) t kd as' fs) false ρ S) (fun d S1 => nxS ((asgT (.nm i) d ρ).map fun ρ1 => (ρ1, S1))) = some r := e1
                  cases q1 : ev R G (.lc m' ((ownOf N tg).map (·.2)) t kd as' fs) false ρ S with
                  | none => rw [q1] at e2; cases e2
                  | some o =>
                    rw [q1] at e2
                    refine lc_read (r := o) (E := E) (own_sub h2) re rs q1 ?_
                    cases o with
                    | er x S1 => cases e2; exact go
                    | ok d S1 =>
                      cases e2
                      exact fun φ1 H1 v le1 rs1 rv1 => (go.mono le1).here rs1 ((re.mono le1).set i rv1)
                · cases h
              · cases h
            · simp only [cp] at h; cases h
        · have hs := (swap_lc c elt gs scope pos q x p.line).trans (by rw [Bool.eq_false_iff.mpr hw])
          exact s_asg c hs hl hi pe
      | SetComp _ _ _ _ => cases n <;> (simp only [cp] at h; cases h)
      | DictComp _ _ _ _ _ => cases n <;> (simp only [cp] at h; cases h)
      | _ => exact absurd rfl hn
  · cases ht
theorem s_seti {o i e : Expr} {x y z : Ex} {q p : Pos} (h1 : noSlice i = true) (h2 : noComp e = true) (ho : PE X o (tE K ca R G E x)) (hi : PE X i (tE K ca R G E y)) (he : PE X e (tE K ca R G E z)) :
    PS X (.Assign [.Subscript o i q] e p) (tS K ca R G w E (.seti x y z)) := by
  have pg : PG X (.Subscript o i q) (gSub (tE K ca R G E x) (tE K ca R G E y) (rSetM K ca)) := pg_sub ho hi set_ok (by intro v; cases i <;> first | rfl | cases h1)
  have hw : swappedStores [.Subscript o i q] e X.env = pure none := by cases e <;> rfl
  refine (ps_asg he pg (swap_none h2 (some (.Subscript o i q)) p.line X.env) hw).imp fun Z σ H ⟨ρ, S, φ, r, re, rs, e1, go⟩ => ?_
  refine sE_bnd re rs e1 go fun d1 S1 φ1 H1 v1 le1 rs1 rv1 e2 => ?_
  refine sE_bnd (re.mono le1) rs1 e2 (go.mono le1) fun d2 S2 φ2 H2 v2 le2 rs2 rv2 e3 => ?_
  refine sE_bnd (re.mono (le1.trans le2)) rs2 e3 (go.mono (le1.trans le2)) fun d3 S3 φ3 H3 v3 le3 rs3 rv3 e4 => ?_
  obtain ⟨ρ2, S4, e5, rfl⟩ := nxS_some e4
  simp only [Option.map_eq_some_iff, Prod.mk.injEq] at e5
  obtain ⟨S5, e6, rfl, rfl⟩ := e5
  have le := le1.trans (le2.trans le3)
  exact ⟨φ3, S3, d2, d3, d1, S5, rs3, rv2.mono le3, rv3, (rv1.mono le2).mono le3, e6, fun H' le4 rs4 => (go.mono (le.trans le4)).here rs4 (re.mono (le.trans le4))⟩
theorem s_aug (c : CK T N K ca R G k X sc false E) {x : Str} {op : Operator} {o : B2} {e : Expr} {m : Ex} {i : Nat} {q p : Pos} (hl : loc false sc x = true) (hi : slot N x = some i) (ho : auOf op = some o) (he : PE X e (tE K ca R G E m)) :
    PS X (.AugAssign (.Name x q) op e p) (tS K ca R G w E (.aug i o m)) := by
  have z := loc_ok c hl
  have nd : X.N.Nodup := by rw [c.hN]; exact c.nd
  have at_ : X.N[i]? = some x := by rw [c.hN]; exact (slot_at hi).1
  have read : ∀ (f : Int → Int → Int), (∀ S a b d, aug o S a b = some d → ∃ x y, a = .int x ∧ b = .int y ∧ d = .int (f x y)) → ∀ Z σ H, tS K ca R G w E (.aug i o m) Z σ H → tAug i (tE K ca R G E m) (ipI f) Z σ H := by
    intro f hf Z σ H ⟨ρ, S, φ, r, re, rs, e1, go⟩
    simp only [ex] at e1
    split at e1
    · rename_i d0 hd0
      obtain ⟨v0, hv0, rv0⟩ := re.2 i d0 hd0
      refine ⟨v0, hv0, sE_bnd re rs e1 go fun d1 S1 φ1 H1 v1 le1 rs1 rv1 e2 => ?_⟩
      obtain ⟨ρ2, S4, e5, rfl⟩ := nxS_some e2
      simp only [Option.map_eq_some_iff, Prod.mk.injEq] at e5
      obtain ⟨d2, e6, rfl, rfl⟩ := e5
      obtain ⟨a, b, rfl, rfl, rfl⟩ := hf _ _ _ _ e6
      cases rv0
      cases rv1
      exact ⟨a, b, rfl, rfl, (go.mono le1).here rs1 ((re.mono le1).set i (.int _))⟩
    · cases e1
  cases op <;> cases ho
  · exact (ps_aug nd at_ z.1 he ip_add z.2).imp (read _ fun S a b d h => by
      unfold aug at h
      split at h
      · cases h; exact ⟨_, _, rfl, rfl, rfl⟩
      · cases h)
  · exact (ps_aug nd at_ z.1 he ip_sub z.2).imp (read _ fun S a b d h => by
      unfold aug at h
      split at h
      · cases h; exact ⟨_, _, rfl, rfl, rfl⟩
      · cases h)
end
end Mx
set_option Elab.async false
set_option linter.all false
set_option maxRecDepth 100000
set_option maxHeartbeats 8000000
namespace Mx
open L2 PySem PySem.Spec PyProof.Rows
section
variable {T : Tb} {N : List Str} {K : PySem.W.Frag} {ca : Nat → Addr} {R : Nat → List D → Sto → Mo D} {G : List D} {k w : Nat} {X : Cx} {sc : Scope} {B : Bool} {E : XK}
variable {φ φ' : List Addr} {H H' : Hp} {S S' : Sto} {ρ : Rho} {σ : L2.St}
theorem loc_local (c : CK T N K ca R G k X sc false E) {x : Str} (h : loc true sc x = true) : X.env.scope.names.lookup x = some .local := by
  unfold loc at h
  rw [c.hs]
  simpa using h
theorem parOf_some {ts : List Expr} {e : Expr} {x y : Str} {a b : Expr} (h : parOf sc ts e = some (x, y, a, b)) :
    ∃ px py k2 p2, ts = [.Name x px, .Name y py] ∧ e = .Tuple [a, b] k2 p2 ∧ loc true sc x = true ∧ loc true sc y = true ∧ px.line = py.line ∧ (x == y) = false ∧ noStar a = true ∧ noStar b = true ∧ (foldedForSure 8 a && foldedForSure 8 b) = false ∧ (constantsAlone 8 a && constantsAlone 8 b) = false := by
  unfold parOf at h
  split at h
  · split at h
    · rename_i hq
      simp only [Bool.and_eq_true, decide_eq_true_eq, Bool.not_eq_true'] at hq
      obtain ⟨⟨⟨⟨⟨⟨⟨q1, q2⟩, q3⟩, q4⟩, q5⟩, q6⟩, q7⟩, q8⟩ := hq
      cases h
      exact ⟨_, _, _, _, rfl, rfl, q1, q2, q3, q4, q5, q6, q7, q8⟩
    · cases h
  · cases h
theorem noStar_sw {e : Expr} (h : noStar e = true) {P : Bool → Prop} (hP : P false) : P (match e with | .Starred .. => true | _ => false) := by
  cases e <;> first | exact hP | cases h
theorem swapped_two (c : CK T N K ca R G k X sc false E) {x y : Str} {a b : Expr} {px py pt pt2 : Pos} {n n2 : Nat} (hx : loc true sc x = true) (hy : loc true sc y = true) (hl : px.line = py.line) (hxy : (x == y) = false) (ha : noStar a = true) (hb : noStar b = true)
    (h1 : (foldedForSure 8 a && foldedForSure 8 b) = false) (h2 : (constantsAlone 8 a && constantsAlone 8 b) = false) :
    swappedStores [.Tuple [.Name x px, .Name y py] n pt] (.Tuple [a, b] n2 pt2) X.env = pure (some [x, y]) := by
  have k1 : X.env.blockKind = .function := by unfold PySem.Env.blockKind; rw [c.hs, c.knd]; rfl
  have kx : X.env.kindOf x = some .local := loc_local c hx
  have ky : X.env.kindOf y = some .local := loc_local c hy
  have ed : [x, y].eraseDups.length = 2 := by
    have hyx : (y == x) = false := by
      rw [beq_eq_false_iff_ne] at hxy ⊢
      exact fun e => hxy e.symm
    simp [List.eraseDups_cons, hyx]
  unfold swappedStores
  simp only [List.length_cons, List.length_nil, k1, List.any_cons, List.any_nil, List.head?_cons, Option.map_some, Option.getD_some, Expr.pos, List.filterMap_cons, List.filterMap_nil, kx, ky, hl, beq_self_eq_true, Bool.and_self, if_true, List.all_cons, List.all_nil, Bool.and_true]
  rw [if_neg (by decide)]
  split
  · cases ha
  · split
    · cases hb
    · simp only [h1, h2, Bool.false_eq_true, if_false, ed]
      rfl
theorem s_par (c : CK T N K ca R G k X sc false E) {x y : Str} {a b : Expr} {px py pt pt2 p : Pos} {n n2 i j : Nat} {m m' : Ex} (hx : loc true sc x = true) (hy : loc true sc y = true) (hl : px.line = py.line) (hxy : (x == y) = false) (ha : noStar a = true) (hb : noStar b = true)
    (h1 : (foldedForSure 8 a && foldedForSure 8 b) = false) (h2 : (constantsAlone 8 a && constantsAlone 8 b) = false) (hi : slot N x = some i) (hj : slot N y = some j) (qa : PE X a (tE K ca R G E m)) (qb : PE X b (tE K ca R G E m')) :
    PS X (.Assign [.Tuple [.Name x px, .Name y py] n pt] (.Tuple [a, b] n2 pt2) p) (tS K ca R G w E (.par i j m m')) := by
  have nd : X.N.Nodup := by rw [c.hN]; exact c.nd
  have ai : X.N[i]? = some x := by rw [c.hN]; exact (slot_at hi).1
  have aj : X.N[j]? = some y := by rw [c.hN]; exact (slot_at hj).1
  have hij : i ≠ j := fun e => by
    subst e
    rw [ai] at aj
    cases aj
    simp at hxy
  refine (ps_par c.calm nd ai aj hij (loc_local c hx) (loc_local c hy) (pa_cons qa (pa_cons qb pa_nil (star_cons hb _ _)) (star_cons ha _ _)) (swapped_two c hx hy hl hxy ha hb h1 h2)).imp fun Z σ H ⟨ρ, S, φ, r, re, rs, e1, go⟩ => ?_
  refine sE_bnd re rs e1 go fun d1 S1 φ1 H1 v1 le1 rs1 rv1 e2 => ?_
  refine sE_bnd (re.mono le1) rs1 e2 (go.mono le1) fun d2 S2 φ2 H2 v2 le2 rs2 rv2 e3 => ?_
  cases e3
  exact ⟨v1, v2, rfl, (go.mono (le1.trans le2)).here rs2 (((re.mono (le1.trans le2)).set i (rv1.mono le2)).set j rv2)⟩
theorem s_iff {e : Expr} {a b : List Stmt} {m : Ex} {x y : Sms} {p : Pos} (h : PT X e (tT K ca R G E m)) (ha : PSs X a (tSs K ca R G w E x)) (hb : PSs X b (tSs K ca R G w E y)) : PS X (.If e a b p) (tS K ca R G w E (.iff m x y)) := by
  refine (ps_if h ha hb).imp fun Z σ H ⟨ρ, S, φ, r, re, rs, e1, go⟩ => ?_
  refine sT_bnd re rs e1 go fun d1 S1 φ1 H1 v1 le1 rs1 rv1 e2 => ?_
  split at e2
  · cases rv1
    exact ⟨true, rfl, iteT ⟨ρ, S1, φ1, r, re.mono le1, rs1, e2, go.mono le1⟩⟩
  · cases rv1
    exact ⟨false, rfl, iteF ⟨ρ, S1, φ1, r, re.mono le1, rs1, e2, go.mono le1⟩⟩
  · cases e2
theorem ss_nil : PSs X [] (tSs K ca R G w E .nil) := pss_nil.imp fun Z σ H ⟨ρ, S, φ, r, re, rs, e1, go⟩ => by
  cases e1
  exact go.here rs re
theorem ss_cons {s : Stmt} {r : List Stmt} {a : Sm} {b : Sms} (h1 : PS X s (tS K ca R G w E a)) (h2 : PSs X r (tSs K ca R G w E b)) : PSs X (s :: r) (tSs K ca R G w E (.cons a b)) := by
  refine (pss_cons h1 h2).imp fun Z σ H ⟨ρ, S, φ, o, re, rs, e1, go⟩ => ?_
  simp only [exs] at e1
  cases q : ex R G w a ρ S with
  | none => rw [q] at e1; cases e1
  | some o1 =>
    rw [q] at e1
    refine ⟨ρ, S, φ, o1, re, rs, q, ?_⟩
    cases o1 with
    | er x S1 => cases e1; exact go
    | ok f ρ1 S1 =>
      cases f with
      | nx => exact fun φ1 H1 le1 rs1 σ1 re1 => ⟨ρ1, S1, φ1, o, re1, rs1, e1, go.mono le1⟩
      | _ => cases e1; exact go
/-! ### loops -/
/-- one turn's end -/
theorem turn_end {Z : Ends} {r r' : Rt} {Nn : L2.St → Hp → Prop} {next : Rho → Sto → MoS} (go : GoS K ca E φ H r Z)
    (hN : ∀ ρ2 S2 φ2 H2 σ2, Le φ H φ2 H2 → RS K ca φ2 H2 S2 → RE K φ2 H2 ρ2 σ2 → next ρ2 S2 = some r → Nn σ2 H2)
    (e : (match (some r' : MoS) with
        | some (.ok .nx ρ2 S2) => next ρ2 S2
        | some (.ok .ct ρ2 S2) => next ρ2 S2
        | some (.ok .brk ρ2 S2) => some (.ok .nx ρ2 S2)
        | r => r) = some r) : GoS K ca E φ H r' { Z with nx := Nn, ct := Nn, bk := Z.nx } := by
  cases r' with
  | er x S1 => cases e; exact go
  | ok f ρ1 S1 =>
    cases f with
    | nx => exact fun φ1 H1 le1 rs1 σ1 re1 => hN ρ1 S1 φ1 H1 σ1 le1 rs1 re1 e
    | ct => exact fun φ1 H1 le1 rs1 σ1 re1 => hN ρ1 S1 φ1 H1 σ1 le1 rs1 re1 e
    | brk => cases e; exact fun φ1 H1 le1 rs1 σ1 re1 => go φ1 H1 le1 rs1 σ1 re1
    | ret d => cases e; exact fun φ1 H1 le1 rs1 v rv => go φ1 H1 le1 rs1 v rv
theorem s_for (c : CK T N K ca R G k X sc false E) (hp : PassesOwn (model X.prog X.w) X.A X.env X.xe) {tg it : Expr} {body : List Stmt} {p : Pos} {kd : Ib} {as : Exs} {t : Tg} {b : Sms}
    (hi : PI X tg it (tI K ca R G E kd as)) (hs : ∀ x, foldedSetIterable it X.env x = pure x) (ht : cpT N false sc tg = some t) (hb : PSs X body (tSs K ca R G w E b)) : PS X (.For tg it body [] p) (tS K ca R G w E (.for t kd as b)) := by
  refine (ps_for hp c.calm hi (g_ok c ht) hb hs).imp fun Z σ H ⟨ρ, S, φ, r, re, rs, e1, go⟩ => ?_
  have e2 : bnS (evs R G as ρ S) (fun ds S1 => match it1 S1 kd ds with
    | some j => forL t j (fun ρ S => exs R G w b ρ S) (lenI j S1 + 1) 0 ρ S1
    | none => none) = some r := by
    rw [ex] at e1
    exact e1
  cases q1 : evs R G as ρ S with
  | none => rw [q1] at e2; cases e2
  | some o1 =>
    rw [q1] at e2
    cases o1 with
    | er x S1 => cases e2; exact ⟨ρ, S, φ, _, re, rs, q1, go⟩
    | ok ds S1 =>
      simp only [bnS] at e2
      split at e2
      · rename_i j hj
        refine ⟨ρ, S, φ, _, re, rs, q1, j, hj, fun φ1 H1 J le1 rs1 jok => ?_⟩
        refine ⟨fun i m σ2 H2 => ∃ φ2 S2 ρ2, Le φ1 H1 φ2 H2 ∧ RS K ca φ2 H2 S2 ∧ RE K φ2 H2 ρ2 σ2 ∧ forL t j (fun ρ S => exs R G w b ρ S) m i ρ2 S2 = some r, ⟨_, φ1, S1, ρ, Le.refl _ _, rs1, re.mono le1, e2⟩, ?_⟩
        rintro i m σ2 H2 ⟨φ2, S2, ρ2, le2, rs2, re2, e3⟩
        cases m with
        | zero => cases e3
        | succ n =>
          rw [forL] at e3
          cases q2 : nxt j i S2 with
          | none => rw [q2] at e3; cases e3
          | some o2 =>
            rw [q2] at e3
            have jo := jok φ2 H2 S2 i o2 le2 rs2 q2
            cases o2 with
            | none =>
              cases e3
              exact .inl ⟨jo, (go.mono (le1.trans le2)).here rs2 re2⟩
            | some d =>
              simp only at e3
              refine .inr ⟨jo.1, fun σ' H' => ∃ φ' S' ρ', Le φ1 H1 φ' H' ∧ RS K ca φ' H' S' ∧ RE K φ' H' ρ' σ' ∧ forL t j (fun ρ S => exs R G w b ρ S) n (i + 1) ρ' S' = some r, fun σ' H' z => ⟨n, Nat.lt_succ_self n, z⟩, fun x H' hy => ?_⟩
              obtain ⟨le3, rs3, rv3⟩ := jo.2 x H' hy
              cases q3 : asgT t d ρ2 with
              | none => rw [q3] at e3; cases e3
              | some ρ3 =>
                rw [q3] at e3
                simp only at e3
                refine g_read q3 (re2.mono le3) rv3 fun σ3 re3 _ => ?_
                cases q4 : exs R G w b ρ3 S2 with
                | none => rw [q4] at e3; cases e3
                | some r' =>
                  rw [q4] at e3
                  refine ⟨ρ3, S2, φ2, r', re3, rs3, q4, turn_end (go.mono (le1.trans (le2.trans le3))) (next := fun ρ S => forL t j (fun ρ S => exs R G w b ρ S) n (i + 1) ρ S) (fun ρ4 S4 φ4 H4 σ4 le4 rs4 re4 e4 => ⟨φ4, S4, ρ4, le2.trans (le3.trans le4), rs4, re4, e4⟩) e3⟩
      · cases e2
theorem s_whl (hp : PassesOwn (model X.prog X.w) X.A X.env X.xe) {e : Expr} {body : List Stmt} {p : Pos} {m : Ex} {b : Sms} (hc : PT X e (tT K ca R G E m)) (hb : PSs X body (tSs K ca R G w E b)) : PS X (.While e body [] p) (tS K ca R G w E (.whl m b)) := by
  refine (ps_while hp hc hb).imp fun Z σ H ⟨ρ, S, φ, r, re, rs, e1, go⟩ => ?_
  refine ⟨fun n σ2 H2 => ∃ φ2 S2 ρ2, Le φ H φ2 H2 ∧ RS K ca φ2 H2 S2 ∧ RE K φ2 H2 ρ2 σ2 ∧ whL (fun ρ S => ev R G m true ρ S) (fun ρ S => exs R G w b ρ S) n ρ2 S2 = some r, ⟨w, φ, S, ρ, Le.refl _ _, rs, re, e1⟩, ?_⟩
  rintro n σ2 H2 ⟨φ2, S2, ρ2, le2, rs2, re2, e3⟩
  cases n with
  | zero => cases e3
  | succ n =>
    rw [whL] at e3
    refine sT_bnd re2 rs2 e3 (go.mono le2) fun d1 S3 φ3 H3 v3 le3 rs3 rv3 e4 => ?_
    split at e4
    · cases rv3
      refine ⟨true, rfl, iteT ⟨fun σ' H' => ∃ φ' S' ρ', Le φ H φ' H' ∧ RS K ca φ' H' S' ∧ RE K φ' H' ρ' σ' ∧ whL (fun ρ S => ev R G m true ρ S) (fun ρ S => exs R G w b ρ S) n ρ' S' = some r, fun σ' H' z => ⟨n, Nat.lt_succ_self n, z⟩, ?_⟩⟩
      cases q4 : exs R G w b ρ2 S3 with
      | none => rw [q4] at e4; cases e4
      | some r' =>
        rw [q4] at e4
        exact ⟨ρ2, S3, φ3, r', re2.mono le3, rs3, q4, turn_end (go.mono (le2.trans le3)) (next := fun ρ S => whL (fun ρ S => ev R G m true ρ S) (fun ρ S => exs R G w b ρ S) n ρ S) (fun ρ5 S5 φ5 H5 σ5 le5 rs5 re5 e5 => ⟨φ5, S5, ρ5, le2.trans (le3.trans le5), rs5, re5, e5⟩) e4⟩
    · cases rv3
      cases e4
      exact ⟨false, rfl, iteF ((go.mono (le2.trans le3)).here rs3 (re2.mono le3))⟩
    · cases e4
/-! ### all statements -/
theorem body_ok {f : Stmt → Option Sm} (hf : ∀ s a, f s = some a → PS X s (tS K ca R G w E a)) : ∀ {l : List Stmt} {b : Sms}, (l.foldr (fun s r => match f s, r with
      | some a, some b => some (Sms.cons a b)
      | _, _ => none) (some .nil)) = some b → PSs X l (tSs K ca R G w E b)
  | [], b, h => by cases h; exact ss_nil
  | s :: l, b, h => by
    rw [List.foldr_cons] at h
    split at h
    · rename_i a r h1 h2
      cases h
      exact ss_cons (hf _ _ h1) (body_ok hf h2)
    · cases h
theorem cpS_ok (c : CK T N K ca R G k X sc false E) (hp : PassesOwn (model X.prog X.w) X.A X.env X.xe) (n : Nat) : ∀ (q : Nat) (s : Stmt) (a : Sm), cpS T N n q sc s = some a → PS X s (tS K ca R G w E a) := by
  intro q
  induction q with
  | zero => intro s a h; cases h
  | succ q ih =>
    intro s a h
    have hf : ∀ e m, cp T N n false sc e = some m → PE X e (tE K ca R G E m) := fun e m z => (cp_ok n X sc false E c e m z).1
    have ht : ∀ e m, cp T N n false sc e = some m → PT X e (tT K ca R G E m) := fun e m z => (cp_ok n X sc false E c e m z).2.1
    cases s with
    | Pass p => cases h; exact s_pass
    | Break p => cases h; exact s_brk
    | Continue p => cases h; exact s_cnt
    | Expr e p =>
      simp only [cpS] at h
      split at h
      · rename_i hn
        (simp only [Option.map_eq_some_iff] at h)
        obtain ⟨m, h1, rfl⟩ := h
        exact s_expr hn (hf _ _ h1)
      · cases h
    | Return o p =>
      cases o with
      | none => cases h; exact s_retn
      | some e =>
        simp only [cpS, Option.map_eq_some_iff] at h
        obtain ⟨m, h1, rfl⟩ := h
        exact s_ret (hf _ _ h1)
    | If e l r p =>
      simp only [cpS] at h
      split at h
      · rename_i m x y h1 h2 h3
        cases h
        exact s_iff (ht _ _ h1) (body_ok ih h2) (body_ok ih h3)
      · cases h
    | For tg it l o p =>
      cases o with
      | cons _ _ => simp only [cpS] at h; cases h
      | nil =>
        simp only [cpS] at h
        split at h
        · rename_i kd as t y h1 h2 h3
          cases h
          obtain ⟨i1, i2⟩ := i_ok (tg := tg) c hf h1
          exact s_for c hp i1 i2 h2 (body_ok ih h3)
        · cases h
    | While e l o p =>
      cases o with
      | cons _ _ => simp only [cpS] at h; cases h
      | nil =>
        simp only [cpS] at h
        split at h
        · rename_i m y h1 h2
          cases h
          exact s_whl hp (ht _ _ h1) (body_ok ih h2)
        · cases h
    | AugAssign tg op e p =>
      cases tg with
      | Name x px =>
        simp only [cpS] at h
        split at h
        · rename_i hl
          split at h
          · rename_i i o m h1 h2 h3
            cases h
            exact s_aug c hl h1 h2 (hf _ _ h3)
          · cases h
        · cases h
      | _ => simp only [cpS] at h; cases h
    | Assign tgs e p =>
      rcases tgs with _ | ⟨tg, _ | ⟨t2, ts⟩⟩
      · simp only [cpS] at h; cases h
      · cases tg with
        | Name x px =>
          simp only [cpS] at h
          split at h
          · rename_i t m h1 h2
            cases h
            exact s_asgN c n h1 h2
          · cases h
        | Subscript o i px =>
          simp only [cpS] at h
          split at h
          · rename_i hn
            rw [Bool.and_eq_true] at hn
            split at h
            · rename_i x y z h1 h2 h3
              cases h
              exact s_seti hn.1 hn.2 (hf _ _ h1) (hf _ _ h2) (hf _ _ h3)
            · cases h
          · cases h
        | Tuple ts j px =>
          have gen : ∀ {a}, (if noTuple e && noComp e then match cpT N false sc (.Tuple ts j px), cp T N n false sc e with
              | some t, some m => some (Sm.asg t m)
              | _, _ => none
            else none) = some a → PS X (.Assign [.Tuple ts j px] e p) (tS K ca R G w E a) := fun h => by
            split at h
            · rename_i hn
              rw [Bool.and_eq_true] at hn
              split at h
              · rename_i t m h1 h2
                cases h
                exact s_asgT c hn.1 hn.2 h1 (hf _ _ h2)
              · cases h
            · cases h
          simp only [cpS] at h
          split at h
          · rename_i x y a b h0
            obtain ⟨px', py, k2, p2, rfl, rfl, q1, q2, q3, q4, q5, q6, q7, q8⟩ := parOf_some h0
            split at h
            · rename_i i j m m' h1 h2 h3 h4
              cases h
              exact s_par c q1 q2 q3 q4 q5 q6 q7 q8 h1 h2 (hf _ _ h3) (hf _ _ h4)
            · cases h
          · exact gen h
        | _ => simp only [cpS] at h; cases h
      · simp only [cpS] at h; cases h
    | _ => simp only [cpS] at h; cases h
end
end Mx
set_option Elab.async false
set_option linter.all false
set_option maxRecDepth 100000
set_option maxHeartbeats 8000000
/-! the table of defs -/
namespace Mx
open L2 PySem PySem.Spec PyProof.Rows
/-- one def of the text -/
structure Rw where
  x : Str
  st : Stmt
  N : List Str
  ps : List Str
  body : Sms
def Rw.fn (r : Rw) : Fn := ⟨r.ps.length, r.N.length, r.body⟩
structure Rw.Ok (T : Tb) (r : Rw) : Prop where
  sc : FnScope r.N r.ps (defScope r.st)
  bd : cpB T r.N 60 60 (defScope r.st) (defBody r.st) = some r.body
structure At (K : PySem.W.Frag) (mg : Str → Option Value) (r : Rw) : Prop where
  ex : ∃ f fd, mg r.x = some (.ref f) ∧ Binds K fd r.ps [] ∧ Fun K r.x r.x r.st f fd
/-- what stands in the module behind the top -/
structure Gr (T : Tb) (K : PySem.W.Frag) (mg : Str → Option Value) (G : List D) (rows : List Rw) : Prop where
  tfn : T.fn = rows.map (·.x)
  ok : ∀ r ∈ rows, r.Ok T
  at_ : ∀ r ∈ rows, At K mg r
  bis : ∀ x, T.bis.contains x = true → mg x = none
  mth : ∀ x, T.mth.contains x = true → ∀ b, mbOf x = some b → mg x = some (biV b)
  gls : ∀ x, T.gl.contains x = true → ∀ d, G[T.gl.idxOf x]? = some d → ∃ u v, mg x = some u ∧ L2.RelV v u ∧ ∀ φ H, RV K φ H d v
theorem RVs.start {K : PySem.W.Frag} {φ : List Addr} {H : Hp} {ds : List D} {vs : List V} (r : RVs K φ H ds vs) {n m : Nat} (e : n = m) :
    RE K φ H (ds.map some ++ List.replicate n none) (vs.map some ++ List.replicate m none) := by
  subst e
  refine ⟨by simp [r.length], fun i d h => ?_⟩
  by_cases hi : i < ds.length
  · rw [List.getElem?_append_left (by simpa using hi), List.getElem?_map] at h
    cases q : ds[i]? with
    | none => rw [q] at h; cases h
    | some d' =>
      rw [q] at h
      cases h
      obtain ⟨v, h1, h2⟩ := r.get q
      refine ⟨v, ?_, h2⟩
      rw [List.getElem?_append_left (by rw [List.length_map, ← r.length]; exact hi), List.getElem?_map, h1]
      rfl
  · rw [List.getElem?_append_right (by simpa using hi)] at h
    simp only [List.getElem?_replicate] at h
    split at h <;> cases h
theorem GoS.leave {K : PySem.W.Frag} {ca : Nat → Addr} {E : XK} {φ : List Addr} {H : Hp} {r : Rs D} {Q : VK} {m : MoS} (e : leave m = some r) (go : Go K ca E φ H r Q) :
    ∃ r0, m = some r0 ∧ GoS K ca E φ H r0 { nx := fun _ H' => Q .non H', rt := Q } := by
  unfold Mx.leave at e
  split at e
  · cases e
    exact ⟨_, rfl, fun φ1 H1 le rs σ' _ => go φ1 H1 .non le rs .non⟩
  · cases e
    exact ⟨_, rfl, fun φ1 H1 le rs v rv => go φ1 H1 v le rs rv⟩
  · cases e
    exact ⟨_, rfl, go⟩
  · cases e
theorem table {P : Program} {w : World} {T : Tb} {K : PySem.W.Frag} {mg : Str → Option Value} {G : List D} {rows : List Rw} {ca : Nat → Addr} {wt : Nat} (g : Gr T K mg G rows) : ∀ (k i : Nat) (r : Rw), rows[i]? = some r →
    ∃ f fd, mg r.x = some (.ref f) ∧ Binds K fd r.ps [] ∧ Fun K r.x r.x r.st f fd ∧ ∀ base : Heap, FnG P w K mg base (L2.CX P w) k f fd r.ps (spR K ca (run (rows.map Rw.fn) G wt k i)) := by
  intro k
  induction k with
  | zero =>
    intro i r hr
    obtain ⟨f, fd, h1, h2, h3⟩ := (g.at_ r (List.mem_of_getElem? hr)).ex
    refine ⟨f, fd, h1, h2, h3, fun base => ⟨fun vs H Q E h => ?_, fun A out s H args us vs Q E hg hr0 e0 hbd rv h => ?_⟩⟩
    · obtain ⟨φ, S, ds, r0, _, _, e, _⟩ := h
      cases e
    · obtain ⟨φ, S, ds, r0, _, _, e, _⟩ := h
      cases e
  | succ k ih =>
    intro i r hr
    obtain ⟨f, fd, h1, h2, h3⟩ := (g.at_ r (List.mem_of_getElem? hr)).ex
    have hF : (rows.map Rw.fn)[i]? = some r.fn := by rw [List.getElem?_map, hr]; rfl
    have ok := g.ok r (List.mem_of_getElem? hr)
    refine ⟨f, fd, h1, h2, h3, fun base => fnG_of h3 ok.sc (fun vs H Q E h => ?_) fun cdv A out s H vs Q E hg hr1 h => ?_⟩
    · obtain ⟨φ, S, ds, r0, rv, _, e, _⟩ := h
      simp only [run, hF] at e
      split at e
      · rename_i hl
        rw [← rv.length, hl]
        rfl
      · cases e
    · obtain ⟨φ, S, ds, r0, rv, rs, e, go⟩ := h
      simp only [run, hF] at e
      split at e
      · rename_i hl
        obtain ⟨r1, e1, go1⟩ := GoS.leave e go
        have ck : CK T r.N K ca (run (rows.map Rw.fn) G wt k) G k (cxOf (L2.CX P w) P w K mg base r.N r.x (defScope r.st) f cdv A out s H E) (defScope r.st) false E := by
          refine ⟨rfl, ok.sc.kind, rfl, ok.sc.nd, rfl, rfl, hg, hr1, fun _ _ => rfl, fun x hx => ?_, g.bis, g.mth, g.gls, passes_call (takes_of rfl rfl rfl rfl) fun _ _ _ _ z => z⟩
          have hm : x ∈ T.fn := by simpa using hx
          have hi : (T.fn).idxOf x < T.fn.length := List.idxOf_lt_length_iff.mpr hm
          have hi2 : (T.fn).idxOf x < rows.length := by
            have := hi
            rw [g.tfn, List.length_map] at this
            rw [g.tfn]
            exact this
          obtain ⟨f', fd', q1, q2, q3, q4⟩ := ih ((T.fn).idxOf x) (rows[(T.fn).idxOf x]'hi2) (List.getElem?_eq_getElem hi2)
          have ex : (rows[(T.fn).idxOf x]'hi2).x = x := by
            have z : (rows.map (·.x))[(T.fn).idxOf x]? = some x := by
              rw [← g.tfn, List.getElem?_eq_getElem hi, List.getElem_idxOf]
            rw [List.getElem?_map, List.getElem?_eq_getElem hi2] at z
            exact Option.some.inj z
          rw [ex] at q1
          exact ⟨f', fd', _, q1, q3.kp, q2, q4 base⟩
        have hN : ds.length ≤ r.N.length := by
          have := congrArg List.length ok.sc.pre
          rw [List.length_take] at this
          have hl' : ds.length = r.ps.length := hl
          omega
        refine ⟨_, body_ok (fun s a hs => cpS_ok (w := wt) ck (passes_of rfl) 60 60 s a hs) ok.bd, enter r.fn ds, S, φ, r1, ?_, rs, e1, go1⟩
        exact RVs.start rv (by show r.N.length - ds.length = r.N.length - vs.length; rw [rv.length])
      · cases e
end Mx
set_option Elab.async false
set_option linter.all false
set_option maxRecDepth 100000
set_option maxHeartbeats 8000000
/-! a law's end: from the module's table and the machine's answer -/
namespace Mx
open PySem PySem.Spec PySem.Calls PyProof.Rows L2
/-- a heap in which at most the script is tracked -/
structure Lone (P : Program) (w : World) (K : PySem.W.Frag) (h : Heap) (a : Addr) (xs : List V) (H : Hp) : Prop where
  one : ∀ b, H b = none ∨ (b = a ∧ K.lookup a = none ∧ ∃ o, H b = some (.frz o (.lst xs)))
  seq : FzL K H a xs
  hok : HOk P w H h
theorem lone_mk {P : Program} {w : World} {K : PySem.W.Frag} {h : Heap} {a : Addr} {vs : List Value} {ns : List Int} (KX : K.In h) (ha : h.get? a = some { cls := .type "list", data := .seq vs.toArray })
    (hi : PyProof.Rows.IntsAre vs ns) (hl : ns.length ≤ sizeLine) : ∃ H, Lone P w K h a (ns.map V.int) H := by
  have rv := vals_ints hi
  have sz : vs.toArray.size ≤ sizeLine := by rw [List.size_toArray, hi.length]; exact hl
  cases hk : K.lookup a with
  | some o =>
    have e : o = { cls := .type "list", data := .seq vs.toArray } := by
      have e1 := KX a o hk
      rw [ha] at e1
      exact (Option.some.inj e1).symm
    subst e
    refine ⟨fun _ => none, fun _ => .inl rfl, .inl (.inr ⟨_, vs.toArray, _, hk, rfl, rfl, rfl, sz, by simpa using rv⟩), fun b u z => nomatch z⟩
  | none =>
    have at_a : ∀ b, b = a → (if b = a then some (HO.frz { cls := .type "list", data := .seq vs.toArray } (.lst (ns.map V.int))) else none) = some (HO.frz { cls := .type "list", data := .seq vs.toArray } (.lst (ns.map V.int))) := fun b e => if_pos e
    refine ⟨fun b => if b = a then some (HO.frz { cls := .type "list", data := .seq vs.toArray } (.lst (ns.map V.int))) else none, fun b => ?_, .inr ⟨_, at_a a rfl⟩, fun b u z => ?_⟩
    · by_cases hb : b = a
      · exact .inr ⟨hb, hb ▸ hk, _, at_a b hb⟩
      · exact .inl (if_neg hb)
    · by_cases hb : b = a
      · have z1 := (at_a b hb).symm.trans z
        cases z1
        subst hb
        refine ⟨ha, ?_, vs, _, rv, ha⟩
        rw [List.length_map]
        exact hl
      · (have z1 := (if_neg hb).symm.trans z)
        cases z1
theorem lone_call {P : Program} {w : World} {K : PySem.W.Frag} {mg mb : Str → Option Value} {k : Nat} {fa a : Addr} {fd : FuncData} {x : Str} {sp : Sp} {s₁ : Shared} {vs : List Value} {ns : List Int} {H : Hp}
    (KX : K.In s₁.heap) (hns : s₁.heap.Ns mainGlobals mg) (hb : s₁.heap.Ns builtinsNs mb) (hbb : ∀ y : Str, y ≠ "__name__" → mb y = bootBuiltins y) (hlim : s₁.heap.NoLimit) (hg : s₁.gens = #[])
    (ha : s₁.heap.get? a = some { cls := .type "list", data := .seq vs.toArray }) (L : Lone P w K s₁.heap a (ns.map V.int) H) (hr : Room k callerA)
    (F : ∀ base : Heap, FnG P w K mg base (L2.CX P w) k fa fd [x] sp) (hbind : Binds K fd [x] [])
    (hsp : sp [.ref a] H (fun v _ => v = .bl true) fun _ _ _ => False) :
    codeAny (model P w) callerA (.call (.ref fa) ⟨[.ref a], []⟩)
      (fun r s' => r = .ok (.ret (.bool true)) ∧ OldK s₁.heap s'.heap ∧ s'.os = s₁.os ∧ AllBare s'.gens) s₁ := by
  have up : ∀ {b : Addr} {o : Obj}, s₁.heap.get? b = some o → H b = none → (hidT s₁.heap H).get? b = some o := fun e n => hidT_get e n
  have dict : ∀ {b : Addr} {m : Str → Option Value}, s₁.heap.Ns b m → (hidT s₁.heap H).Ns b m := by
    rintro b m ⟨o, es, ep, e, d, r⟩
    refine ⟨o, es, ep, up e ?_, d, r⟩
    rcases L.one b with q | ⟨rfl, _, _⟩
    · exact q
    · rw [ha] at e
      cases e
      cases d
  have kin : K.In (hidT s₁.heap H) := fun b o e => up (KX b o e) <| by
    rcases L.one b with q | ⟨rfl, q, _⟩
    · exact q
    · rw [q] at e
      cases e
  have nl : (hidT s₁.heap H).NoLimit := by
    obtain ⟨mc, h1, h2⟩ := hlim
    exact ⟨mc, dict h1, h2⟩
  have e0 : Env0 P w K mg (hidT s₁.heap H) callerA [] s₁ H := by
    refine ⟨rfl, ⟨kin, dict hns, ⟨mb, dict hb, hbb⟩, nl⟩, fun b o e => of_hidT e, Nat.le_of_eq (hidT_size _ _), trivial, fun b z => ?_, L.hok, .of_eq hg⟩
    have z' : b ∈ ([] : List Addr) := z
    cases z'
  refine codeAny_mono ((F _).go callerA [] s₁ H ⟨[.ref a], []⟩ [.ref a] [.ref a] _ _ rfl hr e0 (hbind s₁ [.ref a] KX rfl) (.cons rfl .nil) hsp) fun r s' h => ?_
  match r, h with
  | .error e, h =>
    (obtain ⟨_, _, _, _, _, _, _, _, _, _, _, _, z⟩ := h)
    exact z.elim
  | .ok (.ret u), h =>
    (obtain ⟨v, H', os, bare, un, hok', r', q⟩ := h)
    have q' : v = .bl true := q
    subst q'
    (obtain rfl : u = Value.bool true := r')
    (refine ⟨rfl, OldK.of_keep fun b o e => ?_, os, bare⟩)
    have no : b ∉ ([] : List Addr) := by simp
    rcases L.one b with q | ⟨_, _, o', q⟩
    · exact un.keep b o e q no no
    · have e1 := (L.hok b _ q).1
      have e2 := (hok' b _ (un.frzs b _ _ q)).1
      rw [e] at e1
      cases e1
      exact e2
  | .ok .next, h => exact False.elim h
  | .ok .brk, h => exact False.elim h
  | .ok .cont, h => exact False.elim h
theorem ints_rvs {K : PySem.W.Frag} {φ : List Addr} {H : Hp} : ∀ ns : List Int, RVs K φ H (ns.map D.int) (ns.map V.int)
  | [] => .nil
  | z :: zs => .cons (.int z) (ints_rvs zs)
/-- the goal behind a head by facts -/
theorem law_end {l : PySem.W.OpenLaw} {n k wt i : Nat} {q : Program} {loose : List Str} {XP : (Str → Option Value) → Heap → Prop} {YP : World → Heap → Prop} {d : DefRec} {T : Tb} {G : List D} {rows : List Rw} {r : Rw} {x : Str}
    (hn : l.most = some n) (hn2 : n ≤ sizeLine) (hdf : d.params.defaults = []) (hr : Room k callerA) (hi : rows[i]? = some r) (hx : r.x = d.name) (hp : r.ps = [x])
    (F : ∀ (w : World) (mg : Str → Option Value) (h : Heap), YP w h → h.Ns mainGlobals mg → ∃ K : PySem.W.Frag, K.In h ∧ Gr T K mg G rows)
    (M : ∀ ns : List Int, ns.length ≤ n → (∀ z ∈ ns, Builtin.Int.intBits z ≤ 1048576) → ∃ S', run (rows.map Rw.fn) G wt k i [.ref 0] [.frz (ns.map D.int)] = some (.ok (.bl true) S')) :
    PySem.W.WalkO q loose XP YP l.row.toRowW d []
      (fun f vs => PySem.call f vs) := by
  refine Att.attach_callB hn hdf fun w s₀ s₁ mg mb fa o pm cd doc a vs ns GG Y ho hd hcd hmg hobj hints hlen hbits hg => ?_
  obtain ⟨K, KX, g⟩ := F w mg _ Y GG.T.g
  obtain ⟨f, fd, h1, h2, h3, h4⟩ := table (P := l.prog) (w := w) (ca := fun _ => 0) (wt := wt) g k i r hi
  rw [hx, hmg] at h1
  cases h1
  rw [hp] at h2 h4
  obtain ⟨H, L⟩ := lone_mk (P := l.prog) (w := w) KX hobj hints (Nat.le_trans hlen hn2)
  obtain ⟨S', hM⟩ := M ns hlen hbits
  refine lone_call KX GG.T.g GG.T.b GG.T.builtins GG.T.nolimit hg hobj L hr h4 h2 ?_
  · refine ⟨[a], [.frz (ns.map D.int)], [.ref 0], _, .cons (.ref rfl) .nil, ⟨rfl, fun i o b e1 e2 => ?_, fun i j o u b e1 e2 m1 m2 e3 e4 => ?_⟩, hM, fun φ1 H1 v le rs rv => ?_⟩
    · match i, e1, e2 with
      | 0, e1, e2 =>
        cases e1
        cases e2
        refine ⟨_, L.seq, ?_⟩
        exact ints_rvs ns
      | i + 1, e1, e2 => simp at e1
    · match i, j, e1, e2 with
      | 0, 0, _, _ => rfl
      | i + 1, _, e1, _ => simp at e1
      | _, j + 1, _, e2 => simp at e2
    · cases rv
      rfl
end Mx
set_option Elab.async false
set_option linter.all false
set_option maxRecDepth 100000
set_option maxHeartbeats 8000000
/-! reading the machine: what is wanted behind a step -/
namespace Mx
open PySem L2
/-- what stands under it is not looked into -/
structure Tok {α : Type} (a : α) : Type where
def wp {α : Type} (m : Mo α) (Q : α → Sto → Prop) (E : Exn → Sto → Prop) (_ : Tok (Q, E) := ⟨⟩) : Prop := match m with
  | some (.ok a S) => Q a S
  | some (.er x S) => E x S
  | none => False
def wpS (m : MoS) (Q : Fl → Rho → Sto → Prop) (E : Exn → Sto → Prop) (_ : Tok (Q, E) := ⟨⟩) : Prop := match m with
  | some (.ok f ρ S) => Q f ρ S
  | some (.er x S) => E x S
  | none => False
def nE : Exn → Sto → Prop := fun _ _ => False
section
variable {α β : Type} {Q Q' : α → Sto → Prop} {E E' : Exn → Sto → Prop} {m : Mo α} {Z Z' : Fl → Rho → Sto → Prop} {s : MoS}
@[simp] theorem wp_ok {a : α} {S : Sto} : wp (some (.ok a S)) Q E = Q a S := rfl
@[simp] theorem wp_er {x : Exn} {S : Sto} : wp (some (.er x S) : Mo α) Q E = E x S := rfl
@[simp] theorem wp_none : wp (none : Mo α) Q E = False := rfl
@[simp] theorem wp_bnd {Q : β → Sto → Prop} {f : α → Sto → Mo β} : wp (bnd m f) Q E = wp m (fun a S => wp (f a S) Q E) E := by
  cases m with
  | none => rfl
  | some r => cases r <;> rfl
@[simp] theorem wp_lft {o : Option (α × Sto)} : wp (lft o) Q E = ∃ a S, o = some (a, S) ∧ Q a S := by
  rcases o with _ | ⟨a, S⟩
  · simp [lft]
  · simp only [lft, wp_ok, Option.some.injEq, Prod.mk.injEq]
    exact propext ⟨fun h => ⟨a, S, ⟨rfl, rfl⟩, h⟩, fun ⟨_, _, ⟨h1, h2⟩, h⟩ => by subst h1; subst h2; exact h⟩
@[simp] theorem wp_lf0 {o : Option α} {S : Sto} : wp (lf0 o S) Q E = ∃ a, o = some a ∧ Q a S := by
  cases o with
  | none => simp [lf0]
  | some a => simp [lf0]
@[simp] theorem wp_if {c : Prop} [Decidable c] {m m' : Mo α} : wp (if c then m else m') Q E = if c then wp m Q E else wp m' Q E := by split <;> rfl
theorem wpE (h : ∀ a S, Q a S = Q' a S) : wp m Q E = wp m Q' E := by
  have e : Q = Q' := funext fun a => funext fun S => h a S
  subst e
  rfl
theorem wp_mono (h : wp m Q E) (hq : ∀ a S, Q a S → Q' a S) (he : ∀ x S, E x S → E' x S) : wp m Q' E' := by
  cases m with
  | none => exact h
  | some r => cases r with
    | ok a S => exact hq a S h
    | er x S => exact he x S h
theorem wp_use (h : wp m Q nE) (hq : ∀ a S, Q a S → Q' a S) : wp m Q' E' := wp_mono h hq fun _ _ z => z.elim
theorem wp_get (h : wp m Q nE) : ∃ a S, m = some (.ok a S) ∧ Q a S := by
  cases m with
  | none => exact h.elim
  | some r => cases r with
    | ok a S => exact ⟨a, S, rfl, h⟩
    | er x S => exact h.elim
@[simp] theorem wpS_ok {f : Fl} {ρ : Rho} {S : Sto} : wpS (some (.ok f ρ S)) Z E = Z f ρ S := rfl
@[simp] theorem wpS_er {x : Exn} {S : Sto} : wpS (some (.er x S)) Z E = E x S := rfl
@[simp] theorem wpS_none : wpS none Z E = False := rfl
@[simp] theorem wpS_bnS {f : α → Sto → MoS} : wpS (bnS m f) Z E = wp m (fun a S => wpS (f a S) Z E) E := by
  cases m with
  | none => rfl
  | some r => cases r <;> rfl
@[simp] theorem wpS_nxS {o : Option (Rho × Sto)} : wpS (nxS o) Z E = ∃ ρ S, o = some (ρ, S) ∧ Z .nx ρ S := by
  rcases o with _ | ⟨a, S⟩
  · simp [nxS]
  · simp only [nxS, wpS_ok, Option.some.injEq, Prod.mk.injEq]
    exact propext ⟨fun h => ⟨a, S, ⟨rfl, rfl⟩, h⟩, fun ⟨_, _, ⟨h1, h2⟩, h⟩ => by subst h1; subst h2; exact h⟩
@[simp] theorem wpS_if {c : Prop} [Decidable c] {m m' : MoS} : wpS (if c then m else m') Z E = if c then wpS m Z E else wpS m' Z E := by split <;> rfl
theorem wpSE (h : ∀ f ρ S, Z f ρ S = Z' f ρ S) : wpS s Z E = wpS s Z' E := by
  have e : Z = Z' := funext fun a => funext fun b => funext fun S => h a b S
  subst e
  rfl
theorem wpS_mono (h : wpS s Z E) (hq : ∀ f ρ S, Z f ρ S → Z' f ρ S) (he : ∀ x S, E x S → E' x S) : wpS s Z' E' := by
  cases s with
  | none => exact h
  | some r => cases r with
    | ok f ρ S => exact hq f ρ S h
    | er x S => exact he x S h
theorem wpS_use (h : wpS s Z nE) (hq : ∀ f ρ S, Z f ρ S → Z' f ρ S) : wpS s Z' E' := wpS_mono h hq fun _ _ z => z.elim
/-- what follows a statement -/
def aft (k : Rho → Sto → Prop) (Z : Fl → Rho → Sto → Prop) (f : Fl) (ρ : Rho) (S : Sto) : Prop := match f with
  | .nx => k ρ S
  | f => Z f ρ S
@[simp] theorem aft_nx {k : Rho → Sto → Prop} {ρ : Rho} {S : Sto} : aft k Z .nx ρ S = k ρ S := rfl
@[simp] theorem aft_ret {k : Rho → Sto → Prop} {ρ : Rho} {S : Sto} {d : D} : aft k Z (.ret d) ρ S = Z (.ret d) ρ S := rfl
@[simp] theorem aft_brk {k : Rho → Sto → Prop} {ρ : Rho} {S : Sto} : aft k Z .brk ρ S = Z .brk ρ S := rfl
@[simp] theorem aft_ct {k : Rho → Sto → Prop} {ρ : Rho} {S : Sto} : aft k Z .ct ρ S = Z .ct ρ S := rfl
section
variable {R : Nat → List D → Sto → Mo D} {G : List D} {w : Nat} {ρ : Rho} {S : Sto}
@[simp] theorem exs_nil : wpS (exs R G w .nil ρ S) Z E = Z .nx ρ S := by simp [exs]
/-- the statements that are left -/
def kon (R : Nat → List D → Sto → Mo D) (G : List D) (w : Nat) (r : Sms) (Z : Fl → Rho → Sto → Prop) (E : Exn → Sto → Prop) (ρ : Rho) (S : Sto) : Prop := wpS (exs R G w r ρ S) Z E
@[simp] theorem kon_go {r : Sms} : kon R G w r Z E ρ S = wpS (exs R G w r ρ S) Z E := rfl
@[simp] theorem exs_cons {a : Sm} {r : Sms} : wpS (exs R G w (.cons a r) ρ S) Z E = wpS (ex R G w a ρ S) (aft (kon R G w r Z E) Z) E := by
  simp only [exs]
  cases ex R G w a ρ S with
  | none => rfl
  | some o => cases o with
    | ok f ρ S => cases f <;> rfl
    | er x S => rfl
end
/-- a body without its first statements -/
def tl : Nat → Sms → Sms
  | 0, s => s
  | _ + 1, .nil => .nil
  | n + 1, .cons _ r => tl n r
/-- what leaves a def -/
def lvQ (Q : D → Sto → Prop) (f : Fl) (_ : Rho) (S : Sto) : Prop := match f with
  | .nx => Q .non S
  | .ret d => Q d S
  | _ => False
@[simp] theorem lvQ_nx {Q : D → Sto → Prop} {ρ : Rho} {S : Sto} : lvQ Q .nx ρ S = Q .non S := rfl
@[simp] theorem lvQ_ret {Q : D → Sto → Prop} {ρ : Rho} {S : Sto} {d : D} : lvQ Q (.ret d) ρ S = Q d S := rfl
@[simp] theorem wp_leave {Q : D → Sto → Prop} : wp (leave s) Q E = wpS s (lvQ Q) E := by
  cases s with
  | none => rfl
  | some o => cases o with
    | ok f ρ S => cases f <;> rfl
    | er x S => rfl
/-- a call -/
theorem wp_run {Fs : List Fn} {G : List D} {w k i : Nat} {ds : List D} {S : Sto} {F : Fn} {Q : D → Sto → Prop} (hF : Fs[i]? = some F) (hl : ds.length = F.np)
    (h : wpS (exs (run Fs G w k) G w F.body (enter F ds) S) (lvQ Q) E) : wp (run Fs G w (k + 1) i ds S) Q E := by
  simp only [run, hF, hl, if_true, wp_leave]
  exact h
/-! ### loops -/
/-- what a loop's body is read by -/
def lpQ (I : Rho → Sto → Prop) (Z : Fl → Rho → Sto → Prop) (f : Fl) (ρ : Rho) (S : Sto) : Prop := match f with
  | .nx => I ρ S
  | .ct => I ρ S
  | .brk => Z .nx ρ S
  | .ret d => Z (.ret d) ρ S
@[simp] theorem lpQ_nx {I : Rho → Sto → Prop} {ρ : Rho} {S : Sto} : lpQ I Z .nx ρ S = I ρ S := rfl
@[simp] theorem lpQ_ct {I : Rho → Sto → Prop} {ρ : Rho} {S : Sto} : lpQ I Z .ct ρ S = I ρ S := rfl
@[simp] theorem lpQ_brk {I : Rho → Sto → Prop} {ρ : Rho} {S : Sto} : lpQ I Z .brk ρ S = Z .nx ρ S := rfl
@[simp] theorem lpQ_ret {I : Rho → Sto → Prop} {ρ : Rho} {S : Sto} {d : D} : lpQ I Z (.ret d) ρ S = Z (.ret d) ρ S := rfl
/-- a loop over items: I stands before turn i -/
theorem forL_items {t : Tg} {l : List D} {body : Rho → Sto → MoS} (I : Nat → Rho → Sto → Prop)
    (hI : ∀ i ρ S d, l[i]? = some d → I i ρ S → ∃ ρ1, asgT t d ρ = some ρ1 ∧ wpS (body ρ1 S) (lpQ (I (i + 1)) Z) E) (hZ : ∀ ρ S, I l.length ρ S → Z .nx ρ S) :
    ∀ (n i : Nat) (ρ : Rho) (S : Sto), l.length + 1 ≤ n + i → i ≤ l.length → I i ρ S → wpS (forL t (.items l) body n i ρ S) Z E := by
  intro n
  induction n with
  | zero => intro i ρ S h1 h2; omega
  | succ n ih =>
    intro i ρ S h1 h2 h
    rw [forL]
    simp only [nxt]
    cases q : l[i]? with
    | none =>
      have : i = l.length := by
        have := List.getElem?_eq_none_iff.mp q
        omega
      subst this
      exact hZ _ _ h
    | some d =>
      have lt : i < l.length := (List.getElem?_eq_some_iff.mp q).1
      obtain ⟨ρ1, e, hb⟩ := hI i ρ S d q h
      simp only [e]
      cases q2 : body ρ1 S with
      | none => rw [q2] at hb; exact hb.elim
      | some o =>
        rw [q2] at hb
        cases o with
        | er x S2 => exact hb
        | ok f ρ2 S2 => cases f with
          | nx => exact ih (i + 1) ρ2 S2 (by omega) lt hb
          | ct => exact ih (i + 1) ρ2 S2 (by omega) lt hb
          | brk => exact hb
          | ret d => exact hb
/-- .. over a list that may change -/
theorem forL_live {t : Tg} {r : Nat} {l : List D} {body : Rho → Sto → MoS} (I : Nat → Rho → Sto → Prop) (hL : ∀ i ρ S, I i ρ S → lstOf S r = some l)
    (hI : ∀ i ρ S d, l[i]? = some d → I i ρ S → ∃ ρ1, asgT t d ρ = some ρ1 ∧ wpS (body ρ1 S) (lpQ (I (i + 1)) Z) E) (hZ : ∀ ρ S, I l.length ρ S → Z .nx ρ S) :
    ∀ (n i : Nat) (ρ : Rho) (S : Sto), l.length + 1 ≤ n + i → i ≤ l.length → I i ρ S → wpS (forL t (.live r) body n i ρ S) Z E := by
  intro n
  induction n with
  | zero => intro i ρ S h1 h2; omega
  | succ n ih =>
    intro i ρ S h1 h2 h
    rw [forL]
    simp only [nxt, hL i ρ S h, Option.map_some]
    cases q : l[i]? with
    | none =>
      have : i = l.length := by
        have := List.getElem?_eq_none_iff.mp q
        omega
      subst this
      exact hZ _ _ h
    | some d =>
      have lt : i < l.length := (List.getElem?_eq_some_iff.mp q).1
      obtain ⟨ρ1, e, hb⟩ := hI i ρ S d q h
      simp only [e]
      cases q2 : body ρ1 S with
      | none => rw [q2] at hb; exact hb.elim
      | some o =>
        rw [q2] at hb
        cases o with
        | er x S2 => exact hb
        | ok f ρ2 S2 => cases f with
          | nx => exact ih (i + 1) ρ2 S2 (by omega) lt hb
          | ct => exact ih (i + 1) ρ2 S2 (by omega) lt hb
          | brk => exact hb
          | ret d => exact hb
/-- a comprehension over items, every item taken: A i S acc stands before turn i -/
theorem lcL_items {el : Rho → Sto → Mo D} {t : Tg} {l : List D} {ρ : Rho} {k : Nat} {Q : D → Sto → Prop} (A : Nat → Sto → Prop)
    (hA : ∀ i S d, l[i]? = some d → A i S → ∃ ρ1, asgT t d ρ = some ρ1 ∧ wp (el ρ1 S) (fun y S2 => ∃ acc, mutOf S2 k = some acc ∧ acc.length < LIM ∧ A (i + 1) (S2.set k (.lst (acc ++ [y])))) nE) (hQ : ∀ S, A l.length S → Q (.ref k) S) :
    ∀ (n i : Nat) (S : Sto), l.length + 1 ≤ n + i → i ≤ l.length → A i S → wp (lcL el (fun _ S => some (.ok (.bl true) S)) t (.items l) ρ k n i S) Q E := by
  intro n
  induction n with
  | zero => intro i S h1 h2; omega
  | succ n ih =>
    intro i S h1 h2 h
    rw [lcL]
    simp only [nxt]
    cases q : l[i]? with
    | none =>
      have : i = l.length := by
        have := List.getElem?_eq_none_iff.mp q
        omega
      subst this
      exact hQ _ h
    | some d =>
      have lt : i < l.length := (List.getElem?_eq_some_iff.mp q).1
      obtain ⟨ρ1, e, hb⟩ := hA i S d q h
      simp only [e]
      obtain ⟨y, S2, e2, acc, e3, e4, e5⟩ := wp_get hb
      simp only [e2, e3, e4, if_true]
      exact ih (i + 1) _ (by omega) lt e5
theorem lcL_live {el : Rho → Sto → Mo D} {t : Tg} {r : Nat} {l : List D} {ρ : Rho} {k : Nat} {Q : D → Sto → Prop} (A : Nat → Sto → Prop) (hL : ∀ i S, A i S → lstOf S r = some l)
    (hA : ∀ i S d, l[i]? = some d → A i S → ∃ ρ1, asgT t d ρ = some ρ1 ∧ wp (el ρ1 S) (fun y S2 => ∃ acc, mutOf S2 k = some acc ∧ acc.length < LIM ∧ A (i + 1) (S2.set k (.lst (acc ++ [y])))) nE) (hQ : ∀ S, A l.length S → Q (.ref k) S) :
    ∀ (n i : Nat) (S : Sto), l.length + 1 ≤ n + i → i ≤ l.length → A i S → wp (lcL el (fun _ S => some (.ok (.bl true) S)) t (.live r) ρ k n i S) Q E := by
  intro n
  induction n with
  | zero => intro i S h1 h2; omega
  | succ n ih =>
    intro i S h1 h2 h
    rw [lcL]
    simp only [nxt, hL i S h, Option.map_some]
    cases q : l[i]? with
    | none =>
      have : i = l.length := by
        have := List.getElem?_eq_none_iff.mp q
        omega
      subst this
      exact hQ _ h
    | some d =>
      have lt : i < l.length := (List.getElem?_eq_some_iff.mp q).1
      obtain ⟨ρ1, e, hb⟩ := hA i S d q h
      simp only [e]
      obtain ⟨y, S2, e2, acc, e3, e4, e5⟩ := wp_get hb
      simp only [e2, e3, e4, if_true]
      exact ih (i + 1) _ (by omega) lt e5
end
end Mx
set_option Elab.async false
set_option linter.all false
set_option maxRecDepth 100000
set_option maxHeartbeats 8000000
set_option exponentiation.threshold 8000
/-! reading the machine, step by step -/
namespace Mx
open PySem L2
def opt {α : Type} (o : Option α) (Q : α → Prop) (_ : Tok Q := ⟨⟩) : Prop := match o with
  | some a => Q a
  | none => False
/-- a choice by a truth value -/
def cas (x : D) (A B : Prop) (_ : Tok (A, B) := ⟨⟩) : Prop := match x with
  | .bl true => A
  | .bl false => B
  | _ => False
def vfin (m : Bool) (Q : D → Sto → Prop) (d : D) (S : Sto) : Prop := if m then opt (tru S d) fun b => Q (.bl b) S else Q d S
section
variable {α β : Type} {Q Q' : α → Sto → Prop} {E E' : Exn → Sto → Prop} {m m' : Mo α} {Z Z' : Fl → Rho → Sto → Prop} {s s' : MoS} {P : α → Prop}
@[simp] theorem opt_some {a : α} : opt (some a) P = P a := rfl
@[simp] theorem opt_none : opt none P = False := rfl
@[simp] theorem opt_map {o : Option β} {f : β → α} : opt (o.map f) P = opt o fun b => P (f b) := by cases o <;> rfl
@[simp] theorem opt_bind {o : Option β} {f : β → Option α} : opt (o.bind f) P = opt o fun b => opt (f b) P := by cases o <;> rfl
@[simp] theorem opt_cond {c : Prop} [Decidable c] {a : α} : opt (if c then some a else none) P = (c ∧ P a) := by
  by_cases h : c
  · simp [h]
  · simp [h]
@[simp] theorem opt_cond2 {c : Prop} [Decidable c] {a : α} : opt (if c then none else some a) P = (¬ c ∧ P a) := by
  by_cases h : c
  · simp [h]
  · simp [h]
theorem opt_if {c : Prop} [Decidable c] {o o' : Option α} : opt (if c then o else o') P = if c then opt o P else opt o' P := by split <;> rfl
theorem opt_get {o : Option α} (h : opt o P) : ∃ a, o = some a ∧ P a := by
  cases o with
  | none => exact h.elim
  | some a => exact ⟨a, rfl, h⟩
@[simp] theorem cas_true {A B : Prop} : cas (.bl true) A B = A := rfl
@[simp] theorem cas_false {A B : Prop} : cas (.bl false) A B = B := rfl
@[simp] theorem cas_not {A B : Prop} {b : Bool} : cas (.bl (!b)) A B = cas (.bl b) B A := by cases b <;> rfl
theorem cas_dec {p : Prop} [Decidable p] {A B : Prop} (h : p → A) (h' : ¬ p → B) : cas (.bl (decide p)) A B := by
  by_cases z : p
  · simp [z]
    exact h z
  · simp [z]
    exact h' z
theorem cas_beq {x y : Int} {A B : Prop} (h : x = y → A) (h' : x ≠ y → B) : cas (.bl (x == y)) A B := by
  by_cases z : x = y
  · subst z
    simp
    exact h rfl
  · rw [show (x == y) = false from beq_false_of_ne z]
    exact h' z
theorem cas_bne {x y : Int} {A B : Prop} (h : x = y → B) (h' : x ≠ y → A) : cas (.bl (x != y)) A B := by
  show cas (.bl (!(x == y))) A B
  rw [cas_not]
  exact cas_beq h h'
theorem cas_bl {x : Bool} {A B : Prop} (h : x = true → A) (h' : x = false → B) : cas (.bl x) A B := by
  cases x
  · exact h' rfl
  · exact h rfl
@[simp] theorem vfin_f {Q : D → Sto → Prop} {d : D} {S : Sto} : vfin false Q d S = Q d S := rfl
@[simp] theorem vfin_f0 {Q : D → Sto → Prop} : vfin false Q = Q := rfl
@[simp] theorem vfin_t {Q : D → Sto → Prop} {d : D} {S : Sto} : vfin true Q d S = opt (tru S d) fun b => Q (.bl b) S := rfl
@[simp] theorem wp_fin {b : Bool} {m : Mo D} {Q : D → Sto → Prop} : wp (fin b m) Q E = wp m (vfin b Q) E := by
  cases b
  · rfl
  · simp only [fin, if_true, wp_bnd]
    refine wpE fun d S => ?_
    simp only [vfin_t]
    cases tru S d <;> rfl
theorem wp_lft2 {o : Option (α × Sto)} : wp (lft o) Q E = opt o fun p => Q p.1 p.2 := by
  rcases o with _ | ⟨a, S⟩ <;> rfl
theorem wpS_nxS2 {o : Option (Rho × Sto)} : wpS (nxS o) Z E = opt o fun p => Z .nx p.1 p.2 := by
  rcases o with _ | ⟨a, S⟩ <;> rfl
theorem wp_lf02 {o : Option α} {S : Sto} : wp (lf0 o S) Q E = opt o fun a => Q a S := by
  cases o <;> rfl
theorem wp_opt {o : Option α} {f : α → Mo β} {g : Mo β} {Q : β → Sto → Prop} (hg : g = none) : wp (match o with
  | some a => f a
  | none => g) Q E = opt o fun a => wp (f a) Q E := by
  subst hg
  cases o <;> rfl
end
section
variable {E : Exn → Sto → Prop} {Q : D → Sto → Prop} {QL : List D → Sto → Prop} {Z : Fl → Rho → Sto → Prop}
variable {R : Nat → List D → Sto → Mo D} {G : List D} {w : Nat} {ρ : Rho} {S : Sto} {m : Bool} {a b c : Ex} {as : Exs}
@[simp] theorem wp_var {i : Nat} : wp (ev R G (.var i) m ρ S) Q E = opt ρ[i]?.join fun d => vfin m Q d S := by
  simp only [ev, wp_fin]
  rcases ρ[i]? with _ | _ | d <;> rfl
@[simp] theorem wp_cst {d : D} : wp (ev R G (.cst d) m ρ S) Q E = vfin m Q d S := by
  simp only [ev, wp_fin, wp_ok]
@[simp] theorem wp_glb {i : Nat} : wp (ev R G (.glb i) m ρ S) Q E = opt G[i]? fun d => vfin m Q d S := by
  simp only [ev, wp_fin, wp_lf02]
@[simp] theorem wp_bin {o : B2} : wp (ev R G (.bin o a b) m ρ S) Q E = wp (ev R G a false ρ S) (fun x S1 => wp (ev R G b false ρ S1) (fun y S2 => opt (op2 o x y S2) fun p => vfin m Q p.1 p.2) E) E := by
  simp only [ev, wp_fin, Bool.false_eq_true, if_false]
  repeat (first | (refine wpE fun _ _ => ?_) | (simp only [wp_bnd, wp_lft2, wp_lf02, opt_map, wpS_bnS, wpS_nxS2, wpS_ok, wp_ok]))
def ngD : D → Option D
  | .int i => some (.int (-i))
  | _ => none
@[simp] theorem wp_neg : wp (ev R G (.neg a) m ρ S) Q E = wp (ev R G a false ρ S) (fun x S1 => opt (ngD x) fun d => vfin m Q d S1) E := by
  simp only [ev, wp_fin, wp_bnd]
  refine wpE fun d S => ?_
  cases d <;> rfl
def ntD : D → Option D
  | .bl b => some (.bl (!b))
  | _ => none
@[simp] theorem wp_nt_t : wp (ev R G (.nt a) true ρ S) Q E = wp (ev R G a true ρ S) (fun x S1 => opt (ntD x) fun d => Q d S1) E := by
  simp only [ev, if_true, wp_bnd]
  refine wpE fun d S => ?_
  cases d <;> rfl
@[simp] theorem wp_nt_f : wp (ev R G (.nt a) false ρ S) Q E = wp (ev R G a false ρ S) (fun x S1 => opt (tru S1 x) fun b => Q (.bl (!b)) S1) E := by
  simp only [ev, Bool.false_eq_true, if_false]
  repeat (first | (refine wpE fun _ _ => ?_) | (simp only [wp_bnd, wp_lft2, wp_lf02, opt_map, wpS_bnS, wpS_nxS2, wpS_ok, wp_ok]))
@[simp] theorem wp_cmp {o : Cm} : wp (ev R G (.cmp o a b) m ρ S) Q E = wp (ev R G a false ρ S) (fun x S1 => wp (ev R G b false ρ S1) (fun y S2 => opt (cm2 o x y S2) fun b => Q (.bl b) S2) E) E := by
  simp only [ev, Bool.false_eq_true, if_false]
  repeat (first | (refine wpE fun _ _ => ?_) | (simp only [wp_bnd, wp_lft2, wp_lf02, opt_map, wpS_bnS, wpS_nxS2, wpS_ok, wp_ok]))
@[simp] theorem wp_chn {o o' : Cm} : wp (ev R G (.chn o o' a b c) m ρ S) Q E = wp (ev R G a false ρ S) (fun x S1 => wp (ev R G b false ρ S1) (fun y S2 => opt (cm2 o x y S2) fun t =>
    cas (.bl t) (wp (ev R G c false ρ S2) (fun z S3 => opt (cm2 o' y z S3) fun b => Q (.bl b) S3) E) (Q (.bl false) S2)) E) E := by
  simp only [ev, wp_bnd]
  refine wpE fun x S1 => ?_
  simp only [wp_bnd]
  refine wpE fun y S2 => ?_
  cases cm2 o x y S2 with
  | none => rfl
  | some t =>
    cases t
    · rfl
    · simp only [wp_bnd, opt_some, cas_true]
      exact wpE fun z S3 => by simp only [wp_lf02, opt_map]
@[simp] theorem wp_an : wp (ev R G (.an a b) m ρ S) Q E = wp (ev R G a m ρ S) (fun x S1 => cas x (wp (ev R G b m ρ S1) Q E) (Q (.bl false) S1)) E := by
  simp only [ev, wp_bnd]
  refine wpE fun x S1 => ?_
  cases x with
  | bl t => cases t <;> rfl
  | _ => rfl
@[simp] theorem wp_or : wp (ev R G (.or a b) m ρ S) Q E = wp (ev R G a m ρ S) (fun x S1 => cas x (Q (.bl true) S1) (wp (ev R G b m ρ S1) Q E)) E := by
  simp only [ev, wp_bnd]
  refine wpE fun x S1 => ?_
  cases x with
  | bl t => cases t <;> rfl
  | _ => rfl
@[simp] theorem wp_ite : wp (ev R G (.ite c a b) false ρ S) Q E = wp (ev R G c true ρ S) (fun x S1 => cas x (wp (ev R G a false ρ S1) Q E) (wp (ev R G b false ρ S1) Q E)) E := by
  simp only [ev, Bool.false_eq_true, if_false, wp_bnd]
  refine wpE fun x S1 => ?_
  cases x with
  | bl t => cases t <;> rfl
  | _ => rfl
@[simp] theorem wp_cal {f : Nat} : wp (ev R G (.cal f as) m ρ S) Q E = wp (evs R G as ρ S) (fun ds S1 => wp (R f ds S1) (vfin m Q) E) E := by
  simp only [ev, wp_fin, wp_bnd]
@[simp] theorem wp_bi {b : Bi} : wp (ev R G (.bi b as) m ρ S) Q E = wp (evs R G as ρ S) (fun ds S1 => opt (bi1 b ds S1) fun p => vfin m Q p.1 p.2) E := by
  simp only [ev, wp_fin, Bool.false_eq_true, if_false]
  repeat (first | (refine wpE fun _ _ => ?_) | (simp only [wp_bnd, wp_lft2, wp_lf02, opt_map, wpS_bnS, wpS_nxS2, wpS_ok, wp_ok]))
@[simp] theorem wp_isi {t : Ty} : wp (ev R G (.isi a t) m ρ S) Q E = wp (ev R G a false ρ S) (fun x S1 => opt (isTy S1 x t) fun b => vfin m Q (.bl b) S1) E := by
  simp only [ev, wp_fin, Bool.false_eq_true, if_false]
  repeat (first | (refine wpE fun _ _ => ?_) | (simp only [wp_bnd, wp_lft2, wp_lf02, opt_map, wpS_bnS, wpS_nxS2, wpS_ok, wp_ok]))
@[simp] theorem wp_mth {k : Mt} : wp (ev R G (.mth k a as) m ρ S) Q E = wp (ev R G a false ρ S) (fun x S1 => isL S1 x = true ∧ wp (evs R G as ρ S1) (fun ds S2 => opt (Mx.mt1 k x ds S2) fun p => vfin m Q p.1 p.2) E) E := by
  simp only [ev, wp_fin, wp_bnd]
  refine wpE fun x S1 => ?_
  split
  · rename_i h
    simp only [h, true_and]
    repeat (first | (refine wpE fun _ _ => ?_) | (simp only [wp_bnd, wp_lft2, wp_lf02, opt_map, wpS_bnS, wpS_nxS2, wpS_ok, wp_ok]))
  · rename_i h
    simp only [h, Bool.false_eq_true, false_and, wp_none]
@[simp] theorem wp_idx : wp (ev R G (.idx a b) m ρ S) Q E = wp (ev R G a false ρ S) (fun x S1 => wp (ev R G b false ρ S1) (fun y S2 => opt (ix1 S2 x y) fun d => vfin m Q d S2) E) E := by
  simp only [ev, wp_fin, Bool.false_eq_true, if_false]
  repeat (first | (refine wpE fun _ _ => ?_) | (simp only [wp_bnd, wp_lft2, wp_lf02, opt_map, wpS_bnS, wpS_nxS2, wpS_ok, wp_ok]))
@[simp] theorem wp_slc {lo hi : Exs} : wp (ev R G (.slc a lo hi) m ρ S) Q E = wp (ev R G a false ρ S) (fun x S1 => wp (evs R G lo ρ S1) (fun l S2 => (oInt l).isSome = true ∧ wp (evs R G hi ρ S2) (fun h S3 => opt (sl1 x l h S3) fun p => vfin m Q p.1 p.2) E) E) E := by
  simp only [ev, wp_fin, wp_bnd]
  refine wpE fun x S1 => ?_
  simp only [wp_bnd]
  refine wpE fun l S2 => ?_
  split
  · rename_i h
    simp only [h, true_and]
    repeat (first | (refine wpE fun _ _ => ?_) | (simp only [wp_bnd, wp_lft2, wp_lf02, opt_map, wpS_bnS, wpS_nxS2, wpS_ok, wp_ok]))
  · rename_i h
    simp only [h, Bool.false_eq_true, false_and, wp_none]
@[simp] theorem wp_tup : wp (ev R G (.tup as) m ρ S) Q E = wp (evs R G as ρ S) (fun ds S1 => ds.length ≤ LIM ∧ vfin m Q (.tup ds) S1) E := by
  simp only [ev, wp_fin, wp_bnd]
  refine wpE fun ds S1 => ?_
  by_cases h : ds.length ≤ LIM
  · simp [h]
  · simp [h]
@[simp] theorem wp_lst : wp (ev R G (.lst as) m ρ S) Q E = wp (evs R G as ρ S) (fun ds S1 => ds.length ≤ LIM ∧ vfin m Q (.ref S1.length) (S1 ++ [.lst ds])) E := by
  simp only [ev, wp_fin, wp_bnd]
  refine wpE fun ds S1 => ?_
  by_cases h : ds.length ≤ LIM
  · simp [h]
  · simp [h]
@[simp] theorem wp_lc {el : Ex} {own : List Nat} {t : Tg} {k : Ib} {ifs : Exs} : wp (ev R G (.lc el own t k as ifs) m ρ S) Q E = wp (evs R G as ρ S) (fun ds S1 => opt (it1 S1 k ds) fun j =>
    wp (lcL (fun ρ S => ev R G el false ρ S) (fun ρ S => evt R G ifs ρ S) t j (wipeD ρ own) S1.length (lenI j S1 + 1) 0 (S1 ++ [.lst []])) (vfin m Q) E) E := by
  simp only [ev, wp_fin, wp_bnd]
  refine wpE fun ds S1 => ?_
  cases it1 S1 k ds <;> rfl
@[simp] theorem evs_nil : wp (evs R G .nil ρ S) QL E = QL [] S := by
  simp only [evs, wp_ok]
@[simp] theorem evs_cons : wp (evs R G (.cons a as) ρ S) QL E = wp (ev R G a false ρ S) (fun x S1 => wp (evs R G as ρ S1) (fun xs S2 => QL (x :: xs) S2) E) E := by
  simp only [evs]
  repeat (first | (refine wpE fun _ _ => ?_) | (simp only [wp_bnd, wp_lft2, wp_lf02, opt_map, wpS_bnS, wpS_nxS2, wpS_ok, wp_ok]))
/-! statements -/
@[simp] theorem ex_pass : wpS (ex R G w .pass ρ S) Z E = Z .nx ρ S := by simp only [ex, wpS_ok]
@[simp] theorem ex_brk : wpS (ex R G w .brk ρ S) Z E = Z .brk ρ S := by simp only [ex, wpS_ok]
@[simp] theorem ex_cnt : wpS (ex R G w .cnt ρ S) Z E = Z .ct ρ S := by simp only [ex, wpS_ok]
@[simp] theorem ex_expr : wpS (ex R G w (.expr a) ρ S) Z E = wp (ev R G a false ρ S) (fun _ S1 => Z .nx ρ S1) E := by
  simp only [ex]
  repeat (first | (refine wpE fun _ _ => ?_) | (simp only [wp_bnd, wp_lft2, wp_lf02, opt_map, wpS_bnS, wpS_nxS2, wpS_ok, wp_ok]))
@[simp] theorem ex_ret : wpS (ex R G w (.ret a) ρ S) Z E = wp (ev R G a false ρ S) (fun d S1 => Z (.ret d) ρ S1) E := by
  simp only [ex]
  repeat (first | (refine wpE fun _ _ => ?_) | (simp only [wp_bnd, wp_lft2, wp_lf02, opt_map, wpS_bnS, wpS_nxS2, wpS_ok, wp_ok]))
@[simp] theorem ex_retn : wpS (ex R G w .retn ρ S) Z E = Z (.ret .non) ρ S := by simp only [ex, wpS_ok]
@[simp] theorem ex_asg {t : Tg} : wpS (ex R G w (.asg t a) ρ S) Z E = wp (ev R G a false ρ S) (fun d S1 => opt (asgT t d ρ) fun ρ1 => Z .nx ρ1 S1) E := by
  simp only [ex]
  repeat (first | (refine wpE fun _ _ => ?_) | (simp only [wp_bnd, wp_lft2, wp_lf02, opt_map, wpS_bnS, wpS_nxS2, wpS_ok, wp_ok]))
@[simp] theorem ex_seti {i : Ex} : wpS (ex R G w (.seti a i b) ρ S) Z E = wp (ev R G b false ρ S) (fun v S1 => wp (ev R G a false ρ S1) (fun x S2 => wp (ev R G i false ρ S2) (fun y S3 => opt (seti S3 x y v) fun S4 => Z .nx ρ S4) E) E) E := by
  simp only [ex]
  repeat (first | (refine wpE fun _ _ => ?_) | (simp only [wp_bnd, wp_lft2, wp_lf02, opt_map, wpS_bnS, wpS_nxS2, wpS_ok, wp_ok]))
@[simp] theorem ex_par {i j : Nat} : wpS (ex R G w (.par i j a b) ρ S) Z E = wp (ev R G a false ρ S) (fun x S1 => wp (ev R G b false ρ S1) (fun y S2 => Z .nx ((ρ.set i (some x)).set j (some y)) S2) E) E := by
  simp only [ex]
  repeat (first | (refine wpE fun _ _ => ?_) | (simp only [wp_bnd, wp_lft2, wp_lf02, opt_map, wpS_bnS, wpS_nxS2, wpS_ok, wp_ok]))
@[simp] theorem ex_aug {i : Nat} {o : B2} : wpS (ex R G w (.aug i o a) ρ S) Z E = opt ρ[i]?.join fun x => wp (ev R G a false ρ S) (fun y S1 => opt (aug o S1 x y) fun z => Z .nx (ρ.set i (some z)) S1) E := by
  simp only [ex]
  rcases ρ[i]? with _ | _ | x
  · rfl
  · rfl
  · simp only [wpS_bnS, Option.join_some, opt_some]
    exact wpE fun _ _ => by simp only [wpS_nxS2, opt_map]
@[simp] theorem ex_iff {x y : Sms} : wpS (ex R G w (.iff c x y) ρ S) Z E = wp (ev R G c true ρ S) (fun d S1 => cas d (wpS (exs R G w x ρ S1) Z E) (wpS (exs R G w y ρ S1) Z E)) E := by
  simp only [ex, wpS_bnS]
  refine wpE fun d S1 => ?_
  cases d with
  | bl t => cases t <;> rfl
  | _ => rfl
@[simp] theorem ex_for {t : Tg} {k : Ib} {x : Sms} : wpS (ex R G w (.for t k as x) ρ S) Z E = wp (evs R G as ρ S) (fun ds S1 => opt (it1 S1 k ds) fun j =>
    wpS (forL t j (fun ρ S => exs R G w x ρ S) (lenI j S1 + 1) 0 ρ S1) Z E) E := by
  simp only [ex, wpS_bnS]
  refine wpE fun ds S1 => ?_
  cases it1 S1 k ds <;> rfl
@[simp] theorem ex_whl {x : Sms} : wpS (ex R G w (.whl c x) ρ S) Z E = wpS (whL (fun ρ S => ev R G c true ρ S) (fun ρ S => exs R G w x ρ S) w ρ S) Z E := by
  simp only [ex]
/-! operations -/
section
variable {i j : Int} {x y : Bool} {l l' : List D} {n : Nat} {d : D}
@[simp] theorem ng_int : ngD (.int i) = some (.int (-i)) := rfl
@[simp] theorem nt_bl : ntD (.bl x) = some (.bl (!x)) := rfl
@[simp] theorem o_add : op2 .add (.int i) (.int j) S = some (.int (i + j), S) := rfl
@[simp] theorem o_sub : op2 .sub (.int i) (.int j) S = some (.int (i - j), S) := rfl
@[simp] theorem o_mul : op2 .mul (.int i) (.int j) S = if i.natAbs < WID ∧ j.natAbs < WID then some (.int (i * j), S) else none := rfl
@[simp] theorem o_fdiv : op2 .fdiv (.int i) (.int j) S = if j ≠ 0 ∧ j.natAbs < WID then some (.int (i.fdiv j), S) else none := rfl
@[simp] theorem o_mod : op2 .mod (.int i) (.int j) S = if j ≠ 0 then some (.int (i.fmod j), S) else none := rfl
@[simp] theorem o_pow : op2 .pow (.int i) (.int j) S = if 0 ≤ j ∧ j ≤ 1000000 ∧ i.natAbs < 2 ^ 64 then some (.int (i ^ j.toNat), S) else none := rfl
@[simp] theorem o_addT : op2 .add (.tup l) (.tup l') S = if l.length + l'.length ≤ LIM then some (.tup (l ++ l'), S) else none := rfl
@[simp] theorem c_lt : cm2 .lt (.int i) (.int j) S = some (decide (i < j)) := rfl
@[simp] theorem c_le : cm2 .le (.int i) (.int j) S = some (decide (i ≤ j)) := rfl
@[simp] theorem c_gt : cm2 .gt (.int i) (.int j) S = some (decide (j < i)) := rfl
@[simp] theorem c_ge : cm2 .ge (.int i) (.int j) S = some (decide (j ≤ i)) := rfl
theorem eq_int : eqD S (.int i) (.int j) = some (i == j) := rfl
@[simp] theorem c_eqI : cm2 .eq (.int i) (.int j) S = some (i == j) := rfl
@[simp] theorem c_neI : cm2 .ne (.int i) (.int j) S = some (i != j) := rfl
@[simp] theorem c_eqB : cm2 .eq (.bl x) (.bl y) S = some (x == y) := by cases x <;> cases y <;> rfl
@[simp] theorem c_neB : cm2 .ne (.bl x) (.bl y) S = some (x != y) := by cases x <;> cases y <;> rfl
@[simp] theorem t_bl : tru S (.bl x) = some x := rfl
@[simp] theorem t_int : tru S (.int i) = some (i != 0) := rfl
@[simp] theorem t_tup : tru S (.tup l) = some (!l.isEmpty) := rfl
@[simp] theorem b_lenT : bi1 .len [.tup l] S = some (.int l.length, S) := rfl
@[simp] theorem b_lenR : bi1 .len [.ref n] S = (lstOf S n).map fun l => (.int l.length, S) := rfl
@[simp] theorem b_abs : bi1 .abs [.int i] S = some (.int i.natAbs, S) := by
  show some (D.int (if i < 0 then -i else i), S) = _
  congr
  split <;> omega
@[simp] theorem b_int : bi1 .int [.int i] S = some (.int i, S) := rfl
@[simp] theorem b_gcd : bi1 .gcd [.int i, .int j] S = some (.int (Int.gcd i j : Nat), S) := rfl
@[simp] theorem b_lcm : bi1 .lcm [.int i, .int j] S = if i.natAbs < 2 ^ 64 ∧ j.natAbs < 2 ^ 64 then some (.int (Int.lcm i j : Nat), S) else none := rfl
@[simp] theorem b_sum : bi1 .sum [.ref n] S = ((lstOf S n).bind intL).map fun ns => (.int ns.sum, S) := rfl
@[simp] theorem y_tup : isTy S (.tup l) .tuple = some true := rfl
@[simp] theorem y_intb : isTy S (.int i) .bool = some false := rfl
@[simp] theorem y_blb : isTy S (.bl x) .bool = some true := rfl
@[simp] theorem x_tup : ix1 S (.tup l) (.int i) = atI l i := rfl
@[simp] theorem x_ref : ix1 S (.ref n) (.int i) = (lstOf S n).bind fun l => atI l i := rfl
@[simp] theorem m_app : Mx.mt1 .append (.ref n) [d] S = (mutOf S n).bind fun l => if l.length < LIM then some (.non, S.set n (.lst (l ++ [d]))) else none := by
  unfold Mx.mt1
  dsimp only
  cases mutOf S n <;> rfl
@[simp] theorem g_nm : asgT (.nm n) d ρ = some (ρ.set n (some d)) := rfl
@[simp] theorem oi_nil : oInt [] = some none := rfl
@[simp] theorem oi_one : oInt [.int i] = some (some i) := rfl
@[simp] theorem is_ref : isL S (.ref n) = (lstOf S n).isSome := rfl
@[simp] theorem it_rng {P : Itr → Prop} : opt (it1 S .rng [.int j]) P = (okR j = true ∧ P (.items (rng 0 j.toNat))) := by
  show opt (if okR j then _ else _) P = _
  exact opt_cond
@[simp] theorem it_rng2 {P : Itr → Prop} : opt (it1 S .rng [.int i, .int j]) P = ((okR i = true ∧ okR j = true) ∧ P (.items (rng i (j - i).toNat))) := by
  show opt (if (okR i && okR j) = true then _ else _) P = _
  rw [opt_cond, Bool.and_eq_true]
theorem okR_of {j : Int} (h : -1000000 ≤ j) (h2 : j ≤ 1000000) : okR j = true := by
  have h' : j.natAbs ≤ 2 ^ 62 - 1 := by omega
  exact Nat.ble_eq_true_of_le h'
@[simp] theorem i_tup : it1 S .val [.tup l] = some (.items l) := rfl
@[simp] theorem i_ref : it1 S .val [.ref n] = (lstOf S n).map fun _ => .live n := rfl
@[simp] theorem l_items : lenI (.items l) S = l.length := rfl
@[simp] theorem seti_ref : seti S (.ref n) (.int i) d = (mutOf S n).bind fun l => (ixN l.length i).map fun j => S.set n (.lst (l.set j d)) := rfl
@[simp] theorem s_hi : sl1 (.ref n) [] [.int j] S = (lstOf S n).map fun xs => (.ref S.length, S ++ [.lst (cutD xs none (some j))]) := rfl
@[simp] theorem s_lo : sl1 (.ref n) [.int j] [] S = (lstOf S n).map fun xs => (.ref S.length, S ++ [.lst (cutD xs (some j) none)]) := rfl
@[simp] theorem s_no : sl1 (.ref n) [] [] S = (lstOf S n).map fun xs => (.ref S.length, S ++ [.lst (cutD xs none none)]) := rfl
@[simp] theorem s_hiT : sl1 (.tup l) [] [.int j] S = some (.tup (cutD l none (some j)), S) := rfl
@[simp] theorem s_loT : sl1 (.tup l) [.int j] [] S = some (.tup (cutD l (some j) none), S) := rfl
@[simp] theorem s_loR : sl1 (.ref n) [.int i] [.int j] S = (lstOf S n).map fun xs => (.ref S.length, S ++ [.lst (cutD xs (some i) (some j))]) := rfl
@[simp] theorem s_loRT : sl1 (.tup l) [.int i] [.int j] S = some (.tup (cutD l (some i) (some j)), S) := rfl
@[simp] theorem atI_0 : atI (d :: l) 0 = some d := by
  simp [atI, ixN]
@[simp] theorem atI_1 {d' : D} : atI (d :: d' :: l) 1 = some d' := by
  have h : (1 : Int) < ((l.length + 1 + 1 : Nat) : Int) := by omega
  simp only [atI, ixN, List.length_cons, h]
  rfl
end
end
/-! the store -/
section
variable {S : Sto} {i : Nat} {l : List D}
theorem lst_lst (h : S[i]? = some (.lst l)) : lstOf S i = some l := by simp [lstOf, h]
theorem lst_frz (h : S[i]? = some (.frz l)) : lstOf S i = some l := by simp [lstOf, h]
theorem mut_lst (h : S[i]? = some (.lst l)) : mutOf S i = some l := by simp [mutOf, h]
@[simp] theorem lst_set {n : Nat} (h : n < S.length) : lstOf (List.set S n (.lst l)) n = some l := by simp [lstOf, h]
@[simp] theorem mut_set {n : Nat} (h : n < S.length) : mutOf (List.set S n (.lst l)) n = some l := by simp [mutOf, h]
@[simp] theorem ixN_0 {n : Nat} : ixN (n + 1) 0 = some 0 := by simp [ixN]
theorem ixN_nat {n i : Nat} (h : i < n) : ixN n (i : Int) = some i := by
  simp [ixN, h]
theorem lt_of_get {o : Ob} (h : S[i]? = some o) : i < S.length := (List.getElem?_eq_some_iff.mp h).1
theorem WID64 : (2 : Nat) ^ 64 ≤ WID := Nat.pow_le_pow_right (by decide) (by decide)
theorem WID200 : (2 : Nat) ^ 200 ≤ WID := Nat.pow_le_pow_right (by decide) (by decide)
theorem wid {z : Int} (h : z.natAbs < 2 ^ 200) : z.natAbs < WID := Nat.lt_of_lt_of_le h WID200
end
end Mx
set_option Elab.async false
set_option linter.all false
set_option maxRecDepth 100000
set_option maxHeartbeats 8000000
set_option exponentiation.threshold 8000
/-! what the laws share: the row of numbers and what is taken of it -/
namespace Mx
open PySem L2
theorem rng_len (lo : Int) (n : Nat) : (rng lo n).length = n := by simp [rng]
theorem rng_get {lo : Int} {n i : Nat} {d : D} (h : (rng lo n)[i]? = some d) : i < n ∧ d = .int (lo + (i : Int)) := by
  have hi : i < n := by
    have := (List.getElem?_eq_some_iff.mp h).1
    rwa [rng_len] at this
  refine ⟨hi, ?_⟩
  simp only [rng, List.getElem?_map, List.getElem?_range hi, Option.map_some, Option.some.injEq] at h
  exact h.symm
/-- the row: its first number tells how far it is used -/
structure Rowp (S : Sto) (r : Nat) : Prop where
  ex : ∃ (c : Int) (l : List Int), S[r]? = some (.lst ((c :: l).map .int)) ∧ 1 ≤ c ∧ l.length < 5000
/-- only the object at r has changed -/
structure Fr (r : Nat) (S S' : Sto) : Prop where
  len : S'.length = S.length
  get : ∀ i, i ≠ r → S'[i]? = S[i]?
theorem Fr.refl (r : Nat) (S : Sto) : Fr r S S := ⟨rfl, fun _ _ => rfl⟩
theorem Fr.trans {r : Nat} {S S1 S2 : Sto} (a : Fr r S S1) (b : Fr r S1 S2) : Fr r S S2 := ⟨b.len.trans a.len, fun i h => (b.get i h).trans (a.get i h)⟩
theorem Fr.set (r : Nat) (S : Sto) (o : Ob) : Fr r S (S.set r o) := ⟨by simp, fun i h => by rw [List.getElem?_set_ne (Ne.symm h)]⟩
def b_take : Sms :=
 (.cons (.iff (.cmp .lt (.idx (.var 0) (.cst (.int 0))) (.bi .len (.cons (.var 0) .nil)))
  (.cons (.seti (.var 0) (.cst (.int 0)) (.bin .add (.idx (.var 0) (.cst (.int 0))) (.cst (.int 1)))) <|
  (.cons (.ret (.bin .mod (.bi .int (.cons (.idx (.var 0) (.bin .sub (.idx (.var 0) (.cst (.int 0))) (.cst (.int 1)))) .nil)) (.var 1))) .nil))
  .nil) <|
 (.cons (.ret (.cst (.int 0))) .nil))
section
variable {Fs : List Fn} {G : List D} {w k i : Nat}
theorem take_spec (hF : Fs[i]? = some ⟨2, 2, b_take⟩) {S : Sto} {r : Nat} {m : Int} (hm : 0 < m) (h : Rowp S r) :
    wp (run Fs G w (k + 1) i [.ref r, .int m] S) (fun d S' => Rowp S' r ∧ Fr r S S' ∧ ∃ x, d = .int x ∧ 0 ≤ x ∧ x < m) nE := by
  refine wp_run hF rfl ?_
  obtain ⟨c, l, hS, h1, h2⟩ := h.ex
  have hL := lst_lst hS
  have hM := mut_lst hS
  have hr := lt_of_get hS
  simp [b_take, enter, hL, hM, hr]
  refine cas_dec (fun hc => ?_) fun hc => ?_
  · obtain ⟨j, rfl⟩ : ∃ j : Nat, c = ((j + 1 : Nat) : Int) := ⟨c.toNat - 1, by omega⟩
    have hj : j < l.length := by omega
    have e2 : atI (D.int (((j + 1 : Nat) : Int) + 1) :: l.map D.int) ((j + 1 : Nat) : Int) = some (.int l[j]) := by
      simp only [atI]
      rw [ixN_nat (by simp; omega)]
      simp [hj]
    have e1 : (((j + 1 : Nat) : Int) + 1 - 1) = ((j + 1 : Nat) : Int) := by omega
    simp [hL, hM, hr, e1, -Int.natCast_add]
    rw [e2]
    simp
    refine ⟨by omega, ⟨((j : Int) + 1 + 1), l, by simp [hr], by omega, h2⟩, Fr.set _ _ _, ?_, ?_⟩
    · rw [Int.fmod_eq_emod_of_nonneg _ (by omega)]
      exact Int.emod_nonneg _ (by omega)
    · rw [Int.fmod_eq_emod_of_nonneg _ (by omega)]
      exact Int.emod_lt_of_pos _ hm
  · simp
    exact ⟨h, Fr.refl _ _, hm⟩
end
/-! ### the row is written -/
def b_stream : Sms :=
 (.cons (.asg (.nm 1) (.lst (.cons (.cst (.int 1)) .nil))) <|
 (.cons (.for (.nm 2) .val (.cons (.slc (.var 0) .nil (.cons (.cst (.int 63)) .nil)) .nil)
  (.cons (.asg (.nm 3) (.bi .abs (.cons (.bi .int (.cons (.var 2) .nil)) .nil))) <|
  (.cons (.for (.nm 4) .rng (.cons (.cst (.int 60)) .nil)
   (.cons (.expr (.mth .append (.var 1) (.cons (.bin .mod (.var 3) (.cst (.int 59))) .nil))) <|
   (.cons (.asg (.nm 3) (.bin .fdiv (.var 3) (.cst (.int 59)))) <|
   (.cons (.iff (.cmp .eq (.var 3) (.cst (.int 0)))
    (.cons .brk .nil)
    .nil) .nil)))) .nil))) <|
 (.cons (.asg (.nm 5) (.cst (.int 7))) <|
 (.cons (.for (.nm 2) .val (.cons (.slc (.var 0) .nil (.cons (.cst (.int 63)) .nil)) .nil)
  (.cons (.asg (.nm 5) (.bin .mod (.bi .int (.cons (.bin .add (.bin .add (.bin .mul (.var 5) (.cst (.int 131))) (.var 2)) (.cst (.int 17))) .nil)) (.cst (.int 1000003)))) .nil)) <|
 (.cons (.for (.nm 4) .rng (.cons (.cst (.int 150)) .nil)
  (.cons (.asg (.nm 5) (.bin .mod (.bi .int (.cons (.bin .add (.bin .add (.bin .mul (.var 5) (.cst (.int 48271))) (.bin .mul (.var 4) (.cst (.int 69621)))) (.cst (.int 11))) .nil)) (.cst (.int 2147483647)))) <|
  (.cons (.expr (.mth .append (.var 1) (.cons (.bin .mod (.bin .fdiv (.var 5) (.cst (.int 1009))) (.cst (.int 59))) .nil))) .nil))) <|
 (.cons (.ret (.var 1)) .nil))))))
theorem cut_ints (ns : List Int) (j : Nat) : cutD (ns.map D.int) none (some (j : Int)) = (ns.take j).map D.int := by
  unfold cutD
  rw [HT.sIx_none, show HT.sIx (ns.map D.int).length (ns.map D.int).length (some (j : Int)) = min j (ns.map D.int).length from HT.sIx_nat _ _ j]
  simp [List.map_take]
theorem ints_get {l : List Int} {i : Nat} {d : D} (h : (l.map D.int)[i]? = some d) : ∃ z, l[i]? = some z ∧ d = .int z := by
  rw [List.getElem?_map] at h
  cases q : l[i]? with
  | none => rw [q] at h; cases h
  | some z =>
    rw [q] at h
    cases h
    exact ⟨z, rfl, rfl⟩
/-- a number that a machine may count with -/
theorem wid64 {z : Int} (h : z.natAbs < 2 ^ 64) : z.natAbs < WID := Nat.lt_of_lt_of_le h WID64
/-- the row as it is written: its first number is 1 -/
def Row1 (S : Sto) (r n : Nat) : Prop := ∃ l : List Int, S[r]? = some (.lst ((1 :: l).map .int)) ∧ l.length ≤ n
theorem Row1.push {S : Sto} {r n : Nat} (h : Row1 S r n) (hn : n < 5000) {z : Int} {Q : D × Sto → Prop} (q : ∀ S', Fr r S S' → Row1 S' r (n + 1) → Q (.non, S')) : opt (Mx.mt1 .append (.ref r) [.int z] S) Q := by
  obtain ⟨l, h1, h2⟩ := h
  have hr := lt_of_get h1
  simp only [m_app, mut_lst h1, Option.bind_some]
  rw [if_pos (by simp [LIM]; omega)]
  refine q _ (Fr.set _ _ _) ⟨l ++ [z], ?_, by simp; omega⟩
  simp [hr]
theorem Row1.isL {S : Sto} {r n : Nat} (h : Row1 S r n) : Mx.isL S (.ref r) = true := by
  obtain ⟨l, h1, _⟩ := h
  simp [lst_lst h1]
/-- while the row is written: the script, the row, a cut -/
structure Wr (ns : List Int) (len c n : Nat) (S : Sto) : Prop where
  len : S.length = len
  scr : S[0]? = some (.frz (ns.map D.int))
  cut : S[c]? = some (.lst (ns.map D.int))
  row : Row1 S 1 n
theorem Wr.fr {ns : List Int} {len c n m : Nat} {S S' : Sto} (h : Wr ns len c n S) (hc : c ≠ 1) (f : Fr 1 S S') (r : Row1 S' 1 m) : Wr ns len c m S' :=
  ⟨f.len.trans h.len, (f.get 0 (by decide)).trans h.scr, (f.get c hc).trans h.cut, r⟩
theorem Wr.le {ns : List Int} {len c n m : Nat} {S : Sto} (h : Wr ns len c n S) (hm : n ≤ m) : Wr ns len c m S := by
  obtain ⟨l, e1, e2⟩ := h.row
  exact ⟨h.len, h.scr, h.cut, l, e1, by omega⟩
theorem stream_spec {Fs : List Fn} {G : List D} {w k i : Nat} (hF : Fs[i]? = some ⟨1, 6, b_stream⟩) {ns : List Int} (hn : ns.length ≤ 63) :
    wp (run Fs G w (k + 1) i [.ref 0] [.frz (ns.map .int)]) (fun d S' => d = .ref 1 ∧ Rowp S' 1 ∧ S'[0]? = some (.frz (ns.map .int)) ∧ S'.length = 4) nE := by
  refine wp_run hF rfl ?_
  have ct : cutD (ns.map D.int) none (some 63) = ns.map D.int := by
    have := cut_ints ns 63
    rwa [List.take_of_length_le hn] at this
  have w59 : 59 < WID := wid64 (z := 59) (by decide)
  have w1009 : 1009 < WID := wid64 (z := 1009) (by decide)
  have z0 : ∀ (S : Sto), S[0]? = some (.frz (ns.map D.int)) → lstOf S 0 = some (ns.map D.int) := fun S h => lst_frz h
  simp [b_stream, enter, z0, ct]
  refine ⟨by decide, ?_⟩
  rw [lst_lst (S := [Ob.frz (ns.map D.int), Ob.lst [D.int 1], Ob.lst (ns.map D.int)]) (i := 2) rfl]
  simp only [opt_some]
  have W0 : Wr ns 3 2 0 [Ob.frz (ns.map D.int), Ob.lst [D.int 1], Ob.lst (ns.map D.int)] := ⟨rfl, rfl, rfl, [], rfl, Nat.le_refl _⟩
  -- the first loop
  refine forL_live (l := ns.map D.int) (fun i ρ S => Wr ns 3 2 (60 * i) S ∧ ∃ x2 x3 x4, ρ = [some (.ref 0), some (.ref 1), x2, x3, x4, none])
    (fun i ρ S h => lst_lst h.1.cut) ?_ ?_ _ 0 _ _ (by simp [lenI, lstOf]) (by omega) ⟨W0, none, none, none, rfl⟩
  · rintro i ρ S d hd ⟨W, x2, x3, x4, rfl⟩
    obtain ⟨z, hz, rfl⟩ := ints_get hd
    have hi : i < 63 := by
      have := (List.getElem?_eq_some_iff.mp hz).1
      omega
    refine ⟨_, rfl, ?_⟩
    simp
    refine ⟨by decide, ?_⟩
    refine forL_items (fun j ρ S => Wr ns 3 2 (60 * i + j) S ∧ ∃ (left : Int) (x4 : Option D), ρ = [some (.ref 0), some (.ref 1), some (.int z), some (.int left), x4, none])
      ?_ ?_ _ 0 _ _ (by omega) (by omega) ⟨W, _, _, rfl⟩
    · rintro j ρ S d hd ⟨W, left, x4, rfl⟩
      obtain ⟨hj, rfl⟩ := rng_get hd
      have hj' : j < 60 := hj
      refine ⟨_, rfl, ?_⟩
      have il := W.row.isL
      simp at il
      simp [il, -m_app]
      refine W.row.push (by omega) fun S' f r' => ?_
      have W' := W.fr (by decide) f r'
      simp [w59]
      refine cas_beq (fun _ => ?_) fun _ => ?_
      · simp
        exact W'.le (by omega)
      · simp
        exact W'
    · rintro ρ S ⟨W, left, x4, rfl⟩
      rw [rng_len] at W
      exact ⟨W, _, _, _, rfl⟩
  -- between
  · rintro ρ S ⟨W, x2, x3, x4, rfl⟩
    have W1 : Wr ns 3 2 3780 S := W.le (by simp; omega)
    simp [z0 S W1.scr, ct, W1.len]
    have W2 : Wr ns 4 3 3780 (S ++ [Ob.lst (ns.map D.int)]) := by
      obtain ⟨l, e1, e2⟩ := W1.row
      have hl := W1.len
      refine ⟨by simp [hl], ?_, ?_, l, ?_, e2⟩
      · rw [List.getElem?_append_left (by omega)]
        exact W1.scr
      · rw [List.getElem?_append_right (by omega), hl]
        rfl
      · rw [List.getElem?_append_left (by omega)]
        exact e1
    clear W W1
    generalize S ++ [Ob.lst (ns.map D.int)] = S2 at W2 ⊢
    simp [lst_lst W2.cut]
    refine forL_live (l := ns.map D.int) (fun i ρ S => Wr ns 4 3 3780 S ∧ ∃ x2 x3 x4 x5, ρ = [some (.ref 0), some (.ref 1), x2, x3, x4, some (.int x5)] ∧ x5.natAbs < 2 ^ 32)
      (fun i ρ S h => lst_lst h.1.cut) ?_ ?_ _ 0 _ _ (by simp [lenI, lst_lst W2.cut]) (by omega) ⟨W2, _, _, _, 7, rfl, by decide⟩
    · rintro i ρ S d hd ⟨W, x2, x3, x4, x5, rfl, h5⟩
      obtain ⟨z, hz, rfl⟩ := ints_get hd
      refine ⟨_, rfl, ?_⟩
      have a1 := wid64 (z := x5) (by omega)
      have a2 := wid64 (z := 131) (by decide)
      simp at a2
      simp [a1, a2]
      refine ⟨W, _, _, _, _, ⟨rfl, rfl, rfl, rfl⟩, ?_⟩
      have fm : (x5 * 131 + z + 17).fmod 1000003 = (x5 * 131 + z + 17) % 1000003 := Int.fmod_eq_emod_of_nonneg _ (by decide)
      rw [fm]
      omega
    · rintro ρ S ⟨W, x2, x3, x4, x5, rfl, h5⟩
      simp
      refine ⟨by decide, ?_⟩
      refine forL_items (fun j ρ S => Wr ns 4 3 (3780 + j) S ∧ ∃ (x2 x3 x4 : Option D) (x5 : Int), ρ = [some (.ref 0), some (.ref 1), x2, x3, x4, some (.int x5)] ∧ x5.natAbs < 2 ^ 32)
        ?_ ?_ _ 0 _ _ (by omega) (by omega) ⟨W, _, _, _, _, rfl, h5⟩
      · rintro j ρ S d hd ⟨W, x2, x3, x4, x5, rfl, h5⟩
        obtain ⟨hj, rfl⟩ := rng_get hd
        have hj' : j < 150 := hj
        refine ⟨_, rfl, ?_⟩
        have a1 := wid64 (z := x5) (by omega)
        have a2 := wid64 (z := 48271) (by decide)
        have a3 := wid64 (z := 69621) (by decide)
        have a4 := wid64 (z := (j : Int)) (by omega)
        simp at a2 a3 a4
        have il := W.row.isL
        simp at il
        simp [a1, a2, a3, a4, w1009, il, -m_app]
        have fm : (x5 * 48271 + (j : Int) * 69621 + 11).fmod 2147483647 = (x5 * 48271 + (j : Int) * 69621 + 11) % 2147483647 := Int.fmod_eq_emod_of_nonneg _ (by decide)
        refine W.row.push (by omega) fun S' f r' => ?_
        simp
        refine ⟨W.fr (by decide) f r', _, _, _, _, ⟨rfl, rfl, rfl, rfl⟩, ?_⟩
        rw [fm]
        omega
      · rintro ρ S ⟨W, x2, x3, x4, x5, rfl, h5⟩
        rw [rng_len] at W
        obtain ⟨l, e1, e2⟩ := W.row
        simp
        exact ⟨⟨1, l, e1, by decide, by omega⟩, W.scr, W.len⟩
end Mx
set_option Elab.async false
set_option linter.all false
set_option maxRecDepth 100000
set_option maxHeartbeats 8000000
set_option exponentiation.threshold 8000
/-! comprehensions -/
namespace Mx
open PySem L2
@[simp] theorem evt_nil {R : Nat → List D → Sto → Mo D} {G : List D} : (fun ρ S => evt R G Exs.nil ρ S) = fun (_ : Rho) S => some (.ok (.bl true) S) := by
  funext ρ S
  simp only [evt]
section
variable {E : Exn → Sto → Prop} {el : Rho → Sto → Mo D} {t : Tg} {l : List D} {ρ : Rho} {k : Nat} {S0 : Sto} {α : Type} {xs : List α} {f : α → D} {Q : D → Sto → Prop}
theorem get_app {S : Sto} {o : Ob} {i : Nat} (h : i < S.length) : (S ++ [o])[i]? = S[i]? := List.getElem?_append_left h
theorem lst_app {S : Sto} {o : Ob} {i : Nat} (h : i < S.length) : lstOf (S ++ [o]) i = lstOf S i := by
  unfold lstOf
  rw [get_app h]
theorem lst_app2 {S : Sto} {x : List D} : lstOf (S ++ [.lst x]) S.length = some x := by simp [lstOf]
/-- what does not touch the store -/
theorem lcL_pure (hk : S0.length = k) (hl : l.length = xs.length) (hx : xs.length < LIM)
    (h : ∀ (i : Nat) (d : D) (x : α), l[i]? = some d → xs[i]? = some x → ∃ ρ1, asgT t d ρ = some ρ1 ∧ ∀ o, wp (el ρ1 (S0 ++ [.lst o])) (fun y S2 => S2 = S0 ++ [.lst o] ∧ y = f x) nE)
    (hQ : Q (.ref k) (S0 ++ [.lst (xs.map f)])) {n : Nat} (hn : l.length + 1 ≤ n) : wp (lcL el (fun _ S => some (.ok (.bl true) S)) t (.items l) ρ k n 0 (S0 ++ [.lst []])) Q E := by
  subst hk
  refine lcL_items (fun i S => S = S0 ++ [.lst ((xs.take i).map f)]) ?_ ?_ n 0 _ (by omega) (Nat.zero_le _) rfl
  · rintro i S d hd rfl
    have hi : i < xs.length := by
      have := (List.getElem?_eq_some_iff.mp hd).1
      omega
    obtain ⟨ρ1, e1, e2⟩ := h i d xs[i] hd (List.getElem?_eq_getElem hi)
    refine ⟨ρ1, e1, wp_use (e2 _) ?_⟩
    rintro y S2 ⟨rfl, rfl⟩
    refine ⟨(xs.take i).map f, by simp [mutOf], ?_, ?_⟩
    · (rw [List.length_map, List.length_take])
      omega
    · rw [List.set_append_right _ _ (Nat.le_refl _), Nat.sub_self, List.take_add_one, List.getElem?_eq_getElem hi, List.map_append]
      rfl
  · rintro S rfl
    rw [hl, List.take_of_length_le (Nat.le_refl _)]
    exact hQ
theorem lcL_pureL {r : Nat} (hr : lstOf S0 r = some l) (hr2 : r < S0.length) (hk : S0.length = k) (hl : l.length = xs.length) (hx : xs.length < LIM)
    (h : ∀ (i : Nat) (d : D) (x : α), l[i]? = some d → xs[i]? = some x → ∃ ρ1, asgT t d ρ = some ρ1 ∧ ∀ o, wp (el ρ1 (S0 ++ [.lst o])) (fun y S2 => S2 = S0 ++ [.lst o] ∧ y = f x) nE)
    (hQ : Q (.ref k) (S0 ++ [.lst (xs.map f)])) {n : Nat} (hn : l.length + 1 ≤ n) : wp (lcL el (fun _ S => some (.ok (.bl true) S)) t (.live r) ρ k n 0 (S0 ++ [.lst []])) Q E := by
  subst hk
  refine lcL_live (l := l) (fun i S => S = S0 ++ [.lst ((xs.take i).map f)]) ?_ ?_ ?_ n 0 _ (by omega) (Nat.zero_le _) rfl
  · rintro i S rfl
    rw [lst_app hr2]
    exact hr
  · rintro i S d hd rfl
    have hi : i < xs.length := by
      have := (List.getElem?_eq_some_iff.mp hd).1
      omega
    obtain ⟨ρ1, e1, e2⟩ := h i d xs[i] hd (List.getElem?_eq_getElem hi)
    refine ⟨ρ1, e1, wp_use (e2 _) ?_⟩
    rintro y S2 ⟨rfl, rfl⟩
    refine ⟨(xs.take i).map f, by simp [mutOf], ?_, ?_⟩
    · (rw [List.length_map, List.length_take])
      omega
    · rw [List.set_append_right _ _ (Nat.le_refl _), Nat.sub_self, List.take_add_one, List.getElem?_eq_getElem hi, List.map_append]
      rfl
  · rintro S rfl
    rw [hl, List.take_of_length_le (Nat.le_refl _)]
    exact hQ
end
/-- a comprehension that takes of the row at 1: what stands when i items are in -/
structure CI (S0 : Sto) (k : Nat) (P : D → Prop) (i : Nat) (S : Sto) : Prop where
  len : S.length = k + 1
  old : ∀ j, j < k → j ≠ 1 → S[j]? = S0[j]?
  row : Rowp S 1
  acc : ∃ l : List D, S[k]? = some (.lst l) ∧ l.length = i ∧ ∀ z ∈ l, P z
theorem CI.start {S0 : Sto} {k : Nat} {P : D → Prop} (hk : S0.length = k) (h1 : 1 < k) (hr : Rowp S0 1) : CI S0 k P 0 (S0 ++ [.lst []]) := by
  subst hk
  obtain ⟨c, l, e1, e2, e3⟩ := hr.ex
  refine ⟨by simp, fun j hj _ => get_app hj, ⟨c, l, ?_, e2, e3⟩, [], by simp, rfl, by simp⟩
  rw [get_app h1]
  exact e1
theorem CI.push {S0 : Sto} {k : Nat} {P : D → Prop} {i : Nat} {S S' : Sto} (h : CI S0 k P i S) (h1 : 1 < k) (hi : i < 1000) (f : Fr 1 S S') (hr : Rowp S' 1) {z : D} (hz : P z) :
    ∃ acc, mutOf S' k = some acc ∧ acc.length < LIM ∧ CI S0 k P (i + 1) (S'.set k (.lst (acc ++ [z]))) := by
  obtain ⟨l, e1, e2, e3⟩ := h.acc
  have e4 : S'[k]? = some (.lst l) := (f.get k (by omega)).trans e1
  have hl := f.len.trans h.len
  refine ⟨l, mut_lst e4, ?_, ?_, fun j hj hj1 => ?_, ?_, l ++ [z], ?_, ?_, ?_⟩
  · simp only [LIM]
    omega
  · simp [hl]
  · rw [List.getElem?_set_ne (by omega), f.get j hj1, h.old j hj hj1]
  · obtain ⟨c, m, q1, q2, q3⟩ := hr.ex
    exact ⟨c, m, by rw [List.getElem?_set_ne (by omega)]; exact q1, q2, q3⟩
  · rw [List.getElem?_set_self (by omega)]
  · simp [e2]
  · intro y hy
    rcases List.mem_append.mp hy with q | q
    · exact e3 y q
    · simp at q
      subst q
      exact hz
end Mx
set_option Elab.async false
set_option linter.all false
set_option maxRecDepth 100000
set_option maxHeartbeats 8000000
/-! from what the top has written to the table -/
namespace Mx
open L2 PySem PySem.Spec PyProof.Rows
theorem at_mk {K : PySem.W.Frag} {h : Heap} {mg : Str → Option Value} (X : K.In h) (G : h.Ns mainGlobals mg) {x : Str} {st : Stmt} {N ps : List Str} {body : Sms} {f : Addr} {oc : Value} {od an : Option Addr} {osl : Array (Option Value)} {kV dc pm cd ct : Value}
    (a : PySem.W.nsIn K mainGlobals x = some (some (.ref f))) (l : K.lookup f = some ⟨oc, od, .func (PySem.W.fnOf x x (defArgs st) (defBody st) (defScope st) .none kV dc pm an cd ct), osl⟩)
    (c : PySem.W.codeIn K cd x = true) (k : PySem.W.keepIn K (.ref f) = true)
    (b : ∀ (kV doc pm : Value) (an : Option Addr) (cdv ct : Value) (us : List Value), us.length = ps.length → bindArgs (PySem.W.fnOf x x (defArgs st) (defBody st) (defScope st) .none kV doc pm an cdv ct) ⟨us, []⟩ = pure (ps.zip us)) :
    At K mg ⟨x, st, N, ps, body⟩ :=
  ⟨f, _, PySem.W.mg_of X G a, (fun_mk l c k).binds b, fun_mk l c k⟩
theorem gls_nil {K : PySem.W.Frag} {mg : Str → Option Value} {G : List D} : ∀ x, ([] : List Str).contains x = true → ∀ d, G[([] : List Str).idxOf x]? = some d → ∃ u v, mg x = some u ∧ L2.RelV v u ∧ ∀ φ H, RV K φ H d v := fun x h => by
  cases h
end Mx
set_option Elab.async false
set_option linter.all false
set_option maxRecDepth 100000
set_option maxHeartbeats 8000000
namespace K1
open PySem PySem.Spec PyProof.Rows L2 Mx
def tp (i : Nat) : Stmt := PySem.Challenge.pw_chance_k01_ratios.main.body.getD i (.Pass ⟨0, 0, 0, 0⟩)
def T : Tb := ⟨["ratio", "plus", "minus", "times", "over", "below", "total", "_law_stream", "_law_take", "_law_lowest", "_law_is_ratio", "_law_number", "_law_same", "law"], ["len", "abs", "int", "range", "sum", "isinstance", "bool", "tuple"], ["gcd", "lcm"], []⟩
/-! 2: ratio ["top", "bottom", "common"] -/
def b_ratio : Sms :=
 (.cons (.asg (.nm 2) (.bi .gcd (.cons (.var 0) (.cons (.var 1) .nil)))) <|
 (.cons (.iff (.cmp .lt (.var 1) (.cst (.int 0)))
  (.cons (.asg (.nm 2) (.neg (.var 2))) .nil)
  .nil) <|
 (.cons (.ret (.tup (.cons (.bin .fdiv (.var 0) (.var 2)) (.cons (.bin .fdiv (.var 1) (.var 2)) .nil)))) .nil)))
def rw_ratio : Rw := ⟨"ratio", tp 2, ["top", "bottom", "common"], ["top", "bottom"], b_ratio⟩
theorem ok_ratio : rw_ratio.Ok T := ⟨C8.fnScope_by (by decide +kernel), by rfl⟩
/-! 3: plus ["one", "two"] -/
def b_plus : Sms :=
 (.cons (.ret (.cal 0 (.cons (.bin .add (.bin .mul (.idx (.var 0) (.cst (.int 0))) (.idx (.var 1) (.cst (.int 1)))) (.bin .mul (.idx (.var 1) (.cst (.int 0))) (.idx (.var 0) (.cst (.int 1))))) (.cons (.bin .mul (.idx (.var 0) (.cst (.int 1))) (.idx (.var 1) (.cst (.int 1)))) .nil)))) .nil)
def rw_plus : Rw := ⟨"plus", tp 3, ["one", "two"], ["one", "two"], b_plus⟩
theorem ok_plus : rw_plus.Ok T := ⟨C8.fnScope_by (by decide +kernel), by rfl⟩
/-! 4: minus ["one", "two"] -/
def b_minus : Sms :=
 (.cons (.ret (.cal 0 (.cons (.bin .sub (.bin .mul (.idx (.var 0) (.cst (.int 0))) (.idx (.var 1) (.cst (.int 1)))) (.bin .mul (.idx (.var 1) (.cst (.int 0))) (.idx (.var 0) (.cst (.int 1))))) (.cons (.bin .mul (.idx (.var 0) (.cst (.int 1))) (.idx (.var 1) (.cst (.int 1)))) .nil)))) .nil)
def rw_minus : Rw := ⟨"minus", tp 4, ["one", "two"], ["one", "two"], b_minus⟩
theorem ok_minus : rw_minus.Ok T := ⟨C8.fnScope_by (by decide +kernel), by rfl⟩
/-! 5: times ["one", "two"] -/
def b_times : Sms :=
 (.cons (.ret (.cal 0 (.cons (.bin .mul (.idx (.var 0) (.cst (.int 0))) (.idx (.var 1) (.cst (.int 0)))) (.cons (.bin .mul (.idx (.var 0) (.cst (.int 1))) (.idx (.var 1) (.cst (.int 1)))) .nil)))) .nil)
def rw_times : Rw := ⟨"times", tp 5, ["one", "two"], ["one", "two"], b_times⟩
theorem ok_times : rw_times.Ok T := ⟨C8.fnScope_by (by decide +kernel), by rfl⟩
/-! 6: over ["one", "two"] -/
def b_over : Sms :=
 (.cons (.ret (.cal 0 (.cons (.bin .mul (.idx (.var 0) (.cst (.int 0))) (.idx (.var 1) (.cst (.int 1)))) (.cons (.bin .mul (.idx (.var 0) (.cst (.int 1))) (.idx (.var 1) (.cst (.int 0)))) .nil)))) .nil)
def rw_over : Rw := ⟨"over", tp 6, ["one", "two"], ["one", "two"], b_over⟩
theorem ok_over : rw_over.Ok T := ⟨C8.fnScope_by (by decide +kernel), by rfl⟩
/-! 7: below ["one", "two"] -/
def b_below : Sms :=
 (.cons (.ret (.cmp .lt (.bin .mul (.idx (.var 0) (.cst (.int 0))) (.idx (.var 1) (.cst (.int 1)))) (.bin .mul (.idx (.var 1) (.cst (.int 0))) (.idx (.var 0) (.cst (.int 1)))))) .nil)
def rw_below : Rw := ⟨"below", tp 7, ["one", "two"], ["one", "two"], b_below⟩
theorem ok_below : rw_below.Ok T := ⟨C8.fnScope_by (by decide +kernel), by rfl⟩
/-! 8: total ["ratios", "shared", "_", "bottom", "top"] -/
def b_total : Sms :=
 (.cons (.asg (.nm 1) (.cst (.int 1))) <|
 (.cons (.for (.ns [2, 3]) .val (.cons (.var 0) .nil)
  (.cons (.asg (.nm 1) (.bi .lcm (.cons (.var 1) (.cons (.var 3) .nil)))) .nil)) <|
 (.cons (.ret (.cal 0 (.cons (.bi .sum (.cons (.lc (.bin .mul (.var 4) (.bin .fdiv (.var 1) (.var 3))) [4, 3] (.ns [4, 3]) .val (.cons (.var 0) .nil) .nil) .nil)) (.cons (.var 1) .nil)))) .nil)))
def rw_total : Rw := ⟨"total", tp 8, ["ratios", "shared", "_", "bottom", "top"], ["ratios"], b_total⟩
theorem ok_total : rw_total.Ok T := ⟨C8.fnScope_by (by decide +kernel), by rfl⟩
/-! 10: _law_stream ["script", "row", "cell", "left", "k", "seed"] -/
def b__law_stream_5 : Sms := .cons (.ret (.var 1)) .nil
def b__law_stream_4 : Sms := .cons (.for (.nm 4) .rng (.cons (.cst (.int 150)) .nil)
  (.cons (.asg (.nm 5) (.bin .mod (.bi .int (.cons (.bin .add (.bin .add (.bin .mul (.var 5) (.cst (.int 48271))) (.bin .mul (.var 4) (.cst (.int 69621)))) (.cst (.int 11))) .nil)) (.cst (.int 2147483647)))) <|
  (.cons (.expr (.mth .append (.var 1) (.cons (.bin .mod (.bin .fdiv (.var 5) (.cst (.int 1009))) (.cst (.int 59))) .nil))) .nil))) b__law_stream_5
def b__law_stream_3 : Sms := .cons (.for (.nm 2) .val (.cons (.slc (.var 0) .nil (.cons (.cst (.int 63)) .nil)) .nil)
  (.cons (.asg (.nm 5) (.bin .mod (.bi .int (.cons (.bin .add (.bin .add (.bin .mul (.var 5) (.cst (.int 131))) (.var 2)) (.cst (.int 17))) .nil)) (.cst (.int 1000003)))) .nil)) b__law_stream_4
def b__law_stream_2 : Sms := .cons (.asg (.nm 5) (.cst (.int 7))) b__law_stream_3
def b__law_stream_1 : Sms := .cons (.for (.nm 2) .val (.cons (.slc (.var 0) .nil (.cons (.cst (.int 63)) .nil)) .nil)
  (.cons (.asg (.nm 3) (.bi .abs (.cons (.bi .int (.cons (.var 2) .nil)) .nil))) <|
  (.cons (.for (.nm 4) .rng (.cons (.cst (.int 60)) .nil)
   (.cons (.expr (.mth .append (.var 1) (.cons (.bin .mod (.var 3) (.cst (.int 59))) .nil))) <|
   (.cons (.asg (.nm 3) (.bin .fdiv (.var 3) (.cst (.int 59)))) <|
   (.cons (.iff (.cmp .eq (.var 3) (.cst (.int 0)))
    (.cons .brk .nil)
    .nil) .nil)))) .nil))) b__law_stream_2
def b__law_stream : Sms := .cons (.asg (.nm 1) (.lst (.cons (.cst (.int 1)) .nil))) b__law_stream_1
def rw__law_stream : Rw := ⟨"_law_stream", tp 10, ["script", "row", "cell", "left", "k", "seed"], ["script"], b__law_stream⟩
theorem ok__law_stream : rw__law_stream.Ok T := ⟨C8.fnScope_by (by decide +kernel), by rfl⟩
/-! 11: _law_take ["row", "many"] -/
def b__law_take : Sms :=
 (.cons (.iff (.cmp .lt (.idx (.var 0) (.cst (.int 0))) (.bi .len (.cons (.var 0) .nil)))
  (.cons (.seti (.var 0) (.cst (.int 0)) (.bin .add (.idx (.var 0) (.cst (.int 0))) (.cst (.int 1)))) <|
  (.cons (.ret (.bin .mod (.bi .int (.cons (.idx (.var 0) (.bin .sub (.idx (.var 0) (.cst (.int 0))) (.cst (.int 1)))) .nil)) (.var 1))) .nil))
  .nil) <|
 (.cons (.ret (.cst (.int 0))) .nil))
def rw__law_take : Rw := ⟨"_law_take", tp 11, ["row", "many"], ["row", "many"], b__law_take⟩
theorem ok__law_take : rw__law_take.Ok T := ⟨C8.fnScope_by (by decide +kernel), by rfl⟩
/-! 12: _law_lowest ["top", "bottom", "a", "b", "turn"] -/
def b__law_lowest_4 : Sms := .cons (.ret (.tup (.cons (.bin .fdiv (.var 0) (.var 2)) (.cons (.bin .fdiv (.var 1) (.var 2)) .nil)))) .nil
def b__law_lowest_3 : Sms := .cons (.iff (.cmp .eq (.var 2) (.cst (.int 0)))
  (.cons (.ret (.tup (.cons (.cst (.int 0)) (.cons (.cst (.int 1)) .nil)))) .nil)
  .nil) b__law_lowest_4
def b__law_lowest_2 : Sms := .cons (.for (.nm 4) .rng (.cons (.cst (.int 20000)) .nil)
  (.cons (.iff (.cmp .eq (.var 3) (.cst (.int 0)))
   (.cons .brk .nil)
   .nil) <|
  (.cons (.par 2 3 (.var 3) (.bin .mod (.bi .int (.cons (.var 2) .nil)) (.var 3))) .nil))) b__law_lowest_3
def b__law_lowest_1 : Sms := .cons (.asg (.nm 3) (.var 1)) b__law_lowest_2
def b__law_lowest : Sms := .cons (.asg (.nm 2) (.bi .abs (.cons (.var 0) .nil))) b__law_lowest_1
def rw__law_lowest : Rw := ⟨"_law_lowest", tp 12, ["top", "bottom", "a", "b", "turn"], ["top", "bottom"], b__law_lowest⟩
theorem ok__law_lowest : rw__law_lowest.Ok T := ⟨C8.fnScope_by (by decide +kernel), by rfl⟩
/-! 13: _law_is_ratio ["told", "top", "bottom"] -/
def b__law_is_ratio : Sms :=
 (.cons (.iff (.or (.nt (.isi (.var 0) .tuple)) (.or (.cmp .ne (.bi .len (.cons (.var 0) .nil)) (.cst (.int 2))) (.or (.isi (.idx (.var 0) (.cst (.int 0))) .bool) (.isi (.idx (.var 0) (.cst (.int 1))) .bool))))
  (.cons (.ret (.cst (.bl false))) .nil)
  .nil) <|
 (.cons (.ret (.cmp .eq (.var 0) (.cal 9 (.cons (.var 1) (.cons (.var 2) .nil))))) .nil))
def rw__law_is_ratio : Rw := ⟨"_law_is_ratio", tp 13, ["told", "top", "bottom"], ["told", "top", "bottom"], b__law_is_ratio⟩
theorem ok__law_is_ratio : rw__law_is_ratio.Ok T := ⟨C8.fnScope_by (by decide +kernel), by rfl⟩
/-! 14: _law_number ["row", "script", "k", "number"] -/
def b__law_number : Sms :=
 (.cons (.asg (.nm 3) (.bin .sub (.cal 8 (.cons (.var 0) (.cons (.cst (.int 59)) .nil))) (.cst (.int 29)))) <|
 (.cons (.iff (.an (.cmp .lt (.var 2) (.bi .len (.cons (.var 1) .nil))) (.cmp .eq (.cal 8 (.cons (.var 0) (.cons (.cst (.int 2)) .nil))) (.cst (.int 1))))
  (.cons (.asg (.nm 3) (.bin .sub (.bin .mod (.bi .int (.cons (.idx (.var 1) (.var 2)) .nil)) (.bin .pow (.cst (.int 10)) (.cst (.int 12)))) (.bin .pow (.cst (.int 10)) (.cst (.int 11))))) .nil)
  .nil) <|
 (.cons (.ret (.var 3)) .nil)))
def rw__law_number : Rw := ⟨"_law_number", tp 14, ["row", "script", "k", "number"], ["row", "script", "k"], b__law_number⟩
theorem ok__law_number : rw__law_number.Ok T := ⟨C8.fnScope_by (by decide +kernel), by rfl⟩
/-! 15: _law_same ["told", "top", "bottom"] -/
def b__law_same : Sms :=
 (.cons (.iff (.cmp .lt (.var 2) (.cst (.int 0)))
  (.cons (.asg (.nm 1) (.bin .sub (.cst (.int 0)) (.var 1))) <|
  (.cons (.asg (.nm 2) (.bin .sub (.cst (.int 0)) (.var 2))) .nil))
  .nil) <|
 (.cons (.ret (.cal 10 (.cons (.var 0) (.cons (.var 1) (.cons (.var 2) .nil))))) .nil))
def rw__law_same : Rw := ⟨"_law_same", tp 15, ["told", "top", "bottom"], ["told", "top", "bottom"], b__law_same⟩
theorem ok__law_same : rw__law_same.Ok T := ⟨C8.fnScope_by (by decide +kernel), by rfl⟩
/-! 16: law ["script", "row", "a", "c", "b", "d", "one", "two", "told", "tops", "bottoms", "whole", "bottom", "due", "k", "top"] -/
def b_law_19 : Sms := .cons (.ret (.cal 10 (.cons (.cal 6 (.cons (.lc (.cal 0 (.cons (.idx (.var 9) (.var 14)) (.cons (.idx (.var 10) (.var 14)) .nil))) [14] (.nm 14) .rng (.cons (.bi .len (.cons (.var 9) .nil)) .nil) .nil) .nil)) (.cons (.var 13) (.cons (.var 11) .nil))))) .nil
def b_law_18 : Sms := .cons (.asg (.nm 13) (.bi .sum (.cons (.lc (.bin .mul (.idx (.var 9) (.var 14)) (.bin .fdiv (.var 11) (.idx (.var 10) (.var 14)))) [14] (.nm 14) .rng (.cons (.bi .len (.cons (.var 9) .nil)) .nil) .nil) .nil))) b_law_19
def b_law_17 : Sms := .cons (.for (.nm 12) .val (.cons (.var 10) .nil)
  (.cons (.asg (.nm 11) (.bin .mul (.var 11) (.var 12))) .nil)) b_law_18
def b_law_16 : Sms := .cons (.asg (.nm 11) (.cst (.int 1))) b_law_17
def b_law_15 : Sms := .cons (.asg (.nm 10) (.lc (.bin .add (.cst (.int 1)) (.cal 8 (.cons (.var 1) (.cons (.cst (.int 40)) .nil)))) [15] (.nm 15) .val (.cons (.var 9) .nil) .nil)) b_law_16
def b_law_14 : Sms := .cons (.asg (.nm 9) (.lc (.bin .sub (.cal 8 (.cons (.var 1) (.cons (.cst (.int 59)) .nil))) (.cst (.int 20))) [14] (.nm 14) .rng (.cons (.cal 8 (.cons (.var 1) (.cons (.cst (.int 9)) .nil))) .nil) .nil)) b_law_15
def b_law_13 : Sms := .cons (.iff (.or (.nt (.isi (.var 8) .bool)) (.cmp .ne (.var 8) (.cmp .lt (.bin .mul (.idx (.var 6) (.cst (.int 0))) (.idx (.var 7) (.cst (.int 1)))) (.bin .mul (.idx (.var 7) (.cst (.int 0))) (.idx (.var 6) (.cst (.int 1)))))))
  (.cons (.ret (.cst (.bl false))) .nil)
  .nil) b_law_14
def b_law_12 : Sms := .cons (.asg (.nm 8) (.cal 5 (.cons (.var 6) (.cons (.var 7) .nil)))) b_law_13
def b_law_11 : Sms := .cons (.iff (.or (.nt (.cal 12 (.cons (.cal 3 (.cons (.var 6) (.cons (.var 7) .nil))) (.cons (.bin .mul (.var 2) (.var 3)) (.cons (.bin .mul (.var 4) (.var 5)) .nil))))) (.an (.cmp .ne (.var 3) (.cst (.int 0))) (.nt (.cal 12 (.cons (.cal 4 (.cons (.var 6) (.cons (.var 7) .nil))) (.cons (.bin .mul (.var 2) (.var 5)) (.cons (.bin .mul (.var 4) (.var 3)) .nil)))))))
  (.cons (.ret (.cst (.bl false))) .nil)
  .nil) b_law_12
def b_law_10 : Sms := .cons (.iff (.or (.nt (.cal 12 (.cons (.cal 1 (.cons (.var 6) (.cons (.var 7) .nil))) (.cons (.bin .add (.bin .mul (.var 2) (.var 5)) (.bin .mul (.var 3) (.var 4))) (.cons (.bin .mul (.var 4) (.var 5)) .nil))))) (.nt (.cal 12 (.cons (.cal 2 (.cons (.var 6) (.cons (.var 7) .nil))) (.cons (.bin .sub (.bin .mul (.var 2) (.var 5)) (.bin .mul (.var 3) (.var 4))) (.cons (.bin .mul (.var 4) (.var 5)) .nil))))))
  (.cons (.ret (.cst (.bl false))) .nil)
  .nil) b_law_11
def b_law_9 : Sms := .cons (.iff (.or (.nt (.cal 12 (.cons (.var 6) (.cons (.var 2) (.cons (.var 4) .nil))))) (.nt (.cal 12 (.cons (.var 7) (.cons (.var 3) (.cons (.var 5) .nil))))))
  (.cons (.ret (.cst (.bl false))) .nil)
  .nil) b_law_10
def b_law_8 : Sms := .cons (.asg (.nm 7) (.cal 0 (.cons (.var 3) (.cons (.var 5) .nil)))) b_law_9
def b_law_7 : Sms := .cons (.asg (.nm 6) (.cal 0 (.cons (.var 2) (.cons (.var 4) .nil)))) b_law_8
def b_law_6 : Sms := .cons (.iff (.cmp .eq (.var 5) (.cst (.int 0)))
  (.cons (.asg (.nm 5) (.bin .sub (.cst (.int 0)) (.cst (.int 3)))) .nil)
  .nil) b_law_7
def b_law_5 : Sms := .cons (.iff (.cmp .eq (.var 4) (.cst (.int 0)))
  (.cons (.asg (.nm 4) (.cst (.int 7))) .nil)
  .nil) b_law_6
def b_law_4 : Sms := .cons (.asg (.nm 5) (.cal 11 (.cons (.var 1) (.cons (.var 0) (.cons (.cst (.int 3)) .nil))))) b_law_5
def b_law_3 : Sms := .cons (.asg (.nm 4) (.cal 11 (.cons (.var 1) (.cons (.var 0) (.cons (.cst (.int 2)) .nil))))) b_law_4
def b_law_2 : Sms := .cons (.asg (.nm 3) (.cal 11 (.cons (.var 1) (.cons (.var 0) (.cons (.cst (.int 1)) .nil))))) b_law_3
def b_law_1 : Sms := .cons (.asg (.nm 2) (.cal 11 (.cons (.var 1) (.cons (.var 0) (.cons (.cst (.int 0)) .nil))))) b_law_2
def b_law : Sms := .cons (.asg (.nm 1) (.cal 7 (.cons (.var 0) .nil))) b_law_1
def rw_law : Rw := ⟨"law", tp 16, ["script", "row", "a", "c", "b", "d", "one", "two", "told", "tops", "bottoms", "whole", "bottom", "due", "k", "top"], ["script"], b_law⟩
theorem ok_law : rw_law.Ok T := ⟨C8.fnScope_by (by decide +kernel), by rfl⟩
def rows : List Rw := [rw_ratio, rw_plus, rw_minus, rw_times, rw_over, rw_below, rw_total, rw__law_stream, rw__law_take, rw__law_lowest, rw__law_is_ratio, rw__law_number, rw__law_same, rw_law]
def Fs : List Fn := rows.map Rw.fn
end K1
set_option Elab.async false
set_option linter.all false
set_option maxRecDepth 100000
set_option maxHeartbeats 8000000
set_option exponentiation.threshold 8000
namespace K1
open PySem L2 Mx
abbrev Rn (k : Nat) := run Fs [] 20002 k
/-! ### arithmetic -/
def low (t b : Int) : Int × Int := (t / (Int.gcd t b : Int), b / (Int.gcd t b : Int))
theorem gcd_le {t b : Int} (hb : b ≠ 0) : (Int.gcd t b) ≤ b.natAbs := by
  have h := Int.gcd_dvd_right t b
  have := Int.natAbs_dvd_natAbs.mpr h
  exact Nat.le_of_dvd (by omega) (by simpa using this)
theorem gcd_pos {t b : Int} (hb : b ≠ 0) : 0 < (Int.gcd t b : Int) := by
  have : Int.gcd t b ≠ 0 := fun h => hb (Int.eq_zero_of_gcd_eq_zero_right h)
  omega
/-- both signs -/
def rat (t b : Int) : Int × Int := if b < 0 then low (-t) (-b) else low t b
theorem cop_dvd {x y z : Int} (h : Int.gcd x y = 1) (d : x ∣ y * z) : x ∣ z := by
  refine Int.natAbs_dvd_natAbs.mp ?_
  have d' := Int.natAbs_dvd_natAbs.mpr d
  rw [Int.natAbs_mul] at d'
  exact Nat.Coprime.dvd_of_dvd_mul_left (show Nat.Coprime x.natAbs y.natAbs from h) d'
theorem low_split {t b : Int} (hb : b ≠ 0) : ∃ g : Int, 0 < g ∧ t = (low t b).1 * g ∧ b = (low t b).2 * g ∧ Int.gcd (low t b).1 (low t b).2 = 1 :=
  ⟨Int.gcd t b, gcd_pos hb, (Int.ediv_mul_cancel (Int.gcd_dvd_left t b)).symm, (Int.ediv_mul_cancel (Int.gcd_dvd_right t b)).symm,
    Int.gcd_ediv_gcd_ediv_gcd (by have := gcd_pos (t := t) hb; omega)⟩
theorem low_pos {t b : Int} (hb : 0 < b) : 0 < (low t b).2 := by
  obtain ⟨g, h1, _, h2, _⟩ := low_split (t := t) (Int.ne_of_gt hb)
  rw [h2] at hb
  refine Int.lt_of_not_ge fun h => ?_
  have h3 := Int.mul_le_mul_of_nonneg_right h (Int.le_of_lt h1)
  rw [Int.zero_mul] at h3
  omega
theorem low_cross {t b : Int} (hb : b ≠ 0) : (low t b).1 * b = t * (low t b).2 := by
  obtain ⟨g, _, h1, h2, _⟩ := low_split (t := t) hb
  generalize low t b = p at *
  subst h1 h2
  grind
theorem low_uniq {t b t' b' : Int} (hb : 0 < b) (hb' : 0 < b') (h : t * b' = t' * b) : low t b = low t' b' := by
  have p1 := low_pos (t := t) hb
  have p2 := low_pos (t := t') hb'
  obtain ⟨g, g0, h1, h2, c1⟩ := low_split (t := t) (Int.ne_of_gt hb)
  obtain ⟨g', g0', h1', h2', c2⟩ := low_split (t := t') (Int.ne_of_gt hb')
  generalize low t b = p at *
  generalize low t' b' = q at *
  obtain ⟨x, y⟩ := p
  obtain ⟨u, v⟩ := q
  dsimp only at *
  subst h1 h2 h1' h2'
  have e : x * v = u * y := by
    have h3 : (x * v) * (g * g') = (u * y) * (g * g') := by grind
    exact Int.eq_of_mul_eq_mul_right (Int.ne_of_gt (Int.mul_pos g0 g0')) h3
  have d1 : y ∣ v := cop_dvd (y := x) (by rw [Int.gcd_comm]; exact c1) ⟨u, by rw [e, Int.mul_comm]⟩
  have d2 : v ∣ y := cop_dvd (y := u) (by rw [Int.gcd_comm]; exact c2) ⟨x, by rw [← e, Int.mul_comm]⟩
  have e2 : y = v := Int.dvd_antisymm (Int.le_of_lt p1) (Int.le_of_lt p2) d1 d2
  subst e2
  rw [Int.eq_of_mul_eq_mul_right (Int.ne_of_gt p1) e]
theorem rat_pos {t b : Int} (hb : b ≠ 0) : 0 < (rat t b).2 := by
  unfold rat
  split
  · exact low_pos (by omega)
  · exact low_pos (by omega)
theorem rat_cross {t b : Int} (hb : b ≠ 0) : (rat t b).1 * b = t * (rat t b).2 := by
  unfold rat
  split
  · have := low_cross (t := -t) (b := -b) (by omega)
    grind
  · exact low_cross hb
theorem rat_uniq {t b t' b' : Int} (hb : b ≠ 0) (hb' : b' ≠ 0) (h : t * b' = t' * b) : rat t b = rat t' b' := by
  unfold rat
  split <;> split
  · exact low_uniq (by omega) (by omega) (by grind)
  · exact low_uniq (by omega) (by omega) (by grind)
  · exact low_uniq (by omega) (by omega) (by grind)
  · exact low_uniq (by omega) (by omega) h
theorem low_small {t b : Int} (hb : b ≠ 0) : (low t b).1.natAbs ≤ t.natAbs ∧ (low t b).2.natAbs ≤ b.natAbs := by
  obtain ⟨g, g0, h1, h2, _⟩ := low_split (t := t) hb
  generalize low t b = p at *
  subst h1 h2
  rw [Int.natAbs_mul, Int.natAbs_mul]
  exact ⟨Nat.le_mul_of_pos_right _ (by omega), Nat.le_mul_of_pos_right _ (by omega)⟩
theorem rat_small {t b : Int} (hb : b ≠ 0) : (rat t b).1.natAbs ≤ t.natAbs ∧ (rat t b).2.natAbs ≤ b.natAbs := by
  unfold rat
  split
  · have := low_small (t := -t) (b := -b) (by omega)
    rwa [Int.natAbs_neg, Int.natAbs_neg] at this
  · exact low_small hb
theorem rat_low {t b : Int} (hb : 0 < b) : rat t b = low t b := if_neg (by omega)
/-- the four operations -/
theorem plus_rat {a b c d : Int} (hb : b ≠ 0) (hd : d ≠ 0) : rat ((rat a b).1 * (rat c d).2 + (rat c d).1 * (rat a b).2) ((rat a b).2 * (rat c d).2) = rat (a * d + c * b) (b * d) := by
  have p1 := rat_pos (t := a) hb
  have p2 := rat_pos (t := c) hd
  have e1 := rat_cross (t := a) hb
  have e2 := rat_cross (t := c) hd
  refine rat_uniq (Int.ne_of_gt (Int.mul_pos p1 p2)) (Int.mul_ne_zero hb hd) ?_
  grind
theorem minus_rat {a b c d : Int} (hb : b ≠ 0) (hd : d ≠ 0) : rat ((rat a b).1 * (rat c d).2 - (rat c d).1 * (rat a b).2) ((rat a b).2 * (rat c d).2) = rat (a * d - c * b) (b * d) := by
  have p1 := rat_pos (t := a) hb
  have p2 := rat_pos (t := c) hd
  have e1 := rat_cross (t := a) hb
  have e2 := rat_cross (t := c) hd
  refine rat_uniq (Int.ne_of_gt (Int.mul_pos p1 p2)) (Int.mul_ne_zero hb hd) ?_
  grind
theorem times_rat {a b c d : Int} (hb : b ≠ 0) (hd : d ≠ 0) : rat ((rat a b).1 * (rat c d).1) ((rat a b).2 * (rat c d).2) = rat (a * c) (b * d) := by
  have p1 := rat_pos (t := a) hb
  have p2 := rat_pos (t := c) hd
  have e1 := rat_cross (t := a) hb
  have e2 := rat_cross (t := c) hd
  refine rat_uniq (Int.ne_of_gt (Int.mul_pos p1 p2)) (Int.mul_ne_zero hb hd) ?_
  grind
theorem top_zero {c d : Int} (hc : c ≠ 0) (hd : d ≠ 0) : (rat c d).1 ≠ 0 := fun h => by
  have e2 := rat_cross (t := c) hd
  rw [h, Int.zero_mul] at e2
  have p2 := rat_pos (t := c) hd
  exact absurd e2.symm (Int.mul_ne_zero hc (Int.ne_of_gt p2))
theorem over_rat {a b c d : Int} (hb : b ≠ 0) (hd : d ≠ 0) (hc : c ≠ 0) : rat ((rat a b).1 * (rat c d).2) ((rat a b).2 * (rat c d).1) = rat (a * d) (b * c) := by
  have p1 := rat_pos (t := a) hb
  have e1 := rat_cross (t := a) hb
  have e2 := rat_cross (t := c) hd
  refine rat_uniq (Int.mul_ne_zero (Int.ne_of_gt p1) (top_zero hc hd)) (Int.mul_ne_zero hb hc) ?_
  grind
def dP (p : Int × Int) : D := .tup [.int p.1, .int p.2]
theorem ratio_spec {k : Nat} {S : Sto} {t b : Int} (hb : b ≠ 0) (hw : b.natAbs < WID) : wp (Rn (k + 1) 0 [.int t, .int b] S) (fun d S' => S' = S ∧ d = dP (rat t b)) nE := by
  refine wp_run (F := rw_ratio.fn) rfl rfl ?_
  show wpS (exs _ _ _ b_ratio _ _) _ _
  have g0 := gcd_pos (t := t) hb
  have g1 := Nat.lt_of_le_of_lt (gcd_le (t := t) hb) hw
  simp [b_ratio, rw_ratio, Rw.fn, enter, rat]
  refine cas_dec (fun h => ?_) fun h => ?_
  · simp [h]
    refine ⟨⟨fun _ => hb, g1⟩, by decide, ?_⟩
    have e : ∀ x : Int, x.fdiv (-(Int.gcd t b : Int)) = (-x) / (Int.gcd t b : Int) := fun x => by
      rw [← Int.neg_fdiv_neg, Int.neg_neg, Int.fdiv_eq_ediv_of_nonneg _ (by omega)]
    rw [e, e]
    simp [low, dP]
  · simp [h]
    refine ⟨⟨fun _ => hb, g1⟩, by decide, ?_⟩
    have e : ∀ x : Int, x.fdiv ((Int.gcd t b : Int)) = x / (Int.gcd t b : Int) := fun x => Int.fdiv_eq_ediv_of_nonneg _ (by omega)
    rw [e, e]
    rfl
/-! ### the law's own gcd -/
theorem half {a b : Nat} (hb : b ≠ 0) (h : b ≤ a) : 2 * (a % b) ≤ a := by
  have h1 := Nat.mod_lt a (Nat.pos_of_ne_zero hb)
  have h2 := Nat.div_add_mod a b
  have h3 : 1 ≤ a / b := Nat.div_pos h (Nat.pos_of_ne_zero hb)
  have h4 : b * 1 ≤ b * (a / b) := Nat.mul_le_mul_left b h3
  omega
/-- 2 to 8000 -/
@[irreducible] def BIG : Nat := 2 ^ 8000
theorem big_mul {a b : Nat} (ha : a < 2 ^ 4000) (hb : b < 2 ^ 4000) : a * b < BIG := by
  have h : a * b < 2 ^ 4000 * 2 ^ 4000 := Nat.mul_lt_mul'' ha hb
  rw [← Nat.pow_add] at h
  unfold BIG
  exact h
theorem big_zero {n j : Nat} (h : n * 2 ^ j < BIG) (hk : 8000 ≤ j) : n = 0 := by
  rcases Nat.eq_zero_or_pos n with e | e
  · exact e
  · have h1 : BIG ≤ 2 ^ j := by
      unfold BIG
      exact Nat.pow_le_pow_right (by decide) hk
    have h2 : 1 * 2 ^ j ≤ n * 2 ^ j := Nat.mul_le_mul_right _ e
    omega

/-- ahead of turn i -/
structure LI (t b : Int) (S : Sto) (i : Nat) (ρ : Rho) (S1 : Sto) : Prop where
  st : S1 = S
  ex : ∃ (a c : Nat) (x : Option D), ρ = [some (.int t), some (.int b), some (.int a), some (.int c), x] ∧ Nat.gcd a c = Int.gcd t b ∧
    ((i = 0 ∧ a = t.natAbs ∧ c = b.natAbs) ∨ ∃ j, i = j + 1 ∧ c < a ∧ a * c * 2 ^ j < BIG)
theorem lowest_spec {k : Nat} {S : Sto} {t b : Int} (hb : 0 < b) (ht : t.natAbs < 2 ^ 4000) (hw : b.natAbs < 2 ^ 4000) : wp (Rn (k + 1) 9 [.int t, .int b] S) (fun d S' => S' = S ∧ d = dP (low t b)) nE := by
  refine wp_run (F := rw__law_lowest.fn) rfl rfl ?_
  show wpS (exs _ _ _ b__law_lowest _ _) _ _
  simp [b__law_lowest, b__law_lowest_1, b__law_lowest_2, rw__law_lowest, Rw.fn, enter]
  have g0 := gcd_pos (t := t) (Int.ne_of_gt hb)
  have gw : Int.gcd t b < WID := Nat.lt_of_le_of_lt (gcd_le (t := t) (Int.ne_of_gt hb)) hw
  have gn : ((Int.gcd t b : Nat) : Int) ≠ 0 := by omega
  have fd : ∀ x : Int, x.fdiv ((Int.gcd t b : Int)) = x / (Int.gcd t b : Int) := fun x => Int.fdiv_eq_ediv_of_nonneg _ (by omega)
  refine ⟨by decide, ?_⟩
  refine forL_items (LI t b S) ?_ ?_ _ 0 _ _ (by omega) (by omega) ⟨rfl, t.natAbs, b.natAbs, none, ?_, rfl, .inl ⟨rfl, rfl, rfl⟩⟩
  · rintro i ρ S1 d hd ⟨rfl, a, c, x, rfl, hg, hI⟩
    refine ⟨_, rfl, ?_⟩
    simp
    refine cas_beq (fun h0 => ?_) fun h0 => ?_
    · have h0 : c = 0 := by omega
      subst h0
      have e : a = Int.gcd t b := by rw [← hg, Nat.gcd_zero_right]
      subst e
      simp [b__law_lowest_3, gn, gw, fd]
      refine cas_beq (fun z => absurd z gn) fun _ => ?_
      simp [b__law_lowest_4, gw, fd]
      exact ⟨by omega, by decide, rfl⟩
    · have h0 : c ≠ 0 := by omega
      simp
      refine ⟨h0, rfl, c, a % c, some d, ?_, ?_, ?_⟩
      · rw [Int.fmod_eq_emod_of_nonneg _ (by omega)]
        rfl
      · rw [← hg, Nat.gcd_comm a c, Nat.gcd_rec c a, Nat.gcd_comm]
      · refine .inr ⟨i, rfl, Nat.mod_lt _ (by omega), ?_⟩
        rcases hI with ⟨rfl, rfl, rfl⟩ | ⟨j, rfl, h1, h2⟩
        · rw [Nat.pow_zero, Nat.mul_one]
          exact big_mul hw (Nat.lt_trans (Nat.mod_lt _ (by omega)) hw)
        · refine Nat.lt_of_le_of_lt ?_ h2
          rw [Nat.pow_succ, ← Nat.mul_assoc, Nat.mul_right_comm _ _ 2]
          refine Nat.mul_le_mul_right _ ?_
          rw [Nat.mul_assoc, Nat.mul_comm a c]
          refine Nat.mul_le_mul_left _ ?_
          rw [Nat.mul_comm]
          exact half h0 (by omega)
  · rintro ρ S1 ⟨rfl, a, c, x, rfl, hg, hI⟩
    rcases hI with ⟨h, _⟩ | ⟨j, h, h1, h2⟩
    · rw [rng_len] at h
      omega
    · rw [rng_len] at h
      have h3 := big_zero h2 (by omega)
      have h4 : c = 0 := by
        rcases Nat.mul_eq_zero.mp h3 with z | z
        · omega
        · exact z
      subst h4
      have e : a = Int.gcd t b := by rw [← hg, Nat.gcd_zero_right]
      subst e
      simp [b__law_lowest_3]
      refine cas_beq (fun z => absurd z gn) fun _ => ?_
      simp [b__law_lowest_4, gw, fd]
      exact ⟨by omega, by decide, rfl⟩
  · have : ((b.natAbs : Nat) : Int) = b := by omega
    rw [this]
end K1
set_option Elab.async false
set_option linter.all false
set_option maxRecDepth 100000
set_option maxHeartbeats 8000000
set_option exponentiation.threshold 8000
namespace K1
open PySem L2 Mx
theorem eq_dP {S : Sto} {p : Int × Int} : cm2 .eq (dP p) (dP p) S = some true := by
  show eqD S (dP p) (dP p) = _
  simp [eqD, pdN, dP, pdW, pdWs, SeqAt.shaped, PyData.eqv, PyData.eqvAll, PyData.canLay0, PyData.canLayAll0, PyData.depth, PyData.depthAll]
theorem is_spec {k : Nat} {S : Sto} {t b : Int} (hb : 0 < b) (ht : t.natAbs < 2 ^ 4000) (hw : b.natAbs < 2 ^ 4000) : wp (Rn (k + 2) 10 [dP (low t b), .int t, .int b] S) (fun d S' => S' = S ∧ d = .bl true) nE := by
  refine wp_run (F := rw__law_is_ratio.fn) rfl rfl ?_
  show wpS (exs _ _ _ b__law_is_ratio _ _) _ _
  have e : dP (low t b) = .tup [.int (low t b).1, .int (low t b).2] := rfl
  simp [b__law_is_ratio, rw__law_is_ratio, Rw.fn, enter, e]
  refine wp_use (lowest_spec hb ht hw) ?_
  rintro d S' ⟨rfl, rfl⟩
  simp [← e, eq_dP]
theorem same_spec {k : Nat} {S : Sto} {t b : Int} (hb : b ≠ 0) (ht : t.natAbs < 2 ^ 4000) (hw : b.natAbs < 2 ^ 4000) : wp (Rn (k + 3) 12 [dP (rat t b), .int t, .int b] S) (fun d S' => S' = S ∧ d = .bl true) nE := by
  refine wp_run (F := rw__law_same.fn) rfl rfl ?_
  show wpS (exs _ _ _ b__law_same _ _) _ _
  simp [b__law_same, rw__law_same, Rw.fn, enter, rat]
  refine cas_dec (fun h => ?_) fun h => ?_
  · simp [h]
    exact is_spec (by omega) (by omega) (by omega)
  · simp [h]
    exact is_spec (by omega) (by omega) (by omega)
def NumOk (z : Int) : Prop := -(10 ^ 13) < z ∧ z < 10 ^ 13
theorem number_spec {k : Nat} {S : Sto} {r j : Nat} {ns : List Int} (h : Rowp S r) (hr : r ≠ 0) (h0 : S[0]? = some (.frz (ns.map .int))) :
    wp (Rn (k + 2) 11 [.ref r, .ref 0, .int j] S) (fun d S' => Rowp S' r ∧ Fr r S S' ∧ ∃ x, d = .int x ∧ NumOk x) nE := by
  refine wp_run (F := rw__law_number.fn) rfl rfl ?_
  show wpS (exs _ _ _ b__law_number _ _) _ _
  simp [b__law_number, rw__law_number, Rw.fn, enter]
  refine wp_use (take_spec (i := 8) rfl (by decide) h) ?_
  rintro d S1 ⟨hr1, f1, x, rfl, hx0, hx1⟩
  have hz1 : S1[0]? = some (.frz (ns.map .int)) := (f1.get 0 (Ne.symm hr)).trans h0
  have hL := lst_frz hz1
  simp [hL]
  refine cas_dec (fun hj => ?_) fun hj => ?_
  · simp
    refine wp_use (take_spec (i := 8) rfl (by decide) hr1) ?_
    rintro d S2 ⟨hr2, f2, y, rfl, hy0, hy1⟩
    have hz2 : S2[0]? = some (.frz (ns.map .int)) := (f2.get 0 (Ne.symm hr)).trans hz1
    have hL2 := lst_frz hz2
    have hj' : j < ns.length := by omega
    have e2 : atI (ns.map D.int) (j : Int) = some (.int ns[j]) := by
      simp only [atI]
      rw [ixN_nat (by simpa using hj')]
      simp [hj']
    simp
    have fm : ns[j].fmod 1000000000000 = ns[j] % 1000000000000 := Int.fmod_eq_emod_of_nonneg _ (by decide)
    have m1 := Int.emod_nonneg ns[j] (b := 1000000000000) (by decide)
    have m2 := Int.emod_lt_of_pos ns[j] (b := 1000000000000) (by decide)
    refine cas_beq (fun _ => ?_) fun _ => ?_
    · simp [hL2, e2, fm]
      refine ⟨hr2, f1.trans f2, ?_, ?_⟩ <;> omega
    · simp
      refine ⟨hr2, f1.trans f2, ?_, ?_⟩ <;> omega
  · simp
    refine ⟨hr1, f1, ?_, ?_⟩ <;> omega
/-! ### the operations on ratios -/
structure Low (p : Int × Int) : Prop where
  pos : 0 < p.2
  a : p.1.natAbs < 2 ^ 60
  b : p.2.natAbs < 2 ^ 60
theorem Low.wa {p : Int × Int} (h : Low p) : p.1.natAbs < WID := wid64 (by have := h.a; omega)
theorem Low.wb {p : Int × Int} (h : Low p) : p.2.natAbs < WID := wid64 (by have := h.b; omega)
theorem mul60 {x y : Int} (h : x.natAbs < 2 ^ 60) (h2 : y.natAbs < 2 ^ 60) : (x * y).natAbs < 2 ^ 120 := by
  rw [Int.natAbs_mul]
  have : x.natAbs * y.natAbs < 2 ^ 60 * 2 ^ 60 := Nat.mul_lt_mul'' h h2
  rwa [← Nat.pow_add] at this
theorem widM {x y : Int} (h : x.natAbs < 2 ^ 60) (h2 : y.natAbs < 2 ^ 60) : (x * y).natAbs < WID := wid (Nat.lt_trans (mul60 h h2) (by decide))
section
variable {k : Nat} {S : Sto} {p q : Int × Int}
theorem plus_spec (hp : Low p) (hq : Low q) : wp (Rn (k + 2) 1 [dP p, dP q] S) (fun d S' => S' = S ∧ d = dP (rat (p.1 * q.2 + q.1 * p.2) (p.2 * q.2))) nE := by
  refine wp_run (F := rw_plus.fn) rfl rfl ?_
  show wpS (exs _ _ _ b_plus _ _) _ _
  simp [b_plus, rw_plus, Rw.fn, enter, dP, hp.wa, hp.wb, hq.wa, hq.wb]
  exact ratio_spec (Int.ne_of_gt (Int.mul_pos hp.pos hq.pos)) (widM hp.b hq.b)
theorem minus_spec (hp : Low p) (hq : Low q) : wp (Rn (k + 2) 2 [dP p, dP q] S) (fun d S' => S' = S ∧ d = dP (rat (p.1 * q.2 - q.1 * p.2) (p.2 * q.2))) nE := by
  refine wp_run (F := rw_minus.fn) rfl rfl ?_
  show wpS (exs _ _ _ b_minus _ _) _ _
  simp [b_minus, rw_minus, Rw.fn, enter, dP, hp.wa, hp.wb, hq.wa, hq.wb]
  exact ratio_spec (Int.ne_of_gt (Int.mul_pos hp.pos hq.pos)) (widM hp.b hq.b)
theorem times_spec (hp : Low p) (hq : Low q) : wp (Rn (k + 2) 3 [dP p, dP q] S) (fun d S' => S' = S ∧ d = dP (rat (p.1 * q.1) (p.2 * q.2))) nE := by
  refine wp_run (F := rw_times.fn) rfl rfl ?_
  show wpS (exs _ _ _ b_times _ _) _ _
  simp [b_times, rw_times, Rw.fn, enter, dP, hp.wa, hp.wb, hq.wa, hq.wb]
  exact ratio_spec (Int.ne_of_gt (Int.mul_pos hp.pos hq.pos)) (widM hp.b hq.b)
theorem over_spec (hp : Low p) (hq : Low q) (h0 : q.1 ≠ 0) : wp (Rn (k + 2) 4 [dP p, dP q] S) (fun d S' => S' = S ∧ d = dP (rat (p.1 * q.2) (p.2 * q.1))) nE := by
  refine wp_run (F := rw_over.fn) rfl rfl ?_
  show wpS (exs _ _ _ b_over _ _) _ _
  simp [b_over, rw_over, Rw.fn, enter, dP, hp.wa, hp.wb, hq.wa, hq.wb]
  exact ratio_spec (Int.mul_ne_zero (Int.ne_of_gt hp.pos) h0) (widM hp.b hq.a)
theorem below_spec (hp : Low p) (hq : Low q) : wp (Rn (k + 1) 5 [dP p, dP q] S) (fun d S' => S' = S ∧ d = .bl (decide (p.1 * q.2 < q.1 * p.2))) nE := by
  refine wp_run (F := rw_below.fn) rfl rfl ?_
  show wpS (exs _ _ _ b_below _ _) _ _
  simp [b_below, rw_below, Rw.fn, enter, dP, hp.wa, hp.wb, hq.wa, hq.wb]
end
end K1
set_option Elab.async false
set_option linter.all false
set_option maxRecDepth 100000
set_option maxHeartbeats 8000000
set_option exponentiation.threshold 8000
namespace K1
open PySem L2 Mx
def Sm40 (p : Int × Int) : Prop := 0 < p.2 ∧ p.2 ≤ 40 ∧ p.1.natAbs ≤ 100
theorem lcm_small {a b : Int} (ha : 0 < a) (hb : 0 < b) : 0 < (Int.lcm a b : Int) ∧ (Int.lcm a b : Int) ≤ a * b ∧ a ∣ (Int.lcm a b : Int) ∧ b ∣ (Int.lcm a b : Int) := by
  have h1 := Int.dvd_lcm_left a b
  have h2 := Int.dvd_lcm_right a b
  have h0 : Int.lcm a b ≠ 0 := Int.lcm_ne_zero (Int.ne_of_gt ha) (Int.ne_of_gt hb)
  refine ⟨by omega, ?_, h1, h2⟩
  have : Int.lcm a b ≤ (a * b).natAbs := by
    have d : Int.lcm a b ∣ (a * b).natAbs := by
      rw [Int.natAbs_mul]
      exact Nat.lcm_dvd_mul _ _
    exact Nat.le_of_dvd (Int.natAbs_pos.mpr (Int.mul_ne_zero (Int.ne_of_gt ha) (Int.ne_of_gt hb))) d
  have h3 := Int.mul_pos ha hb
  omega
theorem mut_app {S : Sto} {l : List D} : mutOf (S ++ [Ob.lst l]) S.length = some l := by simp [mutOf]
theorem lst_old {S : Sto} {o : Ob} {r : Nat} (h : r < S.length) : lstOf (S ++ [o]) r = lstOf S r := by
  simp [lstOf, List.getElem?_append_left h]
theorem lst_old2 {S : Sto} {o o' : Ob} {r : Nat} (h : r < S.length) : lstOf ((S ++ [o]).set S.length o') r = lstOf S r := by
  unfold lstOf
  rw [List.getElem?_set_ne (by omega), List.getElem?_append_left h]
theorem pow40 : ∀ {i : Nat}, i ≤ 8 → (40 : Int) ^ i ≤ 40 ^ 8
  | 0, _ => by decide
  | 1, _ => by decide
  | 2, _ => by decide
  | 3, _ => by decide
  | 4, _ => by decide
  | 5, _ => by decide
  | 6, _ => by decide
  | 7, _ => by decide
  | 8, _ => by decide
  | i + 9, h => by omega
/-- ahead of turn i of total's loop -/
structure TI (r : Nat) (ps : List (Int × Int)) (S : Sto) (i : Nat) (ρ : Rho) (S1 : Sto) : Prop where
  st : S1 = S
  ex : ∃ (L : Int) (x2 x3 : Option D), ρ = [some (.ref r), some (.int L), x2, x3, none] ∧ 0 < L ∧ L ≤ 40 ^ i ∧ ∀ p ∈ ps.take i, p.2 ∣ L
/-- ahead of turn i of its comprehension -/
structure TA (r : Nat) (ps : List (Int × Int)) (S : Sto) (L : Int) (i : Nat) (S1 : Sto) : Prop where
  old : lstOf S1 r = lstOf S r
  acc : S1[S.length]? = some (.lst (((ps.take i).map fun p => p.1 * (L / p.2)).map D.int))
theorem TA.push {r : Nat} {ps : List (Int × Int)} {S : Sto} {L : Int} {i : Nat} {S1 : Sto} (h : TA r ps S L i S1) (hr : r < S.length) {p : Int × Int} (hi : ps[i]? = some p) (hl : ps.length ≤ 8) :
    ∃ acc, mutOf S1 S.length = some acc ∧ acc.length < LIM ∧ TA r ps S L (i + 1) (S1.set S.length (.lst (acc ++ [.int (p.1 * (L / p.2))]))) := by
  refine ⟨_, mut_lst h.acc, ?_, ?_, ?_⟩
  · simp [LIM]
    omega
  · rw [← h.old]
    unfold lstOf
    rw [List.getElem?_set_ne (by omega)]
  · rw [List.getElem?_set_self (lt_of_get h.acc), List.take_add_one, hi]
    simp
theorem intL_ints : ∀ l : List Int, intL (l.map D.int) = some l
  | [] => rfl
  | x :: xs => by
    rw [List.map_cons]
    unfold intL
    rw [intL_ints xs]
    rfl
theorem total_spec {k : Nat} {S : Sto} {r : Nat} {ps : List (Int × Int)} (hS : S[r]? = some (.lst (ps.map dP))) (hl : ps.length ≤ 8) (hp : ∀ p ∈ ps, Sm40 p) :
    wp (Rn (k + 2) 6 [.ref r] S) (fun d _ => ∃ L : Int, 0 < L ∧ L.natAbs < 2 ^ 60 ∧ (∀ p ∈ ps, p.2 ∣ L) ∧ d = dP (rat ((ps.map fun p => p.1 * (L / p.2)).sum) L)) nE := by
  refine wp_run (F := rw_total.fn) rfl rfl ?_
  show wpS (exs _ _ _ b_total _ _) _ _
  have hr := lt_of_get hS
  have hL := lst_lst hS
  simp [b_total, rw_total, Rw.fn, enter, hL]
  refine forL_live (l := ps.map dP) (TI r ps S) (fun i ρ S h => by rw [h.st]; exact hL) ?_ ?_ _ 0 _ _ (by simp [lenI, hL]) (by omega) ⟨rfl, 1, none, none, rfl, by decide, by decide, by simp⟩
  · rintro i ρ S1 d hd ⟨rfl, L, x2, x3, rfl, h0, h1, h2⟩
    rw [List.getElem?_map] at hd
    cases q : ps[i]? with
    | none => rw [q] at hd; cases hd
    | some p =>
      rw [q] at hd
      cases hd
      have hi := (List.getElem?_eq_some_iff.mp q).1
      obtain ⟨p1, p2, p3⟩ := hp p (List.mem_of_getElem? q)
      have hb : (40 : Int) ^ i ≤ 40 ^ 8 := pow40 (by omega)
      obtain ⟨c1, c2, c3, c4⟩ := lcm_small h0 p1
      refine ⟨_, rfl, ?_⟩
      simp
      refine ⟨⟨by omega, by omega⟩, rfl, _, _, _, rfl, c1, ?_, ?_⟩
      · refine Int.le_trans c2 ?_
        rw [Int.pow_succ]
        exact Int.mul_le_mul h1 p2 (by omega) (by omega)
      · intro p' hp'
        rw [List.take_add_one, q, List.mem_append] at hp'
        rcases hp' with z | z
        · exact Int.dvd_trans (h2 p' z) c3
        · simp at z
          subst z
          exact c4
  · rintro ρ S1 ⟨rfl, L, x2, x3, rfl, h0, h1, h2⟩
    have hb : (40 : Int) ^ (ps.map dP).length ≤ 40 ^ 8 := pow40 (by simpa using hl)
    rw [List.length_map, List.take_of_length_le (Nat.le_refl _)] at h2
    simp [hL, wipeD]
    refine lcL_live (l := ps.map dP) (TA r ps S1 L) (fun i S h => h.old.trans hL) ?_ ?_ _ 0 _ (by simp [lenI, hL]) (by omega) ⟨?_, ?_⟩
    · intro i S2 d hd A
      rw [List.getElem?_map] at hd
      cases q : ps[i]? with
      | none => rw [q] at hd; cases hd
      | some p =>
        rw [q] at hd
        cases hd
        obtain ⟨p1, p2, p3⟩ := hp p (List.mem_of_getElem? q)
        refine ⟨_, rfl, ?_⟩
        have hq : 0 ≤ L / p.2 ∧ L / p.2 ≤ L := ⟨Int.ediv_nonneg (by omega) (by omega), Int.ediv_le_self _ (by omega)⟩
        have fd : L.fdiv p.2 = L / p.2 := Int.fdiv_eq_ediv_of_nonneg _ (by omega)
        simp
        rw [fd]
        exact ⟨⟨by omega, wid64 (by omega)⟩, ⟨wid64 (by omega), wid64 (by omega)⟩, A.push hr q hl⟩
    · intro S2 A
      have e := A.acc
      rw [List.length_map, List.take_of_length_le (Nat.le_refl _)] at e
      simp [-List.map_map, lst_lst e, intL_ints]
      refine wp_use (ratio_spec (Int.ne_of_gt h0) (wid64 (by omega))) ?_
      rintro d S3 ⟨rfl, rfl⟩
      exact ⟨L, h0, by omega, fun a b h => h2 (a, b) h, rfl⟩
    · rw [lst_old hr]
    · simp
end K1
set_option Elab.async false
set_option linter.all false
set_option maxRecDepth 100000
set_option maxHeartbeats 8000000
set_option exponentiation.threshold 8000
namespace K1
open PySem L2 Mx
theorem num60 {z : Int} (h : NumOk z) : z.natAbs < 2 ^ 60 := by
  have h1 := h.1
  have h2 := h.2
  omega
theorem NumOk.low {t b : Int} (ht : NumOk t) (hb : NumOk b) (h0 : b ≠ 0) : Low (rat t b) := by
  have h1 := rat_small (t := t) h0
  have h2 := num60 ht
  have h3 := num60 hb
  exact ⟨rat_pos h0, Nat.lt_of_le_of_lt h1.1 h2, Nat.lt_of_le_of_lt h1.2 h3⟩
theorem ints_of {P : Int → Prop} : ∀ {l : List D}, (∀ d ∈ l, ∃ z, d = .int z ∧ P z) → ∃ zs : List Int, l = zs.map D.int ∧ ∀ z ∈ zs, P z
  | [], _ => ⟨[], rfl, by simp⟩
  | d :: l, h => by
    obtain ⟨z, rfl, hz⟩ := h d List.mem_cons_self
    obtain ⟨zs, rfl, hzs⟩ := ints_of (l := l) fun d' h' => h d' (List.mem_cons_of_mem _ h')
    refine ⟨z :: zs, rfl, fun y hy => ?_⟩
    rcases List.mem_cons.mp hy with rfl | q
    · exact hz
    · exact hzs y q
theorem sum_cross {W L : Int} : ∀ (zs : List (Int × Int)), (∀ p ∈ zs, p.2 ≠ 0 ∧ p.2 ∣ W ∧ (rat p.1 p.2).2 ∣ L) →
    ((zs.map fun p => rat p.1 p.2).map fun p => p.1 * (L / p.2)).sum * W = (zs.map fun p => p.1 * (W / p.2)).sum * L
  | [], _ => by simp
  | p :: zs, h => by
    have ih := sum_cross zs fun q hq => h q (List.mem_cons_of_mem _ hq)
    obtain ⟨p0, ⟨m, hm⟩, ⟨l, hl⟩⟩ := h p List.mem_cons_self
    have q0 := rat_pos (t := p.1) p0
    have e := rat_cross (t := p.1) p0
    rw [List.map_cons, List.map_cons, List.map_cons, List.sum_cons, List.sum_cons, Int.add_mul, Int.add_mul, ih]
    have e1 : L / (rat p.1 p.2).2 = l := by rw [hl]; exact Int.mul_ediv_cancel_left _ (Int.ne_of_gt q0)
    have e2 : W / p.2 = m := by rw [hm]; exact Int.mul_ediv_cancel_left _ p0
    rw [e1, e2]
    congr 1
    grind
/-- ahead of turn i of the product -/
structure PI (S3 : Sto) (bs : List Int) (ρ0 : Int → Option D → Rho) (i : Nat) (ρ : Rho) (S : Sto) : Prop where
  st : S = S3
  ex : ∃ (W : Int) (x : Option D), ρ = ρ0 W x ∧ 0 < W ∧ W ≤ 40 ^ i ∧ ∀ b ∈ bs.take i, b ∣ W
theorem at_ints {l : List Int} {i : Nat} (h : i < l.length) : atI (l.map D.int) (i : Int) = some (.int l[i]) := by
  simp only [atI]
  rw [ixN_nat (by simpa using h)]
  simp [h]
theorem sum_small {M : Nat} : ∀ (l : List Int), (∀ z ∈ l, z.natAbs ≤ M) → l.sum.natAbs ≤ l.length * M
  | [], _ => by simp
  | z :: l, h => by
    have h1 := h z List.mem_cons_self
    have h2 := sum_small l fun y hy => h y (List.mem_cons_of_mem _ hy)
    rw [List.sum_cons, List.length_cons, Nat.succ_mul]
    have := Int.natAbs_add_le z l.sum
    omega
theorem law_end {k : Nat} {S : Sto} {ts bs : List Int} {W : Int} (hts : ∀ z ∈ ts, -20 ≤ z ∧ z < 39) (hbs : ∀ z ∈ bs, 0 < z ∧ z ≤ 40) (hl : bs.length = ts.length) (h8 : ts.length ≤ 8)
    (e4 : S[4]? = some (.lst (ts.map D.int))) (e5 : S[5]? = some (.lst (bs.map D.int))) (hS : S.length = 6) (w0 : 0 < W) (w1 : W ≤ 40 ^ 8) (w2 : ∀ b ∈ bs, b ∣ W) {x0 x1 x2 x3 x4 x5 x6 x7 x8 x : Option D} :
    wpS (exs (run Fs [] 20002 (k + 3)) [] 20002 b_law_18 [x0, x1, x2, x3, x4, x5, x6, x7, x8, some (.ref 4), some (.ref 5), some (.int W), x, none, none, none] S) (lvQ fun d _ => d = .bl true) nE := by
  have zl : (ts.zip bs).length = ts.length := by rw [List.length_zip]; omega
  have zg : ∀ (i : Nat) (p : Int × Int), (ts.zip bs)[i]? = some p → ∃ (h1 : i < ts.length) (h2 : i < bs.length), p = (ts[i], bs[i]) := by
    intro i p hp
    have hi : i < (ts.zip bs).length := (List.getElem?_eq_some_iff.mp hp).1
    have h1 : i < ts.length := by omega
    have h2 : i < bs.length := by omega
    refine ⟨h1, h2, ?_⟩
    rw [List.getElem?_eq_getElem hi] at hp
    rw [← Option.some.inj hp]
    simp
  have zm : ∀ p ∈ ts.zip bs, (-20 ≤ p.1 ∧ p.1 < 39) ∧ (0 < p.2 ∧ p.2 ≤ 40) ∧ p.2 ∣ W := by
    intro p hp
    obtain ⟨i, hi⟩ := List.getElem?_of_mem hp
    obtain ⟨h1, h2, rfl⟩ := zg i p hi
    exact ⟨hts _ (List.getElem_mem h1), hbs _ (List.getElem_mem h2), w2 _ (List.getElem_mem h2)⟩
  have L4 := lst_lst e4
  have L5 := lst_lst e5
  simp [b_law_18, L4, L5, wipeD]
  refine ⟨okR_of (by omega) (by omega), ?_⟩
  refine lcL_pure (xs := ts.zip bs) (f := fun p => D.int (p.1 * (W / p.2))) rfl (by rw [rng_len, zl]) (by rw [zl]; simp [LIM]; omega) ?_ ?_ (Nat.le_refl _)
  · intro i d p hd hp
    obtain ⟨hi, rfl⟩ := rng_get hd
    obtain ⟨h1, h2, rfl⟩ := zg i p hp
    have hb := hbs _ (List.getElem_mem h2)
    have ht := hts _ (List.getElem_mem h1)
    have q1 : 0 ≤ W / bs[i] := Int.ediv_nonneg (by omega) (by omega)
    have q2 : W / bs[i] ≤ W := Int.ediv_le_self _ (by omega)
    have fd : W.fdiv bs[i] = W / bs[i] := Int.fdiv_eq_ediv_of_nonneg _ (by omega)
    refine ⟨_, rfl, fun o => ?_⟩
    have A4 : lstOf (S ++ [Ob.lst o]) 4 = some (ts.map D.int) := by rw [lst_app (by omega), L4]
    have A5 : lstOf (S ++ [Ob.lst o]) 5 = some (bs.map D.int) := by rw [lst_app (by omega), L5]
    simp [A4, A5, at_ints h1, at_ints h2, fd]
    refine ⟨⟨by omega, wid64 (by omega)⟩, ⟨wid64 (by omega), wid64 (by omega)⟩⟩
  have A6 : lstOf (S ++ [Ob.lst ((ts.zip bs).map fun p => D.int (p.1 * (W / p.2)))]) S.length = some (((ts.zip bs).map fun p => p.1 * (W / p.2)).map D.int) := by
    rw [lst_app2, List.map_map]
    rfl
  have A4 : lstOf (S ++ [Ob.lst ((ts.zip bs).map fun p => D.int (p.1 * (W / p.2)))]) 4 = some (ts.map D.int) := by rw [lst_app (by omega), L4]
  have A5 : lstOf (S ++ [Ob.lst ((ts.zip bs).map fun p => D.int (p.1 * (W / p.2)))]) 5 = some (bs.map D.int) := by rw [lst_app (by omega), L5]
  have L7 : (S ++ [Ob.lst ((ts.zip bs).map fun p => D.int (p.1 * (W / p.2)))]).length = 7 := by simp [hS]
  generalize S ++ [Ob.lst ((ts.zip bs).map fun p => D.int (p.1 * (W / p.2)))] = S7 at *
  rw [hS] at A6
  simp [-List.map_map, b_law_19, hS, A6, A4, intL_ints, wipeD]
  refine ⟨okR_of (by omega) (by omega), ?_⟩
  rw [L7]
  refine lcL_pure (xs := ts.zip bs) (f := fun p => dP (rat p.1 p.2)) L7 (by rw [rng_len, zl]) (by rw [zl]; simp [LIM]; omega) ?_ ?_ (Nat.le_refl _)
  · intro i d p hd hp
    obtain ⟨hi, rfl⟩ := rng_get hd
    obtain ⟨h1, h2, rfl⟩ := zg i p hp
    have hb := hbs _ (List.getElem_mem h2)
    refine ⟨_, rfl, fun o => ?_⟩
    have B4 : lstOf (S7 ++ [Ob.lst o]) 4 = some (ts.map D.int) := by rw [lst_app (by omega), A4]
    have B5 : lstOf (S7 ++ [Ob.lst o]) 5 = some (bs.map D.int) := by rw [lst_app (by omega), A5]
    simp [B4, B5, at_ints h1, at_ints h2]
    exact ratio_spec (by omega) (wid64 (by omega))
  have ps : ((ts.zip bs).map fun p => dP (rat p.1 p.2)) = ((ts.zip bs).map fun p => rat p.1 p.2).map dP := by
    rw [List.map_map]
    rfl
  rw [ps]
  simp only [evs_nil]
  refine wp_use (total_spec (ps := (ts.zip bs).map fun p => rat p.1 p.2) ?_ (by rw [List.length_map, zl]; exact h8) ?_) ?_
  · rw [← L7]
    simp
  · intro q hq
    (obtain ⟨p, hp, rfl⟩ := List.mem_map.mp hq)
    obtain ⟨h1, h2, h3⟩ := zm p hp
    have p0 : p.2 ≠ 0 := by omega
    have q1 := rat_pos (t := p.1) p0
    have q2 := rat_small (t := p.1) p0
    exact ⟨q1, by omega, by omega⟩
  rintro _ S8 ⟨L, l0, l1, l2, rfl⟩
  simp [-List.map_map]
  have cr := sum_cross (W := W) (L := L) (ts.zip bs) fun p hp => ⟨by have := (zm p hp).2.1; omega, (zm p hp).2.2, l2 _ (List.mem_map.mpr ⟨p, hp, rfl⟩)⟩
  rw [rat_uniq (Int.ne_of_gt l0) (Int.ne_of_gt w0) cr, rat_low w0]
  refine wp_use (is_spec w0 ?_ ?_) ?_
  · have hs := sum_small (M := 2 ^ 70) ((ts.zip bs).map fun p => p.1 * (W / p.2)) fun z hz => by
      obtain ⟨p, hp, rfl⟩ := List.mem_map.mp hz
      obtain ⟨h1, h2, h3⟩ := zm p hp
      have q1 : 0 ≤ W / p.2 := Int.ediv_nonneg (by omega) (by omega)
      have q2 : W / p.2 ≤ W := Int.ediv_le_self _ (by omega)
      rw [Int.natAbs_mul]
      have := Nat.mul_le_mul (show p.1.natAbs ≤ 40 by omega) (show (W / p.2).natAbs ≤ 2 ^ 64 by omega)
      omega
    rw [List.length_map, zl] at hs
    have h9 : ts.length * 2 ^ 70 ≤ 8 * 2 ^ 70 := Nat.mul_le_mul_right _ h8
    exact Nat.lt_trans (Nat.lt_of_le_of_lt (Nat.le_trans hs h9) (show 8 * 2 ^ 70 < 2 ^ 80 by decide)) (Nat.pow_lt_pow_right (by decide) (by decide))
  · exact Nat.lt_trans (show W.natAbs < 2 ^ 64 by omega) (Nat.pow_lt_pow_right (by decide) (by decide))
  · rintro _ S9 ⟨rfl, rfl⟩
    rfl
theorem law_tail {k : Nat} {S : Sto} (hR : Rowp S 1) (hL : S.length = 4) {x0 x2 x3 x4 x5 x6 x7 x8 : Option D} :
    wpS (exs (run Fs [] 20002 (k + 3)) [] 20002 b_law_14 [x0, some (.ref 1), x2, x3, x4, x5, x6, x7, x8, none, none, none, none, none, none, none] S) (lvQ fun d _ => d = .bl true) nE := by
  simp [b_law_14]
  refine wp_use (take_spec (i := 8) rfl (by decide) hR) ?_
  rintro _ S1 ⟨R1, F1, n, rfl, n0, n9⟩
  have L1 := F1.len.trans hL
  simp [wipeD]
  refine ⟨okR_of (by omega) (by omega), ?_⟩
  rw [L1]
  refine lcL_items (CI S1 4 fun d => ∃ z : Int, d = .int z ∧ -20 ≤ z ∧ z < 39) ?_ ?_ _ 0 _ (by omega) (by omega) (CI.start L1 (by decide) R1)
  · intro i S2 d hd A
    obtain ⟨hi, rfl⟩ := rng_get hd
    refine ⟨_, rfl, ?_⟩
    simp
    refine wp_use (take_spec (i := 8) rfl (by decide) A.row) ?_
    rintro _ S3 ⟨R3, F3, z, rfl, z0, z1⟩
    simp
    exact A.push (by decide) (by omega) F3 R3 ⟨_, rfl, by omega, by omega⟩
  intro S2 A2
  obtain ⟨l, e2, l2, h2⟩ := A2.acc
  obtain ⟨ts, rfl, hts⟩ := ints_of h2
  rw [rng_len] at l2
  have L2 := A2.len
  have R2 := A2.row
  clear A2 h2
  simp [b_law_15, lst_lst e2, wipeD]
  rw [L2]
  refine lcL_live (CI S2 5 fun d => ∃ z : Int, d = .int z ∧ 0 < z ∧ z ≤ 40) (l := ts.map D.int) ?_ ?_ ?_ _ 0 _ ?_ (by omega) (CI.start L2 (by decide) R2)
  · intro i S A
    exact lst_lst ((A.old 4 (by decide) (by decide)).trans e2)
  · intro i S2 d hd A
    have hi : i < (ts.map D.int).length := (List.getElem?_eq_some_iff.mp hd).1
    refine ⟨_, rfl, ?_⟩
    simp
    refine wp_use (take_spec (i := 8) rfl (by decide) A.row) ?_
    rintro _ S3 ⟨R3, F3, z, rfl, z0, z1⟩
    simp
    exact A.push (by decide) (by simp at l2; simp at hi; omega) F3 R3 ⟨_, rfl, by omega, by omega⟩
  rotate_left
  · simp [lenI, lst_lst e2]
  intro S3 A3
  obtain ⟨l, e3, l3, h3⟩ := A3.acc
  obtain ⟨bs, rfl, hbs⟩ := ints_of h3
  have e32 := (A3.old 4 (by decide) (by decide)).trans e2
  have L3 := A3.len
  simp at l2 l3
  clear A3 h3
  simp [b_law_16, b_law_17, lst_lst e3]
  refine forL_live (l := bs.map D.int) (PI S3 bs fun W x => [x0, some (.ref 1), x2, x3, x4, x5, x6, x7, x8, some (.ref 4), some (.ref 5), some (.int W), x, none, none, none]) ?_ ?_ ?_ _ 0 _ _ ?_ (by omega) ⟨rfl, 1, none, rfl, by decide, by decide, by simp⟩
  · rintro i ρ S ⟨rfl, _⟩
    exact lst_lst e3
  · rintro i ρ S d hd ⟨rfl, W, x, rfl, w0, w1, w2⟩
    obtain ⟨b, hb, rfl⟩ := ints_get hd
    have hi := (List.getElem?_eq_some_iff.mp hb).1
    obtain ⟨b0, b1⟩ := hbs b (List.mem_of_getElem? hb)
    have hp : (40 : Int) ^ i ≤ 40 ^ 8 := pow40 (by omega)
    refine ⟨_, rfl, ?_⟩
    simp
    refine ⟨⟨wid64 (by omega), wid64 (by omega)⟩, rfl, W * b, _, rfl, Int.mul_pos w0 b0, ?_, ?_⟩
    · rw [Int.pow_succ]
      exact Int.mul_le_mul w1 b1 (by omega) (by omega)
    · intro b' hb'
      rw [List.take_add_one, hb, List.mem_append] at hb'
      rcases hb' with z | z
      · exact Int.dvd_trans (w2 b' z) (Int.dvd_mul_right _ _)
      · simp at z
        subst z
        exact Int.dvd_mul_left _ _
  rotate_left
  · simp [lenI, lst_lst e3]
  rintro ρ S ⟨rfl, W, x, rfl, w0, w1, w2⟩
  have hp : (40 : Int) ^ (bs.map D.int).length ≤ 40 ^ 8 := pow40 (by simp; omega)
  rw [List.length_map, List.take_of_length_le (Nat.le_refl _)] at w2
  refine law_end (k := k) hts hbs ?_ (by omega) e32 e3 L3 w0 (Int.le_trans w1 hp) w2
  omega
theorem law_spec {k : Nat} {ns : List Int} (hn : ns.length ≤ 63) : wp (Rn (k + 4) 13 [.ref 0] [.frz (ns.map .int)]) (fun d _ => d = .bl true) nE := by
  refine wp_run (F := rw_law.fn) rfl rfl ?_
  show wpS (exs _ _ _ b_law _ _) _ _
  simp [b_law, rw_law, Rw.fn, enter]
  refine wp_use (stream_spec (i := 7) rfl hn) ?_
  rintro d S1 ⟨rfl, R1, Z1, L1⟩
  simp [b_law_1, b_law_2, b_law_3, b_law_4, b_law_5]
  refine wp_use (number_spec (j := 0) R1 (by decide) Z1) ?_
  rintro d S2 ⟨R2, F2, a, rfl, ha⟩
  have Z2 := (F2.get 0 (by decide)).trans Z1
  have L2 := F2.len.trans L1
  simp [b_law_1, b_law_2, b_law_3, b_law_4, b_law_5]
  refine wp_use (number_spec (j := 1) R2 (by decide) Z2) ?_
  rintro d S3 ⟨R3, F3, c, rfl, hc⟩
  have Z3 := (F3.get 0 (by decide)).trans Z2
  have L3 := F3.len.trans L2
  simp [b_law_1, b_law_2, b_law_3, b_law_4, b_law_5]
  refine wp_use (number_spec (j := 2) R3 (by decide) Z3) ?_
  rintro d S4 ⟨R4, F4, b, rfl, hb⟩
  have Z4 := (F4.get 0 (by decide)).trans Z3
  have L4 := F4.len.trans L3
  simp [b_law_1, b_law_2, b_law_3, b_law_4, b_law_5]
  refine wp_use (number_spec (j := 3) R4 (by decide) Z4) ?_
  rintro d S5 ⟨R5, F5, d, rfl, hd⟩
  have Z5 := (F5.get 0 (by decide)).trans Z4
  have L5 := F5.len.trans L4
  simp [b_law_1, b_law_2, b_law_3, b_law_4, b_law_5]
  suffices T : ∀ b : Int, NumOk b → b ≠ 0 → wpS (exs (run Fs [] 20002 (k + 3)) [] 20002 b_law_6 [some (.ref 0), some (.ref 1), some (.int a), some (.int c), some (.int b), some (.int d), none, none, none, none, none, none, none, none, none, none] S5) (lvQ fun d _ => d = .bl true) nE by
    refine cas_beq (fun h => ?_) fun h => ?_
    · simp only [exs_cons, ex_asg, wp_cst, vfin_f, g_nm, opt_some, aft_nx, exs_nil]
      exact T 7 ⟨by decide, by decide⟩ (by decide)
    · simp only [aft_nx, exs_nil]
      exact T b hb h
  clear hb b
  intro b hb b0
  simp [b_law_6]
  suffices T : ∀ d : Int, NumOk d → d ≠ 0 → wpS (exs (run Fs [] 20002 (k + 3)) [] 20002 b_law_7 [some (.ref 0), some (.ref 1), some (.int a), some (.int c), some (.int b), some (.int d), none, none, none, none, none, none, none, none, none, none] S5) (lvQ fun d _ => d = .bl true) nE by
    refine cas_beq (fun h => ?_) fun h => ?_
    · simp only [exs_cons, ex_asg, wp_bin, wp_cst, vfin_f, o_sub, g_nm, opt_some, aft_nx, exs_nil]
      exact T (-3) ⟨by decide, by decide⟩ (by decide)
    · simp only [aft_nx, exs_nil]
      exact T d hd h
  clear hd d
  intro d hd d0
  have Pa := num60 ha
  have Pb := num60 hb
  have Pc := num60 hc
  have Pd := num60 hd
  simp [b_law_7]
  refine wp_use (ratio_spec b0 (wid64 (by omega))) ?_
  rintro _ S5 ⟨rfl, rfl⟩
  simp [b_law_8, b_law_9, b_law_10, b_law_11]
  refine wp_use (ratio_spec d0 (wid64 (by omega))) ?_
  rintro _ S5 ⟨rfl, rfl⟩
  have H1 := NumOk.low ha hb b0
  have H2 := NumOk.low hc hd d0
  have W := fun {z : Int} (h : z.natAbs < 2 ^ 60) => wid (z := z) (Nat.lt_trans h (by decide))
  have big : ∀ {z : Int}, z.natAbs < 2 ^ 130 → z.natAbs < 2 ^ 4000 := fun h => Nat.lt_trans h (Nat.pow_lt_pow_right (by decide) (by decide))
  have big6 : ∀ {z : Int}, z.natAbs < 2 ^ 60 → z.natAbs < 2 ^ 4000 := fun h => Nat.lt_trans h (Nat.pow_lt_pow_right (by decide) (by decide))
  have bigM : ∀ {x y : Int}, x.natAbs < 2 ^ 60 → y.natAbs < 2 ^ 60 → (x * y).natAbs < 2 ^ 4000 := fun h h2 => Nat.lt_trans (mul60 h h2) (Nat.pow_lt_pow_right (by decide) (by decide))
  simp [b_law_8, b_law_9, b_law_10, b_law_11]
  refine wp_use (same_spec b0 (big6 Pa) (big6 Pb)) ?_
  rintro _ S5 ⟨rfl, rfl⟩
  simp [b_law_8, b_law_9, b_law_10, b_law_11]
  refine wp_use (same_spec d0 (big6 Pc) (big6 Pd)) ?_
  rintro _ S5 ⟨rfl, rfl⟩
  simp [b_law_8, b_law_9, b_law_10, b_law_11]
  refine wp_use (plus_spec H1 H2) ?_
  rintro _ S5 ⟨rfl, rfl⟩
  rw [plus_rat b0 d0]
  simp [b_law_10, b_law_11, W Pa, W Pb, W Pc, W Pd]
  refine wp_use (same_spec (Int.mul_ne_zero b0 d0) (big ?_) (bigM Pb Pd)) ?_
  · have h1 := mul60 Pa Pd
    have h2 := mul60 Pc Pb
    omega
  rintro _ S5 ⟨rfl, rfl⟩
  simp [b_law_8, b_law_9, b_law_10, b_law_11]
  refine wp_use (minus_spec H1 H2) ?_
  rintro _ S5 ⟨rfl, rfl⟩
  rw [minus_rat b0 d0]
  simp [b_law_10, b_law_11, W Pa, W Pb, W Pc, W Pd]
  refine wp_use (same_spec (Int.mul_ne_zero b0 d0) (big ?_) (bigM Pb Pd)) ?_
  · have h1 := mul60 Pa Pd
    have h2 := mul60 Pc Pb
    omega
  rintro _ S5 ⟨rfl, rfl⟩
  simp [b_law_8, b_law_9, b_law_10, b_law_11]
  refine wp_use (times_spec H1 H2) ?_
  rintro _ S5 ⟨rfl, rfl⟩
  rw [times_rat b0 d0]
  simp [b_law_10, b_law_11, W Pa, W Pb, W Pc, W Pd]
  refine wp_use (same_spec (Int.mul_ne_zero b0 d0) (bigM Pa Pc) (bigM Pb Pd)) ?_
  rintro _ S5 ⟨rfl, rfl⟩
  simp [b_law_8, b_law_9, b_law_10, b_law_11]
  suffices T : wpS (exs (run Fs [] 20002 (k + 3)) [] 20002 b_law_12 [some (.ref 0), some (.ref 1), some (.int a), some (.int c), some (.int b), some (.int d), some (dP (rat a b)), some (dP (rat c d)), none, none, none, none, none, none, none, none] S5) (lvQ fun d _ => d = .bl true) nE by
    refine cas_bne (fun h => ?_) fun c0 => ?_
    · simp only [cas_false, aft_nx, exs_nil]
      exact T
    · simp
      refine wp_use (over_spec H1 H2 (top_zero c0 d0)) ?_
      rintro _ S5 ⟨rfl, rfl⟩
      rw [over_rat b0 d0 c0]
      simp [W Pa, W Pb, W Pc, W Pd]
      refine wp_use (same_spec (Int.mul_ne_zero b0 c0) (bigM Pa Pd) (bigM Pb Pc)) ?_
      rintro _ S5 ⟨rfl, rfl⟩
      simp only [vfin_t, t_bl, opt_some, nt_bl, Bool.not_true, cas_false, aft_nx, exs_nil]
      exact T
  simp [b_law_12]
  refine wp_use (below_spec H1 H2) ?_
  rintro _ S5 ⟨rfl, rfl⟩
  have Q1 := H1.wa
  have Q2 := H1.wb
  have Q3 := H2.wa
  have Q4 := H2.wb
  have T := law_tail (k := k) R5 L5 (x0 := some (.ref 0)) (x2 := some (.int a)) (x3 := some (.int c)) (x4 := some (.int b)) (x5 := some (.int d)) (x6 := some (dP (rat a b))) (x7 := some (dP (rat c d)))
    (x8 := some (.bl (decide ((rat a b).1 * (rat c d).2 < (rat c d).1 * (rat a b).2))))
  simp only [dP] at T
  simp [b_law_13, dP, Q1, Q2, Q3, Q4]
  exact T
end K1
set_option Elab.async false
set_option linter.all false
set_option maxRecDepth 100000
set_option maxHeartbeats 8000000
namespace K1
open PySem PySem.Spec PyProof.Rows L2 Mx
theorem gr {K : PySem.W.Frag} {mg : Str → Option Value} (A0 : At K mg rw_ratio) (A1 : At K mg rw_plus) (A2 : At K mg rw_minus) (A3 : At K mg rw_times) (A4 : At K mg rw_over) (A5 : At K mg rw_below) (A6 : At K mg rw_total) (A7 : At K mg rw__law_stream) (A8 : At K mg rw__law_take) (A9 : At K mg rw__law_lowest) (A10 : At K mg rw__law_is_ratio) (A11 : At K mg rw__law_number) (A12 : At K mg rw__law_same) (A13 : At K mg rw_law)
    (z0 : mg "len" = none) (z1 : mg "abs" = none) (z2 : mg "int" = none) (z3 : mg "range" = none) (z4 : mg "sum" = none) (z5 : mg "isinstance" = none) (z6 : mg "bool" = none) (z7 : mg "tuple" = none)
    (g1 : mg "gcd" = some (.builtin "math.gcd")) (g2 : mg "lcm" = some (.builtin "math.lcm")) : Gr T K mg [] rows := by
  refine ⟨rfl, fun r hr => ?_, fun r hr => ?_, fun x hx => ?_, fun x hx b hb => ?_, gls_nil⟩
  · simp only [rows, List.mem_cons, List.not_mem_nil, or_false] at hr
    rcases hr with rfl | rfl | rfl | rfl | rfl | rfl | rfl | rfl | rfl | rfl | rfl | rfl | rfl | rfl
    · exact ok_ratio
    · exact ok_plus
    · exact ok_minus
    · exact ok_times
    · exact ok_over
    · exact ok_below
    · exact ok_total
    · exact ok__law_stream
    · exact ok__law_take
    · exact ok__law_lowest
    · exact ok__law_is_ratio
    · exact ok__law_number
    · exact ok__law_same
    · exact ok_law
  · simp only [rows, List.mem_cons, List.not_mem_nil, or_false] at hr
    rcases hr with rfl | rfl | rfl | rfl | rfl | rfl | rfl | rfl | rfl | rfl | rfl | rfl | rfl | rfl
    · exact A0
    · exact A1
    · exact A2
    · exact A3
    · exact A4
    · exact A5
    · exact A6
    · exact A7
    · exact A8
    · exact A9
    · exact A10
    · exact A11
    · exact A12
    · exact A13
  · simp only [T, List.contains_iff_mem, List.mem_cons, List.not_mem_nil, or_false] at hx
    rcases hx with rfl | rfl | rfl | rfl | rfl | rfl | rfl | rfl
    · exact z0
    · exact z1
    · exact z2
    · exact z3
    · exact z4
    · exact z5
    · exact z6
    · exact z7
  · simp only [T, List.contains_iff_mem, List.mem_cons, List.not_mem_nil, or_false] at hx
    rcases hx with rfl | rfl
    · cases hb
      exact g1
    · cases hb
      exact g2
end K1
open PyProof.Rows PySem PySem.W
set_option maxHeartbeats 0 in
theorem PySem.Challenge.cw_chance_k01_ratios_holds : PySem.Challenge.rw_chance_k01_ratios.Holds := by
  w_on; o_law; k_head; (case hw => w_witness2)
  k_fill
  refine Mx.law_end (l := PySem.Challenge.rw_chance_k01_ratios) (n := 63) (k := 10) (wt := 20002) (i := 13) (T := K1.T) (G := []) (rows := K1.rows) (r := K1.rw_law) (x := "script") rfl (by decide) rfl ⟨rfl, by decide, by decide⟩ rfl rfl rfl ?F (fun ns hl hb => ?M)
  case M =>
    obtain ⟨d, S, e1, e2⟩ := Mx.wp_get (K1.law_spec (k := 6) (ns := ns) hl)
    subst e2
    exact ⟨S, e1⟩
  case F =>
    intro w mg h Y G
    have X := PySem.W.kIn_of Y
    refine ⟨_, X, K1.gr ?A0 ?A1 ?A2 ?A3 ?A4 ?A5 ?A6 ?A7 ?A8 ?A9 ?A10 ?A11 ?A12 ?A13 ?z0 ?z1 ?z2 ?z3 ?z4 ?z5 ?z6 ?z7 ?g1 ?g2⟩
    case A0 =>
      refine' Mx.at_mk X G ?a ?l ?c ?k ?b
      (case a => k_is); (case l => k_is); (case c => k_is); (case k => k_is)
      case b => exact fun _ _ _ _ _ _ us hl => match us, hl with | [_, _], _ => rfl
    case A1 =>
      refine' Mx.at_mk X G ?a ?l ?c ?k ?b
      (case a => k_is); (case l => k_is); (case c => k_is); (case k => k_is)
      case b => exact fun _ _ _ _ _ _ us hl => match us, hl with | [_, _], _ => rfl
    case A2 =>
      refine' Mx.at_mk X G ?a ?l ?c ?k ?b
      (case a => k_is); (case l => k_is); (case c => k_is); (case k => k_is)
      case b => exact fun _ _ _ _ _ _ us hl => match us, hl with | [_, _], _ => rfl
    case A3 =>
      refine' Mx.at_mk X G ?a ?l ?c ?k ?b
      (case a => k_is); (case l => k_is); (case c => k_is); (case k => k_is)
      case b => exact fun _ _ _ _ _ _ us hl => match us, hl with | [_, _], _ => rfl
    case A4 =>
      refine' Mx.at_mk X G ?a ?l ?c ?k ?b
      (case a => k_is); (case l => k_is); (case c => k_is); (case k => k_is)
      case b => exact fun _ _ _ _ _ _ us hl => match us, hl with | [_, _], _ => rfl
    case A5 =>
      refine' Mx.at_mk X G ?a ?l ?c ?k ?b
      (case a => k_is); (case l => k_is); (case c => k_is); (case k => k_is)
      case b => exact fun _ _ _ _ _ _ us hl => match us, hl with | [_, _], _ => rfl
    case A6 =>
      refine' Mx.at_mk X G ?a ?l ?c ?k ?b
      (case a => k_is); (case l => k_is); (case c => k_is); (case k => k_is)
      case b => exact fun _ _ _ _ _ _ us hl => match us, hl with | [_], _ => rfl
    case A7 =>
      refine' Mx.at_mk X G ?a ?l ?c ?k ?b
      (case a => k_is); (case l => k_is); (case c => k_is); (case k => k_is)
      case b => exact fun _ _ _ _ _ _ us hl => match us, hl with | [_], _ => rfl
    case A8 =>
      refine' Mx.at_mk X G ?a ?l ?c ?k ?b
      (case a => k_is); (case l => k_is); (case c => k_is); (case k => k_is)
      case b => exact fun _ _ _ _ _ _ us hl => match us, hl with | [_, _], _ => rfl
    case A9 =>
      refine' Mx.at_mk X G ?a ?l ?c ?k ?b
      (case a => k_is); (case l => k_is); (case c => k_is); (case k => k_is)
      case b => exact fun _ _ _ _ _ _ us hl => match us, hl with | [_, _], _ => rfl
    case A10 =>
      refine' Mx.at_mk X G ?a ?l ?c ?k ?b
      (case a => k_is); (case l => k_is); (case c => k_is); (case k => k_is)
      case b => exact fun _ _ _ _ _ _ us hl => match us, hl with | [_, _, _], _ => rfl
    case A11 =>
      refine' Mx.at_mk X G ?a ?l ?c ?k ?b
      (case a => k_is); (case l => k_is); (case c => k_is); (case k => k_is)
      case b => exact fun _ _ _ _ _ _ us hl => match us, hl with | [_, _, _], _ => rfl
    case A12 =>
      refine' Mx.at_mk X G ?a ?l ?c ?k ?b
      (case a => k_is); (case l => k_is); (case c => k_is); (case k => k_is)
      case b => exact fun _ _ _ _ _ _ us hl => match us, hl with | [_, _, _], _ => rfl
    case A13 =>
      refine' Mx.at_mk X G ?a ?l ?c ?k ?b
      (case a => k_is); (case l => k_is); (case c => k_is); (case k => k_is)
      case b => exact fun _ _ _ _ _ _ us hl => match us, hl with | [_], _ => rfl
    case z0 =>
      refine' PySem.W.mg_none_of X G ?z
      case z => k_is
    case z1 =>
      refine' PySem.W.mg_none_of X G ?z
      case z => k_is
    case z2 =>
      refine' PySem.W.mg_none_of X G ?z
      case z => k_is
    case z3 =>
      refine' PySem.W.mg_none_of X G ?z
      case z => k_is
    case z4 =>
      refine' PySem.W.mg_none_of X G ?z
      case z => k_is
    case z5 =>
      refine' PySem.W.mg_none_of X G ?z
      case z => k_is
    case z6 =>
      refine' PySem.W.mg_none_of X G ?z
      case z => k_is
    case z7 =>
      refine' PySem.W.mg_none_of X G ?z
      case z => k_is
    case g1 =>
      refine' PySem.W.mg_of X G ?z
      case z => k_is
    case g2 =>
      refine' PySem.W.mg_of X G ?z
      case z => k_is
