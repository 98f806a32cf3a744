import PyProof.Rows.All
import Wide.All
import OpenK.AllK
import Wide.FinOn
import HandS.ForMost
import HandS.Flow
import HandS.IsInst
import HandS.Conv
import HandS.Wide
import HandS.Exc
import HandS.ExcOwn
import HandS.WordsExc
import HandS.Text
import HandS.More
import KE.SortData
import HandS.Dict
import HandS.FStr
import HandS.Words
import HandS.HeadHook4
import HandS.Head3
import HandS.Head4
import HandS.ExcField
import KE.KStateDown
import HandS.Head0
import HandS.Head1
import HandS.Head2
import HandS.AnyAll
import HandS.Nested
import HandS.Style
import HandS.DeepEq
import HandS.Deep
import PyProof.NeKinds
import HandS.RaiseMore
import HandS.StrMore
import HandS.SortInts
import HandS.ReplaceLit
import HandS.NoneIn
import HandS.ExcInit
import HandS.ExcIs
import KE.KExcIs
import HandS.GenOver
import PyProof.GenQ
import HandS.GenList
import HandS.Defaults
import HandS.EndTab
import HandS.SetFor
import HandS.SetTxt0
import HandS.SortOrd
import HandS.Strs
import PySem.Challenge.RW_formflow_k03_meaning_exact
set_option Elab.async false
set_option linter.all false
set_option maxRecDepth 100000
/-! A small language whose programs are compared with the statement's trees; what it works out is what the trees do. -/
namespace Jp
open PySem

/-- a value: what can change stands in the store, by its number -/
inductive AV where
  | non | bl (b : Bool) | int (i : Int) | str (x : Str) | tup (xs : List AV) | lst (xs : List AV) | ref (n : Nat) | fn (i : Nat)
  deriving Inhabited
/-- what stands in the store: a list, an instance of class c, a dict -/
inductive AO where
  | lst (xs : List AV) | ins (c : Nat) (fs : List (Str × AV)) | dct (kvs : List (L2.Key × AV))
  deriving Inhabited
abbrev Sto := List AO
abbrev Slots := List (Option AV)
structure AX where
  cls : Nat
  fs : List AV
/-- what comes out -/
inductive Rs (α : Type) where
  | ok (a : α) (s : Sto) | exc (x : AX) (s : Sto) | bad
def Rs.bd {α β : Type} (r : Rs α) (f : α → Sto → Rs β) : Rs β := match r with
  | .ok a s => f a s
  | .exc x s => .exc x s
  | .bad => .bad
inductive BO where
  | add | sub | mul | fdiv | mod | pow
  deriving DecidableEq
inductive CO where
  | eq | ne | lt | le | gt | ge | isN | noN | isB | noB | in_ | notin
  deriving DecidableEq
inductive BI where
  | len | int | str | repr | list | tuple | sortedSet | sum | min | max | abs | sorted
  deriving DecidableEq
inductive TY where
  | int | str | bool | list | tuple
  deriving DecidableEq
inductive ME where
  | append | startswith | endswith | split | join | find | pop | extend | reverse
  deriving DecidableEq
/-- what a for walks -/
inductive IW where
  | seq | signs | range1 | range2
  deriving DecidableEq
/-- a target -/
inductive IT where
  | nm (i : Nat) | tp (ts : List IT)
inductive IE where
  | slot (i : Nat) | con (i : Nat) | lit (d : AV)
  | tup (es : List IE) | lst (es : List IE)
  | bin (op : BO) (a b : IE) | neg (a : IE)
  | cmp (op : CO) (a b : IE) | chain (o p : CO) (a b c : IE)
  | nt (a : IE) | an (a b : IE) | or_ (a b : IE) | ife (c a b : IE)
  | call (f : Nat) (es : List IE)
  | bi (b : BI) (es : List IE)
  | isi (a : IE) (t : TY)
  | me (m : ME) (o : IE) (es : List IE)
  | idx (a i : IE) | sl (a : IE) (lo hi : Option IE)
  | lc (own : List (Str × Nat)) (elt : IE) (t : IT) (w : IW) (it : List IE) (ifs : List IE)
  | quant (all : Bool) (own : Nat) (elt : IE) (it : IE)
  | fld (o : IE) (f : Str) | meth (o : IE) (m : Str) (es : List IE) (n : Nat) | make (c : Nat) (es : List IE)
  | callz (f : Nat) (es : List IE) | dget (ks : List Str) (vs : List IE) (e d : IE)
  | cget (d : Nat) (e : IE) | cin (neg : Bool) (d : Nat) (e : IE) | crep (x : Str) (o : IE) (y z : Str)
  | callh (q : Nat) (es caps : List IE) | dnew | dix (o i : IE) | din (neg : Bool) (i o : IE) | dg1 (o i : IE) | dg2 (o i d : IE) | dcopy (o : IE) | js (ps : List IE) | dpop (o i : IE) | dmk (ks : List Str) (vs : List IE) | rev (a : IE)
/-- what an except clause works out of the error -/
inductive HE where
  | fld (f : Str) | lit (d : AV) | tup (es : List HE) | isx (c : Nat) | isv | an (a b : HE)
inductive HS where
  | ret (h : HE) | ifr (c h : HE)
inductive IS where
  | ex (e : IE) | asg (t : IT) (e : IE) | put (o i e : IE) | aug (i : Nat) (op : BO) (e : IE)
  | ret (e : IE) | retN | ifs (c : IE) (a b : List IS)
  | for_ (t : IT) (w : IW) (it : List IE) (body : List IS) | while_ (c : IE) (body : List IS)
  | brk | cont | pass
  | setf (o : IE) (f : Str) (e : IE) | augf (o : IE) (f : Str) (op : BO) (e : IE)
  | putc (o lo : IE) (es : List IE) | putd (o i e : IE)
  | raise_ (c : Nat) (es : List IE) | try_ (body : List IS) (c : Nat) (nm : Option Nat) (hs : List HS)
/-- a class: its fields, its __init__, its methods -/
structure CI where
  nm : Str
  fl : List Str
  ini : Option Nat
  ms : List (Str × Nat)
/-- a class of errors: its fields, the classes that it is one of -/
structure XI where
  nm : Str
  fl : List Str
  up : List Nat
/-- a function that is handed to a def: a def of the module, or a lambda (how many parameters, its names: the parameters, the captured ones; its body) -/
inductive LK where
  | fn (j : Nat) | lam (pars : Nat) (ps fr : List Str) (body : IE)
/-- the def f, na arguments and one function more -/
structure Lam where
  f : Nat
  na : Nat
  nc : Nat
  kd : LK
/-- what never changes: the module's constants, its dicts with texts for keys, its classes, the defs' defaults, the classes of errors -/
structure Gt where
  c : List AV
  d : List (List (Str × AV))
  k : List CI
  df : List (List AV)
  x : List XI
  lm : List Lam := []
/-- the names of what never changes -/
structure Nm where
  c : List Str
  d : List Str
  k : List Str
  x : List Str
  lm : List Lam := []
  lt : Nat → Scope → Expr → Bool := fun _ _ _ => false
end Jp


set_option Elab.async false
set_option linter.all false
set_option maxRecDepth 100000
namespace Jp
open PySem

def optAll {α β : Type} (f : α → Option β) : List α → Option (List β)
  | [] => some []
  | x :: r => match f x with
    | some y => (match optAll f r with
      | some ys => some (y :: ys)
      | none => none)
    | none => none
/-- as data -/
def AV.data (s : Sto) : Nat → AV → Option PyData
  | 0, _ => none
  | n + 1, d => match d with
    | .non => some .none
    | .bl b => some (.bool b)
    | .int i => some (.int i)
    | .str x => some (.str x)
    | .tup xs => (optAll (AV.data s n) xs).map .tuple
    | .lst xs => (optAll (AV.data s n) xs).map .list
    | .ref k => (match s[k]? with
      | some (.lst xs) => (optAll (AV.data s n) xs).map .list
      | _ => none)
    | .fn _ => none
def asStr : AV → Option Str
  | .str x => some x
  | _ => none
def asInt : AV → Option Int
  | .int i => some i
  | _ => none
def flatA : AV → Bool
  | .non => true
  | .bl _ => true
  | .int _ => true
  | .str _ => true
  | _ => false
def eqA : AV → AV → Bool
  | .non, .non => true
  | .bl a, .bl b => a == b
  | .bl a, .int b => (if a then 1 else 0) == b
  | .int a, .bl b => a == (if b then 1 else 0)
  | .int a, .int b => a == b
  | .str a, .str b => a == b
  | _, _ => false
/-- == where it needs no look at the store -/
def scalA : AV → AV → Option Bool
  | .non, .non => some true
  | .non, .int _ => some false | .int _, .non => some false
  | .non, .bl _ => some false | .bl _, .non => some false
  | .non, .str _ => some false | .str _, .non => some false
  | .int i, .int j => some (i == j)
  | .bl i, .bl j => some (i == j)
  | .str i, .str j => some (i == j)
  | .int _, .str _ => some false | .str _, .int _ => some false
  | .bl _, .str _ => some false | .str _, .bl _ => some false
  | _, _ => none
/-- the items of a list or tuple -/
def items (s : Sto) : AV → Option (List AV)
  | .tup xs => some xs
  | .lst xs => some xs
  | .ref k => (match s[k]? with
    | some (.lst xs) => some xs
    | _ => none)
  | _ => none
/-- of a list -/
def itemsL (s : Sto) : AV → Option (List AV)
  | .tup _ => none
  | d => items s d
def LINE : Nat := 16777216
def truth (s : Sto) : AV → Option Bool
  | .non => some false
  | .bl b => some b
  | .int i => some (i != 0)
  | .str y => if y.length ≤ LINE then some ((y.length : Int) != 0) else none
  | d => (items s d).map fun xs => !xs.isEmpty
/-- dicts: keys are ints and texts -/
def keyA : AV → Option L2.Key
  | .int i => some (.inl i)
  | .str x => some (.inr x)
  | _ => none
def dctA (s : Sto) : AV → Option (List (L2.Key × AV))
  | .ref k => (match s[k]? with
    | some (.dct kvs) => some kvs
    | _ => none)
  | _ => none
def lookK (kvs : List (L2.Key × AV)) (k : L2.Key) : Option AV := (kvs.find? fun kv => decide (kv.1 = k)).map (·.2)
/-- alike, as data -/
def datEq (s : Sto) (x y : AV) : Bool := match x.data s 60, y.data s 60 with
  | some d, some e => SeqAt.shaped d && SeqAt.shaped e && PyData.eqv d e
  | _, _ => false
/-- alike, as data or as dicts of data -/
def dctEq (s : Sto) (x y : AV) : Bool := datEq s x y || match dctA s x, dctA s y with
  | some ks, some ls => decide (ks.length = ls.length) && ks.all fun kv => match lookK ls kv.1 with
    | some u => datEq s kv.2 u
    | none => false
  | _, _ => false
/-- two lists, their items alike -/
def eqO (s : Sto) (x y : AV) : Bool := match itemsL s x, itemsL s y with
  | some xs, some ys => decide (xs.length = ys.length) && (xs.zip ys).all fun p => dctEq s p.1 p.2
  | _, _ => false
def eqD (x y : AV) (s : Sto) : Option Bool := match scalA x y with
  | some b => some b
  | none => match x.data s 60, y.data s 60 with
    | some d, some e => if SeqAt.shaped d && SeqAt.shaped e then some (PyData.eqv d e) else none
    | _, _ => if eqO s x y then some true else none
def opBin (op : BO) (x y : AV) (s : Sto) : Rs AV := match op, x, y with
  | .add, .int i, .int j => .ok (.int (i + j)) s
  | .add, .str a, .str b => if a.length + b.length ≤ LINE then .ok (.str (a ++ b)) s else .bad
  | .add, .tup xs, .tup ys => if xs.isEmpty = false ∧ xs.length + ys.length ≤ LINE then .ok (.tup (xs ++ ys)) s else .bad
  | .add, .ref m, .ref n => (match s[m]?, s[n]? with
    | some (.lst xs), some (.lst ys) => if xs.length + ys.length ≤ LINE then .ok (.ref s.length) (s ++ [.lst (xs ++ ys)]) else .bad
    | _, _ => .bad)
  | .add, .ref m, .lst ys => (match s[m]? with
    | some (.lst xs) => if xs.length + ys.length ≤ LINE then .ok (.ref s.length) (s ++ [.lst (xs ++ ys)]) else .bad
    | _ => .bad)
  | .add, .lst xs, .ref n => (match s[n]? with
    | some (.lst ys) => if xs.length + ys.length ≤ LINE then .ok (.ref s.length) (s ++ [.lst (xs ++ ys)]) else .bad
    | _ => .bad)
  | .add, .lst xs, .lst ys => if xs.length + ys.length ≤ LINE then .ok (.ref s.length) (s ++ [.lst (xs ++ ys)]) else .bad
  | .sub, .int i, .int j => .ok (.int (i - j)) s
  | .mul, .int i, .int j => if (-18446744073709551616 < i ∧ i < 18446744073709551616) ∨ (-18446744073709551616 < j ∧ j < 18446744073709551616) then .ok (.int (i * j)) s else .bad
  | .fdiv, .int i, .int j => if 0 < j ∧ j < 1073741824 then .ok (.int (i / j)) s else .bad
  | .mod, .int i, .int j => if 0 < j then .ok (.int (i % j)) s else .bad
  | .mul, .str a, .int j => if a.length * j.toNat ≤ LINE ∧ j < 1048576 ∧ -1048576 < j then .ok (.str ⟨⟨(List.replicate j.toNat a.cps.toList).flatten⟩⟩) s else .bad
  | .pow, .int i, .int j => if 0 ≤ j ∧ j ≤ 1000000 ∧ i.natAbs < 18446744073709551616 then .ok (.int (i ^ j.toNat)) s else .bad
  | _, _, _ => .bad
def opt {α : Type} (o : Option α) (s : Sto) : Rs α := match o with
  | some a => .ok a s
  | none => .bad
/-- x in y, a list of data -/
def inD (x y : AV) (s : Sto) : Option Bool := match x.data s 60, y.data s 60 with
  | some d, some (.list ds) => if SeqAt.shaped d && SeqAt.shaped (.list ds) then some (ds.any fun z => PyData.eqv z d) else none
  | _, _ => none
def inA (x : AV) (y : AV) (s : Sto) : Option Bool := match y with
  | .str z => (match x with
    | .str ⟨⟨[c]⟩⟩ => some (decide (c ∈ z.cps.toList))
    | _ => none)
  | _ => match items s y with
    | some xs => if flatA x && xs.all flatA then some (xs.any fun z => eqA z x) else inD x y s
    | none => none
def opCmp (op : CO) (x y : AV) (s : Sto) : Option Bool := match op with
  | .eq => eqD x y s
  | .ne => (eqD x y s).map (!·)
  | .lt => (match x, y with
    | .int i, .int j => some (decide (i < j))
    | .str i, .str j => some (decide (i.cps.toList < j.cps.toList))
    | _, _ => none)
  | .le => (match x, y with
    | .int i, .int j => some (decide (i ≤ j))
    | .str i, .str j => some (!decide (j.cps.toList < i.cps.toList))
    | _, _ => none)
  | .gt => (match x, y with
    | .int i, .int j => some (decide (j < i))
    | .str i, .str j => some (decide (j.cps.toList < i.cps.toList))
    | _, _ => none)
  | .ge => (match x, y with
    | .int i, .int j => some (decide (j ≤ i))
    | .str i, .str j => some (!decide (i.cps.toList < j.cps.toList))
    | _, _ => none)
  | .isN => (match y with
    | .non => some (match x with | .non => true | _ => false)
    | _ => none)
  | .noN => (match y with
    | .non => some (match x with | .non => false | _ => true)
    | _ => none)
  | .isB => (match x, y with
    | .bl a, .bl b => some (decide (a = b))
    | _, _ => none)
  | .noB => (match x, y with
    | .bl a, .bl b => some (!decide (a = b))
    | _, _ => none)
  | .in_ => inA x y s
  | .notin => (inA x y s).map (!·)
def opIdx (x y : AV) (s : Sto) : Option AV := match y with
  | .int i => (match x with
    | .str z => if z.length ≤ LINE then (L2.atI z.cps.toList i).map fun c => .str ⟨⟨[c]⟩⟩ else none
    | _ => match items s x with
      | some xs => L2.atI xs i
      | none => none)
  | _ => none
def opSl (x : AV) (lo hi : Option Int) (s : Sto) : Rs AV := match x with
  | .str z => if z.length ≤ LINE then .ok (.str (L2.cutS z lo hi)) s else .bad
  | .ref k => (match s[k]? with
    | some (.lst xs) => .ok (.ref s.length) (s ++ [.lst ((xs.drop (HT.sIx xs.length 0 lo)).take (HT.sIx xs.length xs.length hi - HT.sIx xs.length 0 lo))])
    | _ => .bad)
  | .lst xs => .ok (.ref s.length) (s ++ [.lst ((xs.drop (HT.sIx xs.length 0 lo)).take (HT.sIx xs.length xs.length hi - HT.sIx xs.length 0 lo))])
  | .tup xs => if HT.sIx xs.length 0 lo = 0 ∧ HT.sIx xs.length xs.length hi = xs.length then .bad else .ok (.tup ((xs.drop (HT.sIx xs.length 0 lo)).take (HT.sIx xs.length xs.length hi - HT.sIx xs.length 0 lo))) s
  | _ => .bad
def insS (x : Str) : List Str → List Str
  | [] => [x]
  | y :: r => if x.cps.toList < y.cps.toList then x :: y :: r else if y.cps.toList < x.cps.toList then y :: insS x r else y :: r
/-- in order, each once -/
def sortS (xs : List Str) : List Str := xs.foldr insS []
def insI (x : Int) : List Int → List Int
  | [] => [x]
  | y :: r => if x ≤ y then x :: y :: r else y :: insI x r
/-- in order -/
def sortI (xs : List Int) : List Int := xs.foldr insI []
def opBi (b : BI) (xs : List AV) (s : Sto) : Rs AV := match b, xs with
  | .len, [.str z] => if z.length ≤ LINE then .ok (.int z.length) s else .bad
  | .len, [d] => (match items s d with
    | some ys => .ok (.int ys.length) s
    | none => .bad)
  | .int, [.int i] => .ok (.int i) s
  | .int, [.bl k] => .ok (.int (if k then 1 else 0)) s
  | .int, [.str a] => if a.length ≤ 640 then (match PySem.intText? a with
    | some n => .ok (.int n) s
    | none => .bad) else .bad
  | .str, [.int i] => if i.natAbs.log2 < 1920 then .ok (.str (toString i)) s else .bad
  | .str, [.str a] => .ok (.str a) s
  | .repr, [d] => (match d.data s 60 with
    | some e => if e.showable && !e.hasDict && decide (e.shown.length ≤ LINE) && decide (e.depth ≤ 60) then .ok (.str e.shown) s else .bad
    | none => .bad)
  | .list, [d] => (match items s d with
    | some ys => .ok (.ref s.length) (s ++ [.lst ys])
    | none => .bad)
  | .tuple, [.tup ys] => .ok (.tup ys) s
  | .tuple, [d] => (match items s d with
    | some ys => .ok (.tup ys) s
    | none => .bad)
  | .sum, [d] => (match itemsL s d with
    | some ys => (match optAll asInt ys with
      | some zs => .ok (.int zs.sum) s
      | none => .bad)
    | none => .bad)
  | .min, [d] => (match itemsL s d with
    | some ys => (match optAll asInt ys with
      | some (z :: zs) => .ok (.int (zs.foldl (fun m i => if i < m then i else m) z)) s
      | _ => .bad)
    | none => .bad)
  | .max, [d] => (match itemsL s d with
    | some ys => (match optAll asInt ys with
      | some (z :: zs) => .ok (.int (zs.foldl (fun m i => if m < i then i else m) z)) s
      | _ => .bad)
    | none => .bad)
  | .abs, [.int i] => .ok (.int (if i < 0 then -i else i)) s
  | .sorted, [d] => (match itemsL s d with
    | some ys => (match optAll asInt ys with
      | some zs => .ok (.ref s.length) (s ++ [.lst ((sortI zs).map .int)])
      | none => .bad)
    | none => .bad)
  | .sortedSet, [.tup ys] => (match optAll asStr ys with
      | some zs => if zs.length < 64 then .ok (.ref s.length) (s ++ [.lst ((sortS zs).map .str)]) else .bad
      | none => .bad)
  | _, _ => .bad
def isT (s : Sto) : AV → TY → Option Bool
  | .non, _ => some false
  | .bl _, t => some (t == .bool || t == .int)
  | .int _, t => some (t == .int)
  | .str _, t => some (t == .str)
  | .tup _, t => some (t == .tuple)
  | .lst _, t => some (t == .list)
  | .ref k, t => (match s[k]? with
    | some (.lst _) => some (t == .list)
    | _ => none)
  | .fn _, _ => none
def opMe (m : ME) (o : AV) (xs : List AV) (s : Sto) : Rs AV := match m, o, xs with
  | .append, .ref k, [y] => (match s[k]? with
    | some (.lst ys) => if ys.length < LINE then .ok .non (s.set k (.lst (ys ++ [y]))) else .bad
    | _ => .bad)
  | .pop, .ref k, [] => (match s[k]? with
    | some (.lst ys) => (match ys[ys.length - 1]? with
      | some y => .ok y (s.set k (.lst ys.dropLast))
      | none => .bad)
    | _ => .bad)
  | .extend, .ref k, [.tup zs] => (match s[k]? with
    | some (.lst ys) => if ys.length + zs.length ≤ LINE then .ok .non (s.set k (.lst (ys ++ zs))) else .bad
    | _ => .bad)
  | .extend, .ref k, [.ref m] => (match s[k]?, s[m]? with
    | some (.lst ys), some (.lst zs) => if ys.length + zs.length ≤ LINE then .ok .non (s.set k (.lst (ys ++ zs))) else .bad
    | _, _ => .bad)
  | .reverse, .ref k, [] => (match s[k]? with
    | some (.lst ys) => .ok .non (s.set k (.lst ys.reverse))
    | _ => .bad)
  | .startswith, .str a, [.str b] => .ok (.bl (Txt.startswith a b)) s
  | .endswith, .str a, [.str b] => .ok (.bl (Txt.endswith a b)) s
  | .find, .str a, [.str b] => .ok (.int (Txt.find a b)) s
  | .find, .str a, [.str b, .int i] => .ok (.int (Txt.find3 a b i)) s
  | .split, .str a, [.str b] => if (b.length == 0) = false ∧ a.length + 2 ≤ LINE then .ok (.ref s.length) (s ++ [.lst ((Txt.split a b).map .str)]) else .bad
  | .join, .str a, [d] => (match items s d with
    | some ys => (match optAll asStr ys with
      | some zs => if (zs.map (·.length)).sum + zs.length * a.length ≤ LINE then .ok (.str (Txt.join a zs)) s else .bad
      | none => .bad)
    | none => .bad)
  | _, _, _ => .bad
/-- of what a method is -/
def meT (m : ME) (o : AV) (s : Sto) : Bool := match m, o with
  | .append, .ref k => (match s[k]? with
    | some (.lst _) => true
    | _ => false)
  | .append, _ => false
  | .pop, .ref k => (match s[k]? with
    | some (.lst _) => true
    | _ => false)
  | .pop, _ => false
  | .extend, .ref k => (match s[k]? with
    | some (.lst _) => true
    | _ => false)
  | .extend, _ => false
  | .reverse, .ref k => (match s[k]? with
    | some (.lst _) => true
    | _ => false)
  | .reverse, _ => false
  | _, .str _ => true
  | _, _ => false
mutual
def sameA : AV → AV → Bool
  | .non, .non => true
  | .bl a, .bl b => a == b
  | .int a, .int b => a == b
  | .str a, .str b => a == b
  | .tup a, .tup b => sameL a b
  | .lst a, .lst b => sameL a b
  | .ref a, .ref b => a == b
  | .fn a, .fn b => a == b
  | _, _ => false
def sameL : List AV → List AV → Bool
  | [], [] => true
  | a :: r, b :: t => sameA a b && sameL r t
  | _, _ => false
end
/-- what a for goes over, and whether that stands as it stood -/
def walk (w : IW) (xs : List AV) (s : Sto) : Option (List AV) := match w, xs with
  | .seq, [.str z] => some (z.cps.toList.map fun c => .str ⟨⟨[c]⟩⟩)
  | .seq, [d] => items s d
  | .signs, [.str z] => some (z.cps.toList.map fun c => .str ⟨⟨[c]⟩⟩)
  | .range1, [.int j] => if -4611686018427387904 ≤ j ∧ j < 4611686018427387904 then some ((List.range j.toNat).map fun (k : Nat) => .int k) else none
  | .range2, [.int i, .int j] => if (-4611686018427387904 ≤ i ∧ i < 4611686018427387904) ∧ -4611686018427387904 ≤ j ∧ j < 4611686018427387904 then some ((List.range (j - i).toNat).map fun (k : Nat) => .int (i + (k : Int))) else none
  | _, _ => none
def stands (w : IW) (xs : List AV) (ys : List AV) (s : Sto) : Bool := match w, xs with
  | .seq, [.ref k] => (match s[k]? with
    | some (.lst zs) => sameL zs ys
    | _ => false)
  | _, _ => true
mutual
def lowA (n : Nat) : AV → Bool
  | .tup xs => lowL n xs
  | .lst xs => lowL n xs
  | .ref k => decide (k < n)
  | _ => true
def lowL (n : Nat) : List AV → Bool
  | [] => true
  | x :: r => lowA n x && lowL n r
end
def lowO (n : Nat) : AO → Bool
  | .lst xs => lowL n xs
  | .ins _ fs => lowL n (fs.map (·.2))
  | .dct kvs => lowL n (kvs.map (·.2))
/-- a field is put -/
def putA (f : Str) (v : AV) : List (Str × AV) → List (Str × AV)
  | [] => [(f, v)]
  | (g, x) :: r => if g = f then (g, v) :: r else (g, x) :: putA f v r
def hasK (kvs : List (L2.Key × AV)) (k : L2.Key) : Bool := kvs.any fun kv => decide (kv.1 = k)
def storeK (kvs : List (L2.Key × AV)) (k : L2.Key) (v : AV) : List (L2.Key × AV) := if hasK kvs k then kvs.map (fun kv => if kv.1 = k then (kv.1, v) else kv) else kvs ++ [(k, v)]
def delK (kvs : List (L2.Key × AV)) (k : L2.Key) : List (L2.Key × AV) := kvs.filter fun kv => decide (kv.1 ≠ k)
/-- where a def finds the function that it was handed; the calls that hand one -/
def CLO : Nat := 100000
def HOF : Nat := 200000
/-- a call: where the arguments hold no ref and the answer holds none, in a store of its own -/
def callF (f : List AV → Sto → Rs AV) (xs : List AV) (s : Sto) : Rs AV := if lowL 0 xs then (match f xs [] with
  | .ok v _ => if lowA 0 v then .ok v s else f xs s
  | .exc x _ => if lowL 0 x.fs then .exc x s else f xs s
  | .bad => f xs s) else f xs s
/-- a value whose lists numbered n or more are known from now on to stand as they stand -/
def frzA (s : Sto) (n : Nat) : Nat → AV → Option AV
  | 0, _ => none
  | m + 1, d => match d with
    | .ref k => if k < n then some (.ref k) else (match s[k]? with
      | some (.lst xs) => (optAll (frzA s n m) xs).map .lst
      | _ => none)
    | .tup xs => (optAll (frzA s n m) xs).map .tup
    | .lst xs => (optAll (frzA s n m) xs).map .lst
    | d => some d
def settle (n : Nat) (v : AV) (s : Sto) : Rs AV := match frzA s n 60 v with
  | some w => if (s.take n).all (lowO n) then .ok w (s.take n) else .bad
  | none => .bad
/-- a call whose answer is settled: its lists are the answer's alone -/
def callZ (f : List AV → Sto → Rs AV) (xs : List AV) (s : Sto) : Rs AV := if lowL 0 xs then (match f xs [] with
  | .ok v s1 => (match frzA s1 0 60 v with
    | some w => .ok w s
    | none => .bad)
  | .exc x _ => if lowL 0 x.fs then .exc x s else .bad
  | .bad => .bad) else (f xs s).bd fun v s' => settle s.length v s'
section
variable (F : Nat → Nat → List AV → Sto → Rs AV) (C : Gt)
def evs (ev : IE → Slots → Sto → Rs AV) : List IE → Slots → Sto → Rs (List AV)
  | [], _, s => .ok [] s
  | e :: r, σ, s => (ev e σ s).bd fun x s => (evs ev r σ s).bd fun xs s => .ok (x :: xs) s
mutual
def asT (s : Sto) : IT → AV → Slots → Option Slots
  | .nm i, d, σ => if i < σ.length then some (σ.set i (some d)) else none
  | .tp ts, d, σ => match items s d with
    | some xs => asTs s ts xs σ
    | none => none
def asTs (s : Sto) : List IT → List AV → Slots → Option Slots
  | [], [], σ => some σ
  | t :: ts, x :: xs, σ => (match asT s t x σ with
    | some σ => asTs s ts xs σ
    | none => none)
  | _, _, _ => none
end
/-- the names of a target -/
def tsl : IT → List Nat
  | .nm i => [i]
  | .tp ts => go ts
where go : List IT → List Nat
  | [] => []
  | t :: ts => tsl t ++ go ts
def wipeA (σ : Slots) : List Nat → Slots
  | [] => σ
  | v :: vs => (wipeA σ vs).set v none
def tests (ev : IE → Slots → Sto → Rs AV) : List IE → Slots → Sto → Rs Bool
  | [], _, s => .ok true s
  | [e], σ, s => (ev e σ s).bd fun x s => opt (truth s x) s
  | _, _, _ => .bad
/-- where no error may leave -/
def noX {α : Type} (r : Rs α) : Rs α := match r with
  | .ok a s => .ok a s
  | _ => .bad
/-- a comprehension's turns: acc in the items' own order -/
def lcLoop (ev : IE → Slots → Sto → Rs AV) (own : List Nat) (elt : IE) (t : IT) (w : IW) (src : List AV) (whole : List AV) (ifs : List IE) (σ : Slots) : List AV → List AV → Sto → Rs (List AV)
  | [], acc, s => .ok acc s
  | x :: r, acc, s => match asT s t x (wipeA σ own) with
    | none => .bad
    | some σ2 => (noX (tests ev ifs σ2 s)).bd fun b s => match b with
      | true => (noX (ev elt σ2 s)).bd fun y s => if acc.length < LINE then (if stands w src whole s then lcLoop ev own elt t w src whole ifs σ r (acc ++ [y]) s else .bad) else .bad
      | false => if stands w src whole s then lcLoop ev own elt t w src whole ifs σ r acc s else .bad
def qLoop (ev : IE → Slots → Sto → Rs AV) (all : Bool) (own : Nat) (elt : IE) (src : List AV) (whole : List AV) (σ : Slots) : List AV → Sto → Rs AV
  | [], s => .ok (.bl all) s
  | x :: r, s => match asT s (.nm own) x σ with
    | none => .bad
    | some σ2 => (noX (ev elt σ2 s)).bd fun y s => match y with
      | .bl b => if b == all then (if stands .seq src whole s then qLoop ev all own elt src whole σ r s else .bad) else .ok (.bl b) s
      | _ => .bad
/-- f-strings: the parts behind each other -/
def jsL (ev : IE → Slots → Sto → Rs AV) : List IE → Str → Slots → Sto → Rs Str
  | [], acc, _, s => .ok acc s
  | e :: r, acc, σ, s => (ev e σ s).bd fun x s => match x with
    | .str y => if (acc ++ y).length ≤ LINE ∧ y.length ≤ LINE then jsL ev r (acc ++ y) σ s else .bad
    | .int i => if (acc ++ (toString i : Str)).length ≤ LINE ∧ i.natAbs.log2 < 1920 then jsL ev r (acc ++ (toString i : Str)) σ s else .bad
    | _ => .bad
def evI (g : Nat) : Nat → IE → Slots → Sto → Rs AV
  | 0, _, _, _ => .bad
  | n + 1, e, σ, s => match e with
    | .slot i => (match σ[i]? with
      | some (some d) => .ok d s
      | _ => .bad)
    | .con i => opt C.c[i]? s
    | .lit d => .ok d s
    | .tup es => (evs (evI g n) es σ s).bd fun xs s => if xs.length ≤ LINE then .ok (.tup xs) s else .bad
    | .lst es => (evs (evI g n) es σ s).bd fun xs s => if xs.length ≤ LINE then .ok (.ref s.length) (s ++ [.lst xs]) else .bad
    | .bin op a b => (evI g n a σ s).bd fun x s => (evI g n b σ s).bd fun y s => opBin op x y s
    | .neg a => (evI g n a σ s).bd fun x s => (match x with
      | .int i => .ok (.int (-i)) s
      | _ => .bad)
    | .cmp op a b => (evI g n a σ s).bd fun x s => (evI g n b σ s).bd fun y s => opt ((opCmp op x y s).map .bl) s
    | .chain o p a b c => (evI g n a σ s).bd fun x s => (evI g n b σ s).bd fun y s => (opt (opCmp o x y s) s).bd fun k s =>
      if k then (evI g n c σ s).bd fun z s => opt ((opCmp p y z s).map .bl) s else .ok (.bl false) s
    | .nt a => (evI g n a σ s).bd fun x s => opt ((truth s x).map fun b => .bl (!b)) s
    | .an a b => (evI g n a σ s).bd fun x s => (opt (truth s x) s).bd fun k s => if k then evI g n b σ s else .ok x s
    | .or_ a b => (evI g n a σ s).bd fun x s => (opt (truth s x) s).bd fun k s => if k then .ok x s else evI g n b σ s
    | .ife c a b => (evI g n c σ s).bd fun x s => (opt (truth s x) s).bd fun k s => if k then evI g n a σ s else evI g n b σ s
    | .call f es => (evs (evI g n) es σ s).bd fun xs s => callF (F g f) xs s
    | .callz f es => (evs (evI g n) es σ s).bd fun xs s => callZ (F g f) xs s
    | .dget ks vs e d => if ks.Nodup ∧ ks.length = vs.length ∧ ks.length ≤ 15 ∧ ks ≠ [] then (evs (evI g n) vs σ s).bd fun xs s => (evI g n e σ s).bd fun y s => (evI g n d σ s).bd fun z s => (match y with
      | .str t => .ok (((ks.zip xs).lookup t).getD z) s
      | _ => .bad) else .bad
    | .bi b es => (evs (evI g n) es σ s).bd fun xs s => opBi b xs s
    | .isi a t => (evI g n a σ s).bd fun x s => opt ((isT s x t).map .bl) s
    | .me m o es => (evI g n o σ s).bd fun x s => if meT m x s then (evs (evI g n) es σ s).bd fun xs s => opMe m x xs s else .bad
    | .idx a i => (evI g n a σ s).bd fun x s => (evI g n i σ s).bd fun y s => opt (opIdx x y s) s
    | .sl a lo hi => (evI g n a σ s).bd fun x s => (part (evI g n) lo σ s).bd fun l s => (part (evI g n) hi σ s).bd fun h s => opSl x l h s
    | .lc own elt t w it ifs => (evs (evI g n) it σ s).bd fun xs s => (opt (walk w xs s) s).bd fun ys s =>
      (lcLoop (evI g n) (own.map (·.2)) elt t w xs ys ifs σ ys [] s).bd fun zs s => .ok (.ref s.length) (s ++ [.lst zs])
    | .quant all own elt it => if g = 0 then (evs (evI g n) [it] σ s).bd fun xs s => (opt (walk .seq xs s) s).bd fun ys s => qLoop (evI (g + 1) n) all own elt xs ys σ ys s else .bad
    | .fld o f => (evI g n o σ s).bd fun x s => (match x with
      | .ref k => (match s[k]? with
        | some (.ins c fs) => (match C.k[c]? with
          | some ci => if f ∈ ci.fl then opt (fs.lookup f) s else .bad
          | none => .bad)
        | _ => .bad)
      | _ => .bad)
    | .meth o m es d => (evI g n o σ s).bd fun x s => (match x with
      | .ref k => (match s[k]? with
        | some (.ins c fs) => (match C.k[c]? with
          | some ci => (match ci.ms.lookup m with
            | some f => (match fs.lookup m, C.df[f]? with
              | none, some df => (evs (evI g n) es σ s).bd fun xs s => F g f (.ref k :: (xs ++ df.drop d)) s
              | _, _ => .bad)
            | none => .bad)
          | none => .bad)
        | _ => .bad)
      | _ => .bad)
    | .make c es => (match C.k[c]? with
      | some ci => (match ci.ini with
        | some f => if g ≤ 3 then (evs (evI g n) es σ s).bd fun xs s => (F (g + 1) f (.ref s.length :: xs) (s ++ [.ins c []])).bd fun v s2 => (match v with
          | .non => .ok (.ref s.length) s2
          | _ => .bad) else .bad
        | none => .bad)
      | none => .bad)
    | .cget d e => (match C.d[d]? with
      | some kvs => (evI g n e σ s).bd fun x s => (match x with
        | .str z => opt (kvs.lookup z) s
        | _ => .bad)
      | none => .bad)
    | .crep x o y z => if (y == z) = false then (evI g n o σ s).bd fun v s => (match v with
      | .str a => if a.length + (a.length + 1) * z.length ≤ 16777216 ∧ x.length + (Txt.replace a y z).length ≤ LINE then .ok (.str (x ++ Txt.replace a y z)) s else .bad
      | _ => .bad) else .bad
    | .cin neg d e => (match C.d[d]? with
      | some kvs => (evI g n e σ s).bd fun x s => (match x with
        | .str z => .ok (.bl (if neg then (kvs.lookup z).isNone else (kvs.lookup z).isSome)) s
        | _ => .bad)
      | none => .bad)
    | .callh q es caps => (evs (evI g n) es σ s).bd fun xs s => (evs (evI g n) caps σ s).bd fun cs s => callF (F g (HOF + q)) (xs ++ cs) s
    | .dnew => .ok (.ref s.length) (s ++ [.dct []])
    | .dix a i => (evI g n a σ s).bd fun x s => (evI g n i σ s).bd fun y s => (match dctA s x, keyA y with
      | some kvs, some k => opt (lookK kvs k) s
      | _, _ => .bad)
    | .din neg i a => (evI g n i σ s).bd fun y s => (evI g n a σ s).bd fun x s => (match dctA s x, keyA y with
      | some kvs, some k => .ok (.bl (if neg then (lookK kvs k).isNone else (lookK kvs k).isSome)) s
      | _, _ => .bad)
    | .dg1 a i => (evI g n a σ s).bd fun x s => (match dctA s x with
      | some _ => (evI g n i σ s).bd fun y s => (match dctA s x, keyA y with
        | some kvs, some k => .ok ((lookK kvs k).getD .non) s
        | _, _ => .bad)
      | none => .bad)
    | .dg2 a i d => (evI g n a σ s).bd fun x s => (match dctA s x with
      | some _ => (evI g n i σ s).bd fun y s => (evI g n d σ s).bd fun z s => (match dctA s x, keyA y with
        | some kvs, some k => .ok ((lookK kvs k).getD z) s
        | _, _ => .bad)
      | none => .bad)
    | .dcopy a => (evI g n a σ s).bd fun x s => (match dctA s x with
      | some kvs => .ok (.ref s.length) (s ++ [.dct kvs])
      | none => .bad)
    | .dpop a i => (evI g n a σ s).bd fun x s => (match dctA s x with
      | some _ => (evI g n i σ s).bd fun y s => (match x, dctA s x, keyA y with
        | .ref m, some kvs, some k => (match lookK kvs k with
          | some v => .ok v (s.set m (.dct (delK kvs k)))
          | none => .bad)
        | _, _, _ => .bad)
      | none => .bad)
    | .dmk ks vs => if ks.Nodup ∧ ks.length = vs.length ∧ ks.length ≤ 15 ∧ ks ≠ [] then (evs (evI g n) vs σ s).bd fun xs s => .ok (.ref s.length) (s ++ [.dct ((ks.zip xs).map fun p => (.inr p.1, p.2))]) else .bad
    | .rev a => (evI g n a σ s).bd fun x s => (match itemsL s x with
      | some ys => .ok (.ref s.length) (s ++ [.lst ys.reverse])
      | none => .bad)
    | .js ps => (jsL (evI g n) ps Str.empty σ s).bd fun y s => .ok (.str y) s
where part (ev : IE → Slots → Sto → Rs AV) : Option IE → Slots → Sto → Rs (Option Int)
  | none, _, s => .ok none s
  | some e, σ, s => (ev e σ s).bd fun x s => match x with
    | .int i => .ok (some i) s
    | _ => .bad
def opI : BO → Int → Int → Option Int
  | .add, a, b => some (a + b)
  | .sub, a, b => some (a - b)
  | _, _, _ => none
/-- behind a statement -/
inductive Fl where
  | nx (σ : Slots) | rt (v : AV) | bk (σ : Slots) | ct (σ : Slots)
def forLoop (ex : Slots → Sto → Rs Fl) (t : IT) (w : IW) (src whole : List AV) : List AV → Slots → Sto → Rs Fl
  | [], σ, s => .ok (.nx σ) s
  | x :: r, σ, s => match asT s t x σ with
    | none => .bad
    | some σ2 => (ex σ2 s).bd fun f s => match f with
      | .nx σ3 => if stands w src whole s then forLoop ex t w src whole r σ3 s else .bad
      | .ct σ3 => if stands w src whole s then forLoop ex t w src whole r σ3 s else .bad
      | .bk σ3 => .ok (.nx σ3) s
      | .rt v => .ok (.rt v) s
/-- how often a while may turn -/
def MANY : Nat := 1000000
def whileLoop (test : Slots → Sto → Rs Bool) (ex : Slots → Sto → Rs Fl) : Nat → Slots → Sto → Rs Fl
  | 0, _, _ => .bad
  | m + 1, σ, s => (test σ s).bd fun b s => if b then (ex σ s).bd fun f s => (match f with
      | .nx σ3 => whileLoop test ex m σ3 s
      | .ct σ3 => whileLoop test ex m σ3 s
      | .bk σ3 => .ok (.nx σ3) s
      | .rt v => .ok (.rt v) s) else .ok (.nx σ) s
/-- what an except clause tells of the error x -/
def hE (xs : List XI) (x : AX) : HE → Option AV
  | .fld f => (match xs[x.cls]? with
    | some xi => (xi.fl.zip x.fs).lookup f
    | none => none)
  | .lit d => (match d with
    | .tup _ => none
    | .lst _ => none
    | .ref _ => none
    | .fn _ => none
    | d => some d)
  | .tup es => (match go es with
    | some vs => if vs.length ≤ LINE then some (.tup vs) else none
    | none => none)
  | .isx c => (match xs[x.cls]? with
    | some xi => some (.bl (decide (c ∈ xi.up)))
    | none => none)
  | .isv => (match xs[x.cls]? with
    | some _ => some (.bl true)
    | none => none)
  | .an a b => (match hE xs x a with
    | some (.bl false) => some (.bl false)
    | some (.bl true) => hE xs x b
    | _ => none)
where go : List HE → Option (List AV)
  | [] => some []
  | e :: es => (match hE xs x e, go es with
    | some v, some vs => some (v :: vs)
    | _, _ => none)
def hS (xs : List XI) (x : AX) : List HS → Option AV
  | [] => none
  | .ret h :: _ => hE xs x h
  | .ifr c h :: r => (match hE xs x c with
    | some (.bl true) => hE xs x h
    | some (.bl false) => hS xs x r
    | _ => none)
def exs (ex : IS → Slots → Sto → Rs Fl) : List IS → Slots → Sto → Rs Fl
  | [], σ, s => .ok (.nx σ) s
  | [st], σ, s => ex st σ s
  | st :: r, σ, s => (ex st σ s).bd fun f s => match f with
    | .nx σ => exs ex r σ s
    | f => .ok f s
def exI : Nat → IS → Slots → Sto → Rs Fl
  | 0, _, _, _ => .bad
  | n + 1, st, σ, s => match st with
    | .ex e => (evI F C 0 n e σ s).bd fun _ s => .ok (.nx σ) s
    | .asg t e => (evI F C 0 n e σ s).bd fun x s => (opt (asT s t x σ) s).bd fun σ s => .ok (.nx σ) s
    | .put o i e => (evI F C 0 n e σ s).bd fun v s => (evI F C 0 n o σ s).bd fun x s => (evI F C 0 n i σ s).bd fun y s => (match x, y with
      | .ref k, .int j => (match s[k]? with
        | some (.lst xs) => (match L2.ixN xs.length j with
          | some m => .ok (.nx σ) (s.set k (.lst (xs.set m v)))
          | none => .bad)
        | _ => .bad)
      | _, _ => .bad)
    | .aug i op e => (match σ[i]? with
      | some (some (.int a)) => (evI F C 0 n e σ s).bd fun y s => (match op, y with
        | .add, .int b => .ok (.nx (σ.set i (some (.int (a + b))))) s
        | .sub, .int b => .ok (.nx (σ.set i (some (.int (a - b))))) s
        | _, _ => .bad)
      | _ => .bad)
    | .ret e => (evI F C 0 n e σ s).bd fun x s => .ok (.rt x) s
    | .retN => .ok (.rt .non) s
    | .ifs c a b => (evI F C 0 n c σ s).bd fun x s => (opt (truth s x) s).bd fun k s => if k then exs (exI n) a σ s else exs (exI n) b σ s
    | .for_ t w it body => (evs (evI F C 0 n) it σ s).bd fun xs s => (opt (walk w xs s) s).bd fun ys s => forLoop (exs (exI n) body) t w xs ys ys σ s
    | .while_ c body => whileLoop (fun σ s => (evI F C 0 n c σ s).bd fun x s => opt (truth s x) s) (exs (exI n) body) MANY σ s
    | .brk => .ok (.bk σ) s
    | .cont => .ok (.ct σ) s
    | .pass => .ok (.nx σ) s
    | .setf o f e => (evI F C 0 n e σ s).bd fun v s => (evI F C 0 n o σ s).bd fun x s => (match x with
      | .ref k => (match s[k]? with
        | some (.ins c fs) => (match C.k[c]? with
          | some ci => if f ∈ ci.fl ∧ fs.length < 1000 then .ok (.nx σ) (s.set k (.ins c (putA f v fs))) else .bad
          | none => .bad)
        | _ => .bad)
      | _ => .bad)
    | .augf o f op e => (evI F C 0 n o σ s).bd fun x s => (match x with
      | .ref k => (match s[k]? with
        | some (.ins c fs) => (match C.k[c]? with
          | some ci => if f ∈ ci.fl then (match fs.lookup f with
            | some (.int a) => (evI F C 0 n e σ s).bd fun y s => (match y, s[k]? with
              | .int b, some (.ins c2 fs2) => (match opI op a b with
                | some r => if c2 = c ∧ fs2.length < 1000 then .ok (.nx σ) (s.set k (.ins c (putA f (.int r) fs2))) else .bad
                | none => .bad)
              | _, _ => .bad)
            | _ => .bad) else .bad
          | none => .bad)
        | _ => .bad)
      | _ => .bad)
    | .putc o lo es => (noX (evs (evI F C 0 n) es σ s)).bd fun xs s => (F 0 CLO xs s).bd fun v s => (evI F C 0 n o σ s).bd fun x s => (evI F C 0 n lo σ s).bd fun y s => (match x, y with
      | .ref k, .int j => (match s[k]? with
        | some (.lst ys) => if 0 ≤ j ∧ j ≤ ys.length ∧ ys.length < LINE then .ok (.nx σ) (s.set k (.lst (ys.take j.toNat ++ [v]))) else .bad
        | _ => .bad)
      | _, _ => .bad)
    | .putd o i e => (evI F C 0 n e σ s).bd fun v s => (evI F C 0 n o σ s).bd fun x s => (evI F C 0 n i σ s).bd fun y s => (match x, keyA y with
      | .ref k, some ky => (match s[k]? with
        | some (.dct kvs) => if kvs.length < LINE then .ok (.nx σ) (s.set k (.dct (storeK kvs ky v))) else .bad
        | _ => .bad)
      | _, _ => .bad)
    | .raise_ c es => (match C.x[c]? with
      | some xi => if xi.fl.isEmpty then .bad else (evs (evI F C 0 n) es σ s).bd fun xs s => if xs.length = xi.fl.length then .exc ⟨c, xs⟩ s else .bad
      | none => .bad)
    | .try_ body c nm hs => (match exs (exI n) body σ s with
      | .ok f s => .ok f s
      | .exc x s => (match C.x[x.cls]? with
        | some xi => if c ∈ xi.up then (if x.fs.isEmpty then .bad else (opt (hS C.x x hs) s).bd fun v s => .ok (.rt v) s) else .exc x s
        | none => .bad)
      | .bad => .bad)
end
/-- a def: how many names it has, its parameters' number, its body -/
structure Df where
  names : Nat
  pars : Nat
  body : List IS
/-- what was made and is held by nobody is let go -/
def letGo (n : Nat) (v : AV) (s : Sto) : Sto := if lowA n v && (s.take n).all (lowO n) then s.take n else s
def runD (F : Nat → Nat → List AV → Sto → Rs AV) (C : Gt) (d : Df) (xs : List AV) (s : Sto) : Rs AV :=
  if xs.length = d.pars then (exs (exI F C 100) d.body (xs.map some ++ List.replicate (d.names - d.pars) none) s).bd fun f s' => match f with
    | .nx _ => .ok .non (letGo s.length .non s')
    | .rt v => .ok v (letGo s.length v s')
    | _ => .bad
  else .bad
/-- the function that is handed to a def, k calls deep -/
def cloF (T : Nat → Nat → List AV → Sto → Rs AV) (C : Gt) (L : Lam) (caps : List AV) : List AV → Sto → Rs AV := match L.kd with
  | .fn j => T 0 j
  | .lam pars ps fr body => fun ys s => if ys.length = pars ∧ ps.length = pars ∧ caps.length = fr.length then (evI (fun g => T (4 * g)) C 1 99 body (ys.map some ++ caps.map some) s).bd fun v s' => .ok v (letGo s.length v s') else .bad
def withC (T : Nat → Nat → List AV → Sto → Rs AV) (c : List AV → Sto → Rs AV) (d j : Nat) : List AV → Sto → Rs AV := if j = CLO then (if d = 0 then c else fun _ _ => .bad) else T d j
def runH (T : Nat → Nat → List AV → Sto → Rs AV) (C : Gt) (L : Lam) (d : Df) (xs : List AV) (s : Sto) : Rs AV :=
  if xs.length = L.na + L.nc ∧ d.pars = L.na + 1 then (exs (exI (fun g => withC T (cloF T C L (xs.drop L.na)) (4 * g)) C 100) d.body ((xs.take L.na).map some ++ List.replicate (d.names - L.na) none) s).bd fun f s' => match f with
    | .nx _ => .ok .non (letGo s.length .non s')
    | .rt v => .ok v (letGo s.length v s')
    | _ => .bad
  else .bad
/-- all defs, k calls deep, d of them spent -/
def tab (C : Gt) (ds : List Df) : Nat → Nat → Nat → List AV → Sto → Rs AV
  | 0, _ => fun _ _ _ => .bad
  | k + 1, 0 => fun f xs s => match ds[f]? with
    | some d => runD (fun g => tab C ds k (4 * g)) C d xs s
    | none => if f < HOF then .bad else (match C.lm[f - HOF]? with
      | some L => (match ds[L.f]? with
        | some d => runH (tab C ds k) C L d xs s
        | none => .bad)
      | none => .bad)
  | k + 1, d + 1 => tab C ds k d
end Jp


set_option Elab.async false
set_option linter.all false
set_option maxRecDepth 100000
set_option maxHeartbeats 4000000
namespace Jp
open PySem PySem.Spec PyProof.Rows L2
def all2 {α β : Type} (f : α → β → Bool) : List α → List β → Bool
  | [], [] => true
  | a :: r, b :: t => f a b && all2 f r t
  | _, _ => false
def bltins : List Str := ["len", "int", "str", "repr", "list", "tuple", "sorted", "set", "isinstance", "all", "any", "sum", "min", "max", "dict", "range", "bool", "ValueError", "abs"]
/-- a def: its statement, its name, its names (the parameters first), the parameters, what it is in the small language; the class that it stands in, its qualified name, its defaults -/
structure DI where
  st : Stmt
  x : Str
  N : List Str
  ps : List Str
  d : Df
  cl : Option Str
  qual : Str
  dv : List He.Dv
/-- as a def of the module -/
def DI.fnm (q : DI) : Str := match q.cl with
  | none => q.x
  | some _ => ""
def DI.at_ (q : DI) : Str × Option Str := match q.cl with
  | none => (q.x, none)
  | some c => (c, some q.x)
def dvOk : He.Dv → AV → Bool
  | .non, .non => true
  | .bl a, .bl b => a == b
  | .int a, .int b => a == b
  | .str a, .str b => a == b
  | _, _ => false
/-! ### the module's constants -/
mutual
def rpV (K : PySem.W.Frag) (u : Value) : AV → Bool
  | .non => (match u with
    | .none => true
    | _ => false)
  | .bl b => (match u with
    | .bool c => b == c
    | _ => false)
  | .int i => (match u with
    | .int j _ => decide (i = j)
    | _ => false)
  | .str x => (match u with
    | .str y _ => decide (x = y)
    | _ => false)
  | .tup ds => (match u with
    | .ref a => (match K.lookup a with
      | some ⟨.type c, _, .seq its _, _⟩ => decide (c = "tuple") && decide (its.size ≤ sizeLine) && rpVs K its.toList ds
      | _ => false)
    | _ => false)
  | .lst ds => (match u with
    | .ref a => (match K.lookup a with
      | some ⟨.type c, none, .seq its _, _⟩ => decide (c = "list") && decide (its.size ≤ sizeLine) && rpVs K its.toList ds
      | _ => false)
    | _ => false)
  | .ref _ => false
  | .fn _ => false
def rpVs (K : PySem.W.Frag) : List Value → List AV → Bool
  | [], [] => true
  | u :: us, d :: ds => rpV K u d && rpVs K us ds
  | _, _ => false
end
def conOk (K : PySem.W.Frag) : List Str → List AV → Bool
  | [], [] => true
  | x :: xs, d :: ds => (match PySem.W.nsIn K mainGlobals x with
    | some (some u) => rpV K u d
    | _ => false) && conOk K xs ds
  | _, _ => false
def entOk (K : PySem.W.Frag) (e : DictEntry) (kv : Str × AV) : Bool := (match e.key with
  | .str x _ => decide (x = kv.1)
  | _ => false) && rpV K e.val kv.2
def dctOk (K : PySem.W.Frag) (x : Str) (kvs : List (Str × AV)) : Bool := match K.lookup (He.ga K x) with
  | some ⟨_, _, .dict es _, _⟩ => all2 (entOk K) es.toList kvs
  | _ => false
def oexB (K : PySem.W.Frag) (C : Addr) : Bool := (match K.lookup C with
  | some ⟨.type c, _, .cls cd, sl⟩ => decide (c = "type") && (match cd.mro, sl.toList with
    | .ref C' :: bm, [_, _, _, _, some (.builtin n), _] => decide (C' = C) && decide (n = "ValueError.__new__") && !cd.hasDel && cd.hasDict && PySem.HandSPX.refsVE bm
    | _, _ => false)
  | _ => false) && decide (PySem.W.findIn K (.ref C) "__setattr__" = some (some (.builtin "object.__setattr__"))) && decide (PySem.W.subIn K (.ref C) (.type "BaseException") = some true) && decide (PySem.W.typeIn K (.ref C) = some (.type "type")) && PySem.W.keepIn K (.ref C)
def xsB (K : PySem.W.Frag) (C : Addr) (fl : List Str) : Bool := xfB K C && decide fl.Nodup && (fl.all fun f => decide (PySem.W.findIn K (.ref C) f = some none)) && (PySem.W.clsIn K C).isSome && decide (PySem.W.findIn K (.ref C) "__class__" = some (some (.builtin "object.__class__"))) &&
  decide (PySem.W.specialIn K (.builtin "object.__class__") "__get__" = some (some (.builtin "getset_descriptor.__get__"))) && decide (PySem.W.takesIn K (.builtin "object.__class__") = some true) && decide (PySem.W.mroIn K C (.type "object") = some true) && decide (PySem.W.kitOne K (.ref C) (.type "ValueError") = some true)
/-- a class of errors with an __init__ of its own -/
structure XDI where
  st : Stmt
  N : List Str
  ps : List Str
  nm : Str
  qual : Str
  fl : List Str
def XDI.dd (q : XDI) : He.DefD := ⟨(q.nm, some "__init__"), "__init__", q.qual, defArgs q.st, defBody q.st, defScope q.st, [], []⟩
/-- all of them: which is one of which; j, the others' places -/
def xxB (K : PySem.W.Frag) (C : Gt) : Bool := C.x.all fun xi => xsB K (He.ga K xi.nm) xi.fl && ((List.range C.x.length).all fun j => match C.x[j]? with
  | some xj => decide (PySem.W.exmOne K (.ref (He.ga K xi.nm)) (.ref (He.ga K xj.nm)) = some (decide (j ∈ xi.up))) && decide (PySem.W.kitOne K (.ref (He.ga K xi.nm)) (.ref (He.ga K xj.nm)) = some (decide (j ∈ xi.up)))
  | none => true)
def initB (K : PySem.W.Frag) (q : XDI) : Bool := oexB K (He.ga K q.nm) && decide (PySem.W.findIn K (.ref (He.ga K q.nm)) "__init__" = some (some (.ref (He.fAd K (q.nm, some "__init__"))))) && decide (PySem.W.typeIn K (.ref (He.fAd K (q.nm, some "__init__"))) = some (.type "function"))
/-- what is looked at of the written part -/
def moreB (K : PySem.W.Frag) (cn : Nm) (C : Gt) (xd : List XDI) : Bool := conOk K cn.c C.c && all2 (fun x kvs => dctOk K x kvs) cn.d C.d && xxB K C && xd.all (initB K)
/-! ### what the head tells -/
def DI.dd (q : DI) : He.DefD := ⟨q.at_, q.x, q.qual, defArgs q.st, defBody q.st, defScope q.st, q.dv, []⟩
def ciFa (ci : CI) : List He.Fa := [He.Fa.glo ci.nm, He.Fa.cls ci.nm] ++ ci.fl.map (He.Fa.noat ci.nm) ++ ci.ms.map (fun p => He.Fa.meth ci.nm p.1) ++ (match ci.ini with
  | some _ => [He.Fa.mkr ci.nm]
  | none => [])
def hFa (qs : List DI) (cn : Nm) (C : Gt) : List He.Fa := qs.flatMap (fun q => match q.cl with
  | none => [He.Fa.glo q.x]
  | some _ => []) ++ bltins.map He.Fa.free ++ C.k.flatMap ciFa ++ C.x.map (fun xi => He.Fa.glo xi.nm) ++ cn.d.map He.Fa.glo
def hTs (cn : Nm) (C : Gt) : List He.Tab := (cn.d.zip C.d).map fun p => ((fun K => He.ga K p.1), p.2.map (·.1))
/-- what needs no look at the written part -/
def clsB (qs : List DI) (cn : Nm) (C : Gt) (xd : List XDI) : Bool := decide (cn.k = C.k.map (·.nm)) && decide (cn.x = C.x.map (·.nm)) && decide (cn.d.length = C.d.length) &&
  (C.k.all fun ci => (ci.ms.all fun p => match qs[p.2]? with
    | some q => decide (q.cl = some ci.nm) && decide (q.x = p.1) && (match C.df[p.2]? with
      | some df => all2 dvOk q.dv df
      | none => true)
    | none => false) && (match ci.ini with
      | some f => (match qs[f]? with
        | some q => decide (q.cl = some ci.nm) && decide (q.x = "__init__") && q.dv.isEmpty
        | none => false)
      | none => true)) &&
  (C.x.all fun xi => xi.fl.isEmpty || xd.any fun q => decide (q.nm = xi.nm) && decide (q.fl = xi.fl)) && (qs.all fun q => match q.cl with
    | none => q.dv.isEmpty
    | some _ => true)
end Jp


set_option Elab.async false
set_option linter.all false
set_option maxRecDepth 100000
namespace Jp
open PySem PySem.Spec PyProof.Rows L2
/-- a def that makes lambdas -/
def DI.mkr (q : DI) : Bool := decide (("<lambda>" : Str) ∈ q.N)
def DI.tab (K : PySem.W.Frag) (q : DI) : Nat := (He.cT K q.at_).2
def noB (P : Nat) (l : List Nat) : Bool := l.all fun a => !(Nat.beq a P)
def disB : List Nat → Bool
  | [] => true
  | a :: r => noB a r && disB r
/-- their tables are their own -/
def tabsB (K : PySem.W.Frag) (qs : List DI) : Bool := (((qs.filter DI.mkr).map (DI.tab K)).all fun P => noB P ((qs.filter fun q => !q.mkr).map (DI.tab K))) && disB ((qs.filter DI.mkr).map (DI.tab K))
def moreQ (K : PySem.W.Frag) (qs : List DI) (cn : Nm) (C : Gt) (xd : List XDI) : Bool := moreB K cn C xd && tabsB K qs
def lmB (qs : List DI) (cn : Nm) : Bool := decide (qs.length ≤ CLO) && cn.lm.all fun L => match qs[L.f]? with
  | some q => decide (q.N[L.na]? = some "combine")
  | none => false
end Jp


set_option Elab.async false
set_option linter.all false
set_option maxRecDepth 1000000
set_option maxHeartbeats 4000000
namespace L03
open PySem Jp
/-- parts_of -/
def d0 : Df := ⟨2, 1,
    [(.asg (.nm 1) (.idx (.slot 0) (.lit (.int 0)))),
      (.ifs (.cmp .in_ (.slot 1) (.tup [(.lit (.str ⟨⟨[110, 111, 116]⟩⟩)), (.lit (.str ⟨⟨[109, 105, 110, 117, 115]⟩⟩)), (.lit (.str ⟨⟨[105, 102]⟩⟩))])) [(.ret (.sl (.slot 0) (some (.lit (.int 1))) none))] []),
      (.ifs (.cmp .eq (.slot 1) (.lit (.str ⟨⟨[111, 112]⟩⟩))) [(.ret (.sl (.slot 0) (some (.lit (.int 2))) none))] []),
      (.ret (.tup []))]⟩
/-- all_parts -/
def d1 : Df := ⟨4, 1,
    [(.asg (.nm 1) (.lst [])),
      (.asg (.nm 2) (.lst [(.slot 0)])),
      (.while_ (.slot 2) [(.asg (.nm 3) (.me .pop (.slot 2) [])),
      (.ex (.me .append (.slot 1) [(.slot 3)])),
      (.ex (.me .extend (.slot 2) [(.call 0 [(.slot 3)])]))]),
      (.ex (.me .reverse (.slot 1) [])),
      (.ret (.slot 1))]⟩
/-- fold -/
def d2 : Df := ⟨5, 2,
    [(.asg (.nm 2) (.lst [])),
      (.for_ (.nm 3) .seq [(.call 1 [(.slot 0)])] [(.asg (.nm 4) (.bin .sub (.bi .len [(.slot 2)]) (.bi .len [(.call 0 [(.slot 3)])]))),
      (.putc (.slot 2) (.slot 4) [(.slot 3), (.sl (.slot 2) (some (.slot 4)) none)])]),
      (.ret (.idx (.slot 2) (.lit (.int 0))))]⟩
/-- meaning -/
def d3 : Df := ⟨5, 4,
    [(.ret (.callh 0 [(.slot 0)] [(.slot 1), (.slot 2), (.slot 3)]))]⟩
/-- _value_of_part -/
def d4 : Df := ⟨6, 5,
    [(.asg (.nm 5) (.idx (.slot 0) (.lit (.int 0)))),
      (.ifs (.cmp .eq (.slot 5) (.lit (.str ⟨⟨[110, 97, 109, 101]⟩⟩))) [(.ret (.dg1 (.slot 2) (.idx (.slot 0) (.lit (.int 1)))))] []),
      (.ifs (.cmp .eq (.slot 5) (.lit (.str ⟨⟨[114, 111, 119]⟩⟩))) [(.ret (.ife (.cmp .isN (.slot 4) (.lit .non)) (.lit .non) (.tup [(.lit (.str ⟨⟨[110, 117, 109, 98, 101, 114]⟩⟩)), (.slot 4)])))] []),
      (.ifs (.cmp .eq (.slot 5) (.lit (.str ⟨⟨[110, 111, 116]⟩⟩))) [(.ret (.call 6 [(.idx (.slot 1) (.lit (.int 0)))]))] []),
      (.ifs (.cmp .eq (.slot 5) (.lit (.str ⟨⟨[109, 105, 110, 117, 115]⟩⟩))) [(.ret (.call 14 [(.lit (.str ⟨⟨[45]⟩⟩)), (.tup [(.lit (.str ⟨⟨[110, 117, 109, 98, 101, 114]⟩⟩)), (.lit (.int 0))]), (.idx (.slot 1) (.lit (.int 0)))]))] []),
      (.ifs (.cmp .eq (.slot 5) (.lit (.str ⟨⟨[111, 112]⟩⟩))) [(.ret (.call 9 [(.idx (.slot 0) (.lit (.int 1))), (.idx (.slot 1) (.lit (.int 0))), (.idx (.slot 1) (.lit (.int 1)))]))] []),
      (.ifs (.cmp .eq (.slot 5) (.lit (.str ⟨⟨[105, 102]⟩⟩))) [(.ret (.call 7 [(.idx (.slot 1) (.lit (.int 0))), (.idx (.slot 1) (.lit (.int 1))), (.idx (.slot 1) (.lit (.int 2)))]))] []),
      (.ifs (.cmp .eq (.slot 5) (.lit (.str ⟨⟨[104, 97, 115]⟩⟩))) [(.ret (.call 8 [(.dg1 (.slot 2) (.idx (.slot 0) (.lit (.int 1)))), (.idx (.slot 0) (.lit (.int 2)))]))] []),
      (.ifs (.an (.cmp .eq (.slot 5) (.lit (.str ⟨⟨[97, 115, 107]⟩⟩))) (.cmp .eq (.idx (.slot 0) (.lit (.int 1))) (.lit (.str ⟨⟨[97, 110, 115, 119, 101, 114, 101, 100]⟩⟩)))) [(.ret (.tup [(.lit (.str ⟨⟨[116, 114, 117, 116, 104]⟩⟩)), (.cmp .noN (.dg1 (.slot 2) (.idx (.slot 0) (.lit (.int 2)))) (.lit .non))]))] []),
      (.ifs (.cmp .eq (.slot 5) (.lit (.str ⟨⟨[97, 115, 107]⟩⟩))) [(.ret (.call 16 [(.idx (.slot 0) (.lit (.int 1))), (.dg2 (.slot 3) (.idx (.slot 0) (.lit (.int 2))) (.tup []))]))] []),
      (.ret (.slot 0))]⟩
/-- _worth -/
def d5 : Df := ⟨2, 2,
    [(.ret (.ife (.an (.cmp .noN (.slot 0) (.lit .non)) (.cmp .eq (.idx (.slot 0) (.lit (.int 0))) (.slot 1))) (.idx (.slot 0) (.lit (.int 1))) (.lit .non)))]⟩
/-- _negation -/
def d6 : Df := ⟨2, 1,
    [(.asg (.nm 1) (.call 5 [(.slot 0), (.lit (.str ⟨⟨[116, 114, 117, 116, 104]⟩⟩))])),
      (.ret (.ife (.cmp .isN (.slot 1) (.lit .non)) (.lit .non) (.tup [(.lit (.str ⟨⟨[116, 114, 117, 116, 104]⟩⟩)), (.nt (.slot 1))])))]⟩
/-- _choice -/
def d7 : Df := ⟨4, 3,
    [(.asg (.nm 3) (.call 5 [(.slot 0), (.lit (.str ⟨⟨[116, 114, 117, 116, 104]⟩⟩))])),
      (.ifs (.cmp .isN (.slot 3) (.lit .non)) [(.ret (.lit .non))] []),
      (.ret (.ife (.slot 3) (.slot 1) (.slot 2)))]⟩
/-- _membership -/
def d8 : Df := ⟨3, 2,
    [(.asg (.nm 2) (.call 5 [(.slot 0), (.lit (.str ⟨⟨[111, 112, 116, 105, 111, 110, 115]⟩⟩))])),
      (.ret (.ife (.cmp .isN (.slot 2) (.lit .non)) (.lit .non) (.tup [(.lit (.str ⟨⟨[116, 114, 117, 116, 104]⟩⟩)), (.cmp .in_ (.slot 1) (.slot 2))])))]⟩
/-- _operation -/
def d9 : Df := ⟨3, 3,
    [(.ifs (.cmp .eq (.slot 0) (.lit (.str ⟨⟨[63, 63]⟩⟩))) [(.ret (.ife (.cmp .isN (.slot 1) (.lit .non)) (.slot 2) (.slot 1)))] []),
      (.ifs (.cmp .eq (.slot 0) (.lit (.str ⟨⟨[111, 114]⟩⟩))) [(.ret (.call 11 [(.tup [(.slot 1), (.slot 2)])]))] []),
      (.ifs (.cmp .eq (.slot 0) (.lit (.str ⟨⟨[97, 110, 100]⟩⟩))) [(.ret (.call 10 [(.tup [(.slot 1), (.slot 2)])]))] []),
      (.ifs (.cmp .in_ (.slot 0) (.tup [(.lit (.str ⟨⟨[61]⟩⟩)), (.lit (.str ⟨⟨[60, 62]⟩⟩))])) [(.ret (.call 12 [(.slot 0), (.slot 1), (.slot 2)]))] []),
      (.ifs (.cmp .in_ (.slot 0) (.tup [(.lit (.str ⟨⟨[43]⟩⟩)), (.lit (.str ⟨⟨[45]⟩⟩)), (.lit (.str ⟨⟨[42]⟩⟩))])) [(.ret (.call 14 [(.slot 0), (.slot 1), (.slot 2)]))] []),
      (.ret (.call 13 [(.slot 0), (.slot 1), (.slot 2)]))]⟩
/-- _all_of -/
def d10 : Df := ⟨3, 1,
    [(.asg (.nm 1) (.lc [(⟨⟨[118, 97, 108, 117, 101]⟩⟩, 2)] (.call 5 [(.slot 2), (.lit (.str ⟨⟨[116, 114, 117, 116, 104]⟩⟩))]) (.nm 2) .seq [(.slot 0)] [])),
      (.ifs (.cmp .in_ (.lit (.bl false)) (.slot 1)) [(.ret (.tup [(.lit (.str ⟨⟨[116, 114, 117, 116, 104]⟩⟩)), (.lit (.bl false))]))] []),
      (.ret (.ife (.cmp .in_ (.lit .non) (.slot 1)) (.lit .non) (.tup [(.lit (.str ⟨⟨[116, 114, 117, 116, 104]⟩⟩)), (.lit (.bl true))])))]⟩
/-- _any_of -/
def d11 : Df := ⟨3, 1,
    [(.asg (.nm 1) (.lc [(⟨⟨[118, 97, 108, 117, 101]⟩⟩, 2)] (.call 5 [(.slot 2), (.lit (.str ⟨⟨[116, 114, 117, 116, 104]⟩⟩))]) (.nm 2) .seq [(.slot 0)] [])),
      (.ifs (.cmp .in_ (.lit (.bl true)) (.slot 1)) [(.ret (.tup [(.lit (.str ⟨⟨[116, 114, 117, 116, 104]⟩⟩)), (.lit (.bl true))]))] []),
      (.ret (.ife (.cmp .in_ (.lit .non) (.slot 1)) (.lit .non) (.tup [(.lit (.str ⟨⟨[116, 114, 117, 116, 104]⟩⟩)), (.lit (.bl false))])))]⟩
/-- _likeness -/
def d12 : Df := ⟨3, 3,
    [(.ifs (.or_ (.cmp .isN (.slot 1) (.lit .non)) (.cmp .isN (.slot 2) (.lit .non))) [(.ret (.lit .non))] []),
      (.ret (.tup [(.lit (.str ⟨⟨[116, 114, 117, 116, 104]⟩⟩)), (.cmp .eq (.cmp .eq (.slot 1) (.slot 2)) (.cmp .eq (.slot 0) (.lit (.str ⟨⟨[61]⟩⟩))))]))]⟩
/-- _comparison -/
def d13 : Df := ⟨5, 3,
    [(.asg (.tp [(.nm 3), (.nm 4)]) (.tup [(.call 5 [(.slot 1), (.lit (.str ⟨⟨[110, 117, 109, 98, 101, 114]⟩⟩))]), (.call 5 [(.slot 2), (.lit (.str ⟨⟨[110, 117, 109, 98, 101, 114]⟩⟩))])])),
      (.ifs (.or_ (.cmp .isN (.slot 3) (.lit .non)) (.cmp .isN (.slot 4) (.lit .non))) [(.ret (.lit .non))] []),
      (.ifs (.cmp .eq (.slot 0) (.lit (.str ⟨⟨[60]⟩⟩))) [(.ret (.tup [(.lit (.str ⟨⟨[116, 114, 117, 116, 104]⟩⟩)), (.cmp .lt (.slot 3) (.slot 4))]))] []),
      (.ifs (.cmp .eq (.slot 0) (.lit (.str ⟨⟨[60, 61]⟩⟩))) [(.ret (.tup [(.lit (.str ⟨⟨[116, 114, 117, 116, 104]⟩⟩)), (.cmp .le (.slot 3) (.slot 4))]))] []),
      (.ifs (.cmp .eq (.slot 0) (.lit (.str ⟨⟨[62]⟩⟩))) [(.ret (.tup [(.lit (.str ⟨⟨[116, 114, 117, 116, 104]⟩⟩)), (.cmp .gt (.slot 3) (.slot 4))]))] []),
      (.ret (.tup [(.lit (.str ⟨⟨[116, 114, 117, 116, 104]⟩⟩)), (.cmp .ge (.slot 3) (.slot 4))]))]⟩
/-- _calculation -/
def d14 : Df := ⟨5, 3,
    [(.asg (.tp [(.nm 3), (.nm 4)]) (.tup [(.call 5 [(.slot 1), (.lit (.str ⟨⟨[110, 117, 109, 98, 101, 114]⟩⟩))]), (.call 5 [(.slot 2), (.lit (.str ⟨⟨[110, 117, 109, 98, 101, 114]⟩⟩))])])),
      (.ifs (.or_ (.cmp .isN (.slot 3) (.lit .non)) (.cmp .isN (.slot 4) (.lit .non))) [(.ret (.lit .non))] []),
      (.ifs (.cmp .eq (.slot 0) (.lit (.str ⟨⟨[43]⟩⟩))) [(.ret (.call 15 [(.bin .add (.slot 3) (.slot 4))]))] []),
      (.ifs (.cmp .eq (.slot 0) (.lit (.str ⟨⟨[45]⟩⟩))) [(.ret (.call 15 [(.bin .sub (.slot 3) (.slot 4))]))] []),
      (.ret (.call 15 [(.bin .mul (.slot 3) (.slot 4))]))]⟩
/-- _result -/
def d15 : Df := ⟨1, 1,
    [(.ret (.ife (.chain .le .le (.neg (.con 0)) (.slot 0) (.con 0)) (.tup [(.lit (.str ⟨⟨[110, 117, 109, 98, 101, 114]⟩⟩)), (.slot 0)]) (.lit .non)))]⟩
/-- _value_over_rows -/
def d16 : Df := ⟨4, 2,
    [(.ifs (.cmp .eq (.slot 0) (.lit (.str ⟨⟨[99, 111, 117, 110, 116]⟩⟩))) [(.ret (.tup [(.lit (.str ⟨⟨[110, 117, 109, 98, 101, 114]⟩⟩)), (.bi .len [(.slot 1)])]))] []),
      (.ifs (.cmp .eq (.slot 0) (.lit (.str ⟨⟨[97, 110, 121]⟩⟩))) [(.ret (.call 11 [(.slot 1)]))] []),
      (.ifs (.cmp .eq (.slot 0) (.lit (.str ⟨⟨[97, 108, 108]⟩⟩))) [(.ret (.call 10 [(.slot 1)]))] []),
      (.asg (.nm 2) (.lc [(⟨⟨[118, 97, 108, 117, 101]⟩⟩, 3)] (.call 5 [(.slot 3), (.lit (.str ⟨⟨[110, 117, 109, 98, 101, 114]⟩⟩))]) (.nm 3) .seq [(.slot 1)] [])),
      (.ifs (.cmp .in_ (.lit .non) (.slot 2)) [(.ret (.lit .non))] []),
      (.ifs (.cmp .eq (.slot 0) (.lit (.str ⟨⟨[115, 117, 109]⟩⟩))) [(.ret (.call 15 [(.bi .sum [(.slot 2)])]))] []),
      (.ifs (.nt (.slot 2)) [(.ret (.lit .non))] []),
      (.ret (.tup [(.lit (.str ⟨⟨[110, 117, 109, 98, 101, 114]⟩⟩)), (.ife (.cmp .eq (.slot 0) (.lit (.str ⟨⟨[108, 101, 97, 115, 116]⟩⟩))) (.bi .min [(.slot 2)]) (.bi .max [(.slot 2)]))]))]⟩
/-- _law_is_integer -/
def d17 : Df := ⟨1, 1,
    [(.ret (.an (.isi (.slot 0) .int) (.nt (.isi (.slot 0) .bool))))]⟩
/-- _law_cell -/
def d18 : Df := ⟨2, 2,
    [(.ifs (.cmp .lt (.slot 1) (.bi .len [(.slot 0)])) [(.ret (.idx (.slot 0) (.slot 1)))] []),
      (.ret (.lit (.int 0)))]⟩
/-- _law_list_is -/
def d19 : Df := ⟨2, 2,
    [(.ret (.an (.isi (.slot 0) .list) (.cmp .eq (.bi .repr [(.slot 0)]) (.bi .repr [(.bi .list [(.slot 1)])]))))]⟩
/-- _law_same -/
def d20 : Df := ⟨2, 2,
    [(.ret (.cmp .eq (.bi .repr [(.slot 0)]) (.bi .repr [(.slot 1)])))]⟩
/-- _law_digits -/
def d21 : Df := ⟨8, 3,
    [(.asg (.nm 3) (.lst [])),
      (.for_ (.nm 4) .range2 [(.slot 1), (.slot 2)] [(.asg (.nm 5) (.call 18 [(.slot 0), (.slot 4)])),
      (.ifs (.cmp .lt (.slot 5) (.lit (.int 0))) [(.asg (.nm 5) (.bin .sub (.lit (.int 1)) (.bin .mul (.lit (.int 2)) (.slot 5))))] []),
      (.ifs (.cmp .ge (.slot 5) (.bin .pow (.lit (.int 10)) (.lit (.int 18)))) [(.for_ (.nm 6) .range1 [(.lit (.int 60))] [(.ifs (.cmp .gt (.slot 5) (.lit (.int 0))) [(.ex (.me .append (.slot 3) [(.bin .mod (.bi .int [(.slot 5)]) (.lit (.int 1000)))])),
      (.asg (.nm 5) (.bin .fdiv (.slot 5) (.lit (.int 1000))))] [])])] [(.asg (.nm 7) (.bin .mod (.bi .int [(.bin .add (.bin .add (.bin .mul (.slot 5) (.lit (.int 48271))) (.bin .mul (.slot 4) (.lit (.int 69621)))) (.lit (.int 11)))]) (.lit (.int 2147483647)))),
      (.for_ (.nm 6) .range1 [(.lit (.int 12))] [(.asg (.nm 7) (.bin .mod (.bi .int [(.bin .add (.bin .add (.bin .mul (.slot 7) (.lit (.int 16807))) (.bin .mul (.lit (.int 7)) (.slot 6))) (.lit (.int 1)))]) (.lit (.int 2147483647)))),
      (.ex (.me .append (.slot 3) [(.bin .mod (.bi .int [(.bin .fdiv (.slot 7) (.lit (.int 997)))]) (.lit (.int 1000)))]))])])]),
      (.ret (.slot 3))]⟩
/-- _law_draw -/
def d22 : Df := ⟨3, 2,
    [(.asg (.nm 2) (.idx (.slot 0) (.lit (.int 1)))),
      (.put (.slot 0) (.lit (.int 1)) (.bin .add (.slot 2) (.lit (.int 1)))),
      (.ifs (.cmp .lt (.slot 2) (.bi .len [(.idx (.slot 0) (.lit (.int 0)))])) [(.ret (.bin .mod (.bi .int [(.idx (.idx (.slot 0) (.lit (.int 0))) (.slot 2))]) (.slot 1)))] []),
      (.ret (.bin .mod (.bi .int [(.bin .add (.bin .mul (.slot 2) (.lit (.int 7))) (.lit (.int 3)))]) (.slot 1)))]⟩
/-- _law_pick -/
def d23 : Df := ⟨2, 2,
    [(.ret (.idx (.slot 1) (.bin .mod (.bi .int [(.call 22 [(.slot 0), (.lit (.int 90))])]) (.bi .len [(.slot 1)]))))]⟩
/-- _law_expression -/
def d24 : Df := ⟨5, 2,
    [(.asg (.nm 2) (.call 22 [(.slot 0), (.lit (.int 12))])),
      (.ifs (.or_ (.cmp .eq (.slot 1) (.lit (.int 0))) (.cmp .lt (.slot 2) (.lit (.int 4)))) [(.asg (.nm 3) (.lst [(.tup [(.lit (.str ⟨⟨[110, 117, 109, 98, 101, 114]⟩⟩)), (.idx (.lst [(.lit (.int 0)), (.lit (.int 1)), (.lit (.int 7)), (.lit (.int 9999))]) (.call 22 [(.slot 0), (.lit (.int 4))]))]), (.tup [(.lit (.str ⟨⟨[116, 114, 117, 116, 104]⟩⟩)), (.cmp .eq (.call 22 [(.slot 0), (.lit (.int 2))]) (.lit (.int 1)))]), (.tup [(.lit (.str ⟨⟨[111, 112, 116, 105, 111, 110]⟩⟩)), (.call 23 [(.slot 0), (.lst [(.lit (.str ⟨⟨[111, 49]⟩⟩)), (.lit (.str ⟨⟨[111, 50]⟩⟩)), (.lit (.str ⟨⟨[114, 111, 119, 49]⟩⟩))])])]), (.tup [(.lit (.str ⟨⟨[114, 111, 119]⟩⟩))])])),
      (.asg (.nm 3) (.bin .add (.slot 3) (.lst [(.tup [(.lit (.str ⟨⟨[110, 97, 109, 101]⟩⟩)), (.call 23 [(.slot 0), (.lst [(.lit (.str ⟨⟨[97]⟩⟩)), (.lit (.str ⟨⟨[98]⟩⟩)), (.lit (.str ⟨⟨[99]⟩⟩)), (.lit (.str ⟨⟨[115, 117, 109]⟩⟩)), (.lit (.str ⟨⟨[104, 97, 115]⟩⟩))])])]), (.tup [(.lit (.str ⟨⟨[110, 97, 109, 101]⟩⟩)), (.call 23 [(.slot 0), (.lst [(.lit (.str ⟨⟨[97]⟩⟩)), (.lit (.str ⟨⟨[98]⟩⟩)), (.lit (.str ⟨⟨[109]⟩⟩))])])])]))),
      (.ex (.me .append (.slot 3) [(.tup [(.lit (.str ⟨⟨[97, 115, 107]⟩⟩)), (.call 23 [(.slot 0), (.lst [(.lit (.str ⟨⟨[97, 110, 115, 119, 101, 114, 101, 100]⟩⟩)), (.lit (.str ⟨⟨[99, 111, 117, 110, 116]⟩⟩)), (.lit (.str ⟨⟨[115, 117, 109]⟩⟩)), (.lit (.str ⟨⟨[97, 110, 121]⟩⟩)), (.lit (.str ⟨⟨[97, 108, 108]⟩⟩)), (.lit (.str ⟨⟨[108, 101, 97, 115, 116]⟩⟩)), (.lit (.str ⟨⟨[103, 114, 101, 97, 116, 101, 115, 116]⟩⟩))])]), (.call 23 [(.slot 0), (.lst [(.lit (.str ⟨⟨[97]⟩⟩)), (.lit (.str ⟨⟨[109]⟩⟩)), (.lit (.str ⟨⟨[110]⟩⟩)), (.lit (.str ⟨⟨[99, 111, 117, 110, 116]⟩⟩))])])])])),
      (.ret (.idx (.bin .add (.slot 3) (.lst [(.tup [(.lit (.str ⟨⟨[104, 97, 115]⟩⟩)), (.call 23 [(.slot 0), (.lst [(.lit (.str ⟨⟨[115]⟩⟩)), (.lit (.str ⟨⟨[97]⟩⟩))])]), (.call 23 [(.slot 0), (.lst [(.lit (.str ⟨⟨[111, 49]⟩⟩)), (.lit (.str ⟨⟨[111, 50]⟩⟩))])])])])) (.call 22 [(.slot 0), (.lit (.int 8))])))] []),
      (.ifs (.cmp .eq (.slot 2) (.lit (.int 4))) [(.ret (.tup [(.lit (.str ⟨⟨[110, 111, 116]⟩⟩)), (.call 24 [(.slot 0), (.bin .sub (.slot 1) (.lit (.int 1)))])]))] []),
      (.ifs (.cmp .eq (.slot 2) (.lit (.int 5))) [(.ret (.tup [(.lit (.str ⟨⟨[109, 105, 110, 117, 115]⟩⟩)), (.call 24 [(.slot 0), (.bin .sub (.slot 1) (.lit (.int 1)))])]))] []),
      (.ifs (.cmp .eq (.slot 2) (.lit (.int 6))) [(.ret (.tup [(.lit (.str ⟨⟨[105, 102]⟩⟩)), (.call 24 [(.slot 0), (.bin .sub (.slot 1) (.lit (.int 1)))]), (.call 24 [(.slot 0), (.bin .sub (.slot 1) (.lit (.int 1)))]), (.call 24 [(.slot 0), (.bin .sub (.slot 1) (.lit (.int 1)))])]))] []),
      (.asg (.nm 4) (.idx (.lst [(.lit (.str ⟨⟨[111, 114]⟩⟩)), (.lit (.str ⟨⟨[97, 110, 100]⟩⟩)), (.lit (.str ⟨⟨[61]⟩⟩)), (.lit (.str ⟨⟨[60, 62]⟩⟩)), (.lit (.str ⟨⟨[60]⟩⟩)), (.lit (.str ⟨⟨[60, 61]⟩⟩)), (.lit (.str ⟨⟨[62]⟩⟩)), (.lit (.str ⟨⟨[62, 61]⟩⟩)), (.lit (.str ⟨⟨[43]⟩⟩)), (.lit (.str ⟨⟨[45]⟩⟩)), (.lit (.str ⟨⟨[42]⟩⟩)), (.lit (.str ⟨⟨[63, 63]⟩⟩)), (.lit (.str ⟨⟨[97, 110, 100]⟩⟩)), (.lit (.str ⟨⟨[43]⟩⟩))]) (.call 22 [(.slot 0), (.lit (.int 14))]))),
      (.ret (.tup [(.lit (.str ⟨⟨[111, 112]⟩⟩)), (.slot 4), (.call 24 [(.slot 0), (.bin .sub (.slot 1) (.lit (.int 1)))]), (.call 24 [(.slot 0), (.bin .sub (.slot 1) (.lit (.int 1)))])]))]⟩
/-- _law_clip -/
def d25 : Df := ⟨1, 1,
    [(.ifs (.or_ (.cmp .lt (.slot 0) (.neg (.lit (.int 1000000)))) (.cmp .gt (.slot 0) (.lit (.int 1000000)))) [(.ret (.lit .non))] []),
      (.ret (.tup [(.lit (.str ⟨⟨[110, 117, 109, 98, 101, 114]⟩⟩)), (.slot 0)]))]⟩
/-- _law_truth -/
def d26 : Df := ⟨1, 1,
    [(.ifs (.an (.cmp .noN (.slot 0) (.lit .non)) (.cmp .eq (.idx (.slot 0) (.lit (.int 0))) (.lit (.str ⟨⟨[116, 114, 117, 116, 104]⟩⟩)))) [(.ret (.idx (.slot 0) (.lit (.int 1))))] []),
      (.ret (.lit .non))]⟩
/-- _law_number -/
def d27 : Df := ⟨1, 1,
    [(.ifs (.an (.cmp .noN (.slot 0) (.lit .non)) (.cmp .eq (.idx (.slot 0) (.lit (.int 0))) (.lit (.str ⟨⟨[110, 117, 109, 98, 101, 114]⟩⟩)))) [(.ret (.idx (.slot 0) (.lit (.int 1))))] []),
      (.ret (.lit .non))]⟩
/-- _law_all_of -/
def d28 : Df := ⟨1, 1,
    [(.ifs (.cmp .in_ (.lit (.bl false)) (.slot 0)) [(.ret (.tup [(.lit (.str ⟨⟨[116, 114, 117, 116, 104]⟩⟩)), (.lit (.bl false))]))] []),
      (.ifs (.cmp .in_ (.lit .non) (.slot 0)) [(.ret (.lit .non))] []),
      (.ret (.tup [(.lit (.str ⟨⟨[116, 114, 117, 116, 104]⟩⟩)), (.lit (.bl true))]))]⟩
/-- _law_not -/
def d29 : Df := ⟨2, 1,
    [(.asg (.nm 1) (.call 26 [(.slot 0)])),
      (.ifs (.cmp .isN (.slot 1) (.lit .non)) [(.ret (.lit .non))] []),
      (.ret (.tup [(.lit (.str ⟨⟨[116, 114, 117, 116, 104]⟩⟩)), (.nt (.slot 1))]))]⟩
/-- _law_meaning -/
def d30 : Df := ⟨7, 4,
    [(.asg (.nm 4) (.idx (.slot 0) (.lit (.int 0)))),
      (.ifs (.cmp .in_ (.slot 4) (.tup [(.lit (.str ⟨⟨[110, 117, 109, 98, 101, 114]⟩⟩)), (.lit (.str ⟨⟨[116, 114, 117, 116, 104]⟩⟩)), (.lit (.str ⟨⟨[111, 112, 116, 105, 111, 110]⟩⟩))])) [(.ret (.slot 0))] []),
      (.ifs (.cmp .eq (.slot 4) (.lit (.str ⟨⟨[110, 97, 109, 101]⟩⟩))) [(.ret (.dg1 (.slot 1) (.idx (.slot 0) (.lit (.int 1)))))] []),
      (.ifs (.cmp .eq (.slot 4) (.lit (.str ⟨⟨[114, 111, 119]⟩⟩))) [(.ifs (.cmp .isN (.slot 3) (.lit .non)) [(.ret (.lit .non))] []),
      (.ret (.tup [(.lit (.str ⟨⟨[110, 117, 109, 98, 101, 114]⟩⟩)), (.slot 3)]))] []),
      (.ifs (.cmp .eq (.slot 4) (.lit (.str ⟨⟨[110, 111, 116]⟩⟩))) [(.ret (.call 29 [(.call 30 [(.idx (.slot 0) (.lit (.int 1))), (.slot 1), (.slot 2), (.slot 3)])]))] []),
      (.ifs (.cmp .eq (.slot 4) (.lit (.str ⟨⟨[109, 105, 110, 117, 115]⟩⟩))) [(.asg (.nm 5) (.call 27 [(.call 30 [(.idx (.slot 0) (.lit (.int 1))), (.slot 1), (.slot 2), (.slot 3)])])),
      (.ifs (.cmp .isN (.slot 5) (.lit .non)) [(.ret (.lit .non))] []),
      (.ret (.call 25 [(.neg (.slot 5))]))] []),
      (.ifs (.cmp .eq (.slot 4) (.lit (.str ⟨⟨[105, 102]⟩⟩))) [(.asg (.nm 5) (.call 26 [(.call 30 [(.idx (.slot 0) (.lit (.int 1))), (.slot 1), (.slot 2), (.slot 3)])])),
      (.ifs (.cmp .isN (.slot 5) (.lit .non)) [(.ret (.lit .non))] []),
      (.ret (.call 30 [(.idx (.slot 0) (.bin .sub (.lit (.int 3)) (.bi .int [(.slot 5)]))), (.slot 1), (.slot 2), (.slot 3)]))] []),
      (.ifs (.cmp .eq (.slot 4) (.lit (.str ⟨⟨[104, 97, 115]⟩⟩))) [(.asg (.nm 6) (.dg1 (.slot 1) (.idx (.slot 0) (.lit (.int 1))))),
      (.ifs (.or_ (.cmp .isN (.slot 6) (.lit .non)) (.cmp .ne (.idx (.slot 6) (.lit (.int 0))) (.lit (.str ⟨⟨[111, 112, 116, 105, 111, 110, 115]⟩⟩)))) [(.ret (.lit .non))] []),
      (.ret (.tup [(.lit (.str ⟨⟨[116, 114, 117, 116, 104]⟩⟩)), (.cmp .in_ (.idx (.slot 0) (.lit (.int 2))) (.idx (.slot 6) (.lit (.int 1))))]))] []),
      (.ifs (.cmp .eq (.slot 4) (.lit (.str ⟨⟨[97, 115, 107]⟩⟩))) [(.ret (.call 31 [(.idx (.slot 0) (.lit (.int 1))), (.idx (.slot 0) (.lit (.int 2))), (.slot 1), (.slot 2)]))] []),
      (.ret (.call 32 [(.idx (.slot 0) (.lit (.int 1))), (.call 30 [(.idx (.slot 0) (.lit (.int 2))), (.slot 1), (.slot 2), (.slot 3)]), (.call 30 [(.idx (.slot 0) (.lit (.int 3))), (.slot 1), (.slot 2), (.slot 3)])]))]⟩
/-- _law_asked -/
def d31 : Df := ⟨7, 4,
    [(.ifs (.cmp .eq (.slot 0) (.lit (.str ⟨⟨[97, 110, 115, 119, 101, 114, 101, 100]⟩⟩))) [(.ret (.tup [(.lit (.str ⟨⟨[116, 114, 117, 116, 104]⟩⟩)), (.an (.din false (.slot 1) (.slot 2)) (.cmp .noN (.dix (.slot 2) (.slot 1)) (.lit .non)))]))] []),
      (.asg (.nm 4) (.dg2 (.slot 3) (.slot 1) (.tup []))),
      (.ifs (.cmp .eq (.slot 0) (.lit (.str ⟨⟨[99, 111, 117, 110, 116]⟩⟩))) [(.ret (.tup [(.lit (.str ⟨⟨[110, 117, 109, 98, 101, 114]⟩⟩)), (.bi .len [(.slot 4)])]))] []),
      (.ifs (.cmp .eq (.slot 0) (.lit (.str ⟨⟨[97, 108, 108]⟩⟩))) [(.ret (.call 28 [(.lc [(⟨⟨[118, 97, 108, 117, 101]⟩⟩, 5)] (.call 26 [(.slot 5)]) (.nm 5) .seq [(.slot 4)] [])]))] []),
      (.ifs (.cmp .eq (.slot 0) (.lit (.str ⟨⟨[97, 110, 121]⟩⟩))) [(.ret (.call 29 [(.call 28 [(.lc [(⟨⟨[118, 97, 108, 117, 101]⟩⟩, 5)] (.call 26 [(.call 29 [(.slot 5)])]) (.nm 5) .seq [(.slot 4)] [])])]))] []),
      (.asg (.nm 6) (.lc [(⟨⟨[118, 97, 108, 117, 101]⟩⟩, 5)] (.call 27 [(.slot 5)]) (.nm 5) .seq [(.slot 4)] [])),
      (.ifs (.cmp .in_ (.lit .non) (.slot 6)) [(.ret (.lit .non))] []),
      (.ifs (.cmp .eq (.slot 0) (.lit (.str ⟨⟨[115, 117, 109]⟩⟩))) [(.ret (.call 25 [(.bi .sum [(.slot 6)])]))] []),
      (.ifs (.cmp .eq (.bi .len [(.slot 6)]) (.lit (.int 0))) [(.ret (.lit .non))] []),
      (.ret (.tup [(.lit (.str ⟨⟨[110, 117, 109, 98, 101, 114]⟩⟩)), (.idx (.lst [(.bi .min [(.slot 6)]), (.bi .max [(.slot 6)])]) (.bi .int [(.cmp .eq (.slot 0) (.lit (.str ⟨⟨[103, 114, 101, 97, 116, 101, 115, 116]⟩⟩)))]))]))]⟩
/-- _law_operation -/
def d32 : Df := ⟨5, 3,
    [(.ifs (.cmp .eq (.slot 0) (.lit (.str ⟨⟨[97, 110, 100]⟩⟩))) [(.ret (.call 28 [(.lst [(.call 26 [(.slot 1)]), (.call 26 [(.slot 2)])])]))] []),
      (.ifs (.cmp .eq (.slot 0) (.lit (.str ⟨⟨[111, 114]⟩⟩))) [(.ret (.call 29 [(.call 28 [(.lst [(.call 26 [(.call 29 [(.slot 1)])]), (.call 26 [(.call 29 [(.slot 2)])])])])]))] []),
      (.ifs (.cmp .eq (.slot 0) (.lit (.str ⟨⟨[63, 63]⟩⟩))) [(.ifs (.cmp .isN (.slot 1) (.lit .non)) [(.ret (.slot 2))] []),
      (.ret (.slot 1))] []),
      (.ifs (.cmp .in_ (.slot 0) (.tup [(.lit (.str ⟨⟨[61]⟩⟩)), (.lit (.str ⟨⟨[60, 62]⟩⟩))])) [(.ifs (.or_ (.cmp .isN (.slot 1) (.lit .non)) (.cmp .isN (.slot 2) (.lit .non))) [(.ret (.lit .non))] []),
      (.ret (.tup [(.lit (.str ⟨⟨[116, 114, 117, 116, 104]⟩⟩)), (.cmp .eq (.cmp .eq (.slot 1) (.slot 2)) (.cmp .eq (.slot 0) (.lit (.str ⟨⟨[61]⟩⟩))))]))] []),
      (.asg (.nm 3) (.call 27 [(.slot 1)])),
      (.asg (.nm 4) (.call 27 [(.slot 2)])),
      (.ifs (.or_ (.cmp .isN (.slot 3) (.lit .non)) (.cmp .isN (.slot 4) (.lit .non))) [(.ret (.lit .non))] []),
      (.ifs (.cmp .in_ (.slot 0) (.tup [(.lit (.str ⟨⟨[43]⟩⟩)), (.lit (.str ⟨⟨[45]⟩⟩)), (.lit (.str ⟨⟨[42]⟩⟩))])) [(.ret (.call 25 [(.dix (.dmk [⟨⟨[43]⟩⟩, ⟨⟨[45]⟩⟩, ⟨⟨[42]⟩⟩] [(.bin .add (.slot 3) (.slot 4)), (.bin .sub (.slot 3) (.slot 4)), (.bin .mul (.slot 3) (.slot 4))]) (.slot 0))]))] []),
      (.ret (.tup [(.lit (.str ⟨⟨[116, 114, 117, 116, 104]⟩⟩)), (.dix (.dmk [⟨⟨[60]⟩⟩, ⟨⟨[60, 61]⟩⟩, ⟨⟨[62]⟩⟩, ⟨⟨[62, 61]⟩⟩] [(.cmp .lt (.slot 3) (.slot 4)), (.cmp .le (.slot 3) (.slot 4)), (.cmp .gt (.slot 3) (.slot 4)), (.cmp .ge (.slot 3) (.slot 4))]) (.slot 0))]))]⟩
/-- _law_value -/
def d33 : Df := ⟨2, 1,
    [(.asg (.nm 1) (.lst [(.lit .non), (.tup [(.lit (.str ⟨⟨[116, 114, 117, 116, 104]⟩⟩)), (.lit (.bl true))]), (.tup [(.lit (.str ⟨⟨[116, 114, 117, 116, 104]⟩⟩)), (.lit (.bl false))]), (.tup [(.lit (.str ⟨⟨[110, 117, 109, 98, 101, 114]⟩⟩)), (.bin .sub (.call 22 [(.slot 0), (.lit (.int 20))]) (.lit (.int 10)))]), (.tup [(.lit (.str ⟨⟨[110, 117, 109, 98, 101, 114]⟩⟩)), (.lit (.int 9999))]), (.tup [(.lit (.str ⟨⟨[111, 112, 116, 105, 111, 110]⟩⟩)), (.lit (.str ⟨⟨[111, 49]⟩⟩))]), (.tup [(.lit (.str ⟨⟨[111, 112, 116, 105, 111, 110, 115]⟩⟩)), (.tup [(.lit (.str ⟨⟨[111, 49]⟩⟩))])]), (.tup [(.lit (.str ⟨⟨[116, 101, 120, 116]⟩⟩)), (.lit (.str ⟨⟨[121, 101, 115]⟩⟩))])])),
      (.ret (.idx (.slot 1) (.call 22 [(.slot 0), (.lit (.int 8))])))]⟩
/-- _law_plain -/
def d34 : Df := ⟨2, 1,
    [(.ifs (.or_ (.cmp .eq (.idx (.slot 0) (.lit (.int 0))) (.lit (.str ⟨⟨[97, 115, 107]⟩⟩))) (.an (.cmp .eq (.idx (.slot 0) (.lit (.int 0))) (.lit (.str ⟨⟨[111, 112]⟩⟩))) (.cmp .eq (.idx (.slot 0) (.lit (.int 1))) (.lit (.str ⟨⟨[63, 63]⟩⟩))))) [(.ret (.lit (.bl false)))] []),
      (.ret (.cmp .eq (.bi .len [(.lc [(⟨⟨[112, 97, 114, 116]⟩⟩, 1)] (.slot 1) (.nm 1) .seq [(.sl (.slot 0) (some (.lit (.int 1))) none)] [(.an (.isi (.slot 1) .tuple) (.nt (.call 34 [(.slot 1)])))])]) (.lit (.int 0))))]⟩
/-- law -/
def d35 : Df := ⟨12, 1,
    [(.asg (.nm 1) (.lst [(.call 21 [(.slot 0), (.lit (.int 0)), (.lit (.int 60))]), (.lit (.int 0))])),
      (.for_ (.nm 2) .range1 [(.lit (.int 6))] [(.asg (.nm 3) (.call 24 [(.slot 1), (.bin .add (.lit (.int 1)) (.call 22 [(.slot 1), (.lit (.int 3))]))])),
      (.asg (.nm 4) .dnew),
      (.for_ (.nm 5) .seq [(.lst [(.lit (.str ⟨⟨[97]⟩⟩)), (.lit (.str ⟨⟨[98]⟩⟩)), (.lit (.str ⟨⟨[99]⟩⟩)), (.lit (.str ⟨⟨[115]⟩⟩)), (.lit (.str ⟨⟨[115, 117, 109]⟩⟩)), (.lit (.str ⟨⟨[104, 97, 115]⟩⟩))])] [(.asg (.nm 6) (.call 33 [(.slot 1)])),
      (.ifs (.cmp .noN (.slot 6) (.lit .non)) [(.putd (.slot 4) (.slot 5) (.slot 6))] [])]),
      (.asg (.nm 7) .dnew),
      (.for_ (.nm 5) .seq [(.lst [(.lit (.str ⟨⟨[97]⟩⟩)), (.lit (.str ⟨⟨[109]⟩⟩)), (.lit (.str ⟨⟨[110]⟩⟩))])] [(.ifs (.cmp .eq (.call 22 [(.slot 1), (.lit (.int 2))]) (.lit (.int 0))) [(.putd (.slot 7) (.slot 5) (.bi .tuple [(.lc [(⟨⟨[107]⟩⟩, 8)] (.idx (.lst [(.call 33 [(.slot 1)]), (.tup [(.lit (.str ⟨⟨[110, 117, 109, 98, 101, 114]⟩⟩)), (.call 22 [(.slot 1), (.lit (.int 5))])]), (.tup [(.lit (.str ⟨⟨[116, 114, 117, 116, 104]⟩⟩)), (.cmp .eq (.call 22 [(.slot 1), (.lit (.int 2))]) (.lit (.int 0)))])]) (.call 22 [(.slot 1), (.lit (.int 3))])) (.nm 8) .range1 [(.call 22 [(.slot 1), (.lit (.int 4))])] [])]))] [])]),
      (.asg (.nm 9) (.idx (.lst [(.lit .non), (.lit (.int 1)), (.lit (.int 3))]) (.call 22 [(.slot 1), (.lit (.int 3))]))),
      (.asg (.nm 10) (.call 30 [(.slot 3), (.slot 4), (.slot 7), (.slot 9)])),
      (.ifs (.nt (.call 20 [(.call 3 [(.slot 3), (.slot 4), (.slot 7), (.slot 9)]), (.slot 10)])) [(.ret (.lit (.bl false)))] []),
      (.ifs (.an (.cmp .noN (.slot 10) (.lit .non)) (.call 34 [(.slot 3)])) [(.asg (.nm 11) (.dcopy (.slot 4))),
      (.for_ (.nm 5) .seq [(.lst [(.lit (.str ⟨⟨[97]⟩⟩)), (.lit (.str ⟨⟨[98]⟩⟩)), (.lit (.str ⟨⟨[99]⟩⟩)), (.lit (.str ⟨⟨[115]⟩⟩)), (.lit (.str ⟨⟨[115, 117, 109]⟩⟩)), (.lit (.str ⟨⟨[104, 97, 115]⟩⟩))])] [(.ifs (.din true (.slot 5) (.slot 11)) [(.putd (.slot 11) (.slot 5) (.idx (.lst [(.tup [(.lit (.str ⟨⟨[116, 114, 117, 116, 104]⟩⟩)), (.lit (.bl true))]), (.tup [(.lit (.str ⟨⟨[110, 117, 109, 98, 101, 114]⟩⟩)), (.lit (.int 2))]), (.tup [(.lit (.str ⟨⟨[111, 112, 116, 105, 111, 110, 115]⟩⟩)), (.tup [])])]) (.call 22 [(.slot 1), (.lit (.int 3))])))] [])]),
      (.ifs (.nt (.call 20 [(.call 3 [(.slot 3), (.slot 11), (.slot 7), (.slot 9)]), (.slot 10)])) [(.ret (.lit (.bl false)))] [])] [])]),
      (.ret (.lit (.bl true)))]⟩
def lms : List Lam := [⟨2, 1, 3, .lam 2 [⟨⟨[112, 97, 114, 116]⟩⟩, ⟨⟨[105, 110, 110, 101, 114]⟩⟩] [⟨⟨[110, 97, 109, 101, 115]⟩⟩, ⟨⟨[114, 111, 119, 115]⟩⟩, ⟨⟨[110, 117, 109, 98, 101, 114]⟩⟩] (.call 4 [(.slot 0), (.slot 1), (.slot 2), (.slot 3), (.slot 4)])⟩]
def defs : List Df := [d0, d1, d2, d3, d4, d5, d6, d7, d8, d9, d10, d11, d12, d13, d14, d15, d16, d17, d18, d19, d20, d21, d22, d23, d24, d25, d26, d27, d28, d29, d30, d31, d32, d33, d34, d35]
def G : Gt where
  c := [(.int 1000000)]
  d := []
  k := []
  df := [[], [], [], [], [], [], [], [], [], [], [], [], [], [], [], [], [], [], [], [], [], [], [], [], [], [], [], [], [], [], [], [], [], [], [], []]
  x := []
  lm := lms
end L03


set_option Elab.async false
set_option linter.all false
set_option maxRecDepth 1000000
set_option maxHeartbeats 4000000
namespace L03H
open PySem Jp
def top (i : Nat) : Stmt := PySem.Challenge.pw_formflow_k03_meaning_exact.main.body.getD i (.Pass ⟨0, 0, 0, 0⟩)
def sub (s : Stmt) (j : Nat) : Stmt := match s with
  | .ClassDef (body := b) .. => b.getD j (.Pass ⟨0, 0, 0, 0⟩)
  | s => s
def q0 : DI := ⟨(top 1), ⟨⟨[112, 97, 114, 116, 115, 95, 111, 102]⟩⟩, [⟨⟨[101, 120, 112, 114, 101, 115, 115, 105, 111, 110]⟩⟩, ⟨⟨[107, 105, 110, 100]⟩⟩], [⟨⟨[101, 120, 112, 114, 101, 115, 115, 105, 111, 110]⟩⟩], L03.d0, none, ⟨⟨[112, 97, 114, 116, 115, 95, 111, 102]⟩⟩, []⟩
def q1 : DI := ⟨(top 2), ⟨⟨[97, 108, 108, 95, 112, 97, 114, 116, 115]⟩⟩, [⟨⟨[101, 120, 112, 114, 101, 115, 115, 105, 111, 110]⟩⟩, ⟨⟨[102, 111, 117, 110, 100]⟩⟩, ⟨⟨[119, 97, 105, 116, 105, 110, 103]⟩⟩, ⟨⟨[112, 97, 114, 116]⟩⟩], [⟨⟨[101, 120, 112, 114, 101, 115, 115, 105, 111, 110]⟩⟩], L03.d1, none, ⟨⟨[97, 108, 108, 95, 112, 97, 114, 116, 115]⟩⟩, []⟩
def q2 : DI := ⟨(top 3), ⟨⟨[102, 111, 108, 100]⟩⟩, [⟨⟨[101, 120, 112, 114, 101, 115, 115, 105, 111, 110]⟩⟩, ⟨⟨[99, 111, 109, 98, 105, 110, 101]⟩⟩, ⟨⟨[109, 97, 100, 101]⟩⟩, ⟨⟨[112, 97, 114, 116]⟩⟩, ⟨⟨[115, 116, 97, 114, 116]⟩⟩], [⟨⟨[101, 120, 112, 114, 101, 115, 115, 105, 111, 110]⟩⟩, ⟨⟨[99, 111, 109, 98, 105, 110, 101]⟩⟩], L03.d2, none, ⟨⟨[102, 111, 108, 100]⟩⟩, []⟩
def q3 : DI := ⟨(top 6), ⟨⟨[109, 101, 97, 110, 105, 110, 103]⟩⟩, [⟨⟨[101, 120, 112, 114, 101, 115, 115, 105, 111, 110]⟩⟩, ⟨⟨[110, 97, 109, 101, 115]⟩⟩, ⟨⟨[114, 111, 119, 115]⟩⟩, ⟨⟨[110, 117, 109, 98, 101, 114]⟩⟩, ⟨⟨[60, 108, 97, 109, 98, 100, 97, 62]⟩⟩], [⟨⟨[101, 120, 112, 114, 101, 115, 115, 105, 111, 110]⟩⟩, ⟨⟨[110, 97, 109, 101, 115]⟩⟩, ⟨⟨[114, 111, 119, 115]⟩⟩, ⟨⟨[110, 117, 109, 98, 101, 114]⟩⟩], L03.d3, none, ⟨⟨[109, 101, 97, 110, 105, 110, 103]⟩⟩, []⟩
def q4 : DI := ⟨(top 7), ⟨⟨[95, 118, 97, 108, 117, 101, 95, 111, 102, 95, 112, 97, 114, 116]⟩⟩, [⟨⟨[112, 97, 114, 116]⟩⟩, ⟨⟨[105, 110, 110, 101, 114]⟩⟩, ⟨⟨[110, 97, 109, 101, 115]⟩⟩, ⟨⟨[114, 111, 119, 115]⟩⟩, ⟨⟨[110, 117, 109, 98, 101, 114]⟩⟩, ⟨⟨[107, 105, 110, 100]⟩⟩], [⟨⟨[112, 97, 114, 116]⟩⟩, ⟨⟨[105, 110, 110, 101, 114]⟩⟩, ⟨⟨[110, 97, 109, 101, 115]⟩⟩, ⟨⟨[114, 111, 119, 115]⟩⟩, ⟨⟨[110, 117, 109, 98, 101, 114]⟩⟩], L03.d4, none, ⟨⟨[95, 118, 97, 108, 117, 101, 95, 111, 102, 95, 112, 97, 114, 116]⟩⟩, []⟩
def q5 : DI := ⟨(top 8), ⟨⟨[95, 119, 111, 114, 116, 104]⟩⟩, [⟨⟨[118, 97, 108, 117, 101]⟩⟩, ⟨⟨[107, 105, 110, 100]⟩⟩], [⟨⟨[118, 97, 108, 117, 101]⟩⟩, ⟨⟨[107, 105, 110, 100]⟩⟩], L03.d5, none, ⟨⟨[95, 119, 111, 114, 116, 104]⟩⟩, []⟩
def q6 : DI := ⟨(top 9), ⟨⟨[95, 110, 101, 103, 97, 116, 105, 111, 110]⟩⟩, [⟨⟨[118, 97, 108, 117, 101]⟩⟩, ⟨⟨[116, 114, 117, 116, 104]⟩⟩], [⟨⟨[118, 97, 108, 117, 101]⟩⟩], L03.d6, none, ⟨⟨[95, 110, 101, 103, 97, 116, 105, 111, 110]⟩⟩, []⟩
def q7 : DI := ⟨(top 10), ⟨⟨[95, 99, 104, 111, 105, 99, 101]⟩⟩, [⟨⟨[116, 101, 115, 116]⟩⟩, ⟨⟨[111, 110, 101]⟩⟩, ⟨⟨[111, 116, 104, 101, 114]⟩⟩, ⟨⟨[116, 114, 117, 116, 104]⟩⟩], [⟨⟨[116, 101, 115, 116]⟩⟩, ⟨⟨[111, 110, 101]⟩⟩, ⟨⟨[111, 116, 104, 101, 114]⟩⟩], L03.d7, none, ⟨⟨[95, 99, 104, 111, 105, 99, 101]⟩⟩, []⟩
def q8 : DI := ⟨(top 11), ⟨⟨[95, 109, 101, 109, 98, 101, 114, 115, 104, 105, 112]⟩⟩, [⟨⟨[118, 97, 108, 117, 101]⟩⟩, ⟨⟨[111, 112, 116, 105, 111, 110]⟩⟩, ⟨⟨[111, 112, 116, 105, 111, 110, 115]⟩⟩], [⟨⟨[118, 97, 108, 117, 101]⟩⟩, ⟨⟨[111, 112, 116, 105, 111, 110]⟩⟩], L03.d8, none, ⟨⟨[95, 109, 101, 109, 98, 101, 114, 115, 104, 105, 112]⟩⟩, []⟩
def q9 : DI := ⟨(top 12), ⟨⟨[95, 111, 112, 101, 114, 97, 116, 105, 111, 110]⟩⟩, [⟨⟨[115, 105, 103, 110]⟩⟩, ⟨⟨[111, 110, 101]⟩⟩, ⟨⟨[111, 116, 104, 101, 114]⟩⟩], [⟨⟨[115, 105, 103, 110]⟩⟩, ⟨⟨[111, 110, 101]⟩⟩, ⟨⟨[111, 116, 104, 101, 114]⟩⟩], L03.d9, none, ⟨⟨[95, 111, 112, 101, 114, 97, 116, 105, 111, 110]⟩⟩, []⟩
def q10 : DI := ⟨(top 13), ⟨⟨[95, 97, 108, 108, 95, 111, 102]⟩⟩, [⟨⟨[118, 97, 108, 117, 101, 115]⟩⟩, ⟨⟨[116, 114, 117, 116, 104, 115]⟩⟩, ⟨⟨[118, 97, 108, 117, 101]⟩⟩], [⟨⟨[118, 97, 108, 117, 101, 115]⟩⟩], L03.d10, none, ⟨⟨[95, 97, 108, 108, 95, 111, 102]⟩⟩, []⟩
def q11 : DI := ⟨(top 14), ⟨⟨[95, 97, 110, 121, 95, 111, 102]⟩⟩, [⟨⟨[118, 97, 108, 117, 101, 115]⟩⟩, ⟨⟨[116, 114, 117, 116, 104, 115]⟩⟩, ⟨⟨[118, 97, 108, 117, 101]⟩⟩], [⟨⟨[118, 97, 108, 117, 101, 115]⟩⟩], L03.d11, none, ⟨⟨[95, 97, 110, 121, 95, 111, 102]⟩⟩, []⟩
def q12 : DI := ⟨(top 15), ⟨⟨[95, 108, 105, 107, 101, 110, 101, 115, 115]⟩⟩, [⟨⟨[115, 105, 103, 110]⟩⟩, ⟨⟨[111, 110, 101]⟩⟩, ⟨⟨[111, 116, 104, 101, 114]⟩⟩], [⟨⟨[115, 105, 103, 110]⟩⟩, ⟨⟨[111, 110, 101]⟩⟩, ⟨⟨[111, 116, 104, 101, 114]⟩⟩], L03.d12, none, ⟨⟨[95, 108, 105, 107, 101, 110, 101, 115, 115]⟩⟩, []⟩
def q13 : DI := ⟨(top 16), ⟨⟨[95, 99, 111, 109, 112, 97, 114, 105, 115, 111, 110]⟩⟩, [⟨⟨[115, 105, 103, 110]⟩⟩, ⟨⟨[111, 110, 101]⟩⟩, ⟨⟨[111, 116, 104, 101, 114]⟩⟩, ⟨⟨[108, 101, 102, 116]⟩⟩, ⟨⟨[114, 105, 103, 104, 116]⟩⟩], [⟨⟨[115, 105, 103, 110]⟩⟩, ⟨⟨[111, 110, 101]⟩⟩, ⟨⟨[111, 116, 104, 101, 114]⟩⟩], L03.d13, none, ⟨⟨[95, 99, 111, 109, 112, 97, 114, 105, 115, 111, 110]⟩⟩, []⟩
def q14 : DI := ⟨(top 17), ⟨⟨[95, 99, 97, 108, 99, 117, 108, 97, 116, 105, 111, 110]⟩⟩, [⟨⟨[115, 105, 103, 110]⟩⟩, ⟨⟨[111, 110, 101]⟩⟩, ⟨⟨[111, 116, 104, 101, 114]⟩⟩, ⟨⟨[108, 101, 102, 116]⟩⟩, ⟨⟨[114, 105, 103, 104, 116]⟩⟩], [⟨⟨[115, 105, 103, 110]⟩⟩, ⟨⟨[111, 110, 101]⟩⟩, ⟨⟨[111, 116, 104, 101, 114]⟩⟩], L03.d14, none, ⟨⟨[95, 99, 97, 108, 99, 117, 108, 97, 116, 105, 111, 110]⟩⟩, []⟩
def q15 : DI := ⟨(top 18), ⟨⟨[95, 114, 101, 115, 117, 108, 116]⟩⟩, [⟨⟨[110, 117, 109, 98, 101, 114]⟩⟩], [⟨⟨[110, 117, 109, 98, 101, 114]⟩⟩], L03.d15, none, ⟨⟨[95, 114, 101, 115, 117, 108, 116]⟩⟩, []⟩
def q16 : DI := ⟨(top 19), ⟨⟨[95, 118, 97, 108, 117, 101, 95, 111, 118, 101, 114, 95, 114, 111, 119, 115]⟩⟩, [⟨⟨[102, 117, 110, 99, 116, 105, 111, 110]⟩⟩, ⟨⟨[118, 97, 108, 117, 101, 115]⟩⟩, ⟨⟨[110, 117, 109, 98, 101, 114, 115]⟩⟩, ⟨⟨[118, 97, 108, 117, 101]⟩⟩], [⟨⟨[102, 117, 110, 99, 116, 105, 111, 110]⟩⟩, ⟨⟨[118, 97, 108, 117, 101, 115]⟩⟩], L03.d16, none, ⟨⟨[95, 118, 97, 108, 117, 101, 95, 111, 118, 101, 114, 95, 114, 111, 119, 115]⟩⟩, []⟩
def q17 : DI := ⟨(top 21), ⟨⟨[95, 108, 97, 119, 95, 105, 115, 95, 105, 110, 116, 101, 103, 101, 114]⟩⟩, [⟨⟨[97, 99, 116, 117, 97, 108]⟩⟩], [⟨⟨[97, 99, 116, 117, 97, 108]⟩⟩], L03.d17, none, ⟨⟨[95, 108, 97, 119, 95, 105, 115, 95, 105, 110, 116, 101, 103, 101, 114]⟩⟩, []⟩
def q18 : DI := ⟨(top 22), ⟨⟨[95, 108, 97, 119, 95, 99, 101, 108, 108]⟩⟩, [⟨⟨[115, 99, 114, 105, 112, 116]⟩⟩, ⟨⟨[107]⟩⟩], [⟨⟨[115, 99, 114, 105, 112, 116]⟩⟩, ⟨⟨[107]⟩⟩], L03.d18, none, ⟨⟨[95, 108, 97, 119, 95, 99, 101, 108, 108]⟩⟩, []⟩
def q19 : DI := ⟨(top 23), ⟨⟨[95, 108, 97, 119, 95, 108, 105, 115, 116, 95, 105, 115]⟩⟩, [⟨⟨[97, 99, 116, 117, 97, 108]⟩⟩, ⟨⟨[100, 117, 101]⟩⟩], [⟨⟨[97, 99, 116, 117, 97, 108]⟩⟩, ⟨⟨[100, 117, 101]⟩⟩], L03.d19, none, ⟨⟨[95, 108, 97, 119, 95, 108, 105, 115, 116, 95, 105, 115]⟩⟩, []⟩
def q20 : DI := ⟨(top 24), ⟨⟨[95, 108, 97, 119, 95, 115, 97, 109, 101]⟩⟩, [⟨⟨[97, 99, 116, 117, 97, 108]⟩⟩, ⟨⟨[100, 117, 101]⟩⟩], [⟨⟨[97, 99, 116, 117, 97, 108]⟩⟩, ⟨⟨[100, 117, 101]⟩⟩], L03.d20, none, ⟨⟨[95, 108, 97, 119, 95, 115, 97, 109, 101]⟩⟩, []⟩
def q21 : DI := ⟨(top 25), ⟨⟨[95, 108, 97, 119, 95, 100, 105, 103, 105, 116, 115]⟩⟩, [⟨⟨[115, 99, 114, 105, 112, 116]⟩⟩, ⟨⟨[102, 105, 114, 115, 116]⟩⟩, ⟨⟨[108, 97, 115, 116]⟩⟩, ⟨⟨[100, 105, 103, 105, 116, 115]⟩⟩, ⟨⟨[107]⟩⟩, ⟨⟨[99, 101, 108, 108]⟩⟩, ⟨⟨[116, 117, 114, 110]⟩⟩, ⟨⟨[115, 101, 101, 100]⟩⟩], [⟨⟨[115, 99, 114, 105, 112, 116]⟩⟩, ⟨⟨[102, 105, 114, 115, 116]⟩⟩, ⟨⟨[108, 97, 115, 116]⟩⟩], L03.d21, none, ⟨⟨[95, 108, 97, 119, 95, 100, 105, 103, 105, 116, 115]⟩⟩, []⟩
def q22 : DI := ⟨(top 26), ⟨⟨[95, 108, 97, 119, 95, 100, 114, 97, 119]⟩⟩, [⟨⟨[98, 111, 120]⟩⟩, ⟨⟨[109, 97, 110, 121]⟩⟩, ⟨⟨[97, 116]⟩⟩], [⟨⟨[98, 111, 120]⟩⟩, ⟨⟨[109, 97, 110, 121]⟩⟩], L03.d22, none, ⟨⟨[95, 108, 97, 119, 95, 100, 114, 97, 119]⟩⟩, []⟩
def q23 : DI := ⟨(top 27), ⟨⟨[95, 108, 97, 119, 95, 112, 105, 99, 107]⟩⟩, [⟨⟨[98, 111, 120]⟩⟩, ⟨⟨[114, 111, 119, 115]⟩⟩], [⟨⟨[98, 111, 120]⟩⟩, ⟨⟨[114, 111, 119, 115]⟩⟩], L03.d23, none, ⟨⟨[95, 108, 97, 119, 95, 112, 105, 99, 107]⟩⟩, []⟩
def q24 : DI := ⟨(top 28), ⟨⟨[95, 108, 97, 119, 95, 101, 120, 112, 114, 101, 115, 115, 105, 111, 110]⟩⟩, [⟨⟨[98, 111, 120]⟩⟩, ⟨⟨[100, 101, 112, 116, 104]⟩⟩, ⟨⟨[107, 105, 110, 100]⟩⟩, ⟨⟨[114, 111, 119, 115]⟩⟩, ⟨⟨[115, 105, 103, 110]⟩⟩], [⟨⟨[98, 111, 120]⟩⟩, ⟨⟨[100, 101, 112, 116, 104]⟩⟩], L03.d24, none, ⟨⟨[95, 108, 97, 119, 95, 101, 120, 112, 114, 101, 115, 115, 105, 111, 110]⟩⟩, []⟩
def q25 : DI := ⟨(top 29), ⟨⟨[95, 108, 97, 119, 95, 99, 108, 105, 112]⟩⟩, [⟨⟨[110, 117, 109, 98, 101, 114]⟩⟩], [⟨⟨[110, 117, 109, 98, 101, 114]⟩⟩], L03.d25, none, ⟨⟨[95, 108, 97, 119, 95, 99, 108, 105, 112]⟩⟩, []⟩
def q26 : DI := ⟨(top 30), ⟨⟨[95, 108, 97, 119, 95, 116, 114, 117, 116, 104]⟩⟩, [⟨⟨[118, 97, 108, 117, 101]⟩⟩], [⟨⟨[118, 97, 108, 117, 101]⟩⟩], L03.d26, none, ⟨⟨[95, 108, 97, 119, 95, 116, 114, 117, 116, 104]⟩⟩, []⟩
def q27 : DI := ⟨(top 31), ⟨⟨[95, 108, 97, 119, 95, 110, 117, 109, 98, 101, 114]⟩⟩, [⟨⟨[118, 97, 108, 117, 101]⟩⟩], [⟨⟨[118, 97, 108, 117, 101]⟩⟩], L03.d27, none, ⟨⟨[95, 108, 97, 119, 95, 110, 117, 109, 98, 101, 114]⟩⟩, []⟩
def q28 : DI := ⟨(top 32), ⟨⟨[95, 108, 97, 119, 95, 97, 108, 108, 95, 111, 102]⟩⟩, [⟨⟨[116, 114, 117, 116, 104, 115]⟩⟩], [⟨⟨[116, 114, 117, 116, 104, 115]⟩⟩], L03.d28, none, ⟨⟨[95, 108, 97, 119, 95, 97, 108, 108, 95, 111, 102]⟩⟩, []⟩
def q29 : DI := ⟨(top 33), ⟨⟨[95, 108, 97, 119, 95, 110, 111, 116]⟩⟩, [⟨⟨[118, 97, 108, 117, 101]⟩⟩, ⟨⟨[116, 111, 108, 100]⟩⟩], [⟨⟨[118, 97, 108, 117, 101]⟩⟩], L03.d29, none, ⟨⟨[95, 108, 97, 119, 95, 110, 111, 116]⟩⟩, []⟩
def q30 : DI := ⟨(top 34), ⟨⟨[95, 108, 97, 119, 95, 109, 101, 97, 110, 105, 110, 103]⟩⟩, [⟨⟨[114, 111, 119]⟩⟩, ⟨⟨[110, 97, 109, 101, 115]⟩⟩, ⟨⟨[114, 111, 119, 115]⟩⟩, ⟨⟨[110, 117, 109, 98, 101, 114]⟩⟩, ⟨⟨[107, 105, 110, 100]⟩⟩, ⟨⟨[116, 111, 108, 100]⟩⟩, ⟨⟨[118, 97, 108, 117, 101]⟩⟩], [⟨⟨[114, 111, 119]⟩⟩, ⟨⟨[110, 97, 109, 101, 115]⟩⟩, ⟨⟨[114, 111, 119, 115]⟩⟩, ⟨⟨[110, 117, 109, 98, 101, 114]⟩⟩], L03.d30, none, ⟨⟨[95, 108, 97, 119, 95, 109, 101, 97, 110, 105, 110, 103]⟩⟩, []⟩
def q31 : DI := ⟨(top 35), ⟨⟨[95, 108, 97, 119, 95, 97, 115, 107, 101, 100]⟩⟩, [⟨⟨[119, 111, 114, 100]⟩⟩, ⟨⟨[110, 97, 109, 101]⟩⟩, ⟨⟨[110, 97, 109, 101, 115]⟩⟩, ⟨⟨[114, 111, 119, 115]⟩⟩, ⟨⟨[118, 97, 108, 117, 101, 115]⟩⟩, ⟨⟨[118, 97, 108, 117, 101]⟩⟩, ⟨⟨[110, 117, 109, 98, 101, 114, 115]⟩⟩], [⟨⟨[119, 111, 114, 100]⟩⟩, ⟨⟨[110, 97, 109, 101]⟩⟩, ⟨⟨[110, 97, 109, 101, 115]⟩⟩, ⟨⟨[114, 111, 119, 115]⟩⟩], L03.d31, none, ⟨⟨[95, 108, 97, 119, 95, 97, 115, 107, 101, 100]⟩⟩, []⟩
def q32 : DI := ⟨(top 36), ⟨⟨[95, 108, 97, 119, 95, 111, 112, 101, 114, 97, 116, 105, 111, 110]⟩⟩, [⟨⟨[115, 105, 103, 110]⟩⟩, ⟨⟨[111, 110, 101]⟩⟩, ⟨⟨[111, 116, 104, 101, 114]⟩⟩, ⟨⟨[102, 105, 114, 115, 116]⟩⟩, ⟨⟨[115, 101, 99, 111, 110, 100]⟩⟩], [⟨⟨[115, 105, 103, 110]⟩⟩, ⟨⟨[111, 110, 101]⟩⟩, ⟨⟨[111, 116, 104, 101, 114]⟩⟩], L03.d32, none, ⟨⟨[95, 108, 97, 119, 95, 111, 112, 101, 114, 97, 116, 105, 111, 110]⟩⟩, []⟩
def q33 : DI := ⟨(top 37), ⟨⟨[95, 108, 97, 119, 95, 118, 97, 108, 117, 101]⟩⟩, [⟨⟨[98, 111, 120]⟩⟩, ⟨⟨[114, 111, 119, 115]⟩⟩], [⟨⟨[98, 111, 120]⟩⟩], L03.d33, none, ⟨⟨[95, 108, 97, 119, 95, 118, 97, 108, 117, 101]⟩⟩, []⟩
def q34 : DI := ⟨(top 38), ⟨⟨[95, 108, 97, 119, 95, 112, 108, 97, 105, 110]⟩⟩, [⟨⟨[114, 111, 119]⟩⟩, ⟨⟨[112, 97, 114, 116]⟩⟩], [⟨⟨[114, 111, 119]⟩⟩], L03.d34, none, ⟨⟨[95, 108, 97, 119, 95, 112, 108, 97, 105, 110]⟩⟩, []⟩
def q35 : DI := ⟨(top 39), ⟨⟨[108, 97, 119]⟩⟩, [⟨⟨[115, 99, 114, 105, 112, 116]⟩⟩, ⟨⟨[98, 111, 120]⟩⟩, ⟨⟨[116, 117, 114, 110]⟩⟩, ⟨⟨[114, 111, 119]⟩⟩, ⟨⟨[110, 97, 109, 101, 115]⟩⟩, ⟨⟨[110, 97, 109, 101]⟩⟩, ⟨⟨[118, 97, 108, 117, 101]⟩⟩, ⟨⟨[114, 111, 119, 115]⟩⟩, ⟨⟨[107]⟩⟩, ⟨⟨[110, 117, 109, 98, 101, 114]⟩⟩, ⟨⟨[100, 117, 101]⟩⟩, ⟨⟨[109, 111, 114, 101]⟩⟩], [⟨⟨[115, 99, 114, 105, 112, 116]⟩⟩], L03.d35, none, ⟨⟨[108, 97, 119]⟩⟩, []⟩
def qs : List DI := [q0, q1, q2, q3, q4, q5, q6, q7, q8, q9, q10, q11, q12, q13, q14, q15, q16, q17, q18, q19, q20, q21, q22, q23, q24, q25, q26, q27, q28, q29, q30, q31, q32, q33, q34, q35]
def xd : List XDI := []
def cn0 : Nm := ⟨[⟨⟨[71, 82, 69, 65, 84, 69, 83, 84, 95, 82, 69, 83, 85, 76, 84]⟩⟩], [], [], [], [], fun _ _ _ => false⟩
def names : List Str := [⟨⟨[112, 97, 114, 116, 115, 95, 111, 102]⟩⟩, ⟨⟨[97, 108, 108, 95, 112, 97, 114, 116, 115]⟩⟩, ⟨⟨[102, 111, 108, 100]⟩⟩, ⟨⟨[71, 82, 69, 65, 84, 69, 83, 84, 95, 82, 69, 83, 85, 76, 84]⟩⟩, ⟨⟨[109, 101, 97, 110, 105, 110, 103]⟩⟩, ⟨⟨[95, 118, 97, 108, 117, 101, 95, 111, 102, 95, 112, 97, 114, 116]⟩⟩, ⟨⟨[95, 119, 111, 114, 116, 104]⟩⟩, ⟨⟨[95, 110, 101, 103, 97, 116, 105, 111, 110]⟩⟩, ⟨⟨[95, 99, 104, 111, 105, 99, 101]⟩⟩, ⟨⟨[95, 109, 101, 109, 98, 101, 114, 115, 104, 105, 112]⟩⟩, ⟨⟨[95, 111, 112, 101, 114, 97, 116, 105, 111, 110]⟩⟩, ⟨⟨[95, 97, 108, 108, 95, 111, 102]⟩⟩, ⟨⟨[95, 97, 110, 121, 95, 111, 102]⟩⟩, ⟨⟨[95, 108, 105, 107, 101, 110, 101, 115, 115]⟩⟩, ⟨⟨[95, 99, 111, 109, 112, 97, 114, 105, 115, 111, 110]⟩⟩, ⟨⟨[95, 99, 97, 108, 99, 117, 108, 97, 116, 105, 111, 110]⟩⟩, ⟨⟨[95, 114, 101, 115, 117, 108, 116]⟩⟩, ⟨⟨[95, 118, 97, 108, 117, 101, 95, 111, 118, 101, 114, 95, 114, 111, 119, 115]⟩⟩, ⟨⟨[95, 108, 97, 119, 95, 105, 115, 95, 105, 110, 116, 101, 103, 101, 114]⟩⟩, ⟨⟨[95, 108, 97, 119, 95, 99, 101, 108, 108]⟩⟩, ⟨⟨[95, 108, 97, 119, 95, 108, 105, 115, 116, 95, 105, 115]⟩⟩, ⟨⟨[95, 108, 97, 119, 95, 115, 97, 109, 101]⟩⟩, ⟨⟨[95, 108, 97, 119, 95, 100, 105, 103, 105, 116, 115]⟩⟩, ⟨⟨[95, 108, 97, 119, 95, 100, 114, 97, 119]⟩⟩, ⟨⟨[95, 108, 97, 119, 95, 112, 105, 99, 107]⟩⟩, ⟨⟨[95, 108, 97, 119, 95, 101, 120, 112, 114, 101, 115, 115, 105, 111, 110]⟩⟩, ⟨⟨[95, 108, 97, 119, 95, 99, 108, 105, 112]⟩⟩, ⟨⟨[95, 108, 97, 119, 95, 116, 114, 117, 116, 104]⟩⟩, ⟨⟨[95, 108, 97, 119, 95, 110, 117, 109, 98, 101, 114]⟩⟩, ⟨⟨[95, 108, 97, 119, 95, 97, 108, 108, 95, 111, 102]⟩⟩, ⟨⟨[95, 108, 97, 119, 95, 110, 111, 116]⟩⟩, ⟨⟨[95, 108, 97, 119, 95, 109, 101, 97, 110, 105, 110, 103]⟩⟩, ⟨⟨[95, 108, 97, 119, 95, 97, 115, 107, 101, 100]⟩⟩, ⟨⟨[95, 108, 97, 119, 95, 111, 112, 101, 114, 97, 116, 105, 111, 110]⟩⟩, ⟨⟨[95, 108, 97, 119, 95, 118, 97, 108, 117, 101]⟩⟩, ⟨⟨[95, 108, 97, 119, 95, 112, 108, 97, 105, 110]⟩⟩]
end L03H
namespace L03H
open PySem PySem.Spec PyProof.Rows L2 Jp
abbrev R : PySem.W.OpenRow := PySem.W.OpenLaw.row PySem.Challenge.rw_formflow_k03_meaning_exact
abbrev hk : PySem.W.Hook := He.hookX 5 (hFa qs cn0 L03.G) (qs.map DI.dd ++ xd.map XDI.dd) (hTs cn0 L03.G) (qs.map DI.at_) (fun K => moreQ K qs cn0 L03.G xd)
def ob (s : PySem.W.SharedT) : He.AlX := He.obsX 5 (hFa qs cn0 L03.G) (qs.map DI.dd ++ xd.map XDI.dd) (hTs cn0 L03.G) (qs.map DI.at_) (fun K => moreQ K qs cn0 L03.G xd) (HandSHeadRun.getT s)
theorem ob_eq (s : PySem.W.SharedT) : ob s = hk.obs s.abs := He.obsX_eq (HandSHeadRun.getT_eq s)
theorem run (w : World) : HandSHeadRun.RunEq R (PySem.W.view R.prog [39]) hk ob 6000 names w := by
  intro os
  kernel_rfl
end L03H


set_option Elab.async false
set_option linter.all false
set_option maxRecDepth 100000
namespace Jp
open PySem PySem.Spec PyProof.Rows L2

/-- room for k calls, one in another; d: what is spent of them -/
structure Rm (k j : Nat) (A : Around) : Prop where
  h : A.handled = none
  g : A.guards = some []
  le : j ≤ 20
  d : A.depth + k + 100 < recursionLimit + j
  u : A.units + 4 * k + 700 < cLine + 2 * j
theorem Rm.room {k d : Nat} {A : Around} (r : Rm k d A) : Room 20 A := ⟨r.h, by have := r.d; have := r.le; omega, by have := r.u; have := r.le; omega⟩
theorem Rm.call {k : Nat} {A : Around} (r : Rm (k + 1) 0 A) (env : Env) : Rm k 0 (A.deeper env) :=
  ⟨r.h, r.g, r.le, by have := r.d; show A.depth + 1 + k + 100 < _; omega, by have := r.u; show A.units + 3 + 4 * k + 700 < _; omega⟩
theorem Rm.sub {k d : Nat} {A : Around} (r : Rm k d A) (h : d ≤ k) : Rm (k - d) 0 A := ⟨r.h, r.g, Nat.zero_le _, by have := r.d; omega, by have := r.u; omega⟩

/-- what a def promises, wherever nothing is being handled or guarded -/
structure FnG (P : Program) (w : World) (K : PySem.W.Frag) (mg : Str → Option Value) (base : Heap) (k d : Nat) (f : Addr) (fd : FuncData) (ps : List Str) (sp : Sp) : Prop where
  len : ∀ vs H Q E, sp vs H Q E → vs.length = ps.length
  run : ∀ (A : Around) (outer : List Env) (s : Shared) (H : Hp) (args : Args) (us : List Value) (vs : List V) (Q : VK) (E : XK), Rm k d A → Env0 P w K mg base A outer s H →
    BindsTo s fd args (ps.zip us) → Vals vs us → sp vs H Q E → codeAny (model P w) A (.call (.ref f) args) (CR (L2.CX P w) outer P w H s Q E) s

/-- a def by its body -/
theorem fnG_of {P : Program} {w : World} {K : PySem.W.Frag} {mg : Str → Option Value} {base : Heap} {k : Nat} {f : Addr} {name qual : Str} {params : Arguments} {body : List Stmt} {scope : Scope}
    {dV kV doc pm cdv ct oc : Value} {an od : Option Addr} {osl : Array (Option Value)} {N ps : List Str} {sp : Sp}
    (lk : K.lookup f = some ⟨oc, od, .func (PySem.W.fnOf name qual params body scope dV kV doc pm an cdv ct), osl⟩) (hcd : PySem.W.codeIn K cdv qual = true) (S : FnScope N ps scope)
    (len : ∀ vs H Q E, sp vs H Q E → vs.length = ps.length)
    (hb : ∀ (A : Around) (outer : List Env) (s : Shared) (H : Hp) (vs : List V) (Q : VK) (E : XK), Rm k 0 (A.deeper (envOfC qual scope s.heap.objs.size f cdv)) → sp vs H Q E →
      ∃ t, PSs (cxOf (L2.CX P w) P w K mg base N qual scope f cdv A outer s H E) body t ∧ t { nx := fun _ H' => Q .non H', rt := Q } (start N vs) H) :
    FnG P w K mg base (k + 1) 0 f (PySem.W.fnOf name qual params body scope dV kV doc pm an cdv ct) ps sp := by
  constructor
  · exact len
  intro A outer s H args us vs Q E hr e0 bnd r hsp
  have lv : vs.length = ps.length := len vs H Q E hsp
  have inK : K.In s.heap := e0.mod.kin.keeps (fun b o e => (e0.bs b o e).1)
  have nl : s.heap.NoLimit := e0.mod.nolimit.keeps (fun b o e => (e0.bs b o e).1)
  have knd : ∀ y ∈ ps.zip us, scope.names.lookup y.1 = some .local ∨ (scope.names.lookup y.1 = some .cell ∧ ((cellsFrom (s.heap.objs.size + 1) scope.names []).lookup y.1).isSome = true) := by
    rintro ⟨n, v⟩ hy
    cases S.par n (List.of_mem_zip hy).1 with
    | inl q => exact Or.inl q
    | inr q => exact Or.inr ⟨q, PySem.W.cellsFrom_some _ _ _ (Or.inl q)⟩
  refine codeAny_call_function hr.room.depth (inK _ _ lk) rfl S.co S.gen rfl (PySem.W.codeRec_of inK hcd) (bnd _ _ _ _ ?_)
  refine wpAny_newFunctionEnv_cells S.kind knd (fun env he s1 x => ?_)
  subst he
  refine ⟨nl.keeps x.toInCall.keep, codeAny_func ?_⟩
  obtain ⟨t, ht, hq⟩ := hb A outer s H vs Q E (hr.call _) hsp
  have I0 : Inv (cxOf (L2.CX P w) P w K mg base N qual scope f cdv A outer s H E) [] (start N vs) H s1 := inv_start S hr.h e0 lv r x
  refine wpAny_mono (ht.run [] s1 (start N vs) H _ I0 hq) ?_ (fun e s' hs => hs)
  intro fl s' hs
  match fl, hs with
  | .ret u, hs =>
    obtain ⟨v, σ', H', J, rv, q⟩ := hs
    exact ⟨v, H', J.os, J.bare, J.base, J.hok, rv, q⟩
  | .next, hs =>
    obtain ⟨σ', H', J, q⟩ := hs
    exact ⟨V.non, H', J.os, J.bare, J.base, J.hok, rfl, q⟩
  | .brk, hs =>
    obtain ⟨_, _, _, q⟩ := hs
    exact q.elim
  | .cont, hs =>
    obtain ⟨_, _, _, q⟩ := hs
    exact q.elim

section
variable {X : Cx} {k d : Nat} {f : Addr} {fd : FuncData} {ps : List Str} {sp : Sp} {E : XK} {x : Str} {p pos : Pos} {e : Expr} {es : List Expr} {t : TA}
theorem runG {pins : List (Addr × Obj)} {σ : L2.St} {H : Hp} {s : Shared} {Q : VK} {us : List Value} {vs : List V} (F : FnG X.prog X.w X.K X.mg X.base k d f fd ps sp) (hr : Rm k d X.A) (hb : Binds X.K fd ps []) (hx : Passes (L2.CX X.prog X.w) X E)
    (I : Inv X pins σ H s) (r : Vals vs us) (h : sp vs H Q E) : wpAny (model X.prog X.w) X.A (call (.ref f) us) (EP X pins σ Q) X.xe s := by
  have hl : (us ++ []).length = ps.length := by
    rw [List.append_nil, ← r.length]
    exact F.len _ _ _ _ h
  have b := hb s us I.kIn hl
  rw [List.append_nil] at b
  refine wpAny_call (codeAny_mono (F.run X.A X.stack s H ⟨us, []⟩ us vs Q E hr I.env0 b r h) ?_)
  intro r s' hq
  match r, hq with
  | .error e, hq => exact hx pins σ H s e s' I hq
  | .ok (.ret u), hq => exact I.after hq
theorem pe_callG (F : FnG X.prog X.w X.K X.mg X.base k d f fd ps sp) (hr : Rm k d X.A) (hg : Gl X x) (hm : X.mg x = some (.ref f)) (hk : PySem.W.keepIn X.K (.ref f) = true) (hb : Binds X.K fd ps []) (hx : Passes (L2.CX X.prog X.w) X E)
    (ha : PA X (e :: es) t) (hdb : (x == ("__debug__" : Str)) = false) (he : starEach (e :: es) X.env = (false, eval e X.env) :: starEach es X.env) (hpl : (backTo pos (starEach es X.env)).any (·.1) = false) :
    PE X (.Call (.Name x p) (e :: es) [] pos) (fun σ H Q => t σ H fun vs H1 => sp vs H1 Q E) := by
  constructor
  intro pins s σ H Q I h
  refine wpAny_Call_Name_kw (ld_glob I hg hm ?_ hdb)
  refine PySem.W.callWith_K (h₀ := X.base) I.ok.mod.kin hk (thn (ha.run pos pins s σ H _ I h) ?_) he hpl
  rintro us s1 ⟨vs, H1, I1, r, q⟩
  exact ⟨I1.kIn, runG F hr hb hx I1 r q⟩
theorem pe_callG0 (F : FnG X.prog X.w X.K X.mg X.base k d f fd ps sp) (hr : Rm k d X.A) (hg : Gl X x) (hm : X.mg x = some (.ref f)) (hk : PySem.W.keepIn X.K (.ref f) = true) (hb : Binds X.K fd ps []) (hx : Passes (L2.CX X.prog X.w) X E)
    (hdb : (x == ("__debug__" : Str)) = false) : PE X (.Call (.Name x p) [] [] pos) (fun σ H Q => sp [] H Q E) := by
  constructor
  intro pins s σ H Q I h
  refine wpAny_Call_Name_kw (ld_glob I hg hm ?_ hdb)
  exact PySem.W.callWith_K0 I.kIn hk (runG (us := []) F hr hb hx I .nil h)
end
end Jp


set_option Elab.async false
set_option linter.all false
set_option maxRecDepth 100000
namespace Jp
open PySem PySem.Spec PyProof.Rows L2

/-- what never changes stands -/
structure Gr (H H' : Hp) : Prop where
  tup : ∀ a xs, H a = some (.tup xs) → H' a = some (.tup xs)
  frz : ∀ a o u, H a = some (.frz o u) → H' a = some (.frz o u)
theorem Gr.refl (H : Hp) : Gr H H := ⟨fun _ _ h => h, fun _ _ _ h => h⟩
theorem Gr.trans {H H1 H2 : Hp} (a : Gr H H1) (b : Gr H1 H2) : Gr H H2 := ⟨fun x y h => b.tup x y (a.tup x y h), fun x y z h => b.frz x y z (a.frz x y z h)⟩
theorem Gr.new {H : Hp} {p : Addr} {o : HO} (h : H p = none) : Gr H (upd H p o) :=
  ⟨fun a xs e => by rw [upd_ne (ne_of_none e h)]; exact e, fun a b u e => by rw [upd_ne (ne_of_none e h)]; exact e⟩
theorem Gr.mut {H : Hp} {p : Addr} {o : HO} {xs : List V} (h : H p = some (.lst xs)) : Gr H (upd H p o) :=
  ⟨fun a ys e => by rw [upd_ne (ne_of e h (by intro z; cases z))]; exact e, fun a b u e => by rw [upd_ne (ne_of e h (by intro z; cases z))]; exact e⟩
def Le (ρ ρ' : List Addr) : Prop := ∀ (n : Nat) (a : Addr), ρ[n]? = some a → ρ'[n]? = some a
theorem Le.refl (ρ : List Addr) : Le ρ ρ := fun _ _ h => h
theorem Le.trans {ρ ρ1 ρ2 : List Addr} (a : Le ρ ρ1) (b : Le ρ1 ρ2) : Le ρ ρ2 := fun n x h => b n x (a n x h)
theorem Le.app (ρ ρ1 : List Addr) : Le ρ (ρ ++ ρ1) := fun n a h => by
  rw [List.getElem?_append_left (List.getElem?_eq_some_iff.mp h).1]
  exact h

/-- from one state to a later one: what the store has not stands as it stood -/
structure Go (ρ : List Addr) (H : Hp) (ρ' : List Addr) (H' : Hp) : Prop where
  le : Le ρ ρ'
  g : Gr H H'
  f : ∀ a o, H a = some o → a ∉ ρ → (∀ ps, o ≠ .tbl ps) → H' a = some o ∧ a ∉ ρ'
theorem Go.refl (ρ : List Addr) (H : Hp) : Go ρ H ρ H := ⟨Le.refl _, Gr.refl _, fun _ _ h n _ => ⟨h, n⟩⟩
theorem Go.trans {ρ ρ1 ρ2 : List Addr} {H H1 H2 : Hp} (a : Go ρ H ρ1 H1) (b : Go ρ1 H1 ρ2 H2) : Go ρ H ρ2 H2 := ⟨a.le.trans b.le, a.g.trans b.g, fun x o h n t => by
  obtain ⟨h1, n1⟩ := a.f x o h n t
  exact b.f x o h1 n1 t⟩
theorem Go.fresh {ρ : List Addr} {H : Hp} {p : Addr} {o : HO} (h : H p = none) : Go ρ H ρ (L2.upd H p o) := ⟨Le.refl _, Gr.new h, fun a u e n _ => ⟨by rw [upd_ne (ne_of_none e h)]; exact e, n⟩⟩
theorem Go.new {ρ : List Addr} {H : Hp} {p : Addr} {o : HO} (h : H p = none) : Go ρ H (ρ ++ [p]) (L2.upd H p o) := ⟨Le.app _ _, Gr.new h, fun a u e n _ => ⟨by rw [upd_ne (ne_of_none e h)]; exact e, fun z => by
  rw [List.mem_append, List.mem_singleton] at z
  rcases z with z | z
  · exact n z
  · exact ne_of_none e h z⟩⟩
theorem Go.put {ρ : List Addr} {H : Hp} {p : Addr} {o : HO} {k : Nat} {xs : List V} (hk : ρ[k]? = some p) (h : H p = some (.lst xs)) : Go ρ H ρ (L2.upd H p o) := ⟨Le.refl _, Gr.mut h, fun a u e n _ => ⟨by
  rw [upd_ne (fun z => n (by rw [z]; exact List.mem_of_getElem? hk))]
  exact e, n⟩⟩

theorem sqt_gr {K : PySem.W.Frag} {H H' : Hp} {a : Addr} {xs : List V} (g : Gr H H') (h : SqT K H a xs) : SqT K H' a xs := by
  rcases h with (h | ⟨o, h⟩) | h
  · exact Or.inl (Or.inl (g.tup _ _ h))
  · exact Or.inl (Or.inr ⟨o, g.frz _ _ _ h⟩)
  · exact Or.inr h
/-- a list that nobody changes -/
def FrL (K : PySem.W.Frag) (H : Hp) (a : Addr) (xs : List V) : Prop := SqL K H a xs ∧ ∀ ys, H a ≠ some (.lst ys)
theorem frl_gr {K : PySem.W.Frag} {H H' : Hp} {a : Addr} {xs : List V} (g : Gr H H') (hn : ∀ ys, H' a = some (.lst ys) → H a = some (.lst ys)) (h : FrL K H a xs) : FrL K H' a xs := by
  obtain ⟨h, z⟩ := h
  refine ⟨?_, fun ys e => z ys (hn ys e)⟩
  rcases h with (h | ⟨o, h⟩) | h
  · exact absurd h (z _)
  · exact Or.inl (Or.inr ⟨o, g.frz _ _ _ h⟩)
  · exact Or.inr h
/-- such a list, by what can't change of it -/
inductive FzL (K : PySem.W.Frag) (H : Hp) (a : Addr) (xs : List V) : Prop where
  | frz {o : Obj} (h : H a = some (.frz o (.lst xs)))
  | kk {o : Obj} {its : Array Value} {n : Nat} (lk : List.lookup a K = some o) (c : o.cls = .type "list") (d : o.dict = none) (e : o.data = .seq its n) (z : its.size ≤ sizeLine) (v : Vals xs its.toList)
theorem FzL.sq {K : PySem.W.Frag} {H : Hp} {a : Addr} {xs : List V} : FzL K H a xs → SqL K H a xs
  | .frz h => Or.inl (Or.inr ⟨_, h⟩)
  | .kk lk c d e z v => Or.inr ⟨_, _, _, lk, c, d, e, z, v⟩
theorem FzL.gr {K : PySem.W.Frag} {H H' : Hp} {a : Addr} {xs : List V} (g : Gr H H') : FzL K H a xs → FzL K H' a xs
  | .frz h => .frz (g.frz _ _ _ h)
  | .kk lk c d e z v => .kk lk c d e z v

/-- the tables of the defs' code objects, the defs, the classes -/
class Tb where
  l : List Addr
  fa : Nat → Addr
  ca : Nat → Addr
  lm : List (Addr × Str)
  dj : ∀ p ∈ lm, p.1 ∉ l
  un : ∀ p ∈ lm, ∀ q ∈ lm, p.1 = q.1 → p.2 = q.2
/-- in a def that was handed a function: which of its names holds it, where it stands; what stands as long as it may be called -/
class Cb where
  cl : Option (Nat × Addr)
  tr : List (Addr × HO)
  cv : List V
  ca : List AV
variable [Tb]
mutual
inductive Rp (K : PySem.W.Frag) (ρ : List Addr) (H : Hp) : V → AV → Prop
  | non : Rp K ρ H .non .non
  | bl (b : Bool) : Rp K ρ H (.bl b) (.bl b)
  | int (i : Int) : Rp K ρ H (.int i) (.int i)
  | str (x : Str) : Rp K ρ H (.str x) (.str x)
  | tup {a : Addr} {xs : List V} {ds : List AV} : SqT K H a xs → RpL K ρ H xs ds → Rp K ρ H (.ref a) (.tup ds)
  | lst {a : Addr} {xs : List V} {ds : List AV} : FzL K H a xs → RpL K ρ H xs ds → Rp K ρ H (.ref a) (.lst ds)
  | ref {a : Addr} {n : Nat} : ρ[n]? = some a → Rp K ρ H (.ref a) (.ref n)
  | fn (i : Nat) : Rp K ρ H (.ref (Tb.fa i)) (.fn i)
inductive RpL (K : PySem.W.Frag) (ρ : List Addr) (H : Hp) : List V → List AV → Prop
  | nil : RpL K ρ H [] []
  | cons {v : V} {vs : List V} {d : AV} {ds : List AV} : Rp K ρ H v d → RpL K ρ H vs ds → RpL K ρ H (v :: vs) (d :: ds)
end
section
variable {K : PySem.W.Frag} {ρ ρ' : List Addr} {H H' : Hp}
mutual
theorem Rp.up (le : Le ρ ρ') (g : Gr H H') : ∀ (d : AV) (v : V), Rp K ρ H v d → Rp K ρ' H' v d
  | .non, _, h => by cases h; exact .non
  | .bl b, _, h => by cases h; exact .bl b
  | .int i, _, h => by cases h; exact .int i
  | .str x, _, h => by cases h; exact .str x
  | .tup ds, _, h => by
    cases h with
    | tup a b => exact .tup (sqt_gr g a) (RpL.up le g ds _ b)
  | .lst ds, _, h => by
    cases h with
    | lst a b => exact .lst (a.gr g) (RpL.up le g ds _ b)
  | .ref n, _, h => by
    cases h with
    | ref a => exact .ref (le _ _ a)
  | .fn i, _, h => by cases h; exact .fn i
theorem RpL.up (le : Le ρ ρ') (g : Gr H H') : ∀ (ds : List AV) (vs : List V), RpL K ρ H vs ds → RpL K ρ' H' vs ds
  | [], _, h => by cases h; exact .nil
  | d :: ds, _, h => by
    cases h with
    | cons a b => exact .cons (Rp.up le g d _ a) (RpL.up le g ds _ b)
end
theorem RpL.len : ∀ {vs : List V} {ds : List AV}, RpL K ρ H vs ds → vs.length = ds.length
  | _, [], h => by cases h; rfl
  | _, d :: ds, h => by
    cases h with
    | cons a b => simp [RpL.len b]
theorem RpL.app : ∀ {vs ws : List V} {ds es : List AV}, RpL K ρ H vs ds → RpL K ρ H ws es → RpL K ρ H (vs ++ ws) (ds ++ es)
  | _, _, [], _, h, h' => by cases h; exact h'
  | _, _, d :: ds, _, h, h' => by
    cases h with
    | cons a b => exact .cons a (RpL.app b h')
theorem RpL.get : ∀ {vs : List V} {ds : List AV} {i : Nat} {d : AV}, RpL K ρ H vs ds → ds[i]? = some d → ∃ v, vs[i]? = some v ∧ Rp K ρ H v d
  | _, [], _, _, h, e => by simp at e
  | _, d :: ds, 0, _, h, e => by
    cases h with
    | cons a b => simp at e; subst e; exact ⟨_, rfl, a⟩
  | _, d :: ds, i + 1, _, h, e => by
    cases h with
    | cons a b =>
      obtain ⟨v, h1, h2⟩ := RpL.get (i := i) b (by simpa using e)
      exact ⟨v, by simpa using h1, h2⟩
theorem RpL.getV : ∀ {vs : List V} {ds : List AV} {i : Nat} {v : V}, RpL K ρ H vs ds → vs[i]? = some v → ∃ d, ds[i]? = some d ∧ Rp K ρ H v d
  | _, [], _, _, h, e => by cases h; simp at e
  | _, d :: ds, 0, _, h, e => by
    cases h with
    | cons a b => simp at e; subst e; exact ⟨_, rfl, a⟩
  | _, d :: ds, i + 1, _, h, e => by
    cases h with
    | cons a b =>
      obtain ⟨v, h1, h2⟩ := RpL.getV (i := i) b (by simpa using e)
      exact ⟨v, by simpa using h1, h2⟩
theorem RpL.set : ∀ {vs : List V} {ds : List AV} {v : V} {d : AV} (i : Nat), Rp K ρ H v d → RpL K ρ H vs ds → RpL K ρ H (vs.set i v) (ds.set i d)
  | _, [], _, _, _, _, h => by cases h; exact .nil
  | _, _ :: _, _, _, 0, r, h => by
    cases h with
    | cons a b => exact .cons r b
  | _, _ :: _, _, _, i + 1, r, h => by
    cases h with
    | cons a b => exact .cons a (RpL.set i r b)
theorem RpL.take : ∀ {vs : List V} {ds : List AV} (n : Nat), RpL K ρ H vs ds → RpL K ρ H (vs.take n) (ds.take n)
  | _, _, 0, _ => .nil
  | _, [], _ + 1, h => by cases h; exact .nil
  | _, _ :: _, n + 1, h => by
    cases h with
    | cons a b => exact .cons a (RpL.take n b)
theorem RpL.drop : ∀ {vs : List V} {ds : List AV} (n : Nat), RpL K ρ H vs ds → RpL K ρ H (vs.drop n) (ds.drop n)
  | _, _, 0, h => h
  | _, [], _ + 1, h => by cases h; exact .nil
  | _, _ :: _, n + 1, h => by
    cases h with
    | cons a b => exact RpL.drop n b
/-- the fields of an instance -/
def FsR (K : PySem.W.Frag) (ρ : List Addr) (H : Hp) : List (Str × V) → List (Str × AV) → Prop
  | [], [] => True
  | (f, v) :: gs, (g, d) :: fs => f = g ∧ Rp K ρ H v d ∧ FsR K ρ H gs fs
  | _, _ => False
theorem FsR.up (le : Le ρ ρ') (g : Gr H H') : ∀ {gs : List (Str × V)} {fs : List (Str × AV)}, FsR K ρ H gs fs → FsR K ρ' H' gs fs
  | [], [], _ => trivial
  | (_, _) :: _, (_, d) :: _, h => ⟨h.1, Rp.up le g d _ h.2.1, FsR.up le g h.2.2⟩
  | [], _ :: _, h => h.elim
  | _ :: _, [], h => h.elim
theorem FsR.len : ∀ {gs : List (Str × V)} {fs : List (Str × AV)}, FsR K ρ H gs fs → gs.length = fs.length
  | [], [], _ => rfl
  | (_, _) :: _, (_, _) :: _, h => by simp [FsR.len h.2.2]
  | [], _ :: _, h => h.elim
  | _ :: _, [], h => h.elim
theorem FsR.get {f : Str} {d : AV} : ∀ {gs : List (Str × V)} {fs : List (Str × AV)}, FsR K ρ H gs fs → fs.lookup f = some d → ∃ v, gs.lookup f = some v ∧ Rp K ρ H v d
  | [], [], _, h => by cases h
  | (a, v) :: gs, (b, e) :: fs, r, h => by
    obtain ⟨rfl, r1, r2⟩ := r
    rw [List.lookup_cons] at h ⊢
    cases q : f == a with
    | true =>
      rw [q] at h
      cases h
      exact ⟨v, rfl, r1⟩
    | false =>
      rw [q] at h
      exact FsR.get r2 h
  | [], _ :: _, r, _ => r.elim
  | _ :: _, [], r, _ => r.elim
theorem FsR.none {f : Str} : ∀ {gs : List (Str × V)} {fs : List (Str × AV)}, FsR K ρ H gs fs → fs.lookup f = none → gs.lookup f = none
  | [], [], _, h => rfl
  | (a, v) :: gs, (b, e) :: fs, r, h => by
    obtain ⟨rfl, r1, r2⟩ := r
    rw [List.lookup_cons] at h ⊢
    cases q : f == a with
    | true =>
      rw [q] at h
      cases h
    | false =>
      rw [q] at h
      exact FsR.none r2 h
  | [], _ :: _, r, _ => r.elim
  | _ :: _, [], r, _ => r.elim
theorem FsR.put {f : Str} {v : V} {d : AV} (r : Rp K ρ H v d) : ∀ {gs : List (Str × V)} {fs : List (Str × AV)}, FsR K ρ H gs fs → FsR K ρ H (putF f v gs) (putA f d fs)
  | [], [], _ => ⟨rfl, r, trivial⟩
  | (a, w) :: gs, (b, e) :: fs, h => by
    obtain ⟨rfl, r1, r2⟩ := h
    unfold putF putA
    by_cases q : a = f
    · rw [if_pos q, if_pos q]
      exact ⟨rfl, r, r2⟩
    · rw [if_neg q, if_neg q]
      exact ⟨rfl, r1, FsR.put r r2⟩
  | [], _ :: _, r => r.elim
  | _ :: _, [], r => r.elim
/-- the pairs of a dict -/
def KvR (K : PySem.W.Frag) (ρ : List Addr) (H : Hp) : List (Key × V) → List (Key × AV) → Prop
  | [], [] => True
  | (f, v) :: gs, (g, d) :: fs => f = g ∧ Rp K ρ H v d ∧ KvR K ρ H gs fs
  | _, _ => False
theorem KvR.up (le : Le ρ ρ') (g : Gr H H') : ∀ {gs : List (Key × V)} {fs : List (Key × AV)}, KvR K ρ H gs fs → KvR K ρ' H' gs fs
  | [], [], _ => trivial
  | (_, _) :: _, (_, d) :: _, h => ⟨h.1, Rp.up le g d _ h.2.1, KvR.up le g h.2.2⟩
  | [], _ :: _, h => h.elim
  | _ :: _, [], h => h.elim
theorem KvR.len : ∀ {gs : List (Key × V)} {fs : List (Key × AV)}, KvR K ρ H gs fs → gs.length = fs.length
  | [], [], _ => rfl
  | (_, _) :: _, (_, _) :: _, h => by simp [KvR.len h.2.2]
  | [], _ :: _, h => h.elim
  | _ :: _, [], h => h.elim
theorem KvR.look (k : Key) : ∀ {gs : List (Key × V)} {fs : List (Key × AV)}, KvR K ρ H gs fs → match lookK fs k with
    | some d => ∃ v, valV gs k = some v ∧ Rp K ρ H v d
    | none => valV gs k = none
  | [], [], _ => rfl
  | (a, v) :: gs, (b, e) :: fs, r => by
    obtain ⟨rfl, r1, r2⟩ := r
    have ih := KvR.look k r2
    by_cases q : a = k
    · have e1 : lookK ((a, e) :: fs) k = some e := by unfold lookK; rw [List.find?_cons_of_pos (by simpa using q)]; rfl
      rw [e1]
      exact ⟨v, valV_pos q, r1⟩
    · have e1 : lookK ((a, e) :: fs) k = lookK fs k := by unfold lookK; rw [List.find?_cons_of_neg (by simpa using q)]
      rw [e1, valV_neg (p := (a, v)) (r := gs) q]
      exact ih
  | [], _ :: _, r => r.elim
  | _ :: _, [], r => r.elim
theorem KvR.has (k : Key) : ∀ {gs : List (Key × V)} {fs : List (Key × AV)}, KvR K ρ H gs fs → (gs.any fun kv => decide (kv.1 = k)) = hasK fs k
  | [], [], _ => rfl
  | (a, v) :: gs, (b, e) :: fs, r => by
    obtain ⟨rfl, r1, r2⟩ := r
    have ih := KvR.has k r2
    unfold hasK at ih ⊢
    rw [List.any_cons, List.any_cons, ih]
  | [], _ :: _, r => r.elim
  | _ :: _, [], r => r.elim
theorem KvR.repl {v : V} {d : AV} (k : Key) (r : Rp K ρ H v d) : ∀ {gs : List (Key × V)} {fs : List (Key × AV)}, KvR K ρ H gs fs → KvR K ρ H (gs.map fun kv => if kv.1 = k then (kv.1, v) else kv) (fs.map fun kv => if kv.1 = k then (kv.1, d) else kv)
  | [], [], _ => trivial
  | (a, w) :: gs, (b, e) :: fs, h => by
    obtain ⟨rfl, r1, r2⟩ := h
    rw [List.map_cons, List.map_cons]
    by_cases q : a = k
    · rw [if_pos q, if_pos q]
      exact ⟨rfl, r, KvR.repl k r r2⟩
    · rw [if_neg q, if_neg q]
      exact ⟨rfl, r1, KvR.repl k r r2⟩
  | [], _ :: _, r => r.elim
  | _ :: _, [], r => r.elim
theorem KvR.snoc {v : V} {d : AV} (k : Key) (r : Rp K ρ H v d) : ∀ {gs : List (Key × V)} {fs : List (Key × AV)}, KvR K ρ H gs fs → KvR K ρ H (gs ++ [(k, v)]) (fs ++ [(k, d)])
  | [], [], _ => ⟨rfl, r, trivial⟩
  | (_, _) :: _, (_, _) :: _, h => ⟨h.1, h.2.1, KvR.snoc k r h.2.2⟩
  | [], _ :: _, r => r.elim
  | _ :: _, [], r => r.elim
theorem KvR.del (k : Key) : ∀ {gs : List (Key × V)} {fs : List (Key × AV)}, KvR K ρ H gs fs → KvR K ρ H (dropK gs k) (delK fs k)
  | [], [], _ => trivial
  | (f, v) :: gs, (g, d) :: fs, h => by
    obtain ⟨e, r1, r2⟩ := h
    subst e
    have ih := KvR.del k r2
    unfold dropK delK at ih ⊢
    by_cases q : f = k
    · rw [List.filter_cons_of_neg (by simpa using q), List.filter_cons_of_neg (by simpa using q)]
      exact ih
    · rw [List.filter_cons_of_pos (by simpa using q), List.filter_cons_of_pos (by simpa using q)]
      exact ⟨rfl, r1, ih⟩
  | [], _ :: _, h => h.elim
  | _ :: _, [], h => h.elim
theorem KvR.put {v : V} {d : AV} (k : Key) (r : Rp K ρ H v d) {gs : List (Key × V)} {fs : List (Key × AV)} (h : KvR K ρ H gs fs) : KvR K ρ H (putK gs k v) (storeK fs k d) := by
  unfold putK storeK
  rw [h.has k]
  split
  · exact h.repl k r
  · exact h.snoc k r
/-- an object of the store -/
def ObR (K : PySem.W.Frag) (ρ : List Addr) (H : Hp) (a : Addr) : AO → Prop
  | .lst ds => ∃ xs, H a = some (.lst xs) ∧ RpL K ρ H xs ds
  | .ins c fs => ∃ dx gs, H a = some (.ins (Tb.ca c) dx gs) ∧ FsR K ρ H gs fs
  | .dct kvs => ∃ gs, H a = some (.dK gs) ∧ KvR K ρ H gs kvs
theorem ObR.mv {a : Addr} : ∀ {o : AO}, ObR K ρ H a o → Le ρ ρ' → Gr H H' → H' a = H a → ObR K ρ' H' a o
  | .lst ds, ⟨xs, h1, h2⟩, le, g, e => ⟨xs, e.trans h1, RpL.up le g _ _ h2⟩
  | .ins c fs, ⟨dx, gs, h1, h2⟩, le, g, e => ⟨dx, gs, e.trans h1, h2.up le g⟩
  | .dct kvs, ⟨gs, h1, h2⟩, le, g, e => ⟨gs, e.trans h1, h2.up le g⟩
theorem ObR.some {a : Addr} : ∀ {o : AO}, ObR K ρ H a o → ∃ u, H a = some u ∧ (∀ ps, u ≠ .tbl ps)
  | .lst ds, ⟨xs, h1, h2⟩ => ⟨_, h1, fun ps z => nomatch z⟩
  | .ins c fs, ⟨dx, gs, h1, h2⟩ => ⟨_, h1, fun ps z => nomatch z⟩
  | .dct kvs, ⟨gs, h1, h2⟩ => ⟨_, h1, fun ps z => nomatch z⟩
/-- the tables -/
structure TbOk (H : Hp) : Prop where
  l : ∀ P ∈ Tb.l, GxR.TabG H P
  m : ∀ p ∈ Tb.lm, LamX.TabS H p.1 p.2
theorem TbOk.upd {H : Hp} (h : TbOk H) {p : Addr} {o : HO} (hp : ∀ u, H p = some u → (∀ ps, u ≠ .tbl ps) ∧ ∀ φ, u ≠ .ext φ) : TbOk (upd H p o) := ⟨fun P hP => by
  obtain ⟨ps, e, t⟩ := h.l P hP
  exact ⟨ps, by rw [upd_ne (fun z => (hp (.tbl ps) (by rw [← z]; exact e)).1 ps rfl)]; exact e, t⟩, fun q hq => by
  obtain ⟨ps, e, t, c⟩ := h.m q hq
  refine ⟨ps, by rw [upd_ne (fun z => (hp (.tbl ps) (by rw [← z]; exact e)).1 ps rfl)]; exact e, t, fun pos cv hc => ?_⟩
  obtain ⟨c0, e1, e2⟩ := c pos cv hc
  refine ⟨c0, e1, ?_⟩
  rw [upd_ne (fun z => (hp _ (by rw [← z]; exact e2)).2 _ rfl)]
  exact e2⟩
theorem TbOk.keep {H H' : Hp} (h : TbOk H) (k : ∀ a u, H a = some u → H' a = some u) : TbOk H' := ⟨fun P hP => by
  obtain ⟨ps, e, t⟩ := h.l P hP
  exact ⟨ps, k _ _ e, t⟩, fun q hq => (h.m q hq).ext k⟩
theorem TbOk.but {H H' : Hp} (h : TbOk H) (k : ∀ a u, H a = some u → (∀ xs, u ≠ .lst xs) → H' a = some u) : TbOk H' := ⟨fun P hP => by
  obtain ⟨ps, e, t⟩ := h.l P hP
  exact ⟨ps, k _ _ e (fun xs z => by cases z), t⟩, fun q hq => by
  obtain ⟨ps, e, t1, c⟩ := h.m q hq
  refine ⟨ps, k _ _ e (fun xs z => by cases z), t1, fun pos cv hc => ?_⟩
  obtain ⟨c0, e1, e2⟩ := c pos cv hc
  exact ⟨c0, e1, k _ _ e2 (fun xs z => by cases z)⟩⟩
theorem TbOk.tbd {H H' : Hp} {P : Addr} (h : TbOk H) (hP : P ∈ Tb.l) (t : GxR.Tabbed P H H') : TbOk H' := ⟨fun Q hQ => by
  by_cases e : Q = P
  · rw [e]
    exact t.1
  · obtain ⟨ps, e1, t1⟩ := h.l Q hQ
    exact ⟨ps, by rw [t.2 Q e]; exact e1, t1⟩, fun q hq => by
  obtain ⟨ps, e, t1, c⟩ := h.m q hq
  have ne : q.1 ≠ P := fun z => Tb.dj q hq (by rw [z]; exact hP)
  refine ⟨ps, by rw [t.2 _ ne]; exact e, t1, fun pos cv hc => ?_⟩
  obtain ⟨c0, e1, e2⟩ := c pos cv hc
  refine ⟨c0, e1, ?_⟩
  obtain ⟨ps2, e3, _⟩ := h.l P hP
  rw [t.2 c0 (fun z => by rw [z, e3] at e2; cases e2)]
  exact e2⟩
structure StR (K : PySem.W.Frag) (ρ : List Addr) (H : Hp) (s : Sto) : Prop where
  len : s.length = ρ.length
  nd : ρ.Nodup
  tb : TbOk H
  ob : ∀ (n : Nat) (a : Addr) (o : AO), ρ[n]? = some a → s[n]? = some o → ObR K ρ H a o
variable [Cb]
structure SlR (K : PySem.W.Frag) (ρ : List Addr) (H : Hp) (σ : L2.St) (sl : Slots) : Prop where
  len : σ.length = sl.length
  get : ∀ (i : Nat) (d : AV), sl[i]? = some (some d) → ∃ v, σ[i]? = some (some v) ∧ Rp K ρ H v d
  clo : ∀ (i : Nat) (p : Addr), Cb.cl = some (i, p) → σ[i]? = some (some (.ref p)) ∧ (∀ x ∈ Cb.tr, H x.1 = some x.2 ∧ x.1 ∉ ρ ∧ ∀ ps, x.2 ≠ .tbl ps) ∧ RpL K ρ H Cb.cv Cb.ca
/-- not the name of the function that was handed -/
def NotC (i : Nat) : Prop := ∀ (j : Nat) (p : Addr), Cb.cl = some (j, p) → i ≠ j
theorem SlR.up {σ : L2.St} {sl : Slots} (h : SlR K ρ H σ sl) (g : Go ρ H ρ' H') : SlR K ρ' H' σ sl := ⟨h.len, fun i d e => by
  obtain ⟨v, h1, h2⟩ := h.get i d e
  exact ⟨v, h1, Rp.up g.le g.g _ _ h2⟩, fun i p e => by
  obtain ⟨h1, h2, h3⟩ := h.clo i p e
  refine ⟨h1, fun x hx => ?_, RpL.up g.le g.g _ _ h3⟩
  obtain ⟨q1, q2, q3⟩ := h2 x hx
  obtain ⟨r1, r2⟩ := g.f _ _ q1 q2 q3
  exact ⟨r1, r2, q3⟩⟩
theorem SlR.set {σ : L2.St} {sl : Slots} (h : SlR K ρ H σ sl) {v : V} {d : AV} (r : Rp K ρ H v d) (i : Nat) (hi : NotC i) : SlR K ρ H (σ.set i (some v)) (sl.set i (some d)) := ⟨by simp [h.len], fun j e q => by
  by_cases hj : i = j
  · subst hj
    by_cases hi : i < sl.length
    · rw [List.getElem?_set_self hi] at q
      cases q
      exact ⟨v, List.getElem?_set_self (by rw [h.len]; exact hi), r⟩
    · rw [List.getElem?_eq_none (by simpa using hi)] at q
      cases q
  · rw [List.getElem?_set_ne hj] at q ⊢
    exact h.get j e q, fun j p e => by
  rw [List.getElem?_set_ne (hi j p e)]
  exact h.clo j p e⟩
theorem SlR.unset {σ : L2.St} {sl : Slots} (h : SlR K ρ H σ sl) (i : Nat) (hi : NotC i) : SlR K ρ H (σ.set i none) (sl.set i none) := ⟨by simp [h.len], fun j e q => by
  by_cases hj : i = j
  · subst hj
    by_cases hi : i < sl.length
    · rw [List.getElem?_set_self hi] at q
      cases q
    · rw [List.getElem?_eq_none (by simpa using hi)] at q
      cases q
  · rw [List.getElem?_set_ne hj] at q ⊢
    exact h.get j e q, fun j p e => by
  rw [List.getElem?_set_ne (hi j p e)]
  exact h.clo j p e⟩
theorem SlR.wipe {σ : L2.St} {sl : Slots} (h : SlR K ρ H σ sl) : ∀ vs : List Nat, (∀ i ∈ vs, NotC i) → SlR K ρ H (L2.wipe σ vs) (wipeA sl vs)
  | [], _ => h
  | v :: vs, hv => by
    show SlR K ρ H ((L2.wipe σ vs).set v none) ((wipeA sl vs).set v none)
    exact (SlR.wipe h vs fun i hi => hv i (List.mem_cons_of_mem _ hi)).unset v (hv v List.mem_cons_self)
theorem StR.fresh_out {s : Sto} (h : StR K ρ H s) {p : Addr} (hp : H p = none) : p ∉ ρ := fun hm => by
  obtain ⟨n, hn⟩ := List.getElem?_of_mem hm
  have hl : n < s.length := by rw [h.len]; exact (List.getElem?_eq_some_iff.mp hn).1
  obtain ⟨u, e, _⟩ := (h.ob n p s[n] hn (List.getElem?_eq_getElem hl)).some
  rw [hp] at e
  cases e
/-- a new object -/
theorem StR.newO {s : Sto} (h : StR K ρ H s) {p : Addr} (hp : H p = none) {o : AO} (g : Gr H H') (keep : ∀ a u, H a = some u → H' a = some u) (ob : ObR K (ρ ++ [p]) H' p o) :
    StR K (ρ ++ [p]) H' (s ++ [o]) ∧ Rp K (ρ ++ [p]) H' (.ref p) (.ref s.length) := by
  have le : Le ρ (ρ ++ [p]) := Le.app _ _
  have at_ : (ρ ++ [p])[ρ.length]? = some p := by simp
  have fr : p ∉ ρ := h.fresh_out hp
  refine ⟨⟨by simp [h.len], ?_, h.tb.keep keep, fun n a u e1 e2 => ?_⟩, .ref (by rw [h.len]; exact at_)⟩
  · rw [List.nodup_append]
    refine ⟨h.nd, by simp, fun a ha b hb z => ?_⟩
    rw [List.mem_singleton] at hb
    subst hb
    subst z
    exact fr ha
  · by_cases hn : n < ρ.length
    · rw [List.getElem?_append_left hn] at e1
      rw [List.getElem?_append_left (by rw [h.len]; exact hn)] at e2
      have hob := h.ob n a u e1 e2
      obtain ⟨v, hv, _⟩ := hob.some
      exact hob.mv le g (by rw [hv]; exact keep _ _ hv)
    · have hn2 : n = ρ.length := by
        have := (List.getElem?_eq_some_iff.mp e1).1
        simp at this
        omega
      subst hn2
      rw [at_] at e1
      cases e1
      have e3 : (s ++ [o])[ρ.length]? = some o := by rw [← h.len]; simp
      rw [e3] at e2
      cases e2
      exact ob
theorem StR.new {s : Sto} (h : StR K ρ H s) {p : Addr} (hp : H p = none) {xs : List V} {ds : List AV} (r : RpL K ρ H xs ds) :
    StR K (ρ ++ [p]) (upd H p (.lst xs)) (s ++ [.lst ds]) ∧ Rp K (ρ ++ [p]) (upd H p (.lst xs)) (.ref p) (.ref s.length) :=
  h.newO hp (Gr.new hp) (fun a u e => by rw [upd_ne (ne_of_none e hp)]; exact e) ⟨xs, upd_same, RpL.up (Le.app _ _) (Gr.new hp) _ _ r⟩
/-- an object is changed -/
theorem StR.putO {s : Sto} (h : StR K ρ H s) {k : Nat} {p : Addr} (hk : ρ[k]? = some p) {u w : HO} (hp : H p = some u) (nt : (∀ ps, u ≠ .tbl ps) ∧ ∀ φ, u ≠ .ext φ) {o : AO} (g : Gr H (upd H p w)) (ob : ObR K ρ (upd H p w) p o) :
    StR K ρ (upd H p w) (s.set k o) := by
  refine ⟨by simp [h.len], h.nd, h.tb.upd (fun z e => by rw [hp] at e; cases e; exact nt), fun n a v e1 e2 => ?_⟩
  by_cases hn : k = n
  · subst hn
    rw [hk] at e1
    cases e1
    have hl : k < s.length := by rw [h.len]; exact (List.getElem?_eq_some_iff.mp hk).1
    rw [List.getElem?_set_self hl] at e2
    cases e2
    exact ob
  · rw [List.getElem?_set_ne hn] at e2
    have hob := h.ob n a v e1 e2
    have hne : a ≠ p := fun z => by
      subst z
      exact hn (by
        have h1 := (List.getElem?_eq_some_iff.mp hk).1
        have h2 := (List.getElem?_eq_some_iff.mp e1).1
        have h3 : ρ[k] = ρ[n] := by rw [(List.getElem?_eq_some_iff.mp hk).2, (List.getElem?_eq_some_iff.mp e1).2]
        exact (List.getElem_inj h.nd).mp h3)
    exact hob.mv (Le.refl _) g (upd_ne hne)
theorem StR.put {s : Sto} (h : StR K ρ H s) {k : Nat} {p : Addr} (hk : ρ[k]? = some p) {ys : List V} (hp : H p = some (.lst ys)) {xs : List V} {ds : List AV} (r : RpL K ρ H xs ds) :
    StR K ρ (upd H p (.lst xs)) (s.set k (.lst ds)) :=
  h.putO hk hp ⟨fun ps z => (by cases z), fun φ z => (by cases z)⟩ (Gr.mut hp) ⟨xs, upd_same, RpL.up (Le.refl _) (Gr.mut hp) _ _ r⟩
theorem Gr.mutI {H : Hp} {p C dx : Addr} {gs : List (Str × V)} {o : HO} (h : H p = some (.ins C dx gs)) : Gr H (upd H p o) :=
  ⟨fun a ys e => by rw [upd_ne (ne_of e h (by intro z; cases z))]; exact e, fun a b u e => by rw [upd_ne (ne_of e h (by intro z; cases z))]; exact e⟩
theorem Go.putI {ρ : List Addr} {H : Hp} {p C dx : Addr} {gs : List (Str × V)} {o : HO} {k : Nat} (hk : ρ[k]? = some p) (h : H p = some (.ins C dx gs)) : Go ρ H ρ (L2.upd H p o) := ⟨Le.refl _, Gr.mutI h, fun a u e n _ => ⟨by
  rw [upd_ne (fun z => n (by rw [z]; exact List.mem_of_getElem? hk))]
  exact e, n⟩⟩
theorem StR.putI {s : Sto} (h : StR K ρ H s) {k c : Nat} {p dx dx' : Addr} {C : Addr} {gs gs' : List (Str × V)} {fs' : List (Str × AV)} (hk : ρ[k]? = some p) (hp : H p = some (.ins C dx gs)) (r : FsR K ρ H gs' fs') :
    StR K ρ (upd H p (.ins (Tb.ca c) dx' gs')) (s.set k (.ins c fs')) :=
  h.putO hk hp ⟨fun ps z => (by cases z), fun φ z => (by cases z)⟩ (Gr.mutI hp) ⟨dx', gs', upd_same, r.up (Le.refl _) (Gr.mutI hp)⟩
theorem Gr.mutD {H : Hp} {p : Addr} {gs : List (Key × V)} {o : HO} (h : H p = some (.dK gs)) : Gr H (upd H p o) :=
  ⟨fun a ys e => by rw [upd_ne (ne_of e h (by intro z; cases z))]; exact e, fun a b u e => by rw [upd_ne (ne_of e h (by intro z; cases z))]; exact e⟩
theorem Go.putD {ρ : List Addr} {H : Hp} {p : Addr} {gs : List (Key × V)} {o : HO} {k : Nat} (hk : ρ[k]? = some p) (h : H p = some (.dK gs)) : Go ρ H ρ (L2.upd H p o) := ⟨Le.refl _, Gr.mutD h, fun a u e n _ => ⟨by
  rw [upd_ne (fun z => n (by rw [z]; exact List.mem_of_getElem? hk))]
  exact e, n⟩⟩
theorem StR.putD {s : Sto} (h : StR K ρ H s) {k : Nat} {p : Addr} {gs gs' : List (Key × V)} {fs' : List (Key × AV)} (hk : ρ[k]? = some p) (hp : H p = some (.dK gs)) (r : KvR K ρ H gs' fs') :
    StR K ρ (upd H p (.dK gs')) (s.set k (.dct fs')) :=
  h.putO hk hp ⟨fun ps z => (by cases z), fun φ z => (by cases z)⟩ (Gr.mutD hp) ⟨gs', upd_same, r.up (Le.refl _) (Gr.mutD hp)⟩
theorem StR.newD {s : Sto} (h : StR K ρ H s) {p : Addr} (hp : H p = none) {gs : List (Key × V)} {fs : List (Key × AV)} (r : KvR K ρ H gs fs) :
    StR K (ρ ++ [p]) (upd H p (.dK gs)) (s ++ [.dct fs]) ∧ Rp K (ρ ++ [p]) (upd H p (.dK gs)) (.ref p) (.ref s.length) :=
  h.newO hp (Gr.new hp) (fun a u e => by rw [upd_ne (ne_of_none e hp)]; exact e) ⟨gs, upd_same, KvR.up (Le.app _ _) (Gr.new hp) r⟩
theorem StR.atD {s : Sto} (h : StR K ρ H s) {k : Nat} {p : Addr} {fs : List (Key × AV)} (hk : ρ[k]? = some p) (e : s[k]? = some (.dct fs)) : ∃ gs, H p = some (.dK gs) ∧ KvR K ρ H gs fs := h.ob k p _ hk e
theorem StR.at {s : Sto} (h : StR K ρ H s) {k : Nat} {p : Addr} {ds : List AV} (hk : ρ[k]? = some p) (e : s[k]? = some (.lst ds)) : ∃ xs, H p = some (.lst xs) ∧ RpL K ρ H xs ds := h.ob k p _ hk e
theorem StR.atI {s : Sto} (h : StR K ρ H s) {k c : Nat} {p : Addr} {fs : List (Str × AV)} (hk : ρ[k]? = some p) (e : s[k]? = some (.ins c fs)) : ∃ dx gs, H p = some (.ins (Tb.ca c) dx gs) ∧ FsR K ρ H gs fs := h.ob k p _ hk e
/-- the items of a list or tuple stand there -/
theorem items_sq {s : Sto} (h : StR K ρ H s) {d : AV} {v : V} {ds : List AV} (r : Rp K ρ H v d) (e : items s d = some ds) : ∃ a xs, v = .ref a ∧ (SqL K H a xs ∨ SqT K H a xs) ∧ RpL K ρ H xs ds := by
  cases r with
  | tup a b =>
    cases e
    exact ⟨_, _, rfl, Or.inr a, b⟩
  | lst a b =>
    cases e
    exact ⟨_, _, rfl, Or.inl a.sq, b⟩
  | @ref a n q =>
    have e2 : (match s[n]? with
      | some (.lst xs) => some xs
      | _ => none) = some ds := e
    split at e2
    · rename_i ys hs
      cases e2
      obtain ⟨xs, h1, h2⟩ := h.at q hs
      exact ⟨a, xs, rfl, Or.inl (Or.inl (Or.inl h1)), h2⟩
    · cases e2
  | non => cases e
  | bl _ => cases e
  | int _ => cases e
  | str _ => cases e
  | fn _ => cases e
end
end Jp


set_option Elab.async false
set_option linter.all false
set_option maxRecDepth 100000
namespace Jp
open PySem PySem.Spec PyProof.Rows L2

/-! ### which tree a word of the small language stands for -/
def dunder (x : Str) : Bool := (x == ("__debug__" : Str)) || (x == ("__classdict__" : Str)) || (x == ("__name__" : Str)) || (x == ("" : Str)) || (x == ("combine" : Str))
def visB (sc : Scope) (x : Str) : Bool := (match sc.names.lookup x with
  | some .local => true
  | some .cell => true
  | some .free => true
  | _ => false) && !dunder x
def glB (sc : Scope) (x : Str) : Bool := (match sc.names.lookup x with
  | some .globalImplicit => true
  | _ => false) && !dunder x
def litB : AV → Const → Bool
  | .non, .none => true
  | .bl a, .bool b => a == b
  | .int i, .int j => i == j
  | .str a, .str b => a == b
  | _, _ => false
def boB : BO → Operator → Bool
  | .add, .Add => true
  | .sub, .Sub => true
  | .mul, .Mult => true
  | .fdiv, .FloorDiv => true
  | .mod, .Mod => true
  | .pow, .Pow => true
  | _, _ => false
def coB : CO → CmpOp → Bool
  | .eq, .Eq => true
  | .ne, .NotEq => true
  | .lt, .Lt => true
  | .le, .LtE => true
  | .gt, .Gt => true
  | .ge, .GtE => true
  | .isN, .Is => true
  | .noN, .IsNot => true
  | .isB, .Is => true
  | .noB, .IsNot => true
  | .in_, .In => true
  | .notin, .NotIn => true
  | _, _ => false
def biN : BI → Str
  | .len => "len" | .int => "int" | .str => "str" | .repr => "repr" | .list => "list" | .tuple => "tuple" | .sortedSet => "sorted" | .sum => "sum" | .min => "min" | .max => "max" | .abs => "abs" | .sorted => "sorted"
def tyN : TY → Str
  | .int => "int" | .str => "str" | .bool => "bool" | .list => "list" | .tuple => "tuple"
def meN : ME → Str
  | .append => "append" | .startswith => "startswith" | .endswith => "endswith" | .split => "split" | .join => "join" | .find => "find" | .pop => "pop" | .extend => "extend" | .reverse => "reverse"
/-- minus one -/
def neg1 : Expr → Bool
  | .UnaryOp .USub (.Constant (.int i) _ _) _ => decide (i = 1)
  | _ => false
/-- [::-1] -/
def revB : Expr → Bool
  | .Slice none none (some e) _ => neg1 e
  | _ => false
theorem neg1_of {e : Expr} (h : neg1 e = true) : ∃ k p1 p2, e = .UnaryOp .USub (.Constant (.int 1) k p1) p2 := by
  unfold neg1 at h
  split at h
  · rw [of_decide_eq_true h]
    exact ⟨_, _, _, rfl⟩
  · cases h
theorem revB_of {y : Expr} (h : revB y = true) : ∃ k p1 p2 p3, y = .Slice none none (some (.UnaryOp .USub (.Constant (.int 1) k p1) p2)) p3 := by
  unfold revB at h
  split at h
  · obtain ⟨k, p1, p2, rfl⟩ := neg1_of h
    exact ⟨_, _, _, _, rfl⟩
  · cases h
/-- a call without arguments -/
def bare : Expr → Bool
  | .Call (.Name _ _) [] [] _ => true
  | _ => false
/-- a comprehension's names as its frame has them -/
def relab (outer scope : Scope) : Scope := { scope with names := scope.names.map fun (n, k) => if (k == NameKind.free && outer.kind == .function && outer.names.lookup n == some .cell) then (n, NameKind.cell) else (n, k) }
def keyB : Str → Option Expr → Bool
  | x, some (.Constant (.str y) _ _) => decide (x = y)
  | _, _ => false
def isListE : Expr → Bool
  | .List .. => true
  | .Set .. => true
  | _ => false
/-- a generator expression's own scope -/
def genC (N : List Str) (sc scope : Scope) (z : Str) : Bool :=
  decide (scope.kind = .function) && !scope.isCoroutine && (scope.names.all fun p => match p.2 with
    | .cell => false
    | .free => decide (sc.names.lookup p.1 = some .cell) || decide (sc.names.lookup p.1 = some .free)
    | .local => decide (p.1 = z) || decide (p.1 = (".0" : Str))
    | _ => true) && decide (scope.names.lookup (".0" : Str) = some .local) && decide (scope.names.lookup z = some .local) && !dunder z && decide ((".0" : Str) ∉ N)
mutual
def mtT (N : List Str) (sc osc : Scope) : IT → Expr → Bool
  | .nm i, .Name x _ => decide (N[i]? = some x) && decide (sc.names.lookup x = osc.names.lookup x) && (decide (osc.names.lookup x = some .local) || decide (osc.names.lookup x = some .cell)) && !dunder x
  | .tp ts, .Tuple es _ _ => mtTs N sc osc ts es
  | _, _ => false
def mtTs (N : List Str) (sc osc : Scope) : List IT → List Expr → Bool
  | [], [] => true
  | t :: ts, e :: es => mtT N sc osc t e && mtTs N sc osc ts es
  | _, _ => false
end
def mtO' (f : IE → Expr → Bool) : Option IE → Option Expr → Bool
  | none, none => true
  | some a, some x => f a x
  | _, _ => false
def mtW' (f : IE → Expr → Bool) (sc : Scope) (w : IW) (it : List IE) (src : Expr) : Bool := match w with
  | .range1 => (match src with
    | .Call (.Name x _) [y] [] _ => decide (x = "range") && glB sc x && all2 f it [y]
    | _ => false)
  | .range2 => (match src with
    | .Call (.Name x _) [y, z] [] _ => decide (x = "range") && glB sc x && all2 f it [y, z]
    | _ => false)
  | .seq => all2 f it [src]
  | .signs => false
/-- the names of a lambda: parameters, captured ones -/
def nsB (N ps fr : List Str) (sc : Scope) : Bool :=
  decide (sc.kind = .function) && !sc.isCoroutine && !sc.isGenerator && decide N.Nodup && decide (N.take (ps.length + fr.length) = ps ++ fr) && ps.all (fun x => decide (sc.names.lookup x = some .local)) && sc.names.all (fun y => !decide (y.2 = .cell)) && sc.names.all (fun y => !decide (y.2 = .free) || decide (y.1 ∈ fr)) && fr.all (fun x => decide (sc.names.lookup x = some .free))
/-- the outer's scope has what the inner one captures -/
def capB (sc nsc : Scope) (fr : List Str) : Bool :=
  (nsc.names.all fun y => !decide (y.2 = .free) || decide (sc.names.lookup y.1 = some .cell) || decide (sc.names.lookup y.1 = some .free)) && fr.all fun y => decide ((y, NameKind.free) ∈ nsc.names)
/-- where the captured names stand -/
def capsB (N : List Str) (sc : Scope) (caps : List IE) (fr : List Str) : Bool := all2 (fun ir y => match ir with
  | .slot i => decide (N[i]? = some y) && (decide (sc.names.lookup y = some .cell) || decide (sc.names.lookup y = some .free)) && !dunder y
  | _ => false) caps fr
/-- the marker of a def that makes lambdas -/
def LAM : Str := "<lambda>"
section
variable (N fn : List Str) (cn : Nm)
def mt : Nat → Scope → IE → Expr → Bool
  | 0, _, _, _ => false
  | n + 1, sc, ir, e => match e with
    | .BoolOp op [x, y] _ => (match ir, op with
      | .an a b, .And => mt n sc a x && mt n sc b y
      | .or_ a b, .Or => mt n sc a x && mt n sc b y
      | _, _ => false)
    | .BoolOp op (x :: y :: z :: rest) pos => (match ir, op with
      | .an a b, .And => mt n sc a x && mt n sc b (.BoolOp .And (y :: z :: rest) pos)
      | .or_ a b, .Or => mt n sc a x && mt n sc b (.BoolOp .Or (y :: z :: rest) pos)
      | _, _ => false)
    | .Name x _ => (match ir with
      | .slot i => decide (N[i]? = some x) && visB sc x
      | .con i => decide (cn.c[i]? = some x) && glB sc x
      | _ => false)
    | .Constant c _ _ => (match ir with
      | .lit d => litB d c
      | _ => false)
    | .Tuple xs _ _ => (match ir with
      | .tup es => all2 (mt n sc) es xs
      | _ => false)
    | .List xs _ => (match ir with
      | .lst es => all2 (mt n sc) es xs
      | _ => false)
    | .BinOp x op y _ => (match ir with
      | .bin o a b => boB o op && mt n sc a x && mt n sc b y
      | .crep c a r t => (match x, op, y with
        | .Constant (.str c') _ _, .Add, .Call (.Attribute o m apos) [.Constant (.str r') _ _, .Constant (.str t') _ _] [] cpos => decide (c = c') && decide (m = "replace") && decide (r = r') && decide (t = t') && (apos.endLine == cpos.line) && !bare o && mt n sc a o
        | _, _, _ => false)
      | _ => false)
    | .UnaryOp op x _ => (match ir, op with
      | .neg a, .USub => mt n sc a x
      | .nt a, .Not => mt n sc a x
      | _, _ => false)
    | .Compare x [op] [y] _ => (match ir with
      | .cmp o a b => coB o op && mt n sc a x && mt n sc b y
      | .din neg i a => coB (if neg then .notin else .in_) op && mt n sc i x && mt n sc a y
      | .cin neg d a => (match y with
        | .Name z _ => decide (cn.d[d]? = some z) && glB sc z && coB (if neg then .notin else .in_) op && mt n sc a x
        | _ => false)
      | _ => false)
    | .Compare x [op, op'] [y, z] _ => (match ir with
      | .chain o p a b c => coB o op && coB p op' && mt n sc a x && mt n sc b y && mt n sc c z
      | _ => false)
    | .IfExp c x y _ => (match ir with
      | .ife d a b => mt n sc d c && mt n sc a x && mt n sc b y
      | _ => false)
    | .Subscript x (.Slice lo hi none _) _ => (match ir with
      | .sl a l h => mt n sc a x && mtO' (mt n sc) l lo && mtO' (mt n sc) h hi
      | _ => false)
    | .Subscript x y _ => (match ir with
      | .idx a i => mt n sc a x && mt n sc i y
      | .dix a i => mt n sc a x && mt n sc i y
      | .cget d i => (match x with
        | .Name z _ => decide (cn.d[d]? = some z) && glB sc z && mt n sc i y
        | _ => false)
      | .rev a => revB y && mt n sc a x
      | _ => false)
    | .Dict [] [] _ => (match ir with
      | .dnew => true
      | _ => false)
    | .Dict keys values _ => (match ir with
      | .dmk ks vs => all2 keyB ks keys && all2 (mt n sc) vs values
      | _ => false)
    | .JoinedStr es _ => (match ir with
      | .js ps => decide (2 ≤ es.length) && all2 (fun ir e => match e with
        | .Constant (.str y) _ _ => (match ir with
          | .lit (.str x) => decide (x = y)
          | _ => false)
        | .FormattedValue x k f _ => decide (k = -1) && f.isNone && mt n sc ir x
        | _ => false) ps es
      | _ => false)
    | .Attribute o f _ => (match ir with
      | .fld a g => decide (f = g) && !bare o && mt n sc a o
      | _ => false)
    | .Call (.Name x _) xs [] _ => (match ir with
      | .call f es => decide (fn[f]? = some x) && glB sc x && all2 (mt n sc) es xs
      | .callz f es => decide (fn[f]? = some x) && glB sc x && all2 (mt n sc) es xs
      | .make c es => decide (cn.k[c]? = some x) && glB sc x && all2 (mt n sc) es xs
      | .callh q es caps => (match cn.lm[q]?, xs, es with
        | some L, [y, h], [a] => decide (fn[L.f]? = some x) && glB sc x && decide (L.na = 1) && mt n sc a y && (match L.kd with
          | .fn j => (match h with
            | .Name z _ => caps.isEmpty && decide (L.nc = 0) && decide (fn[j]? = some z) && glB sc z
            | _ => false)
          | .lam pars ps fr body => (match h with
            | .Lambda ⟨[], [a1, a2], none, [], [], none, []⟩ el scope _ => decide (pars = 2) && decide (ps = [a1.arg, a2.arg]) && decide (L.nc = fr.length) && nsB (ps ++ fr) ps fr scope && capB sc scope fr && capsB N sc caps fr && decide (LAM ∈ N) && cn.lt q scope el
            | _ => false))
        | _, _, _ => false)
      | .bi .sortedSet [a] => (match xs with
        | [.Call (.Name z _) [y] [] _] => decide (x = "sorted") && decide (z = "set") && glB sc x && glB sc z && mt n sc a y
        | _ => false)
      | .dcopy a => (match xs with
        | [y] => decide (x = "dict") && glB sc x && mt n sc a y
        | _ => false)
      | .bi b es => decide (b ≠ .sortedSet) && decide (x = biN b) && glB sc x && !xs.isEmpty && all2 (mt n sc) es xs
      | .isi a t => (match xs with
        | [y, .Name z _] => decide (x = "isinstance") && glB sc x && decide (z = tyN t) && glB sc z && mt n sc a y
        | _ => false)
      | .quant all i elt it => (match xs with
        | [.GeneratorExp el [⟨.Name z _, src, [], 0⟩] scope _] => decide (x = if all then "all" else "any") && glB sc x && decide (N[i]? = some z) && genC N sc scope z && !decide (LAM ∈ N) && !isListE src && mt n sc it src && mt n scope elt el
        | _ => false)
      | _ => false)
    | .Call (.Attribute o m apos) xs [] cpos => (match ir with
      | .meth a k es d => decide (m = k) && (apos.endLine == cpos.line) && !bare o && decide (xs.length < 20) && mt n sc a o && all2 (mt n sc) es xs
      | .dg1 a i => (match xs with
        | [x] => decide (m = "get") && (apos.endLine == cpos.line) && !bare o && mt n sc a o && mt n sc i x
        | _ => false)
      | .dpop a i => (match xs with
        | [x] => decide (m = "pop") && (apos.endLine == cpos.line) && !bare o && mt n sc a o && mt n sc i x
        | _ => false)
      | .dg2 a i d => (match xs with
        | [x, y] => decide (m = "get") && (apos.endLine == cpos.line) && !bare o && mt n sc a o && mt n sc i x && mt n sc d y
        | _ => false)
      | .me k a es => decide (m = meN k) && (apos.endLine == cpos.line) && !bare o && decide (xs.length < 20) && mt n sc a o && all2 (mt n sc) es xs
      | .dget ks vs e d => (match o, xs with
        | .Dict keys values _, [x, y] => decide (m = "get") && (apos.endLine == cpos.line) && all2 keyB ks keys && all2 (mt n sc) vs values && mt n sc e x && mt n sc d y
        | _, _ => false)
      | _ => false)
    | .ListComp el [⟨tg, src, ifs, 0⟩] scope _ => (match ir with
      | .lc own elt t w it cs => own.all (fun p => decide (N[p.2]? = some p.1) && !dunder p.1) && (tsl t).all (fun i => decide (i ∈ own.map (·.2))) && blkC N sc scope own && mtT N (relab sc scope) scope t tg && mtW' (mt n sc) sc w it src && decide (cs.length ≤ 1) && all2 (mt n (relab sc scope)) cs ifs && mt n (relab sc scope) elt el
      | _ => false)
    | _ => false
def mt.mtO (n : Nat) (sc : Scope) : Option IE → Option Expr → Bool := mtO' (mt N fn cn n sc)
def mt.mtW (n : Nat) (sc : Scope) : IW → List IE → Expr → Bool := mtW' (mt N fn cn n sc) sc
end
end Jp


set_option Elab.async false
set_option linter.all false
set_option maxRecDepth 100000
set_option maxHeartbeats 1000000
namespace Jp
open PySem PySem.Spec PyProof.Rows L2
variable [Tb] [Cb]

/-! ### what comes out, over the heap -/
theorem Rp.go {K : PySem.W.Frag} {ρ ρ' : List Addr} {H H' : Hp} {v : V} {d : AV} (r : Rp K ρ H v d) (g : Go ρ H ρ' H') : Rp K ρ' H' v d := Rp.up g.le g.g _ _ r
theorem RpL.go {K : PySem.W.Frag} {ρ ρ' : List Addr} {H H' : Hp} {v : List V} {d : List AV} (r : RpL K ρ H v d) (g : Go ρ H ρ' H') : RpL K ρ' H' v d := RpL.up g.le g.g _ _ r
theorem SlR.go {K : PySem.W.Frag} {ρ ρ' : List Addr} {H H' : Hp} {σ : L2.St} {sl : Slots} (r : SlR K ρ H σ sl) (g : Go ρ H ρ' H') : SlR K ρ' H' σ sl := r.up g
/-- the wish about errors -/
def XR (K : PySem.W.Frag) (xc : List (Addr × List Str)) (ρ : List Addr) (H : Hp) (cls : Value) (d : Option Addr) (x : AX) : Prop :=
  ∃ C fs, xc[x.cls]? = some (C, fs) ∧ cls = .ref C ∧ ((x.fs = [] ∧ d = none) ∨ ∃ dd vs, d = some dd ∧ H dd = some (.xd (fs.zip vs).reverse) ∧ RpL K ρ H vs x.fs ∧ fs.length = x.fs.length)
def Out {α β : Type} (K : PySem.W.Frag) (xc : List (Addr × List Str)) (E : XK) (ρ : List Addr) (H : Hp) (R : List Addr → Hp → β → α → Prop) (r : Rs α) (Q : β → Hp → Prop) : Prop := match r with
  | .ok a s => ∀ ρ' H' b, Go ρ H ρ' H' → StR K ρ' H' s → R ρ' H' b a → Q b H'
  | .exc x s => ∀ ρ' H' cls d, Go ρ H ρ' H' → StR K ρ' H' s → XR K xc ρ' H' cls d x → E cls d H'
  | .bad => False
section
variable {K : PySem.W.Frag} {xc : List (Addr × List Str)} {E : XK} {ρ ρ1 : List Addr} {H H1 : Hp} {α β γ δ : Type} {R : List Addr → Hp → β → α → Prop} {R2 : List Addr → Hp → δ → γ → Prop}
theorem Out.up {r : Rs α} {Q : β → Hp → Prop} (h : Out K xc E ρ H R r Q) (g : Go ρ H ρ1 H1) : Out K xc E ρ1 H1 R r Q := by
  cases r with
  | ok a s => exact fun ρ' H' b g2 => h ρ' H' b (g.trans g2)
  | exc x s => exact fun ρ' H' c d g2 => h ρ' H' c d (g.trans g2)
  | bad => exact h.elim
theorem Out.bd {r : Rs α} {f : α → Sto → Rs γ} {Q : δ → Hp → Prop} {Q' : β → Hp → Prop} (h : Out K xc E ρ H R2 (r.bd f) Q)
    (hk : ∀ a s ρ1 H1 b, r = .ok a s → Go ρ H ρ1 H1 → StR K ρ1 H1 s → R ρ1 H1 b a → Out K xc E ρ1 H1 R2 (f a s) Q → Q' b H1) : Out K xc E ρ H R r Q' := by
  cases r with
  | ok a s => exact fun ρ' H' b g st rb => hk a s ρ' H' b rfl g st rb (Out.up (show Out K xc E ρ H R2 (f a s) Q from h) g)
  | exc x s => exact h
  | bad => exact h.elim
/-- handed back at once -/
theorem Out.now {a : α} {s : Sto} {Q : β → Hp → Prop} {b : β} (h : Out K xc E ρ H R (.ok a s) Q) (st : StR K ρ H s) (r : R ρ H b a) : Q b H := h ρ H b (Go.refl _ _) st r
theorem Out.opt {o : Option α} {s : Sto} {Q : β → Hp → Prop} (h : Out K xc E ρ H R (Jp.opt o s) Q) : ∃ a, o = some a ∧ Out K xc E ρ H R (.ok a s) Q := by
  cases o with
  | some a => exact ⟨a, rfl, h⟩
  | none => exact h.elim
/-- a new list -/
theorem Out.new {s : Sto} {Q : V → Hp → Prop} {ds : List AV} (h : Out K xc E ρ H (Rp K) (.ok (.ref s.length) (s ++ [.lst ds])) Q) (st : StR K ρ H s) {xs : List V} (r : RpL K ρ H xs ds) {p : Addr} (hp : H p = none) : Q (.ref p) (L2.upd H p (.lst xs)) := by
  obtain ⟨st2, r2⟩ := st.new hp r
  exact h _ _ _ (Go.new hp) st2 r2
end

/-! ### where one stands -/
structure Wd where
  N : List Str
  fn : List Str
  cn : Nm
  C : Gt
  xc : List (Addr × List Str)
def spI (K : PySem.W.Frag) (xc : List (Addr × List Str)) (f : List AV → Sto → Rs AV) : Sp := fun vs H Q E => ∃ ρ s ds, StR K ρ H s ∧ RpL K ρ H vs ds ∧ Out K xc E ρ H (Rp K) (f ds s) Q
/-- room, g generators deep -/
structure Rg (k g : Nat) (A : Around) : Prop where
  rm : Rm k (4 * g) A
/-- a function that was handed: what stands as long as it may be called; what comes of a call -/
structure ClP (xc : List (Addr × List Str)) (X : Cx) (p : Addr) (tr : List (Addr × HO)) (cv : List V) (ca : List AV) (cl : List AV → Sto → Rs AV) : Prop where
  at_ : ∀ (pins : List (Addr × Obj)) (σ : L2.St) (H : Hp) (s : Shared), L2.Inv X pins σ H s → (∀ x ∈ tr, H x.1 = some x.2) → PySem.W.FnAt p s.heap
  run : ∀ (pins : List (Addr × Obj)) (σ : L2.St) (H : Hp) (s : Shared) (us : List Value) (vs : List V) (ρ : List Addr) (sto : Sto) (ds : List AV) (Q : VK) (E : XK), L2.Inv X pins σ H s → Passes (L2.CX X.prog X.w) X E → (∀ x ∈ tr, H x.1 = some x.2) → Vals vs us → StR X.K ρ H sto → RpL X.K ρ H vs ds → RpL X.K ρ H cv ca → Out X.K xc E ρ H (Rp X.K) (cl ds sto) Q →
    wpAny (model X.prog X.w) X.A (call (.ref p) us) (EP X pins σ Q) X.xe s
/-- what is handed to a def: a def of the module; or a lambda, with what its captured cells hold -/
def HoP (K : PySem.W.Frag) (mg : Str → Option Value) (fn : List Str) (lt : Nat → Scope → Expr → Bool) (outer : List Env) (s : Shared) (H : Hp) (q : Nat) (L : Lam) (p : Addr) (vsc : List V) : Prop := match L.kd with
  | .fn j => vsc = [] ∧ ∃ x, fn[j]? = some x ∧ x ≠ "" ∧ mg x = some (.ref p)
  | .lam pars ps fr _ => ∃ (a1 a2 : Arg) (el : Expr) (scope : Scope) (cl : List (Str × Addr)) (pm ctv : Value) (c' : Addr) (qual : Str), ps = [a1.arg, a2.arg] ∧ pars = 2 ∧ lt q scope el = true ∧ nsB (ps ++ fr) ps fr scope = true ∧
    s.heap.get? p = some (PySem.W.kla_obj LAM qual ⟨[], [a1, a2], none, [], [], none, []⟩ el scope cl pm c' ctv) ∧ H p = none ∧ p ∉ frs outer ∧ H c' = some (LamX.CodeO c' qual) ∧ NdefX.CellsAt cl fr (vsc.map some) s.heap H
/-- a def that is handed a function -/
structure FnH (P : Program) (w : World) (K : PySem.W.Frag) (mg : Str → Option Value) (base : Heap) (xc : List (Addr × List Str)) (fn : List Str) (lt : Nat → Scope → Expr → Bool) (k d : Nat) (f : Addr) (q : Nat) (L : Lam) (F : List AV → Sto → Rs AV) : Prop where
  run : ∀ (A : Around) (outer : List Env) (s : Shared) (H : Hp) (us : List Value) (vs vsc : List V) (p : Addr) (Q : VK) (E : XK), Rm k d A → Env0 P w K mg base A outer s H → Vals vs us → vs.length = L.na → HoP K mg fn lt outer s H q L p vsc → spI K xc F (vs ++ vsc) H Q E →
    codeAny (model P w) A (.call (.ref f) ⟨us ++ [.ref p], []⟩) (CR (L2.CX P w) outer P w H s Q E) s
/-- what is known of the context: the defs' promises among it; T: the table, by how much of the depth is spent -/
structure Gd (w : Wd) (T : Nat → Nat → List AV → Sto → Rs AV) (k g : Nat) (E : XK) (X : Cx) : Prop where
  N : X.N = w.N
  nd : X.N.Nodup
  calm : X.calm = true
  rg : Rg k g X.A
  fn : ∀ (d f : Nat) (x : Str), w.fn[f]? = some x → x ≠ "" → ∃ a fd ps, X.mg x = some (.ref a) ∧ PySem.W.keepIn X.K (.ref a) = true ∧ Binds X.K fd ps [] ∧ FnG X.prog X.w X.K X.mg X.base k d a fd ps (spI X.K w.xc (T d f))
  cn : ∀ (i : Nat) (x : Str) (d : AV), w.cn.c[i]? = some x → w.C.c[i]? = some d → ∃ u v, X.mg x = some u ∧ RelV v u ∧ ∀ ρ H, Rp X.K ρ H v d
  dn : ∀ (i : Nat) (x : Str) (kvs : List (Str × AV)), w.cn.d[i]? = some x → w.C.d[i]? = some kvs → ∃ p es m, X.mg x = some (.ref p) ∧ KDict X.K X.w p es m ∧ ∀ z : Str, match kvs.lookup z with
    | some d => ∃ u v, PySem.W.nsIn X.K p z = some (some u) ∧ RelV v u ∧ ∀ ρ H, Rp X.K ρ H v d
    | none => PySem.W.nsIn X.K p z = some none
  kl : ∀ (c : Nat) (ci : CI), w.C.k[c]? = some ci → L2.Cls X.K (Tb.ca c) ∧ (∀ f ∈ ci.fl, NoAttr X.K (Tb.ca c) f) ∧
    ∀ (m : Str) (f d dd : Nat) (df : List AV), ci.ms.lookup m = some f → w.C.df[f]? = some df → ∃ a fd ps us vs, Meth X.K (Tb.ca c) m a ∧ Binds X.K fd ps us ∧ Vals vs us ∧ (∀ ρ H, RpL X.K ρ H vs (df.drop d)) ∧ FnG X.prog X.w X.K X.mg X.base k dd a fd ps (spI X.K w.xc (T dd f))
  ma : ∀ (c : Nat) (x : Str) (ci : CI) (f dd : Nat), w.cn.k[c]? = some x → w.C.k[c]? = some ci → ci.ini = some f → X.mg x = some (.ref (Tb.ca c)) ∧ ∃ a fd ps, Mk X.K (Tb.ca c) a ∧ Binds X.K fd ps [] ∧ FnG X.prog X.w X.K X.mg X.base k dd a fd ps (spI X.K w.xc (T dd f))
  bi : ∀ x ∈ bltins, X.mg x = none
  ps : Passes (L2.CX X.prog X.w) X E
  cd : g = 0 → LAM ∉ w.N → ∃ c P, X.env.code = .ref c ∧ GxR.TabB X.base X.mg c P ∧ P ∈ Tb.l
  ld : LAM ∈ w.N → ∃ c P, X.env.code = .ref c ∧ LamX.TabB X.base X.mg c P ∧ (P, X.env.qual ++ LAM) ∈ Tb.lm
  cw : ∀ (j : Nat) (p : Addr), Cb.cl = some (j, p) → X.N[j]? = some "combine"
  hf : ∀ (d q : Nat) (L : Lam) (x : Str), w.cn.lm[q]? = some L → w.fn[L.f]? = some x → x ≠ "" → ∃ a, X.mg x = some (.ref a) ∧ PySem.W.keepIn X.K (.ref a) = true ∧ FnH X.prog X.w X.K X.mg X.base w.xc w.fn w.cn.lt k d a q L (T d (HOF + q))
section
variable {w : Wd} {F : Nat → Nat → List AV → Sto → Rs AV} {E : XK} {X : Cx} {g : Nat}
/-- an expression's reading, by what the small language works out -/
def tI (w : Wd) (K : PySem.W.Frag) (E : XK) (ev : Slots → Sto → Rs AV) : TE := fun σ H Q => ∃ ρ sl s, StR K ρ H s ∧ SlR K ρ H σ sl ∧ Out K w.xc E ρ H (Rp K) (ev sl s) Q
def tIs (w : Wd) (K : PySem.W.Frag) (E : XK) (ev : Slots → Sto → Rs (List AV)) : TA := fun σ H Q => ∃ ρ sl s, StR K ρ H s ∧ SlR K ρ H σ sl ∧ Out K w.xc E ρ H (RpL K) (ev sl s) Q
def EqB (_ : List Addr) (_ : Hp) (b a : Bool) : Prop := b = a
def tIt (w : Wd) (K : PySem.W.Frag) (E : XK) (ev : Slots → Sto → Rs Bool) : TT := fun σ H Q => ∃ ρ sl s, StR K ρ H s ∧ SlR K ρ H σ sl ∧ Out K w.xc E ρ H EqB (ev sl s) Q

theorem PE.of {e : Expr} {t t' : TE} (h : PE X e t) (ht : ∀ σ H Q, t' σ H Q → t σ H Q) : PE X e t' := ⟨fun pins s σ H Q I q => h.run pins s σ H Q I (ht σ H Q q)⟩
theorem PA.of {e : List Expr} {t t' : TA} (h : PA X e t) (ht : ∀ σ H Q, t' σ H Q → t σ H Q) : PA X e t' := ⟨fun pos pins s σ H Q I q => h.run pos pins s σ H Q I (ht σ H Q q)⟩
theorem PT.of {e : Expr} {t t' : TT} (h : PT X e t) (ht : ∀ σ H Q, t' σ H Q → t σ H Q) : PT X e t' := ⟨fun pins s σ H Q I q => h.run pins s σ H Q I (ht σ H Q q)⟩
theorem PW.of {e : Expr} {t t' : TT} (h : PW X e t) (ht : ∀ σ H Q, t' σ H Q → t σ H Q) : PW X e t' := ⟨fun wh pins s σ H Q I q => h.run wh pins s σ H Q I (ht σ H Q q)⟩
theorem PE.no {e : Expr} {ev : Slots → Sto → Rs AV} {K : PySem.W.Frag} (h : ∀ σ s, ev σ s = .bad) : PE X e (tI w K E ev) := ⟨fun pins s σ H Q I q => by
  obtain ⟨ρ, sl, s', _, _, o⟩ := q
  rw [h] at o
  exact o.elim⟩

/-! ### arguments -/
theorem star_plain {N fn : List Str} {cn : Nm} {n : Nat} {sc : Scope} {ir : IE} {e : Expr} {es : List Expr} {env : Env} (h : mt N fn cn n sc ir e = true) : starEach (e :: es) env = (false, eval e env) :: starEach es env := by
  cases n with
  | zero => rw [mt] at h; cases h
  | succ n =>
    cases e <;> first
      | rfl
      | (unfold mt at h; cases h)
theorem args_plain {pos : Pos} {env : Env} {N fn : List Str} {cn : Nm} {n : Nat} {sc : Scope} : ∀ {irs : List IE} {es : List Expr}, all2 (mt N fn cn n sc) irs es = true → (backTo pos (starEach es env)).any (·.1) = false
  | [], [], _ => rfl
  | ir :: irs, e :: es, h => by
    have h2 : (mt N fn cn n sc ir e && all2 (mt N fn cn n sc) irs es) = true := h
    rw [Bool.and_eq_true] at h2
    rw [star_plain h2.1]
    have q := args_plain (pos := pos) (env := env) h2.2
    show (false || (backTo pos (starEach es env)).any (·.1)) = false
    rw [q] <;> rfl
theorem pa_all {n : Nat} {sc : Scope} {N fn : List Str} {cn : Nm} {ev : IE → Slots → Sto → Rs AV} (ih : ∀ ir e, mt N fn cn n sc ir e = true → PE X e (tI w X.K E (ev ir))) :
    ∀ (irs : List IE) (es : List Expr), all2 (mt N fn cn n sc) irs es = true → PA X es (tIs w X.K E (evs ev irs))
  | [], [], _ => PA.of pa_nil fun σ H Q ⟨ρ, sl, s, st, sr, o⟩ => Out.now o st .nil
  | ir :: irs, e :: es, h => by
    have h2 : (mt N fn cn n sc ir e && all2 (mt N fn cn n sc) irs es) = true := h
    rw [Bool.and_eq_true] at h2
    refine PA.of (pa_cons (ih ir e h2.1) (pa_all ih irs es h2.2) (star_plain h2.1)) ?_
    rintro σ H Q ⟨ρ, sl, s, st, sr, o⟩
    refine ⟨ρ, sl, s, st, sr, Out.bd o ?_⟩
    intro a s1 ρ1 H1 b _ g1 st1 r1 o1
    refine ⟨ρ1, sl, s1, st1, sr.go g1, Out.bd o1 ?_⟩
    intro as s2 ρ2 H2 bs _ g2 st2 r2 o2
    exact Out.now o2 st2 (.cons (r1.go g2) r2)

/-! ### a call in a store of its own -/
section
variable {K : PySem.W.Frag} {xc : List (Addr × List Str)} {E : XK} {ρ ρ' : List Addr} {H H' : Hp} {n : Nat}
mutual
theorem Rp.low : ∀ (d : AV) (v : V), lowA n d = true → Rp K ρ H v d → Rp K (ρ.take n) H v d
  | .non, _, _, h => by cases h; exact .non
  | .bl b, _, _, h => by cases h; exact .bl b
  | .int i, _, _, h => by cases h; exact .int i
  | .str x, _, _, h => by cases h; exact .str x
  | .tup ds, _, l, h => by
    cases h with
    | tup a b => exact .tup a (RpL.low ds _ (by simpa only [lowA] using l) b)
  | .lst ds, _, l, h => by
    cases h with
    | lst a b => exact .lst a (RpL.low ds _ (by simpa only [lowA] using l) b)
  | .ref m, _, l, h => by
    cases h with
    | ref a =>
      have hm : m < n := by simpa [lowA] using l
      exact .ref (by rw [List.getElem?_take_of_lt hm]; exact a)
  | .fn i, _, _, h => by cases h; exact .fn i
theorem RpL.low : ∀ (ds : List AV) (vs : List V), lowL n ds = true → RpL K ρ H vs ds → RpL K (ρ.take n) H vs ds
  | [], _, _, h => by cases h; exact .nil
  | d :: ds, _, l, h => by
    have l2 : (lowA n d && lowL n ds) = true := by simpa only [lowL] using l
    rw [Bool.and_eq_true] at l2
    cases h with
    | cons a b => exact .cons (Rp.low d _ l2.1 a) (RpL.low ds _ l2.2 b)
end
theorem KvR.low : ∀ {gs : List (Key × V)} {fs : List (Key × AV)}, lowL n (fs.map (·.2)) = true → KvR K ρ H gs fs → KvR K (ρ.take n) H gs fs
  | [], [], _, _ => trivial
  | (f, v) :: gs, (g, d) :: fs, l, h => by
    have l2 : (lowA n d && lowL n (fs.map (·.2))) = true := by simpa only [List.map_cons, lowL] using l
    rw [Bool.and_eq_true] at l2
    exact ⟨h.1, Rp.low d v l2.1 h.2.1, KvR.low l2.2 h.2.2⟩
  | [], _ :: _, _, h => h.elim
  | _ :: _, [], _, h => h.elim
theorem Rp.any {d : AV} {v : V} (l : lowA 0 d = true) (r : Rp K ρ H v d) : Rp K ρ' H v d := by
  have q := Rp.low d v l r
  rw [List.take_zero] at q
  exact Rp.up (ρ := []) (fun _ _ h => by simp at h) (Gr.refl H) d v q
theorem RpL.any {ds : List AV} {vs : List V} (l : lowL 0 ds = true) (r : RpL K ρ H vs ds) : RpL K ρ' H vs ds := by
  have q := RpL.low ds vs l r
  rw [List.take_zero] at q
  exact RpL.up (ρ := []) (fun _ _ h => by simp at h) (Gr.refl H) ds vs q
theorem StR.nil {s : Sto} (st : StR K ρ H s) : StR K [] H [] := ⟨rfl, List.nodup_nil, st.tb, fun m a o e1 e2 => by simp at e1⟩
theorem Go.frame {s : Sto} (st : StR K ρ H s) (g : Go [] H ρ' H') (tb : TbOk H') : Go ρ H ρ H' ∧ StR K ρ H' s := by
  refine ⟨⟨Le.refl _, g.g, fun a o e na nt => ⟨(g.f a o e (by simp) nt).1, na⟩⟩, st.len, st.nd, tb, fun m a o e1 e2 => ?_⟩
  have q := st.ob m a o e1 e2
  obtain ⟨u, hu, nt⟩ := q.some
  exact q.mv (Le.refl _) g.g (by rw [hu]; exact (g.f a _ hu (by simp) nt).1)
theorem callF_ok {f : List AV → Sto → Rs AV} {s : Sto} {vs : List V} {ds : List AV} {Q : VK} (st : StR K ρ H s) (r : RpL K ρ H vs ds) (o : Out K xc E ρ H (Rp K) (callF f ds s) Q) : spI K xc f vs H Q E := by
  unfold callF at o
  split at o
  · rename_i hl
    split at o
    · rename_i v s0 e
      split at o
      · rename_i hv
        refine ⟨[], [], ds, st.nil, RpL.any hl r, ?_⟩
        rw [e]
        intro ρ1 H1 b g1 st1 rb
        obtain ⟨g2, st2⟩ := Go.frame st g1 st1.tb
        exact o ρ H1 b g2 st2 (Rp.any hv rb)
      · exact ⟨ρ, s, ds, st, r, o⟩
    · rename_i x s0 e
      split at o
      · rename_i hv
        refine ⟨[], [], ds, st.nil, RpL.any hl r, ?_⟩
        rw [e]
        intro ρ1 H1 cls d g1 st1 rb
        obtain ⟨g2, st2⟩ := Go.frame st g1 st1.tb
        refine o ρ H1 cls d g2 st2 ?_
        obtain ⟨C, fs, z1, z2, z3⟩ := rb
        refine ⟨C, fs, z1, z2, z3.imp id fun ⟨dd, us, y1, y2, y3, y4⟩ => ⟨dd, us, y1, y2, RpL.any hv y3, y4⟩⟩
      · exact ⟨ρ, s, ds, st, r, o⟩
    · exact ⟨ρ, s, ds, st, r, o⟩
  · exact ⟨ρ, s, ds, st, r, o⟩
end
/-! ### truth -/
theorem fits_line {n : Nat} (h : n ≤ LINE) : n ≤ sizeLine := by
  rw [sizeLine_eq]
  exact h
theorem truth_ok {K : PySem.W.Frag} {ρ : List Addr} {H : Hp} {s : Sto} (st : StR K ρ H s) {v : V} {d : AV} {b : Bool} (r : Rp K ρ H v d) (h : truth s d = some b) : TruV K v H b := by
  have seq : ∀ ds, items s d = some ds → b = !ds.isEmpty → TruV K v H b := fun ds e q => by
    obtain ⟨a, xs, rfl, hs, rx⟩ := items_sq st r e
    have em : xs.isEmpty = ds.isEmpty := by
      have l := rx.len
      cases xs <;> cases ds <;> simp_all
    rcases hs with hs | hs
    · exact Or.inl ⟨xs, hs, by rw [em]; exact q⟩
    · exact Or.inr (Or.inl ⟨xs, hs, by rw [em]; exact q⟩)
  have seq2 : (items s d).map (fun xs => !xs.isEmpty) = some b → TruV K v H b := fun e => by
    cases q : items s d with
    | none => rw [q] at e; cases e
    | some ds =>
      rw [q] at e
      exact seq ds q (Option.some.inj e).symm
  cases d with
  | non => cases r; cases h; rfl
  | bl b => cases r; cases h; rfl
  | int i => cases r; cases h; rfl
  | str y =>
    cases r
    have h2 : (if y.length ≤ LINE then some ((y.length : Int) != 0) else none) = some b := h
    by_cases hl : y.length ≤ LINE
    · rw [if_pos hl] at h2
      exact ⟨fits_line hl, (Option.some.inj h2).symm⟩
    · rw [if_neg hl] at h2
      cases h2
  | tup xs => exact seq2 h
  | lst xs => exact seq2 h
  | ref n => exact seq2 h
  | fn n => exact seq2 h
end
end Jp


set_option Elab.async false
set_option linter.all false
set_option maxRecDepth 100000
/-! != of two lists whose items are alike -/
namespace Jp
open PySem PySem.SeqAt PySem.AutoSeq1
open MeetsSeq MeetsSeq2 MeetsSeq3 SeqRoads2
section
variable {P : Program} {w : World}
theorem neL (x y : Addr) (us ws : Array Value) (m m2 : Nat) (od od2 : Option Addr) (z z2 : Array (Option Value)) (hz : us.size = ws.size) (k : Nat) :
    ∀ i : Nat, us.size - i = k → MeetsIn P w (Builtin.«list.__eq__.loop» ⟨[.ref x, .ref y, rawInt i, rawInt 3], []⟩)
      (fun A R t => t.heap.get? x = some { cls := .type "list", dict := od, data := .seq us m, slots := z } ∧ t.heap.get? y = some { cls := .type "list", dict := od2, data := .seq ws m2, slots := z2 } ∧
        (∀ j (a1 : j < us.size) (a2 : j < ws.size), EqP P w A.in1 t us[j] ws[j] true) ∧ R (.ok (.ret (.bool false))) t) := by
  induction k with
  | zero =>
    intro i hk A R t hyp
    obtain ⟨hp, g, d, tk, os⟩ := t; obtain ⟨p1, q1, r1, fin⟩ := hyp
    have n1 : us[((i : Nat) : Int).toNat]? = none := by simp; omega
    have n2 : ws[((i : Nat) : Int).toNat]? = none := by simp; omega
    wp_walk using wpAny_loadPart' p1, wpAny_loadPart' q1
    rw [n1, n2]
    wp_walk using wpAny_loadPart' p1, wpAny_loadPart' q1
    show R (.ok (.ret (.bool (us.size != ws.size)))) _
    rw [hz]
    simpa using fin
  | succ k ih =>
    intro i hk A R t hyp
    obtain ⟨hp, g, d, tk, os⟩ := t; obtain ⟨p1, q1, r1, fin⟩ := hyp
    have l1 : i < us.size := by omega
    have l2 : i < ws.size := by omega
    have n1 : us[((i : Nat) : Int).toNat]? = some us[i] := by simp [l1]
    have n2 : ws[((i : Nat) : Int).toNat]? = some ws[i] := by simp [l2]
    have nxt : ((i : Int) + 1) = ((i + 1 : Nat) : Int) := by push_cast; rfl
    wp_walk using wpAny_loadPart' p1, wpAny_loadPart' q1
    rw [n1, n2]
    refine wpAny_bind (r1 i l1 l2 _ _ ?_)
    wp_walk
    rw [nxt]
    exact ⟨plainId_quiet plain_eq_loop _, codeAny_builtin entry_eq_loop (by
      rw [Around.under_plainId plain_eq_loop _]; exact ih (i + 1) (by omega) A R _ ⟨p1, q1, r1, fin⟩)⟩
theorem neL_all (x y : Addr) (us ws : Array Value) (m m2 : Nat) (od od2 : Option Addr) (z z2 : Array (Option Value)) (hz : us.size = ws.size) :
    MeetsIn P w (Builtin.«list.__ne__» ⟨[.ref x, .ref y], []⟩)
      (fun A R t => t.heap.get? x = some { cls := .type "list", dict := od, data := .seq us m, slots := z } ∧ t.heap.get? y = some { cls := .type "list", dict := od2, data := .seq ws m2, slots := z2 } ∧
        (∀ j (a1 : j < us.size) (a2 : j < ws.size), EqP P w A.in1 t us[j] ws[j] true) ∧ R (.ok (.ret (.bool false))) t) := by
  intro A R t hyp
  obtain ⟨hp, g, d, tk, os⟩ := t; obtain ⟨p1, q1, r1, fin⟩ := hyp
  have sb := AutoSeq1.sub_list_list
  have nn : ¬ (us.size != ws.size) = true := by simp [hz]
  wp_walk using wpAny_loadPart' p1, wpAny_loadPart' q1
  exact ⟨plainId_quiet plain_eq_loop _, codeAny_builtin entry_eq_loop (by
    rw [Around.under_plainId plain_eq_loop _]; exact neL x y us ws m m2 od od2 z z2 hz _ 0 rfl A R _ ⟨p1, q1, r1, fin⟩)⟩
theorem neP_lists {A : Around} {t : Shared} {x y : Addr} {us ws : Array Value} (h1 : t.heap.IsList x us) (h2 : t.heap.IsList y ws) (hz : us.size = ws.size) (hu : A.units < cLine)
    (he : ∀ j (a1 : j < us.size) (a2 : j < ws.size), EqP P w A.in1 t us[j] ws[j] true) (E Q : Value → Shared → Prop) (q : Q (.bool false) t) : wpAny (model P w) A (richCompare .NotEq (.ref x) (.ref y)) Q E t := by
  obtain ⟨⟨c1, od, dt1, z⟩, o1, e1, m, f1⟩ := id h1
  obtain ⟨⟨c2, od2, dt2, z2⟩, o2, e2, m2, f2⟩ := id h2
  simp only at e1 f1 e2 f2
  subst e1 f1 e2 f2
  have tx : t.TypeIs (.ref x) "list" := ⟨_, o1, rfl⟩
  have ty : t.TypeIs (.ref y) "list" := ⟨_, o2, rfl⟩
  exact wpAny_richCompare_same_room (op := .NotEq) tx ty F.slot_list_ne (call_meetsIn F.slot_list_ne tx F.entry_list_ne (F.args_list_ne_2 _ _) (neL_all x y us ws m m2 od od2 z z2 hz)
    ⟨o1, o2, he, show Value.bool false ≠ Value.notImplemented ∧ Q (.bool false) t from ⟨(fun x => nomatch x), q⟩⟩) hu
end
end Jp


set_option Elab.async false
set_option linter.all false
set_option maxRecDepth 100000
set_option maxHeartbeats 2000000
namespace Jp
open PySem PySem.Spec PyProof.Rows L2
variable [Tb] [Cb]
section
variable {w : Wd} {E : XK} {X : Cx} {K : PySem.W.Frag} {xc : List (Addr × List Str)} {ρ : List Addr} {H : Hp} {s : Sto}

theorem optAll_get {α β : Type} {f : α → Option β} : ∀ {xs : List α} {ys : List β}, optAll f xs = some ys → ∀ (P : α → β → Prop), (∀ x y, x ∈ xs → f x = some y → P x y) → Paired P xs ys
  | [], ys, h, P, _ => by cases h; exact .nil
  | x :: r, ys, h, P, hp => by
    unfold optAll at h
    cases e1 : f x with
    | none => rw [e1] at h; cases h
    | some y =>
      rw [e1] at h
      cases e2 : optAll f r with
      | none => rw [e2] at h; cases h
      | some zs =>
        rw [e2] at h
        cases h
        exact .cons (hp x y List.mem_cons_self e1) (optAll_get e2 P fun a b ha hb => hp a b (List.mem_cons_of_mem _ ha) hb)
theorem dp_all {n : Nat} (ih : ∀ (d : AV) (v : V) (e : PyData), Rp K ρ H v d → d.data s n = some e → Dp K H v e) : ∀ (ds : List AV) (vs : List V) (es : List PyData), RpL K ρ H vs ds → optAll (AV.data s n) ds = some es → DpAll K H vs es
  | [], _, _, r, h => by cases r; cases h; exact .nil
  | d :: ds, _, es, r, h => by
    cases r with
    | cons a b =>
      unfold optAll at h
      cases e1 : AV.data s n d with
      | none => rw [e1] at h; cases h
      | some y =>
        rw [e1] at h
        cases e2 : optAll (AV.data s n) ds with
        | none => rw [e2] at h; cases h
        | some zs =>
          rw [e2] at h
          cases h
          exact .cons (ih _ _ _ a e1) (dp_all ih ds _ zs b e2)
/-- data, over the heap -/
theorem data_dp (st : StR K ρ H s) : ∀ (n : Nat) (d : AV) (v : V) (e : PyData), Rp K ρ H v d → d.data s n = some e → Dp K H v e
  | 0, _, _, _, _, h => by cases h
  | n + 1, d, v, e, r, h => by
    have ih := data_dp st n
    cases r with
    | non => cases h; exact .non
    | bl b => cases h; exact .bl b
    | int i => cases h; exact .int i
    | str x => cases h; exact .str x
    | @tup a xs ds q1 q2 =>
      have h2 : (optAll (AV.data s n) ds).map PyData.tuple = some e := h
      cases q : optAll (AV.data s n) ds with
      | none => rw [q] at h2; cases h2
      | some es =>
        rw [q] at h2
        cases h2
        exact .tup q1 (dp_all ih _ _ _ q2 q)
    | @lst a xs ds q1 q2 =>
      have h2 : (optAll (AV.data s n) ds).map PyData.list = some e := h
      cases q : optAll (AV.data s n) ds with
      | none => rw [q] at h2; cases h2
      | some es =>
        rw [q] at h2
        cases h2
        exact .lst q1.sq (dp_all ih _ _ _ q2 q)
    | @ref a k q1 =>
      have h2 : (match s[k]? with
        | some (.lst xs) => (optAll (AV.data s n) xs).map PyData.list
        | _ => none) = some e := h
      split at h2
      · rename_i ds hs
        obtain ⟨xs, h3, h4⟩ := st.at q1 hs
        cases q : optAll (AV.data s n) ds with
        | none => rw [q] at h2; cases h2
        | some es =>
          rw [q] at h2
          cases h2
          exact .lst (Or.inl (Or.inl h3)) (dp_all ih _ _ _ h4 q)
      · cases h2
    | fn i => cases h
theorem scalA_ok {x y : V} {dx dy : AV} {b : Bool} (rx : Rp K ρ H x dx) (ry : Rp K ρ H y dy) (h : scalA dx dy = some b) : scal x y = true ∧ decide (x = y) = b := by
  cases dx <;> cases dy <;> first
    | (cases h; done)
    | (cases rx; cases ry; cases h; exact ⟨rfl, by decide⟩)
    | (cases rx; cases ry; cases h; refine ⟨rfl, ?_⟩; first | exact dec_int | exact dec_bl | exact dec_str | (refine decide_eq_false (fun z => ?_); cases z))

theorem itemsL_sq {K : PySem.W.Frag} {ρ : List Addr} {H : Hp} {s : Sto} (h : StR K ρ H s) {d : AV} {v : V} {ds : List AV} (r : Rp K ρ H v d) (e : itemsL s d = some ds) : ∃ a xs, v = .ref a ∧ SqL K H a xs ∧ RpL K ρ H xs ds := by
  cases r with
  | lst a b => cases e; exact ⟨_, _, rfl, a.sq, b⟩
  | @ref a n q =>
    have e2 : (match s[n]? with
      | some (.lst xs) => some xs
      | _ => none) = some ds := e
    split at e2
    · rename_i ys hs
      cases e2
      obtain ⟨xs, h1, h2⟩ := h.at q hs
      exact ⟨a, xs, rfl, Or.inl (Or.inl h1), h2⟩
    · cases e2
  | tup _ _ => cases e
  | non => cases e
  | bl _ => cases e
  | int _ => cases e
  | str _ => cases e
  | fn _ => cases e
/-! ### lists of dicts -/
def DatE (K : PySem.W.Frag) (H : Hp) (x y : V) : Prop := ∃ d e, Dp K H x d ∧ Dp K H y e ∧ SeqAt.shaped d = true ∧ SeqAt.shaped e = true ∧ PyData.eqv d e = true
def DctE (K : PySem.W.Frag) (H : Hp) (x y : V) : Prop := DatE K H x y ∨ EqR K H (DatE K H) x y
theorem datE_ok (st : StR K ρ H s) {x y : V} {d e : AV} (r1 : Rp K ρ H x d) (r2 : Rp K ρ H y e) (h : datEq s d e = true) : DatE K H x y := by
  unfold datEq at h
  split at h
  · rename_i d1 e1 h1 h2
    rw [Bool.and_eq_true, Bool.and_eq_true] at h
    exact ⟨d1, e1, data_dp st 60 _ _ _ r1 h1, data_dp st 60 _ _ _ r2 h2, h.1.1, h.1.2, h.2⟩
  · cases h
theorem dctA_at {d : AV} {v : V} {kvs : List (Key × AV)} (st : StR K ρ H s) (r : Rp K ρ H v d) (e : dctA s d = some kvs) : ∃ a gs, v = .ref a ∧ H a = some (.dK gs) ∧ KvR K ρ H gs kvs := by
  unfold dctA at e
  split at e
  · split at e
    · rename_i kvs' hm
      cases e
      cases r with
      | ref p =>
        obtain ⟨gs, h1, h2⟩ := st.atD p hm
        exact ⟨_, gs, rfl, h1, h2⟩
    · cases e
  · cases e
theorem kvs_E (st : StR K ρ H s) {ms : List (Key × V)} {ls : List (Key × AV)} (rl : KvR K ρ H ms ls) : ∀ {gs : List (Key × V)} {ks : List (Key × AV)}, KvR K ρ H gs ks → (ks.all fun kv => match lookK ls kv.1 with
    | some u => datEq s kv.2 u
    | none => false) = true → ∀ p ∈ gs, ∃ u, valV ms p.1 = some u ∧ DatE K H p.2 u
  | [], [], _, _, p, hp => by cases hp
  | (a, v) :: gs, (b, e) :: ks, r, h, p, hp => by
    obtain ⟨rfl, r1, r2⟩ := r
    rw [List.all_cons, Bool.and_eq_true] at h
    obtain ⟨h1, h2⟩ := h
    rcases List.mem_cons.mp hp with q | q
    · subst q
      have hl := rl.look a
      cases el : lookK ls a with
      | none =>
        have h1 : (match lookK ls a with
          | some u => datEq s e u
          | none => false) = true := h1
        rw [el] at h1
        cases h1
      | some d =>
        have h1 : (match lookK ls a with
          | some u => datEq s e u
          | none => false) = true := h1
        rw [el] at h1 hl
        obtain ⟨u, q1, q2⟩ := hl
        exact ⟨u, q1, datE_ok st r1 q2 h1⟩
    · exact kvs_E st rl r2 h2 p q
  | [], _ :: _, r, _, _, _ => r.elim
  | _ :: _, [], r, _, _, _ => r.elim
theorem dctE_ok (st : StR K ρ H s) {x y : V} {d e : AV} (r1 : Rp K ρ H x d) (r2 : Rp K ρ H y e) (h : dctEq s d e = true) : DctE K H x y := by
  unfold dctEq at h
  rw [Bool.or_eq_true] at h
  rcases h with h | h
  · exact Or.inl (datE_ok st r1 r2 h)
  · split at h
    · rename_i ks ls h1 h2
      rw [Bool.and_eq_true] at h
      obtain ⟨a, gs, rfl, p1, p2⟩ := dctA_at st r1 h1
      obtain ⟨b, ms, rfl, q1, q2⟩ := dctA_at st r2 h2
      exact Or.inr (Or.inr ⟨a, b, gs, ms, rfl, rfl, p1, q1, by rw [p2.len, q2.len]; exact of_decide_eq_true h.1, kvs_E st q2 p2 h.2⟩)
    · cases h
theorem zip_E (st : StR K ρ H s) : ∀ {vs us : List V} {xs ys : List AV}, RpL K ρ H vs xs → RpL K ρ H us ys → xs.length = ys.length → ((xs.zip ys).all fun p => dctEq s p.1 p.2) = true → Paired (DctE K H) vs us
  | _, _, [], [], a, b, _, _ => by cases a; cases b; exact .nil
  | _, _, x :: xs, y :: ys, a, b, hl, h => by
    cases a with
    | cons a1 a2 =>
      cases b with
      | cons b1 b2 =>
        rw [List.zip_cons_cons, List.all_cons, Bool.and_eq_true] at h
        exact .cons (dctE_ok st a1 b1 h.1) (zip_E st a2 b2 (by simpa using hl) h.2)
  | _, _, [], _ :: _, _, _, h, _ => by cases h
  | _, _, _ :: _, [], _, _, h, _ => by cases h
theorem datE_run {pins : List (Addr × Obj)} {sh : Shared} {σ : L2.St} (I : Inv X pins σ H sh) {A : Around} (hu : A.units + 64 < cLine) (x y : V) (v u : Value) (h : DatE X.K H x y) (rx : RelV x v) (ry : RelV y u) : SeqAt.EqP X.prog X.w A sh v u true := by
  obtain ⟨d, e, h1, h2, h3, h4, h5⟩ := h
  obtain ⟨as, k1⟩ := Dp.reads I d x v h1 rx
  obtain ⟨bs, k2⟩ := Dp.reads I e y u h2 ry
  have q := SeqAt.eqAt_reads d e A sh v u as bs k1 k2 (SeqAt.canLay_of_shaped h3) (SeqAt.canLay_of_shaped h4) (SeqAt.room_of_shaped h3 hu)
  rw [h5] at q
  exact SeqAt.EqAt.eqP q
theorem dctE_run {pins : List (Addr × Obj)} {sh : Shared} {σ : L2.St} (I : Inv X pins σ H sh) {A : Around} (hu : A.units + 66 < cLine) (x y : V) (v u : Value) (h : DctE X.K H x y) (rx : RelV x v) (ry : RelV y u) : SeqAt.EqP X.prog X.w A sh v u true := by
  rcases h with h | h
  · exact datE_run I (by omega) x y v u h rx ry
  · have step := eqR_run I (A := A) (by omega) (fun x y v u h rx ry => datE_run I (A := A.in1) (by show A.units + 1 + 64 < cLine; omega) x y v u h rx ry) h rx ry
    obtain ⟨a, b, rfl, rfl⟩ : ∃ a b, x = .ref a ∧ y = .ref b := by
      rcases h with ⟨a, b, _, _, e1, e2, _⟩ | ⟨a, b, _, _, e1, e2, _⟩
      · exact ⟨a, b, e1, e2⟩
      · exact ⟨a, b, e1, e2⟩
    cases (show v = Value.ref a from rx)
    cases (show u = Value.ref b from ry)
    by_cases e : a = b
    · subst e
      exact (SeqAt.EqAt.same _).eqP
    · exact SeqAt.eqP_refs e step
theorem eqO_ok (hu : X.A.units + 70 < cLine) {pins : List (Addr × Obj)} {sh : Shared} {σ : L2.St} {x y : V} {v u : Value} {Q : VK} {dx dy : AV} (st : StR X.K ρ H s) (r1 : Rp X.K ρ H x dx) (r2 : Rp X.K ρ H y dy) (h : eqO s dx dy = true)
    (I : Inv X pins σ H sh) (rx : RelV x v) (ry : RelV y u) : (Q (.bl true) H → wpAny (model X.prog X.w) X.A (compareOp .Eq v u) (EP X pins σ Q) X.xe sh) ∧ (Q (.bl false) H → wpAny (model X.prog X.w) X.A (compareOp .NotEq v u) (EP X pins σ Q) X.xe sh) := by
  unfold eqO at h
  split at h
  · rename_i xs ys h1 h2
    rw [Bool.and_eq_true] at h
    obtain ⟨a, vs, rfl, p1, p2⟩ := itemsL_sq st r1 h1
    obtain ⟨b, us, rfl, q1, q2⟩ := itemsL_sq st r2 h2
    have pr := zip_E st p2 q2 (of_decide_eq_true h.1) h.2
    have run := fun x y v u (h : DctE X.K H x y) (rx : RelV x v) (ry : RelV y u) => dctE_run I (A := X.A.in1) (by show X.A.units + 1 + 66 < cLine; omega) x y v u h rx ry
    refine ⟨fun q => eqR_run I (A := X.A) (by omega) run (Or.inl ⟨a, b, vs, us, rfl, rfl, p1, q1, pr⟩) rx ry _ _ ⟨.bl true, H, I, rfl, q⟩, fun q => ?_⟩
    cases (show v = Value.ref a from rx)
    cases (show u = Value.ref b from ry)
    obtain ⟨gs, e1, f1, _⟩ := I.list p1
    obtain ⟨ms, e2, f2, _⟩ := I.list q1
    have hz : gs.toArray.size = ms.toArray.size := by
      rw [List.size_toArray, List.size_toArray, ← e1.length, ← e2.length]
      exact Paired.length pr
    exact neP_lists f1.isList f2.isList hz (by omega) (fun j a1 a2 => by
      have k := items_run run pr e1 e2 j (by simpa using a1) (by simpa using a2)
      simpa using k) _ _ ⟨.bl false, H, I, rfl, q⟩
  · cases h
/-! ### operators -/
theorem mul_flat (c : Array Nat) : ∀ (n : Nat) (a : Array Nat), (List.replicate n c).foldl (· ++ ·) a = ⟨a.toList ++ (List.replicate n c.toList).flatten⟩
  | 0, a => by simp
  | n + 1, a => by
    rw [List.replicate_succ, List.foldl_cons, mul_flat c n (a ++ c), List.replicate_succ, List.flatten_cons, Array.toList_append, List.append_assoc]
theorem txt_mul (a : Str) (j : Int) : Txt.mul a j = ⟨⟨(List.replicate j.toNat a.cps.toList).flatten⟩⟩ := by
  unfold Txt.mul
  split
  · rename_i h
    rw [show j.toNat = 0 from by omega] <;> rfl
  · rename_i h
    split
    · rename_i h2
      rw [Bool.or_eq_true] at h2
      rcases h2 with h2 | h2
      · rw [show j = 1 from by simpa using h2]
        obtain ⟨⟨l⟩⟩ := a
        simp
      · obtain ⟨⟨l⟩⟩ := a
        have h3 : l.length = 0 := by simpa [Str.length] using h2
        have h4 : l = [] := List.length_eq_zero_iff.mp h3
        subst h4
        generalize j.toNat = m
        have e : ∀ m : Nat, (List.replicate m ([] : List Nat)).flatten = [] := fun m => by simp
        show (⟨⟨[]⟩⟩ : Str) = ⟨⟨(List.replicate m ([] : List Nat)).flatten⟩⟩
        rw [e]
    · rw [mul_flat]
      simp
theorem op_mulS {a : Str} {j : Int} (h1 : a.length * j.toNat ≤ LINE) (h2 : j < 1048576) (h3 : -1048576 < j) : OpR X (binaryOp .Mult) (fun x y H Q => x = .str a ∧ y = .int j ∧ Q (.str ⟨⟨(List.replicate j.toNat a.cps.toList).flatten⟩⟩) H) := by
  intro pins s σ H x y v u Q I rx ry h
  obtain ⟨rfl, rfl, q⟩ := h
  obtain ⟨t, rfl⟩ := rx
  obtain ⟨t', rfl⟩ := ry
  have hl := fits_line h1
  rw [sizeLine_eq] at hl
  refine SB.mul ⟨?_, ?_, ?_⟩ fun t' k => ⟨.str (Txt.mul a j), H, I.tok k, ⟨t', rfl⟩, by rw [txt_mul]; exact q⟩
  · simp only [Bool.or_eq_false_iff, decide_eq_false_iff_not]
    omega
  · intro h4 _ h5
    have h6 : (1 : Int) ≤ j := by omega
    have h7 : (9223372036854775807 : Int) / 1048576 ≤ (2 ^ 63 - 1) / j := by
      show (9223372036854775807 : Int) / 1048576 ≤ 9223372036854775807 / j
      rw [Int.le_ediv_iff_mul_le (by omega)]
      have h9 : (9223372036854775807 : Int) / 1048576 = 8796093022207 := by decide
      rw [h9]
      have : (8796093022207 : Int) * j ≤ 8796093022207 * 1048576 := Int.mul_le_mul_of_nonneg_left (by omega) (by decide)
      omega
    have h8 : (a.length : Int) ≤ 16777216 := by
      have : a.length * 1 ≤ a.length * j.toNat := Nat.mul_le_mul_left _ (by omega)
      omega
    have h9 : (9223372036854775807 : Int) / 1048576 = 8796093022207 := by decide
    omega
  · intro _ _
    unfold Builtin.Str.tooLong
    simp only [decide_eq_false_iff_not, Nat.not_lt, gt_iff_lt]
    exact fits_line h1
/-- list + list, whatever holds them -/
theorem op_catQ : OpR X (binaryOp .Add) (fun x y H Q => ∃ l b xs zs, x = .ref l ∧ y = .ref b ∧ SqL X.K H l xs ∧ SqL X.K H b zs ∧ xs.length + zs.length ≤ sizeLine ∧ ∀ p, H p = none → Q (.ref p) (upd H p (.lst (xs ++ zs)))) := by
  intro pins s σ H x y v u Q I rx ry h
  obtain ⟨l, b, xs, zs, rfl, rfl, hH, hB, hz, q⟩ := h
  cases rx
  cases ry
  obtain ⟨its, r, ⟨⟨c1, d1, dt1, sl1⟩, n1, e1, hc1, hd1, ht1⟩, _⟩ := I.list hH
  obtain ⟨its2, r2, ⟨⟨c2, d2, dt2, sl2⟩, n2, e2, hc2, hd2, ht2⟩, _⟩ := I.list hB
  simp only at hc1 hd1 ht1 hc2 hd2 ht2
  subst hc1 hd1 ht1 hc2 hd2 ht2
  have hl := r.length
  have hl2 := r2.length
  refine concat_meets ⟨_, e1, rfl⟩ ⟨_, e2, rfl⟩ noFill_list_add seq_list_add PySem.F.slot_list_add PySem.F.entry_list_add (PySem.F.args_list_add_2 _ _) (list_addW l b its.toArray its2.toArray n1 n2 none none sl1 sl2 (by simp only [List.size_toArray]; omega)) ⟨e1, e2, ?_⟩
  have ea : its.toArray ++ its2.toArray = (its ++ its2).toArray := by simp
  rw [ea]
  exact ⟨.ref _, _, I.lnew (t' := s.toks) (r.append r2) (by rw [List.length_append]; omega), rfl, q _ I.fresh⟩
theorem cat_new {ρ : List Addr} {H : Hp} {s : Sto} {Q : VK} {as bs : List AV} {l b : Addr} {xs zs : List V} {v u : Value} {pins : List (Addr × Obj)} {sh : Shared} {σ : L2.St} (st : StR X.K ρ H s) (I : Inv X pins σ H sh) (rx : RelV (.ref l) v) (ry : RelV (.ref b) u)
    (h1 : SqL X.K H l xs) (h2 : SqL X.K H b zs) (q1 : RpL X.K ρ H xs as) (q2 : RpL X.K ρ H zs bs) (out : Out X.K xc E ρ H (Rp X.K) (if as.length + bs.length ≤ LINE then .ok (.ref s.length) (s ++ [.lst (as ++ bs)]) else .bad) Q) :
    wpAny (model X.prog X.w) X.A (binaryOp .Add v u) (EP X pins σ Q) X.xe sh := by
  by_cases hl : as.length + bs.length ≤ LINE
  · rw [if_pos hl] at out
    exact op_catQ pins sh σ H _ _ v u Q I rx ry ⟨_, _, xs, zs, rfl, rfl, h1, h2, by rw [q1.len, q2.len]; exact fits_line hl, fun p hp => out.new st (q1.app q2) hp⟩
  · rw [if_neg hl] at out
    exact out.elim
def rBin (K : PySem.W.Frag) (xc : List (Addr × List Str)) (E : XK) (op : BO) : L2.R2 := fun x y H Q => ∃ ρ s dx dy, StR K ρ H s ∧ Rp K ρ H x dx ∧ Rp K ρ H y dy ∧ Out K xc E ρ H (Rp K) (opBin op dx dy s) Q
theorem bin_ok {op : BO} {o : Operator} (hb : boB op o = true) : OpR X (binaryOp o) (rBin X.K xc E op) := by
  intro pins s σ H x y v u Q I rx ry h
  obtain ⟨ρ, t, dx, dy, st, r1, r2, out⟩ := h
  have no : opBin op dx dy t = .bad → False := fun e => by rw [e] at out; exact out
  cases op <;> cases o <;> first | (cases hb; done) | skip
  · -- add
    cases dx <;> cases dy <;> first | exact (no rfl).elim | skip
    · cases r1; cases r2
      exact op_add pins s σ H _ _ v u Q I rx ry ⟨_, _, rfl, rfl, out.now st (.int _)⟩
    · rename_i a b
      have e : opBin .add (.str a) (.str b) t = if a.length + b.length ≤ LINE then .ok (.str (a ++ b)) t else .bad := rfl
      rw [e] at out
      by_cases hl : a.length + b.length ≤ LINE
      · rw [if_pos hl] at out
        cases r1; cases r2
        exact op_add_str pins s σ H _ _ v u Q I rx ry ⟨_, _, rfl, rfl, fits_line hl, out.now st (.str _)⟩
      · rw [if_neg hl] at out
        exact out.elim
    · rename_i as bs
      have e : opBin .add (.tup as) (.tup bs) t = if as.isEmpty = false ∧ as.length + bs.length ≤ LINE then .ok (.tup (as ++ bs)) t else .bad := rfl
      rw [e] at out
      by_cases hl : as.isEmpty = false ∧ as.length + bs.length ≤ LINE
      · rw [if_pos hl] at out
        cases r1 with
        | tup p1 q1 =>
          cases r2 with
          | tup p2 q2 =>
            rename_i a1 xs1 a2 xs2
            refine op_catT pins s σ H _ _ v u Q I rx ry ⟨a1, a2, xs1, xs2, rfl, rfl, p1, p2, ?_, ?_, fun e2 => ?_, fun e2 p hp => ?_⟩
            · intro z
              have l := q1.len
              rw [z] at l
              cases as with
              | nil => exact absurd hl.1 (by simp)
              | cons _ _ => simp at l
            · rw [q1.len, q2.len]
              exact fits_line hl.2
            · have l := q2.len
              rw [e2] at l
              cases bs with
              | cons _ _ => simp at l
              | nil =>
                rw [List.append_nil] at out
                exact out.now st (.tup p1 q1)
            · have g : Gr H (L2.upd H p (.tup (xs1 ++ xs2))) := Gr.new hp
              refine out _ _ _ (Go.fresh hp) ⟨st.len, st.nd, st.tb.upd (fun u z => by rw [hp] at z; cases z), fun n a o h1 h2 => ?_⟩ (.tup (Or.inl (Or.inl upd_same)) ((RpL.up (Le.refl _) g _ _ q1).app (RpL.up (Le.refl _) g _ _ q2)))
              have hob := st.ob n a o h1 h2
              obtain ⟨u5, e5, _⟩ := hob.some
              exact hob.mv (Le.refl _) g (upd_ne (ne_of_none e5 hp))
      · rw [if_neg hl] at out
        exact out.elim
    · rename_i as bs
      cases r1 with
      | lst p1 q1 => cases r2 with
        | lst p2 q2 => exact cat_new st I rx ry p1.sq p2.sq q1 q2 out
    · rename_i as n
      have e : opBin .add (.lst as) (.ref n) t = (match t[n]? with
        | some (.lst ys) => if as.length + ys.length ≤ LINE then .ok (.ref t.length) (t ++ [.lst (as ++ ys)]) else .bad
        | _ => .bad) := rfl
      rw [e] at out
      split at out
      · rename_i bs hn
        cases r1 with
        | lst p1 q1 => cases r2 with
          | ref p2 =>
            obtain ⟨ys, h2, q2⟩ := st.at p2 hn
            exact cat_new st I rx ry p1.sq (Or.inl (Or.inl h2)) q1 q2 out
      · exact out.elim
    · rename_i m bs
      have e : opBin .add (.ref m) (.lst bs) t = (match t[m]? with
        | some (.lst xs) => if xs.length + bs.length ≤ LINE then .ok (.ref t.length) (t ++ [.lst (xs ++ bs)]) else .bad
        | _ => .bad) := rfl
      rw [e] at out
      split at out
      · rename_i as hm
        cases r1 with
        | ref p1 => cases r2 with
          | lst p2 q2 =>
            obtain ⟨xs, h1, q1⟩ := st.at p1 hm
            exact cat_new st I rx ry (Or.inl (Or.inl h1)) p2.sq q1 q2 out
      · exact out.elim
    · rename_i m n
      have e : opBin .add (.ref m) (.ref n) t = (match t[m]?, t[n]? with
        | some (.lst xs), some (.lst ys) => if xs.length + ys.length ≤ LINE then .ok (.ref t.length) (t ++ [.lst (xs ++ ys)]) else .bad
        | _, _ => .bad) := rfl
      rw [e] at out
      split at out
      · rename_i as bs hm hn
        by_cases hl : as.length + bs.length ≤ LINE
        · rw [if_pos hl] at out
          cases r1 with
          | ref p1 =>
            cases r2 with
            | ref p2 =>
              obtain ⟨xs, h1, q1⟩ := st.at p1 hm
              obtain ⟨ys, h2, q2⟩ := st.at p2 hn
              exact op_cat pins s σ H _ _ v u Q I rx ry ⟨_, _, xs, ys, rfl, rfl, h1, h2, by rw [q1.len, q2.len]; exact fits_line hl, fun p hp => out.new st (q1.app q2) hp⟩
        · rw [if_neg hl] at out
          exact out.elim
      · exact out.elim
  · cases dx <;> cases dy <;> first | exact (no rfl).elim | skip
    cases r1; cases r2
    exact op_sub pins s σ H _ _ v u Q I rx ry ⟨_, _, rfl, rfl, out.now st (.int _)⟩
  · cases dx <;> cases dy <;> first | exact (no rfl).elim | skip
    rotate_left
    · rename_i a j
      have e : opBin .mul (.str a) (.int j) t = if a.length * j.toNat ≤ LINE ∧ j < 1048576 ∧ -1048576 < j then .ok (.str ⟨⟨(List.replicate j.toNat a.cps.toList).flatten⟩⟩) t else .bad := rfl
      rw [e] at out
      split at out
      · rename_i hc
        cases r1; cases r2
        exact op_mulS hc.1 hc.2.1 hc.2.2 pins s σ H _ _ v u Q I rx ry ⟨rfl, rfl, out.now st (.str _)⟩
      · exact out.elim
    rename_i i j
    have e : opBin .mul (.int i) (.int j) t = if (-18446744073709551616 < i ∧ i < 18446744073709551616) ∨ (-18446744073709551616 < j ∧ j < 18446744073709551616) then .ok (.int (i * j)) t else .bad := rfl
    rw [e] at out
    split at out
    · rename_i hc
      cases r1; cases r2
      exact op_mul pins s σ H _ _ v u Q I rx ry ⟨_, _, rfl, rfl, hc, out.now st (.int _)⟩
    · exact out.elim
  · cases dx <;> cases dy <;> first | exact (no rfl).elim | skip
    rename_i i j
    have e : opBin .fdiv (.int i) (.int j) t = if 0 < j ∧ j < 1073741824 then .ok (.int (i / j)) t else .bad := rfl
    rw [e] at out
    split at out
    · rename_i hc
      cases r1; cases r2
      exact op_fdiv pins s σ H _ _ v u Q I rx ry ⟨_, _, rfl, rfl, hc, out.now st (.int _)⟩
    · exact out.elim
  · cases dx <;> cases dy <;> first | exact (no rfl).elim | skip
    rename_i i j
    have e : opBin .mod (.int i) (.int j) t = if 0 < j then .ok (.int (i % j)) t else .bad := rfl
    rw [e] at out
    split at out
    · rename_i hc
      cases r1; cases r2
      exact op_mod pins s σ H _ _ v u Q I rx ry ⟨_, _, rfl, rfl, hc, out.now st (.int _)⟩
    · exact out.elim
  · cases dx <;> cases dy <;> first | exact (no rfl).elim | skip
    rename_i i j
    have e : opBin .pow (.int i) (.int j) t = if 0 ≤ j ∧ j ≤ 1000000 ∧ i.natAbs < 18446744073709551616 then .ok (.int (i ^ j.toNat)) t else .bad := rfl
    rw [e] at out
    split at out
    · rename_i hc
      cases r1; cases r2
      exact op_pow pins s σ H _ _ v u Q I rx ry ⟨_, _, rfl, rfl, hc, out.now st (.int _)⟩
    · exact out.elim

/-! ### comparisons -/
def rCmp (K : PySem.W.Frag) (op : CO) : L2.R2 := fun x y H Q => ∃ ρ s dx dy b, StR K ρ H s ∧ Rp K ρ H x dx ∧ Rp K ρ H y dy ∧ opCmp op dx dy s = some b ∧ Q (.bl b) H
theorem eqD_ok (hu : X.A.units + 70 < cLine) {pins : List (Addr × Obj)} {sh : Shared} {σ : L2.St} {x y : V} {v u : Value} {Q : VK} {dx dy : AV} {b : Bool} (st : StR X.K ρ H s) (r1 : Rp X.K ρ H x dx) (r2 : Rp X.K ρ H y dy) (h : eqD dx dy s = some b)
    (I : Inv X pins σ H sh) (rx : RelV x v) (ry : RelV y u) : (Q (.bl b) H → wpAny (model X.prog X.w) X.A (compareOp .Eq v u) (EP X pins σ Q) X.xe sh) ∧ (Q (.bl (!b)) H → wpAny (model X.prog X.w) X.A (compareOp .NotEq v u) (EP X pins σ Q) X.xe sh) := by
  unfold eqD at h
  cases e : scalA dx dy with
  | some c =>
    rw [e] at h
    cases h
    obtain ⟨h1, h2⟩ := scalA_ok r1 r2 e
    exact ⟨fun q => op_eq pins sh σ H x y v u Q I rx ry ⟨h1, by rw [h2]; exact q⟩, fun q => op_ne pins sh σ H x y v u Q I rx ry ⟨h1, by rw [h2]; exact q⟩⟩
  | none =>
    rw [e] at h
    have obj : (if eqO s dx dy then some true else none) = some b → (Q (.bl b) H → wpAny (model X.prog X.w) X.A (compareOp .Eq v u) (EP X pins σ Q) X.xe sh) ∧ (Q (.bl (!b)) H → wpAny (model X.prog X.w) X.A (compareOp .NotEq v u) (EP X pins σ Q) X.xe sh) := fun h => by
      split at h
      · rename_i hs
        cases h
        exact eqO_ok hu st r1 r2 hs I rx ry
      · cases h
    cases e1 : dx.data s 60 with
    | none => rw [e1] at h; exact obj h
    | some d1 =>
      cases e2 : dy.data s 60 with
      | none => rw [e1, e2] at h; exact obj h
      | some d2 =>
        rw [e1, e2] at h
        have h2 : (if (SeqAt.shaped d1 && SeqAt.shaped d2) = true then some (PyData.eqv d1 d2) else none) = some b := h
        split at h2
        · rename_i hs
          rw [Bool.and_eq_true] at hs
          cases h2
          have p1 := data_dp st 60 _ _ _ r1 e1
          have p2 := data_dp st 60 _ _ _ r2 e2
          exact ⟨fun q => op_eqD (by omega) pins sh σ H x y v u Q I rx ry ⟨d1, d2, p1, p2, hs.1, hs.2, q⟩, fun q => op_neD (by omega) pins sh σ H x y v u Q I rx ry ⟨d1, d2, p1, p2, hs.1, hs.2, q⟩⟩
        · cases h2
theorem flat_ok {v : V} {d : AV} (r : Rp K ρ H v d) (h : flatA d = true) : flatV v = true := by
  cases r <;> first | rfl | cases h
theorem flat_all : ∀ {vs : List V} {ds : List AV}, RpL K ρ H vs ds → ds.all flatA = true → vs.all flatV = true
  | _, [], r, _ => by cases r; rfl
  | _, d :: ds, r, h => by
    cases r with
    | cons a b =>
      rw [List.all_cons, Bool.and_eq_true] at h ⊢
      exact ⟨flat_ok a h.1, flat_all b h.2⟩
theorem eqA_ok {x y : V} {dx dy : AV} (r1 : Rp K ρ H x dx) (r2 : Rp K ρ H y dy) (h1 : flatA dx = true) (h2 : flatA dy = true) : eqV x y = eqA dx dy := by
  cases r1 <;> first | (cases h1; done) | (cases r2 <;> first | (cases h2; done) | rfl)
theorem any_eqA {x : V} {dx : AV} (r1 : Rp K ρ H x dx) (h1 : flatA dx = true) : ∀ {vs : List V} {ds : List AV}, RpL K ρ H vs ds → ds.all flatA = true → inV x vs = ds.any fun z => eqA z dx
  | _, [], r, _ => by cases r; rfl
  | _, d :: ds, r, h => by
    cases r with
    | cons a b =>
      rw [List.all_cons, Bool.and_eq_true] at h
      show (eqV _ x || inV x _) = _
      rw [eqA_ok a r1 h.1 h1, any_eqA r1 h1 b h.2, List.any_cons]
theorem inA_ok (hu : X.A.units + 70 < cLine) {pins : List (Addr × Obj)} {sh : Shared} {σ : L2.St} {x y : V} {v u : Value} {Q : VK} {dx dy : AV} {b : Bool} (st : StR X.K ρ H s) (r1 : Rp X.K ρ H x dx) (r2 : Rp X.K ρ H y dy) (h : inA dx dy s = some b)
    (I : Inv X pins σ H sh) (rx : RelV x v) (ry : RelV y u) : (Q (.bl b) H → wpAny (model X.prog X.w) X.A (compareOp .In v u) (EP X pins σ Q) X.xe sh) ∧ (Q (.bl (!b)) H → wpAny (model X.prog X.w) X.A (compareOp .NotIn v u) (EP X pins σ Q) X.xe sh) := by
  have seq : (match items s dy with
      | some xs => if (flatA dx && xs.all flatA) = true then some (xs.any fun z => eqA z dx) else inD dx dy s
      | none => none) = some b → (Q (.bl b) H → wpAny (model X.prog X.w) X.A (compareOp .In v u) (EP X pins σ Q) X.xe sh) ∧ (Q (.bl (!b)) H → wpAny (model X.prog X.w) X.A (compareOp .NotIn v u) (EP X pins σ Q) X.xe sh) := fun h => by
    cases e : items s dy with
    | none => rw [e] at h; cases h
    | some ds =>
      rw [e] at h
      have h2 : (if (flatA dx && ds.all flatA) = true then some (ds.any fun z => eqA z dx) else inD dx dy s) = some b := h
      split at h2
      · rename_i hf
        rw [Bool.and_eq_true] at hf
        cases h2
        obtain ⟨a, xs, rfl, hq, rl⟩ := items_sq st r2 e
        have ein := any_eqA r1 hf.1 rl hf.2
        refine ⟨fun q => op_in_seq pins sh σ H x _ v u Q I rx ry ⟨a, xs, rfl, hq, flat_ok r1 hf.1, flat_all rl hf.2, ?_⟩, fun q => op_notIn_seq pins sh σ H x _ v u Q I rx ry ⟨a, xs, rfl, hq, flat_ok r1 hf.1, flat_all rl hf.2, ?_⟩⟩
        · show Q (.bl (if false = true then !inV x xs else inV x xs)) H
          rw [ein]
          exact q
        · show Q (.bl (if true = true then !inV x xs else inV x xs)) H
          rw [ein]
          exact q
      · unfold inD at h2
        split at h2
        · rename_i d es e1 e2
          split at h2
          · rename_i hs
            rw [Bool.and_eq_true] at hs
            cases h2
            have p1 := data_dp st 60 _ _ _ r1 e1
            have p2 := data_dp st 60 _ _ _ r2 e2
            exact ⟨fun q => op_inD (by omega) pins sh σ H x y v u Q I rx ry ⟨d, es, p1, p2, hs.1, hs.2, q⟩, fun q => op_notInD (by omega) pins sh σ H x y v u Q I rx ry ⟨d, es, p1, p2, hs.1, hs.2, q⟩⟩
          · cases h2
        · cases h2
  cases dy with
  | str z =>
    cases r2
    cases dx with
    | str a =>
      cases r1
      obtain ⟨⟨l⟩⟩ := a
      match l, h with
      | [c], h =>
        have h2 : some (decide (c ∈ z.cps.toList)) = some b := h
        cases h2
        exact ⟨fun q => op_in_sign pins sh σ H _ _ v u Q I rx ry ⟨c, z, rfl, rfl, q⟩, fun q => op_notIn_sign pins sh σ H _ _ v u Q I rx ry ⟨c, z, rfl, rfl, q⟩⟩
      | [], h => cases h
      | _ :: _ :: _, h => cases h
    | _ => cases h
  | tup ds => exact seq h
  | lst ds => exact seq h
  | ref n => exact seq h
  | non => exact seq h
  | bl _ => exact seq h
  | int _ => exact seq h
  | fn _ => exact seq h
theorem cmp_ok (hu : X.A.units + 70 < cLine) {op : CO} {o : CmpOp} (hc : coB op o = true) : OpR X (compareOp o) (rCmp X.K op) := by
  intro pins sh σ H x y v u Q I rx ry h
  obtain ⟨ρ, s, dx, dy, b, st, r1, r2, hb, q⟩ := h
  cases op <;> cases o <;> first | (cases hc; done) | skip
  · exact (eqD_ok hu st r1 r2 hb I rx ry).1 q
  · have h2 : (eqD dx dy s).map (!·) = some b := hb
    cases e : eqD dx dy s with
    | none => rw [e] at h2; cases h2
    | some c =>
      rw [e] at h2
      cases h2
      exact (eqD_ok hu st r1 r2 e I rx ry).2 q
  · cases dx <;> cases dy <;> first | (cases hb; done) | skip
    · cases r1; cases r2; cases hb
      exact op_lt pins sh σ H _ _ v u Q I rx ry ⟨_, _, rfl, rfl, q⟩
    · cases r1; cases r2; cases hb
      exact op_lt_str pins sh σ H _ _ v u Q I rx ry ⟨_, _, rfl, rfl, q⟩
  · cases dx <;> cases dy <;> first | (cases hb; done) | skip
    · cases r1; cases r2; cases hb
      exact op_le pins sh σ H _ _ v u Q I rx ry ⟨_, _, rfl, rfl, q⟩
    · cases r1; cases r2; cases hb
      exact op_le_str pins sh σ H _ _ v u Q I rx ry ⟨_, _, rfl, rfl, q⟩
  · cases dx <;> cases dy <;> first | (cases hb; done) | skip
    · cases r1; cases r2; cases hb
      exact op_gt pins sh σ H _ _ v u Q I rx ry ⟨_, _, rfl, rfl, q⟩
    · cases r1; cases r2; cases hb
      exact op_gt_str pins sh σ H _ _ v u Q I rx ry ⟨_, _, rfl, rfl, q⟩
  · cases dx <;> cases dy <;> first | (cases hb; done) | skip
    · cases r1; cases r2; cases hb
      exact op_ge pins sh σ H _ _ v u Q I rx ry ⟨_, _, rfl, rfl, q⟩
    · cases r1; cases r2; cases hb
      exact op_ge_str pins sh σ H _ _ v u Q I rx ry ⟨_, _, rfl, rfl, q⟩
  · cases dy <;> first | (cases hb; done) | skip
    cases r2
    refine op_isN pins sh σ H _ _ v u Q I rx ry ⟨rfl, ?_⟩
    have e : decide (x = V.non) = b := by
      cases r1 <;> cases hb <;> first | rfl | (exact decide_eq_false fun z => nomatch z)
    rw [e]
    exact q
  · cases dy <;> first | (cases hb; done) | skip
    cases r2
    refine op_notN pins sh σ H _ _ v u Q I rx ry ⟨rfl, ?_⟩
    have e : (!decide (x = V.non)) = b := by
      cases r1 <;> cases hb <;> first | rfl | (rw [decide_eq_false fun z => nomatch z]; rfl)
    rw [e]
    exact q
  · cases dx <;> cases dy <;> first | (cases hb; done) | skip
    cases r1; cases r2; cases hb
    exact op_isBl pins sh σ H _ _ v u Q I rx ry ⟨_, _, rfl, rfl, q⟩
  · cases dx <;> cases dy <;> first | (cases hb; done) | skip
    cases r1; cases r2; cases hb
    exact op_notBl pins sh σ H _ _ v u Q I rx ry ⟨_, _, rfl, rfl, q⟩
  · exact (inA_ok hu st r1 r2 hb I rx ry).1 q
  · have h2 : (inA dx dy s).map (!·) = some b := hb
    cases e : inA dx dy s with
    | none => rw [e] at h2; cases h2
    | some c =>
      rw [e] at h2
      cases h2
      exact (inA_ok hu st r1 r2 e I rx ry).2 q
end
end Jp


set_option Elab.async false
set_option linter.all false
set_option maxRecDepth 100000
set_option maxHeartbeats 2000000
namespace Jp
open PySem PySem.Spec PyProof.Rows L2
variable [Tb] [Cb]
section
variable {w : Wd} {E : XK} {X : Cx} {K : PySem.W.Frag} {xc : List (Addr × List Str)} {ρ : List Addr} {H : Hp} {s : Sto}

/-! ### subscripts -/
theorem atI_ok {vs : List V} {ds : List AV} {i : Int} {d : AV} (r : RpL K ρ H vs ds) (h : atI ds i = some d) : ∃ v, atI vs i = some v ∧ Rp K ρ H v d := by
  unfold atI at h ⊢
  rw [r.len]
  cases e : ixN ds.length i with
  | none => rw [e] at h; cases h
  | some j =>
    rw [e] at h
    exact r.get h
def rIxI (K : PySem.W.Frag) : L2.R2 := fun x y H Q => ∃ ρ s dx dy d, StR K ρ H s ∧ Rp K ρ H x dx ∧ Rp K ρ H y dy ∧ opIdx dx dy s = some d ∧ ∀ v, Rp K ρ H v d → Q v H
theorem ix_ok : IxR X (rIxI X.K) := by
  intro value slice pins sh σ H x y v u Q I rx ry h e
  obtain ⟨ρ, s, dx, dy, d, st, r1, r2, ho, q⟩ := h
  cases dy <;> first | (cases ho; done) | skip
  rename_i i
  cases r2
  have seq : (match items s dx with
      | some xs => atI xs i
      | none => none) = some d → wpAny (model X.prog X.w) X.A (PyProof.Rows.subscriptTail value slice v u) (EP X pins σ Q) X.xe sh := fun h2 => by
    cases e1 : items s dx with
    | none => rw [e1] at h2; cases h2
    | some ds =>
      rw [e1] at h2
      obtain ⟨a, xs, rfl, hq, rl⟩ := items_sq st r1 e1
      obtain ⟨z, hz, rz⟩ := atI_ok rl h2
      rcases hq with hq | hq
      · exact ix_seq value slice pins sh σ H _ _ v u Q I rx ry (Or.inl ⟨a, xs, i, z, rfl, rfl, hq, hz, q z rz⟩) e
      · exact ix_seq value slice pins sh σ H _ _ v u Q I rx ry (Or.inr (Or.inl ⟨a, xs, i, z, rfl, rfl, hq, hz, q z rz⟩)) e
  cases dx with
  | str z =>
    have h2 : (if z.length ≤ LINE then (atI z.cps.toList i).map fun c => AV.str ⟨⟨[c]⟩⟩ else none) = some d := ho
    split at h2
    · rename_i hl
      cases e1 : atI z.cps.toList i with
      | none => rw [e1] at h2; cases h2
      | some c =>
        rw [e1] at h2
        cases h2
        cases r1
        exact ix_str value slice pins sh σ H _ _ v u Q I rx ry ⟨z, i, c, rfl, rfl, fits_line hl, e1, q _ (.str _)⟩ e
    · cases h2
  | tup xs => exact seq ho
  | lst xs => exact seq ho
  | ref n => exact seq ho
  | non => exact seq ho
  | bl _ => exact seq ho
  | int _ => exact seq ho
  | fn _ => exact seq ho
def rSlI (K : PySem.W.Frag) (xc : List (Addr × List Str)) (E : XK) : V → Option Int → Option Int → Hp → VK → Prop := fun x lo hi H Q => ∃ ρ s dx, StR K ρ H s ∧ Rp K ρ H x dx ∧ Out K xc E ρ H (Rp K) (opSl dx lo hi s) Q
theorem sl_ok : L2.SlR X (rSlI X.K xc E) := by
  intro pins sh σ H x v vl vu lo hi sl Q I rx hs p1 p2 h
  obtain ⟨ρ, s, dx, st, r1, out⟩ := h
  have no : opSl dx lo hi s = .bad → False := fun e => by rw [e] at out; exact out
  cases dx with
  | str z =>
    have e : opSl (.str z) lo hi s = if z.length ≤ LINE then .ok (.str (cutS z lo hi)) s else .bad := rfl
    rw [e] at out
    split at out
    · rename_i hl
      cases r1
      exact sl_str pins sh σ H _ v vl vu lo hi sl Q I rx hs p1 p2 ⟨z, rfl, fits_line hl, out.now st (.str _)⟩
    · exact out.elim
  | ref k =>
    have e : opSl (.ref k) lo hi s = (match s[k]? with
      | some (.lst ds) => .ok (.ref s.length) (s ++ [.lst ((ds.drop (HT.sIx ds.length 0 lo)).take (HT.sIx ds.length ds.length hi - HT.sIx ds.length 0 lo))])
      | _ => .bad) := rfl
    rw [e] at out
    split at out
    · rename_i ds hk
      cases r1 with
      | ref q1 =>
        obtain ⟨xs, h1, h2⟩ := st.at q1 hk
        refine sl_list pins sh σ H _ v vl vu lo hi sl Q I rx hs p1 p2 ⟨_, xs, rfl, Or.inl (Or.inl h1), fun p hp => ?_⟩
        refine Out.new out st ?_ hp
        unfold cutV
        rw [h2.len]
        exact (h2.drop _).take _
    · exact out.elim
  | non => exact (no rfl).elim
  | bl _ => exact (no rfl).elim
  | int _ => exact (no rfl).elim
  | tup ds =>
    have e : opSl (.tup ds) lo hi s = if HT.sIx ds.length 0 lo = 0 ∧ HT.sIx ds.length ds.length hi = ds.length then .bad else .ok (.tup ((ds.drop (HT.sIx ds.length 0 lo)).take (HT.sIx ds.length ds.length hi - HT.sIx ds.length 0 lo))) s := rfl
    rw [e] at out
    split at out
    · exact out.elim
    · rename_i hw
      cases r1 with
      | @tup a xs _ q1 q2 =>
        refine sl_tup pins sh σ H _ v vl vu lo hi sl Q I rx hs p1 p2 ⟨a, xs, rfl, q1, by rw [q2.len]; exact hw, fun p hp => ?_⟩
        have gr : Gr H (L2.upd H p (.tup (cutV xs lo hi))) := Gr.new hp
        refine out _ _ _ (Go.fresh hp) ⟨st.len, st.nd, st.tb.upd (fun u z => by rw [hp] at z; cases z), fun n a o h1 h2 => ?_⟩ (.tup (Or.inl (Or.inl upd_same)) (RpL.up (Le.refl _) gr _ _ ?_))
        · have hob := st.ob n a o h1 h2
          obtain ⟨u5, e5, _⟩ := hob.some
          exact hob.mv (Le.refl _) gr (upd_ne (ne_of_none e5 hp))
        · unfold cutV
          rw [q2.len]
          exact (q2.drop _).take _
  | lst ds =>
    cases r1 with
    | @lst a xs _ q1 q2 =>
      refine sl_list pins sh σ H _ v vl vu lo hi sl Q I rx hs p1 p2 ⟨a, xs, rfl, q1.sq, fun p hp => ?_⟩
      refine Out.new out st ?_ hp
      unfold cutV
      rw [q2.len]
      exact (q2.drop _).take _
  | fn _ => exact (no rfl).elim

/-! ### built-ins -/
def rBi (K : PySem.W.Frag) (xc : List (Addr × List Str)) (E : XK) (b : BI) : List V → Hp → VK → Prop := fun vs H Q => ∃ ρ s ds, StR K ρ H s ∧ RpL K ρ H vs ds ∧ Out K xc E ρ H (Rp K) (opBi b ds s) Q
theorem rpl1 {vs : List V} {d : AV} (r : RpL K ρ H vs [d]) : ∃ v, vs = [v] ∧ Rp K ρ H v d := by
  cases r with
  | cons a b => cases b; exact ⟨_, rfl, a⟩
theorem one_arg {b : BI} {ds : List AV} {Q : VK} (out : Out K xc E ρ H (Rp K) (opBi b ds s) Q) : ∃ d, ds = [d] := by
  match ds, out with
  | [d], _ => exact ⟨d, rfl⟩
  | [], out => cases b <;> exact False.elim out
  | a :: b2 :: r, out => cases b <;> cases a <;> exact False.elim out
theorem len_ok : CallR X (.builtin "len") (rBi X.K xc E .len) := by
  intro pins sh σ H xs us Q I r h
  obtain ⟨ρ, s, ds, st, rl, out⟩ := h
  obtain ⟨d, rfl⟩ := one_arg out
  obtain ⟨v, rfl, rv⟩ := rpl1 rl
  have seq : ∀ (hd : ∀ z, d ≠ .str z), wpAny (model X.prog X.w) X.A (call (.builtin "len") us) (EP X pins σ Q) X.xe sh := fun hd => by
    have e : opBi .len [d] s = (match items s d with
      | some ys => .ok (.int ys.length) s
      | none => .bad) := by
      cases d <;> first | rfl | exact absurd rfl (hd _)
    rw [e] at out
    cases q : items s d with
    | none => rw [q] at out; exact out.elim
    | some ys =>
      rw [q] at out
      obtain ⟨a, zs, rfl, hq, r2⟩ := items_sq st rv q
      refine call_len_seq pins sh σ H _ us Q I r ⟨a, zs, rfl, hq, ?_⟩
      rw [r2.len]
      exact Out.now out st (.int _)
  cases d with
  | str z =>
    have e : opBi .len [.str z] s = if z.length ≤ LINE then .ok (.int z.length) s else .bad := rfl
    rw [e] at out
    split at out
    · rename_i hl
      cases rv
      exact call_len_str pins sh σ H _ us Q I r ⟨z, rfl, fits_line hl, out.now st (.int _)⟩
    · exact out.elim
  | _ => exact seq fun z e => nomatch e
theorem int_ok : CallR X (.type "int") (rBi X.K xc E .int) := by
  intro pins sh σ H xs us Q I r h
  obtain ⟨ρ, s, ds, st, rl, out⟩ := h
  obtain ⟨d, rfl⟩ := one_arg out
  obtain ⟨v, rfl, rv⟩ := rpl1 rl
  cases d with
  | int i =>
    cases rv
    exact call_int1 pins sh σ H _ us Q I r (Or.inl ⟨i, rfl, Out.now (a := AV.int i) (s := s) out st (.int _)⟩)
  | bl k =>
    cases rv
    exact call_int1 pins sh σ H _ us Q I r (Or.inr ⟨k, rfl, Out.now (a := AV.int (if k then 1 else 0)) (s := s) out st (.int _)⟩)
  | str a =>
    have e : opBi .int [.str a] s = if a.length ≤ 640 then (match PySem.intText? a with
      | some n => .ok (.int n) s
      | none => .bad) else .bad := rfl
    rw [e] at out
    split at out
    · rename_i hl
      cases q : PySem.intText? a with
      | none => rw [q] at out; exact out.elim
      | some n =>
        rw [q] at out
        cases rv
        exact call_int_str pins sh σ H _ us Q I r ⟨a, n, rfl, q, hl, Out.now (a := AV.int n) (s := s) out st (.int _)⟩
    · exact out.elim
  | _ => exact False.elim out
theorem str_ok : CallR X (.type "str") (rBi X.K xc E .str) := by
  intro pins sh σ H xs us Q I r h
  obtain ⟨ρ, s, ds, st, rl, out⟩ := h
  obtain ⟨d, rfl⟩ := one_arg out
  obtain ⟨v, rfl, rv⟩ := rpl1 rl
  cases d with
  | int i =>
    have e : opBi .str [.int i] s = if i.natAbs.log2 < 1920 then .ok (.str (toString i)) s else .bad := rfl
    rw [e] at out
    split at out
    · rename_i hl
      cases rv
      exact call_str_int pins sh σ H _ us Q I r ⟨i, rfl, hl, out.now st (.str _)⟩
    · exact out.elim
  | str a =>
    cases rv
    exact SkE.call_str_str pins sh σ H _ us Q I r ⟨a, rfl, Out.now (a := AV.str a) (s := s) out st (.str _)⟩
  | _ => exact False.elim out
theorem list_ok : CallR X (.type "list") (rBi X.K xc E .list) := by
  intro pins sh σ H xs us Q I r h
  obtain ⟨ρ, s, ds, st, rl, out⟩ := h
  obtain ⟨d, rfl⟩ := one_arg out
  obtain ⟨v, rfl, rv⟩ := rpl1 rl
  have e : opBi .list [d] s = (match items s d with
    | some ys => .ok (.ref s.length) (s ++ [.lst ys])
    | none => .bad) := by cases d <;> rfl
  rw [e] at out
  cases q : items s d with
  | none => rw [q] at out; exact out.elim
  | some ys =>
    rw [q] at out
    obtain ⟨a, zs, rfl, hq, r2⟩ := items_sq st rv q
    exact call_list_of pins sh σ H _ us Q I r ⟨a, zs, rfl, hq, fun p hp => Out.new out st r2 hp⟩
theorem StR.gr {H' : Hp} (h : StR K ρ H s) (g : Gr H H') (hl : ∀ a u, H a = some u → (∀ ps, u ≠ .tbl ps) → H' a = some u) (ht : TbOk H') : StR K ρ H' s := ⟨h.len, h.nd, ht, fun n a o e1 e2 => by
  have q := h.ob n a o e1 e2
  obtain ⟨u, hu, nt⟩ := q.some
  exact q.mv (Le.refl _) g (by rw [hu]; exact hl _ _ hu nt)⟩
theorem StR.fresh {p : Addr} {o : HO} (h : StR K ρ H s) (hp : H p = none) : StR K ρ (L2.upd H p o) s := h.gr (Gr.new hp) (fun a u e _ => by
  rw [upd_ne (ne_of_none e hp)]
  exact e) (h.tb.upd fun u z => by rw [hp] at z; cases z)
theorem tuple_ok : CallR X (.type "tuple") (rBi X.K xc E .tuple) := by
  intro pins sh σ H xs us Q I r h
  obtain ⟨ρ, s, ds, st, rl, out⟩ := h
  obtain ⟨d, rfl⟩ := one_arg out
  obtain ⟨v, rfl, rv⟩ := rpl1 rl
  have seq : opBi .tuple [d] s = (match items s d with
    | some ys => .ok (.tup ys) s
    | none => .bad) := by cases d <;> rfl
  rw [seq] at out
  cases q : items s d with
  | none => rw [q] at out; exact out.elim
  | some ys =>
    rw [q] at out
    have mk : ∀ a zs, RpL X.K ρ H zs ys → (SqL X.K H a zs) → ∀ l, H l = none → Q (.ref l) (L2.upd H l (.tup zs)) := fun a zs r2 _ l hl => by
      have g : Gr H (L2.upd H l (.tup zs)) := Gr.new hl
      exact out _ _ _ (Go.fresh hl) (st.fresh hl) (.tup (Or.inl (Or.inl upd_same)) (RpL.up (Le.refl _) g _ _ r2))
    cases rv with
    | tup p1 p2 =>
      cases q
      exact call_tuple_of pins sh σ H _ us Q I r ⟨_, _, rfl, Or.inr ⟨p1, Out.now out st (.tup p1 p2)⟩⟩
    | lst p1 p2 =>
      cases q
      exact call_tuple_of pins sh σ H _ us Q I r ⟨_, _, rfl, Or.inl ⟨p1.sq, mk _ _ p2 p1.sq⟩⟩
    | @ref a n p1 =>
      have q2 : (match s[n]? with
        | some (.lst xs) => some xs
        | _ => none) = some ys := q
      split at q2
      · rename_i zs hs
        cases q2
        obtain ⟨ws, h1, h2⟩ := st.at p1 hs
        exact call_tuple_of pins sh σ H _ us Q I r ⟨_, ws, rfl, Or.inl ⟨Or.inl (Or.inl h1), mk _ _ h2 (Or.inl (Or.inl h1))⟩⟩
      · cases q2
    | fn _ => cases q
    | non => cases q
    | bl _ => cases q
    | int _ => cases q
    | str _ => cases q
theorem repr_ok (hg : X.A.guards = some []) (hu : X.A.units + 100 < cLine) : CallR X (.builtin "repr") (rBi X.K xc E .repr) := by
  intro pins sh σ H xs us Q I r h
  obtain ⟨ρ, s, ds, st, rl, out⟩ := h
  obtain ⟨d, rfl⟩ := one_arg out
  obtain ⟨v, rfl, rv⟩ := rpl1 rl
  have e : opBi .repr [d] s = (match d.data s 60 with
    | some e => if (e.showable && !e.hasDict && decide (e.shown.length ≤ LINE) && decide (e.depth ≤ 60)) = true then .ok (.str e.shown) s else .bad
    | none => .bad) := by cases d <;> rfl
  rw [e] at out
  cases q : d.data s 60 with
  | none => rw [q] at out; exact out.elim
  | some dt =>
    rw [q] at out
    have out2 : Out X.K xc E ρ H (Rp X.K) (if (dt.showable && !dt.hasDict && decide (dt.shown.length ≤ LINE) && decide (dt.depth ≤ 60)) = true then .ok (.str dt.shown) s else .bad) Q := out
    split at out2
    · rename_i hc
      simp only [Bool.and_eq_true, decide_eq_true_eq, Bool.not_eq_true'] at hc
      obtain ⟨⟨⟨c1, c2⟩, c3⟩, c4⟩ := hc
      have fin : Q (.str dt.shown) H := Out.now out2 st (.str _)
      have hd := data_dp st 60 _ _ _ rv q
      obtain ⟨u, rfl, ru⟩ := vals1 r
      obtain ⟨as, rd⟩ := Dp.reads I _ _ _ hd ru
      have hsz := fits_line c3
      cases hd with
      | non =>
        cases ru
        exact PySem.P.repr_of_none ⟨.str _, H, I.tok _, ⟨_, rfl⟩, fin⟩
      | bl b =>
        cases ru
        exact PySem.P.repr_of_bool ⟨.str _, H, I.tok _, ⟨_, rfl⟩, fin⟩
      | int i =>
        obtain ⟨t, rfl⟩ := ru
        exact PySem.P.repr_of_int (of_decide_eq_true c1) ⟨.str _, H, I.tok _, ⟨_, rfl⟩, fin⟩
      | str x =>
        obtain ⟨t, rfl⟩ := ru
        exact PySem.P.repr_of_str ⟨.str _, H, I.tok _, ⟨_, rfl⟩, fin⟩ hsz
      | lst h1 h2 =>
        cases ru
        exact repr_of_reads' rd c1 (fun z => by rw [c2] at z; cases z) hg (by omega) (fun b o e => e) (fun h' u tk hk => ⟨.str _, H, I.kept hk, ⟨_, rfl⟩, fin⟩) hsz
      | tup h1 h2 =>
        cases ru
        exact repr_of_reads' rd c1 (fun z => by rw [c2] at z; cases z) hg (by omega) (fun b o e => e) (fun h' u tk hk => ⟨.str _, H, I.kept hk, ⟨_, rfl⟩, fin⟩) hsz
    · exact out2.elim

/-! ### isinstance -/
def tyS : TY → String
  | .int => "int" | .str => "str" | .bool => "bool" | .list => "list" | .tuple => "tuple"
theorem isT_ok (st : StR K ρ H s) {v : V} {d : AV} {t : TY} {b : Bool} (r : Rp K ρ H v d) (h : isT s d t = some b) : ∃ T, TyX K H v T ∧ PySem.W.kitOne K T (.type (tyS t)) = some b := by
  have tupT : ∀ a xs, SqT K H a xs → TyX K H (.ref a) (.type "tuple") := fun a xs h => by
    rcases h with (h | ⟨o, h⟩) | ⟨o, its, n, h, c, _⟩
    · exact .base (.tup h)
    · exact .fTuple h
    · exact .kTuple h c
  cases r with
  | non => exact ⟨_, .base .non, by cases h; cases t <;> exact kit_ty (by decide +kernel)⟩
  | bl x => exact ⟨_, .base (.bl x), by cases h; cases t <;> exact kit_ty (by decide +kernel)⟩
  | int x => exact ⟨_, .base (.int x), by cases h; cases t <;> exact kit_ty (by decide +kernel)⟩
  | str x => exact ⟨_, .base (.str x), by cases h; cases t <;> exact kit_ty (by decide +kernel)⟩
  | tup p _ => exact ⟨_, tupT _ _ p, by cases h; cases t <;> exact kit_ty (by decide +kernel)⟩
  | lst p _ =>
    refine ⟨.type "list", ?_, by cases h; cases t <;> exact kit_ty (by decide +kernel)⟩
    cases p with
    | frz e => exact .base (.frz e)
    | kk lk c _ _ _ _ => exact .kList lk c
  | @ref a n p =>
    have h2 : (match s[n]? with
      | some (.lst _) => some (t == .list)
      | _ => none) = some b := h
    split at h2
    · rename_i ds hs
      obtain ⟨xs, h3, _⟩ := st.at p hs
      exact ⟨_, .base (.lst h3), by cases h2; cases t <;> exact kit_ty (by decide +kernel)⟩
    · cases h2
  | fn _ => cases h

/-! ### methods -/
def rMe (K : PySem.W.Frag) (xc : List (Addr × List Str)) (E : XK) (m : ME) : V → List V → Hp → VK → Prop := fun x vs H Q => ∃ ρ s d ds, StR K ρ H s ∧ Rp K ρ H x d ∧ RpL K ρ H vs ds ∧ Out K xc E ρ H (Rp K) (opMe m d ds s) Q
theorem append_ok : MtR X "list.append" (rMe X.K xc E .append) := by
  intro pins sh σ H x vs v us Q I rx rv h
  obtain ⟨ρ, s, d, ds, st, r1, r2, out⟩ := h
  have no : opMe .append d ds s = .bad → False := fun e => by rw [e] at out; exact out
  cases d with
  | ref k =>
    match ds, r2, out with
    | [y], r2, out =>
      obtain ⟨z, rfl, rz⟩ := rpl1 r2
      have e : opMe .append (.ref k) [y] s = (match s[k]? with
        | some (.lst ys) => if ys.length < LINE then .ok .non (s.set k (.lst (ys ++ [y]))) else .bad
        | _ => .bad) := rfl
      rw [e] at out
      split at out
      · rename_i ys hk
        split at out
        · rename_i hl
          cases r1 with
          | ref p =>
            obtain ⟨xs, h1, h2⟩ := st.at p hk
            have hl2 : xs.length < sizeLine := by
              rw [h2.len, sizeLine_eq]
              exact hl
            exact mt_append pins sh σ H _ _ v us Q I rx rv ⟨_, xs, z, rfl, rfl, h1, hl2, out _ _ _ (Go.put p h1) (st.put p h1 (h2.app (.cons rz .nil))) .non⟩
        · exact out.elim
      · exact out.elim
    | [], _, out => exact False.elim out
    | _ :: _ :: _, _, out => exact False.elim out
  | _ => exact (no (by first | rfl | (cases ds <;> rfl))).elim
theorem strs_of {ys : List V} {ds : List AV} {zs : List Str} : RpL K ρ H ys ds → optAll asStr ds = some zs → ys = zs.map V.str := fun r h => by
  induction ds generalizing ys zs with
  | nil => cases r; cases h; rfl
  | cons d ds ih =>
    cases r with
    | cons a b =>
      unfold optAll at h
      cases e1 : asStr d with
      | none => rw [e1] at h; cases h
      | some y =>
        rw [e1] at h
        cases e2 : optAll asStr ds with
        | none => rw [e2] at h; cases h
        | some ws =>
          rw [e2] at h
          cases h
          rw [ih b e2]
          cases d <;> first | (cases e1; done) | skip
          cases e1
          cases a
          rfl
theorem rpl_strs : ∀ zs : List Str, RpL K ρ H (zs.map V.str) (zs.map AV.str)
  | [] => .nil
  | z :: zs => .cons (.str z) (rpl_strs zs)
theorem startswith_ok : MtR X "str.startswith" (rMe X.K xc E .startswith) := by
  intro pins sh σ H x vs v us Q I rx rv h
  obtain ⟨ρ, s, d, ds, st, r1, r2, out⟩ := h
  match d, ds, r1, r2, out with
  | .str a, [.str b], r1, r2, out =>
    obtain ⟨z, rfl, rz⟩ := rpl1 r2
    cases r1; cases rz
    exact mt_startswith pins sh σ H _ _ v us Q I rx rv ⟨a, b, rfl, rfl, Out.now (a := AV.bl (Txt.startswith a b)) (s := s) out st (.bl _)⟩
theorem endswith_ok : MtR X "str.endswith" (rMe X.K xc E .endswith) := by
  intro pins sh σ H x vs v us Q I rx rv h
  obtain ⟨ρ, s, d, ds, st, r1, r2, out⟩ := h
  match d, ds, r1, r2, out with
  | .str a, [.str b], r1, r2, out =>
    obtain ⟨z, rfl, rz⟩ := rpl1 r2
    cases r1; cases rz
    exact mt_endswith pins sh σ H _ _ v us Q I rx rv ⟨a, b, rfl, rfl, Out.now (a := AV.bl (Txt.endswith a b)) (s := s) out st (.bl _)⟩
theorem find_ok : MtR X "str.find" (rMe X.K xc E .find) := by
  intro pins sh σ H x vs v us Q I rx rv h
  obtain ⟨ρ, s, d, ds, st, r1, r2, out⟩ := h
  match d, ds, r1, r2, out with
  | .str a, [.str b], r1, r2, out =>
    obtain ⟨z, rfl, rz⟩ := rpl1 r2
    cases r1; cases rz
    exact mt_find pins sh σ H _ _ v us Q I rx rv ⟨a, b, rfl, rfl, Out.now (a := AV.int (Txt.find a b)) (s := s) out st (.int _)⟩
  | .str a, [.str b, .int i], r1, r2, out =>
    cases r2 with
    | cons rb r3 =>
      obtain ⟨z, rfl, rz⟩ := rpl1 r3
      cases r1; cases rb; cases rz
      exact mt_find3 pins sh σ H _ _ v us Q I rx rv ⟨a, b, i, rfl, rfl, Out.now (a := AV.int (Txt.find3 a b i)) (s := s) out st (.int _)⟩
theorem split_ok : MtR X "str.split" (rMe X.K xc E .split) := by
  intro pins sh σ H x vs v us Q I rx rv h
  obtain ⟨ρ, s, d, ds, st, r1, r2, out⟩ := h
  match d, ds, r1, r2, out with
  | .str a, [.str b], r1, r2, out =>
    have out2 : Out X.K xc E ρ H (Rp X.K) (if (b.length == 0) = false ∧ a.length + 2 ≤ LINE then .ok (.ref s.length) (s ++ [.lst ((Txt.split a b).map .str)]) else .bad) Q := out
    split at out2
    · rename_i hc
      obtain ⟨z, rfl, rz⟩ := rpl1 r2
      cases r1; cases rz
      exact mt_split pins sh σ H _ _ v us Q I rx rv ⟨a, b, rfl, rfl, hc.1, fits_line hc.2, fun p hp => Out.new out2 st (rpl_strs _) hp⟩
    · exact out2.elim
theorem join_ok : MtR X "str.join" (rMe X.K xc E .join) := by
  intro pins sh σ H x vs v us Q I rx rv h
  obtain ⟨ρ, s, d, ds, st, r1, r2, out⟩ := h
  match d, ds, r1, r2, out with
  | .str a, [e], r1, r2, out =>
    have out2 : Out X.K xc E ρ H (Rp X.K) (match items s e with
      | some ys => (match optAll asStr ys with
        | some zs => if (zs.map (·.length)).sum + zs.length * a.length ≤ LINE then .ok (.str (Txt.join a zs)) s else .bad
        | none => .bad)
      | none => .bad) Q := out
    obtain ⟨z, rfl, rz⟩ := rpl1 r2
    cases q : items s e with
    | none => rw [q] at out2; exact out2.elim
    | some ys =>
      rw [q] at out2
      cases q2 : optAll asStr ys with
      | none => simp only [q2] at out2; exact out2.elim
      | some zs =>
        simp only [q2] at out2
        split at out2
        · rename_i hl
          obtain ⟨p, xs, rfl, hq, rl⟩ := items_sq st rz q
          have ex := strs_of rl q2
          subst ex
          cases r1
          exact mt_join pins sh σ H _ _ v us Q I rx rv ⟨a, p, zs, rfl, rfl, hq, hl, Out.now out2 st (.str _)⟩
        · exact out2.elim
end
end Jp


set_option Elab.async false
set_option linter.all false
set_option maxRecDepth 100000
set_option maxHeartbeats 2000000
namespace Jp
open PySem PySem.Spec PyProof.Rows L2
variable [Tb] [Cb]
section
variable {w : Wd} {E : XK} {X : Cx} {K : PySem.W.Frag} {xc : List (Addr × List Str)} {ρ : List Addr} {H : Hp} {s : Sto}
theorem RpL.dropLast {K : PySem.W.Frag} {ρ : List Addr} {H : Hp} {vs : List V} {ds : List AV} (h : RpL K ρ H vs ds) : RpL K ρ H vs.dropLast ds.dropLast := by
  rw [List.dropLast_eq_take, List.dropLast_eq_take, h.len]
  exact RpL.take _ h
theorem RpL.reverse {K : PySem.W.Frag} {ρ : List Addr} {H : Hp} : ∀ {vs : List V} {ds : List AV}, RpL K ρ H vs ds → RpL K ρ H vs.reverse ds.reverse
  | _, [], h => by cases h; exact .nil
  | _, d :: ds, h => by
    cases h with
    | cons a b =>
      rw [List.reverse_cons, List.reverse_cons]
      exact RpL.app (RpL.reverse b) (.cons a .nil)
theorem no_args {K : PySem.W.Frag} {ρ : List Addr} {H : Hp} {vs : List V} (h : RpL K ρ H vs []) : vs = [] := by cases h; rfl
theorem pop_ok : MtR X "list.pop" (rMe X.K xc E .pop) := by
  intro pins sh σ H x vs v us Q I rx rv h
  obtain ⟨ρ, s, d, ds, st, r1, r2, out⟩ := h
  match d, ds, r1, r2, out with
  | .ref k, [], r1, r2, out =>
    have ev := no_args r2
    subst ev
    have out2 : Out X.K xc E ρ H (Rp X.K) (match s[k]? with
      | some (.lst ys) => (match ys[ys.length - 1]? with
        | some y => .ok y (s.set k (.lst ys.dropLast))
        | none => .bad)
      | _ => .bad) Q := out
    split at out2
    · rename_i ys hk
      split at out2
      · rename_i y hy
        cases r1 with
        | ref p =>
          obtain ⟨xs, h1, h2⟩ := st.at p hk
          obtain ⟨z, hz, rz⟩ := h2.get hy
          have gg := Go.put (ρ := ρ) (o := .lst xs.dropLast) p h1
          refine mt_pop pins sh σ H _ _ v us Q I rx rv ⟨_, xs, z, rfl, rfl, h1, by rw [h2.len]; exact hz, ?_⟩
          exact out2 _ _ _ gg (st.put p h1 h2.dropLast) (rz.go gg)
      · exact out2.elim
    · exact out2.elim
theorem reverse_ok : MtR X "list.reverse" (rMe X.K xc E .reverse) := by
  intro pins sh σ H x vs v us Q I rx rv h
  obtain ⟨ρ, s, d, ds, st, r1, r2, out⟩ := h
  match d, ds, r1, r2, out with
  | .ref k, [], r1, r2, out =>
    have ev := no_args r2
    subst ev
    have out2 : Out X.K xc E ρ H (Rp X.K) (match s[k]? with
      | some (.lst ys) => .ok .non (s.set k (.lst ys.reverse))
      | _ => .bad) Q := out
    split at out2
    · rename_i ys hk
      cases r1 with
      | ref p =>
        obtain ⟨xs, h1, h2⟩ := st.at p hk
        exact mt_reverse pins sh σ H _ _ v us Q I rx rv ⟨_, xs, rfl, rfl, h1, out2 _ _ _ (Go.put p h1) (st.put p h1 h2.reverse) .non⟩
    · exact out2.elim
/-- l.extend(b), b a tuple of whatever make -/
theorem extT_meets (l b : Addr) (its jts : Array Value) (n : Nat) (fits : its.size + jts.size ≤ sizeLine) :
    Meets (Builtin.«list.extend» ⟨[.ref l, .ref b], []⟩) (fun _ R st => st.heap.get? l = some ({ cls := .type "list", data := .seq its n } : Obj) ∧ (∃ (ob : Obj) (m : Nat), st.heap.get? b = some ob ∧ ob.cls = .type "tuple" ∧ ob.data = .seq jts m) ∧
      R (.ok (.ret .none)) { st with heap := st.heap.update l (Obj.mapSeq fun a => a ++ jts) }) := by
  refine Meets.of_wp fun prog wd A R st h => ?_
  obtain ⟨hl, ⟨ob, m, hb, hc, hd⟩, hr⟩ := h
  show wpAny _ A.in1 (Builtin.List.listExtendWith (.ref l) (.ref b) .none) _ _ st
  unfold Builtin.List.listExtendWith
  refine wpAny_bind (wpAny_typeOf ⟨ob, hb, hc⟩ ?_)
  have yes : (Builtin.List.listSameRef (.ref l) (.ref b) || Value.type "tuple" == Value.type "list" || Value.type "tuple" == Value.type "tuple") = true := by simp
  rw [if_pos yes]
  unfold Builtin.List.listItems
  refine wpAny_bind (wpAny_bind (wpAny_seqItems hb hd (wpAny_pure ?_)))
  refine wpAny_bind (wpAny_bind (wpAny_seqItems hl rfl (wpAny_pure ?_)))
  have long : ¬ ((!its.isEmpty && Builtin.List.listTooLong (its.size + jts.size)) = true) := by
    rw [notLongL fits, Bool.and_false]
    exact Bool.false_ne_true
  rw [if_neg long]
  refine wpAny_bind (wpAny_updateSeq (hz := by omega) (_hz' := by rw [Array.size_append]; omega) hl rfl ?_)
  exact wpAny_pure ⟨.none, rfl, hr⟩
/-- a list longer by a tuple's items -/
theorem ext_tup {pins : List (Addr × Obj)} {sh : Shared} {σ : L2.St} {H : Hp} {l b : Addr} {xs zs : List V} {Q : VK} (I : Inv X pins σ H sh) (hH : H l = some (.lst xs)) (hB : SqT X.K H b zs) (hz : xs.length + zs.length ≤ sizeLine) (q : Q .non (upd H l (.lst (xs ++ zs)))) :
    wpAny (model X.prog X.w) X.A (call (.builtin "list.extend") [.ref l, .ref b]) (EP X pins σ Q) X.xe sh := by
  obtain ⟨z, its, m, r1, hl, e⟩ := I.lstM hH
  obtain ⟨jts, r2, ⟨ob, e2, c2, n2, d2⟩, hz2⟩ := I.tuple hB
  have l2 := r2.length
  have sz : its.toArray.size + jts.toArray.size ≤ sizeLine := by
    rw [List.size_toArray, List.size_toArray, ← hl, ← l2]
    exact hz
  refine call_meets F.slot_list_extend ⟨_, e, rfl⟩ F.entry_list_extend (F.args_list_extend_2 _ _) (extT_meets l b its.toArray jts.toArray m sz) ⟨e, ⟨ob, n2, e2, c2, d2⟩, ?_⟩
  exact ⟨.non, _, I.lset (its' := its ++ jts) hH e (by simp) (r1.append r2) (by rw [List.length_append]; exact hz), rfl, q⟩
theorem extend_ok : MtR X "list.extend" (rMe X.K xc E .extend) := by
  intro pins sh σ H x vs v us Q I rx rv h
  obtain ⟨ρ, s, d, ds, st, r1, r2, out⟩ := h
  have no : opMe .extend d ds s = .bad → False := fun e => by rw [e] at out; exact out
  cases d with
  | ref k =>
    match ds, r2, out with
    | [.tup zs], r2, out =>
      obtain ⟨z, rfl, rz⟩ := rpl1 r2
      have out2 : Out X.K xc E ρ H (Rp X.K) (match s[k]? with
        | some (.lst ys) => if ys.length + zs.length ≤ LINE then .ok .non (s.set k (.lst (ys ++ zs))) else .bad
        | _ => .bad) Q := out
      split at out2
      · rename_i ys hk
        split at out2
        · rename_i hl
          cases r1 with
          | ref p =>
            cases rz with
            | tup t1 t2 =>
              obtain ⟨xs, h1, h2⟩ := st.at p hk
              cases rx
              obtain ⟨u, rfl, ru⟩ := rv.one
              cases ru
              refine ext_tup I h1 t1 (by rw [h2.len, t2.len]; exact fits_line hl) ?_
              exact out2 _ _ _ (Go.put p h1) (st.put p h1 (h2.app t2)) .non
        · exact out2.elim
      · exact out2.elim
    | [.ref m], r2, out =>
      obtain ⟨z, rfl, rz⟩ := rpl1 r2
      have out2 : Out X.K xc E ρ H (Rp X.K) (match s[k]?, s[m]? with
        | some (.lst ys), some (.lst zs) => if ys.length + zs.length ≤ LINE then .ok .non (s.set k (.lst (ys ++ zs))) else .bad
        | _, _ => .bad) Q := out
      split at out2
      · rename_i ys zs hk hm
        split at out2
        · rename_i hl
          cases r1 with
          | ref p =>
            cases rz with
            | ref p2 =>
              obtain ⟨xs, h1, h2⟩ := st.at p hk
              obtain ⟨ws, h3, h4⟩ := st.at p2 hm
              exact mt_extend pins sh σ H _ _ v us Q I rx rv ⟨_, _, xs, ws, rfl, rfl, h1, h3, by rw [h2.len, h4.len]; exact fits_line hl, out2 _ _ _ (Go.put p h1) (st.put p h1 (h2.app h4)) .non⟩
        · exact out2.elim
      · exact out2.elim
    | [], _, out => exact False.elim out
    | .non :: _, _, out => exact (no (by first | rfl | (rename_i r _ _; cases r <;> rfl))).elim
    | .bl _ :: _, _, out => exact (no (by first | rfl | (rename_i r _ _; cases r <;> rfl))).elim
    | .int _ :: _, _, out => exact (no (by first | rfl | (rename_i r _ _; cases r <;> rfl))).elim
    | .str _ :: _, _, out => exact (no (by first | rfl | (rename_i r _ _; cases r <;> rfl))).elim
    | .lst _ :: _, _, out => exact (no (by first | rfl | (rename_i r _ _; cases r <;> rfl))).elim
    | .fn _ :: _, _, out => exact (no (by first | rfl | (rename_i r _ _; cases r <;> rfl))).elim
    | .tup _ :: _ :: _, _, out => exact (no rfl).elim
    | .ref _ :: _ :: _, _, out => exact (no rfl).elim
  | _ => exact (no (by first | rfl | (cases ds <;> rfl))).elim
/-! ### sums, the least, the greatest -/
theorem ints_of {K : PySem.W.Frag} {ρ : List Addr} {H : Hp} : ∀ {ds : List AV} {vs : List V} {zs : List Int}, RpL K ρ H vs ds → optAll asInt ds = some zs → vs = zs.map V.int
  | [], _, _, r, h => by cases r; cases h; rfl
  | d :: ds, _, _, r, h => by
    cases r with
    | cons a b =>
      unfold optAll at h
      cases e1 : asInt d with
      | none => rw [e1] at h; cases h
      | some y =>
        rw [e1] at h
        cases e2 : optAll asInt ds with
        | none => rw [e2] at h; cases h
        | some ws =>
          rw [e2] at h
          cases h
          rw [List.map_cons, ints_of b e2]
          cases d <;> first | (cases e1; done) | skip
          cases e1
          cases a
          rfl
theorem sortI_perm : ∀ xs : List Int, (sortI xs).Perm xs
  | [] => .nil
  | x :: r => by
    have ins : ∀ l : List Int, (insI x l).Perm (x :: l) := fun l => by
      induction l with
      | nil => exact .refl _
      | cons y t ih =>
        unfold insI
        split
        · exact .refl _
        · exact (List.Perm.cons y ih).trans (List.Perm.swap x y t)
    exact (ins (sortI r)).trans ((sortI_perm r).cons x)
theorem sortI_srt : ∀ xs : List Int, (sortI xs).Pairwise (· ≤ ·)
  | [] => .nil
  | x :: r => by
    have mem : ∀ (l : List Int) (z : Int), z ∈ insI x l → z = x ∨ z ∈ l := fun l => by
      induction l with
      | nil => intro z h; exact Or.inl (by simpa [insI] using h)
      | cons y t ih =>
        intro z h
        unfold insI at h
        split at h
        · rcases List.mem_cons.mp h with q | q
          · exact Or.inl q
          · exact Or.inr q
        · rcases List.mem_cons.mp h with q | q
          · exact Or.inr (by rw [q]; exact List.mem_cons_self)
          · rcases ih z q with q | q
            · exact Or.inl q
            · exact Or.inr (List.mem_cons_of_mem _ q)
    have ins : ∀ l : List Int, l.Pairwise (· ≤ ·) → (insI x l).Pairwise (· ≤ ·) := fun l => by
      induction l with
      | nil => intro _; exact List.pairwise_singleton _ _
      | cons y t ih =>
        intro h
        obtain ⟨h1, h2⟩ := List.pairwise_cons.mp h
        unfold insI
        split
        · rename_i q
          refine List.pairwise_cons.mpr ⟨fun z hz => ?_, h⟩
          rcases List.mem_cons.mp hz with e | e
          · rw [e]; exact q
          · exact Int.le_trans q (h1 z e)
        · rename_i q
          refine List.pairwise_cons.mpr ⟨fun z hz => ?_, ih h2⟩
          rcases mem t z hz with e | e
          · rw [e]; omega
          · exact h1 z e
    exact ins (sortI r) (sortI_srt r)
theorem srt_uniq : ∀ {xs ys : List Int}, xs.Perm ys → xs.Pairwise (· ≤ ·) → ys.Pairwise (· ≤ ·) → xs = ys
  | [], ys, p, _, _ => by rw [List.nil_perm.mp p]
  | x :: r, [], p, _, _ => by cases List.perm_nil.mp p
  | x :: r, y :: t, p, h1, h2 => by
    obtain ⟨a1, b1⟩ := List.pairwise_cons.mp h1
    obtain ⟨a2, b2⟩ := List.pairwise_cons.mp h2
    have e : x = y := by
      have m1 : x ∈ y :: t := p.subset List.mem_cons_self
      have m2 : y ∈ x :: r := p.symm.subset List.mem_cons_self
      rcases List.mem_cons.mp m1 with q | q
      · exact q
      · rcases List.mem_cons.mp m2 with q2 | q2
        · exact q2.symm
        · exact Int.le_antisymm (a1 y q2) (a2 x q)
    subst e
    rw [srt_uniq p.cons_inv b1 b2]
theorem sorted_ok : CallR X (.builtin "sorted") (rBi X.K xc E .sorted) := by
  intro pins sh σ H xs us Q I r h
  obtain ⟨ρ, s, ds, st, rl, out⟩ := h
  match ds, rl, out with
  | [d], rl, out =>
    obtain ⟨v, rfl, rv⟩ := rpl1 rl
    have out2 : Out X.K xc E ρ H (Rp X.K) (match itemsL s d with
      | some ys => (match optAll asInt ys with
        | some zs => .ok (.ref s.length) (s ++ [.lst ((sortI zs).map .int)])
        | none => .bad)
      | none => .bad) Q := out
    split at out2
    · rename_i ys e1
      split at out2
      · rename_i zs e2
        obtain ⟨a, ws, rfl, h1, h2⟩ := itemsL_sq st rv e1
        have ew := ints_of h2 e2
        subst ew
        refine cr_sortedI pins sh σ H _ us Q I r ⟨a, zs, rfl, h1, fun ns p hp hs hn => ?_⟩
        have en : ns = sortI zs := srt_uniq (hp.trans (sortI_perm zs).symm) hs (sortI_srt zs)
        subst en
        refine Out.new out2 st ?_ hn
        have ri : ∀ l : List Int, RpL X.K ρ H (l.map V.int) (l.map AV.int) := fun l => by
          induction l with
          | nil => exact .nil
          | cons x r ih => exact .cons (.int x) ih
        exact ri _
      · exact out2.elim
    · exact out2.elim
theorem abs_ok : CallR X (.builtin "abs") (rBi X.K xc E .abs) := by
  intro pins sh σ H xs us Q I r h
  obtain ⟨ρ, s, ds, st, rl, out⟩ := h
  obtain ⟨d, rfl⟩ := one_arg out
  obtain ⟨v, rfl, rv⟩ := rpl1 rl
  cases d <;> first | exact (False.elim out) | skip
  cases rv
  exact call_abs pins sh σ H _ us Q I r ⟨_, rfl, Out.now out st (.int _)⟩
theorem sum_ok (hc : X.calm = true) : CallR X (.builtin "sum") (rBi X.K xc E .sum) := by
  intro pins sh σ H xs us Q I r h
  obtain ⟨ρ, s, ds, st, rl, out⟩ := h
  match ds, rl, out with
  | [d], rl, out =>
    obtain ⟨v, rfl, rv⟩ := rpl1 rl
    have out2 : Out X.K xc E ρ H (Rp X.K) (match itemsL s d with
      | some ys => (match optAll asInt ys with
        | some zs => .ok (.int zs.sum) s
        | none => .bad)
      | none => .bad) Q := out
    split at out2
    · rename_i ys e1
      split at out2
      · rename_i zs e2
        obtain ⟨a, ws, rfl, h1, h2⟩ := itemsL_sq st rv e1
        have ew := ints_of h2 e2
        subst ew
        exact cr_sum hc pins sh σ H _ us Q I r ⟨a, zs, rfl, h1, Out.now out2 st (.int _)⟩
      · exact out2.elim
    · exact out2.elim
theorem foldl_min : ∀ (zs : List Int) (z : Int), (zs.foldl (fun m i => if i < m then i else m) z) ∈ z :: zs ∧ ∀ y ∈ z :: zs, (zs.foldl (fun m i => if i < m then i else m) z) ≤ y
  | [], z => ⟨List.mem_cons_self, fun y hy => by
    have e : y = z := by simpa using hy
    rw [e, List.foldl_nil]
    exact Int.le_refl _⟩
  | a :: zs, z => by
    rw [List.foldl_cons]
    have hc : ((if a < z then a else z) = a ∨ (if a < z then a else z) = z) := by split <;> simp
    have ho : ((if a < z then a else z) ≤ a ∧ (if a < z then a else z) ≤ z) := by split <;> omega
    generalize (if a < z then a else z) = t at hc ho ⊢
    obtain ⟨h1, h2⟩ := foldl_min zs t
    refine ⟨?_, fun y hy => ?_⟩
    · rcases List.mem_cons.mp h1 with q | q
      · rw [q]
        rcases hc with rfl | rfl <;> simp
      · exact List.mem_cons_of_mem _ (List.mem_cons_of_mem _ q)
    · have b := h2 t List.mem_cons_self
      rcases List.mem_cons.mp hy with q | q
      · rw [q]; exact Int.le_trans b ho.2
      · rcases List.mem_cons.mp q with q | q
        · rw [q]; exact Int.le_trans b ho.1
        · exact h2 y (List.mem_cons_of_mem _ q)
theorem foldl_max : ∀ (zs : List Int) (z : Int), (zs.foldl (fun m i => if m < i then i else m) z) ∈ z :: zs ∧ ∀ y ∈ z :: zs, y ≤ (zs.foldl (fun m i => if m < i then i else m) z)
  | [], z => ⟨List.mem_cons_self, fun y hy => by
    have e : y = z := by simpa using hy
    rw [e, List.foldl_nil]
    exact Int.le_refl _⟩
  | a :: zs, z => by
    rw [List.foldl_cons]
    have hc : ((if z < a then a else z) = a ∨ (if z < a then a else z) = z) := by split <;> simp
    have ho : (a ≤ (if z < a then a else z) ∧ z ≤ (if z < a then a else z)) := by split <;> omega
    generalize (if z < a then a else z) = t at hc ho ⊢
    obtain ⟨h1, h2⟩ := foldl_max zs t
    refine ⟨?_, fun y hy => ?_⟩
    · rcases List.mem_cons.mp h1 with q | q
      · rw [q]
        rcases hc with rfl | rfl <;> simp
      · exact List.mem_cons_of_mem _ (List.mem_cons_of_mem _ q)
    · have b := h2 t List.mem_cons_self
      rcases List.mem_cons.mp hy with q | q
      · rw [q]; exact Int.le_trans ho.2 b
      · rcases List.mem_cons.mp q with q | q
        · rw [q]; exact Int.le_trans ho.1 b
        · exact h2 y (List.mem_cons_of_mem _ q)
theorem min_ok (hc : X.calm = true) : CallR X (.builtin "min") (rBi X.K xc E .min) := by
  intro pins sh σ H xs us Q I r h
  obtain ⟨ρ, s, ds, st, rl, out⟩ := h
  match ds, rl, out with
  | [d], rl, out =>
    obtain ⟨v, rfl, rv⟩ := rpl1 rl
    have out2 : Out X.K xc E ρ H (Rp X.K) (match itemsL s d with
      | some ys => (match optAll asInt ys with
        | some (z :: zs) => .ok (.int (zs.foldl (fun m i => if i < m then i else m) z)) s
        | _ => .bad)
      | none => .bad) Q := out
    split at out2
    · rename_i ys e1
      split at out2
      · rename_i z zs e2
        obtain ⟨a, ws, rfl, h1, h2⟩ := itemsL_sq st rv e1
        have ew := ints_of h2 e2
        subst ew
        refine cr_min hc pins sh σ H _ us Q I r ⟨a, z :: zs, rfl, h1, by simp, fun m m1 m2 => ?_⟩
        obtain ⟨p1, p2⟩ := foldl_min zs z
        have em : m = zs.foldl (fun m i => if i < m then i else m) z := Int.le_antisymm (m2 _ p1) (p2 m m1)
        rw [em]
        exact Out.now out2 st (.int _)
      · exact out2.elim
    · exact out2.elim
theorem max_ok (hc : X.calm = true) : CallR X (.builtin "max") (rBi X.K xc E .max) := by
  intro pins sh σ H xs us Q I r h
  obtain ⟨ρ, s, ds, st, rl, out⟩ := h
  match ds, rl, out with
  | [d], rl, out =>
    obtain ⟨v, rfl, rv⟩ := rpl1 rl
    have out2 : Out X.K xc E ρ H (Rp X.K) (match itemsL s d with
      | some ys => (match optAll asInt ys with
        | some (z :: zs) => .ok (.int (zs.foldl (fun m i => if m < i then i else m) z)) s
        | _ => .bad)
      | none => .bad) Q := out
    split at out2
    · rename_i ys e1
      split at out2
      · rename_i z zs e2
        obtain ⟨a, ws, rfl, h1, h2⟩ := itemsL_sq st rv e1
        have ew := ints_of h2 e2
        subst ew
        refine cr_max hc pins sh σ H _ us Q I r ⟨a, z :: zs, rfl, h1, by simp, fun m m1 m2 => ?_⟩
        obtain ⟨p1, p2⟩ := foldl_max zs z
        have em : m = zs.foldl (fun m i => if m < i then i else m) z := Int.le_antisymm (p2 m m1) (m2 _ p1)
        rw [em]
        exact Out.now out2 st (.int _)
      · exact out2.elim
    · exact out2.elim
end
end Jp


set_option Elab.async false
set_option linter.all false
set_option maxRecDepth 100000
set_option maxHeartbeats 4000000
namespace Jp
open PySem PySem.Spec PyProof.Rows L2
variable [Tb] [Cb]
section
variable {w : Wd} {T : Nat → Nat → List AV → Sto → Rs AV} {k g n : Nat} {E : XK} {X : Cx}

theorem vis_of {sc : Scope} {x : Str} (h : visB sc x = true) : Vis sc x ∧ (x == ("__debug__" : Str)) = false ∧ (x == ("__classdict__" : Str)) = false ∧ x ≠ "__name__" := by
  unfold visB dunder at h
  rw [Bool.and_eq_true] at h
  obtain ⟨h1, h2⟩ := h
  simp only [Bool.not_eq_true', Bool.or_eq_false_iff] at h2
  refine ⟨?_, h2.1.1.1.1, h2.1.1.1.2, fun e => by rw [e] at h2; simp at h2⟩
  split at h1
  · exact Or.inl (by assumption)
  · exact Or.inr (Or.inl (by assumption))
  · exact Or.inr (Or.inr (by assumption))
  · cases h1
theorem gl_of {x : Str} (h : glB X.env.scope x = true) : Gl X x ∧ (x == ("__debug__" : Str)) = false ∧ x ≠ "__name__" := by
  unfold glB dunder at h
  rw [Bool.and_eq_true] at h
  obtain ⟨h1, h2⟩ := h
  simp only [Bool.not_eq_true', Bool.or_eq_false_iff] at h2
  refine ⟨?_, h2.1.1.1.1, fun e => by rw [e] at h2; simp at h2⟩
  split at h1
  · assumption
  · cases h1
theorem ne_of_gl {sc : Scope} {x : Str} (h : glB sc x = true) : x ≠ "" := fun e => by
  unfold glB dunder at h
  rw [Bool.and_eq_true] at h
  obtain ⟨h1, h2⟩ := h
  simp only [Bool.not_eq_true', Bool.or_eq_false_iff] at h2
  rw [e] at h2
  simp at h2
theorem not_combine {x : Str} (h : dunder x = false) : x ≠ "combine" := fun e => by
  unfold dunder at h
  rw [e] at h
  simp at h
theorem notC_of {i : Nat} {x : Str} (cw : ∀ (j : Nat) (p : Addr), Cb.cl = some (j, p) → X.N[j]? = some "combine") (hi : X.N[i]? = some x) (hd : dunder x = false) : NotC i := fun j p e z => by
  have q := cw j p e
  rw [← z, hi] at q
  exact not_combine hd (Option.some.inj q)
theorem cmp_mark {N fn : List Str} {cn : Nm} {sc : Scope} {ir : IE} {e : Expr} {op : CmpOp} (h : mt N fn cn n sc ir e = true) : behindInMarks op e = false := by
  cases n with
  | zero => rw [mt] at h; cases h
  | succ n => cases e <;> first | rfl | (unfold mt at h; cases h)
theorem plain_ix {N fn : List Str} {cn : Nm} {sc : Scope} {ir : IE} {e : Expr} (h : mt N fn cn n sc ir e = true) : PlainIx e := by
  cases n with
  | zero => rw [mt] at h; cases h
  | succ n => cases e <;> first | (exact fun _ _ => rfl) | (unfold mt at h; cases h)
theorem attr_base {o : Expr} {m : Str} {env : Env} (h : bare o = false) : attributeBase o m env (eval o env) = eval o env := by
  unfold attributeBase
  split
  · rename_i id _ pos
    cases h
  · rfl
theorem base_of {o : Expr} {m : Str} {env : Env} (h : bare o = false) : attributeBase o m env (eval o env) = eval o env := attr_base h

/-- a step with two operands -/
theorem two_ok {a b : Slots → Sto → Rs AV} {f : AV → AV → Sto → Rs AV} {σ : L2.St} {H : Hp} {Q : VK} {r : L2.R2} (h : tI w X.K E (fun σ s => (a σ s).bd fun x s => (b σ s).bd fun y s => f x y s) σ H Q)
    (hr : ∀ ρ s x y v u H, StR X.K ρ H s → Rp X.K ρ H v x → Rp X.K ρ H u y → Out X.K w.xc E ρ H (Rp X.K) (f x y s) Q → r v u H Q) : tOp r (tI w X.K E a) (tI w X.K E b) σ H Q := by
  obtain ⟨ρ, sl, s, st, sr, o⟩ := h
  refine ⟨ρ, sl, s, st, sr, Out.bd o ?_⟩
  intro x s1 ρ1 H1 v _ g1 st1 r1 o1
  refine ⟨ρ1, sl, s1, st1, sr.go g1, Out.bd o1 ?_⟩
  intro y s2 ρ2 H2 u _ g2 st2 r2 o2
  exact hr ρ2 s2 x y v u H2 st2 (r1.go g2) r2 o2
/-- a step with one -/
theorem one_ok {a : Slots → Sto → Rs AV} {f : AV → Sto → Rs AV} {σ : L2.St} {H : Hp} {Q : VK} {r : V → Hp → Prop} (h : tI w X.K E (fun σ s => (a σ s).bd fun x s => f x s) σ H Q)
    (hr : ∀ ρ s x v H, StR X.K ρ H s → Rp X.K ρ H v x → Out X.K w.xc E ρ H (Rp X.K) (f x s) Q → r v H) : tI w X.K E a σ H r := by
  obtain ⟨ρ, sl, s, st, sr, o⟩ := h
  refine ⟨ρ, sl, s, st, sr, Out.bd o ?_⟩
  intro x s1 ρ1 H1 v _ g1 st1 r1 o1
  exact hr ρ1 s1 x v H1 st1 r1 o1
/-- as a test -/
abbrev tTr (w : Wd) (K : PySem.W.Frag) (E : XK) (ev : Slots → Sto → Rs AV) : TT := tIt w K E fun σ s => (ev σ s).bd fun x s => opt (truth s x) s

theorem one_t {a : Slots → Sto → Rs AV} {f : AV → Sto → Rs Bool} {σ : L2.St} {H : Hp} {Q : Bool → Hp → Prop} {r : V → Hp → Prop} (h : tIt w X.K E (fun σ s => (a σ s).bd fun x s => f x s) σ H Q)
    (hr : ∀ ρ s x v H, StR X.K ρ H s → Rp X.K ρ H v x → Out X.K w.xc E ρ H EqB (f x s) Q → r v H) : tI w X.K E a σ H r := by
  obtain ⟨ρ, sl, s, st, sr, o⟩ := h
  refine ⟨ρ, sl, s, st, sr, Out.bd o ?_⟩
  intro x s1 ρ1 H1 v _ g1 st1 r1 o1
  exact hr ρ1 s1 x v H1 st1 r1 o1
/-- the test by its value -/
theorem pt_plain {e : Expr} {ev : Slots → Sto → Rs AV} (h : PE X e (tI w X.K E ev)) (he : ∀ whole, isTrue e X.env whole = (do let v ← whole; standAt e.pos; holding [v] (truthy v))) : PT X e (tTr w X.K E ev) := by
  refine PT.of (pt_truth h he) ?_
  intro σ H Q hq
  refine one_t hq ?_
  intro ρ s x v H st r o
  obtain ⟨b, hb, o⟩ := Out.opt o
  exact ⟨b, truth_ok st r hb, Out.now o st rfl⟩
end
end Jp


set_option Elab.async false
set_option linter.all false
set_option maxRecDepth 100000
set_option maxHeartbeats 4000000
namespace Jp
open PySem PySem.Spec PyProof.Rows L2
variable [Tb] [Cb]
section
variable {w : Wd} {T : Nat → Nat → List AV → Sto → Rs AV} {k g n : Nat} {E : XK} {X : Cx}
abbrev ev (T : Nat → Nat → List AV → Sto → Rs AV) (w : Wd) (g n : Nat) (ir : IE) : Slots → Sto → Rs AV := evI (fun g => T (4 * g)) w.C g n ir
def SnE (w : Wd) (T : Nat → Nat → List AV → Sto → Rs AV) (k n : Nat) : Prop := ∀ (g : Nat) (E : XK) (X : Cx), Gd w T k g E X → ∀ (ir : IE) (e : Expr), mt w.N w.fn w.cn n X.env.scope ir e = true → PE X e (tI w X.K E (ev T w g n ir))
def TnE (w : Wd) (T : Nat → Nat → List AV → Sto → Rs AV) (k n : Nat) : Prop := ∀ (g : Nat) (E : XK) (X : Cx), Gd w T k g E X → ∀ (ir : IE) (e : Expr), mt w.N w.fn w.cn n X.env.scope ir e = true →
  PT X e (tTr w X.K E (ev T w g n ir)) ∧ ∀ op vs pos, e = .BoolOp op vs pos → PW X e (tTr w X.K E (ev T w g n ir))

/-! ### and, or -/
theorem and_ok {a b : Slots → Sto → Rs AV} {σ : L2.St} {H : Hp} {Q : VK} (h : tI w X.K E (fun σ s => (a σ s).bd fun x s => (opt (truth s x) s).bd fun k s => if k then b σ s else .ok x s) σ H Q) :
    tAndT X.K (tI w X.K E a) (tI w X.K E b) σ H Q := by
  obtain ⟨ρ, sl, s, st, sr, o⟩ := h
  refine ⟨ρ, sl, s, st, sr, Out.bd o ?_⟩
  intro x s1 ρ1 H1 v _ g1 st1 r1 o1
  cases e : truth s1 x with
  | none => rw [e] at o1; exact o1.elim
  | some c =>
    rw [e] at o1
    refine ⟨c, truth_ok st1 r1 e, ?_⟩
    cases c with
    | true => exact ⟨ρ1, sl, s1, st1, sr.go g1, o1⟩
    | false => exact Out.now (a := x) (s := s1) o1 st1 r1
theorem or_ok {a b : Slots → Sto → Rs AV} {σ : L2.St} {H : Hp} {Q : VK} (h : tI w X.K E (fun σ s => (a σ s).bd fun x s => (opt (truth s x) s).bd fun k s => if k then .ok x s else b σ s) σ H Q) :
    tOrT X.K (tI w X.K E a) (tI w X.K E b) σ H Q := by
  obtain ⟨ρ, sl, s, st, sr, o⟩ := h
  refine ⟨ρ, sl, s, st, sr, Out.bd o ?_⟩
  intro x s1 ρ1 H1 v _ g1 st1 r1 o1
  cases e : truth s1 x with
  | none => rw [e] at o1; exact o1.elim
  | some c =>
    rw [e] at o1
    refine ⟨c, truth_ok st1 r1 e, ?_⟩
    cases c with
    | true => exact Out.now (a := x) (s := s1) o1 st1 r1
    | false => exact ⟨ρ1, sl, s1, st1, sr.go g1, o1⟩
/-! ### .. as tests -/
theorem tand_ok {a b : Slots → Sto → Rs AV} {σ : L2.St} {H : Hp} {Q : Bool → Hp → Prop} (h : tTr w X.K E (fun σ s => (a σ s).bd fun x s => (opt (truth s x) s).bd fun k s => if k then b σ s else .ok x s) σ H Q) :
    tAnd (tTr w X.K E a) (tTr w X.K E b) σ H Q := by
  obtain ⟨ρ, sl, s, st, sr, o⟩ := h
  refine ⟨ρ, sl, s, st, sr, ?_⟩
  cases ea : a sl s with
  | bad => simp only [ea, Rs.bd] at o; exact False.elim o
  | exc x s1 => simp only [ea, Rs.bd] at o ⊢; exact o
  | ok x s1 =>
    simp only [ea, Rs.bd] at o ⊢
    cases e : truth s1 x with
    | none => simp only [e, opt, Rs.bd] at o; exact False.elim o
    | some c =>
      simp only [e, opt, Rs.bd] at o ⊢
      intro ρ' H' b' g st' eb
      cases eb
      cases c with
      | true => exact ⟨ρ', sl, s1, st', sr.go g, Out.up o g⟩
      | false =>
        simp only [Bool.false_eq_true, if_false, e, opt] at o
        exact o ρ' H' false g st' rfl
theorem tor_ok {a b : Slots → Sto → Rs AV} {σ : L2.St} {H : Hp} {Q : Bool → Hp → Prop} (h : tTr w X.K E (fun σ s => (a σ s).bd fun x s => (opt (truth s x) s).bd fun k s => if k then .ok x s else b σ s) σ H Q) :
    tOr (tTr w X.K E a) (tTr w X.K E b) σ H Q := by
  obtain ⟨ρ, sl, s, st, sr, o⟩ := h
  refine ⟨ρ, sl, s, st, sr, ?_⟩
  cases ea : a sl s with
  | bad => simp only [ea, Rs.bd] at o; exact False.elim o
  | exc x s1 => simp only [ea, Rs.bd] at o ⊢; exact o
  | ok x s1 =>
    simp only [ea, Rs.bd] at o ⊢
    cases e : truth s1 x with
    | none => simp only [e, opt, Rs.bd] at o; exact False.elim o
    | some c =>
      simp only [e, opt, Rs.bd] at o ⊢
      intro ρ' H' b' g st' eb
      cases eb
      cases c with
      | true =>
        simp only [if_true, e, opt] at o
        exact o ρ' H' true g st' rfl
      | false => exact ⟨ρ', sl, s1, st', sr.go g, Out.up o g⟩
theorem pt_ife {c a b : Expr} {pos : Pos} {tc ta tb : TT} (hc : PT X c tc) (ha : PT X a ta) (hb : PT X b tb) : PT X (.IfExp c a b pos) (fun σ H Q => tc σ H fun k H1 => if k = true then ta σ H1 Q else tb σ H1 Q) := by
  constructor
  intro pins s σ H Q I h
  show wpAny _ _ (isTrue c X.env (eval c X.env) >>= _) _ _ s
  refine wpAny_bind (thn (hc.run pins s σ H _ I h) ?_)
  rintro k s1 ⟨H1, I1, q1⟩
  cases k with
  | true => exact ha.run pins s1 σ H1 Q I1 q1
  | false => exact hb.run pins s1 σ H1 Q I1 q1
theorem ife_ok {c a b : Slots → Sto → Rs AV} {σ : L2.St} {H : Hp} {Q : VK} (h : tI w X.K E (fun σ s => (c σ s).bd fun x s => (opt (truth s x) s).bd fun k s => if k then a σ s else b σ s) σ H Q) :
    tIf (tTr w X.K E c) (tI w X.K E a) (tI w X.K E b) σ H Q := by
  obtain ⟨ρ, sl, s, st, sr, o⟩ := h
  refine ⟨ρ, sl, s, st, sr, ?_⟩
  cases ea : c sl s with
  | bad => simp only [ea, Rs.bd] at o; exact False.elim o
  | exc x s1 => simp only [ea, Rs.bd] at o ⊢; exact o
  | ok x s1 =>
    simp only [ea, Rs.bd] at o ⊢
    cases e : truth s1 x with
    | none => simp only [e, opt, Rs.bd] at o; exact False.elim o
    | some c =>
      simp only [e, opt, Rs.bd] at o ⊢
      intro ρ' H' b' g st' eb
      cases eb
      cases c with
      | true => exact ⟨ρ', sl, s1, st', sr.go g, Out.up o g⟩
      | false => exact ⟨ρ', sl, s1, st', sr.go g, Out.up o g⟩
theorem tife_ok {c a b : Slots → Sto → Rs AV} {σ : L2.St} {H : Hp} {Q : Bool → Hp → Prop} (h : tTr w X.K E (fun σ s => (c σ s).bd fun x s => (opt (truth s x) s).bd fun k s => if k then a σ s else b σ s) σ H Q) :
    tTr w X.K E c σ H fun k H1 => if k = true then tTr w X.K E a σ H1 Q else tTr w X.K E b σ H1 Q := by
  obtain ⟨ρ, sl, s, st, sr, o⟩ := h
  refine ⟨ρ, sl, s, st, sr, ?_⟩
  cases ea : c sl s with
  | bad => simp only [ea, Rs.bd] at o; exact False.elim o
  | exc x s1 => simp only [ea, Rs.bd] at o ⊢; exact o
  | ok x s1 =>
    simp only [ea, Rs.bd] at o ⊢
    cases e : truth s1 x with
    | none => simp only [e, opt, Rs.bd] at o; exact False.elim o
    | some c =>
      simp only [e, opt, Rs.bd] at o ⊢
      intro ρ' H' b' g st' eb
      cases eb
      cases c with
      | true => exact ⟨ρ', sl, s1, st', sr.go g, Out.up o g⟩
      | false => exact ⟨ρ', sl, s1, st', sr.go g, Out.up o g⟩
theorem chain_ok {o p : CO} {a b c : Slots → Sto → Rs AV} {σ : L2.St} {H : Hp} {Q : VK} (h : tI w X.K E (fun σ s => (a σ s).bd fun x s => (b σ s).bd fun y s => (opt (opCmp o x y s) s).bd fun k s =>
      if k then (c σ s).bd fun z s => opt ((opCmp p y z s).map .bl) s else .ok (.bl false) s) σ H Q) :
    tChain (rCmp X.K o) (rCmp X.K p) (tI w X.K E a) (tI w X.K E b) (tI w X.K E c) σ H Q := by
  obtain ⟨ρ, sl, s, st, sr, o1⟩ := h
  refine ⟨ρ, sl, s, st, sr, Out.bd o1 ?_⟩
  intro x s1 ρ1 H1 v _ g1 st1 r1 o2
  refine ⟨ρ1, sl, s1, st1, sr.go g1, Out.bd o2 ?_⟩
  intro y s2 ρ2 H2 u _ g2 st2 r2 o3
  cases e : opCmp o x y s2 with
  | none => rw [e] at o3; exact o3.elim
  | some k =>
    rw [e] at o3
    refine ⟨ρ2, s2, x, y, k, st2, r1.go g2, r2, e, k, rfl, ?_⟩
    cases k with
    | false => exact Out.now (a := AV.bl false) (s := s2) o3 st2 (.bl _)
    | true =>
      have o4 : Out X.K w.xc E ρ2 H2 (Rp X.K) ((c sl s2).bd fun z s => opt ((opCmp p y z s).map .bl) s) Q := o3
      refine ⟨ρ2, sl, s2, st2, (sr.go g1).go g2, Out.bd o4 ?_⟩
      intro z s3 ρ3 H3 t _ g3 st3 r3 o5
      cases e2 : opCmp p y z s3 with
      | none => rw [e2] at o5; exact o5.elim
      | some b =>
        rw [e2] at o5
        exact ⟨ρ3, s3, y, z, b, st3, r2.go g3, r3, e2, Out.now (a := AV.bl b) (s := s3) o5 st3 (.bl _)⟩
end
end Jp


set_option Elab.async false
set_option linter.all false
set_option maxRecDepth 100000
set_option maxHeartbeats 4000000
namespace Jp
open PySem PySem.Spec PyProof.Rows L2
variable [Tb] [Cb]
theorem b2 {a b : Bool} (h : (a && b) = true) : a = true ∧ b = true := Bool.and_eq_true_iff.mp h
section
variable {w : Wd} {T : Nat → Nat → List AV → Sto → Rs AV} {k g n : Nat} {E : XK} {X : Cx}
theorem RpL.goL {K : PySem.W.Frag} {ρ ρ' : List Addr} {H H' : Hp} {v : List V} {d : List AV} (r : RpL K ρ H v d) (g : Go ρ H ρ' H') : RpL K ρ' H' v d := RpL.up g.le g.g _ _ r

/-! ### a call's form -/
theorem meth_form {o : Expr} {m : Str} {apos pos : Pos} {args : List Expr} {env : Env} (hb : attributeBase o m env (eval o env) = eval o env)
    (hf : methodCallForm (args.length + ([] : List Keyword).length) (backTo pos (starEach args env)) (backToKw pos (keywordEach [] env)) = true) (hl : (apos.endLine == pos.line) = true) :
    eval (.Call (.Attribute o m apos) args [] pos) env = (do
      let ov ← eval o env
      standAt apos.atName
      let (f, first) ← holding [ov] (getMethod ov m (do return (← importBound o env).getD true))
      callWith pos f first (backTo pos (starEach args env)) (backToKw pos (keywordEach [] env))) := by
  rw [arm_eval_Call, hb]
  unfold methodCall methodCallPos calleeOf
  rw [hf, hl] <;> rfl
theorem args_ok {pos : Pos} {env : Env} {N fn : List Str} {cn : Nm} {sc : Scope} : ∀ {irs : List IE} {es : List Expr}, all2 (mt N fn cn n sc) irs es = true → (backTo pos (starEach es env)).all (fun x => !x.1) = true
  | [], [], _ => rfl
  | ir :: irs, e :: es, h => by
    obtain ⟨h1, h2⟩ := b2 h
    rw [star_plain h1]
    exact Bool.and_eq_true_iff.mpr ⟨rfl, args_ok h2⟩
theorem form_ok {pos : Pos} {env : Env} {N fn : List Str} {cn : Nm} {sc : Scope} {irs : List IE} {es : List Expr} (h : all2 (mt N fn cn n sc) irs es = true) (hl : es.length < 20) :
    methodCallForm (es.length + ([] : List Keyword).length) (backTo pos (starEach es env)) (backToKw pos (keywordEach [] env)) = true := by
  unfold methodCallForm
  rw [args_ok h]
  simp [backToKw, keywordEach]
  omega

/-! ### an instance's field -/
theorem fld_read {a : Slots → Sto → Rs AV} {f : Str} {σ : L2.St} {H : Hp} {Q : VK} (G : Gd w T k g E X) (h : tI w X.K E (fun σ s => (a σ s).bd fun x s => (match x with
      | .ref k => (match s[k]? with
        | some (.ins c fs) => (match w.C.k[c]? with
          | some ci => if f ∈ ci.fl then opt (fs.lookup f) s else .bad
          | none => .bad)
        | _ => .bad)
      | _ => .bad)) σ H Q) : tFld X.K (tI w X.K E a) f σ H Q := by
  obtain ⟨ρ, sl, s, st, sr, o⟩ := h
  refine ⟨ρ, sl, s, st, sr, Out.bd o ?_⟩
  intro x s1 ρ1 H1 v _ g1 st1 r1 o1
  split at o1
  · split at o1
    · rename_i c fs hs
      split at o1
      · rename_i ci hc
        split at o1
        · rename_i hf
          obtain ⟨d, hd, o2⟩ := Out.opt o1
          cases r1 with
          | ref p =>
            obtain ⟨dx, gs, h1, h2⟩ := st1.atI p hs
            obtain ⟨u, hu, ru⟩ := h2.get hd
            obtain ⟨k1, k2, _⟩ := G.kl c ci hc
            exact ⟨_, _, dx, gs, u, rfl, h1, k1, k2 f hf, hu, Out.now o2 st1 ru⟩
        · exact o1.elim
      · exact o1.elim
    · exact o1.elim
  · exact o1.elim
theorem fld_ok (S : SnE w T k n) (G : Gd w T k g E X) {o : Expr} {f : Str} {pos : Pos} {a : IE} (hb : bare o = false) (h : mt w.N w.fn w.cn n X.env.scope a o = true) : PE X (.Attribute o f pos) (tI w X.K E (ev T w g (n + 1) (.fld a f))) :=
  PE.of (pe_fld (S g E X G a o h) (attr_base hb)) fun σ H Q hq => fld_read G hq

/-! ### a method's call -/
theorem meth_ok (S : SnE w T k n) (G : Gd w T k g E X) {o : Expr} {m : Str} {apos pos : Pos} {xs : List Expr} {a : IE} {es : List IE} {d : Nat} (hb : bare o = false) (hl : (apos.endLine == pos.line) = true) (hx : xs.length < 20) (h : mt w.N w.fn w.cn n X.env.scope a o = true)
    (hs : all2 (mt w.N w.fn w.cn n X.env.scope) es xs = true) : PE X (.Call (.Attribute o m apos) xs [] pos) (tI w X.K E (ev T w g (n + 1) (.meth a m es d))) := by
  constructor
  rintro pins s σ H Q I ⟨ρ, sl, s0, st, sr, o0⟩
  have ea := S g E X G a o h
  have PAs : PA X xs (tIs w X.K E (evs (ev T w g n) es)) := pa_all (fun ir e q => S g E X G ir e q) es xs hs
  refine PySem.W.methodCall_KW (pl := (do return (← importBound o X.env).getD true)) ?_ (meth_form (attr_base hb) (form_ok hs hx) hl)
  refine thn (ea.run pins s σ H (fun x H1 => ∃ ρ1 s1 y, StR X.K ρ1 H1 s1 ∧ SlR X.K ρ1 H1 σ sl ∧ Rp X.K ρ1 H1 x y ∧ Out X.K w.xc E ρ1 H1 (Rp X.K) (match y with
      | .ref k => (match s1[k]? with
        | some (.ins c fs) => (match w.C.k[c]? with
          | some ci => (match ci.ms.lookup m with
            | some f => (match fs.lookup m, w.C.df[f]? with
              | none, some df => (evs (ev T w g n) es sl s1).bd fun xs s => T (4 * g) f (.ref k :: (xs ++ df.drop d)) s
              | _, _ => .bad)
            | none => .bad)
          | none => .bad)
        | _ => .bad)
      | _ => .bad) Q) I ⟨ρ, sl, s0, st, sr, Out.bd o0 fun y s1 ρ1 H1 v _ g1 st1 r1 o1 => ⟨ρ1, s1, y, st1, sr.go g1, r1, o1⟩⟩) ?_
  rintro u s1' ⟨x, H1, I1, rx, ρ1, s1, y, st1, sr1, r1, o1⟩
  split at o1
  · rename_i kk
    split at o1
    · rename_i c fs hsx
      split at o1
      · rename_i ci hc
        split at o1
        · rename_i f hf
          split at o1
          · rename_i df hn hdf
            cases r1 with
            | @ref p _ hp =>
              obtain rfl : u = Value.ref p := rx
              obtain ⟨dx, gs, h1, h2⟩ := st1.atI hp hsx
              obtain ⟨k1, k2, k3⟩ := G.kl c ci hc
              obtain ⟨fa, fd, ps, us0, vs0, hm, hbd, hv0, hr0, F⟩ := k3 m f d (4 * g) df hf hdf
              refine getmeth_ok I1 h1 k1 hm (h2.none hn) ?_
              have fin : ∀ (us : List Value) (vs : List V) (H2 : Hp) (s2 : Shared) (ρ2 : List Addr) (t : Sto) (ds : List AV), L2.Inv X pins σ H2 s2 → Vals vs us → StR X.K ρ2 H2 t → Rp X.K ρ2 H2 (.ref p) (.ref kk) → RpL X.K ρ2 H2 vs ds →
                  Out X.K w.xc E ρ2 H2 (Rp X.K) (T (4 * g) f (.ref kk :: (ds ++ df.drop d)) t) Q → wpAny (model X.prog X.w) X.A (call (.ref fa) ([.ref p] ++ us)) (EP X pins σ Q) X.xe s2 := by
                intro us vs H2 s2 ρ2 t ds I2 rv st2 rp rl o2
                have r3 : Vals (V.ref p :: (vs ++ vs0)) (Value.ref p :: (us ++ us0)) := .cons rfl (rv.append hv0)
                have hsp : spI X.K w.xc (T (4 * g) f) (V.ref p :: (vs ++ vs0)) H2 Q E := ⟨ρ2, t, _, st2, .cons rp (rl.app (hr0 ρ2 H2)), o2⟩
                have hlen : ((Value.ref p :: us) ++ us0).length = ps.length := by
                  have e1 := F.len _ _ _ _ hsp
                  rw [r3.length] at e1
                  exact e1
                have b := hbd s2 (Value.ref p :: us) I2.kIn hlen
                refine wpAny_call (codeAny_mono (F.run X.A X.stack s2 H2 ⟨Value.ref p :: us, []⟩ (Value.ref p :: (us ++ us0)) _ _ E G.rg.rm I2.env0 b r3 hsp) ?_)
                intro r s' hq
                match r, hq with
                | .error e, hq => exact G.ps pins σ H2 s2 e s' I2 hq
                | .ok (.ret u), hq => exact I2.after hq
              cases xs with
              | nil =>
                cases es with
                | cons _ _ => cases hs
                | nil => exact PySem.W.callWith_K0 (first := [.ref p]) I1.kIn hm.kp (fin [] [] H1 s1' ρ1 s1 [] I1 .nil st1 (.ref hp) .nil o1)
              | cons z zs =>
                cases es with
                | nil => cases hs
                | cons e0 es0 =>
                  obtain ⟨h5, h6⟩ := b2 hs
                  refine PySem.W.callWith_K (first := [.ref p]) (h₀ := X.base) I1.ok.mod.kin hm.kp (thn (PAs.run pos pins s1' σ H1 _ I1 ⟨ρ1, sl, s1, st1, sr1, Out.bd o1 fun ds t ρ2 H2 vs _ g2 st2 r2 o2 => (⟨ρ2, t, ds, st2, g2.le _ _ hp, r2, o2⟩ : ∃ ρ2 t ds, StR X.K ρ2 H2 t ∧ ρ2[kk]? = some p ∧ RpL X.K ρ2 H2 vs ds ∧ Out X.K w.xc E ρ2 H2 (Rp X.K) (T (4 * g) f (.ref kk :: (ds ++ df.drop d)) t) Q)⟩) ?_) (star_plain h5) (args_plain h6)
                  rintro us s2 ⟨vs, H2, I2, r2, ρ2, t, ds, st2, hp2, rl2, o2⟩
                  exact ⟨I2.kIn, fin us vs H2 s2 ρ2 t ds I2 r2 st2 (.ref hp2) rl2 o2⟩
          · exact o1.elim
        · exact o1.elim
      · exact o1.elim
    · exact o1.elim
  · exact o1.elim
end
end Jp


set_option Elab.async false
set_option linter.all false
set_option maxRecDepth 100000
set_option maxHeartbeats 4000000
namespace Jp
open PySem PySem.Spec PyProof.Rows L2
variable [Tb] [Cb]
section
variable {w : Wd} {T : Nat → Nat → List AV → Sto → Rs AV} {k g n : Nat} {E : XK} {X : Cx}
theorem Rm.make {k g : Nat} {A : Around} (r : Rm k (4 * g) A) (hg : g ≤ 3) (C : Addr) (us : List Value) (kw : List (Str × Value)) : Rm k (4 * (g + 1)) (A.under (.builtin "type.__call__" ⟨.ref C :: us, kw⟩)) :=
  ⟨r.h, by
    have h := r.g
    first
      | exact h
      | simpa [Around.under, Code.isGuard, guardIds] using h, by omega, by
    have := r.d
    rw [make_depth]
    omega, by
    have := r.u
    rw [make_units]
    omega⟩
/-- a new instance, over the heap -/
theorem make_go {K : PySem.W.Frag} {ρ : List Addr} {H : Hp} {s : Sto} {x dx : Addr} {c : Nat} (st : StR K ρ H s) (hx : H x = none) (hd : H dx = none) (ne : dx ≠ x) :
    Go ρ H (ρ ++ [x]) (upd (upd H dx (.own x)) x (.ins (Tb.ca c) dx [])) ∧ StR K (ρ ++ [x]) (upd (upd H dx (.own x)) x (.ins (Tb.ca c) dx [])) (s ++ [.ins c []]) ∧ Rp K (ρ ++ [x]) (upd (upd H dx (.own x)) x (.ins (Tb.ca c) dx [])) (.ref x) (.ref s.length) := by
  have keep : ∀ a u, H a = some u → (upd (upd H dx (.own x)) x (.ins (Tb.ca c) dx [])) a = some u := fun a u e => by
    rw [upd_ne (ne_of_none e hx), upd_ne (ne_of_none e hd)]
    exact e
  have g : Gr H (upd (upd H dx (.own x)) x (.ins (Tb.ca c) dx [])) := ⟨fun a xs e => keep _ _ e, fun a o u e => keep _ _ e⟩
  refine ⟨⟨Le.app _ _, g, fun a o e na _ => ⟨keep _ _ e, fun z => ?_⟩⟩, st.newO hx g keep ⟨dx, [], upd_same, trivial⟩⟩
  rw [List.mem_append, List.mem_singleton] at z
  rcases z with z | z
  · exact na z
  · exact ne_of_none e hx z
theorem make_fin (G : Gd w T k g E X) {c f : Nat} {x : Str} {ci : CI} (hx : w.cn.k[c]? = some x) (hc : w.C.k[c]? = some ci) (hf : ci.ini = some f) (hg : g ≤ 3) {us : List Value} {vs : List V} {H2 : Hp} {s2 : Shared} {ρ2 : List Addr} {t : Sto} {ds : List AV} {pins : List (Addr × Obj)} {σ : L2.St} {Q : VK}
    (I2 : L2.Inv X pins σ H2 s2) (rv : Vals vs us) (st2 : StR X.K ρ2 H2 t) (rl : RpL X.K ρ2 H2 vs ds)
    (o2 : Out X.K w.xc E ρ2 H2 (Rp X.K) ((T (4 * (g + 1)) f (.ref t.length :: ds) (t ++ [.ins c []])).bd fun v s2 => (match v with
          | .non => .ok (.ref t.length) s2
          | _ => .bad)) Q) : wpAny (model X.prog X.w) X.A (call (.ref (Tb.ca c)) us) (EP X pins σ Q) X.xe s2 := by
  obtain ⟨hm, a, fd, ps, M, hb, F⟩ := G.ma c x ci f (4 * (g + 1)) hx hc hf
  have hq : ∀ x dx, H2 x = none → H2 dx = none → dx ≠ x → spI X.K w.xc (T (4 * (g + 1)) f) (V.ref x :: vs) (upd (upd H2 dx (.own x)) x (.ins (Tb.ca c) dx [])) (fun v H3 => v = .non ∧ Q (.ref x) H3) E := by
    intro x dx h1 h2 ne
    obtain ⟨g1, st3, r3⟩ := make_go (c := c) st2 h1 h2 ne
    refine ⟨ρ2 ++ [x], t ++ [.ins c []], .ref t.length :: ds, st3, .cons r3 (rl.go g1), ?_⟩
    refine Out.bd (Out.up o2 g1) ?_
    intro v s4 ρ4 H4 u _ g4 st4 r4 o4
    split at o4
    · cases r4
      refine ⟨rfl, Out.now (a := AV.ref t.length) (s := s4) o4 st4 (r3.go g4)⟩
    · exact o4.elim
  have h1 := hq (s2.heap.objs.size + 1) s2.heap.objs.size (I2.hok.fresh (Nat.le_succ _)) (I2.hok.fresh (Nat.le_refl _)) (Nat.ne_of_lt (Nat.lt_succ_self _))
  have I3 := Inv.made (C := Tb.ca c) I2
  have r2 : Vals (V.ref (s2.heap.objs.size + 1) :: vs) (Value.ref (s2.heap.objs.size + 1) :: us) := .cons rfl rv
  have hl : ((Value.ref (s2.heap.objs.size + 1) :: us) ++ []).length = ps.length := by
    have e := F.len _ _ _ _ h1
    rw [r2.length] at e
    rw [List.append_nil]
    exact e
  have b := hb ⟨(s2.heap.push PySem.W.emptyDict).push (PySem.W.instObj (Tb.ca c) s2.heap.objs.size), s2.gens, s2.drawn, s2.toks, s2.os⟩ (Value.ref (s2.heap.objs.size + 1) :: us) I3.kIn hl
  rw [List.append_nil] at b
  refine wpAny_call (make_map (f := a) I2.kIn M.makes M.init (beq_iff_eq.mp M.fn) (codeAny_mono (F.run _ X.stack _ _ ⟨Value.ref (s2.heap.objs.size + 1) :: us, []⟩ (Value.ref (s2.heap.objs.size + 1) :: us) _ _ E (G.rg.rm.make hg (Tb.ca c) us [])
    (I3.env0.make (Tb.ca c) us []) b r2 h1) fun r s' hq' => ?_))
  match r, hq' with
  | .error e, hq' => exact G.ps pins σ _ _ e s' I3 hq'
  | .ok (.ret u), hq' =>
    obtain ⟨v, H', I4, rv', ev, q3⟩ := I3.after hq'
    subst ev
    exact ⟨rv', ⟨V.ref (s2.heap.objs.size + 1), H', I4, rfl, q3⟩⟩
theorem make_ok (S : SnE w T k n) (G : Gd w T k g E X) {x : Str} {p pos : Pos} {xs : List Expr} {es : List IE} {c : Nat} (hx : w.cn.k[c]? = some x) (hgl : glB X.env.scope x = true) (hs : all2 (mt w.N w.fn w.cn n X.env.scope) es xs = true) :
    PE X (.Call (.Name x p) xs [] pos) (tI w X.K E (ev T w g (n + 1) (.make c es))) := by
  obtain ⟨v1, v2, v3⟩ := gl_of hgl
  constructor
  rintro pins s σ H Q I ⟨ρ, sl, s0, st, sr, o0⟩
  have PAs : PA X xs (tIs w X.K E (evs (ev T w g n) es)) := pa_all (fun ir e q => S g E X G ir e q) es xs hs
  have o1 : Out X.K w.xc E ρ H (Rp X.K) (match w.C.k[c]? with
      | some ci => (match ci.ini with
        | some f => if g ≤ 3 then (evs (ev T w g n) es sl s0).bd fun xs s => (T (4 * (g + 1)) f (.ref s.length :: xs) (s ++ [.ins c []])).bd fun v s2 => (match v with
          | .non => .ok (.ref s.length) s2
          | _ => .bad) else .bad
        | none => .bad)
      | none => .bad) Q := o0
  split at o1
  · rename_i ci hc
    split at o1
    · rename_i f hf
      split at o1
      · rename_i hg
        obtain ⟨hm, _, _, _, M, _, _⟩ := G.ma c x ci f 0 hx hc hf
        refine wpAny_Call_Name_kw (ld_glob I v1 hm ?_ v2)
        cases xs with
        | nil =>
          cases es with
          | cons _ _ => cases hs
          | nil => exact PySem.W.callWith_K0 I.kIn M.kp (make_fin G hx hc hf hg I .nil st .nil o1)
        | cons z zs =>
          cases es with
          | nil => cases hs
          | cons e0 es0 =>
            obtain ⟨h5, h6⟩ := b2 hs
            refine PySem.W.callWith_K (h₀ := X.base) I.ok.mod.kin M.kp (thn (PAs.run pos pins s σ H (fun vs H2 => ∃ ρ2 t ds, StR X.K ρ2 H2 t ∧ RpL X.K ρ2 H2 vs ds ∧ Out X.K w.xc E ρ2 H2 (Rp X.K) ((T (4 * (g + 1)) f (.ref t.length :: ds) (t ++ [.ins c []])).bd fun v s2 => (match v with
              | .non => .ok (.ref t.length) s2
              | _ => .bad)) Q) I ⟨ρ, sl, s0, st, sr, Out.bd o1 fun ds t ρ2 H2 vs _ g2 st2 r2 o2 => ⟨ρ2, t, ds, st2, r2, o2⟩⟩) ?_) (star_plain h5) (args_plain h6)
            rintro us s2 ⟨vs, H2, I2, r2, ρ2, t, ds, st2, rl2, o2⟩
            exact ⟨I2.kIn, make_fin G hx hc hf hg I2 r2 st2 rl2 o2⟩
      · exact o1.elim
    · exact o1.elim
  · exact o1.elim

/-! ### the module's dicts -/
theorem pe_gl (G : Gd w T k g E X) {z : Str} {p : Pos} {a : Addr} (hgl : glB X.env.scope z = true) (hm : X.mg z = some (.ref a)) : PE X (.Name z p) (tC (V.ref a)) := by
  obtain ⟨v1, v2, v3⟩ := gl_of hgl
  exact pe_glob v1 hm rfl v2
theorem cget_ok (S : SnE w T k n) (G : Gd w T k g E X) {z : Str} {p pos : Pos} {y : Expr} {d : Nat} {a : IE} (hz : w.cn.d[d]? = some z) (hgl : glB X.env.scope z = true) (h : mt w.N w.fn w.cn n X.env.scope a y = true) :
    PE X (.Subscript (.Name z p) y pos) (tI w X.K E (ev T w g (n + 1) (.cget d a))) := by
  cases hd : w.C.d[d]? with
  | none =>
    constructor
    rintro pins s σ H Q I ⟨ρ, sl, s0, st, sr, o0⟩
    exfalso
    have o1 : Out X.K w.xc E ρ H (Rp X.K) (match w.C.d[d]? with
      | some kvs => (ev T w g n a sl s0).bd fun x s => (match x with
        | .str z => opt (kvs.lookup z) s
        | _ => .bad)
      | none => .bad) Q := o0
    rw [hd] at o1
    exact o1
  | some kvs =>
    obtain ⟨pa, es, m, hm, D, hk⟩ := G.dn d z kvs hz hd
    have one := pe_gl (p := p) G hgl hm
    refine PE.of (pe_ix ix_kdict one (S g E X G a y h) (plain_ix h)) ?_
    rintro σ H Q ⟨ρ, sl, s0, st, sr, o0⟩
    have o1 : Out X.K w.xc E ρ H (Rp X.K) (match w.C.d[d]? with
      | some kvs => (ev T w g n a sl s0).bd fun x s => (match x with
        | .str z => opt (kvs.lookup z) s
        | _ => .bad)
      | none => .bad) Q := o0
    rw [hd] at o1
    refine ⟨ρ, sl, s0, st, sr, Out.bd o1 ?_⟩
    intro x s1 ρ1 H1 v _ g1 st1 r1 o2
    split at o2
    · rename_i zz _
      obtain ⟨dv, hl, o3⟩ := Out.opt o2
      have q := hk zz
      rw [hl] at q
      obtain ⟨u, v0, q1, q2, q3⟩ := q
      cases r1
      exact ⟨pa, zz, v0, rfl, rfl, ⟨es, m, u, D.at_, D.lit, q1, q2⟩, Out.now o3 st1 (q3 ρ1 H1)⟩
    · exact o2.elim
theorem cin_ok (S : SnE w T k n) (G : Gd w T k g E X) {z : Str} {p pos : Pos} {y : Expr} {d : Nat} {a : IE} {neg : Bool} {op : CmpOp} (hz : w.cn.d[d]? = some z) (hgl : glB X.env.scope z = true) (hop : coB (if neg then .notin else .in_) op = true) (h : mt w.N w.fn w.cn n X.env.scope a y = true) :
    PE X (.Compare y [op] [.Name z p] pos) (tI w X.K E (ev T w g (n + 1) (.cin neg d a))) := by
  have red : ∀ {ρ : List Addr} {sl : Slots} {s0 : Sto} {H : Hp} {Q : VK}, Out X.K w.xc E ρ H (Rp X.K) (ev T w g (n + 1) (.cin neg d a) sl s0) Q → Out X.K w.xc E ρ H (Rp X.K) (match w.C.d[d]? with
      | some kvs => (ev T w g n a sl s0).bd fun x s => (match x with
        | .str z => .ok (.bl (if neg then (kvs.lookup z).isNone else (kvs.lookup z).isSome)) s
        | _ => .bad)
      | none => .bad) Q := fun o => o
  cases hd : w.C.d[d]? with
  | none =>
    constructor
    rintro pins s σ H Q I ⟨ρ, sl, s0, st, sr, o0⟩
    exfalso
    have o1 := red o0
    rw [hd] at o1
    exact o1
  | some kvs =>
    obtain ⟨pa, es, m, hm, D, hk⟩ := G.dn d z kvs hz hd
    have one := pe_gl (p := p) G hgl hm
    have key : ∀ (b : Bool), OpR X (compareOp op) (fun x y H Q => ∃ (z : Str) (r : Option Value), x = .str z ∧ y = .ref pa ∧ PySem.W.nsIn X.K pa z = some r ∧ Q (.bl (if neg then !r.isSome else r.isSome)) H) := fun _ => by
      cases neg with
      | true =>
        cases op <;> first | (cases hop; done) | skip
        exact op_notIn_kd D
      | false =>
        cases op <;> first | (cases hop; done) | skip
        exact op_in_kd D
    refine PE.of (pe_cmpR (key true) (S g E X G a y h) one (by first | rfl | (cases op <;> rfl))) ?_
    rintro σ H Q ⟨ρ, sl, s0, st, sr, o0⟩
    have o1 := red o0
    rw [hd] at o1
    refine ⟨ρ, sl, s0, st, sr, Out.bd o1 ?_⟩
    intro x s1 ρ1 H1 v _ g1 st1 r1 o2
    split at o2
    · rename_i zz _
      have q := hk zz
      cases r1
      cases hl : kvs.lookup zz with
      | none =>
        rw [hl] at q o2
        exact ⟨zz, none, rfl, rfl, q, by cases neg <;> exact Out.now o2 st1 (.bl _)⟩
      | some dv =>
        rw [hl] at q o2
        obtain ⟨u, v0, q1, q2, q3⟩ := q
        exact ⟨zz, some u, rfl, rfl, q1, by cases neg <;> exact Out.now o2 st1 (.bl _)⟩
    · exact o2.elim

/-! ### "x" + e.replace("y", "z") -/
theorem crep_ok (S : SnE w T k n) (G : Gd w T k g E X) {o : Expr} {a : IE} {x y z : Str} {j0 j1 j2 : Nat} {c0 c1 c2 apos cpos pos : Pos} (hb : bare o = false) (hl : (apos.endLine == cpos.line) = true) (h : mt w.N w.fn w.cn n X.env.scope a o = true) :
    PE X (.BinOp (.Constant (.str x) j0 c0) .Add (.Call (.Attribute o "replace" apos) [.Constant (.str y) j1 c1, .Constant (.str z) j2 c2] [] cpos) pos) (tI w X.K E (ev T w g (n + 1) (.crep x a y z))) := by
  constructor
  rintro pins s σ H Q I ⟨ρ, sl, s0, st, sr, o0⟩
  have o1 : Out X.K w.xc E ρ H (Rp X.K) (if (y == z) = false then (ev T w g n a sl s0).bd fun v s => (match v with
      | .str a => if a.length + (a.length + 1) * z.length ≤ 16777216 ∧ x.length + (Txt.replace a y z).length ≤ LINE then .ok (.str (x ++ Txt.replace a y z)) s else .bad
      | _ => .bad) else .bad) Q := o0
  split at o1
  · rename_i hyz
    refine wpAny_BinOp (Calls.Constant_str ?_)
    have pr := CwR.pet_replC (X := X) (z := z) (j := j1) (k := j2) (c0 := c1) (c1 := c2) (apos := apos) (pos := cpos) (S g E X G a o h) hyz rfl (attr_base hb) hl
    refine thn (pr pins _ σ H (fun v H1 => ∃ b, v = .str (Txt.replace b y z) ∧ x.length + (Txt.replace b y z).length ≤ LINE ∧ Q (.str (x ++ Txt.replace b y z)) H1) (by show 1 ≤ s.toks + 1; omega) (I.tok _) ⟨ρ, sl, s0, st, sr, Out.bd o1 ?_⟩) ?_
    · intro v s1 ρ1 H1 u _ g1 st1 r1 o2
      split at o2
      · rename_i b _
        split at o2
        · rename_i hc
          cases r1
          exact ⟨b, rfl, hc.1, b, rfl, hc.2, Out.now o2 st1 (.str _)⟩
        · exact o2.elim
      · exact o2.elim
    · rintro u s2 ⟨v, H2, I2, r2, b, rfl, hc, q⟩
      exact op_add_str pins s2 σ H2 (.str x) _ _ u Q I2 ⟨s.toks, rfl⟩ r2 ⟨_, _, rfl, rfl, fits_line hc, q⟩
  · exact o1.elim
end
end Jp


set_option Elab.async false
set_option linter.all false
set_option maxRecDepth 100000
set_option maxHeartbeats 4000000
namespace Jp
open PySem PySem.Spec PyProof.Rows L2
variable [Tb] [Cb]
/-! ### lists that nobody holds are locked -/
/-- the lists at L are locked -/
def Lkd (L : List Addr) (H H' : Hp) : Prop := ∀ b, (b ∈ L → ∃ o xs, H b = some (.lst xs) ∧ H' b = some (.frz o (.lst xs))) ∧ (b ∉ L → H' b = H b)
theorem lock_all {X : Cx} {pins : List (Addr × Obj)} {σ : L2.St} {s : Shared} : ∀ (L : List Addr) {H : Hp}, L2.Inv X pins σ H s → L.Nodup → (∀ a ∈ L, ∃ xs, H a = some (.lst xs)) → ∃ H', L2.Inv X pins σ H' s ∧ Lkd L H H'
  | [], H, I, _, _ => ⟨H, I, fun b => ⟨fun h => absurd h (by simp), fun _ => rfl⟩⟩
  | a :: L, H, I, nd, hl => by
    obtain ⟨xs, hx⟩ := hl a List.mem_cons_self
    obtain ⟨od, I1⟩ := I.lock hx trivial
    have na : a ∉ L := (List.nodup_cons.mp nd).1
    obtain ⟨H', I2, lk⟩ := lock_all L I1 (List.nodup_cons.mp nd).2 (fun b hb => by
      obtain ⟨ys, hy⟩ := hl b (List.mem_cons_of_mem _ hb)
      exact ⟨ys, by rw [upd_ne (show b ≠ a from fun z => na (by rw [← z]; exact hb))]; exact hy⟩)
    refine ⟨H', I2, fun b => ⟨fun hb => ?_, fun hb => ?_⟩⟩
    · by_cases e : b = a
      · subst e
        refine ⟨od, xs, hx, ?_⟩
        rw [(lk b).2 na, upd_same]
      · have hb2 : b ∈ L := by simpa [e] using hb
        obtain ⟨o, ys, h1, h2⟩ := (lk b).1 hb2
        rw [upd_ne e] at h1
        exact ⟨o, ys, h1, h2⟩
    · have h1 : b ≠ a := fun z => hb (by rw [z]; exact List.mem_cons_self)
      rw [(lk b).2 (fun z => hb (List.mem_cons_of_mem _ z)), upd_ne h1]
theorem pe_fz {X : Cx} {e : Expr} {t : TE} (h : PE X e t) : PE X e (fun σ H Q => t σ H fun x H1 => ∃ L : List Addr, L.Nodup ∧ (∀ a ∈ L, ∃ xs, H1 a = some (.lst xs)) ∧ ∀ H', Lkd L H1 H' → Q x H') := by
  constructor
  intro pins s σ H Q I hq
  refine thn (h.run pins s σ H _ I hq) ?_
  rintro u s1 ⟨x, H1, I1, r, L, nd, hl, q⟩
  obtain ⟨H', I2, lk⟩ := lock_all L I1 nd hl
  exact ⟨x, H', I2, r, q H' lk⟩
section
variable {K : PySem.W.Frag} {ρ ρ0 : List Addr} {H H' H0 : Hp} {s : Sto} {n : Nat}
def isLs : AO → Bool
  | .lst _ => true
  | _ => false
/-- where the lists numbered n or more stand -/
def lsA (ρ : List Addr) (s : Sto) (n : Nat) : List Addr := (((ρ.zip s).drop n).filter fun p => isLs p.2).map Prod.fst
theorem mem_lsA {a : Addr} : a ∈ lsA ρ s n ↔ ∃ k xs, n ≤ k ∧ ρ[k]? = some a ∧ s[k]? = some (.lst xs) := by
  unfold lsA
  rw [List.mem_map]
  constructor
  · rintro ⟨⟨b, o⟩, h, rfl⟩
    obtain ⟨h1, h2⟩ := List.mem_filter.mp h
    obtain ⟨i, hi⟩ := List.getElem?_of_mem h1
    rw [List.getElem?_drop] at hi
    obtain ⟨p1, p2⟩ := List.getElem?_zip_eq_some.mp hi
    cases o with
    | lst xs => exact ⟨n + i, xs, Nat.le_add_right _ _, p1, p2⟩
    | ins _ _ => cases h2
    | dct _ => cases h2
  · rintro ⟨k, xs, hk, h1, h2⟩
    refine ⟨(a, .lst xs), List.mem_filter.mpr ⟨?_, rfl⟩, rfl⟩
    have e : ((ρ.zip s).drop n)[k - n]? = some (a, .lst xs) := by
      rw [List.getElem?_drop, show n + (k - n) = k from by omega]
      exact List.getElem?_zip_eq_some.mpr ⟨h1, h2⟩
    exact List.mem_of_getElem? e
theorem lsA_sub : ∀ a ∈ lsA ρ s n, a ∈ ρ := fun a h => by
  obtain ⟨k, _, _, h1, _⟩ := mem_lsA.mp h
  exact List.mem_of_getElem? h1
theorem lsA_nodup (st : StR K ρ H s) : (lsA ρ s n).Nodup := by
  unfold lsA
  have e : (ρ.zip s).map Prod.fst = ρ := List.map_fst_zip (by rw [st.len]; exact Nat.le_refl _)
  have h : (((ρ.zip s).drop n).filter fun p => isLs p.2).map Prod.fst |>.Sublist ((ρ.zip s).map Prod.fst) := (List.filter_sublist.trans (List.drop_sublist _ _)).map _
  rw [e] at h
  exact st.nd.sublist h
theorem lsA_lst (st : StR K ρ H s) : ∀ a ∈ lsA ρ s n, ∃ xs, H a = some (.lst xs) := fun a h => by
  obtain ⟨k, xs, _, h1, h2⟩ := mem_lsA.mp h
  obtain ⟨ys, q, _⟩ := st.at h1 h2
  exact ⟨ys, q⟩
theorem gr_lk {L : List Addr} (lk : Lkd L H H') : Gr H H' := ⟨fun a xs e => by
  by_cases h : a ∈ L
  · obtain ⟨o, ys, h1, _⟩ := (lk a).1 h
    rw [e] at h1
    cases h1
  · rw [(lk a).2 h]; exact e, fun a o u e => by
  by_cases h : a ∈ L
  · obtain ⟨o, ys, h1, _⟩ := (lk a).1 h
    rw [e] at h1
    cases h1
  · rw [(lk a).2 h]; exact e⟩
theorem optAll_rp {f : AV → Option AV} {R : V → AV → Prop} {R2 : List V → List AV → Prop} (nil : R2 [] []) (cons : ∀ v d vs ds, R v d → R2 vs ds → R2 (v :: vs) (d :: ds)) (hf : ∀ d d' v, Rp K ρ H v d → f d = some d' → R v d') :
    ∀ (ds ds' : List AV) (vs : List V), RpL K ρ H vs ds → optAll f ds = some ds' → R2 vs ds'
  | [], _, _, r, h => by
    cases r
    cases h
    exact nil
  | d :: ds, ds', _, r, h => by
    cases r with
    | cons a b =>
      unfold optAll at h
      cases e1 : f d with
      | none => rw [e1] at h; cases h
      | some y =>
        rw [e1] at h
        cases e2 : optAll f ds with
        | none => rw [e2] at h; cases h
        | some zs =>
          rw [e2] at h
          cases h
          exact cons _ _ _ _ (hf _ _ _ a e1) (optAll_rp nil cons hf ds zs _ b e2)
theorem frz_ok (st : StR K ρ H s) (lk : Lkd (lsA ρ s n) H H') : ∀ (m : Nat) (d d' : AV) (v : V), Rp K ρ H v d → frzA s n m d = some d' → Rp K (ρ.take n) H' v d'
  | 0, _, _, _, _, h => by cases h
  | m + 1, d, d', v, r, h => by
    have g := gr_lk lk
    have all : ∀ (ds ds' : List AV) (vs : List V), RpL K ρ H vs ds → optAll (frzA s n m) ds = some ds' → RpL K (ρ.take n) H' vs ds' :=
      optAll_rp .nil (fun _ _ _ _ a b => .cons a b) (fun d d' v a b => frz_ok st lk m d d' v a b)
    cases r with
    | non => cases h; exact .non
    | bl b => cases h; exact .bl b
    | int i => cases h; exact .int i
    | str x => cases h; exact .str x
    | fn i => cases h; exact .fn i
    | @tup a xs ds q1 q2 =>
      have h2 : (optAll (frzA s n m) ds).map AV.tup = some d' := h
      cases q : optAll (frzA s n m) ds with
      | none => rw [q] at h2; cases h2
      | some es =>
        rw [q] at h2
        cases h2
        exact .tup (sqt_gr g q1) (all _ _ _ q2 q)
    | @lst a xs ds q1 q2 =>
      have h2 : (optAll (frzA s n m) ds).map AV.lst = some d' := h
      cases q : optAll (frzA s n m) ds with
      | none => rw [q] at h2; cases h2
      | some es =>
        rw [q] at h2
        cases h2
        exact .lst (q1.gr g) (all _ _ _ q2 q)
    | @ref a k q1 =>
      have h2 : (if k < n then some (AV.ref k) else (match s[k]? with
        | some (.lst xs) => (optAll (frzA s n m) xs).map .lst
        | _ => none)) = some d' := h
      split at h2
      · rename_i hk
        cases h2
        exact .ref (by rw [List.getElem?_take_of_lt hk]; exact q1)
      · rename_i hk
        split at h2
        · rename_i ds hs
          obtain ⟨xs, h3, h4⟩ := st.at q1 hs
          cases q : optAll (frzA s n m) ds with
          | none => rw [q] at h2; cases h2
          | some es =>
            rw [q] at h2
            cases h2
            obtain ⟨o, ys, p1, p2⟩ := (lk a).1 (mem_lsA.mpr ⟨k, ds, Nat.le_of_not_lt hk, q1, hs⟩)
            rw [h3] at p1
            cases p1
            exact .lst (.frz p2) (all _ _ _ h4 q)
        · cases h2
theorem FsR.lowX : ∀ {gs : List (Str × V)} {fs : List (Str × AV)}, lowL n (fs.map (·.2)) = true → FsR K ρ H gs fs → FsR K (ρ.take n) H gs fs
  | [], [], _, h => trivial
  | (a, v) :: gs, (b, d) :: fs, l, h => by
    have l2 : (lowA n d && lowL n (fs.map (·.2))) = true := by simpa only [List.map_cons, lowL] using l
    rw [Bool.and_eq_true] at l2
    exact ⟨h.1, Rp.low d v l2.1 h.2.1, FsR.lowX l2.2 h.2.2⟩
  | [], _ :: _, _, h => h.elim
  | _ :: _, [], _, h => h.elim
theorem settle_go (g : Go ρ0 H0 ρ H) (hn : n = ρ0.length) (st : StR K ρ H s) (lk : Lkd (lsA ρ s n) H H') (hl : (s.take n).all (lowO n) = true) : Go ρ0 H0 (ρ.take n) H' ∧ StR K (ρ.take n) H' (s.take n) := by
  have gr := gr_lk lk
  have out : ∀ j a, j < n → ρ[j]? = some a → H' a = H a := fun j a hj e => (lk a).2 fun z => by
    obtain ⟨k, _, hk, e2, _⟩ := mem_lsA.mp z
    have : j = k := by
      have h1 := (List.getElem?_eq_some_iff.mp e).1
      have h2 := (List.getElem?_eq_some_iff.mp e2).1
      have h3 : ρ[j] = ρ[k] := by rw [(List.getElem?_eq_some_iff.mp e).2, (List.getElem?_eq_some_iff.mp e2).2]
      exact (List.getElem_inj st.nd).mp h3
    omega
  refine ⟨⟨fun j a e => ?_, g.g.trans gr, fun a o e na nt => ?_⟩, ⟨by rw [List.length_take, List.length_take, st.len], st.nd.sublist (List.take_sublist _ _), st.tb.but (fun a u e hu => ?_), fun j a o e1 e2 => ?_⟩⟩
  · have hj : j < n := by rw [hn]; exact (List.getElem?_eq_some_iff.mp e).1
    rw [List.getElem?_take_of_lt hj]
    exact g.le j a e
  · obtain ⟨q1, q2⟩ := g.f a o e na nt
    exact ⟨by rw [(lk a).2 (fun z => q2 (lsA_sub a z))]; exact q1, fun z => q2 (List.mem_of_mem_take z)⟩
  · rw [(lk a).2 fun z => by
      obtain ⟨xs, q⟩ := lsA_lst st a z
      rw [e] at q
      cases q
      exact hu _ rfl]
    exact e
  · have hj : j < n := by
      have := (List.getElem?_eq_some_iff.mp e1).1
      rw [List.length_take] at this
      omega
    have hmem : o ∈ s.take n := List.mem_of_getElem? e2
    rw [List.getElem?_take_of_lt hj] at e1 e2
    have q := st.ob j a o e1 e2
    have lo := List.all_eq_true.mp hl o hmem
    have ho := out j a hj e1
    cases o with
    | lst ds =>
      obtain ⟨xs, p1, p2⟩ := q
      exact ⟨xs, by rw [ho]; exact p1, RpL.up (Le.refl _) gr _ _ (RpL.low ds xs (by simpa only [lowO] using lo) p2)⟩
    | ins c fs =>
      obtain ⟨dx, gs, p1, p2⟩ := q
      exact ⟨dx, gs, by rw [ho]; exact p1, (p2.lowX (by simpa only [lowO] using lo)).up (Le.refl _) gr⟩
    | dct kvs =>
      obtain ⟨gs, p1, p2⟩ := q
      exact ⟨gs, by rw [ho]; exact p1, (p2.low (by simpa only [lowO] using lo)).up (Le.refl _) gr⟩
end
section
variable {w : Wd} {T : Nat → Nat → List AV → Sto → Rs AV} {k g n : Nat} {E : XK} {X : Cx}
theorem callZ_ok {f : List AV → Sto → Rs AV} {ρ : List Addr} {H : Hp} {s : Sto} {vs : List V} {ds : List AV} {Q : VK} {K : PySem.W.Frag} {xc : List (Addr × List Str)} (st : StR K ρ H s) (r : RpL K ρ H vs ds) (o : Out K xc E ρ H (Rp K) (callZ f ds s) Q) :
    spI K xc f vs H (fun x H1 => ∃ L : List Addr, L.Nodup ∧ (∀ a ∈ L, ∃ xs, H1 a = some (.lst xs)) ∧ ∀ H', Lkd L H1 H' → Q x H') E := by
  unfold callZ at o
  split at o
  · rename_i hl
    refine ⟨[], [], ds, st.nil, RpL.any hl r, ?_⟩
    split at o
    · rename_i v s1 e
      rw [e]
      split at o
      · rename_i v2 hv
        intro ρ1 H1 b g1 st1 rb
        refine ⟨lsA ρ1 s1 0, lsA_nodup st1, lsA_lst st1, fun H' lk => ?_⟩
        obtain ⟨g2, st2⟩ := settle_go (n := 0) g1 rfl st1 lk (by simp)
        obtain ⟨g3, st3⟩ := Go.frame st g2 st2.tb
        have r2 := frz_ok st1 lk 60 v v2 b rb hv
        exact o ρ H' b g3 st3 (Rp.up (ρ := ρ1.take 0) (fun _ _ h => by simp at h) (Gr.refl _) _ _ r2)
      · exact o.elim
    · rename_i x s1 e
      rw [e]
      split at o
      · rename_i hv
        intro ρ1 H1 cls d g1 st1 rb
        obtain ⟨g2, st2⟩ := Go.frame st g1 st1.tb
        refine o ρ H1 cls d g2 st2 ?_
        obtain ⟨C, fs, z1, z2, z3⟩ := rb
        refine ⟨C, fs, z1, z2, z3.imp id fun ⟨dd, us, y1, y2, y3, y4⟩ => ⟨dd, us, y1, y2, RpL.any hv y3, y4⟩⟩
      · exact o.elim
    · exact o.elim
  · refine ⟨ρ, s, ds, st, r, ?_⟩
    cases e : f ds s with
    | bad => rw [e] at o; exact o.elim
    | exc x s1 => rw [e] at o; exact o
    | ok v s1 =>
      rw [e] at o
      have o2 : Out K xc E ρ H (Rp K) (match frzA s1 s.length 60 v with
        | some w => if (s1.take s.length).all (lowO s.length) then .ok w (s1.take s.length) else .bad
        | none => .bad) Q := o
      split at o2
      · rename_i v2 hv
        split at o2
        · rename_i hlow
          intro ρ1 H1 b g1 st1 rb
          refine ⟨lsA ρ1 s1 s.length, lsA_nodup st1, lsA_lst st1, fun H' lk => ?_⟩
          obtain ⟨g2, st2⟩ := settle_go g1 st.len st1 lk hlow
          exact o2 _ H' b g2 st2 (frz_ok st1 lk 60 v v2 b rb hv)
        · exact o2.elim
      · exact o2.elim
theorem callz_ok (S : SnE w T k n) (G : Gd w T k g E X) {x : Str} {p1 pos : Pos} {xs : List Expr} {f : Nat} {es : List IE} (h3 : w.fn[f]? = some x) (h4 : glB X.env.scope x = true) (h2 : all2 (mt w.N w.fn w.cn n X.env.scope) es xs = true) :
    PE X (.Call (.Name x p1) xs [] pos) (tI w X.K E (ev T w g (n + 1) (.callz f es))) := by
  obtain ⟨v1, v2, v3⟩ := gl_of h4
  have rm := G.rg.rm
  obtain ⟨a, fd, ps, m1, m2, m3, F⟩ := G.fn (4 * g) f x h3 (ne_of_gl h4)
  have PAs : PA X xs (tIs w X.K E (evs (ev T w g n) es)) := pa_all (fun ir e q => S g E X G ir e q) es xs h2
  cases xs with
  | nil =>
    cases es with
    | cons _ _ => cases h2
    | nil =>
      refine PE.of (pe_fz (pe_callG0 F rm v1 m1 m2 m3 G.ps v2)) ?_
      intro σ H Q hq
      obtain ⟨ρ, sl, s, st, sr, o⟩ := hq
      exact callZ_ok st .nil o
  | cons y ys =>
    cases es with
    | nil => cases h2
    | cons e0 es0 =>
      obtain ⟨h5, h6⟩ := b2 h2
      refine PE.of (pe_fz (pe_callG F rm v1 m1 m2 m3 G.ps PAs v2 (star_plain h5) (args_plain h6))) ?_
      rintro σ H Q ⟨ρ, sl, s, st, sr, o⟩
      refine ⟨ρ, sl, s, st, sr, Out.bd o ?_⟩
      intro ds s1 ρ1 H1 vs _ g1 st1 r1 o1
      exact callZ_ok st1 r1 o1
end
end Jp


set_option Elab.async false
set_option linter.all false
set_option maxRecDepth 100000
set_option maxHeartbeats 4000000
namespace Jp
open PySem PySem.Spec PyProof.Rows L2
variable [Tb] [Cb]
section
variable {w : Wd} {T : Nat → Nat → List AV → Sto → Rs AV} {k g n : Nat} {E : XK} {X : Cx}
/-! ### {"k": v, ..}.get(e, d) -/
def kvT (z : Str) : TE := tC (.str z)
theorem evs_len (f : IE → Slots → Sto → Rs AV) : ∀ (es : List IE) (σ : Slots) (s : Sto) (xs : List AV) {s1 : Sto}, evs f es σ s = .ok xs s1 → xs.length = es.length
  | [], _, _, _, _, h => by cases h; rfl
  | e :: r, σ, s, xs, s1, h => by
    unfold evs at h
    cases e1 : f e σ s with
    | bad => rw [e1] at h; cases h
    | exc _ _ => rw [e1] at h; cases h
    | ok x s2 =>
      rw [e1] at h
      have h : (evs f r σ s2).bd (fun xs s => Rs.ok (x :: xs) s) = .ok xs s1 := h
      cases e2 : evs f r σ s2 with
      | bad => rw [e2] at h; cases h
      | exc _ _ => rw [e2] at h; cases h
      | ok ys s3 =>
        rw [e2] at h
        cases h
        rw [List.length_cons, List.length_cons, evs_len f r σ s2 ys e2]
/-- what stands of the keys and what was made for them -/
theorem pps_ok {pos : Pos} (ih : ∀ ir e, mt w.N w.fn w.cn n X.env.scope ir e = true → PE X e (tI w X.K E (ev T w g n ir))) : ∀ (ks : List Str) (vs : List IE) (keys : List (Option Expr)) (values : List Expr), all2 keyB ks keys = true → all2 (mt w.N w.fn w.cn n X.env.scope) vs values = true → ks.length = vs.length →
    PPs X pos keys values ((ks.map kvT).zip (vs.map fun ir => tI w X.K E (ev T w g n ir)))
  | [], [], [], [], _, _, _ => pps_nil
  | z :: ks, ir :: vs, o :: keys, e :: values, h1, h2, hl => by
    obtain ⟨a1, a2⟩ := b2 h1
    obtain ⟨c1, c2⟩ := b2 h2
    have q := pps_ok (pos := pos) ih ks vs keys values a2 c2 (by simpa using hl)
    cases o with
    | none => cases a1
    | some kx =>
      cases kx <;> first | (cases a1; done) | skip
      rename_i c j p
      cases c <;> first | (cases a1; done) | skip
      rename_i y
      have ey : z = y := of_decide_eq_true a1
      subst ey
      exact pps_cons pe_str (ih ir e c1) q
  | [], _ :: _, _, _, _, _, h => by cases h
  | _ :: _, [], _, _, _, _, h => by cases h
  | [], [], _ :: _, _, h, _, _ => by cases h
  | [], [], [], _ :: _, _, h, _ => by cases h
  | _ :: _, _ :: _, [], _, h, _, _ => by cases h
  | _ :: _, _ :: _, _ :: _, [], _, h, _ => by cases h
theorem tpairs_ok {σ : L2.St} {sl : Slots} : ∀ (ks : List Str) (vs : List IE) (ρ : List Addr) (H : Hp) (s : Sto) (Q : List (V × V) → Hp → Prop), ks.length = vs.length → StR X.K ρ H s → SlR X.K ρ H σ sl →
    Out X.K w.xc E ρ H (RpL X.K) (evs (ev T w g n) vs sl s) (fun us H1 => Q ((ks.zip us).map fun p => (V.str p.1, p.2)) H1) → tPairs ((ks.map kvT).zip (vs.map fun ir => tI w X.K E (ev T w g n ir))) σ H Q
  | [], [], ρ, H, s, Q, _, st, sr, o => Out.now (a := ([] : List AV)) (s := s) (b := ([] : List V)) o st .nil
  | z :: ks, ir :: vs, ρ, H, s, Q, hl, st, sr, o => by
    show tI w X.K E (ev T w g n ir) σ H _
    refine ⟨ρ, sl, s, st, sr, Out.bd o ?_⟩
    intro d s1 ρ1 H1 v _ g1 st1 r1 o1
    refine tpairs_ok ks vs ρ1 H1 s1 _ (by simpa using hl) st1 (sr.go g1) (Out.bd o1 ?_)
    intro ds s2 ρ2 H2 us _ g2 st2 r2 o2
    exact Out.now (b := v :: us) o2 st2 (.cons (r1.go g2) r2)
  | [], _ :: _, _, _, _, _, h, _, _, _ => by cases h
  | _ :: _, [], _, _, _, _, h, _, _, _ => by cases h
theorem merge_nodup : ∀ (kvs acc : List (Key × V)), ((acc ++ kvs).map (·.1)).Nodup → mergeK acc kvs = acc ++ kvs
  | [], acc, _ => by simp [mergeK]
  | p :: kvs, acc, h => by
    have hp : valV acc p.1 = none := by
      unfold valV
      rw [Option.map_eq_none_iff, List.find?_eq_none]
      intro q hq e
      have e2 : q.1 = p.1 := by simpa using e
      rw [List.map_append, List.nodup_append] at h
      exact h.2.2 q.1 (List.mem_map_of_mem hq) p.1 (by simp) e2
    show mergeK (putK acc p.1 p.2) kvs = _
    rw [putK_new _ hp, merge_nodup kvs (acc ++ [(p.1, p.2)]) (by simpa using h)]
    simp
theorem val_zip {K : PySem.W.Frag} {ρ : List Addr} {H : Hp} {t : Str} : ∀ (ks : List Str) (us : List V) (xs : List AV), RpL K ρ H us xs →
    (((ks.zip xs).lookup t = none ∧ valV ((ks.zip us).map fun p => ((.inr p.1 : Key), p.2)) (.inr t) = none) ∨ ∃ d v, (ks.zip xs).lookup t = some d ∧ valV ((ks.zip us).map fun p => ((.inr p.1 : Key), p.2)) (.inr t) = some v ∧ Rp K ρ H v d)
  | [], us, xs, r => Or.inl ⟨rfl, rfl⟩
  | z :: ks, us, xs, r => by
    cases xs with
    | nil => cases r; exact Or.inl ⟨rfl, rfl⟩
    | cons d ds =>
      cases r with
      | @cons v vs _ _ a b =>
        by_cases e : t = z
        · subst e
          refine Or.inr ⟨d, v, ?_, ?_, a⟩
          · simp [List.zip_cons_cons, List.lookup_cons]
          · simp [valV]
        · have ih := val_zip (t := t) ks vs ds b
          have h1 : ((z :: ks).zip (d :: ds)).lookup t = (ks.zip ds).lookup t := by
            rw [List.zip_cons_cons, List.lookup_cons]
            have : (t == z) = false := by simpa using e
            rw [this]
          have h2 : valV (((z :: ks).zip (v :: vs)).map fun p => ((.inr p.1 : Key), p.2)) (.inr t) = valV ((ks.zip vs).map fun p => ((.inr p.1 : Key), p.2)) (.inr t) := by
            unfold valV
            rw [List.zip_cons_cons, List.map_cons, List.find?_cons_of_neg]
            simp
            exact fun q => e q.symm
          rw [h1, h2]
          exact ih
theorem dget_ok (S : SnE w T k n) (G : Gd w T k g E X) {keys : List (Option Expr)} {values : List Expr} {apos cpos dpos : Pos} {x y : Expr} {ks : List Str} {vs : List IE} {e d : IE} (hl : (apos.endLine == cpos.line) = true) (hk : all2 keyB ks keys = true)
    (hv : all2 (mt w.N w.fn w.cn n X.env.scope) vs values = true) (he : mt w.N w.fn w.cn n X.env.scope e x = true) (hd : mt w.N w.fn w.cn n X.env.scope d y = true) :
    PE X (.Call (.Attribute (.Dict keys values dpos) "get" apos) [x, y] [] cpos) (tI w X.K E (ev T w g (n + 1) (.dget ks vs e d))) := by
  by_cases hc : ks.Nodup ∧ ks.length = vs.length ∧ ks.length ≤ 15 ∧ ks ≠ []
  · obtain ⟨nd, hlen, h15, hne⟩ := hc
    have lk : ∀ {ks : List Str} {keys : List (Option Expr)}, all2 keyB ks keys = true → ks.length = keys.length ∧ keys.all (·.isSome) = true := by
      intro ks
      induction ks with
      | nil => intro keys h; cases keys with
        | nil => exact ⟨rfl, rfl⟩
        | cons _ _ => cases h
      | cons z ks ih =>
        intro keys h
        cases keys with
        | nil => cases h
        | cons o keys =>
          obtain ⟨a1, a2⟩ := b2 h
          obtain ⟨i1, i2⟩ := ih a2
          refine ⟨by simp [i1], ?_⟩
          cases o with
          | none => cases a1
          | some _ => simpa using i2
    have lv : ∀ {vs : List IE} {values : List Expr}, all2 (mt w.N w.fn w.cn n X.env.scope) vs values = true → vs.length = values.length := by
      intro vs
      induction vs with
      | nil => intro values h; cases values with
        | nil => rfl
        | cons _ _ => cases h
      | cons z vs ih =>
        intro values h
        cases values with
        | nil => cases h
        | cons o values => simp [ih (b2 h).2]
    obtain ⟨k1, k2⟩ := lk hk
    have k3 := lv hv
    have rm := G.rg.rm
    have hu : X.A.units + 1 < cLine := by have := rm.u; have := rm.le; omega
    have P := pps_ok (pos := dpos) (fun ir e q => S g E X G ir e q) ks vs keys values hk hv hlen
    have D : PE X (.Dict keys values dpos) _ := pe_disp P k2 (by omega) (by intro z; rw [z] at k1; simp at k1; exact hne k1) (by omega)
    have m : M2 X (.Dict keys values dpos) "get" apos x y cpos := ⟨rfl, by rw [star_plain he, star_plain hd]; rfl, hl, by rw [star_plain he, star_plain hd]; rfl⟩
    refine PE.of (pe_dget2 hu D (S g E X G e x he) (S g E X G d y hd) m) ?_
    rintro σ H Q ⟨ρ, sl, s, st, sr, o⟩
    intro p hp
    have o : Out X.K w.xc E ρ H (Rp X.K) (if ks.Nodup ∧ ks.length = vs.length ∧ ks.length ≤ 15 ∧ ks ≠ [] then (evs (ev T w g n) vs sl s).bd fun xs s => (ev T w g n e sl s).bd fun y s => (ev T w g n d sl s).bd fun z s => (match y with
      | .str t => .ok (((ks.zip xs).lookup t).getD z) s
      | _ => .bad) else .bad) Q := o
    rw [if_pos ⟨nd, hlen, h15, hne⟩] at o
    have g0 : Go ρ H ρ (upd H p (.dK [])) := Go.fresh hp
    refine tpairs_ok ks vs ρ _ s _ hlen (st.fresh hp) (sr.go g0) ?_
    cases er : evs (ev T w g n) vs sl s with
    | bad => rw [er] at o; exact o.elim
    | exc x s1 =>
      rw [er] at o
      exact fun ρ' H' c d g2 => o ρ' H' c d (g0.trans g2)
    | ok xs s1 =>
    rw [er] at o
    have o : Out X.K w.xc E ρ H (Rp X.K) ((ev T w g n e sl s1).bd fun y s => (ev T w g n d sl s).bd fun z s => (match y with
      | .str t => .ok (((ks.zip xs).lookup t).getD z) s
      | _ => .bad)) Q := o
    intro ρ1 H1 us g1 st1 r1
    obtain ⟨hp1, np⟩ := g1.f p _ upd_same (st.fresh_out hp) (fun ps z => nomatch z)
    have lz : us.length = ks.length := by
      rw [r1.len, hlen]
      exact evs_len _ _ _ _ _ er
    have em : mergeK [] ((ks.zip us).map fun p => ((.inr p.1 : Key), p.2)) = (ks.zip us).map fun p => (.inr p.1, p.2) := by
      rw [merge_nodup _ _ ?_]
      · rfl
      · rw [List.nil_append, List.map_map]
        have e2 : ((fun x : Key × V => x.1) ∘ fun p : Str × V => ((.inr p.1 : Key), p.2)) = (fun z : Str => (.inr z : Key)) ∘ Prod.fst := rfl
        rw [e2, ← List.map_map, List.map_fst_zip (by omega)]
        exact List.pairwise_map.mpr (nd.imp fun h q => h (by cases q; rfl))
    refine ⟨hp1, (ks.zip us).map (fun p => (.inr p.1, p.2)), by simp [kV], ?_, ?_⟩
    · rw [List.length_map, List.length_zip]
      omega
    · rw [em]
      generalize hkv : ((ks.zip us).map fun p => ((.inr p.1 : Key), p.2)) = kvs
      have gr : Gr H1 (upd H1 p (.dK kvs)) := ⟨fun a ys q => by rw [upd_ne (ne_of q hp1 (by intro z; cases z))]; exact q, fun a b u q => by rw [upd_ne (ne_of q hp1 (by intro z; cases z))]; exact q⟩
      have g01 := g0.trans g1
      have gd : Go ρ H ρ1 (upd H1 p (.dK kvs)) := ⟨g01.le, g01.g.trans gr, fun a u q na nt => by
        obtain ⟨q1, q2⟩ := g01.f a u q na nt
        exact ⟨by rw [upd_ne (ne_of_none q hp)]; exact q1, q2⟩⟩
      have std : StR X.K ρ1 (upd H1 p (.dK kvs)) s1 := ⟨st1.len, st1.nd, st1.tb.upd (fun u z => by rw [hp1] at z; cases z; exact ⟨fun _ z => (by cases z), fun _ z => (by cases z)⟩), fun m a u q1 q2 => (st1.ob m a u q1 q2).mv (Le.refl _) gr (upd_ne (fun z => np (by rw [← z]; exact List.mem_of_getElem? q1)))⟩
      refine ⟨p, rfl, Or.inl ⟨kvs, Rd.of upd_same⟩, ρ1, sl, s1, std, sr.go gd, Out.bd (Out.up o gd) ?_⟩
      intro yv s2 ρ2 H2 u _ g2 st2 r2 o2
      refine ⟨ρ2, sl, s2, st2, (sr.go gd).go g2, Out.bd o2 ?_⟩
      intro zv s3 ρ3 H3 u3 _ g3 st3 r3 o3
      split at o3
      · rename_i t _
        cases r2
        obtain ⟨hp3, _⟩ := (g2.trans g3).f p _ upd_same np (fun ps z => nomatch z)
        have rl : RpL X.K ρ3 H3 us xs := ((RpL.up (Le.refl _) gr _ _ r1).go g2).go g3
        refine ⟨valV kvs (.inr t), Or.inl ⟨kvs, .inr t, Rd.of hp3, rfl, rfl⟩, ?_⟩
        rcases val_zip (t := t) ks us xs rl with ⟨q1, q2⟩ | ⟨dv, v, q1, q2, q3⟩
        · rw [hkv] at q2
          rw [q1] at o3
          rw [q2]
          exact Out.now o3 st3 r3
        · rw [hkv] at q2
          rw [q1] at o3
          rw [q2]
          exact Out.now o3 st3 q3
      · exact o3.elim
  · constructor
    rintro pins s σ H Q I ⟨ρ, sl, s0, st, sr, o⟩
    exfalso
    have o : Out X.K w.xc E ρ H (Rp X.K) (if ks.Nodup ∧ ks.length = vs.length ∧ ks.length ≤ 15 ∧ ks ≠ [] then (evs (ev T w g n) vs sl s0).bd fun xs s => (ev T w g n e sl s).bd fun y s => (ev T w g n d sl s).bd fun z s => (match y with
      | .str t => .ok (((ks.zip xs).lookup t).getD z) s
      | _ => .bad) else .bad) Q := o
    rw [if_neg hc] at o
    exact o
end
end Jp


set_option Elab.async false
set_option linter.all false
set_option maxRecDepth 100000
set_option maxHeartbeats 4000000
namespace Jp
open PySem PySem.Spec PyProof.Rows L2
variable [Tb] [Cb]
section
variable {w : Wd} {T : Nat → Nat → List AV → Sto → Rs AV} {k g n : Nat} {E : XK} {X : Cx}
/-! ### dicts that a def makes -/
theorem dct_at {K : PySem.W.Frag} {ρ : List Addr} {H : Hp} {s : Sto} {d : AV} {v : V} {kvs : List (Key × AV)} (st : StR K ρ H s) (r : Rp K ρ H v d) (e : dctA s d = some kvs) : ∃ a gs, v = .ref a ∧ H a = some (.dK gs) ∧ KvR K ρ H gs kvs := by
  unfold dctA at e
  split at e
  · rename_i m
    split at e
    · rename_i kvs' hm
      cases e
      cases r with
      | ref p =>
        obtain ⟨gs, h1, h2⟩ := st.atD p hm
        exact ⟨_, gs, rfl, h1, h2⟩
    · cases e
  · cases e
theorem key_ok {K : PySem.W.Frag} {ρ : List Addr} {H : Hp} {d : AV} {v : V} {ky : Key} (r : Rp K ρ H v d) (e : keyA d = some ky) : v = kV ky := by
  cases r <;> first | (cases e; done) | (cases e; rfl)
theorem look_val {K : PySem.W.Frag} {ρ : List Addr} {H : Hp} {gs : List (Key × V)} {kvs : List (Key × AV)} (h : KvR K ρ H gs kvs) (ky : Key) : (valV gs ky).isSome = (lookK kvs ky).isSome := by
  have q := h.look ky
  cases e : lookK kvs ky with
  | none => rw [e] at q; rw [q]; rfl
  | some d => rw [e] at q; obtain ⟨v, q1, _⟩ := q; rw [q1]; rfl
theorem dnew_ok {pos : Pos} : PE X (.Dict [] [] pos) (tI w X.K E (ev T w g (n + 1) .dnew)) := by
  refine PE.of pe_dnewK ?_
  rintro σ H Q ⟨ρ, sl, s, st, sr, o⟩ p hp
  have o2 : Out X.K w.xc E ρ H (Rp X.K) (.ok (.ref s.length) (s ++ [.dct []])) Q := o
  obtain ⟨st2, r2⟩ := st.newD hp (gs := []) (fs := []) trivial
  exact o2 _ _ _ (Go.new hp) st2 r2
theorem dcopy_ok (S : SnE w T k n) (G : Gd w T k g E X) {y : Expr} {p pos : Pos} {a : IE} (hgl : glB X.env.scope "dict" = true) (h : mt w.N w.fn w.cn n X.env.scope a y = true) :
    PE X (.Call (.Name "dict" p) [y] [] pos) (tI w X.K E (ev T w g (n + 1) (.dcopy a))) := by
  obtain ⟨v1, v2, v3⟩ := gl_of hgl
  refine PE.of (pe_callTy call_dictD v1 (G.bi _ (by decide)) (by decide +kernel) (pa_cons (S g E X G a y h) pa_nil (star_plain h)) v3 v2 (star_plain h) (by rfl)) ?_
  rintro σ H Q ⟨ρ, sl, s, st, sr, o⟩
  refine ⟨ρ, sl, s, st, sr, Out.bd o ?_⟩
  intro x s1 ρ1 H1 v _ g1 st1 r1 o1
  split at o1
  · rename_i kvs hk
    obtain ⟨b, gs, rfl, h1, h2⟩ := dct_at st1 r1 hk
    refine ⟨b, gs, rfl, Rd.of h1, fun q hq => ?_⟩
    obtain ⟨st2, r2⟩ := st1.newD hq h2
    exact o1 _ _ _ (Go.new hq) st2 r2
  · exact o1.elim
theorem dix_ok (S : SnE w T k n) (G : Gd w T k g E X) {o i : Expr} {pos : Pos} {a b : IE} (h1 : mt w.N w.fn w.cn n X.env.scope a o = true) (h2 : mt w.N w.fn w.cn n X.env.scope b i = true) :
    PE X (.Subscript o i pos) (tI w X.K E (ev T w g (n + 1) (.dix a b))) := by
  have rm := G.rg.rm
  have hu : X.A.units + 1 < cLine := by have := rm.u; have := rm.le; omega
  refine PE.of (pe_dget hu (S g E X G a o h1) (S g E X G b i h2) (plain_ix h2)) ?_
  rintro σ H Q ⟨ρ, sl, s, st, sr, o0⟩
  refine ⟨ρ, sl, s, st, sr, Out.bd o0 ?_⟩
  intro x s1 ρ1 H1 v _ g1 st1 r1 o1
  refine ⟨ρ1, sl, s1, st1, sr.go g1, Out.bd o1 ?_⟩
  intro y s2 ρ2 H2 u _ g2 st2 r2 o2
  split at o2
  · rename_i kvs ky hk hy
    obtain ⟨c, gs, ev, p1, p2⟩ := dct_at st2 (r1.go g2) hk
    have eu := key_ok r2 hy
    obtain ⟨d, hd, o3⟩ := Out.opt o2
    have q := p2.look ky
    rw [hd] at q
    obtain ⟨z, q1, q2⟩ := q
    refine ⟨c, z, ev, ?_, Out.now o3 st2 q2⟩
    rw [eu, ← q1]
    exact DGet.k p1
  · exact o2.elim
theorem or_din {op : CmpOp} {neg : Bool} (hu : X.A.units + 1 < cLine) (hop : coB (if neg then .notin else .in_) op = true) : OpR X (compareOp op) (fun y x H Q => ∃ a o, x = .ref a ∧ DGet H a y o ∧ Q (.bl (if neg then o.isNone else o.isSome)) H) := by
  intro pins sh σ H y x v u Q I rx ry h
  obtain ⟨a, o, rfl, g, q⟩ := h
  cases ry
  cases neg with
  | true =>
    cases op <;> first | (cases hop; done) | skip
    refine d_notIn hu I g rx fun s3 I3 => ⟨.bl (!o.isSome), H, I3, rfl, ?_⟩
    cases o <;> exact q
  | false =>
    cases op <;> first | (cases hop; done) | skip
    exact d_in hu I g rx fun s3 I3 => ⟨.bl o.isSome, H, I3, rfl, q⟩
theorem din_read {i a : Slots → Sto → Rs AV} {neg : Bool} {σ : L2.St} {H : Hp} {Q : VK} (h : tI w X.K E (fun σ s => (i σ s).bd fun y s => (a σ s).bd fun x s => (match dctA s x, keyA y with
      | some kvs, some k => .ok (.bl (if neg then (lookK kvs k).isNone else (lookK kvs k).isSome)) s
      | _, _ => .bad)) σ H Q) : tOp (fun y x H Q => ∃ a o, x = .ref a ∧ DGet H a y o ∧ Q (.bl (if neg then o.isNone else o.isSome)) H) (tI w X.K E i) (tI w X.K E a) σ H Q := by
  refine two_ok h ?_
  intro ρ s y x v u H st r1 r2 o2
  split at o2
  · rename_i kvs ky hk hy
    obtain ⟨c, gs, rfl, p1, p2⟩ := dct_at st r2 hk
    have eu := key_ok r1 hy
    refine ⟨c, valV gs ky, rfl, by rw [eu]; exact DGet.k p1, ?_⟩
    have q := look_val p2 ky
    have q2 : (valV gs ky).isNone = (lookK kvs ky).isNone := by
      cases e1 : valV gs ky <;> cases e2 : lookK kvs ky <;> rw [e1, e2] at q <;> first | rfl | cases q
    rw [q, q2]
    exact Out.now o2 st (.bl _)
  · exact o2.elim
theorem din_ok (S : SnE w T k n) (G : Gd w T k g E X) {y o : Expr} {pos : Pos} {i a : IE} {neg : Bool} {op : CmpOp} (hop : coB (if neg then .notin else .in_) op = true) (h1 : mt w.N w.fn w.cn n X.env.scope i y = true) (h2 : mt w.N w.fn w.cn n X.env.scope a o = true) :
    PE X (.Compare y [op] [o] pos) (tI w X.K E (ev T w g (n + 1) (.din neg i a))) := by
  have rm := G.rg.rm
  have hu : X.A.units + 1 < cLine := by have := rm.u; have := rm.le; omega
  exact PE.of (pe_cmpR (or_din (neg := neg) hu hop) (S g E X G i y h1) (S g E X G a o h2) (cmp_mark h2)) fun σ H Q hq => din_read hq
theorem dg1_ok (S : SnE w T k n) (G : Gd w T k g E X) {o y : Expr} {apos cpos : Pos} {a i : IE} (hl : (apos.endLine == cpos.line) = true) (hb : bare o = false) (h1 : mt w.N w.fn w.cn n X.env.scope a o = true) (h2 : mt w.N w.fn w.cn n X.env.scope i y = true) :
    PE X (.Call (.Attribute o "get" apos) [y] [] cpos) (tI w X.K E (ev T w g (n + 1) (.dg1 a i))) := by
  have rm := G.rg.rm
  have hu : X.A.units + 1 < cLine := by have := rm.u; have := rm.le; omega
  have m : M1 X o "get" apos y cpos := ⟨attr_base hb, by rw [star_plain h2]; rfl, hl, by rw [star_plain h2]; rfl⟩
  refine PE.of (pe_dget1 hu (S g E X G a o h1) (S g E X G i y h2) m) ?_
  rintro σ H Q ⟨ρ, sl, s, st, sr, o0⟩
  refine ⟨ρ, sl, s, st, sr, Out.bd o0 ?_⟩
  intro x s1 ρ1 H1 v _ g1 st1 r1 o1
  split at o1
  · rename_i kvs0 hk0
    obtain ⟨c, gs0, rfl, p1, _⟩ := dct_at st1 r1 hk0
    refine ⟨c, rfl, Or.inl ⟨gs0, Rd.of p1⟩, ρ1, sl, s1, st1, sr.go g1, Out.bd o1 ?_⟩
    intro z s2 ρ2 H2 u _ g2 st2 r2 o2
    split at o2
    · rename_i kvs ky hk hy
      obtain ⟨c2, gs, e, p2, p3⟩ := dct_at st2 (r1.go g2) hk
      cases e
      have eu := key_ok r2 hy
      refine ⟨valV gs ky, by rw [eu]; exact DGet.k p2, ?_⟩
      have q := p3.look ky
      cases e2 : lookK kvs ky with
      | none =>
        rw [e2] at q o2
        rw [q]
        exact Out.now o2 st2 .non
      | some d =>
        rw [e2] at q o2
        obtain ⟨vv, q1, q2⟩ := q
        rw [q1]
        exact Out.now o2 st2 q2
    · exact o2.elim
  · exact o1.elim
theorem dg2_ok (S : SnE w T k n) (G : Gd w T k g E X) {o y z : Expr} {apos cpos : Pos} {a i d : IE} (hl : (apos.endLine == cpos.line) = true) (hb : bare o = false) (h1 : mt w.N w.fn w.cn n X.env.scope a o = true) (h2 : mt w.N w.fn w.cn n X.env.scope i y = true) (h3 : mt w.N w.fn w.cn n X.env.scope d z = true) :
    PE X (.Call (.Attribute o "get" apos) [y, z] [] cpos) (tI w X.K E (ev T w g (n + 1) (.dg2 a i d))) := by
  have rm := G.rg.rm
  have hu : X.A.units + 1 < cLine := by have := rm.u; have := rm.le; omega
  have m : M2 X o "get" apos y z cpos := ⟨attr_base hb, by rw [star_plain h2, star_plain h3]; rfl, hl, by rw [star_plain h2, star_plain h3]; rfl⟩
  refine PE.of (pe_dget2 hu (S g E X G a o h1) (S g E X G i y h2) (S g E X G d z h3) m) ?_
  rintro σ H Q ⟨ρ, sl, s, st, sr, o0⟩
  refine ⟨ρ, sl, s, st, sr, Out.bd o0 ?_⟩
  intro x s1 ρ1 H1 v _ g1 st1 r1 o1
  split at o1
  · rename_i kvs0 hk0
    obtain ⟨c, gs0, rfl, p1, _⟩ := dct_at st1 r1 hk0
    refine ⟨c, rfl, Or.inl ⟨gs0, Rd.of p1⟩, ρ1, sl, s1, st1, sr.go g1, Out.bd o1 ?_⟩
    intro y2 s2 ρ2 H2 u _ g2 st2 r2 o2
    refine ⟨ρ2, sl, s2, st2, (sr.go g1).go g2, Out.bd o2 ?_⟩
    intro z3 s3 ρ3 H3 u3 _ g3 st3 r3 o3
    split at o3
    · rename_i kvs ky hk hy
      obtain ⟨c2, gs, e, p2, p3⟩ := dct_at st3 ((r1.go g2).go g3) hk
      cases e
      have eu := key_ok r2 hy
      refine ⟨valV gs ky, by rw [eu]; exact DGet.k p2, ?_⟩
      have q := p3.look ky
      cases e2 : lookK kvs ky with
      | none =>
        rw [e2] at q o3
        rw [q]
        exact Out.now o3 st3 r3
      | some d =>
        rw [e2] at q o3
        obtain ⟨vv, q1, q2⟩ := q
        rw [q1]
        exact Out.now o3 st3 q2
    · exact o3.elim
  · exact o1.elim
theorem key_len : ∀ {ks : List Str} {keys : List (Option Expr)}, all2 keyB ks keys = true → ks.length = keys.length ∧ keys.all (·.isSome) = true
  | [], [], _ => ⟨rfl, rfl⟩
  | z :: ks, o :: keys, h => by
    obtain ⟨a1, a2⟩ := b2 h
    obtain ⟨i1, i2⟩ := key_len a2
    refine ⟨by simp [i1], ?_⟩
    cases o with
    | none => cases a1
    | some _ => simpa using i2
  | [], _ :: _, h => by cases h
  | _ :: _, [], h => by cases h
theorem val_len {N fn : List Str} {cn : Nm} {sc : Scope} : ∀ {vs : List IE} {values : List Expr}, all2 (mt N fn cn n sc) vs values = true → vs.length = values.length
  | [], [], _ => rfl
  | _ :: _, _ :: _, h => by simp [val_len (b2 h).2]
  | [], _ :: _, h => by cases h
  | _ :: _, [], h => by cases h
theorem StR.adoptD {K : PySem.W.Frag} {ρ : List Addr} {H : Hp} {s : Sto} {D : Addr} (h : StR K ρ H s) (hD : D ∉ ρ) {gs : List (Key × V)} {fs : List (Key × AV)} (hl : H D = some (.dK gs)) (r : KvR K ρ H gs fs) : StR K (ρ ++ [D]) H (s ++ [.dct fs]) ∧ Rp K (ρ ++ [D]) H (.ref D) (.ref s.length) := by
  have at_ : (ρ ++ [D])[ρ.length]? = some D := by simp
  refine ⟨⟨by simp [h.len], ?_, h.tb, fun m a o e1 e2 => ?_⟩, .ref (by rw [h.len]; exact at_)⟩
  · rw [List.nodup_append]
    refine ⟨h.nd, by simp, fun a ha b hb z => ?_⟩
    rw [List.mem_singleton] at hb
    subst hb
    subst z
    exact hD ha
  · by_cases hn : m < ρ.length
    · rw [List.getElem?_append_left hn] at e1
      rw [List.getElem?_append_left (by rw [h.len]; exact hn)] at e2
      exact (h.ob m a o e1 e2).mv (Le.app _ _) (Gr.refl _) rfl
    · have hn2 : m = ρ.length := by
        have := (List.getElem?_eq_some_iff.mp e1).1
        simp at this
        omega
      subst hn2
      rw [at_] at e1
      cases e1
      rw [← h.len, List.getElem?_append_right (Nat.le_refl _), Nat.sub_self] at e2
      cases e2
      exact ⟨gs, hl, KvR.up (Le.app _ _) (Gr.refl _) r⟩
theorem kv_zip {K : PySem.W.Frag} {ρ : List Addr} {H : Hp} : ∀ (ks : List Str) {us : List V} {xs : List AV}, RpL K ρ H us xs → KvR K ρ H ((ks.zip us).map fun p => ((.inr p.1 : Key), p.2)) ((ks.zip xs).map fun p => ((.inr p.1 : Key), p.2))
  | [], _, _, _ => trivial
  | z :: ks, _, _, .nil => trivial
  | z :: ks, _, _, .cons a b => ⟨rfl, a, kv_zip ks b⟩
theorem dpop_ok (S : SnE w T k n) (G : Gd w T k g E X) {o y : Expr} {apos cpos : Pos} {a i : IE} (hl : (apos.endLine == cpos.line) = true) (hb : bare o = false) (h1 : mt w.N w.fn w.cn n X.env.scope a o = true) (h2 : mt w.N w.fn w.cn n X.env.scope i y = true) :
    PE X (.Call (.Attribute o "pop" apos) [y] [] cpos) (tI w X.K E (ev T w g (n + 1) (.dpop a i))) := by
  have m : M1 X o "pop" apos y cpos := ⟨attr_base hb, by rw [star_plain h2]; rfl, hl, by rw [star_plain h2]; rfl⟩
  refine PE.of (pe_dpop1 (S g E X G a o h1) (S g E X G i y h2) m) ?_
  rintro σ H Q ⟨ρ, sl, s, st, sr, o0⟩
  refine ⟨ρ, sl, s, st, sr, Out.bd o0 ?_⟩
  intro x s1 ρ1 H1 v _ g1 st1 r1 o1
  split at o1
  · rename_i kvs0 hk0
    obtain ⟨c, gs0, rfl, p1, _⟩ := dct_at st1 r1 hk0
    refine ⟨c, rfl, Or.inl ⟨gs0, Rd.of p1⟩, ρ1, sl, s1, st1, sr.go g1, Out.bd o1 ?_⟩
    intro z s2 ρ2 H2 u _ g2 st2 r2 o2
    split at o2
    · rename_i m0 kvs ky hy _ hk
      obtain ⟨c2, gs, e, p2, p3⟩ := dct_at st2 (r1.go g2) hk
      cases e
      have eu := key_ok r2 hy
      cases e2 : lookK kvs ky with
      | none =>
        rw [e2] at o2
        exact o2.elim
      | some d =>
        have q := p3.look ky
        rw [e2] at q o2
        obtain ⟨vv, q1, q2⟩ := q
        refine ⟨gs, ky, vv, p2, eu, q1, ?_⟩
        cases r1.go g2 with
        | ref hp =>
          have gg := Go.putD (ρ := ρ2) (o := .dK (dropK gs ky)) hp p2
          exact Out.now (Out.up o2 gg) (st2.putD hp p2 (p3.del ky)) (q2.go gg)
    · exact o2.elim
  · exact o1.elim
theorem dmk_ok (S : SnE w T k n) (G : Gd w T k g E X) {keys : List (Option Expr)} {values : List Expr} {dpos : Pos} {ks : List Str} {vs : List IE} (hk : all2 keyB ks keys = true)
    (hv : all2 (mt w.N w.fn w.cn n X.env.scope) vs values = true) : PE X (.Dict keys values dpos) (tI w X.K E (ev T w g (n + 1) (.dmk ks vs))) := by
  by_cases hc : ks.Nodup ∧ ks.length = vs.length ∧ ks.length ≤ 15 ∧ ks ≠ []
  · obtain ⟨nd, hlen, h15, hne⟩ := hc
    obtain ⟨k1, k2⟩ := key_len hk
    have k3 := val_len hv
    have P := pps_ok (pos := dpos) (fun ir e q => S g E X G ir e q) ks vs keys values hk hv hlen
    refine PE.of (pe_disp P k2 (by omega) (by intro z; rw [z] at k1; simp at k1; exact hne k1) (by omega)) ?_
    rintro σ H Q ⟨ρ, sl, s, st, sr, o⟩
    intro p hp
    have o : Out X.K w.xc E ρ H (Rp X.K) (if ks.Nodup ∧ ks.length = vs.length ∧ ks.length ≤ 15 ∧ ks ≠ [] then (evs (ev T w g n) vs sl s).bd fun xs s => .ok (.ref s.length) (s ++ [.dct ((ks.zip xs).map fun p => (.inr p.1, p.2))]) else .bad) Q := o
    rw [if_pos ⟨nd, hlen, h15, hne⟩] at o
    have g0 : Go ρ H ρ (upd H p (.dK [])) := Go.fresh hp
    refine tpairs_ok ks vs ρ _ s _ hlen (st.fresh hp) (sr.go g0) ?_
    cases er : evs (ev T w g n) vs sl s with
    | bad => rw [er] at o; exact o.elim
    | exc x s1 =>
      rw [er] at o
      exact fun ρ' H' c d g2 => o ρ' H' c d (g0.trans g2)
    | ok xs s1 =>
    rw [er] at o
    have o : Out X.K w.xc E ρ H (Rp X.K) (.ok (.ref s1.length) (s1 ++ [.dct ((ks.zip xs).map fun p => (.inr p.1, p.2))])) Q := o
    intro ρ1 H1 us g1 st1 r1
    obtain ⟨hp1, np⟩ := g1.f p _ upd_same (st.fresh_out hp) (fun ps z => nomatch z)
    have lz : us.length = ks.length := by
      rw [r1.len, hlen]
      exact evs_len _ _ _ _ _ er
    have em : mergeK [] ((ks.zip us).map fun p => ((.inr p.1 : Key), p.2)) = (ks.zip us).map fun p => (.inr p.1, p.2) := by
      rw [merge_nodup _ _ ?_]
      · rfl
      · rw [List.nil_append, List.map_map]
        have e2 : ((fun x : Key × V => x.1) ∘ fun p : Str × V => ((.inr p.1 : Key), p.2)) = (fun z : Str => (.inr z : Key)) ∘ Prod.fst := rfl
        rw [e2, ← List.map_map, List.map_fst_zip (by omega)]
        exact List.pairwise_map.mpr (nd.imp fun h q => h (by cases q; rfl))
    refine ⟨hp1, (ks.zip us).map (fun p => (.inr p.1, p.2)), by simp [kV], ?_, ?_⟩
    · rw [List.length_map, List.length_zip]
      omega
    · rw [em]
      have kz := kv_zip ks r1
      generalize hkv : ((ks.zip us).map fun p => ((.inr p.1 : Key), p.2)) = kvs at kz ⊢
      have gr : Gr H1 (upd H1 p (.dK kvs)) := ⟨fun a ys q => by rw [upd_ne (ne_of q hp1 (by intro z; cases z))]; exact q, fun a b u q => by rw [upd_ne (ne_of q hp1 (by intro z; cases z))]; exact q⟩
      have g01 := g0.trans g1
      have std : StR X.K ρ1 (upd H1 p (.dK kvs)) s1 := ⟨st1.len, st1.nd, st1.tb.upd (fun u z => by rw [hp1] at z; cases z; exact ⟨fun _ z => (by cases z), fun _ z => (by cases z)⟩), fun m a u q1 q2 => (st1.ob m a u q1 q2).mv (Le.refl _) gr (upd_ne (fun z => np (by rw [← z]; exact List.mem_of_getElem? q1)))⟩
      obtain ⟨st9, r9⟩ := std.adoptD np upd_same (KvR.up (Le.refl _) gr kz)
      refine o _ _ _ ⟨g01.le.trans (Le.app _ _), g01.g.trans gr, fun a u q na nt => ?_⟩ st9 r9
      obtain ⟨q1, q2⟩ := g01.f a u q na nt
      refine ⟨by rw [upd_ne (ne_of_none q hp)]; exact q1, fun z => ?_⟩
      rcases List.mem_append.mp z with z | z
      · exact q2 z
      · rw [List.mem_singleton] at z
        rw [z, hp] at q
        cases q
  · constructor
    rintro pins s σ H Q I ⟨ρ, sl, s0, st, sr, o⟩
    exfalso
    have o : Out X.K w.xc E ρ H (Rp X.K) (if ks.Nodup ∧ ks.length = vs.length ∧ ks.length ≤ 15 ∧ ks ≠ [] then (evs (ev T w g n) vs sl s0).bd fun xs s => .ok (.ref s.length) (s ++ [.dct ((ks.zip xs).map fun p => (.inr p.1, p.2))]) else .bad) Q := o
    rw [if_neg hc] at o
    exact o
/-! ### f-strings -/
def jsM (N fn : List Str) (cn : Nm) (n : Nat) (sc : Scope) (ir : IE) (e : Expr) : Bool := match e with
  | .Constant (.str y) _ _ => (match ir with
    | .lit (.str x) => decide (x = y)
    | _ => false)
  | .FormattedValue x k f _ => decide (k = -1) && f.isNone && mt N fn cn n sc ir x
  | _ => false
theorem jsM_inv {N fn : List Str} {cn : Nm} {sc : Scope} {ir : IE} {e : Expr} (h : jsM N fn cn n sc ir e = true) : (∃ y j p, e = .Constant (.str y) j p ∧ ir = .lit (.str y)) ∨ ∃ x p, e = .FormattedValue x (-1) none p ∧ mt N fn cn n sc ir x = true := by
  unfold jsM at h
  split at h
  · split at h
    · have q := of_decide_eq_true h
      subst q
      exact Or.inl ⟨_, _, _, rfl, rfl⟩
    · cases h
  · obtain ⟨h1, h2⟩ := b2 h
    obtain ⟨h3, h4⟩ := b2 h1
    have q := of_decide_eq_true h3
    subst q
    rename_i x f p
    have ef : f = none := by cases f <;> first | rfl | cases h4
    subst ef
    exact Or.inr ⟨_, _, rfl, h2⟩
  · cases h
theorem js_parts (ih : ∀ ir e, mt w.N w.fn w.cn n X.env.scope ir e = true → PE X e (tI w X.K E (ev T w g n ir))) (hlit : ∀ (x : Str) sl s, ev T w g n (.lit (.str x)) sl s = .ok (.str x) s) : ∀ (ps : List IE) (es : List Expr), all2 (jsM w.N w.fn w.cn n X.env.scope) ps es = true →
    ∃ ts, PJ X es ts ∧ ∀ (acc : Str) σ H (Q : Str → Hp → Prop), (∃ ρ sl s, StR X.K ρ H s ∧ SlR X.K ρ H σ sl ∧ Out X.K w.xc E ρ H (fun _ _ (b a : Str) => b = a) (jsL (ev T w g n) ps acc sl s) Q) → tJs ts acc σ H Q
  | [], [], _ => ⟨[], .nil, fun acc σ H Q ⟨ρ, sl, s, st, sr, o⟩ => Out.now (a := acc) (s := s) o st rfl⟩
  | ir :: ps, e :: es, h => by
    obtain ⟨h1, h2⟩ := b2 h
    obtain ⟨ts, pj, hts⟩ := js_parts ih hlit ps es h2
    rcases jsM_inv h1 with ⟨x, j, p, rfl, rfl⟩ | ⟨x, p, rfl, h4⟩
    · refine ⟨_, .cons pe_str pj, ?_⟩
      rintro acc σ H Q ⟨ρ, sl, s, st, sr, o⟩
      rw [jsL, hlit] at o
      have o2 : Out X.K w.xc E ρ H (fun _ _ (b a : Str) => b = a) (if (acc ++ x).length ≤ LINE ∧ x.length ≤ LINE then jsL (ev T w g n) ps (acc ++ x) sl s else .bad) Q := o
      split at o2
      · rename_i hl
        exact ⟨x, rfl, fits_line hl.1, hts _ σ H Q ⟨ρ, sl, s, st, sr, o2⟩⟩
      · exact o2.elim
    · refine ⟨_, .cons (pe_fmt (ih ir x h4)) pj, ?_⟩
      rintro acc σ H Q ⟨ρ, sl, s, st, sr, o⟩
      rw [jsL] at o
      refine ⟨ρ, sl, s, st, sr, Out.bd o ?_⟩
      intro d s1 ρ1 H1 v _ g1 st1 r1 o1
      split at o1
      · rename_i y _
        split at o1
        · rename_i hl
          cases r1
          exact Or.inl ⟨y, rfl, fits_line hl.2, y, rfl, fits_line hl.1, hts _ σ H1 Q ⟨ρ1, sl, s1, st1, sr.go g1, o1⟩⟩
        · exact o1.elim
      · rename_i i _
        split at o1
        · rename_i hl
          cases r1
          exact Or.inr ⟨i, rfl, hl.2, _, rfl, fits_line hl.1, hts _ σ H1 Q ⟨ρ1, sl, s1, st1, sr.go g1, o1⟩⟩
        · exact o1.elim
      · exact o1.elim
  | [], _ :: _, h => by cases h
  | _ :: _, [], h => by cases h
theorem js_ok (S : SnE w T k n) (G : Gd w T k g E X) {es : List Expr} {ps : List IE} {pos : Pos} (hlen : 2 ≤ es.length) (h : all2 (jsM w.N w.fn w.cn n X.env.scope) ps es = true) : PE X (.JoinedStr es pos) (tI w X.K E (ev T w g (n + 1) (.js ps))) := by
  cases n with
  | zero =>
    match ps, es, hlen, h with
    | p1 :: ps, e1 :: es, _, _ => exact PE.no fun σ s => rfl
    | [], e1 :: es, _, h => cases h
    | _, [], hl, _ => simp at hl
  | succ m =>
    obtain ⟨ts, pj, hts⟩ := js_parts (fun ir e q => S g E X G ir e q) (fun x sl s => rfl) ps es h
    match es, hlen, pj, hts with
    | e1 :: e2 :: r, _, pj, hts =>
      refine PE.of (pe_joined pj) ?_
      rintro σ H Q ⟨ρ, sl, s, st, sr, o⟩
      refine hts Str.empty σ H _ ⟨ρ, sl, s, st, sr, Out.bd o ?_⟩
      intro y s1 ρ1 H1 b _ g1 st1 eb o1
      subst eb
      exact Out.now o1 st1 (.str _)
    | [], hl, _, _ => simp at hl
    | [_], hl, _, _ => simp at hl
end
end Jp


set_option Elab.async false
set_option linter.all false
set_option maxRecDepth 100000
set_option maxHeartbeats 4000000
namespace Jp
open PySem PySem.Spec PyProof.Rows L2
variable [Tb] [Cb]
section
variable {w : Wd} {T : Nat → Nat → List AV → Sto → Rs AV} {k g n : Nat} {E : XK} {X : Cx}
theorem in_bl {x : Str} (h : x ∈ bltins) (G : Gd w T k g E X) : X.mg x = none := G.bi x h

/-- what is shown apart -/
structure More (w : Wd) (T : Nat → Nat → List AV → Sto → Rs AV) (k n : Nat) : Prop where
  lc : ∀ (g : Nat) (E : XK) (X : Cx), Gd w T k g E X → ∀ own elt t wk it cs el tg src ifs scope pos, mt w.N w.fn w.cn (n + 1) X.env.scope (.lc own elt t wk it cs) (.ListComp el [⟨tg, src, ifs, 0⟩] scope pos) = true →
    PE X (.ListComp el [⟨tg, src, ifs, 0⟩] scope pos) (tI w X.K E (ev T w g (n + 1) (.lc own elt t wk it cs)))
  qu : ∀ (g : Nat) (E : XK) (X : Cx), Gd w T k g E X → ∀ al i elt it x p1 xs p2, mt w.N w.fn w.cn (n + 1) X.env.scope (.quant al i elt it) (.Call (.Name x p1) xs [] p2) = true →
    PE X (.Call (.Name x p1) xs [] p2) (tI w X.K E (ev T w g (n + 1) (.quant al i elt it)))
  ss : ∀ (g : Nat) (E : XK) (X : Cx), Gd w T k g E X → ∀ a x p1 xs p2, mt w.N w.fn w.cn (n + 1) X.env.scope (.bi .sortedSet [a]) (.Call (.Name x p1) xs [] p2) = true →
    PE X (.Call (.Name x p1) xs [] p2) (tI w X.K E (ev T w g (n + 1) (.bi .sortedSet [a])))
  ch : ∀ (g : Nat) (E : XK) (X : Cx), Gd w T k g E X → ∀ q es caps x p1 xs p2, mt w.N w.fn w.cn (n + 1) X.env.scope (.callh q es caps) (.Call (.Name x p1) xs [] p2) = true →
    PE X (.Call (.Name x p1) xs [] p2) (tI w X.K E (ev T w g (n + 1) (.callh q es caps)))

theorem part_ok {m : Nat} {sc : Scope} {e : Slots → Sto → Rs AV} (S : SnE w T k m) (G : Gd w T k g E X) : ∀ (l : Option IE) (lo : Option Expr), mt.mtO w.N w.fn w.cn m X.env.scope l lo = true →
    PO X lo (fun σ H Q => ∃ ρ sl s, StR X.K ρ H s ∧ SlR X.K ρ H σ sl ∧ Out X.K w.xc E ρ H (fun _ _ b a => b = a) (evI.part (ev T w g m) l sl s) Q)
  | none, none, _ => ⟨by
    have p := (po_none (X := X)).run
    intro pins s σ H Q I h
    obtain ⟨ρ, sl, s2, st, sr, o⟩ := h
    exact p pins s σ H Q I (Out.now (a := (none : Option Int)) (s := s2) o st rfl)⟩
  | some a, some x, h => ⟨by
    have p := (po_some (S g E X G a x (by rw [mt.mtO] at h; exact h))).run
    intro pins s σ H Q I hq
    refine p pins s σ H Q I ?_
    obtain ⟨ρ, sl, s2, st, sr, o⟩ := hq
    refine ⟨ρ, sl, s2, st, sr, Out.bd o ?_⟩
    intro y s3 ρ1 H1 v _ g1 st1 r1 o1
    cases y with
    | int i =>
      cases r1
      exact ⟨i, rfl, Out.now (a := some i) (s := s3) o1 st1 rfl⟩
    | _ => exact False.elim o1⟩
  | none, some _, h => by simp [mt.mtO, mtO'] at h
  | some _, none, h => by simp [mt.mtO, mtO'] at h

theorem Out.imp {α β : Type} {K : PySem.W.Frag} {xc : List (Addr × List Str)} {ρ : List Addr} {H : Hp} {R : List Addr → Hp → β → α → Prop} {r : Rs α} {Q Q' : β → Hp → Prop} (h : Out K xc E ρ H R r Q) (hq : ∀ b H, Q b H → Q' b H) : Out K xc E ρ H R r Q' := by
  cases r with
  | ok a s => exact fun ρ' H' b g st rb => hq _ _ (h ρ' H' b g st rb)
  | exc x s => exact h
  | bad => exact h
def meTy : ME → String
  | .append => "list"
  | .pop => "list"
  | .extend => "list"
  | .reverse => "list"
  | _ => "str"
theorem meT_ok {K : PySem.W.Frag} {ρ : List Addr} {H : Hp} {s : Sto} {d : AV} {x : V} {m : ME} (st : StR K ρ H s) (r : Rp K ρ H x d) (h : meT m d s = true) : tyV K (meTy m) x H := by
  have key : ∀ {k : Nat} {x : V} (r : Rp K ρ H x (.ref k)), (match s[k]? with
    | some (.lst _) => true
    | _ => false) = true → tyV K "list" x H := by
    intro k x r h2
    split at h2
    · rename_i ds e
      cases r with
      | ref p =>
        obtain ⟨xs, q, _⟩ := st.at p e
        exact Or.inl ⟨rfl, xs, Or.inl (Or.inl q)⟩
    · cases h2
  cases m <;> cases d <;> first | (cases h; done) | (cases r; exact rfl) | exact key r h
theorem nostar {pos : Pos} {env : Env} {N fn : List Str} {cn : Nm} {sc : Scope} : ∀ {irs : List IE} {es : List Expr}, all2 (mt N fn cn n sc) irs es = true → (backTo pos (starEach es env)).all (fun x => !x.1) = true
  | [], [], _ => rfl
  | ir :: irs, e :: es, h => by
    obtain ⟨h1, h2⟩ := b2 h
    rw [star_plain h1]
    exact Bool.and_eq_true_iff.mpr ⟨rfl, nostar h2⟩
theorem args_form {pos : Pos} {env : Env} {N fn : List Str} {cn : Nm} {sc : Scope} {irs : List IE} {es : List Expr} (h : all2 (mt N fn cn n sc) irs es = true) (hl : es.length < 20) :
    (((backTo pos (starEach es env)).all fun x => !x.1) && ((backToKw pos (keywordEach [] env)).all fun x => x.1.isSome) && decide ((es.length + ([] : List Keyword).length + if ([] : List Keyword).isEmpty = true then 0 else 1) < 30)) = true := by
  rw [nostar h]
  simp [backToKw, keywordEach]
  omega
set_option maxHeartbeats 16000000 in
theorem sn_step (S : SnE w T k n) (Tn : TnE w T k n) (M : More w T k n) : SnE w T k (n + 1) := by
  intro g E X G ir e h
  have PAs : ∀ irs es, all2 (mt w.N w.fn w.cn n X.env.scope) irs es = true → PA X es (tIs w X.K E (evs (ev T w g n) irs)) := fun irs es q => pa_all (fun ir e q => S g E X G ir e q) irs es q
  have rm := G.rg.rm
  have hu : X.A.units + 100 < cLine := by have := rm.u; have := rm.le; omega
  have h0 := h
  unfold mt at h
  split at h
  · -- and, or of two
    rename_i op x y pos
    split at h
    · rename_i a b
      obtain ⟨h1, h2⟩ := b2 h
      exact PE.of (pe_andT (S g E X G _ _ h1) (pe_one (S g E X G _ _ h2))) fun σ H Q hq => and_ok hq
    · rename_i a b
      obtain ⟨h1, h2⟩ := b2 h
      exact PE.of (pe_orT (S g E X G _ _ h1) (pe_one (S g E X G _ _ h2))) fun σ H Q hq => or_ok hq
    · cases h
  · rename_i op x y z rest pos
    split at h
    · rename_i a b
      obtain ⟨h1, h2⟩ := b2 h
      exact PE.of (pe_andT (S g E X G _ _ h1) (S g E X G _ _ h2)) fun σ H Q hq => and_ok hq
    · rename_i a b
      obtain ⟨h1, h2⟩ := b2 h
      exact PE.of (pe_orT (S g E X G _ _ h1) (S g E X G _ _ h2)) fun σ H Q hq => or_ok hq
    · cases h
  · -- a name
    rename_i x pos
    split at h
    · rename_i i
      obtain ⟨h1, h2⟩ := b2 h
      obtain ⟨v1, v2, v3, v4⟩ := vis_of h2
      refine PE.of (pe_var (i := i) (by rw [G.N]; exact of_decide_eq_true h1) v1 v2 v3) ?_
      rintro σ H Q ⟨ρ, sl, s, st, sr, o⟩
      have o2 : Out X.K w.xc E ρ H (Rp X.K) (match sl[i]? with
        | some (some d) => .ok d s
        | _ => .bad) Q := o
      split at o2
      · rename_i d e2
        obtain ⟨v, h3, h4⟩ := sr.get i d e2
        exact ⟨v, h3, Out.now o2 st h4⟩
      · exact o2.elim
    · rename_i i
      obtain ⟨h1, h2⟩ := b2 h
      obtain ⟨v1, v2, v3⟩ := gl_of h2
      constructor
      rintro pins s σ H Q I ⟨ρ, sl, s2, st, sr, o⟩
      have o2 : Out X.K w.xc E ρ H (Rp X.K) (opt w.C.c[i]? s2) Q := o
      obtain ⟨d, e2, o3⟩ := Out.opt o2
      obtain ⟨u, v, m1, m2, m3⟩ := G.cn i x d (of_decide_eq_true h1) e2
      exact (pe_glob v1 m1 m2 v2).run pins s σ H Q I (Out.now o3 st (m3 ρ H))
    · cases h
  · -- a constant
    rename_i c j pos
    split at h
    · rename_i d
      cases d with
      | non =>
        cases c <;> first | (cases h; done) | skip
        exact PE.of pe_non fun σ H Q ⟨ρ, sl, s, st, sr, o⟩ => Out.now (a := AV.non) (s := s) o st .non
      | bl b =>
        cases c <;> first | (cases h; done) | skip
        rename_i b'
        have e2 : b = b' := by simpa [litB] using h
        subst e2
        exact PE.of pe_bl fun σ H Q ⟨ρ, sl, s, st, sr, o⟩ => Out.now (a := AV.bl b) (s := s) o st (.bl _)
      | int i =>
        cases c <;> first | (cases h; done) | skip
        rename_i i'
        have e2 : i = i' := by simpa [litB] using h
        subst e2
        exact PE.of pe_int fun σ H Q ⟨ρ, sl, s, st, sr, o⟩ => Out.now (a := AV.int i) (s := s) o st (.int _)
      | str a =>
        cases c <;> first | (cases h; done) | skip
        rename_i a'
        have e2 : a = a' := by simpa [litB] using h
        subst e2
        exact PE.of pe_str fun σ H Q ⟨ρ, sl, s, st, sr, o⟩ => Out.now (a := AV.str a) (s := s) o st (.str _)
      | tup _ => cases c <;> cases h
      | lst _ => cases c <;> cases h
      | ref _ => cases c <;> cases h
      | fn _ => cases c <;> cases h
    · cases h
  · -- a tuple
    rename_i xs j pos
    split at h
    · rename_i es
      refine PE.of (pe_tup (PAs es xs h)) ?_
      rintro σ H Q ⟨ρ, sl, s, st, sr, o⟩
      refine ⟨ρ, sl, s, st, sr, Out.bd o ?_⟩
      intro ds s1 ρ1 H1 vs _ g1 st1 r1 o1
      split at o1
      · rename_i hl
        refine ⟨by rw [r1.len]; exact fits_line hl, fun p hp => ?_⟩
        exact o1 _ _ _ (Go.fresh hp) (st1.fresh hp) (.tup (Or.inl (Or.inl upd_same)) (r1.go (Go.fresh hp)))
      · exact o1.elim
    · cases h
  · rename_i xs pos
    split at h
    · rename_i es
      refine PE.of (pe_lst (PAs es xs h)) ?_
      rintro σ H Q ⟨ρ, sl, s, st, sr, o⟩
      refine ⟨ρ, sl, s, st, sr, Out.bd o ?_⟩
      intro ds s1 ρ1 H1 vs _ g1 st1 r1 o1
      split at o1
      · rename_i hl
        exact ⟨by rw [r1.len]; exact fits_line hl, fun p hp => Out.new o1 st1 r1 hp⟩
      · exact o1.elim
    · cases h
  · rename_i x op y pos
    split at h
    · rename_i o a b
      obtain ⟨h1, h2⟩ := b2 h
      obtain ⟨h3, h4⟩ := b2 h1
      exact PE.of (pe_op (bin_ok (xc := w.xc) (E := E) h3) (S g E X G _ _ h4) (S g E X G _ _ h2)) fun σ H Q hq => two_ok hq fun ρ s x y v u H st r1 r2 o => ⟨ρ, s, x, y, st, r1, r2, o⟩
    · split at h
      · obtain ⟨h, h1⟩ := b2 h
        obtain ⟨h, h2⟩ := b2 h
        obtain ⟨h, h3⟩ := b2 h
        obtain ⟨h, h4⟩ := b2 h
        obtain ⟨h, h5⟩ := b2 h
        obtain ⟨h6, h7⟩ := b2 h
        have e6 := of_decide_eq_true h6
        have e7 := of_decide_eq_true h7
        have e5 := of_decide_eq_true h5
        have e4 := of_decide_eq_true h4
        subst e6 e7 e5 e4
        exact crep_ok S G (by simpa using h2) h3 h1
      · cases h
    · cases h
  · rename_i op x pos
    split at h
    · rename_i a
      refine PE.of (pe_un un_neg (S g E X G _ _ h)) fun σ H Q hq => one_ok hq ?_
      intro ρ s x v H st r o
      cases x with
      | int i =>
        cases r
        exact ⟨i, rfl, Out.now (a := AV.int (-i)) (s := s) o st (.int _)⟩
      | _ => exact False.elim o
    · rename_i a
      refine PE.of (pe_notT (S g E X G _ _ h)) fun σ H Q hq => one_ok hq ?_
      intro ρ s x v H st r o
      cases e : truth s x with
      | none => rw [e] at o; exact o.elim
      | some c =>
        rw [e] at o
        exact ⟨c, truth_ok st r e, Out.now (a := AV.bl (!c)) (s := s) o st (.bl _)⟩
    · cases h
  · rename_i x op y pos
    split at h
    · rename_i o a b
      obtain ⟨h1, h2⟩ := b2 h
      obtain ⟨h3, h4⟩ := b2 h1
      refine PE.of (pe_cmpR (cmp_ok (by omega) h3) (S g E X G _ _ h4) (S g E X G _ _ h2) (cmp_mark h2)) fun σ H Q hq => two_ok hq ?_
      intro ρ s x y v u H st r1 r2 o2
      cases e : opCmp o x y s with
      | none => rw [e] at o2; exact o2.elim
      | some c =>
        rw [e] at o2
        exact ⟨ρ, s, x, y, c, st, r1, r2, e, Out.now (a := AV.bl c) (s := s) o2 st (.bl _)⟩
    · obtain ⟨h, h1⟩ := b2 h
      obtain ⟨h3, h4⟩ := b2 h
      exact din_ok S G h3 h4 h1
    · split at h
      · obtain ⟨h, h1⟩ := b2 h
        obtain ⟨h, h2⟩ := b2 h
        obtain ⟨h3, h4⟩ := b2 h
        exact cin_ok S G (of_decide_eq_true h3) h4 h2 h1
      · cases h
    · cases h
  · rename_i x op op' y z pos
    split at h
    · rename_i o p a b c
      obtain ⟨h1, h2⟩ := b2 h
      obtain ⟨h1, h3⟩ := b2 h1
      obtain ⟨h1, h4⟩ := b2 h1
      obtain ⟨h5, h6⟩ := b2 h1
      exact PE.of (pe_chain (cmp_ok (by omega) h5) (cmp_ok (by omega) h6) (S g E X G _ _ h4) (S g E X G _ _ h3) (S g E X G _ _ h2) (cmp_mark h2)) fun σ H Q hq => chain_ok hq
    · cases h
  · rename_i c x y pos
    split at h
    · rename_i d a b
      obtain ⟨h1, h2⟩ := b2 h
      obtain ⟨h3, h4⟩ := b2 h1
      exact PE.of (pe_ifExp (Tn g E X G _ _ h3).1 (S g E X G _ _ h4) (S g E X G _ _ h2)) fun σ H Q hq => ife_ok hq
    · cases h
  · rename_i x lo hi p2 pos
    split at h
    · rename_i a l hh
      obtain ⟨h1, h2⟩ := b2 h
      obtain ⟨h3, h4⟩ := b2 h1
      refine PE.of (pe_slice (sl_ok (xc := w.xc) (E := E)) (S g E X G _ _ h3) (part_ok (sc := X.env.scope) (e := fun _ _ => .bad) S G l lo h4) (part_ok (sc := X.env.scope) (e := fun _ _ => .bad) S G hh hi h2)) ?_
      rintro σ H Q ⟨ρ, sl, s, st, sr, o⟩
      refine ⟨ρ, sl, s, st, sr, Out.bd o ?_⟩
      intro d s1 ρ1 H1 v _ g1 st1 r1 o1
      refine ⟨ρ1, sl, s1, st1, sr.go g1, Out.bd o1 ?_⟩
      intro lv s2 ρ2 H2 lb _ g2 st2 r2 o2
      subst r2
      refine ⟨ρ2, sl, s2, st2, (sr.go g1).go g2, Out.bd o2 ?_⟩
      intro hv s3 ρ3 H3 hb _ g3 st3 r3 o3
      subst r3
      exact ⟨ρ3, s3, d, st3, (r1.go g2).go g3, o3⟩
    · cases h
  · rename_i x y pos _
    split at h
    · rename_i a i
      obtain ⟨h1, h2⟩ := b2 h
      refine PE.of (pe_ix ix_ok (S g E X G _ _ h1) (S g E X G _ _ h2) (plain_ix h2)) fun σ H Q hq => two_ok hq ?_
      intro ρ s x y v u H st r1 r2 o2
      obtain ⟨d, e2, o3⟩ := Out.opt o2
      exact ⟨ρ, s, x, y, d, st, r1, r2, e2, fun v' rv => Out.now o3 st rv⟩
    · obtain ⟨h1, h2⟩ := b2 h
      exact dix_ok S G h1 h2
    · split at h
      · obtain ⟨h, h1⟩ := b2 h
        obtain ⟨h3, h4⟩ := b2 h
        exact cget_ok S G (of_decide_eq_true h3) h4 h1
      · cases h
    · obtain ⟨h1, h2⟩ := b2 h
      obtain ⟨kk, p1, p2, p3, rfl⟩ := revB_of h1
      refine PE.of (pe_revL (S g E X G _ _ h2)) ?_
      rintro σ H Q ⟨ρ, sl, s, st, sr, o⟩
      refine ⟨ρ, sl, s, st, sr, Out.bd o ?_⟩
      intro d s1 ρ1 H1 v _ g1 st1 r1 o1
      split at o1
      · rename_i ys e1
        obtain ⟨a, xs, rfl, q1, q2⟩ := itemsL_sq st1 r1 e1
        exact ⟨a, xs, rfl, q1, fun p hp => Out.new o1 st1 q2.reverse hp⟩
      · exact o1.elim
    · cases h
  · split at h
    · exact dnew_ok
    · cases h
  · split at h
    · obtain ⟨h1, h2⟩ := b2 h
      exact dmk_ok S G h1 h2
    · cases h
  · split at h
    · obtain ⟨h1, h2⟩ := b2 h
      exact js_ok S G (of_decide_eq_true h1) h2
    · cases h
  · -- a field
    rename_i o f pos
    split at h
    · obtain ⟨h, h1⟩ := b2 h
      obtain ⟨h2, h3⟩ := b2 h
      have e2 := of_decide_eq_true h2
      subst e2
      exact fld_ok S G (by simpa using h3) h1
    · cases h
  · rename_i x p1 xs pos
    split at h
    · -- a def
      rename_i f es
      obtain ⟨h1, h2⟩ := b2 h
      obtain ⟨h3, h4⟩ := b2 h1
      obtain ⟨v1, v2, v3⟩ := gl_of h4
      obtain ⟨a, fd, ps, m1, m2, m3, F⟩ := G.fn (4 * g) f x (of_decide_eq_true h3) (ne_of_gl h4)
      have fin : ∀ σ H Q, tI w X.K E (ev T w g (n + 1) (.call f es)) σ H Q → tIs w X.K E (evs (ev T w g n) es) σ H fun vs H1 => spI X.K w.xc (T (4 * g) f) vs H1 Q E := by
        rintro σ H Q ⟨ρ, sl, s, st, sr, o⟩
        refine ⟨ρ, sl, s, st, sr, Out.bd o ?_⟩
        intro ds s1 ρ1 H1 vs _ g1 st1 r1 o1
        exact callF_ok st1 r1 o1
      cases xs with
      | nil =>
        cases es with
        | cons _ _ => cases h2
        | nil =>
          refine PE.of (pe_callG0 F rm v1 m1 m2 m3 G.ps v2) ?_
          intro σ H Q hq
          obtain ⟨ρ, sl, s, st, sr, o⟩ := hq
          exact callF_ok st .nil o
      | cons y ys =>
        cases es with
        | nil => cases h2
        | cons e0 es0 =>
          obtain ⟨h5, h6⟩ := b2 h2
          exact PE.of (pe_callG F rm v1 m1 m2 m3 G.ps (PAs (e0 :: es0) (y :: ys) h2) v2 (star_plain h5) (args_plain h6)) fin
    · -- a def whose answer is settled
      obtain ⟨h1, h2⟩ := b2 h
      obtain ⟨h3, h4⟩ := b2 h1
      exact callz_ok S G (of_decide_eq_true h3) h4 h2
    · -- a class
      obtain ⟨h1, h2⟩ := b2 h
      obtain ⟨h3, h4⟩ := b2 h1
      exact make_ok S G (of_decide_eq_true h3) h4 h2
    · exact M.ch g E X G _ _ _ _ _ _ _ h0
    · exact M.ss g E X G _ _ _ _ _ h0
    · split at h
      · obtain ⟨h, h1⟩ := b2 h
        obtain ⟨h2, h3⟩ := b2 h
        have e2 := of_decide_eq_true h2
        subst e2
        exact dcopy_ok S G h3 h1
      · cases h
    · rename_i b es hns
      obtain ⟨h1, h2⟩ := b2 h
      obtain ⟨h1, h3⟩ := b2 h1
      obtain ⟨h1, h4⟩ := b2 h1
      obtain ⟨h5, h6⟩ := b2 h1
      obtain ⟨v1, v2, v3⟩ := gl_of h4
      have e6 : x = biN b := of_decide_eq_true h6
      subst e6
      have fin : ∀ σ H Q, tI w X.K E (ev T w g (n + 1) (.bi b es)) σ H Q → tCB (rBi X.K w.xc E b) (tIs w X.K E (evs (ev T w g n) es)) σ H Q := by
        rintro σ H Q ⟨ρ, sl, s, st, sr, o⟩
        refine ⟨ρ, sl, s, st, sr, Out.bd o ?_⟩
        intro ds s1 ρ1 H1 vs _ g1 st1 r1 o1
        exact ⟨ρ1, s1, ds, st1, r1, o1⟩
      cases xs with
      | nil => cases h3
      | cons y ys =>
        cases es with
        | nil => cases h2
        | cons e0 es0 =>
          obtain ⟨h7, h8⟩ := b2 h2
          cases b with
          | len => exact PE.of (pe_callB len_ok v1 (G.bi _ (by decide)) (by decide +kernel) (PAs (e0 :: es0) (y :: ys) h2) v3 v2 (star_plain h7) (args_plain h8)) fin
          | repr => exact PE.of (pe_callB (repr_ok rm.g hu) v1 (G.bi _ (by decide)) (by decide +kernel) (PAs (e0 :: es0) (y :: ys) h2) v3 v2 (star_plain h7) (args_plain h8)) fin
          | int => exact PE.of (pe_callTy int_ok v1 (G.bi _ (by decide)) (by decide +kernel) (PAs (e0 :: es0) (y :: ys) h2) v3 v2 (star_plain h7) (args_plain h8)) fin
          | str => exact PE.of (pe_callTy str_ok v1 (G.bi _ (by decide)) (by decide +kernel) (PAs (e0 :: es0) (y :: ys) h2) v3 v2 (star_plain h7) (args_plain h8)) fin
          | list => exact PE.of (pe_callTy list_ok v1 (G.bi _ (by decide)) (by decide +kernel) (PAs (e0 :: es0) (y :: ys) h2) v3 v2 (star_plain h7) (args_plain h8)) fin
          | tuple => exact PE.of (pe_callTy tuple_ok v1 (G.bi _ (by decide)) (by decide +kernel) (PAs (e0 :: es0) (y :: ys) h2) v3 v2 (star_plain h7) (args_plain h8)) fin
          | sortedSet => cases h5
          | sum => exact PE.of (pe_callB (sum_ok G.calm) v1 (G.bi _ (by decide)) (by decide +kernel) (PAs (e0 :: es0) (y :: ys) h2) v3 v2 (star_plain h7) (args_plain h8)) fin
          | min => exact PE.of (pe_callB (min_ok G.calm) v1 (G.bi _ (by decide)) (by decide +kernel) (PAs (e0 :: es0) (y :: ys) h2) v3 v2 (star_plain h7) (args_plain h8)) fin
          | abs => exact PE.of (pe_callB abs_ok v1 (G.bi _ (by decide)) (by decide +kernel) (PAs (e0 :: es0) (y :: ys) h2) v3 v2 (star_plain h7) (args_plain h8)) fin
          | sorted => exact PE.of (pe_callB sorted_ok v1 (G.bi _ (by decide)) (by decide +kernel) (PAs (e0 :: es0) (y :: ys) h2) v3 v2 (star_plain h7) (args_plain h8)) fin
          | max => exact PE.of (pe_callB (max_ok G.calm) v1 (G.bi _ (by decide)) (by decide +kernel) (PAs (e0 :: es0) (y :: ys) h2) v3 v2 (star_plain h7) (args_plain h8)) fin
    · -- isinstance
      rename_i a t
      split at h
      · rename_i y z p3
        obtain ⟨h1, h2⟩ := b2 h
        obtain ⟨h1, h3⟩ := b2 h1
        obtain ⟨h1, h4⟩ := b2 h1
        obtain ⟨h5, h6⟩ := b2 h1
        obtain ⟨v1, v2, v3⟩ := gl_of h6
        obtain ⟨u1, u2, u3⟩ := gl_of h3
        have e5 : x = "isinstance" := of_decide_eq_true h5
        have e4 : z = tyN t := of_decide_eq_true h4
        subst e5
        subst e4
        have pT : PE X (.Name (tyN t) p3) (tC (.ty (tyS t))) := by
          refine pe_bltn (u := .type (tyS t)) u1 (G.bi _ (by cases t <;> decide)) (by cases t <;> decide +kernel) rfl u3 u2
        refine PE.of (pe_callB call_isi v1 (G.bi _ (by decide)) (by decide +kernel) (pa_cons (S g E X G _ _ h2) (pa_cons pT pa_nil (by rfl)) (star_plain h2)) v3 v2 (star_plain h2) (by rfl)) ?_
        intro σ H Q hq
        refine one_ok hq ?_
        intro ρ s d v H st r o
        cases e : isT s d t with
        | none => rw [e] at o; exact o.elim
        | some c =>
          rw [e] at o
          obtain ⟨T0, q1, q2⟩ := isT_ok st r e
          exact ⟨v, .ty (tyS t), T0, .type (tyS t), c, rfl, .ty _, q1, q2, Out.now (a := AV.bl c) (s := s) o st (.bl _)⟩
      · cases h
    · exact M.qu g E X G _ _ _ _ _ _ _ _ h0
    · cases h
  · -- a method
    rename_i o m apos xs cpos
    split at h
    · obtain ⟨h, h1⟩ := b2 h
      obtain ⟨h, h2⟩ := b2 h
      obtain ⟨h, h3⟩ := b2 h
      obtain ⟨h, h4⟩ := b2 h
      obtain ⟨h5, h6⟩ := b2 h
      have e5 := of_decide_eq_true h5
      subst e5
      exact meth_ok S G (by simpa using h4) h6 (of_decide_eq_true h3) h2 h1
    · split at h
      · obtain ⟨h, h1⟩ := b2 h
        obtain ⟨h, h2⟩ := b2 h
        obtain ⟨h, h3⟩ := b2 h
        obtain ⟨h4, h5⟩ := b2 h
        have e4 := of_decide_eq_true h4
        subst e4
        exact dg1_ok S G h5 (by simpa using h3) h2 h1
      · cases h
    · split at h
      · obtain ⟨h, h1⟩ := b2 h
        obtain ⟨h, h2⟩ := b2 h
        obtain ⟨h, h3⟩ := b2 h
        obtain ⟨h4, h5⟩ := b2 h
        have e4 := of_decide_eq_true h4
        subst e4
        exact dpop_ok S G h5 (by simpa using h3) h2 h1
      · cases h
    · split at h
      · obtain ⟨h, h1⟩ := b2 h
        obtain ⟨h, h2⟩ := b2 h
        obtain ⟨h, h6⟩ := b2 h
        obtain ⟨h, h3⟩ := b2 h
        obtain ⟨h4, h5⟩ := b2 h
        have e4 := of_decide_eq_true h4
        subst e4
        exact dg2_ok S G h5 (by simpa using h3) h6 h2 h1
      · cases h
    · rename_i kk a es
      obtain ⟨h1, h2⟩ := b2 h
      obtain ⟨h1, h3⟩ := b2 h1
      obtain ⟨h1, h4⟩ := b2 h1
      obtain ⟨h1, h6⟩ := b2 h1
      obtain ⟨h7, h8⟩ := b2 h1
      have e7 : m = meN kk := of_decide_eq_true h7
      subst e7
      have hb : bare o = false := by simpa using h6
      have fin : ∀ σ H Q, tI w X.K E (ev T w g (n + 1) (.me kk a es)) σ H Q → tI w X.K E (ev T w g n a) σ H fun x H1 => (∃ ρ s d, StR X.K ρ H1 s ∧ Rp X.K ρ H1 x d ∧ meT kk d s = true) ∧ tIs w X.K E (evs (ev T w g n) es) σ H1 fun vs H2 => rMe X.K w.xc E kk x vs H2 Q := by
        rintro σ H Q ⟨ρ, sl, s, st, sr, o⟩
        refine ⟨ρ, sl, s, st, sr, Out.bd o ?_⟩
        intro d s1 ρ1 H1 v _ g1 st1 r1 o1
        split at o1
        · rename_i hm
          refine ⟨⟨ρ1, s1, d, st1, r1, hm⟩, ρ1, sl, s1, st1, sr.go g1, Out.bd o1 ?_⟩
          intro ds s2 ρ2 H2 vs _ g2 st2 r2 o2
          exact ⟨ρ2, s2, d, ds, st2, r1.go g2, r2, o2⟩
        · exact o1.elim
      have fin2 : ∀ σ H Q, tI w X.K E (ev T w g (n + 1) (.me kk a es)) σ H Q → tBM X.K (meTy kk) (rMe X.K w.xc E kk) (tI w X.K E (ev T w g n a)) (tIs w X.K E (evs (ev T w g n) es)) σ H Q := by
        intro σ H Q hq
        obtain ⟨ρ, sl, s, st, sr, o⟩ := fin σ H Q hq
        refine ⟨ρ, sl, s, st, sr, Out.imp o ?_⟩
        rintro x H1 ⟨⟨ρ2, s2, d, st2, r2, hm⟩, hq2⟩
        exact ⟨meT_ok st2 r2 hm, hq2⟩
      have hsx := S g E X G _ _ h3
      cases xs with
      | nil =>
        cases es with
        | cons _ _ => cases h2
        | nil =>
          have fin0 : ∀ σ H Q, tI w X.K E (ev T w g (n + 1) (.me kk a [])) σ H Q → tBM0 X.K (meTy kk) (rMe X.K w.xc E kk) (tI w X.K E (ev T w g n a)) σ H Q := by
            intro σ H Q hq
            obtain ⟨ρ, sl, s, st, sr, o⟩ := fin σ H Q hq
            refine ⟨ρ, sl, s, st, sr, Out.imp o ?_⟩
            rintro x H1 ⟨⟨ρ2, s2, d, st2, r2, hm⟩, ρ3, sl3, s3, st3, sr3, o3⟩
            exact ⟨meT_ok st2 r2 hm, Out.now (a := ([] : List AV)) (s := s3) o3 st3 .nil⟩
          cases kk with
          | append => exact PE.of (pe_bm0 PySem.F.plainAttrs_list PySem.F.slot_list_append PySem.F.type_list_append append_ok hsx (base_of hb) h8) fin0
          | startswith => exact PE.of (pe_bm0 PySem.F.plainAttrs_str PySem.F.slot_str_startswith PySem.F.type_str_startswith startswith_ok hsx (base_of hb) h8) fin0
          | endswith => exact PE.of (pe_bm0 PySem.F.plainAttrs_str PySem.F.slot_str_endswith PySem.F.type_str_endswith endswith_ok hsx (base_of hb) h8) fin0
          | split => exact PE.of (pe_bm0 PySem.F.plainAttrs_str PySem.F.slot_str_split PySem.F.type_str_split split_ok hsx (base_of hb) h8) fin0
          | join => exact PE.of (pe_bm0 PySem.F.plainAttrs_str PySem.F.slot_str_join PySem.F.type_str_join join_ok hsx (base_of hb) h8) fin0
          | find => exact PE.of (pe_bm0 PySem.F.plainAttrs_str PySem.F.slot_str_find PySem.F.type_str_find find_ok hsx (base_of hb) h8) fin0
          | pop => exact PE.of (pe_bm0 PySem.F.plainAttrs_list PySem.F.slot_list_pop PySem.F.type_list_pop pop_ok hsx (base_of hb) h8) fin0
          | extend => exact PE.of (pe_bm0 PySem.F.plainAttrs_list PySem.F.slot_list_extend PySem.F.type_list_extend extend_ok hsx (base_of hb) h8) fin0
          | reverse => exact PE.of (pe_bm0 PySem.F.plainAttrs_list PySem.F.slot_list_reverse PySem.F.type_list_reverse reverse_ok hsx (base_of hb) h8) fin0
      | cons y ys =>
        cases es with
        | nil => cases h2
        | cons e0 es0 =>
          obtain ⟨p7, p8⟩ := b2 h2
          have hsz := args_form (pos := cpos) (env := X.env) h2 (of_decide_eq_true h4)
          have hax := PAs (e0 :: es0) (y :: ys) h2
          cases kk with
          | append => exact PE.of (pe_bm PySem.F.plainAttrs_list PySem.F.slot_list_append PySem.F.type_list_append append_ok hsx hax (base_of hb) hsz h8 (star_plain p7) (args_plain p8)) fin2
          | startswith => exact PE.of (pe_bm PySem.F.plainAttrs_str PySem.F.slot_str_startswith PySem.F.type_str_startswith startswith_ok hsx hax (base_of hb) hsz h8 (star_plain p7) (args_plain p8)) fin2
          | endswith => exact PE.of (pe_bm PySem.F.plainAttrs_str PySem.F.slot_str_endswith PySem.F.type_str_endswith endswith_ok hsx hax (base_of hb) hsz h8 (star_plain p7) (args_plain p8)) fin2
          | split => exact PE.of (pe_bm PySem.F.plainAttrs_str PySem.F.slot_str_split PySem.F.type_str_split split_ok hsx hax (base_of hb) hsz h8 (star_plain p7) (args_plain p8)) fin2
          | join => exact PE.of (pe_bm PySem.F.plainAttrs_str PySem.F.slot_str_join PySem.F.type_str_join join_ok hsx hax (base_of hb) hsz h8 (star_plain p7) (args_plain p8)) fin2
          | find => exact PE.of (pe_bm PySem.F.plainAttrs_str PySem.F.slot_str_find PySem.F.type_str_find find_ok hsx hax (base_of hb) hsz h8 (star_plain p7) (args_plain p8)) fin2
          | pop => exact PE.of (pe_bm PySem.F.plainAttrs_list PySem.F.slot_list_pop PySem.F.type_list_pop pop_ok hsx hax (base_of hb) hsz h8 (star_plain p7) (args_plain p8)) fin2
          | extend => exact PE.of (pe_bm PySem.F.plainAttrs_list PySem.F.slot_list_extend PySem.F.type_list_extend extend_ok hsx hax (base_of hb) hsz h8 (star_plain p7) (args_plain p8)) fin2
          | reverse => exact PE.of (pe_bm PySem.F.plainAttrs_list PySem.F.slot_list_reverse PySem.F.type_list_reverse reverse_ok hsx hax (base_of hb) hsz h8 (star_plain p7) (args_plain p8)) fin2
    · split at h
      · obtain ⟨h, h1⟩ := b2 h
        obtain ⟨h, h2⟩ := b2 h
        obtain ⟨h, h3⟩ := b2 h
        obtain ⟨h, h4⟩ := b2 h
        obtain ⟨h5, h6⟩ := b2 h
        have e5 := of_decide_eq_true h5
        subst e5
        exact dget_ok S G h6 h4 h3 h2 h1
      · cases h
    · cases h
  · rename_i el tg src ifs scope pos
    split at h
    · exact M.lc g E X G _ _ _ _ _ _ _ _ _ _ _ _ h0
    · cases h
  · cases h
end
end Jp


set_option Elab.async false
set_option linter.all false
set_option maxRecDepth 100000
set_option maxHeartbeats 4000000
namespace Jp
open PySem PySem.Spec PyProof.Rows L2
variable [Tb] [Cb]
section
variable {w : Wd} {T : Nat → Nat → List AV → Sto → Rs AV} {k g n : Nat} {E : XK} {X : Cx}
theorem tt_cmp {o : CO} {a b : Slots → Sto → Rs AV} {σ : L2.St} {H : Hp} {Q : Bool → Hp → Prop} (h : tTr w X.K E (fun σ s => (a σ s).bd fun x s => (b σ s).bd fun y s => opt ((opCmp o x y s).map .bl) s) σ H Q) :
    tTest (tOp (rCmp X.K o) (tI w X.K E a) (tI w X.K E b)) σ H Q := by
  obtain ⟨ρ, sl, s, st, sr, o1⟩ := h
  refine ⟨ρ, sl, s, st, sr, ?_⟩
  cases ea : a sl s with
  | bad => simp only [ea, Rs.bd] at o1; exact False.elim o1
  | exc x s1 => simp only [ea, Rs.bd] at o1 ⊢; exact o1
  | ok x s1 =>
    simp only [ea, Rs.bd] at o1
    intro ρ1 H1 v g1 st1 r1
    refine ⟨ρ1, sl, s1, st1, sr.go g1, ?_⟩
    cases eb : b sl s1 with
    | bad => simp only [eb, Rs.bd] at o1; exact False.elim o1
    | exc y s2 => simp only [eb, Rs.bd] at o1; exact Out.up (r := Rs.exc y s2) (α := Bool) (R := EqB) (Q := Q) o1 g1
    | ok y s2 =>
      simp only [eb, Rs.bd] at o1
      intro ρ2 H2 u g2 st2 r2
      cases ec : opCmp o x y s2 with
      | none => simp only [ec, Option.map, opt, Rs.bd] at o1; exact False.elim o1
      | some c =>
        simp only [ec, Option.map, opt, Rs.bd, truth] at o1
        refine ⟨ρ2, s2, x, y, c, st2, r1.go g2, r2, ec, c, rfl, ?_⟩
        exact o1 ρ2 H2 c (g1.trans g2) st2 rfl
theorem tt_not {a : Slots → Sto → Rs AV} {σ : L2.St} {H : Hp} {Q : Bool → Hp → Prop} (h : tTr w X.K E (fun σ s => (a σ s).bd fun x s => opt ((truth s x).map fun b => .bl (!b)) s) σ H Q) :
    tNot (tTr w X.K E a) σ H Q := by
  obtain ⟨ρ, sl, s, st, sr, o1⟩ := h
  refine ⟨ρ, sl, s, st, sr, ?_⟩
  cases ea : a sl s with
  | bad => simp only [ea, Rs.bd] at o1; exact False.elim o1
  | exc x s1 => simp only [ea, Rs.bd] at o1 ⊢; exact o1
  | ok x s1 =>
    simp only [ea, Rs.bd] at o1 ⊢
    cases ec : truth s1 x with
    | none => simp only [ec, Option.map, opt, Rs.bd] at o1; exact False.elim o1
    | some c =>
      simp only [ec, Option.map, opt, Rs.bd] at o1 ⊢
      have o2 : Out X.K w.xc E ρ H EqB (.ok (!c) s1) Q := o1
      intro ρ' H' b g' st' eb
      cases eb
      exact o2 ρ' H' (!c) g' st' rfl
theorem tt_chain {o p : CO} {a b c : Slots → Sto → Rs AV} {σ : L2.St} {H : Hp} {Q : Bool → Hp → Prop} (h : tTr w X.K E (fun σ s => (a σ s).bd fun x s => (b σ s).bd fun y s => (opt (opCmp o x y s) s).bd fun k s =>
      if k then (c σ s).bd fun z s => opt ((opCmp p y z s).map .bl) s else .ok (.bl false) s) σ H Q) :
    tTest (tChain (rCmp X.K o) (rCmp X.K p) (tI w X.K E a) (tI w X.K E b) (tI w X.K E c)) σ H Q := by
  obtain ⟨ρ, sl, s, st, sr, o1⟩ := h
  refine ⟨ρ, sl, s, st, sr, ?_⟩
  cases ea : a sl s with
  | bad => simp only [ea, Rs.bd] at o1; exact False.elim o1
  | exc x s1 => simp only [ea, Rs.bd] at o1 ⊢; exact o1
  | ok x s1 =>
    simp only [ea, Rs.bd] at o1
    intro ρ1 H1 v g1 st1 r1
    refine ⟨ρ1, sl, s1, st1, sr.go g1, ?_⟩
    cases eb : b sl s1 with
    | bad => simp only [eb, Rs.bd] at o1; exact False.elim o1
    | exc y s2 => simp only [eb, Rs.bd] at o1; exact Out.up (r := Rs.exc y s2) (α := Bool) (R := EqB) (Q := Q) o1 g1
    | ok y s2 =>
      simp only [eb, Rs.bd] at o1
      intro ρ2 H2 u g2 st2 r2
      cases ec : opCmp o x y s2 with
      | none => simp only [ec, opt, Rs.bd] at o1; exact False.elim o1
      | some d =>
        simp only [ec, opt, Rs.bd] at o1
        refine ⟨ρ2, s2, x, y, d, st2, r1.go g2, r2, ec, d, rfl, ?_⟩
        cases d with
        | false =>
          simp only [Bool.false_eq_true, if_false, truth, opt] at o1
          exact ⟨false, rfl, o1 ρ2 H2 false (g1.trans g2) st2 rfl⟩
        | true =>
          simp only [if_true] at o1
          refine ⟨ρ2, sl, s2, st2, (sr.go g1).go g2, ?_⟩
          cases ed : c sl s2 with
          | bad => simp only [ed, Rs.bd] at o1; exact False.elim o1
          | exc z s3 => simp only [ed, Rs.bd] at o1; exact Out.up (r := Rs.exc z s3) (α := Bool) (R := EqB) (Q := Q) o1 (g1.trans g2)
          | ok z s3 =>
            simp only [ed, Rs.bd] at o1
            intro ρ3 H3 t g3 st3 r3
            cases ef : opCmp p y z s3 with
            | none => simp only [ef, Option.map, opt, Rs.bd] at o1; exact False.elim o1
            | some q =>
              simp only [ef, Option.map, opt, Rs.bd, truth] at o1
              exact ⟨ρ3, s3, y, z, q, st3, r2.go g3, r3, ef, q, rfl, o1 ρ3 H3 q ((g1.trans g2).trans g3) st3 rfl⟩

theorem tcin_ok (S : SnE w T k n) (G : Gd w T k g E X) {z : Str} {p pos : Pos} {y : Expr} {d : Nat} {a : IE} {neg : Bool} {op : CmpOp} (hz : w.cn.d[d]? = some z) (hgl : glB X.env.scope z = true) (hop : coB (if neg then .notin else .in_) op = true) (h : mt w.N w.fn w.cn n X.env.scope a y = true) :
    PT X (.Compare y [op] [.Name z p] pos) (tTr w X.K E (ev T w g (n + 1) (.cin neg d a))) := by
  have red : ∀ {ρ : List Addr} {sl : Slots} {s0 : Sto} {H : Hp} {Q : Bool → Hp → Prop}, Out X.K w.xc E ρ H EqB ((ev T w g (n + 1) (.cin neg d a) sl s0).bd fun x s => opt (truth s x) s) Q → Out X.K w.xc E ρ H EqB ((match w.C.d[d]? with
      | some kvs => (ev T w g n a sl s0).bd fun x s => (match x with
        | .str z => .ok (.bl (if neg then (kvs.lookup z).isNone else (kvs.lookup z).isSome)) s
        | _ => .bad)
      | none => .bad : Rs AV).bd fun x s => opt (truth s x) s) Q := fun o => o
  cases hd : w.C.d[d]? with
  | none =>
    constructor
    rintro pins s σ H Q I ⟨ρ, sl, s0, st, sr, o0⟩
    exfalso
    have o1 := red o0
    rw [hd] at o1
    exact o1
  | some kvs =>
    obtain ⟨pa, es, m, hm, D, hk⟩ := G.dn d z kvs hz hd
    have one := pe_gl (p := p) G hgl hm
    have key : ∀ (b : Bool), OpR X (compareOp op) (fun x y H Q => ∃ (z : Str) (r : Option Value), x = .str z ∧ y = .ref pa ∧ PySem.W.nsIn X.K pa z = some r ∧ Q (.bl (if neg then !r.isSome else r.isSome)) H) := fun _ => by
      cases neg with
      | true =>
        cases op <;> first | (cases hop; done) | skip
        exact op_notIn_kd D
      | false =>
        cases op <;> first | (cases hop; done) | skip
        exact op_in_kd D
    refine PT.of (pt_cmpR (key true) (S g E X G a y h) one (by first | rfl | (cases op <;> rfl))) ?_
    rintro σ H Q ⟨ρ, sl, s0, st, sr, o0⟩
    have o1 := red o0
    rw [hd] at o1
    refine ⟨ρ, sl, s0, st, sr, ?_⟩
    have o3 : Out X.K w.xc E ρ H EqB (((ev T w g n a sl s0).bd fun x s => (match x with
        | .str z => .ok (.bl (if neg then (kvs.lookup z).isNone else (kvs.lookup z).isSome)) s
        | _ => .bad)).bd fun x s => opt (truth s x) s) Q := o1
    cases ea : ev T w g n a sl s0 with
    | bad => rw [ea] at o3; exact False.elim o3
    | exc x s1 =>
      rw [ea] at o3
      exact o3
    | ok x s1 =>
      rw [ea] at o3
      intro ρ1 H1 v g1 st1 r1
      cases x with
      | str zz =>
        have q := hk zz
        cases r1
        cases hl : kvs.lookup zz with
        | none =>
          rw [hl] at q
          have o4 : Out X.K w.xc E ρ H EqB (.ok (if neg then (kvs.lookup zz).isNone else (kvs.lookup zz).isSome) s1) Q := o3
          rw [hl] at o4
          refine ⟨zz, none, rfl, rfl, q, _, rfl, ?_⟩
          cases neg <;> exact o4 ρ1 H1 _ g1 st1 rfl
        | some dv =>
          rw [hl] at q
          obtain ⟨u, v0, q1, q2, q3⟩ := q
          have o4 : Out X.K w.xc E ρ H EqB (.ok (if neg then (kvs.lookup zz).isNone else (kvs.lookup zz).isSome) s1) Q := o3
          rw [hl] at o4
          refine ⟨zz, some u, rfl, rfl, q1, _, rfl, ?_⟩
          cases neg <;> exact o4 ρ1 H1 _ g1 st1 rfl
      | _ => exact False.elim o3
theorem tt_din {i a : Slots → Sto → Rs AV} {neg : Bool} {σ : L2.St} {H : Hp} {Q : Bool → Hp → Prop} (h : tTr w X.K E (fun σ s => (i σ s).bd fun y s => (a σ s).bd fun x s => (match dctA s x, keyA y with
      | some kvs, some k => .ok (.bl (if neg then (lookK kvs k).isNone else (lookK kvs k).isSome)) s
      | _, _ => .bad)) σ H Q) : tTest (tOp (fun y x H Q => ∃ a o, x = .ref a ∧ DGet H a y o ∧ Q (.bl (if neg then o.isNone else o.isSome)) H) (tI w X.K E i) (tI w X.K E a)) σ H Q := by
  obtain ⟨ρ, sl, s, st, sr, o1⟩ := h
  refine ⟨ρ, sl, s, st, sr, ?_⟩
  cases ea : i sl s with
  | bad => simp only [ea, Rs.bd] at o1; exact False.elim o1
  | exc x s1 => simp only [ea, Rs.bd] at o1 ⊢; exact o1
  | ok y s1 =>
    simp only [ea, Rs.bd] at o1
    intro ρ1 H1 v g1 st1 r1
    refine ⟨ρ1, sl, s1, st1, sr.go g1, ?_⟩
    cases eb : a sl s1 with
    | bad => simp only [eb, Rs.bd] at o1; exact False.elim o1
    | exc y s2 => simp only [eb, Rs.bd] at o1; exact Out.up (r := Rs.exc y s2) (α := Bool) (R := EqB) (Q := Q) o1 g1
    | ok x s2 =>
      simp only [eb, Rs.bd] at o1
      intro ρ2 H2 u g2 st2 r2
      cases hk : dctA s2 x with
      | none => simp only [hk, Rs.bd] at o1; exact False.elim o1
      | some kvs =>
        cases hy : keyA y with
        | none => simp only [hk, hy, Rs.bd] at o1; exact False.elim o1
        | some ky =>
          simp only [hk, hy, Rs.bd, truth, opt] at o1
          obtain ⟨c, gs, rfl, p1, p2⟩ := dct_at st2 r2 hk
          have eu := key_ok (r1.go g2) hy
          refine ⟨c, valV gs ky, rfl, by rw [eu]; exact DGet.k p1, _, rfl, ?_⟩
          have q := look_val p2 ky
          have q2 : (valV gs ky).isNone = (lookK kvs ky).isNone := by
            cases e1 : valV gs ky <;> cases e2 : lookK kvs ky <;> rw [e1, e2] at q <;> first | rfl | cases q
          rw [q, q2]
          exact o1 ρ2 H2 _ (g1.trans g2) st2 rfl
set_option maxHeartbeats 16000000 in
theorem tn_step (S1 : SnE w T k (n + 1)) (S : SnE w T k n) (Tn : TnE w T k n) : TnE w T k (n + 1) := by
  intro g E X G ir e h
  have plain : (∀ whole, isTrue e X.env whole = (do let v ← whole; standAt e.pos; holding [v] (truthy v))) → (∀ op vs pos, e ≠ .BoolOp op vs pos) →
      PT X e (tTr w X.K E (ev T w g (n + 1) ir)) ∧ ∀ op vs pos, e = .BoolOp op vs pos → PW X e (tTr w X.K E (ev T w g (n + 1) ir)) := fun he hn =>
    ⟨pt_plain (S1 g E X G ir e h) he, fun op vs pos q => absurd q (hn op vs pos)⟩
  have rm := G.rg.rm
  have hu : X.A.units + 100 < cLine := by have := rm.u; have := rm.le; omega
  have h0 := h
  unfold mt at h
  split at h
  · rename_i op x y pos
    have pw : PW X (.BoolOp op [x, y] pos) (tTr w X.K E (ev T w g (n + 1) ir)) := by
      split at h
      · rename_i a b
        obtain ⟨h1, h2⟩ := b2 h
        exact PW.of (pw_and (Tn g E X G _ _ h1).1 (pw_and1 (Tn g E X G _ _ h2).1)) fun σ H Q hq => tand_ok hq
      · rename_i a b
        obtain ⟨h1, h2⟩ := b2 h
        exact PW.of (pw_or (Tn g E X G _ _ h1).1 (pw_or1 (Tn g E X G _ _ h2).1)) fun σ H Q hq => tor_ok hq
      · cases h
    exact ⟨pw.pt, fun _ _ _ _ => pw⟩
  · rename_i op x y z rest pos
    have pw : PW X (.BoolOp op (x :: y :: z :: rest) pos) (tTr w X.K E (ev T w g (n + 1) ir)) := by
      split at h
      · rename_i a b
        obtain ⟨h1, h2⟩ := b2 h
        exact PW.of (pw_and (Tn g E X G _ _ h1).1 ((Tn g E X G _ _ h2).2 _ _ _ rfl)) fun σ H Q hq => tand_ok hq
      · rename_i a b
        obtain ⟨h1, h2⟩ := b2 h
        exact PW.of (pw_or (Tn g E X G _ _ h1).1 ((Tn g E X G _ _ h2).2 _ _ _ rfl)) fun σ H Q hq => tor_ok hq
      · cases h
    exact ⟨pw.pt, fun _ _ _ _ => pw⟩
  · exact plain (fun _ => rfl) fun _ _ _ z => nomatch z
  · exact plain (fun _ => rfl) fun _ _ _ z => nomatch z
  · exact plain (fun _ => rfl) fun _ _ _ z => nomatch z
  · exact plain (fun _ => rfl) fun _ _ _ z => nomatch z
  · exact plain (fun _ => rfl) fun _ _ _ z => nomatch z
  · rename_i op x pos
    split at h
    · exact plain (fun _ => rfl) fun _ _ _ z => nomatch z
    · rename_i a
      exact ⟨PT.of (pt_not (Tn g E X G _ _ h).1) fun σ H Q hq => tt_not hq, fun _ _ _ z => nomatch z⟩
    · cases h
  · rename_i x op y pos
    split at h
    · rename_i o a b
      obtain ⟨h1, h2⟩ := b2 h
      obtain ⟨h3, h4⟩ := b2 h1
      exact ⟨PT.of (pt_cmpR (cmp_ok (by omega) h3) (S g E X G _ _ h4) (S g E X G _ _ h2) (cmp_mark h2)) fun σ H Q hq => tt_cmp hq, fun _ _ _ z => nomatch z⟩
    · obtain ⟨h, h1⟩ := b2 h
      obtain ⟨h3, h4⟩ := b2 h
      exact ⟨PT.of (pt_cmpR (or_din (by omega) h3) (S g E X G _ _ h4) (S g E X G _ _ h1) (cmp_mark h1)) fun σ H Q hq => tt_din hq, fun _ _ _ z => nomatch z⟩
    · split at h
      · obtain ⟨h, h1⟩ := b2 h
        obtain ⟨h, h2⟩ := b2 h
        obtain ⟨h3, h4⟩ := b2 h
        exact ⟨tcin_ok S G (of_decide_eq_true h3) h4 h2 h1, fun _ _ _ z => nomatch z⟩
      · cases h
    · cases h
  · rename_i x op op' y z pos
    split at h
    · rename_i o p a b c
      obtain ⟨h1, h2⟩ := b2 h
      obtain ⟨h1, h3⟩ := b2 h1
      obtain ⟨h1, h4⟩ := b2 h1
      obtain ⟨h5, h6⟩ := b2 h1
      exact ⟨PT.of (pt_chain (cmp_ok (by omega) h5) (cmp_ok (by omega) h6) (S g E X G _ _ h4) (S g E X G _ _ h3) (S g E X G _ _ h2) (cmp_mark h2)) fun σ H Q hq => tt_chain hq, fun _ _ _ z => nomatch z⟩
    · cases h
  · rename_i c x y pos
    split at h
    · rename_i d a b
      obtain ⟨h1, h2⟩ := b2 h
      obtain ⟨h3, h4⟩ := b2 h1
      exact ⟨PT.of (pt_ife (Tn g E X G _ _ h3).1 (Tn g E X G _ _ h4).1 (Tn g E X G _ _ h2).1) fun σ H Q hq => tife_ok hq, fun _ _ _ z => nomatch z⟩
    · cases h
  · exact plain (fun _ => rfl) fun _ _ _ z => nomatch z
  · exact plain (fun _ => rfl) fun _ _ _ z => nomatch z
  · exact plain (fun _ => rfl) fun _ _ _ z => nomatch z
  · exact plain (fun _ => rfl) fun _ _ _ z => nomatch z
  · exact plain (fun _ => rfl) fun _ _ _ z => nomatch z
  · exact plain (fun _ => rfl) fun _ _ _ z => nomatch z
  · exact plain (fun _ => rfl) fun _ _ _ z => nomatch z
  · exact plain (fun _ => rfl) fun _ _ _ z => nomatch z
  · exact plain (fun _ => rfl) fun _ _ _ z => nomatch z
  · cases h
end
end Jp


set_option Elab.async false
set_option linter.all false
set_option maxRecDepth 100000
set_option maxHeartbeats 4000000
namespace Jp
open PySem PySem.Spec PyProof.Rows L2
variable [Tb] [Cb]
section
variable {w : Wd} {T : Nat → Nat → List AV → Sto → Rs AV} {k g n : Nat} {E : XK} {X : Cx} {K : PySem.W.Frag}
/-- a walk over a list, a tuple or a text -/
theorem pi_seq {tg l : Expr} {tl : TE} (hl : PE X l tl) : PI X tg l (fun σ H R => tl σ H fun x H1 => (∃ a xs, x = .ref a ∧ SqL X.K H1 a xs ∧ R (Itl X.K a) H1) ∨ (∃ a xs, x = .ref a ∧ SqT X.K H1 a xs ∧ R (Itt X.K a) H1) ∨ ∃ z, x = .str z ∧ R (Its z) H1) := by
  constructor
  intro pins s σ H R I h
  refine thn (hl.run pins s σ H _ I h) ?_
  rintro v s1 ⟨x, H1, I1, r1, q⟩
  rcases q with ⟨a, xs, rfl, hq, q⟩ | ⟨a, xs, rfl, hq, q⟩ | ⟨z, rfl, q⟩
  · cases r1
    obtain ⟨its, rv, p, hz⟩ := I1.list hq
    exact wpAny_pyIter_list p.isList (pi_one (tk := s1.toks) I1 _ (turn_list a _) ⟨_, Heap.get?_push_size _ rfl, rfl, rfl⟩ q)
  · cases r1
    obtain ⟨its, rv, p, hz⟩ := I1.tuple hq
    exact wpAny_pyIter_tuple (show s1.heap.IsTuple a its.toArray from p) (pi_one (tk := s1.toks) I1 _ (turn_tuple a _) ⟨_, Heap.get?_push_size _ rfl, rfl, rfl⟩ q)
  · obtain ⟨t, rfl⟩ := r1
    cases ha : z.cps.all (· < 128) with
    | false => exact wpAny_pyIter_wide ha (pi_one (tk := s1.toks) I1 _ (turn_str _ z t "str_iterator" (Or.inr rfl)) ⟨_, Heap.get?_push_size _ rfl, rfl, rfl⟩ q)
    | true => exact wpAny_pyIter_ascii ha (pi_one (tk := s1.toks) I1 _ (turn_str _ z t "str_ascii_iterator" (Or.inl rfl)) ⟨_, Heap.get?_push_size _ rfl, rfl, rfl⟩ q)

omit [Tb] [Cb] in
mutual
theorem sameA_eq : ∀ a b : AV, sameA a b = true → a = b
  | .non, b, h => by cases b <;> first | rfl | cases h
  | .bl x, b, h => by cases b <;> first | (exact congrArg AV.bl (by simpa [sameA] using h)) | cases h
  | .int x, b, h => by cases b <;> first | (exact congrArg AV.int (by simpa [sameA] using h)) | cases h
  | .str x, b, h => by cases b <;> first | (exact congrArg AV.str (by simpa [sameA] using h)) | cases h
  | .tup x, b, h => by
    cases b <;> first | (cases h; done) | skip
    rename_i y
    exact congrArg AV.tup (sameL_eq x y (by simpa [sameA] using h))
  | .lst x, b, h => by
    cases b <;> first | (cases h; done) | skip
    rename_i y
    exact congrArg AV.lst (sameL_eq x y (by simpa [sameA] using h))
  | .ref x, b, h => by cases b <;> first | (exact congrArg AV.ref (by simpa [sameA] using h)) | cases h
  | .fn x, b, h => by cases b <;> first | (exact congrArg AV.fn (by simpa [sameA] using h)) | cases h
theorem sameL_eq : ∀ a b : List AV, sameL a b = true → a = b
  | [], [], _ => rfl
  | x :: r, y :: t, h => by
    have h2 : (sameA x y && sameL r t) = true := by simpa [sameL] using h
    obtain ⟨h3, h4⟩ := Bool.and_eq_true_iff.mp h2
    rw [sameA_eq x y h3, sameL_eq r t h4]
  | [], _ :: _, h => by simp [sameL] at h
  | _ :: _, [], h => by simp [sameL] at h
end
/-- the iterator J goes over ys, as long as its source stands -/
def WalkOk (K : PySem.W.Frag) (ρ : List Addr) (H : Hp) (wk : IW) (xs ys : List AV) (J : It) : Prop := ∀ (i : Nat) (ρ' : List Addr) (H' : Hp) (s' : Sto), Go ρ H ρ' H' → StR K ρ' H' s' → stands wk xs ys s' = true →
  (∀ d, ys[i]? = some d → J.go i H' ∧ ∀ x H3, J.yld i H' x H3 → H3 = H' ∧ Rp K ρ' H' x d) ∧ (ys.length ≤ i → J.stop i H')
theorem WalkOk.up {ρ ρ1 : List Addr} {H H1 : Hp} {wk : IW} {xs ys : List AV} {J : It} (h : WalkOk K ρ H wk xs ys J) (g : Go ρ H ρ1 H1) : WalkOk K ρ1 H1 wk xs ys J := fun i ρ' H' s' g2 => h i ρ' H' s' (g.trans g2)
theorem walk_list {ρ : List Addr} {H : Hp} {wk : IW} {xs ys : List AV} {a : Addr} (h : ∀ (ρ' : List Addr) (H' : Hp) (s' : Sto), Go ρ H ρ' H' → StR K ρ' H' s' → stands wk xs ys s' = true → ∃ vs, SqL K H' a vs ∧ RpL K ρ' H' vs ys) :
    WalkOk K ρ H wk xs ys (Itl K a) := fun i ρ' H' s' g st hs => by
  obtain ⟨vs, h1, h2⟩ := h ρ' H' s' g st hs
  refine ⟨fun d hd => ?_, fun hl => ⟨vs, h1, by rw [h2.len]; exact hl⟩⟩
  obtain ⟨v, hv, rv⟩ := h2.get hd
  refine ⟨⟨vs, v, h1, hv⟩, fun x H3 ⟨e, q⟩ => ⟨e, ?_⟩⟩
  have z := q vs h1
  rw [hv] at z
  cases z
  exact rv
theorem walk_tup {ρ : List Addr} {H : Hp} {wk : IW} {xs ys : List AV} {a : Addr} {vs : List V} (h1 : SqT K H a vs) (h2 : RpL K ρ H vs ys) : WalkOk K ρ H wk xs ys (Itt K a) := fun i ρ' H' s' g st hs => by
  have h3 := sqt_gr g.g h1
  have h4 := h2.go g
  refine ⟨fun d hd => ?_, fun hl => ⟨vs, h3, by rw [h4.len]; exact hl⟩⟩
  obtain ⟨v, hv, rv⟩ := h4.get hd
  refine ⟨⟨vs, v, h3, hv⟩, fun x H3 ⟨e, q⟩ => ⟨e, ?_⟩⟩
  have z := q vs h3
  rw [hv] at z
  cases z
  exact rv
theorem walk_str {ρ : List Addr} {H : Hp} {wk : IW} {xs : List AV} (z : Str) : WalkOk K ρ H wk xs (z.cps.toList.map fun c => AV.str ⟨⟨[c]⟩⟩) (Its z) := fun i ρ' H' s' g st hs => by
  have sz : z.cps.size = z.cps.toList.length := by simp
  refine ⟨fun d hd => ?_, fun hl => ?_⟩
  · rw [List.getElem?_map] at hd
    cases e : z.cps.toList[i]? with
    | none => rw [e] at hd; cases hd
    | some c =>
      rw [e] at hd
      cases hd
      have hi : i < z.cps.size := by rw [sz]; exact (List.getElem?_eq_some_iff.mp e).1
      refine ⟨hi, fun x H3 ⟨e1, c', e2, e3⟩ => ⟨e1, ?_⟩⟩
      rw [← Array.getElem?_toList, e] at e2
      cases e2
      rw [e3]
      exact .str _
  · show z.cps.size ≤ i
    rw [sz]
    simpa using hl
theorem walk_rng {ρ : List Addr} {H : Hp} {wk : IW} {xs : List AV} (lo : Int) (m : Nat) : WalkOk K ρ H wk xs ((List.range m).map fun (k : Nat) => AV.int (lo + (k : Int))) (Itr lo m) := fun i ρ' H' s' g st hs => by
  refine ⟨fun d hd => ?_, fun hl => ?_⟩
  · rw [List.getElem?_map] at hd
    by_cases hi : i < m
    · rw [List.getElem?_range hi] at hd
      cases hd
      exact ⟨hi, fun x H3 ⟨e1, e2⟩ => ⟨e1, by rw [e2]; exact .int _⟩⟩
    · rw [List.getElem?_eq_none (by simpa using hi)] at hd
      cases hd
  · show m ≤ i
    simpa using hl
/-- what a for goes over -/
def wkE (wk : IW) (e : Slots → Sto → Rs (List AV)) : Slots → Sto → Rs (List AV × List AV) := fun σ s => (e σ s).bd fun xs s => (opt (walk wk xs s) s).bd fun ys s => .ok (xs, ys) s
def tW (w : Wd) (K : PySem.W.Frag) (E : XK) (wk : IW) (e : Slots → Sto → Rs (List AV)) : TI := fun σ H R => ∃ ρ sl s, StR K ρ H s ∧ SlR K ρ H σ sl ∧ Out K w.xc E ρ H (fun ρ' H' (J : It) (a : List AV × List AV) => WalkOk K ρ' H' wk a.1 a.2 J) (wkE wk e sl s) R
theorem PI.of {tg iter : Expr} {t t' : TI} (h : PI X tg iter t) (ht : ∀ σ H Q, t' σ H Q → t σ H Q) : PI X tg iter t' := ⟨fun pins s σ H Q I q => h.run pins s σ H Q I (ht σ H Q q)⟩
theorem walk_r2 {ds ys : List AV} {s : Sto} (h : walk .range2 ds s = some ys) : ∃ i j, ds = [.int i, .int j] ∧ ((-4611686018427387904 ≤ i ∧ i < 4611686018427387904) ∧ -4611686018427387904 ≤ j ∧ j < 4611686018427387904) ∧ ys = (List.range (j - i).toNat).map fun (k : Nat) => AV.int (i + (k : Int)) := by
  unfold walk at h
  split at h <;> first | (rename_i hh _; cases hh; done) | (rename_i hh; cases hh; done) | skip
  · split at h
    · rename_i hc
      cases h
      exact ⟨_, _, rfl, hc, rfl⟩
    · cases h
  · cases h
theorem pi_walk (S : SnE w T k n) (G : Gd w T k g E X) {wk : IW} {it : List IE} {tg src : Expr} (h : mt.mtW w.N w.fn w.cn n X.env.scope wk it src = true) : PI X tg src (tW w X.K E wk (evs (ev T w g n) it)) := by
  have PAs : ∀ irs es, all2 (mt w.N w.fn w.cn n X.env.scope) irs es = true → PA X es (tIs w X.K E (evs (ev T w g n) irs)) := fun irs es q => pa_all (fun ir e q => S g E X G ir e q) irs es q
  cases wk with
  | range1 =>
    unfold mt.mtW mtW' at h
    dsimp only at h
    split at h
    · rename_i x p1 y p2
      obtain ⟨h1, h2⟩ := b2 h
      obtain ⟨h3, h4⟩ := b2 h1
      have e3 : x = "range" := of_decide_eq_true h3
      subst e3
      have hs : starEach [y] X.env = [(false, eval y X.env)] := by
        cases it with
        | nil => cases h2
        | cons a r => exact star_plain (b2 h2).1
      refine PI.of (pi_range1 (gl_of h4).1 (G.bi _ (by decide)) (PAs it [y] h2) hs) ?_
      rintro σ H R ⟨ρ, sl, s, st, sr, o⟩
      refine ⟨ρ, sl, s, st, sr, Out.bd o ?_⟩
      intro ds s1 ρ1 H1 vs _ g1 st1 r1 o1
      match ds, r1, o1 with
      | [.int j], r1, o1 =>
        obtain ⟨v, rfl, rv⟩ := rpl1 r1
        cases rv
        have o2 : Out X.K w.xc E ρ1 H1 (fun ρ' H' (J : It) (a : List AV × List AV) => WalkOk X.K ρ' H' .range1 a.1 a.2 J) ((opt (if -4611686018427387904 ≤ j ∧ j < 4611686018427387904 then some ((List.range j.toNat).map fun (k : Nat) => AV.int k) else none) s1).bd fun ys s => .ok ([.int j], ys) s) R := o1
        by_cases hc : -4611686018427387904 ≤ j ∧ j < 4611686018427387904
        · rw [if_pos hc] at o2
          refine ⟨j, rfl, hc.1, hc.2, ?_⟩
          refine Out.now (a := ([AV.int j], (List.range j.toNat).map fun (k : Nat) => AV.int k)) (s := s1) o2 st1 ?_
          have z := walk_rng (K := X.K) (ρ := ρ1) (H := H1) (wk := .range1) (xs := [.int j]) 0 j.toNat
          simpa using z
        · rw [if_neg hc] at o2
          exact o2.elim
      | [], _, o1 => exact False.elim o1
      | [.non], _, o1 => exact False.elim o1
      | [.bl _], _, o1 => exact False.elim o1
      | [.str _], _, o1 => exact False.elim o1
      | [.tup _], _, o1 => exact False.elim o1
      | [.lst _], _, o1 => exact False.elim o1
      | [.ref _], _, o1 => exact False.elim o1
      | a :: _ :: _, _, o1 => cases a <;> exact False.elim o1
    · cases h
  | range2 =>
    unfold mt.mtW mtW' at h
    dsimp only at h
    split at h
    · rename_i x p1 y z p2
      obtain ⟨h1, h2⟩ := b2 h
      obtain ⟨h3, h4⟩ := b2 h1
      have e3 : x = "range" := of_decide_eq_true h3
      subst e3
      have hs : starEach [y, z] X.env = [(false, eval y X.env), (false, eval z X.env)] ∧ starEach [z] X.env = [(false, eval z X.env)] := by
        match it, h2 with
        | [a, b], h2 =>
          obtain ⟨q1, q2⟩ := b2 h2
          obtain ⟨q3, _⟩ := b2 q2
          have e1 := star_plain (es := [z]) (env := X.env) q1
          have e2 := star_plain (es := []) (env := X.env) q3
          exact ⟨by rw [e1, e2]; rfl, by rw [e2]; rfl⟩
        | [], h2 => cases h2
        | [a], h2 =>
          obtain ⟨_, q⟩ := b2 h2
          cases q
        | a :: b :: c :: r, h2 =>
          obtain ⟨_, q⟩ := b2 h2
          obtain ⟨_, q⟩ := b2 q
          cases q
      refine PI.of (pi_range2 (gl_of h4).1 (G.bi _ (by decide)) (PAs it [y, z] h2) hs.1 hs.2) ?_
      rintro σ H R ⟨ρ, sl, s, st, sr, o⟩
      refine ⟨ρ, sl, s, st, sr, Out.bd o ?_⟩
      intro ds s1 ρ1 H1 vs _ g1 st1 r1 o1
      cases e : walk .range2 ds s1 with
      | none => rw [e] at o1; exact o1.elim
      | some ys =>
        rw [e] at o1
        obtain ⟨i, j, rfl, hc, rfl⟩ := walk_r2 e
        cases r1 with
        | cons ra rb =>
          obtain ⟨v, rfl, rv⟩ := rpl1 rb
          cases ra
          cases rv
          refine ⟨i, j, rfl, ⟨hc.1.1, hc.1.2, hc.2.1, hc.2.2⟩, ?_⟩
          exact Out.now (a := ([AV.int i, AV.int j], (List.range (j - i).toNat).map fun (k : Nat) => AV.int (i + (k : Int)))) (s := s1) o1 st1 (walk_rng i (j - i).toNat)
    · cases h
  | seq =>
    have h2 : all2 (mt w.N w.fn w.cn n X.env.scope) it [src] = true := by
      unfold mt.mtW mtW' at h
      dsimp only at h
      exact h
    match it, h2 with
    | [a], h2 =>
      obtain ⟨q1, _⟩ := b2 h2
      refine PI.of (pi_seq (S g E X G a src q1)) ?_
      rintro σ H R ⟨ρ, sl, s, st, sr, o⟩
      refine ⟨ρ, sl, s, st, sr, ?_⟩
      have o1 : Out X.K w.xc E ρ H (fun ρ' H' (J : It) (a : List AV × List AV) => WalkOk X.K ρ' H' .seq a.1 a.2 J) ((ev T w g n a sl s).bd fun d s => (opt (walk .seq [d] s) s).bd fun ys s => .ok ([d], ys) s) R := by
        have e : wkE .seq (evs (ev T w g n) [a]) sl s = (ev T w g n a sl s).bd fun d s => (opt (walk .seq [d] s) s).bd fun ys s => .ok ([d], ys) s := by
          unfold wkE evs evs
          cases ev T w g n a sl s <;> rfl
        rw [← e]
        exact o
      refine Out.bd o1 ?_
      intro d s1 ρ1 H1 v _ g1 st1 r1 o2
      cases e : walk .seq [d] s1 with
      | none => rw [e] at o2; exact o2.elim
      | some ys =>
        rw [e] at o2
        have fin : ∀ J, WalkOk X.K ρ1 H1 .seq [d] ys J → R J H1 := fun J hJ => Out.now (a := ([d], ys)) (s := s1) o2 st1 hJ
        cases r1 with
        | str z =>
          have e2 : some (z.cps.toList.map fun c => AV.str ⟨⟨[c]⟩⟩) = some ys := e
          cases e2
          exact Or.inr (Or.inr ⟨z, rfl, fin _ (walk_str z)⟩)
        | @tup a xs ds p q =>
          have e2 : some ds = some ys := e
          cases e2
          exact Or.inr (Or.inl ⟨a, xs, rfl, p, fin _ (walk_tup p q)⟩)
        | @lst a xs ds p q =>
          have e2 : some ds = some ys := e
          cases e2
          exact Or.inl ⟨a, xs, rfl, p.sq, fin _ (walk_list fun ρ' H' s' g2 _ _ => ⟨xs, (p.gr g2.g).sq, q.go g2⟩)⟩
        | @ref a m p =>
          have e2 : (match s1[m]? with
            | some (.lst xs) => some xs
            | _ => none) = some ys := e
          split at e2
          · rename_i zs hs
            cases e2
            obtain ⟨xs, q1, q2⟩ := st1.at p hs
            refine Or.inl ⟨a, xs, rfl, Or.inl (Or.inl q1), fin _ (walk_list fun ρ' H' s' g2 st' hst => ?_)⟩
            have h3 : (match s'[m]? with
              | some (.lst ws) => sameL ws ys
              | _ => false) = true := hst
            split at h3
            · rename_i ws hs'
              have h4 := sameL_eq _ _ h3
              rw [h4] at hs'
              obtain ⟨us, q3, q4⟩ := st'.at (g2.le _ _ p) hs'
              exact ⟨us, Or.inl (Or.inl q3), q4⟩
            · cases h3
          · cases e2
        | fn _ => cases e
        | non => cases e
        | bl _ => cases e
        | int _ => cases e
    | [], h2 => cases h2
    | a :: b :: r, h2 =>
      obtain ⟨_, q⟩ := b2 h2
      cases q
  | signs =>
    unfold mt.mtW mtW' at h
    dsimp only at h
    cases h
end
end Jp


set_option Elab.async false
set_option linter.all false
set_option maxRecDepth 100000
set_option maxHeartbeats 4000000
namespace Jp
open PySem PySem.Spec PyProof.Rows L2
variable [Tb] [Cb]
section
variable {w : Wd} {T : Nat → Nat → List AV → Sto → Rs AV} {k g n : Nat} {E : XK} {X : Cx} {K : PySem.W.Frag}
/-! ### targets -/
/-- but for the slots is -/
def ButS (is : List Nat) (σ σ' : L2.St) : Prop := ∀ vs : List Nat, (∀ i ∈ is, i ∈ vs) → L2.wipe σ' vs = L2.wipe σ vs
theorem wipe_none (σ : L2.St) : ∀ (vs : List Nat) (i : Nat), i ∈ vs → (L2.wipe σ vs).set i none = L2.wipe σ vs
  | v :: vs, i, h => by
    show ((L2.wipe σ vs).set v none).set i none = (L2.wipe σ vs).set v none
    by_cases e : i = v
    · subst e
      rw [List.set_set]
    · have h2 : i ∈ vs := by
        rcases List.mem_cons.mp h with z | z
        · exact absurd z e
        · exact z
      rw [List.set_comm _ _ (fun z => e z.symm), wipe_none σ vs i h2]
theorem wipe_set (σ : L2.St) (o : Option V) : ∀ (vs : List Nat) (i : Nat), i ∈ vs → L2.wipe (σ.set i o) vs = L2.wipe σ vs
  | v :: vs, i, h => by
    show (L2.wipe (σ.set i o) vs).set v none = (L2.wipe σ vs).set v none
    by_cases h2 : i ∈ vs
    · rw [wipe_set σ o vs i h2]
    · have e : i = v := by
        rcases List.mem_cons.mp h with z | z
        · exact z
        · exact absurd z h2
      subst e
      have com : ∀ ws : List Nat, i ∉ ws → L2.wipe (σ.set i o) ws = (L2.wipe σ ws).set i o := by
        intro ws
        induction ws with
        | nil => intro _; rfl
        | cons a r ih =>
          intro hn
          show (L2.wipe (σ.set i o) r).set a none = ((L2.wipe σ r).set a none).set i o
          rw [ih (fun z => hn (List.mem_cons_of_mem _ z)), List.set_comm _ _ (fun z => hn (by rw [z]; exact List.mem_cons_self))]
      rw [com vs h2, List.set_set]
theorem wipe_wipe (σ : L2.St) : ∀ vs ws : List Nat, (∀ i ∈ ws, i ∈ vs) → L2.wipe (L2.wipe σ ws) vs = L2.wipe σ vs
  | vs, [], _ => rfl
  | vs, a :: ws, h => by
    show L2.wipe ((L2.wipe σ ws).set a none) vs = L2.wipe σ vs
    rw [wipe_set _ _ vs a (h a List.mem_cons_self), wipe_wipe σ vs ws fun i hi => h i (List.mem_cons_of_mem _ hi)]
def tG (K : PySem.W.Frag) (t : IT) : TG := fun v σ H Q => ∃ ρ sl s d sl2, StR K ρ H s ∧ SlR K ρ H σ sl ∧ Rp K ρ H v d ∧ asT s t d sl = some sl2 ∧ ∀ σ', SlR K ρ H σ' sl2 → ButS (tsl t) σ σ' → Q σ' H
def tGs (K : PySem.W.Frag) (ts : List IT) : TGs := fun vs σ H Q => ∃ ρ sl s ds sl2, StR K ρ H s ∧ SlR K ρ H σ sl ∧ RpL K ρ H vs ds ∧ asTs s ts ds sl = some sl2 ∧ ∀ σ', SlR K ρ H σ' sl2 → ButS (tsl.go ts) σ σ' → Q σ' H
theorem PG.of {e : Expr} {t t' : TG} (h : PG X e t) (ht : ∀ v σ H Q, t' v σ H Q → t v σ H Q) : PG X e t' := ⟨fun pins s σ H v u Q I r q => h.run pins s σ H v u Q I r (ht v σ H Q q)⟩
theorem PGs.of {e : List Expr} {t t' : TGs} (h : PGs X e t) (ht : ∀ v σ H Q, t' v σ H Q → t v σ H Q) : PGs X e t' := ⟨fun pins s σ H v u Q I r q => h.run pins s σ H v u Q I r (ht v σ H Q q)⟩
theorem PG.or {e : Expr} {t t' : TG} (h : PG X e t) (h' : PG X e t') : PG X e (fun v σ H Q => t v σ H Q ∨ t' v σ H Q) := ⟨fun pins s σ H v u Q I r q => q.elim (h.run pins s σ H v u Q I r) (h'.run pins s σ H v u Q I r)⟩
theorem asg_plain {N : List Str} {sc osc : Scope} {t : IT} {e : Expr} {es : List Expr} {env : Env} (h : mtT N sc osc t e = true) : assignEach (e :: es) env = (false, assign e env) :: assignEach es env := by
  cases t <;> cases e <;> first | rfl | (simp [mtT] at h)
theorem asg_len {N : List Str} {sc osc : Scope} {env : Env} : ∀ {ts : List IT} {es : List Expr}, mtTs N sc osc ts es = true → (assignEach es env).length = ts.length ∧ (assignEach es env).findIdx? (·.1) = none
  | [], [], _ => ⟨rfl, rfl⟩
  | t :: ts, e :: es, h => by
    have h2 : (mtT N sc osc t e && mtTs N sc osc ts es) = true := by simpa [mtTs] using h
    obtain ⟨h3, h4⟩ := b2 h2
    obtain ⟨q1, q2⟩ := asg_len (env := env) h4
    rw [asg_plain h3]
    refine ⟨by simp [q1], ?_⟩
    rw [List.findIdx?_cons, q2] <;> rfl
  | [], _ :: _, h => by simp [mtTs] at h
  | _ :: _, [], h => by simp [mtTs] at h
mutual
theorem pg_ok (hN : X.N.Nodup) (hc : X.calm = true) (cw : ∀ (j : Nat) (p : Addr), Cb.cl = some (j, p) → X.N[j]? = some "combine") {osc : Scope} (own : ∀ x, osc.names.lookup x = some .cell → X.fn x = true) : ∀ (t : IT) (e : Expr), mtT X.N X.env.scope osc t e = true → PG X e (tG X.K t)
  | .nm i, e, h => by
    cases e with
    | Name x pos =>
      have h2 : (decide (X.N[i]? = some x) && decide (X.env.scope.names.lookup x = osc.names.lookup x) && (decide (osc.names.lookup x = some .local) || decide (osc.names.lookup x = some .cell)) && !dunder x) = true := by simpa only [mtT] using h
      obtain ⟨h3, hdun⟩ := b2 h2
      obtain ⟨h3, h5⟩ := b2 h3
      obtain ⟨h4, h8⟩ := b2 h3
      have h9 : X.env.scope.names.lookup x = osc.names.lookup x := of_decide_eq_true h8
      have h6 : X.env.scope.names.lookup x = some .local ∨ X.env.scope.names.lookup x = some .cell := by
        rw [h9]
        rcases Bool.or_eq_true_iff.mp h5 with q | q
        · exact Or.inl (of_decide_eq_true q)
        · exact Or.inr (of_decide_eq_true q)
      have h7 : X.fn x = true ∨ X.env.scope.names.lookup x = some .local := by
        rw [h9]
        rcases Bool.or_eq_true_iff.mp h5 with q | q
        · exact Or.inr (of_decide_eq_true q)
        · exact Or.inl (own x (of_decide_eq_true q))
      refine PG.of (pg_name (i := i) hN (of_decide_eq_true h4) h6 h7) ?_
      rintro v σ H Q ⟨ρ, sl, s, d, sl2, st, sr, r, ha, q⟩
      have ha2 : (if i < sl.length then some (sl.set i (some d)) else none) = some sl2 := by simpa only [asT] using ha
      split at ha2
      · cases ha2
        exact q _ (sr.set r i (notC_of cw (of_decide_eq_true h4) (by simpa using hdun))) fun vs hv => wipe_set _ _ vs i (hv i (by simp [tsl]))
      · cases ha2
    | _ => simp [mtT] at h
  | .tp ts, e, h => by
    cases e with
    | Tuple es j pos =>
      have h2 : mtTs X.N X.env.scope osc ts es = true := by simpa only [mtT] using h
      obtain ⟨q1, q2⟩ := asg_len (env := X.env) h2
      have P := pgs_ok hN hc cw own ts es h2
      refine PG.of (PG.or (pg_tup hc P q1 q2) (pg_unl hc P q1 q2)) ?_
      rintro v σ H Q ⟨ρ, sl, s, d, sl2, st, sr, r, ha, q⟩
      simp only [asT] at ha
      split at ha
      · rename_i ds e
        obtain ⟨a, xs, rfl, hq, rl⟩ := items_sq st r e
        have hl : xs.length = ts.length := by
          rw [rl.len]
          exact asTs_len _ _ _ _ ha
        rcases hq with hq | hq
        · exact Or.inr ⟨a, xs, rfl, hq, hl, ρ, sl, s, ds, sl2, st, sr, rl, ha, q⟩
        · exact Or.inl ⟨a, xs, rfl, hq, hl, ρ, sl, s, ds, sl2, st, sr, rl, ha, q⟩
      · cases ha
    | _ => simp [mtT] at h
theorem pgs_ok (hN : X.N.Nodup) (hc : X.calm = true) (cw : ∀ (j : Nat) (p : Addr), Cb.cl = some (j, p) → X.N[j]? = some "combine") {osc : Scope} (own : ∀ x, osc.names.lookup x = some .cell → X.fn x = true) : ∀ (ts : List IT) (es : List Expr), mtTs X.N X.env.scope osc ts es = true → PGs X es (tGs X.K ts)
  | [], [], _ => PGs.of pgs_nil fun vs σ H Q ⟨ρ, sl, s, ds, sl2, st, sr, r, ha, q⟩ => by
    cases ds with
    | nil =>
      cases r
      have e : some sl = some sl2 := by simpa only [asTs] using ha
      cases e
      exact ⟨rfl, q _ sr fun _ _ => rfl⟩
    | cons _ _ => simp [asTs] at ha
  | t :: ts, e :: es, h => by
    have h2 : (mtT X.N X.env.scope osc t e && mtTs X.N X.env.scope osc ts es) = true := by simpa only [mtTs] using h
    obtain ⟨h3, h4⟩ := b2 h2
    refine PGs.of (pgs_cons (pg_ok hN hc cw own t e h3) (pgs_ok hN hc cw own ts es h4) (by rw [asg_plain h3]; rfl)) ?_
    rintro vs σ H Q ⟨ρ, sl, s, ds, sl2, st, sr, r, ha, q⟩
    cases ds with
    | nil => simp [asTs] at ha
    | cons d ds =>
      cases r with
      | cons ra rb =>
        simp only [asTs] at ha
        split at ha
        · rename_i sl1 e
          exact ⟨_, _, rfl, ρ, sl, s, d, sl1, st, sr, ra, e, fun σ' sr' b1 => ⟨ρ, sl1, s, ds, sl2, st, sr', rb, ha, fun σ2 sr2 b2 => q σ2 sr2 fun vs hv => by
            rw [b2 vs fun i hi => hv i (by show i ∈ tsl t ++ tsl.go ts; exact List.mem_append_right _ hi), b1 vs fun i hi => hv i (by show i ∈ tsl t ++ tsl.go ts; exact List.mem_append_left _ hi)]⟩⟩
        · cases ha
  | [], _ :: _, h => by simp [mtTs] at h
  | _ :: _, [], h => by simp [mtTs] at h
theorem asTs_len : ∀ (s : Sto) (ts : List IT) (ds : List AV) (sl : Slots) {sl2 : Slots}, asTs s ts ds sl = some sl2 → ds.length = ts.length
  | s, [], [], _, _, _ => rfl
  | s, t :: ts, d :: ds, sl, sl2, h => by
    simp only [asTs] at h
    split at h
    · rename_i sl1 e
      simp [asTs_len s ts ds sl1 h]
    · cases h
  | s, [], _ :: _, _, _, h => by simp [asTs] at h
  | s, _ :: _, [], _, _, h => by simp [asTs] at h
end
end
end Jp


set_option Elab.async false
set_option linter.all false
set_option maxRecDepth 100000
set_option maxHeartbeats 4000000
namespace Jp
open PySem PySem.Spec PyProof.Rows L2
variable [Tb] [Cb]
section
variable {w : Wd} {T : Nat → Nat → List AV → Sto → Rs AV} {k g n : Nat} {E : XK} {X : Cx} {K : PySem.W.Frag} {xc : List (Addr × List Str)}
theorem Rs.assoc {α β γ : Type} (r : Rs α) (f : α → Sto → Rs β) (h : β → Sto → Rs γ) : (r.bd f).bd h = r.bd fun a s => (f a s).bd h := by
  cases r <;> rfl
theorem Out.bdX {ρ ρ0 : List Addr} {H H0 : Hp} {α β γ δ : Type} {R : List Addr → Hp → β → α → Prop} {R2 : List Addr → Hp → δ → γ → Prop} {r : Rs α} {f : α → Sto → Rs γ} {Q : δ → Hp → Prop} {Q' : β → Hp → Prop} (h : Out K xc E ρ H R2 ((noX r).bd f) Q)
    (hk : ∀ a s ρ1 H1 b, r = .ok a s → Go ρ0 H0 ρ1 H1 → StR K ρ1 H1 s → R ρ1 H1 b a → Out K xc E ρ H R2 (f a s) Q → Q' b H1) : Out K xc E0 ρ0 H0 R r Q' := by
  cases r with
  | ok a s => exact fun ρ' H' b g st rb => hk a s ρ' H' b rfl g st rb h
  | exc x s => exact False.elim h
  | bad => exact False.elim h
mutual
theorem sameA_refl : ∀ a : AV, sameA a a = true
  | .non => rfl
  | .bl x => by simp [sameA]
  | .int x => by simp [sameA]
  | .str x => by simp [sameA]
  | .tup x => by simp [sameA, sameL_refl x]
  | .lst x => by simp [sameA, sameL_refl x]
  | .ref x => by simp [sameA]
  | .fn x => by simp [sameA]
theorem sameL_refl : ∀ a : List AV, sameL a a = true
  | [] => by simp [sameL]
  | x :: r => by simp [sameL, sameA_refl x, sameL_refl r]
end
theorem stands_now {wk : IW} {xs ys : List AV} {s : Sto} (h : walk wk xs s = some ys) : stands wk xs ys s = true := by
  unfold stands
  split
  · rename_i m
    have h2 : (match s[m]? with
      | some (.lst xs) => some xs
      | _ => none) = some ys := h
    split at h2
    · rename_i zs e
      cases h2
      first
        | exact sameL_refl _
        | (rw [e]; exact sameL_refl _)
    · cases h2
  · rfl
section
variable {ρ ρ1 : List Addr} {H H1 : Hp} {s : Sto} {D : Addr}
theorem StR.notin (h : StR K ρ H s) {p : Addr} (hp : ∀ xs, H p ≠ some (.lst xs)) (hp2 : ∀ C dx gs, H p ≠ some (.ins C dx gs)) (hp3 : ∀ gs, H p ≠ some (.dK gs)) : p ∉ ρ := fun hm => by
  obtain ⟨m, hn⟩ := List.getElem?_of_mem hm
  have hl : m < s.length := by rw [h.len]; exact (List.getElem?_eq_some_iff.mp hn).1
  have hob := h.ob m p s[m] hn (List.getElem?_eq_getElem hl)
  cases hso : s[m] with
  | lst ds =>
    rw [hso] at hob
    obtain ⟨ys, e, _⟩ := hob
    exact hp ys e
  | ins c fs =>
    rw [hso] at hob
    obtain ⟨dx, gs, e, _⟩ := hob
    exact hp2 _ _ _ e
  | dct kvs =>
    rw [hso] at hob
    obtain ⟨gs, e, _⟩ := hob
    exact hp3 _ e
theorem StR.other (h : StR K ρ H s) (hD : D ∉ ρ) {xs ys : List V} (hl : H D = some (.lst xs)) : StR K ρ (L2.upd H D (.lst ys)) s := ⟨h.len, h.nd, h.tb.upd (fun u z => by rw [hl] at z; cases z; exact ⟨fun _ z => (by cases z), fun _ z => (by cases z)⟩), fun m a o e1 e2 => by
  exact (h.ob m a o e1 e2).mv (Le.refl _) (Gr.mut hl) (upd_ne (fun z => hD (by rw [← z]; exact List.mem_of_getElem? e1)))⟩
theorem Go.other (g : Go ρ H ρ1 H1) (hD : H D = none) {xs : List V} {o : HO} (hl : H1 D = some (.lst xs)) : Go ρ H ρ1 (L2.upd H1 D o) := ⟨g.le, g.g.trans (Gr.mut hl), fun a u e na nt => by
  obtain ⟨h1, h2⟩ := g.f a u e na nt
  exact ⟨by rw [upd_ne (ne_of_none e hD)]; exact h1, h2⟩⟩
theorem Go.adopt (g : Go ρ H ρ1 H1) (hD : H D = none) : Go ρ H (ρ1 ++ [D]) H1 := ⟨g.le.trans (Le.app _ _), g.g, fun a u e na nt => by
  obtain ⟨h1, h2⟩ := g.f a u e na nt
  refine ⟨h1, fun z => ?_⟩
  rw [List.mem_append, List.mem_singleton] at z
  rcases z with z | z
  · exact h2 z
  · exact ne_of_none e hD z⟩
theorem StR.adopt (h : StR K ρ H s) (hD : D ∉ ρ) {xs : List V} {ds : List AV} (hl : H D = some (.lst xs)) (r : RpL K ρ H xs ds) : StR K (ρ ++ [D]) H (s ++ [.lst ds]) ∧ Rp K (ρ ++ [D]) H (.ref D) (.ref s.length) := by
  have at_ : (ρ ++ [D])[ρ.length]? = some D := by simp
  refine ⟨⟨by simp [h.len], ?_, h.tb, fun m a o e1 e2 => ?_⟩, .ref (by rw [h.len]; exact at_)⟩
  · rw [List.nodup_append]
    refine ⟨h.nd, by simp, fun a ha b hb z => ?_⟩
    rw [List.mem_singleton] at hb
    subst hb
    subst z
    exact hD ha
  · by_cases hn : m < ρ.length
    · rw [List.getElem?_append_left hn] at e1
      rw [List.getElem?_append_left (by rw [h.len]; exact hn)] at e2
      exact (h.ob m a o e1 e2).mv (Le.app _ _) (Gr.refl _) rfl
    · have hn2 : m = ρ.length := by
        have := (List.getElem?_eq_some_iff.mp e1).1
        simp at this
        omega
      subst hn2
      rw [at_] at e1
      cases e1
      have e3 : (s ++ [AO.lst ds])[ρ.length]? = some (.lst ds) := by rw [← h.len]; simp
      rw [e3] at e2
      cases e2
      exact ⟨xs, hl, RpL.up (Le.app _ _) (Gr.refl _) _ _ r⟩
end
theorem Gd.blk (G : Gd w T k g E X) (s : Shared) (H : Hp) (sc : Scope) (C : Addr) (cl : List (Str × Addr)) (fp : List Addr) : Gd w T k g E0 (X.blk s H sc (compEnvC sc cl C X.env) fp) where
  N := G.N
  nd := G.nd
  calm := G.calm
  rg := G.rg
  fn := G.fn
  cn := G.cn
  dn := G.dn
  kl := G.kl
  ma := G.ma
  bi := G.bi
  ps := passL
  cd := G.cd
  ld := G.ld
  cw := G.cw
  hf := G.hf
theorem fold_plain {wk : IW} {it : List IE} {src : Expr} {sc : Scope} {N fn : List Str} {cn : Nm} {env : Env} (h : mt.mtW N fn cn n sc wk it src = true) : ∀ x, foldedSetIterable src env x = pure x := by
  intro x
  cases src <;> first
    | rfl
    | (exfalso
       unfold mt.mtW mtW' at h
       cases wk with
       | range1 => cases h
       | range2 => cases h
       | signs => cases h
       | seq =>
         match it, h with
         | [a], h =>
           obtain ⟨q, _⟩ := b2 h
           cases n with
           | zero => rw [mt] at q; cases q
           | succ n => unfold mt at q; cases q
         | [], h => cases h
         | _ :: _ :: _, h =>
           obtain ⟨_, q⟩ := b2 h
           cases q)
/-- a comprehension's reading -/
theorem lc_read (own : List (Str × Nat)) (elt : IE) (t : IT) (wk : IW) (it cs : List IE) (hown : ∀ i ∈ tsl t, i ∈ own.map (·.2)) (hnc : ∀ i ∈ own.map (·.2), NotC i) {tt : TT} (htt : tt = tIt w X.K E0 (tests (ev T w g n) cs)) {σ : L2.St} {H : Hp} {Q : VK} (h : tI w X.K E (ev T w g (n + 1) (.lc own elt t wk it cs)) σ H Q) :
    tLc (tW w X.K E wk (evs (ev T w g n) it)) (tG X.K t) tt (tI w X.K E0 (ev T w g n elt)) (own.map (·.2)) σ H Q := by
  subst htt
  obtain ⟨ρ, sl, s, st, sr, o⟩ := h
  refine ⟨ρ, sl, s, st, sr, ?_⟩
  have e0 : ev T w g (n + 1) (.lc own elt t wk it cs) sl s = (wkE wk (evs (ev T w g n) it) sl s).bd fun a s =>
      (lcLoop (ev T w g n) (own.map (·.2)) elt t wk a.1 a.2 cs sl a.2 [] s).bd fun zs s => .ok (.ref s.length) (s ++ [.lst zs]) := by
    unfold wkE
    rw [Rs.assoc]
    show (evs (ev T w g n) it sl s).bd _ = _
    congr 1
    funext xs s1
    rw [Rs.assoc] <;> rfl
  rw [e0] at o
  refine Out.bd o ?_
  rintro ⟨xs, ys⟩ s1 ρ1 H1 J hwk g1 st1 hJ o1
  have hst1 : stands wk xs ys s1 = true := by
    unfold wkE at hwk
    cases q : evs (ev T w g n) it sl s with
    | bad => rw [q] at hwk; cases hwk
    | exc _ _ => rw [q] at hwk; cases hwk
    | ok xs0 s0 =>
      rw [q] at hwk
      have hwk2 : ((opt (walk wk xs0 s0) s0).bd fun ys s => Rs.ok (xs0, ys) s) = .ok (xs, ys) s1 := hwk
      cases q2 : walk wk xs0 s0 with
      | none => rw [q2] at hwk2; cases hwk2
      | some ys0 =>
        rw [q2] at hwk2
        cases hwk2
        exact stands_now q2
  intro D hD
  have sr1 := sr.go g1
  have hD1 : D ∉ ρ1 := st1.fresh_out hD
  refine ⟨fun i m H' => m = ys.length - i ∧ i ≤ ys.length ∧ ∃ ρ' s' acc vs, Go ρ1 H1 ρ' H' ∧ StR X.K ρ' H' s' ∧ stands wk xs ys s' = true ∧ D ∉ ρ' ∧ H' D = some (.lst vs) ∧ RpL X.K ρ' H' vs acc ∧
      Out X.K w.xc E ρ1 H1 (Rp X.K) ((lcLoop (ev T w g n) (own.map (·.2)) elt t wk xs ys cs sl (ys.drop i) acc s').bd fun (zs : List AV) (s : Sto) => Rs.ok (AV.ref s.length) (s ++ [AO.lst zs])) Q,
    ⟨ys.length, by omega, Nat.zero_le _, ρ1, s1, [], [], Go.fresh hD, st1.fresh hD, hst1, hD1, upd_same, .nil, o1⟩, ?_⟩
  rintro i m H' ⟨rfl, hi, ρ', s', acc, vs, g', st', hs', hD', hv, rv, o'⟩
  obtain ⟨w1, w2⟩ := hJ i ρ' H' s' g' st' hs'
  by_cases hlt : i < ys.length
  · refine Or.inr ⟨(w1 ys[i] (List.getElem?_eq_getElem hlt)).1, _, fun H'' z => ⟨ys.length - (i + 1), by omega, z⟩, ?_⟩
    intro x H3 hy
    obtain ⟨e3, rx⟩ := (w1 ys[i] (List.getElem?_eq_getElem hlt)).2 x H3 hy
    subst e3
    rw [List.drop_eq_getElem_cons hlt] at o'
    simp only [lcLoop] at o'
    cases ea : asT s' t ys[i] (wipeA sl (own.map (·.2))) with
    | none => simp only [ea] at o'; exact False.elim o'
    | some sl2 =>
      simp only [ea] at o'
      refine ⟨ρ', wipeA sl (own.map (·.2)), s', ys[i], sl2, st', (sr1.go g').wipe _ hnc, rx, ea, ?_⟩
      intro σ2 sr2 bs
      refine ⟨by rw [bs _ hown, wipe_wipe _ _ _ fun i hi => hi], ?_⟩
      rw [Rs.assoc] at o'
      refine ⟨ρ', sl2, s', st', sr2, Out.bdX o' ?_⟩
      intro b s2 ρ2 H2 b' _ g2 st2 eb o2
      cases eb
      obtain ⟨hv2, hD2⟩ := g2.f D _ hv hD' (fun ps z => by cases z)
      cases b with
      | true =>
        rw [if_pos rfl]
        rw [Rs.assoc] at o2
        refine ⟨ρ2, sl2, s2, st2, sr2.go g2, Out.bdX o2 ?_⟩
        intro y s3 ρ3 H4 v _ g3 st3 ry o3
        obtain ⟨hv3, hD3⟩ := g3.f D _ hv2 hD2 (fun ps z => by cases z)
        have rv3 := (rv.go g2).go g3
        split at o3
        · rename_i hl
          split at o3
          · rename_i hst
            refine ⟨vs, hv3, by rw [rv3.len, sizeLine_eq]; exact hl, rfl, hlt, ρ3, s3, acc ++ [y], vs ++ [v], ((g'.trans g2).trans g3).other hD hv3, st3.other hD3 hv3, hst, hD3, upd_same, ?_, o3⟩
            exact RpL.up (Le.refl _) (Gr.mut hv3) _ _ (rv3.app (.cons ry .nil))
          · exact False.elim o3
        · exact False.elim o3
      | false =>
        rw [if_neg Bool.false_ne_true]
        have o3 : Out X.K w.xc E ρ1 H1 (Rp X.K) ((if stands wk xs ys s2 = true then lcLoop (ev T w g n) (own.map (·.2)) elt t wk xs ys cs sl (ys.drop (i + 1)) acc s2 else .bad).bd fun zs s => .ok (.ref s.length) (s ++ [.lst zs])) Q := o2
        split at o3
        · rename_i hst
          exact ⟨rfl, hlt, ρ2, s2, acc, vs, g'.trans g2, st2, hst, hD2, hv2, rv.go g2, o3⟩
        · exact False.elim o3
  · have e : i = ys.length := by omega
    subst e
    refine Or.inl ⟨w2 (Nat.le_refl _), ?_⟩
    rw [List.drop_length] at o'
    have o2 : Out X.K w.xc E ρ1 H1 (Rp X.K) (.ok (.ref s'.length) (s' ++ [.lst acc])) Q := o'
    obtain ⟨a1, a2⟩ := st'.adopt hD' hv rv
    exact o2 _ _ _ (g'.adopt hD) a1 a2
theorem pts_ok (Tn : TnE w T k n) (G : Gd w T k g E X) : ∀ (cs : List IE) (ifs : List Expr), cs.length ≤ 1 → all2 (mt w.N w.fn w.cn n X.env.scope) cs ifs = true → PTs X ifs (tIt w X.K E (tests (ev T w g n) cs))
  | [], [], _, _ => ⟨by
    have p := (pts_nil (X := X)).run
    rintro pins s σ H Q I ⟨ρ, sl, s2, st, sr, o⟩
    exact p pins s σ H Q I (Out.now (a := true) (s := s2) o st rfl)⟩
  | [c], [x], _, h => ⟨by
    obtain ⟨q, _⟩ := b2 h
    exact (pts_one (Tn g E X G c x q).1).run⟩
  | c :: d :: r, _, hl, _ => by simp at hl
  | [], _ :: _, _, h => by cases h
  | [_], [], _, h => by cases h
  | [_], _ :: _ :: _, _, h => by
    obtain ⟨_, q⟩ := b2 h
    cases q
theorem lc_parts {own : List (Str × Nat)} {elt : IE} {t : IT} {wk : IW} {it cs : List IE} {el tg src : Expr} {ifs : List Expr} {sc : Scope} {pos : Pos} {N fn : List Str} {cn : Nm} {s0 : Scope} (h : mt N fn cn (n + 1) s0 (.lc own elt t wk it cs) (.ListComp el [⟨tg, src, ifs, 0⟩] sc pos) = true) :
    (∀ p ∈ own, N[p.2]? = some p.1 ∧ dunder p.1 = false) ∧ (∀ i ∈ tsl t, i ∈ own.map (·.2)) ∧ blkC N s0 sc own = true ∧ mtT N (relab s0 sc) sc t tg = true ∧ mt.mtW N fn cn n s0 wk it src = true ∧ cs.length ≤ 1 ∧ all2 (mt N fn cn n (relab s0 sc)) cs ifs = true ∧ mt N fn cn n (relab s0 sc) elt el = true := by
  unfold mt at h
  obtain ⟨h, h1⟩ := b2 h
  obtain ⟨h, h2⟩ := b2 h
  obtain ⟨h, h3⟩ := b2 h
  obtain ⟨h, h4⟩ := b2 h
  obtain ⟨h, h5⟩ := b2 h
  obtain ⟨h, h6⟩ := b2 h
  obtain ⟨h8, h7⟩ := b2 h
  refine ⟨fun p hp => ?_, fun i hi => of_decide_eq_true (List.all_eq_true.mp h7 i hi), h6, h5, h4, of_decide_eq_true h3, h2, h1⟩
  obtain ⟨q1, q2⟩ := b2 (List.all_eq_true.mp h8 p hp)
  exact ⟨of_decide_eq_true q1, by simpa using q2⟩
theorem own_nc {own : List (Str × Nat)} (G : Gd w T k g E X) (h : ∀ p ∈ own, w.N[p.2]? = some p.1 ∧ dunder p.1 = false) : ∀ i ∈ own.map (·.2), NotC i := fun i hi => by
  obtain ⟨p, hp, rfl⟩ := List.mem_map.mp hi
  obtain ⟨h1, h2⟩ := h p hp
  exact notC_of G.cw (by rw [G.N]; exact h1) h2
theorem lc_ok (S : SnE w T k n) (Tn : TnE w T k n) : ∀ (g : Nat) (E : XK) (X : Cx), Gd w T k g E X → ∀ own elt t wk it cs el tg src ifs scope pos, mt w.N w.fn w.cn (n + 1) X.env.scope (.lc own elt t wk it cs) (.ListComp el [⟨tg, src, ifs, 0⟩] scope pos) = true →
    PE X (.ListComp el [⟨tg, src, ifs, 0⟩] scope pos) (tI w X.K E (ev T w g (n + 1) (.lc own elt t wk it cs))) := by
  intro g E X G own elt t wk it cs el tg src ifs sc pos h
  obtain ⟨h0, h1, h2, h3, h4, h5, h6, h7⟩ := lc_parts h
  refine PE.of (pe_lc (own := own) G.calm G.nd (pi_walk S G h4) (blkOk_by (by rw [G.N]; exact h2)) (g := tG X.K t) (tt := tIt w X.K E0 (tests (ev T w g n) cs)) (te := tI w X.K E0 (ev T w g n elt)) (fun s H C cl fp => ?_) (fun s H C cl fp => ?_) (fun s H C cl fp => ?_) (fold_plain h4)) fun σ H Q hq => lc_read own elt t wk it cs h1 (own_nc G h0) rfl hq
  · have G2 := G.blk s H sc C cl fp
    refine pg_ok G2.nd G2.calm G2.cw (osc := sc) (fun x hx => ?_) t tg ?_
    · show ((sc.names.lookup x) == some .cell) = true
      rw [hx] <;> rfl
    · show mtT X.N (relab X.env.scope sc) sc t tg = true
      rw [G.N]
      exact h3
  · exact pts_ok Tn (G.blk s H sc C cl fp) cs ifs h5 h6
  · exact S g E0 _ (G.blk s H sc C cl fp) elt el h7
end
end Jp


set_option Elab.async false
set_option linter.all false
set_option maxRecDepth 100000
set_option maxHeartbeats 4000000
namespace Jp
open PySem PySem.Spec PyProof.Rows L2
variable [Tb] [Cb]
/-! ### statements: which tree -/
def noStar : Expr → Bool
  | .Starred _ _ => false
  | _ => true
def parB (sc : Scope) (t v : Expr) : Bool := match t, v with
  | .Tuple [.Name x px, .Name y py] _ _, .Tuple [a, b] _ _ => !decide (x = y) && decide (sc.names.lookup x = some .local) && decide (sc.names.lookup y = some .local) && (py.line == px.line) && noStar a && noStar b && !([a, b].all (foldedForSure 8)) && !([a, b].all (constantsAlone 8)) && decide (sc.kind = .function)
  | _, _ => false
def isTupE : Expr → Bool
  | .Tuple _ _ _ => true
  | .List _ _ => true
  | _ => false
def isCompE : Expr → Bool
  | .ListComp _ _ _ _ => true
  | .SetComp _ _ _ _ => true
  | .DictComp _ _ _ _ _ => true
  | _ => false
/-- is the comprehension's value stored in its own frame -/
def swB (sc : Scope) (v : Expr) (t : Expr) : Bool := match v, t with
  | .ListComp _ _ s _, .Name t pos => (sc.kind == .function) && (sc.names.lookup t == some .local) && (pos.line == v.pos.line) && !(s.names.any fun (n, k) => n == t && (k == .local || k == .cell))
  | _, _ => false
/-- an except suite: which tree; e: the error's name -/
def mtHE (cn : Nm) (sc : Scope) (e : Str) : HE → Expr → Bool
  | .fld f, .Attribute (.Name x _) g _ => decide (x = e) && decide (f = g)
  | .lit d, .Constant c _ _ => litB d c
  | .tup es, .Tuple xs _ _ => go es xs
  | .isx c, .Call (.Name i _) [.Name x _, .Name z _] [] _ => decide (i = "isinstance") && glB sc i && decide (x = e) && decide (cn.x[c]? = some z) && glB sc z
  | .isv, .Call (.Name i _) [.Name x _, .Name z _] [] _ => decide (i = "isinstance") && glB sc i && decide (x = e) && decide (z = "ValueError") && glB sc z
  | .an a b, .BoolOp .And [x, y] _ => mtHE cn sc e a x && mtHE cn sc e b y
  | _, _ => false
where go : List HE → List Expr → Bool
  | [], [] => true
  | a :: r, x :: t => mtHE cn sc e a x && go r t
  | _, _ => false
def mtHS (cn : Nm) (sc : Scope) (e : Str) : List HS → List Stmt → Bool
  | [.ret h], [.Return (some x) _] => mtHE cn sc e h x
  | .ifr c h :: r, .If t [.Return (some x) _] [] _ :: rest => mtHE cn sc e c t && mtHE cn sc e h x && mtHS cn sc e r rest
  | _, _ => false
def mtH (N : List Str) (sc : Scope) (cn : Nm) (i : Option Nat) (nm : Option Str) (hs : List HS) (suite : List Stmt) : Bool := match i, nm with
  | some i, some e => decide (N[i]? = some e) && decide (sc.names.lookup e = some .local) && !dunder e && mtHS cn sc e hs suite
  | _, _ => false
section
variable (N fn : List Str) (cn : Nm)
def mtS : Nat → Scope → IS → Stmt → Bool
  | 0, _, _, _ => false
  | n + 1, sc, st, e => match e with
    | .Expr x _ => (match st with
      | .ex a => mt N fn cn n sc a x && !isCompE x
      | _ => false)
    | .Return (some x) _ => (match st with
      | .ret a => mt N fn cn n sc a x
      | _ => false)
    | .Return none _ => (match st with
      | .retN => true
      | _ => false)
    | .Assign [.Subscript o i _] v _ => (match st with
      | .put a b c => mt N fn cn n sc a o && mt N fn cn n sc b i && mt N fn cn n sc c v && !isCompE v
      | .putd a b c => mt N fn cn n sc a o && mt N fn cn n sc b i && mt N fn cn n sc c v && !isCompE v
      | .putc a b es => (match i, v with
        | .Slice (some lo) none none _, .List [.Call (.Name x _) (y :: ys) [] _] _ => decide (x = "combine") && decide (sc.names.lookup x = some .local) && mt N fn cn n sc a o && mt N fn cn n sc b lo && all2 (mt N fn cn n sc) es (y :: ys)
        | _, _ => false)
      | _ => false)
    | .Assign [.Attribute o f _] v _ => (match st with
      | .setf a g c => decide (f = g) && mt N fn cn n sc a o && mt N fn cn n sc c v && !isCompE v
      | _ => false)
    | .Assign [t] v _ => (match st with
      | .asg it a => mtT N sc sc it t && mt N fn cn n sc a v && (!(isTupE t && isTupE v) || parB sc t v)
      | _ => false)
    | .AugAssign (.Name x _) op v _ => (match st with
      | .aug i .add a => decide (op = .Add) && mtT N sc sc (.nm i) (.Name x ⟨0, 0, 0, 0⟩) && mt N fn cn n sc a v
      | .aug i .sub a => decide (op = .Sub) && mtT N sc sc (.nm i) (.Name x ⟨0, 0, 0, 0⟩) && mt N fn cn n sc a v
      | _ => false)
    | .AugAssign (.Attribute o f _) op v _ => (match st with
      | .augf a g .add c => decide (op = .Add) && decide (f = g) && mt N fn cn n sc a o && mt N fn cn n sc c v
      | .augf a g .sub c => decide (op = .Sub) && decide (f = g) && mt N fn cn n sc a o && mt N fn cn n sc c v
      | _ => false)
    | .Raise (some (.Call (.Name x _) xs [] _)) none _ => (match st with
      | .raise_ c es => decide (cn.x[c]? = some x) && glB sc x && !xs.isEmpty && all2 (mt N fn cn n sc) es xs
      | _ => false)
    | .Try body [.ExceptHandler (some (.Name x _)) nm suite _] [] [] _ => (match st with
      | .try_ b c i hs => !decide ((("combine" : Str)) ∈ N) && decide (cn.x[c]? = some x) && glB sc x && mtH N sc cn i nm hs suite && all2 (mtS n sc) b body
      | _ => false)
    | .If c a b _ => (match st with
      | .ifs d x y => mt N fn cn n sc d c && all2 (mtS n sc) x a && all2 (mtS n sc) y b
      | _ => false)
    | .For t src body [] _ => (match st with
      | .for_ it w l x => mtT N sc sc it t && mt.mtW N fn cn n sc w l src && all2 (mtS n sc) x body
      | _ => false)
    | .While c body [] _ => (match st with
      | .while_ d x => mt N fn cn n sc d c && all2 (mtS n sc) x body
      | _ => false)
    | .Pass _ => (match st with
      | .pass => true
      | _ => false)
    | .Break _ => (match st with
      | .brk => true
      | _ => false)
    | .Continue _ => (match st with
      | .cont => true
      | _ => false)
    | _ => false
end
/-- the ends of a statement -/
inductive FB where
  | nx (σ : L2.St) | rt (v : V) | bk (σ : L2.St) | ct (σ : L2.St)
def RF (K : PySem.W.Frag) (ρ : List Addr) (H : Hp) : FB → Fl → Prop
  | .nx σ, .nx sl => SlR K ρ H σ sl
  | .rt v, .rt d => Rp K ρ H v d
  | .bk σ, .bk sl => SlR K ρ H σ sl
  | .ct σ, .ct sl => SlR K ρ H σ sl
  | _, _ => False
def QF (D : Ends) : FB → Hp → Prop
  | .nx σ, H => D.nx σ H
  | .rt v, H => D.rt v H
  | .bk σ, H => D.bk σ H
  | .ct σ, H => D.ct σ H
section
variable {w : Wd} {T : Nat → Nat → List AV → Sto → Rs AV} {k n : Nat} {E : XK} {X : Cx} {K : PySem.W.Frag} {xc : List (Addr × List Str)}
def tS (w : Wd) (K : PySem.W.Frag) (E : XK) (ex : Slots → Sto → Rs Fl) : TS := fun D σ H => ∃ ρ sl s, StR K ρ H s ∧ SlR K ρ H σ sl ∧ Out K w.xc E ρ H (RF K) (ex sl s) (QF D)
abbrev exN (T : Nat → Nat → List AV → Sto → Rs AV) (w : Wd) (n : Nat) (st : IS) : Slots → Sto → Rs Fl := exI (fun g => T (4 * g)) w.C n st
theorem PS.of {e : Stmt} {t t' : TS} (h : PS X e t) (ht : ∀ D σ H, t' D σ H → t D σ H) : PS X e t' := ⟨fun pins s σ H D I q => h.run pins s σ H D I (ht D σ H q)⟩
theorem PSs.of {e : List Stmt} {t t' : TS} (h : PSs X e t) (ht : ∀ D σ H, t' D σ H → t D σ H) : PSs X e t' := ⟨fun pins s σ H D I q => h.run pins s σ H D I (ht D σ H q)⟩
/-- what a body's context has besides -/
structure Gs0 (w : Wd) (T : Nat → Nat → List AV → Sto → Rs AV) (k : Nat) (E : XK) (X : Cx) : Prop where
  G : Gd w T k 0 E X
  own : ∀ x, X.env.scope.names.lookup x = some .cell → X.fn x = true
  po : PassesOwn (model X.prog X.w) X.A X.env X.xe
theorem one_s {a : Slots → Sto → Rs AV} {f : Slots → AV → Sto → Rs Fl} {σ : L2.St} {H : Hp} {D : Ends} {r : V → Hp → Prop} (h : tS w X.K E (fun σ s => (a σ s).bd fun x s => f σ x s) D σ H)
    (hr : ∀ ρ s x v H sl, StR X.K ρ H s → SlR X.K ρ H σ sl → Rp X.K ρ H v x → Out X.K w.xc E ρ H (RF X.K) (f sl x s) (QF D) → r v H) : tI w X.K E a σ H r := by
  obtain ⟨ρ, sl, s, st, sr, o⟩ := h
  refine ⟨ρ, sl, s, st, sr, Out.bd o ?_⟩
  intro x s1 ρ1 H1 v _ g1 st1 r1 o1
  exact hr ρ1 s1 x v H1 sl st1 (sr.go g1) r1 o1
theorem QF.nx_now {ρ : List Addr} {H : Hp} {sl : Slots} {s : Sto} {D : Ends} {σ : L2.St} (o : Out K xc E ρ H (RF K) (.ok (.nx sl) s) (QF D)) (st : StR K ρ H s) (sr : SlR K ρ H σ sl) : D.nx σ H := Out.now (b := FB.nx σ) o st sr
theorem QF.rt_now {ρ : List Addr} {H : Hp} {d : AV} {s : Sto} {D : Ends} {v : V} (o : Out K xc E ρ H (RF K) (.ok (.rt d) s) (QF D)) (st : StR K ρ H s) (r : Rp K ρ H v d) : D.rt v H := Out.now (b := FB.rt v) o st r
/-- a list of statements -/
theorem pss_all {ex : IS → Slots → Sto → Rs Fl} {m : IS → Stmt → Bool} (ih : ∀ st e, m st e = true → PS X e (tS w X.K E (ex st))) : ∀ (sts : List IS) (es : List Stmt), all2 m sts es = true → PSs X es (tS w X.K E (exs ex sts))
  | [], [], _ => PSs.of pss_nil fun D σ H ⟨ρ, sl, s, st, sr, o⟩ => QF.nx_now o st sr
  | [st], [e], h => pss_one (ih st e (b2 h).1)
  | st :: st2 :: r, e :: e2 :: t, h => by
    obtain ⟨h1, h2⟩ := b2 h
    refine PSs.of (pss_cons (ih st e h1) (pss_all ih (st2 :: r) (e2 :: t) h2)) ?_
    rintro D σ H ⟨ρ, sl, s, s0, sr, o⟩
    refine ⟨ρ, sl, s, s0, sr, ?_⟩
    have e0 : exs ex (st :: st2 :: r) sl s = (ex st sl s).bd fun f s => match f with
      | .nx σ => exs ex (st2 :: r) σ s
      | f => .ok f s := rfl
    rw [e0] at o
    refine Out.bd o ?_
    intro f s1 ρ1 H1 b _ g1 st1 rb o1
    cases f with
    | nx sl1 =>
      cases b with
      | nx σ1 => exact ⟨ρ1, sl1, s1, st1, rb, o1⟩
      | _ => exact False.elim rb
    | rt d =>
      cases b with
      | rt v => exact QF.rt_now (D := D) (s := s1) o1 st1 rb
      | _ => exact False.elim rb
    | bk sl1 =>
      cases b with
      | bk σ1 => exact Out.now (Q := QF D) (b := FB.bk σ1) (a := Fl.bk sl1) (s := s1) o1 st1 rb
      | _ => exact False.elim rb
    | ct sl1 =>
      cases b with
      | ct σ1 => exact Out.now (Q := QF D) (b := FB.ct σ1) (a := Fl.ct sl1) (s := s1) o1 st1 rb
      | _ => exact False.elim rb
  | [], _ :: _, h => by cases h
  | _ :: _, [], h => by cases h
  | [_], _ :: _ :: _, h => by
    obtain ⟨_, q⟩ := b2 h
    cases q
  | _ :: _ :: _, [_], h => by
    obtain ⟨_, q⟩ := b2 h
    cases q
/-! ### loops -/
theorem for_read {ex : Slots → Sto → Rs Fl} {t : IT} {wk : IW} {src : Slots → Sto → Rs (List AV)} {σ : L2.St} {H : Hp} {D : Ends}
    (h : tS w X.K E (fun σ s => (src σ s).bd fun xs s => (opt (walk wk xs s) s).bd fun ys s => forLoop ex t wk xs ys ys σ s) D σ H) : tFor (tW w X.K E wk src) (tG X.K t) (tS w X.K E ex) D σ H := by
  obtain ⟨ρ, sl, s, st, sr, o⟩ := h
  refine ⟨ρ, sl, s, st, sr, ?_⟩
  have e0 : ((src sl s).bd fun xs s => (opt (walk wk xs s) s).bd fun ys s => forLoop ex t wk xs ys ys sl s) = (wkE wk src sl s).bd fun a s => forLoop ex t wk a.1 a.2 a.2 sl s := by
    unfold wkE
    rw [Rs.assoc]
    congr 1
    funext xs s1
    rw [Rs.assoc] <;> rfl
  have o0 : Out X.K w.xc E ρ H (RF X.K) ((wkE wk src sl s).bd fun a s => forLoop ex t wk a.1 a.2 a.2 sl s) (QF D) := by
    rw [← e0]
    exact o
  refine Out.bd o0 ?_
  rintro ⟨xs, ys⟩ s1 ρ1 H1 J hwk g1 st1 hJ o1
  have hst1 : stands wk xs ys s1 = true := by
    unfold wkE at hwk
    cases q : src sl s with
    | bad => rw [q] at hwk; cases hwk
    | exc _ _ => rw [q] at hwk; cases hwk
    | ok xs0 s0 =>
      rw [q] at hwk
      have hwk2 : ((opt (walk wk xs0 s0) s0).bd fun ys s => Rs.ok (xs0, ys) s) = .ok (xs, ys) s1 := hwk
      cases q2 : walk wk xs0 s0 with
      | none => rw [q2] at hwk2; cases hwk2
      | some ys0 =>
        rw [q2] at hwk2
        cases hwk2
        exact stands_now q2
  refine ⟨fun i m σ' H' => m = ys.length - i ∧ i ≤ ys.length ∧ ∃ ρ' sl' s', Go ρ1 H1 ρ' H' ∧ StR X.K ρ' H' s' ∧ SlR X.K ρ' H' σ' sl' ∧ stands wk xs ys s' = true ∧ Out X.K w.xc E ρ' H' (RF X.K) (forLoop ex t wk xs ys (ys.drop i) sl' s') (QF D),
    ⟨ys.length, by omega, Nat.zero_le _, ρ1, sl, s1, Go.refl _ _, st1, sr.go g1, hst1, o1⟩, ?_⟩
  rintro i m σ' H' ⟨rfl, hi, ρ', sl', s', g', st', sr', hs', o'⟩
  obtain ⟨w1, w2⟩ := hJ i ρ' H' s' g' st' hs'
  by_cases hlt : i < ys.length
  · refine Or.inr ⟨(w1 ys[i] (List.getElem?_eq_getElem hlt)).1, _, fun σ2 H2 z => ⟨ys.length - (i + 1), by omega, z⟩, ?_⟩
    intro x H3 hy
    obtain ⟨e3, rx⟩ := (w1 ys[i] (List.getElem?_eq_getElem hlt)).2 x H3 hy
    subst e3
    rw [List.drop_eq_getElem_cons hlt] at o'
    simp only [forLoop] at o'
    cases ea : asT s' t ys[i] sl' with
    | none => simp only [ea] at o'; exact False.elim o'
    | some sl2 =>
      simp only [ea] at o'
      refine ⟨ρ', sl', s', ys[i], sl2, st', sr', rx, ea, ?_⟩
      intro σ2 sr2 _
      refine ⟨ρ', sl2, s', st', sr2, Out.bd o' ?_⟩
      intro f s2 ρ2 H2 b _ g2 st2 rb o2
      have go_on : ∀ σ3 sl3, SlR X.K ρ2 H2 σ3 sl3 → Out X.K w.xc E ρ2 H2 (RF X.K) (if stands wk xs ys s2 = true then forLoop ex t wk xs ys (ys.drop (i + 1)) sl3 s2 else .bad) (QF D) →
          (ys.length - (i + 1) = ys.length - (i + 1) ∧ i + 1 ≤ ys.length ∧ ∃ ρ' sl' s', Go ρ1 H1 ρ' H2 ∧ StR X.K ρ' H2 s' ∧ SlR X.K ρ' H2 σ3 sl' ∧ stands wk xs ys s' = true ∧ Out X.K w.xc E ρ' H2 (RF X.K) (forLoop ex t wk xs ys (ys.drop (i + 1)) sl' s') (QF D)) := by
        intro σ3 sl3 sr3 o3
        split at o3
        · rename_i hst
          exact ⟨rfl, hlt, ρ2, sl3, s2, g'.trans g2, st2, sr3, hst, o3⟩
        · exact False.elim o3
      cases f with
      | nx sl3 =>
        cases b with
        | nx σ3 => exact go_on σ3 sl3 rb o2
        | _ => exact False.elim rb
      | ct sl3 =>
        cases b with
        | ct σ3 => exact go_on σ3 sl3 rb o2
        | _ => exact False.elim rb
      | bk sl3 =>
        cases b with
        | bk σ3 => exact QF.nx_now (D := D) (s := s2) (sl := sl3) o2 st2 rb
        | _ => exact False.elim rb
      | rt d =>
        cases b with
        | rt v => exact QF.rt_now (D := D) (s := s2) o2 st2 rb
        | _ => exact False.elim rb
  · have e : i = ys.length := by omega
    subst e
    refine Or.inl ⟨w2 (Nat.le_refl _), ?_⟩
    rw [List.drop_length] at o'
    exact QF.nx_now (s := s') (sl := sl') o' st' sr'
theorem while_read {ex : Slots → Sto → Rs Fl} {test : Slots → Sto → Rs Bool} {m0 : Nat} {σ : L2.St} {H : Hp} {D : Ends} (h : tS w X.K E (whileLoop test ex m0) D σ H) : tWhile (tIt w X.K E test) (tS w X.K E ex) D σ H := by
  refine ⟨fun m σ H => tS w X.K E (whileLoop test ex m) D σ H, ⟨m0, h⟩, ?_⟩
  rintro m σ H ⟨ρ, sl, s, st, sr, o⟩
  cases m with
  | zero => exact False.elim o
  | succ m =>
    simp only [whileLoop] at o
    refine ⟨ρ, sl, s, st, sr, Out.bd o ?_⟩
    intro b s1 ρ1 H1 b' _ g1 st1 eb o1
    cases eb
    have sr1 := sr.go g1
    cases b with
    | false => exact QF.nx_now (s := s1) (sl := sl) o1 st1 sr1
    | true =>
      rw [if_pos rfl]
      refine ⟨fun σ' H' => tS w X.K E (whileLoop test ex m) D σ' H', fun σ' H' z => ⟨m, Nat.lt_succ_self m, z⟩, ?_⟩
      rw [if_pos rfl] at o1
      refine ⟨ρ1, sl, s1, st1, sr1, Out.bd o1 ?_⟩
      intro f s2 ρ2 H2 b _ g2 st2 rb o2
      cases f with
      | nx sl3 =>
        cases b with
        | nx σ3 => exact ⟨ρ2, sl3, s2, st2, rb, o2⟩
        | _ => exact False.elim rb
      | ct sl3 =>
        cases b with
        | ct σ3 => exact ⟨ρ2, sl3, s2, st2, rb, o2⟩
        | _ => exact False.elim rb
      | bk sl3 =>
        cases b with
        | bk σ3 => exact QF.nx_now (D := D) (s := s2) (sl := sl3) o2 st2 rb
        | _ => exact False.elim rb
      | rt d =>
        cases b with
        | rt v => exact QF.rt_now (D := D) (s := s2) o2 st2 rb
        | _ => exact False.elim rb
end
end Jp


set_option Elab.async false
set_option linter.all false
set_option maxRecDepth 100000
set_option maxHeartbeats 4000000
namespace Jp
open PySem PySem.Spec PyProof.Rows L2
variable [Tb] [Cb]
section
variable {w : Wd} {T : Nat → Nat → List AV → Sto → Rs AV} {k n : Nat} {E : XK} {X : Cx}
theorem sw_att {v t : Expr} {line : Nat} {env : Env} (h : isCompE v = false) : swapsWith v (some t) line env = pure false := by
  cases v <;> first | rfl | cases h
theorem setf_case (S : SnE w T k n) (G : Gd w T k 0 E X) {o v : Expr} {f : Str} {p pos : Pos} {a c : IE} (h1 : mt w.N w.fn w.cn n X.env.scope a o = true) (h2 : mt w.N w.fn w.cn n X.env.scope c v = true) (h3 : isCompE v = false) :
    PS X (.Assign [.Attribute o f p] v pos) (tS w X.K E (exN T w (n + 1) (.setf a f c))) := by
  refine PS.of (ps_fld (S 0 E X G a o h1) (S 0 E X G c v h2) (sw_att h3)) ?_
  rintro D σ H ⟨ρ, sl, s, st, sr, o0⟩
  have o1 : Out X.K w.xc E ρ H (RF X.K) ((ev T w 0 n c sl s).bd fun v s => (ev T w 0 n a sl s).bd fun x s => (match x with
      | .ref k => (match s[k]? with
        | some (.ins c fs) => (match w.C.k[c]? with
          | some ci => if f ∈ ci.fl ∧ fs.length < 1000 then .ok (.nx sl) (s.set k (.ins c (putA f v fs))) else .bad
          | none => .bad)
        | _ => .bad)
      | _ => .bad)) (QF D) := o0
  refine ⟨ρ, sl, s, st, sr, Out.bd o1 ?_⟩
  intro x s1 ρ1 H1 u _ g1 st1 r1 o2
  refine ⟨ρ1, sl, s1, st1, sr.go g1, Out.bd o2 ?_⟩
  intro y s2 ρ2 H2 u2 _ g2 st2 r2 o3
  split at o3
  · rename_i kk _
    split at o3
    · rename_i c0 fs hs
      split at o3
      · rename_i ci hc
        split at o3
        · rename_i hf
          cases r2 with
          | ref p2 =>
            obtain ⟨dx, gs, q1, q2⟩ := st2.atI p2 hs
            obtain ⟨k1, k2, _⟩ := G.kl c0 ci hc
            have gg := Go.putI (ρ := ρ2) (o := .ins (Tb.ca c0) dx (putF f u gs)) p2 q1
            refine ⟨_, _, dx, gs, rfl, q1, k1, k2 f hf.1, by rw [q2.len]; exact hf.2, ?_⟩
            exact QF.nx_now (Out.up o3 gg) (st2.putI (c := c0) p2 q1 (q2.put (r1.go g2))) (((sr.go g1).go g2).go gg)
        · exact o3.elim
      · exact o3.elim
    · exact o3.elim
  · exact o3.elim
theorem augf_read {a c : Slots → Sto → Rs AV} {f : Str} {op : BO} {g : Int → Int → Int} {σ : L2.St} {H : Hp} {D : Ends} (G : Gd w T k 0 E X) (hop : ∀ a b, opI op a b = some (g a b)) (h : tS w X.K E (fun sl s => (a sl s).bd fun x s => (match x with
      | .ref k => (match s[k]? with
        | some (.ins c0 fs) => (match w.C.k[c0]? with
          | some ci => if f ∈ ci.fl then (match fs.lookup f with
            | some (.int a) => (c sl s).bd fun y s => (match y, s[k]? with
              | .int b, some (.ins c2 fs2) => (match opI op a b with
                | some r => if c2 = c0 ∧ fs2.length < 1000 then .ok (.nx sl) (s.set k (.ins c0 (putA f (.int r) fs2))) else .bad
                | none => .bad)
              | _, _ => .bad)
            | _ => .bad) else .bad
          | none => .bad)
        | _ => .bad)
      | _ => .bad)) D σ H) : sFldAug X.K (tI w X.K E a) (tI w X.K E c) (fun x y H Q => ∃ i j, x = .int i ∧ y = .int j ∧ Q (.int (g i j)) H) f D σ H := by
  obtain ⟨ρ, sl, s, st, sr, o⟩ := h
  refine ⟨ρ, sl, s, st, sr, Out.bd o ?_⟩
  intro x s1 ρ1 H1 u _ g1 st1 r1 o2
  split at o2
  · rename_i kk _
    split at o2
    · rename_i c0 fs hs
      split at o2
      · rename_i ci hc
        split at o2
        · rename_i hf
          split at o2
          · rename_i av ha
            cases r1 with
            | ref p1 =>
              obtain ⟨dx, gs, q1, q2⟩ := st1.atI p1 hs
              obtain ⟨k1, k2, _⟩ := G.kl c0 ci hc
              obtain ⟨v, hv, rv⟩ := q2.get ha
              cases rv
              refine ⟨_, _, dx, gs, _, rfl, q1, k1, k2 f hf, hv, ρ1, sl, s1, st1, sr.go g1, Out.bd o2 ?_⟩
              intro y s2 ρ2 H2 u2 _ g2 st2 r2 o3
              split at o3
              · rename_i b c2 fs2 hs2 _
                rw [hop av b] at o3
                dsimp only at o3
                split at o3
                · rename_i hcc
                  obtain ⟨rfl, hl⟩ := hcc
                  cases r2
                  have p2 := g2.le _ _ p1
                  obtain ⟨dx2, gs2, q3, q4⟩ := st2.atI p2 hs2
                  refine ⟨av, b, rfl, rfl, dx2, gs2, q3, by rw [q4.len]; exact hl, ?_⟩
                  have gg := Go.putI (ρ := ρ2) (o := .ins (Tb.ca c2) dx2 (putF f (.int (g av b)) gs2)) p2 q3
                  exact QF.nx_now (Out.up o3 gg) (st2.putI (c := c2) p2 q3 (q4.put (.int _))) (((sr.go g1).go g2).go gg)
                · exact o3.elim
              · exact o3.elim
          · exact o2.elim
        · exact o2.elim
      · exact o2.elim
    · exact o2.elim
  · exact o2.elim
theorem augf_case_add (S : SnE w T k n) (G : Gd w T k 0 E X) {o v : Expr} {f : Str} {p pos : Pos} {a c : IE} (h1 : mt w.N w.fn w.cn n X.env.scope a o = true) (h2 : mt w.N w.fn w.cn n X.env.scope c v = true) :
    PS X (.AugAssign (.Attribute o f p) .Add v pos) (tS w X.K E (exN T w (n + 1) (.augf a f .add c))) := by
  refine PS.of (ps_fldaug (S 0 E X G a o h1) (S 0 E X G c v h2) in_add) ?_
  rintro D σ H ⟨ρ, sl, s, st, sr, o0⟩
  exact augf_read (op := .add) (g := fun i j => i + j) G (fun _ _ => rfl) ⟨ρ, sl, s, st, sr, o0⟩
theorem augf_case_sub (S : SnE w T k n) (G : Gd w T k 0 E X) {o v : Expr} {f : Str} {p pos : Pos} {a c : IE} (h1 : mt w.N w.fn w.cn n X.env.scope a o = true) (h2 : mt w.N w.fn w.cn n X.env.scope c v = true) :
    PS X (.AugAssign (.Attribute o f p) .Sub v pos) (tS w X.K E (exN T w (n + 1) (.augf a f .sub c))) := by
  refine PS.of (ps_fldaug (S 0 E X G a o h1) (S 0 E X G c v h2) in_sub) ?_
  rintro D σ H ⟨ρ, sl, s, st, sr, o0⟩
  exact augf_read (op := .sub) (g := fun i j => i - j) G (fun _ _ => rfl) ⟨ρ, sl, s, st, sr, o0⟩
end
end Jp


set_option Elab.async false
set_option linter.all false
set_option maxRecDepth 100000
set_option maxHeartbeats 4000000
namespace Jp
open PySem PySem.Spec PyProof.Rows L2
/-! ### an error is made -/
/-- what __init__ of a class of errors promises: it puts its arguments into the fields -/
def spX (C : Addr) (fl : List Str) : Sp := fun vs H Q _ => ∃ a ys, vs = .ref a :: ys ∧ ys.length = fl.length ∧ fl ≠ [] ∧ H a = some (exo a C none) ∧
  ∀ dx, H dx = none → dx ≠ a → Q .non (upd (upd H dx (exd dx (fl.zip ys).reverse)) a (exo a C (some dx)))
theorem exo_some {e C : Addr} {d : Option Addr} : (some (exo e C d) : Option HO) ≠ none := fun z => nomatch z
theorem fnG_leaf {P : Program} {w : World} {K : PySem.W.Frag} {mg : Str → Option Value} {base : Heap} {k d : Nat} {f : Addr} {name qual : Str} {params : Arguments} {body : List Stmt} {scope : Scope}
    {dV kV doc pm cdv ct oc : Value} {an od : Option Addr} {osl : Array (Option Value)} {N ps : List Str} {sp : Sp}
    (lk : K.lookup f = some ⟨oc, od, .func (PySem.W.fnOf name qual params body scope dV kV doc pm an cdv ct), osl⟩) (hcd : PySem.W.codeIn K cdv qual = true) (S : FnScope N ps scope)
    (len : ∀ vs H Q E, sp vs H Q E → vs.length = ps.length)
    (hb : ∀ (A : Around) (outer : List Env) (s : Shared) (H : Hp) (vs : List V) (Q : VK) (E : XK), sp vs H Q E →
      ∃ t, PSs (cxOf (L2.CX P w) P w K mg base N qual scope f cdv A outer s H E) body t ∧ t { nx := fun _ H' => Q .non H', rt := Q } (start N vs) H) :
    FnG P w K mg base k d f (PySem.W.fnOf name qual params body scope dV kV doc pm an cdv ct) ps sp := by
  constructor
  · exact len
  intro A outer s H args us vs Q E hr e0 bnd r hsp
  have lv : vs.length = ps.length := len vs H Q E hsp
  have inK : K.In s.heap := e0.mod.kin.keeps (fun b o e => (e0.bs b o e).1)
  have nl : s.heap.NoLimit := e0.mod.nolimit.keeps (fun b o e => (e0.bs b o e).1)
  have knd : ∀ y ∈ ps.zip us, scope.names.lookup y.1 = some .local ∨ (scope.names.lookup y.1 = some .cell ∧ ((cellsFrom (s.heap.objs.size + 1) scope.names []).lookup y.1).isSome = true) := by
    rintro ⟨n, v⟩ hy
    cases S.par n (List.of_mem_zip hy).1 with
    | inl q => exact Or.inl q
    | inr q => exact Or.inr ⟨q, PySem.W.cellsFrom_some _ _ _ (Or.inl q)⟩
  refine codeAny_call_function hr.room.depth (inK _ _ lk) rfl S.co S.gen rfl (PySem.W.codeRec_of inK hcd) (bnd _ _ _ _ ?_)
  refine wpAny_newFunctionEnv_cells S.kind knd (fun env he s1 x => ?_)
  subst he
  refine ⟨nl.keeps x.toInCall.keep, codeAny_func ?_⟩
  obtain ⟨t, ht, hq⟩ := hb A outer s H vs Q E hsp
  have I0 : Inv (cxOf (L2.CX P w) P w K mg base N qual scope f cdv A outer s H E) [] (start N vs) H s1 := inv_start S hr.h e0 lv r x
  refine wpAny_mono (ht.run [] s1 (start N vs) H _ I0 hq) ?_ (fun e s' hs => hs)
  intro fl s' hs
  match fl, hs with
  | .ret u, hs =>
    obtain ⟨v, σ', H', J, rv, q⟩ := hs
    exact ⟨v, H', J.os, J.bare, J.base, J.hok, rv, q⟩
  | .next, hs =>
    obtain ⟨σ', H', J, q⟩ := hs
    exact ⟨V.non, H', J.os, J.bare, J.base, J.hok, rfl, q⟩
  | .brk, hs =>
    obtain ⟨_, _, _, q⟩ := hs
    exact q.elim
  | .cont, hs =>
    obtain ⟨_, _, _, q⟩ := hs
    exact q.elim
/-- the body: self.f = p, field by field; i: the slot of the first of them -/
def iniB (N : List Str) (sc : Scope) : Nat → List Str → List Stmt → Bool
  | _, [], [] => true
  | i, f :: fl, .Assign [.Attribute (.Name s _) g _] (.Name p _) _ :: rest => decide (f = g) && decide (N[0]? = some s) && visB sc s && decide (N[i]? = some p) && visB sc p && iniB N sc (i + 1) fl rest
  | _, _, _ => false
def tIni (K : PySem.W.Frag) (C : Addr) (fl : List Str) (i : Nat) : TS := fun D σ H => ∃ a ys, σ[0]? = some (some (.ref a)) ∧ (∀ j y, ys[j]? = some y → σ[i + j]? = some (some y)) ∧ ys.length = fl.length ∧
  ((fl ≠ [] ∧ H a = some (exo a C none) ∧ ∀ dx, H dx = none → dx ≠ a → D.nx σ (upd (upd H dx (exd dx (fl.zip ys).reverse)) a (exo a C (some dx)))) ∨
    ∃ dx fs, H a = some (exo a C (some dx)) ∧ H dx = some (exd dx fs) ∧ dx ≠ a ∧ fs.length + fl.length ≤ 900 ∧ D.nx σ (upd H dx (exd dx ((fl.zip ys).reverse ++ fs))))
theorem upd_self {H : Hp} {a : Addr} {o : HO} (h : H a = some o) : upd H a o = H := by
  funext b
  by_cases e : b = a
  · rw [e, upd_same, h]
  · rw [upd_ne e]
theorem upd_upd {H : Hp} {a : Addr} {o u : HO} : upd (upd H a o) a u = upd H a u := by
  funext b
  by_cases e : b = a
  · rw [e, upd_same, upd_same]
  · rw [upd_ne e, upd_ne e, upd_ne e]
theorem upd_swap {H : Hp} {a b : Addr} {o u : HO} (h : a ≠ b) : upd (upd H a o) b u = upd (upd H b u) a o := by
  funext c
  by_cases e : c = a
  · subst e
    rw [upd_ne h, upd_same, upd_same]
  · by_cases e2 : c = b
    · subst e2
      rw [upd_same, upd_ne e, upd_same]
    · rw [upd_ne e2, upd_ne e, upd_ne e, upd_ne e2]
variable [Tb] [Cb]
theorem ini_ok {X : Cx} {C : Addr} (T : OexC X.K C) : ∀ (fl : List Str) (i : Nat) (body : List Stmt), iniB X.N X.env.scope i fl body = true → (∀ f ∈ fl, PySem.W.findIn X.K (.ref C) f = some none) → fl.length ≤ 400 → PSs X body (tIni X.K C fl i)
  | [], i, body, h, _, _ => by
    cases body with
    | cons st rest => simp [iniB] at h
    | nil =>
      refine PSs.of pss_nil ?_
      rintro D σ H ⟨a, ys, h0, hy, hl, ⟨n, _⟩ | ⟨dx, fs, e1, e2, ne, hz, q⟩⟩
      · exact absurd rfl n
      · rw [List.zip_nil_left, List.reverse_nil, List.nil_append, upd_self e2] at q
        exact q
  | f :: fl, i, body, h, hno, hfl => by
    match body, h with
    | .Assign [.Attribute (.Name s ps) g p1] (.Name p pp) pos :: rest, h =>
      have h' : (decide (f = g) && decide (X.N[0]? = some s) && visB X.env.scope s && decide (X.N[i]? = some p) && visB X.env.scope p && iniB X.N X.env.scope (i + 1) fl rest) = true := by simpa only [iniB] using h
      obtain ⟨h', q6⟩ := b2 h'
      obtain ⟨h', q5⟩ := b2 h'
      obtain ⟨h', q4⟩ := b2 h'
      obtain ⟨h', q3⟩ := b2 h'
      obtain ⟨q1, q2⟩ := b2 h'
      have e1 := of_decide_eq_true q1
      subst e1
      obtain ⟨v1, v2, v3, _⟩ := vis_of q3
      obtain ⟨u1, u2, u3, _⟩ := vis_of q5
      have ih := ini_ok T fl (i + 1) rest q6 (fun g hg => hno g (List.mem_cons_of_mem _ hg)) (by simp at hfl; omega)
      have p1 := pe_var (X := X) (i := 0) (x := s) (pos := ps) (of_decide_eq_true q2) v1 v2 v3
      have p2 := pe_var (X := X) (i := i) (x := p) (pos := pp) (of_decide_eq_true q4) u1 u2 u3
      refine PSs.of (pss_cons (ps_ost (f := f) p1 p2 (by rfl)) ih) ?_
      rintro D σ H ⟨a, ys, h0, hy, hl, hc⟩
      cases ys with
      | nil => simp at hl
      | cons y ys =>
        have hy0 : σ[i]? = some (some y) := by simpa using hy 0 y (by simp)
        have hyr : ∀ j z, ys[j]? = some z → σ[i + 1 + j]? = some (some z) := fun j z e => by
          have := hy (j + 1) z (by simpa using e)
          rw [show i + 1 + j = i + (j + 1) from by omega]
          exact this
        have hlr : ys.length = fl.length := by simpa using hl
        refine ⟨y, hy0, .ref a, h0, a, C, rfl, T, hno f List.mem_cons_self, ?_⟩
        rcases hc with ⟨_, ea, q⟩ | ⟨dx, fs, ea, ed, ne, hz, q⟩
        · refine Or.inl ⟨ea, fun dx hd ne => ⟨a, ys, h0, hyr, hlr, Or.inr ⟨dx, [(f, y)], upd_same, by rw [upd_ne ne, upd_same], ne, by simp at hfl ⊢; omega, ?_⟩⟩⟩
          have q2 := q dx hd ne
          rw [List.zip_cons_cons, List.reverse_cons] at q2
          rw [upd_swap (Ne.symm ne), upd_upd]
          exact q2
        · refine Or.inr ⟨dx, fs, ea, ed, by simp at hz; omega, a, ys, h0, hyr, hlr, Or.inr ⟨dx, (f, y) :: fs, by rw [upd_ne (Ne.symm ne)]; exact ea, upd_same, ne, by simp at hz ⊢; omega, ?_⟩⟩
          rw [upd_upd]
          rw [List.zip_cons_cons, List.reverse_cons, List.append_assoc] at q
          exact q
/-! ### raise C(..) -/
section
variable {w : Wd} {T : Nat → Nat → List AV → Sto → Rs AV} {k n : Nat} {E : XK} {X : Cx}
/-- what a class of errors must have to be raised -/
structure XcOk (K : PySem.W.Frag) (mg : Str → Option Value) (P : Program) (W : World) (base : Heap) (k : Nat) (x : Str) (fl : List Str) (C : Addr) : Prop where
  gl : mg x = some (.ref C)
  T : OexC K C
  ne : fl ≠ []
  le : fl.length ≤ 400
  ini : ∃ fI fd ps, PySem.W.findIn K (.ref C) "__init__" = some (some (.ref fI)) ∧ PySem.W.typeIn K (.ref fI) = some (.type "function") ∧ L2.Binds K fd ps [] ∧ FnG P W K mg base k 4 fI fd ps (spX C fl)
theorem fin_heap {H1 : Hp} {a dx C : Addr} {fs : List (Str × V)} {o u v : HO} (na : H1 a = none) (ne : dx ≠ a) : upd (del (upd (upd (upd H1 a o) dx u) a v) a) dx (.xd fs) = upd H1 dx (.xd fs) := by
  funext b
  by_cases e : b = dx
  · rw [e, upd_same, upd_same]
  · rw [upd_ne e, upd_ne e]
    by_cases e2 : b = a
    · rw [e2, del_same, na]
    · rw [del_ne e2, upd_ne e2, upd_ne e, upd_ne e2]
theorem raise_case (S : SnE w T k n) (G : Gd w T k 0 E X) (tk : Takes X (fun cls d _ H => E cls d H)) {x : Str} {p pos pos' : Pos} {e : Expr} {es : List Expr} {c : Nat} {irs : List IE} {xi : XI} {C : Addr} (hgl : glB X.env.scope x = true) (hxi : w.C.x[c]? = some xi) (hxc : w.xc[c]? = some (C, xi.fl))
    (O : XcOk X.K X.mg X.prog X.w X.base k x xi.fl C) (hs : all2 (mt w.N w.fn w.cn n X.env.scope) irs (e :: es) = true) : PS X (.Raise (some (.Call (.Name x p) (e :: es) [] pos')) none pos) (tS w X.K E (exN T w (n + 1) (.raise_ c irs))) := by
  obtain ⟨v1, v2, v3⟩ := gl_of hgl
  have PAs : PA X (e :: es) (tIs w X.K E (evs (ev T w 0 n) irs)) := pa_all (fun ir e q => S 0 E X G ir e q) irs (e :: es) hs
  obtain ⟨fI, fd, ps, iC, tI, hb, F1⟩ := O.ini
  have rm : Rm k (4 * 0) X.A := G.rg.rm
  cases irs with
  | nil => cases hs
  | cons ir0 irs0 =>
  obtain ⟨h5, h6⟩ := b2 hs
  have mk : PMk X (.Call (.Name x p) (e :: es) [] pos') (tMkO C (spX C xi.fl) [] (tIs w X.K E (evs (ev T w 0 n) (ir0 :: irs0)))) := by
    intro pins s σ H Q I h
    obtain ⟨nm, q, N, bs, bm, sn, sub, ab, col, dd, k0, k1, k2, k3, k5, hC, hbm⟩ := O.T.cls
    refine wpAny_Call_Name_kw (ld_glob I v1 O.gl ?_ v2)
    refine PySem.W.callWith_K (h₀ := X.base) I.ok.mod.kin O.T.kC (thn (PAs.run pos' pins s σ H _ I h) fun us s1 ⟨vs, H1, I1, r1, hz, q1⟩ => ⟨I1.kIn, ?_⟩) (star_plain h5) (args_plain h6)
    show wpAny _ _ (call (.ref C) us) _ _ _
    obtain ⟨hp, g, dr, tk', os⟩ := s1
    have hsz : hp.objs.size ≤ hp.objs.size + 1 := Nat.le_succ _
    have hn : H1 (hp.objs.size + 1) = none := I1.hok.fresh hsz
    have hq := q1 (hp.objs.size + 1) hn
    have kk : ∀ b o, hp.get? b = some o → ((hp.push (PySem.W.kdv_tup us)).push (PySem.HandSPX.excO C hp.objs.size)).get? b = some o := fun b o e => Heap.get?_push_of_some _ (Heap.get?_push_of_some _ e)
    have hget : ((hp.push (PySem.W.kdv_tup us)).push (PySem.HandSPX.excO C hp.objs.size)).get? (hp.objs.size + 1) = some (PySem.HandSPX.excO C hp.objs.size) := by heap_get
    have I2 : Inv X pins σ (upd H1 (hp.objs.size + 1) (exo (hp.objs.size + 1) C none)) ⟨(hp.push (PySem.W.kdv_tup us)).push (PySem.HandSPX.excO C hp.objs.size), g, dr, tk', os⟩ :=
      I1.laid (t' := tk') (a := hp.objs.size + 1) (o := exo (hp.objs.size + 1) C none) (h' := (hp.push (PySem.W.kdv_tup us)).push (PySem.HandSPX.excO C hp.objs.size)) kk hsz (exo_ok hget)
    have r2 : Vals (V.ref (hp.objs.size + 1) :: (vs ++ [])) (Value.ref (hp.objs.size + 1) :: (us ++ [])) := .cons rfl (r1.append .nil)
    have hl : (Value.ref (hp.objs.size + 1) :: us ++ []).length = ps.length := by
      have e := r2.length
      rw [F1.len _ _ _ _ hq] at e
      exact e.symm
    have bb := hb ⟨(hp.push (PySem.W.kdv_tup us)).push (PySem.HandSPX.excO C hp.objs.size), g, dr, tk', os⟩ (Value.ref (hp.objs.size + 1) :: us) I2.kIn hl
    rw [List.cons_append] at bb
    have hus : us.length ≤ sizeLine := by
      rw [← Paired.length r1, sizeLine_eq]
      omega
    refine wpAny_call (PySem.HandSPX.call_own PySem.F.excBase_ValueError (fun Y => PySem.HandSPX.refsVE_contains Y bm hbm) (I1.kIn _ _ hC) (PySem.W.looks_findIn I1.kIn iC) (fun self => PySem.W.bind_fn I1.kIn self tI) hus
      (codeAny_mono (F1.run _ X.stack _ _ ⟨Value.ref (hp.objs.size + 1) :: us, []⟩ (Value.ref (hp.objs.size + 1) :: (us ++ [])) _ _ E0 (Rm.make (g := 0) rm (by decide) C us []) (I2.env0.make C us []) bb r2 hq) fun r s' hq' => ?_))
    match r, hq' with
    | .error er, hq' => exact passL pins σ _ _ er s' I2 hq'
    | .ok (.ret u), hq' =>
      obtain ⟨v, H2, os2, bare2, un2, hok2, rv, ev, d, fs, ea, ed, hd1, q2⟩ := hq'
      subst ev
      obtain ⟨h2, g2, d2, t2, os'⟩ := s'
      exact ⟨rv, mk_end (raises_own O.T.exC O.T.tyC) I1 hsz kk un2 hok2 os2 bare2 ea ed hd1 q2⟩
  refine PS.of (ps_raise G.calm tk mk) ?_
  rintro D σ H ⟨ρ, sl, s, st, sr, o0⟩
  have o1 : Out X.K w.xc E ρ H (RF X.K) (match w.C.x[c]? with
      | some xi => if xi.fl.isEmpty then .bad else (evs (ev T w 0 n) (ir0 :: irs0) sl s).bd fun xs s => if xs.length = xi.fl.length then .exc ⟨c, xs⟩ s else .bad
      | none => .bad) (QF D) := o0
  rw [hxi] at o1
  dsimp only at o1
  rw [if_neg (by
    have := O.ne
    cases hq : xi.fl with
    | nil => exact absurd hq this
    | cons _ _ => simp)] at o1
  refine ⟨ρ, sl, s, st, sr, Out.bd o1 ?_⟩
  intro ds s1 ρ1 H1 vs _ g1 st1 r1 o2
  split at o2
  · rename_i hl
    have hvl : vs.length = xi.fl.length := by rw [r1.len, hl]
    refine ⟨by rw [hvl]; have := O.le; omega, fun a na => ⟨a, vs ++ [], rfl, by rw [List.append_nil]; exact hvl, O.ne, upd_same, fun dx hd ne => ?_⟩⟩
    have hd1 : H1 dx = none := by
      rw [upd_ne ne] at hd
      exact hd
    rw [List.append_nil]
    refine ⟨rfl, dx, (xi.fl.zip vs).reverse, upd_same, by rw [upd_ne ne, upd_same], hd1, ?_⟩
    rw [fin_heap (C := C) na ne]
    have gg := Go.fresh (ρ := ρ1) (o := .xd (xi.fl.zip vs).reverse) hd1
    exact o2 _ _ _ _ gg (st1.fresh hd1) ⟨C, xi.fl, hxc, rfl, Or.inr ⟨dx, vs, rfl, upd_same, r1.go gg, hl.symm⟩⟩
  · exact o2.elim
end
end Jp


set_option Elab.async false
set_option linter.all false
set_option maxRecDepth 100000
set_option maxHeartbeats 4000000
namespace Jp
open PySem PySem.Spec PyProof.Rows L2
variable [Tb] [Cb]
/-! ### except C as e: .. -/
theorem lookup_mem {α : Type} {f : Str} {v : α} : ∀ {l : List (Str × α)}, l.lookup f = some v → (f, v) ∈ l
  | (g, u) :: r, h => by
    rw [List.lookup_cons] at h
    cases q : f == g with
    | true =>
      rw [q] at h
      cases h
      rw [eq_of_beq q]
      exact List.mem_cons_self
    | false =>
      rw [q] at h
      exact List.mem_cons_of_mem _ (lookup_mem h)
theorem mem_lookup {α : Type} {f : Str} {v : α} : ∀ {l : List (Str × α)}, (l.map (·.1)).Nodup → (f, v) ∈ l → l.lookup f = some v
  | (g, u) :: r, n, h => by
    rw [List.map_cons, List.nodup_cons] at n
    rw [List.lookup_cons]
    rcases List.mem_cons.mp h with h | h
    · cases h
      rw [beq_self_eq_true]
    · cases q : f == g with
      | true =>
        exfalso
        rw [← eq_of_beq q] at n
        exact n.1 (List.mem_map.mpr ⟨_, h, rfl⟩)
      | false => exact mem_lookup n.2 h
theorem lookup_rev {α : Type} {f : Str} {v : α} {l : List (Str × α)} (n : (l.map (·.1)).Nodup) (h : l.lookup f = some v) : l.reverse.lookup f = some v :=
  mem_lookup (by
    rw [List.map_reverse]
    exact (List.reverse_perm _).nodup_iff.mpr n) (List.mem_reverse.mpr (lookup_mem h))
theorem fsr_zip {K : PySem.W.Frag} {ρ : List Addr} {H : Hp} : ∀ {fl : List Str} {vs : List V} {ds : List AV}, RpL K ρ H vs ds → FsR K ρ H (fl.zip vs) (fl.zip ds)
  | [], _, _, _ => by simp [FsR]
  | f :: fl, _, [], h => by
    cases h
    simp [FsR]
  | f :: fl, _, d :: ds, h => by
    cases h with
    | cons a b => exact ⟨rfl, a, fsr_zip b⟩
theorem zip_keys {α : Type} : ∀ {fl : List Str} {vs : List α}, fl.length = vs.length → (fl.zip vs).map (·.1) = fl
  | [], [], _ => rfl
  | f :: fl, v :: vs, h => by
    rw [List.zip_cons_cons, List.map_cons, zip_keys (by simpa using h)]
/-- what a class of errors must have to be looked at in an except suite -/
structure XsOk (K : PySem.W.Frag) (fl : List Str) (C : Addr) : Prop where
  xf : XfC K C
  nd : fl.Nodup
  no : ∀ f ∈ fl, PySem.W.findIn K (.ref C) f = some none
  hcl : (PySem.W.clsIn K C).isSome = true
  ha : PySem.W.findIn K (.ref C) "__class__" = some (some (.builtin "object.__class__"))
  hn : PySem.W.specialIn K (.builtin "object.__class__") "__get__" = some (some (.builtin "getset_descriptor.__get__"))
  ht : PySem.W.takesIn K (.builtin "object.__class__") = some true
  hm : PySem.W.mroIn K C (.type "object") = some true
  ve : PySem.W.kitOne K (.ref C) (.type "ValueError") = some true
/-- all of them: their names, and which of them is one of which -/
structure XAll (w : Wd) (K : PySem.W.Frag) (mg : Str → Option Value) : Prop where
  at_ : ∀ (i : Nat) (xi : XI), w.C.x[i]? = some xi → ∃ C, w.xc[i]? = some (C, xi.fl) ∧ XsOk K xi.fl C ∧
    ∀ (j : Nat) (z : Str), w.cn.x[j]? = some z → ∃ D, mg z = some (.ref D) ∧ (w.xc[j]?.map (·.1)) = some D ∧ PySem.W.exmOne K (.ref C) (.ref D) = some (decide (j ∈ xi.up)) ∧ PySem.W.kitOne K (.ref C) (.ref D) = some (decide (j ∈ xi.up))
  nm : ∀ (j : Nat) (z : Str), w.cn.x[j]? = some z → ∃ D, mg z = some (.ref D) ∧ (w.xc[j]?.map (·.1)) = some D
section
variable {w : Wd} {T : Nat → Nat → List AV → Sto → Rs AV} {k n i : Nat} {E : XK} {X : Cx} {a C : Addr} {oe : Obj} {d : Option Addr} {pn : List (Addr × Obj)} {fl : List Str}
def rIsX (K : PySem.W.Frag) (C a : Addr) (d : Option Addr) : List V → Hp → VK → Prop := fun xs H Q => ∃ (c : V) (cv : Value) (b : Bool), xs = [.ref a, c] ∧ (∀ u, RelV c u → u = cv) ∧ PySem.W.kitOne K (.ref C) cv = some b ∧ (∃ dd fs, d = some dd ∧ H dd = some (.xd fs)) ∧ Q (.bl b) H
theorem call_isX (O : XsOk X.K fl C) (hz : Zc (.ref C) d oe) (hf : ∃ vs, oe.data = .fields vs) : CallR (X.suite a ((a, oe) :: pn)) (.builtin "isinstance") (rIsX X.K C a d) := by
  intro pins s σ H xs us Q I r h
  obtain ⟨c, cv, b, rfl, hcv, e, ⟨dd, fs, ed, ea⟩, q⟩ := h
  subst ed
  cases r with
  | cons rx rr =>
    cases rr with
    | cons rt rr =>
      cases rr
      cases rx
      have ec := hcv _ rt
      subst ec
      obtain ⟨ha, _⟩ := I.pin (a, oe) (List.mem_append_left _ List.mem_cons_self)
      obtain ⟨vs, hd⟩ := hf
      have hx : ObjOk X.prog X.w H s.heap dd (.xd fs) := I.hok dd _ ea
      obtain ⟨mA, hns, hr⟩ := hx
      obtain ⟨od, ho, hl⟩ := lookIn_ns hns
      have J : PySem.W.InstAt s.heap a oe C (some od) := ⟨ha, hz.1, by unfold PySem.W.notCls; rw [hd] <;> rfl, by rw [hz.2]; exact ho⟩
      exact PySem.W.kia_one (PySem.W.kitx_exc (gt := none) O.hcl O.xf.ga O.xf.gg O.xf.exC O.ha O.hn O.ht O.hm) I.kIn J e (fun z => nomatch z) fun tk => ⟨.bl b, H, I.kept (t' := tk) fun _ _ z => z, rfl, q⟩
/-- what an expression of the suite comes to -/
def tHE (w : Wd) (K : PySem.W.Frag) (i : Nat) (a C : Addr) (d : Option Addr) (h : HE) : TE := fun σ H Q => σ[i]? = some (some (.ref a)) ∧ ∃ ρ s x v, StR K ρ H s ∧ XR K w.xc ρ H (.ref C) d x ∧ x.fs ≠ [] ∧ hE w.C.x x h = some v ∧
  ∀ ρ' H' u, Go ρ H ρ' H' → StR K ρ' H' s → Rp K ρ' H' u v → Q u H'
def tHEs (w : Wd) (K : PySem.W.Frag) (i : Nat) (a C : Addr) (d : Option Addr) (hs : List HE) : TA := fun σ H Q => σ[i]? = some (some (.ref a)) ∧ ∃ ρ s x vs, StR K ρ H s ∧ XR K w.xc ρ H (.ref C) d x ∧ x.fs ≠ [] ∧ hE.go w.C.x x hs = some vs ∧
  ∀ ρ' H' us, Go ρ H ρ' H' → StR K ρ' H' s → RpL K ρ' H' us vs → Q us H'
theorem XR.go {K : PySem.W.Frag} {xc : List (Addr × List Str)} {ρ ρ' : List Addr} {H H' : Hp} {s : Sto} {cls : Value} {d : Option Addr} {x : AX} (h : XR K xc ρ H cls d x) (st : StR K ρ H s) (g : Go ρ H ρ' H') : XR K xc ρ' H' cls d x := by
  obtain ⟨C, fs, e1, e2, e3⟩ := h
  refine ⟨C, fs, e1, e2, e3.imp id ?_⟩
  rintro ⟨dd, vs, y1, y2, y3, y4⟩
  refine ⟨dd, vs, y1, (g.f dd _ y2 (fun hm => ?_) (fun ps z => nomatch z)).1, y3.go g, y4⟩
  obtain ⟨m, hn⟩ := List.getElem?_of_mem hm
  have hl : m < s.length := by rw [st.len]; exact (List.getElem?_eq_some_iff.mp hn).1
  have hob := st.ob m dd s[m] hn (List.getElem?_eq_getElem hl)
  cases hso : s[m] with
  | lst ds =>
    rw [hso] at hob
    obtain ⟨ys, e, _⟩ := hob
    rw [y2] at e
    cases e
  | ins c fs =>
    rw [hso] at hob
    obtain ⟨dx, gs, e, _⟩ := hob
    rw [y2] at e
    cases e
  | dct kvs =>
    rw [hso] at hob
    obtain ⟨gs, e, _⟩ := hob
    rw [y2] at e
    cases e
theorem he_star {cn : Nm} {sc : Scope} {en : Str} {h : HE} {e : Expr} {es : List Expr} {env : Env} (hm : mtHE cn sc en h e = true) : starEach (e :: es) env = (false, eval e env) :: starEach es env := by
  cases e <;> first | rfl | (cases h <;> simp [mtHE] at hm)
theorem xd_of {xi : XI} {D : Addr} {ρ : List Addr} {H : Hp} {x : AX} {ci : XI} (A : XAll w X.K X.mg) (r : XR X.K w.xc ρ H (.ref C) d x) (nf : x.fs ≠ []) (hx : w.C.x[x.cls]? = some xi) : XsOk X.K xi.fl C ∧ ∃ dd vs, d = some dd ∧ H dd = some (.xd (xi.fl.zip vs).reverse) ∧ RpL X.K ρ H vs x.fs ∧ xi.fl.length = x.fs.length := by
  obtain ⟨C', e1, O, _⟩ := A.at_ _ _ hx
  obtain ⟨C2, fs, z1, z2, z3⟩ := r
  rw [e1] at z1
  cases z1
  cases z2
  refine ⟨O, ?_⟩
  rcases z3 with ⟨z, _⟩ | z3
  · exact absurd z nf
  · exact z3
theorem he_lit {ρ : List Addr} {H : Hp} {s : Sto} {Q : VK} {v : V} {dv : AV} (st : StR X.K ρ H s) (q : ∀ ρ' H' u, Go ρ H ρ' H' → StR X.K ρ' H' s → Rp X.K ρ' H' u dv → Q u H') (r : Rp X.K ρ H v dv) : Q v H := q ρ H v (Go.refl _ _) st r
mutual
theorem he_ok (G : Gd w T k 0 E X) (A : XAll w X.K X.mg) (hz : Zc (.ref C) d oe) (hf : ∃ vs, oe.data = .fields vs) {en : Str} (hi : X.N[i]? = some en) (hv : visB X.env.scope en = true) : ∀ (h : HE) (e : Expr), mtHE w.cn X.env.scope en h e = true → PE (X.suite a ((a, oe) :: pn)) e (tHE w X.K i a C d h)
  | .fld f, e, hm => by
    cases e <;> first | (simp [mtHE] at hm; done) | skip
    rename_i o g pos
    cases o <;> first | (simp [mtHE] at hm; done) | skip
    rename_i x p
    have hm' : (decide (x = en) && decide (f = g)) = true := by simpa only [mtHE] using hm
    obtain ⟨h1, h2⟩ := b2 hm'
    have e1 := of_decide_eq_true h1
    have e2 := of_decide_eq_true h2
    subst e1 e2
    obtain ⟨v1, v2, v3, _⟩ := vis_of hv
    constructor
    rintro pins s σ H Q I ⟨h0, ρ, t, x1, v, st, xr, nf, hE1, q⟩
    have hE2 : (match w.C.x[x1.cls]? with
      | some xi => (xi.fl.zip x1.fs).lookup f
      | none => none) = some v := hE1
    split at hE2
    · rename_i xi hxi
      obtain ⟨O, dd, vs, ed, eh, rl, hl⟩ := xd_of (D := C) (ci := xi) A xr nf hxi
      obtain ⟨v0, hv0, rv0⟩ := (fsr_zip (fl := xi.fl) rl).get hE2
      have hmem : f ∈ xi.fl := (List.of_mem_zip (lookup_mem hE2)).1
      have hkeys : ((xi.fl.zip vs).map (·.1)).Nodup := by
        rw [zip_keys (by rw [hl, rl.len])]
        exact O.nd
      refine (pe_xf (pn := pn) (pos := pos) O.xf (O.no f hmem) hz hf (pe_var (X := X.suite a ((a, oe) :: pn)) (i := i) (x := x) (pos := p) hi v1 v2 v3) rfl).run pins s σ H Q I ⟨_, h0, rfl, rfl, dd, _, v0, ed, eh, lookup_rev hkeys hv0, ?_⟩
      exact he_lit st q rv0
    · cases hE2
  | .lit dv, e, hm => by
    cases e <;> first | (simp [mtHE] at hm; done) | skip
    rename_i c j pos
    have hm' : litB dv c = true := by simpa only [mtHE] using hm
    cases dv with
    | non =>
      cases c <;> first | (cases hm'; done) | skip
      exact PE.of pe_non fun σ H Q ⟨h0, ρ, t, x1, v, st, xr, nf, hE1, q⟩ => by cases hE1; exact he_lit st q .non
    | bl b =>
      cases c <;> first | (cases hm'; done) | skip
      rename_i b'
      have e2 : b = b' := by simpa [litB] using hm'
      subst e2
      exact PE.of pe_bl fun σ H Q ⟨h0, ρ, t, x1, v, st, xr, nf, hE1, q⟩ => by cases hE1; exact he_lit st q (.bl _)
    | int b =>
      cases c <;> first | (cases hm'; done) | skip
      rename_i b'
      have e2 : b = b' := by simpa [litB] using hm'
      subst e2
      exact PE.of pe_int fun σ H Q ⟨h0, ρ, t, x1, v, st, xr, nf, hE1, q⟩ => by cases hE1; exact he_lit st q (.int _)
    | str b =>
      cases c <;> first | (cases hm'; done) | skip
      rename_i b'
      have e2 : b = b' := by simpa [litB] using hm'
      subst e2
      exact PE.of pe_str fun σ H Q ⟨h0, ρ, t, x1, v, st, xr, nf, hE1, q⟩ => by cases hE1; exact he_lit st q (.str _)
    | tup _ => cases c <;> cases hm'
    | lst _ => cases c <;> cases hm'
    | ref _ => cases c <;> cases hm'
    | fn _ => cases c <;> cases hm'
  | .tup hs, e, hm => by
    cases e <;> first | (simp [mtHE] at hm; done) | skip
    rename_i xs j pos
    have hm' : mtHE.go w.cn X.env.scope en hs xs = true := by simpa only [mtHE] using hm
    refine PE.of (pe_tup (hes_ok G A hz hf hi hv hs xs hm')) ?_
    rintro σ H Q ⟨h0, ρ, t, x1, v, st, xr, nf, hE1, q⟩
    rw [hE] at hE1
    split at hE1
    · rename_i vs hg
      split at hE1
      · rename_i hl
        cases hE1
        refine ⟨h0, ρ, t, x1, vs, st, xr, nf, hg, fun ρ' H' us g' st' rl => ⟨by rw [rl.len]; exact fits_line hl, fun p hp => ?_⟩⟩
        exact q ρ' _ _ (g'.trans (Go.fresh hp)) (st'.fresh hp) (.tup (Or.inl (Or.inl upd_same)) (rl.go (Go.fresh hp)))
      · cases hE1
    · cases hE1
  | .isx c, e, hm => by
    match e, hm with
    | .Call (.Name iN p1) [.Name x p2, .Name z p3] [] pos, hm =>
      have hm' : (decide (iN = "isinstance") && glB X.env.scope iN && decide (x = en) && decide (w.cn.x[c]? = some z) && glB X.env.scope z) = true := by simpa only [mtHE] using hm
      obtain ⟨hm', h5⟩ := b2 hm'
      obtain ⟨hm', h4⟩ := b2 hm'
      obtain ⟨hm', h3⟩ := b2 hm'
      obtain ⟨h1, h2⟩ := b2 hm'
      have e1 := of_decide_eq_true h1
      have e3 := of_decide_eq_true h3
      subst e1 e3
      obtain ⟨v1, v2, v3, _⟩ := vis_of hv
      obtain ⟨i1, i2, i3⟩ := gl_of h2
      obtain ⟨z1, z2, z3⟩ := gl_of h5
      constructor
      rintro pins s σ H Q I ⟨h0, ρ, t, x1, v, st, xr, nf, hE1, q⟩
      rw [hE] at hE1
      split at hE1
      · rename_i xi hxi
        cases hE1
        obtain ⟨O, dd, vs, ed, eh, rl, hl⟩ := xd_of (D := C) (ci := xi) A xr nf hxi
        obtain ⟨C', q1, _, q3⟩ := A.at_ _ _ hxi
        have hC : C' = C := by
          obtain ⟨C2, fs2, w1, w2, _⟩ := xr
          rw [q1] at w1
          cases w1
          cases w2
          rfl
        subst hC
        obtain ⟨D, m1, m2, m3, m4⟩ := q3 c z (of_decide_eq_true h4)
        have pD : PE (X.suite a ((a, oe) :: pn)) (.Name z p3) (tC (V.ref D)) := pe_glob (X := X.suite a ((a, oe) :: pn)) z1 m1 rfl z2
        have pX := pe_var (X := X.suite a ((a, oe) :: pn)) (i := i) (x := x) (pos := p2) hi v1 v2 v3
        refine (pe_callB (X := X.suite a ((a, oe) :: pn)) (pos := pos) (p := p1) (call_isX O hz hf) i1 (G.bi _ (by decide)) (by decide +kernel) (pa_cons pX (pa_cons pD pa_nil (by rfl)) (by rfl)) i3 i2 (by rfl) (by rfl)).run pins s σ H Q I ?_
        refine ⟨.ref a, h0, .ref D, .ref D, _, rfl, fun u hu => hu, m4, ⟨dd, _, ed, eh⟩, ?_⟩
        exact he_lit st q (.bl _)
      · cases hE1
  | .isv, e, hm => by
    match e, hm with
    | .Call (.Name iN p1) [.Name x p2, .Name z p3] [] pos, hm =>
      have hm' : (decide (iN = "isinstance") && glB X.env.scope iN && decide (x = en) && decide (z = "ValueError") && glB X.env.scope z) = true := by simpa only [mtHE] using hm
      obtain ⟨hm', h5⟩ := b2 hm'
      obtain ⟨hm', h4⟩ := b2 hm'
      obtain ⟨hm', h3⟩ := b2 hm'
      obtain ⟨h1, h2⟩ := b2 hm'
      have e1 := of_decide_eq_true h1
      have e3 := of_decide_eq_true h3
      have e4 := of_decide_eq_true h4
      subst e1 e3 e4
      obtain ⟨v1, v2, v3, _⟩ := vis_of hv
      obtain ⟨i1, i2, i3⟩ := gl_of h2
      obtain ⟨z1, z2, z3⟩ := gl_of h5
      constructor
      rintro pins s σ H Q I ⟨h0, ρ, t, x1, v, st, xr, nf, hE1, q⟩
      rw [hE] at hE1
      split at hE1
      · rename_i xi hxi
        cases hE1
        obtain ⟨O, dd, vs, ed, eh, rl, hl⟩ := xd_of (D := C) (ci := xi) A xr nf hxi
        have pD : PE (X.suite a ((a, oe) :: pn)) (.Name "ValueError" p3) (tC (.ty "ValueError")) := pe_bltn (X := X.suite a ((a, oe) :: pn)) (u := .type "ValueError") z1 (G.bi _ (by decide)) (by decide +kernel) rfl z3 z2
        have pX := pe_var (X := X.suite a ((a, oe) :: pn)) (i := i) (x := x) (pos := p2) hi v1 v2 v3
        refine (pe_callB (X := X.suite a ((a, oe) :: pn)) (pos := pos) (p := p1) (call_isX O hz hf) i1 (G.bi _ (by decide)) (by decide +kernel) (pa_cons pX (pa_cons pD pa_nil (by rfl)) (by rfl)) i3 i2 (by rfl) (by rfl)).run pins s σ H Q I ?_
        refine ⟨.ref a, h0, .ty "ValueError", .type "ValueError", true, rfl, fun u hu => hu, O.ve, ⟨dd, _, ed, eh⟩, ?_⟩
        exact he_lit st q (.bl _)
      · cases hE1
  | .an x y, e, hm => by
    match e, hm with
    | .BoolOp .And [e1, e2] pos, hm =>
      have hm' : (mtHE w.cn X.env.scope en x e1 && mtHE w.cn X.env.scope en y e2) = true := by simpa only [mtHE] using hm
      obtain ⟨h1, h2⟩ := b2 hm'
      refine PE.of (pe_andT (he_ok G A hz hf hi hv x e1 h1) (pe_one (he_ok G A hz hf hi hv y e2 h2))) ?_
      rintro σ H Q ⟨h0, ρ, t, x1, v, st, xr, nf, hE1, q⟩
      rw [hE] at hE1
      split at hE1
      · rename_i ea
        cases hE1
        exact ⟨h0, ρ, t, x1, _, st, xr, nf, ea, fun ρ' H' u g' st' r => ⟨false, by cases r; rfl, by cases r; exact q ρ' H' _ g' st' (.bl _)⟩⟩
      · rename_i ea
        exact ⟨h0, ρ, t, x1, _, st, xr, nf, ea, fun ρ' H' u g' st' r => ⟨true, by cases r; rfl, h0, ρ', t, x1, v, st', xr.go st g', nf, hE1, fun ρ2 H2 u2 g2 st2 r2 => q ρ2 H2 u2 (g'.trans g2) st2 r2⟩⟩
      · cases hE1
theorem hes_ok (G : Gd w T k 0 E X) (A : XAll w X.K X.mg) (hz : Zc (.ref C) d oe) (hf : ∃ vs, oe.data = .fields vs) {en : Str} (hi : X.N[i]? = some en) (hv : visB X.env.scope en = true) : ∀ (hs : List HE) (es : List Expr), mtHE.go w.cn X.env.scope en hs es = true → PA (X.suite a ((a, oe) :: pn)) es (tHEs w X.K i a C d hs)
  | [], es, hm => by
    cases es with
    | cons _ _ => simp [mtHE.go] at hm
    | nil => exact PA.of pa_nil fun σ H Q ⟨h0, ρ, t, x1, vs, st, xr, nf, hE1, q⟩ => by cases hE1; exact q ρ H [] (Go.refl _ _) st .nil
  | h :: hs, es, hm => by
    cases es with
    | nil => simp [mtHE.go] at hm
    | cons e es =>
      have hm' : (mtHE w.cn X.env.scope en h e && mtHE.go w.cn X.env.scope en hs es) = true := by simpa only [mtHE.go] using hm
      obtain ⟨h1, h2⟩ := b2 hm'
      refine PA.of (pa_cons (he_ok G A hz hf hi hv h e h1) (hes_ok G A hz hf hi hv hs es h2) (he_star h1)) ?_
      rintro σ H Q ⟨h0, ρ, t, x1, vs, st, xr, nf, hE1, q⟩
      rw [hE.go] at hE1
      split at hE1
      · rename_i v ws e1 e2
        cases hE1
        refine ⟨h0, ρ, t, x1, v, st, xr, nf, e1, fun ρ' H' u g' st' r => ⟨h0, ρ', t, x1, ws, st', xr.go st g', nf, e2, fun ρ2 H2 us g2 st2 rl => ?_⟩⟩
        exact q ρ2 H2 (u :: us) (g'.trans g2) st2 (.cons (r.go g2) rl)
      · cases hE1
end
end
end Jp


set_option Elab.async false
set_option linter.all false
set_option maxRecDepth 100000
set_option maxHeartbeats 4000000
namespace Jp
open PySem PySem.Spec PyProof.Rows L2
variable [Tb] [Cb]
section
variable {w : Wd} {T : Nat → Nat → List AV → Sto → Rs AV} {k n i : Nat} {E : XK} {X : Cx} {a C : Addr} {oe : Obj} {d : Option Addr} {pn : List (Addr × Obj)}
/-- as a test -/
def tHT (w : Wd) (K : PySem.W.Frag) (i : Nat) (a C : Addr) (d : Option Addr) (h : HE) : TT := fun σ H Q => σ[i]? = some (some (.ref a)) ∧ ∃ ρ s x b, StR K ρ H s ∧ XR K w.xc ρ H (.ref C) d x ∧ x.fs ≠ [] ∧ hE w.C.x x h = some (.bl b) ∧
  ∀ ρ' H', Go ρ H ρ' H' → StR K ρ' H' s → Q b H'
theorem hp_plain {h : HE} {e : Expr} (pe : PE (X.suite a ((a, oe) :: pn)) e (tHE w X.K i a C d h)) (he : ∀ whole, isTrue e X.env whole = (do let v ← whole; standAt e.pos; holding [v] (truthy v))) : PT (X.suite a ((a, oe) :: pn)) e (tHT w X.K i a C d h) := by
  refine PT.of (pt_truth pe he) ?_
  rintro σ H Q ⟨h0, ρ, t, x1, b, st, xr, nf, hE1, q⟩
  exact ⟨h0, ρ, t, x1, _, st, xr, nf, hE1, fun ρ' H' u g' st' r => ⟨b, by cases r; rfl, q ρ' H' g' st'⟩⟩
theorem hp_ok (G : Gd w T k 0 E X) (A : XAll w X.K X.mg) (hz : Zc (.ref C) d oe) (hf : ∃ vs, oe.data = .fields vs) {en : Str} (hi : X.N[i]? = some en) (hv : visB X.env.scope en = true) : ∀ (h : HE) (e : Expr), mtHE w.cn X.env.scope en h e = true → PT (X.suite a ((a, oe) :: pn)) e (tHT w X.K i a C d h)
  | .fld f, e, hm => by
    match e, hm with
    | .Attribute (.Name x p) g pos, hm => exact hp_plain (he_ok G A hz hf hi hv _ _ hm) (fun _ => rfl)
  | .lit dv, e, hm => by
    match e, hm with
    | .Constant cc j pos, hm => exact hp_plain (he_ok G A hz hf hi hv _ _ hm) (fun _ => rfl)
  | .tup hs, e, hm => by
    match e, hm with
    | .Tuple xs j pos, hm => exact hp_plain (he_ok G A hz hf hi hv _ _ hm) (fun _ => rfl)
  | .isx c, e, hm => by
    match e, hm with
    | .Call (.Name iN p1) [.Name x p2, .Name z p3] [] pos, hm => exact hp_plain (he_ok G A hz hf hi hv _ _ hm) (fun _ => rfl)
  | .isv, e, hm => by
    match e, hm with
    | .Call (.Name iN p1) [.Name x p2, .Name z p3] [] pos, hm => exact hp_plain (he_ok G A hz hf hi hv _ _ hm) (fun _ => rfl)
  | .an x y, e, hm => by
    match e, hm with
    | .BoolOp .And [e1, e2] pos, hm =>
      have hm' : (mtHE w.cn X.env.scope en x e1 && mtHE w.cn X.env.scope en y e2) = true := by simpa only [mtHE] using hm
      obtain ⟨h1, h2⟩ := b2 hm'
      refine PT.of (pw_and (hp_ok G A hz hf hi hv x e1 h1) (pw_and1 (hp_ok G A hz hf hi hv y e2 h2))).pt ?_
      rintro σ H Q ⟨h0, ρ, t, x1, b, st, xr, nf, hE1, q⟩
      rw [hE] at hE1
      split at hE1
      · rename_i ea
        cases hE1
        exact ⟨h0, ρ, t, x1, false, st, xr, nf, ea, fun ρ' H' g' st' => q ρ' H' g' st'⟩
      · rename_i ea
        exact ⟨h0, ρ, t, x1, true, st, xr, nf, ea, fun ρ' H' g' st' => ⟨h0, ρ', t, x1, b, st', xr.go st g', nf, hE1, fun ρ2 H2 g2 st2 => q ρ2 H2 (g'.trans g2) st2⟩⟩
      · cases hE1
/-- what the suite comes to -/
def tHS (w : Wd) (K : PySem.W.Frag) (i : Nat) (a C : Addr) (d : Option Addr) (hs : List HS) : TS := fun D σ H => σ[i]? = some (some (.ref a)) ∧ ∃ ρ s x v, StR K ρ H s ∧ XR K w.xc ρ H (.ref C) d x ∧ x.fs ≠ [] ∧ hS w.C.x x hs = some v ∧
  ∀ ρ' H' u, Go ρ H ρ' H' → StR K ρ' H' s → Rp K ρ' H' u v → D.rt u H'
theorem hs_ok (G : Gd w T k 0 E X) (A : XAll w X.K X.mg) (hz : Zc (.ref C) d oe) (hf : ∃ vs, oe.data = .fields vs) {en : Str} (hi : X.N[i]? = some en) (hv : visB X.env.scope en = true) : ∀ (hs : List HS) (suite : List Stmt), mtHS w.cn X.env.scope en hs suite = true → PSs (X.suite a ((a, oe) :: pn)) suite (tHS w X.K i a C d hs)
  | [], suite, hm => by cases suite <;> simp [mtHS] at hm
  | .ret h :: r, suite, hm => by
    match r, suite, hm with
    | [], [.Return (some x) pos], hm =>
      have hm' : mtHE w.cn X.env.scope en h x = true := by simpa only [mtHS] using hm
      refine PSs.of (pss_one (ps_ret (he_ok G A hz hf hi hv h x hm'))) ?_
      rintro D σ H ⟨h0, ρ, t, x1, v, st, xr, nf, hE1, q⟩
      exact ⟨h0, ρ, t, x1, v, st, xr, nf, hE1, q⟩
  | .ifr c h :: r, suite, hm => by
    match suite, hm with
    | .If t [.Return (some x) p1] [] p2 :: rest, hm =>
      have hm' : (mtHE w.cn X.env.scope en c t && mtHE w.cn X.env.scope en h x && mtHS w.cn X.env.scope en r rest) = true := by simpa only [mtHS] using hm
      obtain ⟨hm', h3⟩ := b2 hm'
      obtain ⟨h1, h2⟩ := b2 hm'
      refine PSs.of (pss_cons (ps_if (hp_ok G A hz hf hi hv c t h1) (pss_one (ps_ret (he_ok G A hz hf hi hv h x h2))) pss_nil) (hs_ok G A hz hf hi hv r rest h3)) ?_
      rintro D σ H ⟨h0, ρ, t, x1, v, st, xr, nf, hE1, q⟩
      rw [hS] at hE1
      split at hE1
      · rename_i ea
        exact ⟨h0, ρ, t, x1, true, st, xr, nf, ea, fun ρ' H' g' st' => ⟨h0, ρ', t, x1, v, st', xr.go st g', nf, hE1, fun ρ2 H2 u2 g2 st2 r2 => q ρ2 H2 u2 (g'.trans g2) st2 r2⟩⟩
      · rename_i ea
        exact ⟨h0, ρ, t, x1, false, st, xr, nf, ea, fun ρ' H' g' st' => ⟨h0, ρ', t, x1, v, st', xr.go st g', nf, hE1, fun ρ2 H2 u2 g2 st2 r2 => q ρ2 H2 u2 (g'.trans g2) st2 r2⟩⟩
      · cases hE1
end
end Jp


set_option Elab.async false
set_option linter.all false
set_option maxRecDepth 100000
set_option maxHeartbeats 4000000
namespace Jp
open PySem PySem.Spec PyProof.Rows L2
variable [Tb] [Cb]
section
variable {w : Wd} {T : Nat → Nat → List AV → Sto → Rs AV} {k n i : Nat} {E : XK} {X : Cx} {a C : Addr} {oe : Obj} {d : Option Addr} {pn : List (Addr × Obj)}
/-- what a body's context has besides -/
structure Gs (w : Wd) (T : Nat → Nat → List AV → Sto → Rs AV) (k : Nat) (E : XK) (X : Cx) : Prop extends Gs0 w T k E X where
  tk : Takes X (fun cls d _ H => E cls d H)
  stk : X.stack = X.env :: X.outer
  frm : X.env.frame = some X.env.locals
  xa : XAll w X.K X.mg
  xc : ∀ (c : Nat) (x : Str) (xi : XI), w.cn.x[c]? = some x → w.C.x[c]? = some xi → xi.fl ≠ [] → ∃ C, w.xc[c]? = some (C, xi.fl) ∧ XcOk X.K X.mg X.prog X.w X.base k x xi.fl C
  clo : (∀ xs s, T 0 CLO xs s = .bad) ∨ ∃ i p, Cb.cl = some (i, p) ∧ ClP w.xc X p Cb.tr Cb.cv Cb.ca (T 0 CLO)
theorem Gd.tr (G : Gd w T k 0 E X) {W : WX} {pn : List (Addr × Obj)} {xe : Value → Shared → Prop} (tk : Takes (X.tr pn xe) W) {E' : XK} (hE : ∀ cls d σ H, E' cls d H → W cls d σ H) : Gd w T k 0 E' (X.tr pn xe) where
  N := G.N
  nd := G.nd
  calm := G.calm
  rg := G.rg
  fn := G.fn
  cn := G.cn
  dn := G.dn
  kl := G.kl
  ma := G.ma
  bi := G.bi
  ps := passes_call tk hE
  cd := G.cd
  ld := G.ld
  cw := G.cw
  hf := G.hf
theorem takes_len {W : WX} (tk : Takes X W) : Takes X (fun cls d σ H => σ.length = X.N.length → W cls d σ H) := fun u s' ⟨a, B, sI, pins, σ, H, cls, d, e, I, nb, up, sky, na, os, ag, q⟩ =>
  tk u s' ⟨a, B, sI, pins, σ, H, cls, d, e, I, nb, up, sky, na, os, ag, q I.len⟩
end
end Jp


set_option Elab.async false
set_option linter.all false
set_option maxRecDepth 100000
set_option maxHeartbeats 8000000
namespace Jp
open PySem PySem.Spec PyProof.Rows L2
variable [Tb] [Cb]
section
variable {w : Wd} {T : Nat → Nat → List AV → Sto → Rs AV} {k n : Nat} {E : XK} {X : Cx}
/-! ### xs[a:] = ys -/
theorem to_end {a n : Nat} (h : a ≤ n) : sliceBounds (some (a : Int)) none none n = ((a : Int), (n : Int), 1) := by
  simp only [sliceBounds, Option.getD_none]
  have q : ¬ ((a : Int) < 0) := by omega
  simp only [q, if_false, show (1 : Int) > 0 by decide, if_true]
  congr 1
  omega
theorem list_tail_set {prog : Program} {wd : World} {A : Around} {Ex : Value → Shared → Prop} {st : Shared} {l b sl : Addr} {old fresh : Array Value} {m m2 : Nat} {lv : Value} {a : Nat} {Q : Unit → Shared → Prop}
    (el : st.heap.get? l = some { cls := .type "list", data := .seq old m }) (eb : st.heap.get? b = some { cls := .type "list", data := .seq fresh m2 }) (ne : l ≠ b) (hs : st.heap.IsSliceOf sl lv .none .none) (pl : IsPart lv (some (a : Int)))
    (ha : a ≤ old.size) (fit : old.size + fresh.size ≤ sizeLine) (h : Q () { st with heap := st.heap.update l (Obj.mapSeq fun xs => xs.extract 0 a ++ fresh ++ xs.extract old.size xs.size) }) :
    wpAny (model prog wd) A (setItem (.ref l) (.ref sl) (.ref b)) Q Ex st := by
  have isl : st.heap.IsList l old := PySem.IsL.isList el
  have isb : st.heap.IsList b fresh := PySem.IsL.isList eb
  obtain ⟨oo, g1, g2, g3⟩ := id hs
  have ty : st.TypeIs (.ref sl) "slice" := ⟨oo, g1, g2⟩
  have one : ¬ ((rawPart none == rawInt 0) = true) := Bool.false_ne_true
  have other : Builtin.List.listSameRef (.ref l) (.ref b) = false := by unfold Builtin.List.listSameRef; exact beq_eq_false_iff_ne.mpr ne
  have top : (max (a : Int) (old.size : Int)).toNat = old.size := by omega
  have room : ((fun xs : Array Value => xs.extract 0 a ++ fresh ++ xs.extract old.size xs.size) old).size ≤ sizeLine + 1 := by simp only [Array.size_append, Array.size_extract]; omega
  unfold setItem; try with_reducible refine wpAny_holding ?_
  first | refine wpAny_bind (wpAny_pure ?_) | skip
  refine wpAny_bind (wpAny_sequenceKey isl.typeIs (by decide) ?_)
  refine wpAny_bind (wpAny_callSpecial?_slot (name := Str.ofString "__setitem__") isl.typeIs slot_list_setitem (wpAny_call_entry slot_list_setitem isl.typeIs entry_list_setitem ?_ (args_list_setitem _ _ _)))
  show wpAny _ _ (Builtin.List.listSubscript? (.ref sl) >>= _) _ _ st
  refine wpAny_bind ?_; unfold Builtin.List.listSubscript?
  refine wpAny_bind (wpAny_specialOf ty slice_no_index ?_); simp only [Option.isNone_none, if_true]; refine wpAny_pure ?_
  show wpAny _ _ (typeOf (.ref sl) >>= _) _ _ st
  refine wpAny_bind (wpAny_typeOf ty ?_)
  first
    | rw [if_neg (by decide : ¬ ((Value.type "slice" == Value.type "int") = true))]
    | refine PySem.W.KFB.if_not (by decide) ?_
    | rw [if_neg (by decide)]
  rw [listSliceParts_eq]
  refine wpAny_bind (wpAny_bind (wpAny_field g1 g3 (x := .none) rfl (wpAny_bind (wpAny_listPart .none ?_)))); rw [if_neg one]
  refine wpAny_bind (wpAny_field g1 g3 (x := lv) rfl (wpAny_bind (wpAny_listPart pl ?_)))
  refine wpAny_bind (wpAny_field g1 g3 (x := .none) rfl (wpAny_bind (wpAny_listPart .none (wpAny_pure ?_))))
  first
    | simp only [other, Bool.false_eq_true, if_false]
    | refine PySem.W.KFB.if_not other ?_
    | (dsimp only; rw [if_neg (by rw [other]; exact Bool.false_ne_true)])
  refine wpAny_bind (m := Builtin.List.listAllItems (.ref b) "must assign iterable to extended slice") ?_; unfold Builtin.List.listAllItems
  refine wpAny_bind (wpAny_typeOf isb.typeIs ?_)
  first
    | refine PySem.W.KFB.if_so (by decide) ?_
    | (rw [if_pos (by decide)])
    | (simp only [beq_self_eq_true, Bool.true_or, if_true])
  unfold Builtin.List.listItems; refine wpAny_bind (wpAny_seqItems eb rfl (wpAny_pure ?_))
  refine wpAny_bind (wpAny_bind (wpAny_seqItems el rfl (wpAny_pure ?_)))
  refine wpAny_bind (wpAny_of_eq ((sliceIndices_raw (some (a : Int)) none none old.size (by simp)).trans (congrArg (pure : Int × Int × Int → Sem (Int × Int × Int)) (to_end ha))) ?_)
  show wpAny _ _ (if ((1 : Int) == 1) = true then _ else _) _ _ st
  rw [if_pos (by decide : ((1 : Int) == 1) = true)]
  refine wpAny_bind (wpAny_rule ?_)
  first
    | simp only [notLongL fit, Bool.false_eq_true, if_false]
    | refine PySem.W.KFB.if_not (notLongL fit) ?_
  first | refine wpAny_bind (wpAny_pure ?_) | skip
  show wpAny _ _ (updateSeq l (fun xs => xs.extract 0 ((a : Int)).toNat ++ fresh ++ xs.extract (max (a : Int) (old.size : Int)).toNat xs.size) >>= _) _ _ st
  rw [top, Int.toNat_natCast]
  refine wpAny_bind (wpAny_updateSeq (hz := Nat.le_trans (Nat.le_add_right _ _) fit) (_hz' := room) el rfl ?_)
  refine wpAny_bind (wpAny_letGo ?_)
  first
    | exact wpAny_bind (wpAny_pure (wpAny_pure ⟨.none, rfl, wpAny_pure h⟩))
    | exact wpAny_pure ⟨.none, rfl, wpAny_pure h⟩
theorem tail_set {pins : List (Addr × Obj)} {sh : Shared} {σ : L2.St} {H : Hp} {l b sl : Addr} {xs ys : List V} {a : Int} {lv : Value} {Q : Unit → Shared → Prop} (I : Inv X pins σ H sh)
    (hH : H l = some (.lst xs)) (hB : H b = some (.lst ys)) (hne : l ≠ b) (hs : sh.heap.IsSliceOf sl lv .none .none) (ra : IsPart lv (some a)) (h0 : 0 ≤ a) (hc : a ≤ xs.length)
    (hz : xs.length + ys.length ≤ sizeLine) (h : ∀ s', Inv X pins σ (upd H l (.lst (xs.take a.toNat ++ ys))) s' → Q () s') :
    wpAny (model X.prog X.w) X.A (setItem (.ref l) (.ref sl) (.ref b)) Q X.xe sh := by
  obtain ⟨z, its, m, r, hl, e⟩ := I.lstM hH
  obtain ⟨z2, its2, m2, r2, hl2, e2⟩ := I.lstM hB
  obtain ⟨a', rfl⟩ := Int.eq_ofNat_of_zero_le h0
  rw [Int.toNat_natCast] at h
  refine list_tail_set (a := a') e e2 hne hs ra (by rw [List.size_toArray]; omega) (by rw [List.size_toArray, List.size_toArray]; omega) (h _ ?_)
  refine I.lset (its' := its.take a' ++ its2) (t' := sh.toks) hH e ?_ (Vals.append (r.take _) r2) ?_
  · rw [splice_eq its its2 a' _, List.size_toArray, List.drop_length, List.append_nil]
  · rw [List.length_append, List.length_take]
    omega
/-- o[lo:] as a target -/
theorem pg_tail {o lo : Expr} {p2 pos : Pos} {to tl : TE} (ho : PE X o to) (hl : PE X lo tl) : PG X (.Subscript o (.Slice (some lo) none none p2) pos) (fun v σ H Q => to σ H fun x H1 => tl σ H1 fun y H2 =>
    ∃ l b xs ys a, x = .ref l ∧ v = .ref b ∧ y = .int a ∧ H2 l = some (.lst xs) ∧ H2 b = some (.lst ys) ∧ l ≠ b ∧ 0 ≤ a ∧ a ≤ xs.length ∧ xs.length + ys.length ≤ sizeLine ∧ Q σ (upd H2 l (.lst (xs.take a.toNat ++ ys)))) := by
  refine ⟨fun pins s σ H v u Q I r h => ?_⟩
  have e0 : assign (.Subscript o (.Slice (some lo) none none p2) pos) X.env u = (do
      let ov ← holding [u] (eval o X.env)
      let iv ← holding [u, ov] (eval (.Slice (some lo) none none p2) X.env)
      standAt pos
      holding [u, ov, iv] (setItem ov iv u)
      release [iv, u, ov] []) := rfl
  rw [e0]
  refine wpAny_bind (wpAny_holding (thn (ho.run pins s σ H _ I h) ?_))
  rintro ov s1 ⟨x, H1, I1, r1, q1⟩
  refine wpAny_bind (wpAny_holding (wpAny_Slice ?_))
  rw [evalPart_some]
  refine thn (hl.run pins s1 σ H1 _ I1 q1) ?_
  rintro iv s2 ⟨y, H2, I2, r2, l, b, xs, ys, a, rfl, rfl, rfl, p1, p3, ne, h0, hc, hz, q2⟩
  rw [evalPart_none]
  refine wpAny_pure ?_
  refine wpAny_pure ?_
  obtain ⟨t, rfl⟩ := r2
  cases r1
  cases r
  have I4 : Inv X pins σ H2 { s2 with heap := s2.heap.push { cls := .type "slice", data := .fields #[.int a t, .none, .none] } } := I2.kept (t' := s2.toks) fun b ob q => Heap.get?_push_of_some _ q
  refine wpAny_bind (wpAny_standAt (wpAny_bind (wpAny_holding ?_)))
  exact tail_set (sl := s2.heap.objs.size) (lv := .int a t) I4 p1 p3 ne (Heap.IsSliceOf.new ..) (.int a t) h0 hc hz fun s' I' => wpAny_release ⟨σ, _, I', q2⟩
theorem Out.bdX2 {K : PySem.W.Frag} {xc : List (Addr × List Str)} {E : XK} {ρ ρ0 : List Addr} {H H0 : Hp} {α β γ δ : Type} {R : List Addr → Hp → β → α → Prop} {R2 : List Addr → Hp → δ → γ → Prop} {r : Rs α} {f : α → Sto → Rs γ} {Q : δ → Hp → Prop} {Q' : β → Hp → Prop} (h : Out K xc E ρ H R2 ((noX r).bd f) Q)
    (hk : ∀ a s ρ1 H1 b, r = .ok a s → Go ρ0 H0 ρ1 H1 → StR K ρ1 H1 s → R ρ1 H1 b a → Out K xc E ρ H R2 (f a s) Q → Q' b H1) : Out K xc E ρ0 H0 R r Q' := by
  cases r with
  | ok a s => exact fun ρ' H' b g st rb => hk a s ρ' H' b rfl g st rb h
  | exc x s => exact False.elim h
  | bad => exact False.elim h
/-! ### the function that was handed -/
theorem pe_clo (G : Gd w T k 0 E X) {i : Nat} {p : Addr} {cl : List AV → Sto → Rs AV} (hcl : Cb.cl = some (i, p)) (P : ClP w.xc X p Cb.tr Cb.cv Cb.ca cl) (hloc : X.env.scope.names.lookup ("combine" : Str) = some .local) {y : Expr} {ys : List Expr} {t : TA} {pn pos : Pos} (ha : PA X (y :: ys) t)
    (he : starEach (y :: ys) X.env = (false, eval y X.env) :: starEach ys X.env) (hpl : (backTo pos (starEach ys X.env)).any (·.1) = false) :
    PE X (.Call (.Name "combine" pn) (y :: ys) [] pos) (fun σ H Q => σ[i]? = some (some (.ref p)) ∧ (∀ x ∈ Cb.tr, H x.1 = some x.2) ∧ t σ H fun vs H1 => (∀ x ∈ Cb.tr, H1 x.1 = some x.2) ∧ ∃ ρ sto ds, StR X.K ρ H1 sto ∧ RpL X.K ρ H1 vs ds ∧ RpL X.K ρ H1 Cb.cv Cb.ca ∧ Out X.K w.xc E ρ H1 (Rp X.K) (cl ds sto) Q) := by
  refine ⟨fun pins s σ H Q I h => ?_⟩
  obtain ⟨hs, htr, ht⟩ := h
  refine wpAny_Call_Name_kw (thn ((pe_var (pos := pn) (i := i) (G.cw i p hcl) (Or.inl hloc)).run pins s σ H (fun v H1 => v = .ref p ∧ H1 = H) I ⟨.ref p, hs, rfl, rfl⟩) ?_)
  rintro u s1 ⟨v, H1, I1, r1, ev, eH⟩
  subst ev
  rw [eH] at I1
  obtain rfl : u = Value.ref p := r1
  refine PySem.W.callWith_F (first := []) (P.at_ pins σ H s1 I1 htr) (thn (ha.run pos pins s1 σ H _ I1 ht) ?_) he hpl
  rintro us s2 ⟨vs, H2, I2, r, q1, ρ, sto, ds, st, rl, rc, q2⟩
  exact ⟨P.at_ pins σ H2 s2 I2 q1, P.run pins σ H2 s2 us vs ρ sto ds Q E I2 G.ps q1 r st rl rc q2⟩
theorem putc_case (S : SnE w T k n) (GS : Gs w T k E X) {o lo y : Expr} {ys : List Expr} {pn cpos lpos p2 p pos : Pos} {a b : IE} {es : List IE} (hloc : X.env.scope.names.lookup ("combine" : Str) = some .local) (h1 : mt w.N w.fn w.cn n X.env.scope a o = true) (h2 : mt w.N w.fn w.cn n X.env.scope b lo = true) (h3 : all2 (mt w.N w.fn w.cn n X.env.scope) es (y :: ys) = true) :
    PS X (.Assign [.Subscript o (.Slice (some lo) none none p2) p] (.List [.Call (.Name "combine" pn) (y :: ys) [] cpos] lpos) pos) (tS w X.K E (exN T w (n + 1) (.putc a b es))) := by
  have G := GS.G
  have red : ∀ {ρ : List Addr} {sl : Slots} {s0 : Sto} {H : Hp} {D : Ends}, Out X.K w.xc E ρ H (RF X.K) (exN T w (n + 1) (.putc a b es) sl s0) (QF D) → Out X.K w.xc E ρ H (RF X.K) ((noX (evs (ev T w 0 n) es sl s0)).bd fun xs s => (T 0 CLO xs s).bd fun v s => (ev T w 0 n a sl s).bd fun x s => (ev T w 0 n b sl s).bd fun y s => (match x, y with
      | .ref k, .int j => (match s[k]? with
        | some (.lst ys) => if 0 ≤ j ∧ j ≤ ys.length ∧ ys.length < LINE then .ok (.nx sl) (s.set k (.lst (ys.take j.toNat ++ [v]))) else .bad
        | _ => .bad)
      | _, _ => .bad)) (QF D) := fun o => o
  rcases GS.clo with hbad | ⟨i, p0, hcl, P⟩
  · constructor
    rintro pins s σ H D I ⟨ρ, sl, s0, st, sr, o⟩
    exfalso
    have o1 := red o
    cases e : evs (ev T w 0 n) es sl s0 with
    | ok xs s1 =>
      rw [e] at o1
      have o2 : Out X.K w.xc E ρ H (RF X.K) ((T 0 CLO xs s1).bd fun v s => (ev T w 0 n a sl s).bd fun x s => (ev T w 0 n b sl s).bd fun y s => (match x, y with
        | .ref k, .int j => (match s[k]? with
          | some (.lst ys) => if 0 ≤ j ∧ j ≤ ys.length ∧ ys.length < LINE then .ok (.nx sl) (s.set k (.lst (ys.take j.toNat ++ [v]))) else .bad
          | _ => .bad)
        | _, _ => .bad)) (QF D) := o1
      rw [hbad] at o2
      exact o2
    | exc _ _ =>
      rw [e] at o1
      exact o1
    | bad =>
      rw [e] at o1
      exact o1
  · cases es with
    | nil => cases h3
    | cons e0 es0 =>
    obtain ⟨h5, h6⟩ := b2 h3
    have PAs : PA X (y :: ys) (tIs w X.K E (evs (ev T w 0 n) (e0 :: es0))) := pa_all (fun ir e q => S 0 E X G ir e q) _ _ h3
    refine PS.of (ps_asg (pe_lst (pa_cons (pe_clo G hcl P hloc PAs (star_plain h5) (args_plain h6)) pa_nil (by rfl))) (pg_tail (S 0 E X G a o h1) (S 0 E X G b lo h2)) (by rfl) (by rfl) (by rfl)) ?_
    rintro D σ H ⟨ρ, sl, s, st, sr, o0⟩
    have o1 := red o0
    obtain ⟨c1, c2, c3⟩ := sr.clo i p0 hcl
    refine ⟨c1, fun x hx => (c2 x hx).1, ρ, sl, s, st, sr, Out.bdX2 o1 ?_⟩
    intro xs s1 ρ1 H1 vs _ g1 st1 r1 o2
    have sr1 := sr.go g1
    refine ⟨fun x hx => ((sr1.clo i p0 hcl).2.1 x hx).1, ρ1, s1, xs, st1, r1, (sr1.clo i p0 hcl).2.2, Out.bd (Out.up o2 g1) ?_⟩
    intro v s2 ρ2 H2 u _ g2 st2 r2 o3
    refine ⟨by show 1 ≤ sizeLine; rw [sizeLine_eq]; omega, fun q hq => ?_⟩
    have gq : Go ρ2 H2 ρ2 (L2.upd H2 q (.lst [u])) := Go.fresh hq
    have sr2 := (sr1.go g2).go gq
    refine ⟨ρ2, sl, s2, st2.fresh hq, sr2, Out.bd (Out.up o3 gq) ?_⟩
    intro x s3 ρ3 H3 vx _ g3 st4 r3 o4
    refine ⟨ρ3, sl, s3, st4, sr2.go g3, Out.bd o4 ?_⟩
    intro z s4 ρ4 H4 vz _ g4 st5 r4 o5
    obtain ⟨hq4, nq4⟩ := (g3.trans g4).f q _ upd_same (st2.fresh_out hq) (fun ps z => by cases z)
    have ru := ((r2.go gq).go g3).go g4
    have rx := r3.go g4
    split at o5
    · rename_i kk j _ _
      split at o5
      · rename_i zs0 hk
        split at o5
        · rename_i hc
          cases r4
          cases rx with
          | @ref l _ hl =>
            obtain ⟨zs, p1, p2⟩ := st5.at hl hk
            have gg := Go.put (ρ := ρ4) (o := .lst (zs.take j.toNat ++ [u])) hl p1
            refine ⟨l, q, zs, [u], j, rfl, rfl, rfl, p1, hq4, fun e => nq4 (by rw [← e]; exact List.mem_of_getElem? hl), hc.1, by rw [p2.len]; exact hc.2.1, ?_, ?_⟩
            · rw [p2.len, sizeLine_eq]
              have q3 := hc.2.2
              unfold LINE at q3
              show zs0.length + 1 ≤ _
              omega
            · exact QF.nx_now (Out.up o5 gg) (st5.put hl p1 ((p2.take j.toNat).app (.cons ru .nil))) (((sr2.go g3).go g4).go gg)
        · exact False.elim o5
      · exact False.elim o5
    · exact False.elim o5
theorem putd_case (S : SnE w T k n) (G : Gd w T k 0 E X) {o i v : Expr} {p pos : Pos} {a b c : IE} (h : (mt w.N w.fn w.cn n X.env.scope a o && mt w.N w.fn w.cn n X.env.scope b i && mt w.N w.fn w.cn n X.env.scope c v && !isCompE v) = true) :
    PS X (.Assign [.Subscript o i p] v pos) (tS w X.K E (exN T w (n + 1) (.putd a b c))) := by
  obtain ⟨h, h4⟩ := b2 h
  obtain ⟨h, h3⟩ := b2 h
  obtain ⟨h1, h2⟩ := b2 h
  have rm := G.rg.rm
  have hu : X.A.units + 1 < cLine := by have := rm.u; have := rm.le; omega
  refine PS.of (ps_dput hu (S 0 E X G a o h1) (S 0 E X G b i h2) (S 0 E X G c v h3) (sw_att (by simpa using h4))) ?_
  rintro D σ H ⟨ρ, sl, s, st, sr, o0⟩
  have o1 : Out X.K w.xc E ρ H (RF X.K) ((ev T w 0 n c sl s).bd fun v s => (ev T w 0 n a sl s).bd fun x s => (ev T w 0 n b sl s).bd fun y s => (match x, keyA y with
      | .ref k, some ky => (match s[k]? with
        | some (.dct kvs) => if kvs.length < LINE then .ok (.nx sl) (s.set k (.dct (storeK kvs ky v))) else .bad
        | _ => .bad)
      | _, _ => .bad)) (QF D) := o0
  refine ⟨ρ, sl, s, st, sr, Out.bd o1 ?_⟩
  intro x s1 ρ1 H1 u _ g1 st1 r1 o2
  refine ⟨ρ1, sl, s1, st1, sr.go g1, Out.bd o2 ?_⟩
  intro y s2 ρ2 H2 u2 _ g2 st2 r2 o3
  refine ⟨ρ2, sl, s2, st2, (sr.go g1).go g2, Out.bd o3 ?_⟩
  intro z s3 ρ3 H3 u3 _ g3 st3 r3 o4
  have ry := r2.go g3
  have rx := (r1.go g2).go g3
  have sr3 := ((sr.go g1).go g2).go g3
  split at o4
  · rename_i kk ky hky _
    have ez := key_ok r3 hky
    cases ry with
    | @ref pp _ q =>
      split at o4
      · rename_i kvs hk
        split at o4
        · rename_i hl
          obtain ⟨gs, p1, p2⟩ := st3.atD q hk
          have gg := Go.putD (ρ := ρ3) (o := .dK (putK gs ky u)) q p1
          refine ⟨pp, _, rfl, by rw [ez]; exact DPut.k p1 (by rw [p2.len, sizeLine_eq]; exact hl), ?_⟩
          exact QF.nx_now (Out.up o4 gg) (st3.putD q p1 (p2.put ky rx)) (sr3.go gg)
        · exact False.elim o4
      · exact False.elim o4
  · exact False.elim o4
end
end Jp


set_option Elab.async false
set_option linter.all false
set_option maxRecDepth 100000
set_option maxHeartbeats 8000000
namespace Jp
open PySem PySem.Spec PyProof.Rows L2
variable [Tb] [Cb]
section
variable {w : Wd} {T : Nat → Nat → List AV → Sto → Rs AV} {k n : Nat} {E : XK} {X : Cx}
theorem sw_none {v : Expr} {line : Nat} {env : Env} (h : isCompE v = false) : swapsWith v none line env = pure false := by
  cases v <;> first | rfl | cases h
theorem sw_sub {v o i : Expr} {p : Pos} {line : Nat} {env : Env} (h : isCompE v = false) : swapsWithSole [.Subscript o i p] v line env = pure false := by
  cases v <;> first | rfl | cases h
theorem sw_any {v t : Expr} {line : Nat} {env : Env} {N fn : List Str} {cn : Nm} {m : Nat} {sc osc : Scope} {ir : IE} {it : IT} (hv : mt N fn cn m sc ir v = true) (ht : mtT N sc osc it t = true) (hk : env.blockKind = env.scope.kind) : swapsWithSole [t] v line env = pure (swB env.scope v t) := by
  cases m with
  | zero => rw [mt] at hv; cases hv
  | succ m =>
    cases v <;> first
      | (unfold mt at hv; cases hv; done)
      | (cases it <;> cases t <;> first | rfl | (simp [mtT] at ht; done) | skip)
    rename_i el gens s p i x px
    show (pure ((env.blockKind == .function) && (env.kindOf x == some .local) && (px.line == (Expr.ListComp el gens s p).pos.line) && !(s.names.any fun (n, k) => n == x && (k == .local || k == .cell))) : Sem Bool) = _
    rw [hk] <;> rfl
theorem mt_lc {N fn : List Str} {cn : Nm} {m : Nat} {sc s : Scope} {ir : IE} {el : Expr} {gens : List Comprehension} {p : Pos} (h : mt N fn cn (m + 1) sc ir (.ListComp el gens s p) = true) :
    ∃ own elt t wk it cs tg src ifs, ir = .lc own elt t wk it cs ∧ gens = [⟨tg, src, ifs, 0⟩] := by
  unfold mt at h
  split at h <;> first | (rename_i hh _; cases hh; done) | (rename_i hh; cases hh; done) | skip
  · rename_i el2 tg src ifs s2 p2 hh
    cases hh
    split at h
    · exact ⟨_, _, _, _, _, _, _, _, _, rfl, rfl⟩
    · cases h
  · cases h
/-- x += e, x -= e -/
def augF (op : BO) (i : Nat) (a : Slots → Sto → Rs AV) : Slots → Sto → Rs Fl := fun σ s => match σ[i]? with
  | some (some (.int b)) => (a σ s).bd fun y s => (match op, y with
    | .add, .int c => .ok (.nx (σ.set i (some (.int (b + c))))) s
    | .sub, .int c => .ok (.nx (σ.set i (some (.int (b - c))))) s
    | _, _ => .bad)
  | _ => .bad
theorem ss_none {v t : Expr} {env : Env} (h : (isTupE t && isTupE v) = false) : swappedStores [t] v env = pure none := by
  cases t <;> cases v <;> first | rfl | cases h
theorem mt_not_list {N fn : List Str} {cn : Nm} {m : Nat} {sc : Scope} {ir : IE} {v : Expr} (h : mt N fn cn m sc ir v = true) (h2 : isCompE v = true) : ∃ el gens s p, v = .ListComp el gens s p := by
  cases m with
  | zero => rw [mt] at h; cases h
  | succ m => cases v <;> first | (cases h2; done) | exact ⟨_, _, _, _, rfl⟩ | (unfold mt at h; cases h)

theorem ss_sub {v o i : Expr} {p : Pos} {env : Env} : swappedStores [.Subscript o i p] v env = pure none := by
  cases v <;> rfl
theorem asg_read {a : Slots → Sto → Rs AV} {t : IT} {σ : L2.St} {H : Hp} {D : Ends} (h : tS w X.K E (fun σ s => (a σ s).bd fun x s => (opt (asT s t x σ) s).bd fun σ s => .ok (.nx σ) s) D σ H) : tAsg (tI w X.K E a) (tG X.K t) D σ H := by
  refine one_s h ?_
  intro ρ s x v H sl st sr r o
  cases e : asT s t x sl with
  | none => rw [e] at o; exact o.elim
  | some sl2 =>
    rw [e] at o
    exact ⟨ρ, sl, s, x, sl2, st, sr, r, e, fun σ' sr' _ => QF.nx_now (sl := sl2) (s := s) o st sr'⟩
theorem aug_read {a : Slots → Sto → Rs AV} {i : Nat} {op : BO} {f : Int → Int → Int} {σ : L2.St} {H : Hp} {D : Ends} (hi : NotC i) (hf : (op = .add ∧ f = fun i j => i + j) ∨ (op = .sub ∧ f = fun i j => i - j))
    (h : tS w X.K E (augF op i a) D σ H) : tAug i (tI w X.K E a) (ipI f) D σ H := by
  obtain ⟨ρ, sl, s, st, sr, o'⟩ := h
  unfold augF at o'
  split at o'
  · rename_i b e
    obtain ⟨v, h1, h2⟩ := sr.get i _ e
    cases h2
    refine ⟨_, h1, ρ, sl, s, st, sr, Out.bd o' ?_⟩
    intro y s1 ρ1 H1 v _ g1 st1 r1 o1
    rcases hf with ⟨rfl, rfl⟩ | ⟨rfl, rfl⟩
    · cases y with
      | int c =>
        cases r1
        exact ⟨b, c, rfl, rfl, QF.nx_now (sl := sl.set i (some (.int (b + c)))) (s := s1) o1 st1 ((sr.go g1).set (.int _) i hi)⟩
      | _ => exact False.elim o1
    · cases y with
      | int c =>
        cases r1
        exact ⟨b, c, rfl, rfl, QF.nx_now (sl := sl.set i (some (.int (b - c)))) (s := s1) o1 st1 ((sr.go g1).set (.int _) i hi)⟩
      | _ => exact False.elim o1
  · exact False.elim o'
theorem loc_of {N : List Str} {sc : Scope} {i : Nat} {x : Str} {p : Pos} (h : mtT N sc sc (.nm i) (.Name x p) = true) : N[i]? = some x ∧ Loc sc x ∧ dunder x = false := by
  have h2 : (decide (N[i]? = some x) && decide (sc.names.lookup x = sc.names.lookup x) && (decide (sc.names.lookup x = some .local) || decide (sc.names.lookup x = some .cell)) && !dunder x) = true := by simpa only [mtT] using h
  obtain ⟨h3, h6⟩ := b2 h2
  obtain ⟨h3, h5⟩ := b2 h3
  obtain ⟨h4, _⟩ := b2 h3
  refine ⟨of_decide_eq_true h4, ?_, by simpa using h6⟩
  rcases Bool.or_eq_true_iff.mp h5 with q | q
  · exact Or.inl (of_decide_eq_true q)
  · exact Or.inr (of_decide_eq_true q)
theorem sw_shape {sc : Scope} {v t : Expr} (h : swB sc v t = true) : ∃ el gens s p x px, v = .ListComp el gens s p ∧ t = .Name x px ∧ sc.names.lookup x = some .local := by
  cases v <;> first | (cases h; done) | skip
  cases t <;> first | (cases h; done) | skip
  refine ⟨_, _, _, _, _, _, rfl, rfl, ?_⟩
  unfold swB at h
  obtain ⟨h, _⟩ := b2 h
  obtain ⟨h, _⟩ := b2 h
  obtain ⟨_, h⟩ := b2 h
  exact eq_of_beq h
theorem assign_sub {o i : Expr} {p : Pos} {env : Env} {N fn : List Str} {cn : Nm} {m : Nat} {sc : Scope} {ir : IE} (h : mt N fn cn m sc ir i = true) (v : Value) : assign (.Subscript o i p) env v = (do
      let ov ← holding [v] (eval o env)
      let iv ← holding [v, ov] (eval i env)
      standAt p
      holding [v, ov, iv] (setItem ov iv v)
      release [v, ov, iv] []) := by
  cases m with
  | zero => rw [mt] at h; cases h
  | succ m => cases i <;> first | rfl | (unfold mt at h; cases h)
def SnS (w : Wd) (T : Nat → Nat → List AV → Sto → Rs AV) (k n : Nat) : Prop := ∀ (E : XK) (X : Cx), Gs w T k E X → X.env.blockKind = X.env.scope.kind → ∀ (st : IS) (e : Stmt), mtS w.N w.fn w.cn n X.env.scope st e = true → PS X e (tS w X.K E (exN T w n st))

theorem put_case (S : SnE w T k n) (G : Gd w T k 0 E X) {o i v : Expr} {p pos : Pos} {a b c : IE} (h : (mt w.N w.fn w.cn n X.env.scope a o && mt w.N w.fn w.cn n X.env.scope b i && mt w.N w.fn w.cn n X.env.scope c v && !isCompE v) = true) :
    PS X (.Assign [.Subscript o i p] v pos) (tS w X.K E (exN T w (n + 1) (.put a b c))) := by
  obtain ⟨h, h4⟩ := b2 h
  obtain ⟨h, h3⟩ := b2 h
  obtain ⟨h1, h2⟩ := b2 h
  refine PS.of (ps_asg (S 0 E X G c v h3) (pg_sub (S 0 E X G a o h1) (S 0 E X G b i h2) set_list (assign_sub h2)) (sw_sub (by simpa using h4)) ss_sub (by rfl)) ?_
  rintro D σ H ⟨ρ, sl, s, st, sr, o1⟩
  refine ⟨ρ, sl, s, st, sr, Out.bd o1 ?_⟩
  intro x s1 ρ1 H1 u _ g1 st1 r1 o2
  refine ⟨ρ1, sl, s1, st1, sr.go g1, Out.bd o2 ?_⟩
  intro y s2 ρ2 H2 u2 _ g2 st2 r2 o3
  refine ⟨ρ2, sl, s2, st2, (sr.go g1).go g2, Out.bd o3 ?_⟩
  intro z s3 ρ3 H3 u3 _ g3 st3 r3 o4
  have ry := r2.go g3
  have rx := (r1.go g2).go g3
  have sr3 := ((sr.go g1).go g2).go g3
  split at o4
  · rename_i kk j _ _
    cases r3
    cases ry with
    | @ref pp _ q =>
      split at o4
      · rename_i ds hk
        split at o4
        · rename_i m hm
          obtain ⟨ys, p1, p2⟩ := st3.at q hk
          refine ⟨pp, ys, j, m, rfl, rfl, p1, by rw [p2.len]; exact hm, ?_⟩
          have gg := Go.put (ρ := ρ3) (o := .lst (ys.set m u)) q p1
          have o5 := Out.up o4 gg
          exact QF.nx_now o5 (st3.put q p1 (p2.set m rx)) (sr3.go gg)
        · exact False.elim o4
      · exact False.elim o4
  · exact False.elim o4

theorem swapped_par {env : Env} {x y : Str} {px py pt pt2 : Pos} {kt k2} {a b : Expr} (hk : env.blockKind = .function) (h0 : x ≠ y) (h1 : env.kindOf x = some .local) (h2 : env.kindOf y = some .local) (h3 : (py.line == px.line) = true) (h4 : noStar a = true) (h5 : noStar b = true)
    (h6 : [a, b].all (foldedForSure 8) = false) (h7 : [a, b].all (constantsAlone 8) = false) : swappedStores [.Tuple [.Name x px, .Name y py] kt pt] (.Tuple [a, b] k2 pt2) env = pure (some [x, y]) := by
  have n1 : (([a, b] : List Expr).any fun e => match e with
      | .Starred _ _ => true
      | _ => false) = false := by
    simp only [List.any_cons, List.any_nil, Bool.or_false, Bool.or_eq_false_iff]
    constructor
    · cases a <;> first | rfl | (cases h4; done)
    · cases b <;> first | rfl | (cases h5; done)
  have e0 : (y == x) = false := beq_eq_false_iff_ne.mpr (Ne.symm h0)
  have p1 : (Expr.Name x px).pos = px := rfl
  unfold swappedStores
  simp only [List.length_cons, List.length_nil, h6, h7, hk]
  simp [n1, p1, h1, h2, h3, List.filterMap, List.eraseDups, List.eraseDupsBy, List.eraseDupsBy.loop, e0]
  intro h
  exfalso
  rcases h with h | h
  · cases a <;> first | (cases h; done) | (cases h4; done)
  · cases b <;> first | (cases h; done) | (cases h5; done)
theorem par_case (S : ∀ m, n = m + 1 → SnE w T k m) (GS : Gs w T k E X) (hbk : X.env.blockKind = X.env.scope.kind) {t v : Expr} {pos : Pos} {it : IT} {a : IE}
    (h1 : mtT w.N X.env.scope X.env.scope it t = true) (h2 : mt w.N w.fn w.cn n X.env.scope a v = true) (hp : parB X.env.scope t v = true) : PS X (.Assign [t] v pos) (tS w X.K E (exN T w (n + 1) (.asg it a))) := by
  have G := GS.G
  unfold parB at hp
  split at hp
  · rename_i x px y py kt pt e1 e2 k2 pt2
    obtain ⟨hp, p9⟩ := b2 hp
    obtain ⟨hp, p8⟩ := b2 hp
    obtain ⟨hp, p7⟩ := b2 hp
    obtain ⟨hp, p6⟩ := b2 hp
    obtain ⟨hp, p5⟩ := b2 hp
    obtain ⟨hp, p4⟩ := b2 hp
    obtain ⟨hp, p3⟩ := b2 hp
    obtain ⟨p1, p2⟩ := b2 hp
    have hne : x ≠ y := by simpa using p1
    cases it with
    | nm i => simp [mtT] at h1
    | tp ts =>
      match ts, h1 with
      | [t1, t2], h1 =>
        have h1 : (mtT w.N X.env.scope X.env.scope t1 (.Name x px) && (mtT w.N X.env.scope X.env.scope t2 (.Name y py) && true)) = true := by simpa only [mtT, mtTs] using h1
        obtain ⟨q1, q2⟩ := b2 h1
        obtain ⟨q2, _⟩ := b2 q2
        cases t1 with
        | tp _ => simp [mtT] at q1
        | nm i =>
        cases t2 with
        | tp _ => simp [mtT] at q2
        | nm j =>
        obtain ⟨l1, l2, l3⟩ := loc_of q1
        obtain ⟨m1, m2, m3⟩ := loc_of q2
        have hij : i ≠ j := fun e => hne (by rw [e, m1] at l1; exact (Option.some.inj l1).symm)
        cases n with
        | zero => rw [mt] at h2; cases h2
        | succ m =>
          have S0 := S m rfl
          unfold mt at h2
          dsimp only at h2
          split at h2
          · rename_i es
            have PAs : PA X [e1, e2] (tIs w X.K E (evs (ev T w 0 m) es)) := pa_all (fun ir e q => S0 0 E X G ir e q) _ _ h2
            refine PS.of (ps_par G.calm G.nd (by rw [G.N]; exact l1) (by rw [G.N]; exact m1) hij (of_decide_eq_true p2) (of_decide_eq_true p3) PAs (swapped_par (by rw [hbk]; exact of_decide_eq_true p9) hne (of_decide_eq_true p2) (of_decide_eq_true p3) p4 p5 p6 (by rw [Bool.not_eq_true'] at p7; exact p7) (by rw [Bool.not_eq_true'] at p8; exact p8))) ?_
            rintro D σ H ⟨ρ, sl, s, st, sr, o⟩
            have o0 : Out X.K w.xc E ρ H (RF X.K) ((evs (ev T w 0 m) es sl s).bd fun xs s => ((if xs.length ≤ LINE then (.ok (.tup xs) s : Rs AV) else .bad).bd fun x s => (opt (asT s (.tp [.nm i, .nm j]) x sl) s).bd fun σ s => .ok (.nx σ) s)) (QF D) := by
              rw [← Rs.assoc]
              exact o
            refine ⟨ρ, sl, s, st, sr, Out.bd o0 ?_⟩
            intro xs s1 ρ1 H1 vs _ g1 st1 r1 o1
            split at o1
            · have o1 : Out X.K w.xc E ρ1 H1 (RF X.K) ((opt (asT s1 (.tp [.nm i, .nm j]) (.tup xs) sl) s1).bd fun σ s => .ok (.nx σ) s) (QF D) := o1
              match xs, r1, o1 with
              | [], _, o1 => exact False.elim o1
              | [d1], _, o1 =>
                simp only [asT, asTs, items] at o1
                split at o1 <;> exact False.elim o1
              | [d1, d2], r0, o1 =>
                cases r0 with
                | cons ra rr =>
                cases rr with
                | cons rb rr =>
                cases rr
                refine ⟨_, _, rfl, ?_⟩
                simp only [asT, asTs, items] at o1
                split at o1
                · split at o1
                  · rename_i sl2 e1 _ sl3 e2
                    split at e1
                    · cases e1
                      split at e2
                      · cases e2
                        exact QF.nx_now o1 st1 (((sr.go g1).set ra i (notC_of G.cw (by rw [G.N]; exact l1) l3)).set rb j (notC_of G.cw (by rw [G.N]; exact m1) m3))
                      · cases e2
                    · cases e1
                  · exact False.elim o1
                · exact False.elim o1
              | d1 :: d2 :: d3 :: ds, _, o1 =>
                simp only [asT, asTs, items] at o1
                repeat (split at o1)
                all_goals exact False.elim o1
            · exact False.elim o1
          · cases h2
      | [], h1 => simp [mtT, mtTs] at h1
      | [_], h1 => simp [mtT, mtTs] at h1
      | _ :: _ :: _ :: _, h1 => simp [mtT, mtTs] at h1
  · cases hp
theorem asg_case (S : SnE w T k n) (Tn : TnE w T k n) (GS : Gs w T k E X) (hbk : X.env.blockKind = X.env.scope.kind) (hlc : ∀ m, n = m + 1 → SnE w T k m ∧ TnE w T k m) {t v : Expr} {pos : Pos} {it : IT} {a : IE}
    (h : (mtT w.N X.env.scope X.env.scope it t && mt w.N w.fn w.cn n X.env.scope a v && (!(isTupE t && isTupE v) || parB X.env.scope t v)) = true) : PS X (.Assign [t] v pos) (tS w X.K E (exN T w (n + 1) (.asg it a))) := by
  have G := GS.G
  obtain ⟨h, h3⟩ := b2 h
  obtain ⟨h1, h2⟩ := b2 h
  rcases Bool.or_eq_true_iff.mp h3 with h3 | hp
  rotate_left
  · exact par_case (fun m e => (hlc m e).1) GS hbk h1 h2 hp
  have PGt := pg_ok G.nd G.calm G.cw (osc := X.env.scope) GS.own it t (by rw [G.N]; exact h1)
  have hsw := sw_any (line := pos.line) (env := X.env) h2 h1 hbk
  by_cases hb : swB X.env.scope v t = true
  · -- stored in the comprehension's frame
    obtain ⟨el, gens, sc, p0, y, py, rfl, rfl, hloc⟩ := sw_shape hb
    cases n with
    | zero => rw [mt] at h2; cases h2
    | succ m =>
      obtain ⟨S0, T0⟩ := hlc m rfl
      obtain ⟨own, elt, it', wk, its, cs, tg, src, ifs, rfl, rfl⟩ := mt_lc h2
      obtain ⟨q0, q1, q2, q3, q4, q5, q6, q7⟩ := lc_parts h2
      rw [hb] at hsw
      cases it with
      | tp ts => simp [mtT] at h1
      | nm i =>
        obtain ⟨l1, l2, l3⟩ := loc_of h1
        refine PS.of (ps_setLc (i := i) (own := own) G.calm G.nd (by rw [G.N]; exact l1) hloc hsw (pi_walk S0 G q4) (blkOk_by (by rw [G.N]; exact q2)) (g := tG X.K it') (tt := tIt w X.K E0 (tests (ev T w 0 m) cs)) (te := tI w X.K E0 (ev T w 0 m elt)) (fun s H C cl fp => ?_) (fun s H C cl fp => ?_) (fun s H C cl fp => ?_) (fold_plain q4)) ?_
        · have G2 := G.blk s H sc C cl fp
          refine pg_ok G2.nd G2.calm G2.cw (osc := sc) (fun x hx => ?_) it' tg ?_
          · show ((sc.names.lookup x) == some .cell) = true
            rw [hx] <;> rfl
          · show mtT X.N (relab X.env.scope sc) sc it' tg = true
            rw [G.N]
            exact q3
        · exact pts_ok T0 (G.blk s H sc C cl fp) cs ifs q5 q6
        · exact S0 0 E0 _ (G.blk s H sc C cl fp) elt el q7
        · intro D σ H hq
          refine lc_read own elt it' wk its cs q1 (own_nc G q0) rfl ?_
          refine one_s hq ?_
          intro ρ s x v H sl st sr r o
          have ea : asT s (.nm i) x sl = if i < sl.length then some (sl.set i (some x)) else none := by simp only [asT]
          rw [ea] at o
          split at o
          · exact QF.nx_now (sl := sl.set i (some x)) (s := s) o st (sr.set r i (notC_of G.cw (by rw [G.N]; exact l1) l3))
          · exact False.elim o
  · have hb' : swB X.env.scope v t = false := by simpa using hb
    rw [hb'] at hsw
    refine PS.of (ps_asg (S 0 E X G a v h2) PGt hsw (ss_none (by rw [Bool.not_eq_true'] at h3; exact h3)) (by rw [asg_plain h1]; rfl)) ?_
    intro D σ H hq
    exact asg_read hq

theorem expr_case (S : SnE w T k n) (G : Gd w T k 0 E X) {x : Expr} {pos : Pos} {a : IE} (h : (mt w.N w.fn w.cn n X.env.scope a x && !isCompE x) = true) : PS X (.Expr x pos) (tS w X.K E (exN T w (n + 1) (.ex a))) := by
  obtain ⟨h1, h2⟩ := b2 h
  refine PS.of (ps_expr (S 0 E X G a x h1) (sw_none (by simpa using h2))) ?_
  intro D σ H hq
  exact one_s hq fun ρ s x v H sl st sr r o => QF.nx_now (sl := sl) (s := s) o st sr
theorem own_of (GS : Gs w T k E X) {i : Nat} {x : Str} (q : Loc X.env.scope x) : X.fn x = true ∨ X.env.scope.names.lookup x = some .local := by
  rcases q with q | q
  · exact Or.inr q
  · exact Or.inl (GS.own _ q)
theorem aug_case_add (S : SnE w T k n) (GS : Gs w T k E X) {x : Str} {px pos : Pos} {v : Expr} {op : Operator} {i : Nat} {a : IE}
    (h : (decide (op = .Add) && mtT w.N X.env.scope X.env.scope (.nm i) (.Name x ⟨0, 0, 0, 0⟩) && mt w.N w.fn w.cn n X.env.scope a v) = true) : PS X (.AugAssign (.Name x px) op v pos) (tS w X.K E (exN T w (n + 1) (.aug i .add a))) := by
  have G := GS.G
  obtain ⟨h, h3⟩ := b2 h
  obtain ⟨h1, h2⟩ := b2 h
  have e1 : op = .Add := of_decide_eq_true h1
  subst e1
  obtain ⟨l1, l2, l3⟩ := loc_of h2
  exact PS.of (ps_aug G.nd (by rw [G.N]; exact l1) l2 (S 0 E X G a v h3) ip_add (own_of (i := i) GS l2)) fun D σ H hq => aug_read (notC_of G.cw (by rw [G.N]; exact l1) l3) (Or.inl ⟨rfl, rfl⟩) hq
theorem aug_case_sub (S : SnE w T k n) (GS : Gs w T k E X) {x : Str} {px pos : Pos} {v : Expr} {op : Operator} {i : Nat} {a : IE}
    (h : (decide (op = .Sub) && mtT w.N X.env.scope X.env.scope (.nm i) (.Name x ⟨0, 0, 0, 0⟩) && mt w.N w.fn w.cn n X.env.scope a v) = true) : PS X (.AugAssign (.Name x px) op v pos) (tS w X.K E (exN T w (n + 1) (.aug i .sub a))) := by
  have G := GS.G
  obtain ⟨h, h3⟩ := b2 h
  obtain ⟨h1, h2⟩ := b2 h
  have e1 : op = .Sub := of_decide_eq_true h1
  subst e1
  obtain ⟨l1, l2, l3⟩ := loc_of h2
  exact PS.of (ps_aug G.nd (by rw [G.N]; exact l1) l2 (S 0 E X G a v h3) ip_sub (own_of (i := i) GS l2)) fun D σ H hq => aug_read (notC_of G.cw (by rw [G.N]; exact l1) l3) (Or.inr ⟨rfl, rfl⟩) hq
abbrev Body (w : Wd) (T : Nat → Nat → List AV → Sto → Rs AV) (n : Nat) (E : XK) (X : Cx) : Prop := ∀ sts es, all2 (mtS w.N w.fn w.cn n X.env.scope) sts es = true → PSs X es (tS w X.K E (exs (exN T w n) sts))
theorem if_case (Tn : TnE w T k n) (G : Gd w T k 0 E X) (body : Body w T n E X) {c : Expr} {a b : List Stmt} {pos : Pos} {d : IE} {x y : List IS}
    (h : (mt w.N w.fn w.cn n X.env.scope d c && all2 (mtS w.N w.fn w.cn n X.env.scope) x a && all2 (mtS w.N w.fn w.cn n X.env.scope) y b) = true) : PS X (.If c a b pos) (tS w X.K E (exN T w (n + 1) (.ifs d x y))) := by
  obtain ⟨h, h3⟩ := b2 h
  obtain ⟨h1, h2⟩ := b2 h
  refine PS.of (ps_if (Tn 0 E X G d c h1).1 (body x a h2) (body y b h3)) ?_
  rintro D σ H ⟨ρ, sl, s, st, sr, o⟩
  have o0 : Out X.K w.xc E ρ H (RF X.K) (((ev T w 0 n d sl s).bd fun x s => opt (truth s x) s).bd fun k s => if k then exs (exN T w n) x sl s else exs (exN T w n) y sl s) (QF D) := by
    rw [Rs.assoc]
    exact o
  refine ⟨ρ, sl, s, st, sr, Out.bd o0 ?_⟩
  intro b1 s1 ρ1 H1 b' _ g1 st1 eb o1
  cases eb
  cases b1 with
  | true => exact ⟨ρ1, sl, s1, st1, sr.go g1, o1⟩
  | false => exact ⟨ρ1, sl, s1, st1, sr.go g1, o1⟩
theorem for_case (S : SnE w T k n) (GS : Gs w T k E X) (body : Body w T n E X) {t src : Expr} {bd : List Stmt} {pos : Pos} {it : IT} {wk : IW} {l : List IE} {x : List IS}
    (h : (mtT w.N X.env.scope X.env.scope it t && mt.mtW w.N w.fn w.cn n X.env.scope wk l src && all2 (mtS w.N w.fn w.cn n X.env.scope) x bd) = true) : PS X (.For t src bd [] pos) (tS w X.K E (exN T w (n + 1) (.for_ it wk l x))) := by
  have G := GS.G
  obtain ⟨h, h3⟩ := b2 h
  obtain ⟨h1, h2⟩ := b2 h
  exact PS.of (ps_for GS.po G.calm (pi_walk S G h2) (pg_ok G.nd G.calm G.cw (osc := X.env.scope) GS.own it t (by rw [G.N]; exact h1)) (body x bd h3) (fold_plain h2)) fun D σ H hq => for_read hq
theorem ex_while {F : Nat → Nat → List AV → Sto → Rs AV} {C : Gt} {c : IE} {body : List IS} : exI F C (n + 1) (.while_ c body) = whileLoop (fun σ s => (evI F C 0 n c σ s).bd fun x s => opt (truth s x) s) (exs (exI F C n) body) MANY := by
  funext σ s
  simp only [exI]
theorem while_case (Tn : TnE w T k n) (GS : Gs w T k E X) (body : Body w T n E X) {c : Expr} {bd : List Stmt} {pos : Pos} {d : IE} {x : List IS}
    (h : (mt w.N w.fn w.cn n X.env.scope d c && all2 (mtS w.N w.fn w.cn n X.env.scope) x bd) = true) : PS X (.While c bd [] pos) (tS w X.K E (exN T w (n + 1) (.while_ d x))) := by
  have G := GS.G
  obtain ⟨h1, h2⟩ := b2 h
  unfold exN
  rw [ex_while]
  generalize MANY = m0
  exact PS.of (ps_while GS.po (Tn 0 E X G d c h1).1 (body x bd h2)) fun D σ H hq => while_read hq
theorem retN_case : PS X (.Return none pos) (tS w X.K E (exN T w (n + 1) .retN)) := by
  refine PS.of ps_retN ?_
  rintro D σ H ⟨ρ, sl, s, st, sr, o⟩
  exact QF.rt_now (D := D) (d := .non) (s := s) o st .non
theorem ret_case (S : SnE w T k n) (G : Gd w T k 0 E X) {x : Expr} {pos : Pos} {a : IE} (h : mt w.N w.fn w.cn n X.env.scope a x = true) : PS X (.Return (some x) pos) (tS w X.K E (exN T w (n + 1) (.ret a))) := by
  refine PS.of (ps_ret (S 0 E X G a x h)) ?_
  intro D σ H hq
  exact one_s hq fun ρ s x v H sl st sr r o => QF.rt_now (D := D) (s := s) o st r
theorem pass_case {pos : Pos} : PS X (.Pass pos) (tS w X.K E (exN T w (n + 1) .pass)) := PS.of ps_pass fun D σ H ⟨ρ, sl, s, st, sr, o⟩ => QF.nx_now (sl := sl) (s := s) o st sr
theorem brk_case {pos : Pos} : PS X (.Break pos) (tS w X.K E (exN T w (n + 1) .brk)) := PS.of ps_break fun D σ H ⟨ρ, sl, s, st, sr, o⟩ => Out.now (Q := QF D) (b := FB.bk σ) (a := Fl.bk sl) (s := s) o st sr
theorem cont_case {pos : Pos} : PS X (.Continue pos) (tS w X.K E (exN T w (n + 1) .cont)) := PS.of ps_continue fun D σ H ⟨ρ, sl, s, st, sr, o⟩ => Out.now (Q := QF D) (b := FB.ct σ) (a := Fl.ct sl) (s := s) o st sr
theorem raise_case' (S : SnE w T k n) (GS : Gs w T k E X) {x : Str} {xs : List Expr} {p p' pos : Pos} {c : Nat} {es : List IE}
    (h : (decide (w.cn.x[c]? = some x) && glB X.env.scope x && !xs.isEmpty && all2 (mt w.N w.fn w.cn n X.env.scope) es xs) = true) : PS X (.Raise (some (.Call (.Name x p) xs [] p')) none pos) (tS w X.K E (exN T w (n + 1) (.raise_ c es))) := by
  obtain ⟨h, h4⟩ := b2 h
  obtain ⟨h, h3⟩ := b2 h
  obtain ⟨h1, h2⟩ := b2 h
  cases xs with
  | nil => cases h3
  | cons y ys =>
    cases hx : w.C.x[c]? with
    | none =>
      constructor
      rintro pins s σ H D I ⟨ρ, sl, s0, st, sr, o0⟩
      exfalso
      have o1 : Out X.K w.xc E ρ H (RF X.K) (match w.C.x[c]? with
        | some xi => if xi.fl.isEmpty then .bad else (evs (ev T w 0 n) es sl s0).bd fun xs s => if xs.length = xi.fl.length then .exc ⟨c, xs⟩ s else .bad
        | none => .bad) (QF D) := o0
      rw [hx] at o1
      exact o1
    | some xi =>
      by_cases hfl : xi.fl = []
      · constructor
        rintro pins s σ H D I ⟨ρ, sl, s0, st, sr, o0⟩
        exfalso
        have o1 : Out X.K w.xc E ρ H (RF X.K) (match w.C.x[c]? with
          | some xi => if xi.fl.isEmpty then .bad else (evs (ev T w 0 n) es sl s0).bd fun xs s => if xs.length = xi.fl.length then .exc ⟨c, xs⟩ s else .bad
          | none => .bad) (QF D) := o0
        rw [hx] at o1
        dsimp only at o1
        rw [if_pos (by rw [hfl]; rfl)] at o1
        exact o1
      · obtain ⟨C, q1, q2⟩ := GS.xc c x xi (of_decide_eq_true h1) hx hfl
        exact raise_case S GS.G GS.tk h2 hx q1 q2 h4
theorem try_case (SS : SnS w T k n) (GS : Gs w T k E X) (hbk : X.env.blockKind = X.env.scope.kind) {x : Str} {bd suite : List Stmt} {nm : Option Str} {np p' pos : Pos} {c : Nat} {i : Option Nat} {b : List IS} {hs : List HS}
    (h : (!decide (("combine" : Str) ∈ w.N) && decide (w.cn.x[c]? = some x) && glB X.env.scope x && mtH w.N X.env.scope w.cn i nm hs suite && all2 (mtS w.N w.fn w.cn n X.env.scope) b bd) = true) :
    PS X (.Try bd [.ExceptHandler (some (.Name x np)) nm suite p'] [] [] pos) (tS w X.K E (exN T w (n + 1) (.try_ b c i hs))) := by
  obtain ⟨h, h4⟩ := b2 h
  obtain ⟨h, h3⟩ := b2 h
  obtain ⟨h, h2⟩ := b2 h
  obtain ⟨h0, h1⟩ := b2 h
  have noc : ∀ xs s, T 0 CLO xs s = .bad := by
    rcases GS.clo with z | ⟨i0, p0, z, _⟩
    · exact z
    · exfalso
      have q := List.mem_of_getElem? (GS.G.cw i0 p0 z)
      rw [GS.G.N] at q
      simp [q] at h0
  cases i with
  | none => cases h3
  | some i =>
    cases nm with
    | none => cases h3
    | some en =>
      have h3' : (decide (w.N[i]? = some en) && decide (X.env.scope.names.lookup en = some .local) && !dunder en && mtHS w.cn X.env.scope en hs suite) = true := h3
      obtain ⟨h3', k4⟩ := b2 h3'
      obtain ⟨h3', k3⟩ := b2 h3'
      obtain ⟨k1, k2⟩ := b2 h3'
      have hi : X.N[i]? = some en := by rw [GS.G.N]; exact of_decide_eq_true k1
      have hln : X.env.scope.names.lookup en = some .local := of_decide_eq_true k2
      have hv : visB X.env.scope en = true := by
        unfold visB
        rw [hln]
        exact k3
      obtain ⟨v1, v2, v3⟩ := gl_of h2
      obtain ⟨D, m1, m2⟩ := GS.xa.nm c x (of_decide_eq_true h1)
      cases suite with
      | nil => cases hs <;> simp [mtHS] at k4
      | cons b0 suite =>
      refine PS.of (ps_try_as (X := X) (i := i) (n := en) (x := x) (c := .ref D) (Wout := fun cls d _ H => E cls d H) (tb := fun W => tS w X.K (fun cls d H => ∀ σ : L2.St, σ.length = X.N.length → W cls d σ H) (exs (exN T w n) b))
        (ts := fun a cls d D σ H => ∃ C, cls = .ref C ∧ tHS w X.K i a C d hs D σ H) GS.stk GS.frm GS.G.nd hi hln ⟨v1, v2, Or.inl m1⟩ GS.tk ?_ ?_) ?_
      · intro W pn xe tk po
        have tk' : Takes (X.tr pn xe) (fun cls d _ H => ∀ σ : L2.St, σ.length = X.N.length → W cls d σ H) := fun u s' ⟨a, B, sI, pins, σ, H, cls, d, e, I, nb, up, sky, na, os, ag, q⟩ =>
          tk u s' ⟨a, B, sI, pins, σ, H, cls, d, e, I, nb, up, sky, na, os, ag, q σ I.len⟩
        have GS' : Gs w T k (fun cls d H => ∀ σ : L2.St, σ.length = X.N.length → W cls d σ H) (X.tr pn xe) := {
          G := GS.G.tr (takes_len tk) (fun cls d σ H h => h σ)
          own := GS.own
          po := po
          tk := tk'
          stk := GS.stk
          frm := GS.frm
          xa := ⟨GS.xa.at_, GS.xa.nm⟩
          xc := GS.xc
          clo := Or.inl noc }
        exact pss_all (fun st e q => SS _ (X.tr pn xe) GS' hbk st e q) b bd h4
      · intro a oe cls d pn hz hf
        constructor
        rintro pins s σ H D I ⟨C, rfl, q⟩
        exact (hs_ok GS.G GS.xa hz hf hi hv hs (b0 :: suite) k4).run pins s σ H D I q
      · rintro Ds σ H ⟨ρ, sl, s, st, sr, o0⟩
        have o1 : Out X.K w.xc E ρ H (RF X.K) (match exs (exN T w n) b sl s with
          | .ok f s => .ok f s
          | .exc x s => (match w.C.x[x.cls]? with
            | some xi => if c ∈ xi.up then (if x.fs.isEmpty then .bad else (opt (hS w.C.x x hs) s).bd fun v s => .ok (.rt v) s) else .exc x s
            | none => .bad)
          | .bad => .bad) (QF Ds) := o0
        refine ⟨ρ, sl, s, st, sr, ?_⟩
        cases e : exs (exN T w n) b sl s with
        | ok f s1 =>
          rw [e] at o1
          exact o1
        | bad =>
          rw [e] at o1
          exact o1
        | exc x1 s1 =>
          rw [e] at o1
          intro ρ1 H1 cls d g1 st1 xr σ1 hσ
          have o2 : Out X.K w.xc E ρ H (RF X.K) (match w.C.x[x1.cls]? with
            | some xi => if c ∈ xi.up then (if x1.fs.isEmpty then .bad else (opt (hS w.C.x x1 hs) s1).bd fun v s => .ok (.rt v) s) else .exc x1 s1
            | none => .bad) (QF Ds) := o1
          split at o2
          · rename_i xi hxi
            obtain ⟨C, q1, O, q3⟩ := GS.xa.at_ _ _ hxi
            obtain ⟨D', w1, w2, w3, w4⟩ := q3 c x (of_decide_eq_true h1)
            have eD : D' = D := by
              rw [m1] at w1
              cases w1
              rfl
            subst eD
            have eC : cls = .ref C := by
              obtain ⟨C2, fs2, y1, y2, _⟩ := xr
              rw [q1] at y1
              cases y1
              exact y2
            subst eC
            refine ⟨_, w3, fun hb a na => ?_, fun hb => ?_⟩
            · have hc : c ∈ xi.up := of_decide_eq_true hb
              rw [if_pos hc] at o2
              split at o2
              · exact o2.elim
              · rename_i hne
                obtain ⟨v, hv1, o3⟩ := Out.opt (show Out X.K w.xc E ρ H (RF X.K) (opt ((hS w.C.x x1 hs).map Fl.rt) s1) (QF Ds) from by
                  cases q : hS w.C.x x1 hs with
                  | none => rw [q] at o2; exact o2
                  | some v => rw [q] at o2; exact o2)
                cases hh : hS w.C.x x1 hs with
                | none => rw [hh] at hv1; cases hv1
                | some v0 =>
                  rw [hh] at hv1
                  cases hv1
                  refine ⟨C, rfl, List.getElem?_set_self (by rw [hσ]; exact (List.getElem?_eq_some_iff.mp hi).1), ρ1, s1, x1, v0, st1, xr, (fun z => hne (by rw [z]; rfl)), hh, fun ρ2 H2 u g2 st2 r2 => ?_⟩
                  exact o3 ρ2 H2 (FB.rt u) (g1.trans g2) st2 r2
            · have hc : c ∉ xi.up := of_decide_eq_false hb
              rw [if_neg hc] at o2
              exact o2 ρ1 H1 _ d g1 st1 xr
          · exact o2.elim
theorem ss_step (S : SnE w T k n) (Tn : TnE w T k n) (SS : SnS w T k n) (hlc : ∀ m, n = m + 1 → SnE w T k m ∧ TnE w T k m) : SnS w T k (n + 1) := by
  intro E X GS hbk st e h
  have G := GS.G
  have body : Body w T n E X := fun sts es q => pss_all (fun st e q => SS E X GS hbk st e q) sts es q
  unfold mtS at h
  split at h
  · split at h
    · exact expr_case S G h
    · cases h
  · split at h
    · exact ret_case S G h
    · cases h
  · split at h
    · exact retN_case
    · cases h
  · split at h
    · exact put_case S G h
    · exact putd_case S G h
    · split at h
      · obtain ⟨h, h5⟩ := b2 h
        obtain ⟨h, h4⟩ := b2 h
        obtain ⟨h, h3⟩ := b2 h
        obtain ⟨h1, h2⟩ := b2 h
        have e1 := of_decide_eq_true h1
        subst e1
        exact putc_case S GS (of_decide_eq_true h2) h3 h4 h5
      · cases h
    · cases h
  · split at h
    · obtain ⟨h, q4⟩ := b2 h
      obtain ⟨h, q3⟩ := b2 h
      obtain ⟨q1, q2⟩ := b2 h
      have e1 := of_decide_eq_true q1
      subst e1
      exact setf_case S G q2 q3 (by simpa using q4)
    · cases h
  · split at h
    · exact asg_case S Tn GS hbk hlc h
    · cases h
  · split at h
    · exact aug_case_add S GS h
    · exact aug_case_sub S GS h
    · cases h
  · split at h
    · obtain ⟨h, q4⟩ := b2 h
      obtain ⟨h, q3⟩ := b2 h
      obtain ⟨q1, q2⟩ := b2 h
      have e1 := of_decide_eq_true q1
      have e2 := of_decide_eq_true q2
      subst e1 e2
      exact augf_case_add S G q3 q4
    · obtain ⟨h, q4⟩ := b2 h
      obtain ⟨h, q3⟩ := b2 h
      obtain ⟨q1, q2⟩ := b2 h
      have e1 := of_decide_eq_true q1
      have e2 := of_decide_eq_true q2
      subst e1 e2
      exact augf_case_sub S G q3 q4
    · cases h
  · split at h
    · exact raise_case' S GS h
    · cases h
  · split at h
    · exact try_case SS GS hbk h
    · cases h
  · split at h
    · exact if_case Tn G body h
    · cases h
  · split at h
    · exact for_case S GS body h
    · cases h
  · split at h
    · exact while_case Tn GS body h
    · cases h
  · split at h
    · exact pass_case
    · cases h
  · split at h
    · exact brk_case
    · cases h
  · split at h
    · exact cont_case
    · cases h
  · cases h
end
end Jp


set_option Elab.async false
set_option linter.all false
set_option maxRecDepth 100000
set_option maxHeartbeats 4000000
namespace Jp
open PySem PySem.Spec PyProof.Rows L2
variable [Tb] [Cb]
/-! ### a generator expression's frame -/
theorem over_comp {A : Around} {elt tg iter : Expr} {ifs : List Expr} {scope : Scope} {pos : Pos} {it acc : Value} {env : Env} :
    A.over (.compLoop (.GeneratorExp elt [⟨tg, iter, ifs, 0⟩] scope pos) 0 it acc env) [] = ⟨A.handled, A.depth + 1, pushEnvs [env] A.frames, A.guards, A.units + 3⟩ := by
  first
    | rfl
    | simp [Around.over, marksOver, frameCount, unitsOf, envsOf, guardsOf, pushEnvs, pushGuards, Code.envs, Code.env?, Code.isFrame, Code.guards, Code.isGuard, Code.weight, Code.frames, Code.isCreation, Code.isCaller, Code.cUnits]
def gcx (X : Cx) (A : Around) (st : List Env) (cenv : Env) (s2 : Shared) (H2 : Hp) (fp : List Addr) : Cx :=
  { X with A := A, s_0 := s2, H_0 := H2, env := cenv, outer := X.stack, stack := st, ex := fp, fn := fun _ => false, calm := true, pn := [], xe := fun _ _ => False }
abbrev gEnv (X : Cx) (scope : Scope) (C : Addr) (code : Value) : Env := genEnv scope (cloFrom X.env.cells scope.names []) C code builtinsNs X.env
structure GenD (X : Cx) (scope : Scope) (z : Str) : Prop where
  kind : scope.kind = .function
  co : scope.isCoroutine = false
  cell : ∀ y ∈ scope.names, y.2 ≠ .cell
  free : ∀ y ∈ scope.names, y.2 = .free → X.env.kindOf y.1 = some .cell ∨ X.env.kindOf y.1 = some .free
  loc : ∀ y ∈ scope.names, y.2 = .local → y.1 = z ∨ y.1 = (".0" : Str)
  dot : scope.names.lookup (".0" : Str) = some NameKind.local
  own : scope.names.lookup z = some .local
  nd : (".0" : Str) ∉ X.N
  db : dunder z = false
theorem genD_of {X : Cx} {scope : Scope} {z : Str} (h : genC X.N X.env.scope scope z = true) : GenD X scope z := by
  unfold genC at h
  obtain ⟨h, h7⟩ := b2 h
  obtain ⟨h, h6⟩ := b2 h
  obtain ⟨h, h5⟩ := b2 h
  obtain ⟨h, h4⟩ := b2 h
  obtain ⟨h, h3⟩ := b2 h
  obtain ⟨h1, h2⟩ := b2 h
  have all := List.all_eq_true.mp h3
  refine ⟨of_decide_eq_true h1, by simpa using h2, fun y hy z => ?_, fun y hy z => ?_, fun y hy z => ?_, of_decide_eq_true h4, of_decide_eq_true h5, of_decide_eq_true h7, by simpa using h6⟩
  · have q := all y hy
    rw [z] at q
    cases q
  · have q := all y hy
    rw [z] at q
    rcases Bool.or_eq_true_iff.mp q with q | q
    · exact Or.inl (of_decide_eq_true q)
    · exact Or.inr (of_decide_eq_true q)
  · have q := all y hy
    rw [z] at q
    rcases Bool.or_eq_true_iff.mp q with q | q
    · exact Or.inl (of_decide_eq_true q)
    · exact Or.inr (of_decide_eq_true q)
section
variable {X : Cx} {pins : List (Addr × Obj)} {σ : L2.St} {H2 : Hp} {s2 : Shared} {scope : Scope} {z : Str} {fp : List Addr} {C : Addr} {code : Value} {A : Around}
theorem GenD.caps (D : GenD X scope z) (I : Inv X pins σ H2 s2) : ∀ y ∈ scope.names, y.2 = .free → ∃ c, X.env.cells.lookup y.1 = some c := fun y hy e => I.ok.has _ (D.free y hy e)
theorem gcx_ok (D : GenD X scope z) (I : Inv X pins σ H2 s2) (hf : ∀ b ∈ fp, FpOk X pins H2 b ∧ b < s2.heap.objs.size) (hC : s2.heap.objs.size ≤ C) (ha : A.handled = none) (hfr : A.frames = some (gEnv X scope C code :: X.stack)) :
    (gcx X A (gEnv X scope C code :: X.stack) (gEnv X scope C code) s2 H2 fp).Ok where
  mod := I.ok.mod
  kind := D.kind
  glob := I.ok.glob
  blt := rfl
  above := hC
  inj := fun x y c h1 h2 => I.ok.inj x y c (NdefX.clo_cm (D.caps I) h1) (NdefX.clo_cm (D.caps I) h2)
  has := fun x h => by
    have h2 : scope.names.lookup x = some .cell ∨ scope.names.lookup x = some .free := h
    rcases h2 with h2 | h2
    · exact absurd rfl (D.cell _ (PySem.mem_of_lookup h2))
    · have hm := PySem.mem_of_lookup h2
      obtain ⟨c, hc⟩ := D.caps I _ hm rfl
      exact ⟨c, NdefX.clo_has (D.caps I) hm hc⟩
  cab := fun x c h => by cases h
  hd := fun _ => ha
  frames := hfr
  stk := Or.inr ⟨rfl, rfl⟩
  exf := fun b hb => ⟨Nat.ne_of_lt (Nat.lt_of_lt_of_le (hf b hb).2 hC), fun x c h => (hf b hb).1.2.2.2.2.1 x c (NdefX.clo_cm (D.caps I) h)⟩
  bs := I.bs
  bsz := Nat.le_trans I.ok.bsz I.sz
  noex := fun b o e hb => by
    rcases (hf b hb).1.2.2.2.1 with q | q
    · exact I.ok.noex b o e q
    · exact absurd (Nat.lt_of_lt_of_le (Heap.lt_size e) (Nat.le_trans I.ok.bsz q)) (Nat.lt_irrefl _)
  exfs := fun b hb hm => by
    have h := (hf b hb).1
    rcases List.mem_cons.mp (I.stkSub b hm) with q | q
    · exact h.2.1 q
    · exact h.2.2.1 q
  funs := I.stack
  frf := I.stkFree
/-- back in the frame around -/
theorem gcx_back {st : List Env} {P : List (Addr × Obj)} {σ' : L2.St} {H : Hp} {s : Shared} {cenv : Env} (I : Inv X pins σ H2 s2) (hf : ∀ b ∈ fp, FpOk X pins H2 b ∧ b < s2.heap.objs.size) (J : Inv (gcx X A st cenv s2 H2 fp) P σ' H s) : Inv X pins σ H s :=
  I.call' J.os J.base J.hok J.bare fun b hb => ⟨(hf b hb).1.2.2.2.1, (hf b hb).1.2.1, (hf b hb).1.2.2.2.2.1, (hf b hb).1.2.2.2.2.2⟩
/-- the frame's beginning -/
theorem gcx_start {it : Value} {h3 h5 : Heap} {g' : Array GenState} {d' : Drawn} {t' : Nat} {H3 : Hp} {a : Addr} {go : Obj} {i : Nat} (D : GenD X scope z) (I : Inv X pins σ H2 s2) (hf : ∀ b ∈ fp, FpOk X pins H2 b ∧ b < s2.heap.objs.size) (hC : s2.heap.objs.size ≤ C) (ha : A.handled = none)
    (hfr : A.frames = some (gEnv X scope C code :: X.stack)) (hN : X.N[i]? = some z) (nd : X.N.Nodup)
    (J : Inv X pins σ H3 { s2 with heap := h3, gens := g', drawn := d', toks := t' }) (u : Un (frs X.stack) fp H2 H3 s2.heap h3) (hk : ∀ b o, h3.get? b = some o → h5.get? b = some o) (hCs : C = h3.objs.size)
    (hns : h5.Ns C (fun y => if y = (".0" : Str) then some it else none)) (hga : h5.get? a = some go) (haC : C < a) (hgo : ∀ v, go.data ≠ .cell v) :
    Inv (gcx X A (gEnv X scope C code :: X.stack) (gEnv X scope C code) s2 H2 fp) [(a, go)] (σ.set i none) H3 { s2 with heap := h5, gens := g', drawn := d', toks := t' } := by
  have hCf : H3 C = none := J.hok.fresh (Nat.le_of_eq hCs.symm)
  have hsa : h3.objs.size ≤ a := Nat.le_of_lt (by rw [← hCs]; exact haC)
  have haf : H3 a = none := J.hok.fresh hsa
  refine ⟨gcx_ok D I hf hC ha hfr, rfl, J.bare, u.trans (Un.kept hk), ⟨_, hns, fun j y v h1 h2 h3v => ?_⟩, fun x c h => ?_, hCf, fun x c h => J.freeC x c (NdefX.clo_cm (D.caps I) h), fun p hp => ?_, J.hok.kept hk, ?_⟩
  · have hne : j ≠ i := fun e => by
      subst e
      have h2' : (σ.set j none)[j]? = some (some v) := h2
      by_cases hj : j < σ.length
      · rw [List.getElem?_set_self hj] at h2'
        cases h2'
      · rw [List.getElem?_eq_none (by simpa using hj)] at h2'
        cases h2'
    have h2' : (σ.set i none)[j]? = some (some v) := h2
    rw [List.getElem?_set_ne (fun e => hne e.symm)] at h2'
    have hv : scope.names.lookup y = some .local ∨ scope.names.lookup y = some .cell ∨ scope.names.lookup y = some .free := h3v
    rcases hv with q | q | q
    · rcases D.loc _ (PySem.mem_of_lookup q) rfl with e | e
      · exfalso
        have e' : y = z := e
        subst e'
        have h1' : X.N[j]? = some y := h1
        have l1 := (List.getElem?_eq_some_iff.mp hN).1
        have l2 := (List.getElem?_eq_some_iff.mp h1').1
        have e3 : X.N[i] = X.N[j] := by rw [(List.getElem?_eq_some_iff.mp hN).2, (List.getElem?_eq_some_iff.mp h1').2]
        exact hne ((List.getElem_inj nd).mp e3).symm
      · exact absurd (by have e' : y = (".0" : Str) := e; rw [← e']; exact List.mem_of_getElem? h1) D.nd
    · exact absurd rfl (D.cell _ (PySem.mem_of_lookup q))
    · have hm := PySem.mem_of_lookup q
      obtain ⟨m, _, hl⟩ := J.loc
      have kf := D.free _ hm rfl
      have vis : Vis X.env.scope y := by
        rcases kf with k | k
        · exact Or.inr (Or.inl k)
        · exact Or.inr (Or.inr k)
      obtain ⟨uu, r, lk⟩ := hl j y v h1 h2' vis
      refine ⟨uu, r, Or.inr ⟨Or.inr q, ?_⟩⟩
      rcases lk with ⟨k, _⟩ | ⟨_, c, hc, o, ho, hd⟩
      · have k' : X.env.kindOf y = some .local := k
        rcases kf with k2 | k2
        · rw [k'] at k2; cases k2
        · rw [k'] at k2; cases k2
      · exact ⟨c, NdefX.clo_has (D.caps I) hm hc, o, hk _ _ ho, hd⟩
  · obtain ⟨v, o, ho, hd⟩ := J.cell x c (NdefX.clo_cm (D.caps I) h)
    exact ⟨v, o, hk _ _ ho, hd⟩
  · have hp' : p = (a, go) := by simpa [gcx] using hp
    subst hp'
    refine ⟨hga, haf, Nat.ne_of_gt haC, fun hm => ?_, hgo⟩
    have hm' : a ∈ frs X.stack := hm
    rcases List.mem_cons.mp (J.stkSub a hm') with q | q
    · have l1 : X.env.locals < h3.objs.size := J.lt
      rw [← q] at l1
      exact absurd (Nat.lt_of_lt_of_le l1 hsa) (Nat.lt_irrefl _)
    · exact J.nofs (a := a) hsa q
  · show (σ.set i none).length = X.N.length
    rw [List.length_set]
    exact J.len
end
end Jp


set_option Elab.async false
set_option linter.all false
set_option maxRecDepth 100000
set_option maxHeartbeats 4000000
namespace Jp
open PySem PySem.Spec PyProof.Rows L2
variable [Tb] [Cb]
/-! ### a generator expression's turns -/
section
variable (K : PySem.W.Frag) (xc : List (Addr × List Str)) (E : XK) (X' : Cx) (P : List (Addr × Obj)) (ev : IE → Slots → Sto → Rs AV) (all : Bool) (own : Nat) (elt : IE) (xs ys : List AV) (sl0 : Slots) (Jt : It) (fp : List Addr) (tn : Nat → Heap → Prop) (gi : Nat) (Q : V → Hp → Prop)
/-- ahead of the i-th turn -/
def GJ (i : Nat) (s : Shared) : Prop := ∃ ρ H sto σ' sl, Inv X' P σ' H s ∧ StR K ρ H sto ∧ SlR K ρ H σ' sl ∧ (∀ d, sl.set own (some d) = sl0.set own (some d)) ∧ sl.length = sl0.length ∧ stands .seq xs ys sto = true ∧ WalkOk K ρ H .seq xs ys Jt ∧ tn i s.heap ∧
  (∀ b ∈ fp, H b = none) ∧ Out K xc E ρ H (Rp K) (qLoop ev all own elt xs ys sl0 (ys.drop i) sto) Q
/-- it ends, or the asker does -/
def GE (b : Bool) (s : Shared) : Prop := ∃ σ' H, Inv X' P σ' H s ∧ Q (.bl b) H
def GYq : Protocol := fun m s₀ v s kap => gi < s.gens.size ∧ ∃ b : Bool, v = .bool b ∧ (b = all → GJ K xc E X' P ev all own elt xs ys sl0 Jt fp tn Q (ys.length - m) s ∧ ∀ s'', gi < s''.gens.size → GJ K xc E X' P ev all own elt xs ys sl0 Jt fp tn Q (ys.length - m) s'' → kap (.send .none) s'') ∧ (b ≠ all → GE X' P Q b s)
def GRq : Nat → Shared → Shared → Prop := fun _ _ s => gi < s.gens.size ∧ GE X' P Q all s
end
section
variable {K : PySem.W.Frag} {xc : List (Addr × List Str)} {E : XK} {X' : Cx} {P : List (Addr × Obj)} {ev : IE → Slots → Sto → Rs AV} {all : Bool} {own : Nat} {elt : IE} {xs ys : List AV} {sl0 : Slots} {Jt : It} {fp : List Addr} {tn : Nat → Heap → Prop} {gi : Nat} {Q : V → Hp → Prop}
/-- nothing but the table of generators and the tokens changes -/
theorem GJ.gens {i : Nat} {s : Shared} {g : Array GenState} {t : Nat} (h : GJ K xc E X' P ev all own elt xs ys sl0 Jt fp tn Q i s) (hg : AllBare g) : GJ K xc E X' P ev all own elt xs ys sl0 Jt fp tn Q i { s with gens := g, toks := t } := by
  obtain ⟨ρ, H, sto, σ', sl, I, r⟩ := h
  refine ⟨ρ, H, sto, σ', sl, ?_, r⟩
  exact ⟨I.ok, I.os, hg, I.base, I.loc, I.cell, I.free, I.freeC, I.pin, I.hok, I.len⟩
theorem GE.gens {b : Bool} {s : Shared} {g : Array GenState} {t : Nat} (h : GE X' P Q b s) (hg : AllBare g) : GE X' P Q b { s with gens := g, toks := t } := by
  obtain ⟨σ', H, I, q⟩ := h
  exact ⟨σ', H, ⟨I.ok, I.os, hg, I.base, I.loc, I.cell, I.free, I.freeC, I.pin, I.hok, I.len⟩, q⟩
theorem wpAny_gs {α : Type} {M : Model} {A : Around} {s : Shared} {t : Sem α} {Q : α → Shared → Prop} {E : Value → Shared → Prop} {n : Nat} (hn : n < s.gens.size)
    (h : wpAny M A t (fun a s' => n < s'.gens.size → Q a s') (fun e s' => E e s') s) : wpAny M A t Q E s :=
  GenW.wpAny_gsz (n := n + 1) hn (wpAny_mono h (fun a s' q => q) fun e s' q _ => q)

theorem gen_loop {el src : Expr} {z : Str} {px : Pos} {scope : Scope} {pos : Pos} {it : Addr} {A : Around} (hT : Turn X'.prog X'.w K (.Name z px) Jt fp it tn) (hK : X'.K = K) (hcalm : X'.calm = true)
    (hA : X'.A = A.over (.compLoop (.GeneratorExp el [⟨.Name z px, src, [], 0⟩] scope pos) 0 (.ref it) .none X'.env) []) (hco : X'.env.scope.isCoroutine = false) (hxe : ∀ e s, ¬ X'.xe e s)
    (hfp : ∀ (H : Hp), (∀ b ∈ fp, H b = none) → ∀ b ∈ fp, FpOk X' P H b) (N : List Str) (w : Wd) (hw : w.xc = xc)
    (PEl : PE X' el (tI w K E0 (ev elt))) (PGt : PG X' (.Name z px) (tG K (.nm own))) :
    ∀ k i s₀ s, ys.length - i = k → i ≤ ys.length → gi < s.gens.size → GJ K xc E X' P ev all own elt xs ys sl0 Jt fp tn Q i s →
      Seg (model X'.prog X'.w) A (fun n s₀ r s₁ => r = .ok .next ∧ GRq X' P all gi Q n s₀ s₁) (GYq K xc E X' P ev all own elt xs ys sl0 Jt fp tn gi Q) (ys.length - i) s₀
        (.compLoop (.GeneratorExp el [⟨.Name z px, src, [], 0⟩] scope pos) 0 (.ref it) .none X'.env)
        ((model X'.prog X'.w).den (.compLoop (.GeneratorExp el [⟨.Name z px, src, [], 0⟩] scope pos) 0 (.ref it) .none X'.env)) [] s := by
  intro k
  induction k with
  | zero =>
    intro i s₀ s hk hi hgi hj
    obtain ⟨ρ, H, sto, σ', sl, I, st, sr, hsl, hll, hst, hwk, htn, hfn, o⟩ := hj
    have hin : i = ys.length := by omega
    have hstop : Jt.stop i H := (hwk i ρ H sto (Go.refl _ _) st hst).2 (by omega)
    have hd : ys.drop i = [] := by rw [hin]; simp
    rw [hd] at o
    show Seg _ A _ _ _ s₀ _ ((compTurn (.GeneratorExp el [⟨.Name z px, src, [], 0⟩] scope pos) 0 (.ref it) .none X'.env).onRaise (leaving X'.env)) [] s
    rw [compTurn_gen, Sem.onRaise_eq_wrap]
    refine seg_bind_wrap (wpAny_standAt ?_)
    refine seg_bind_wrap ?_
    rw [← hA]
    refine wpAny_gs hgi (wpAny_mono (hT.done X' rfl rfl hK hcalm i P s σ' H _ I (hfp H hfn) htn hstop) (fun r s1 h1 g1 => ?_) fun _ _ e => e)
    obtain ⟨rfl, I1⟩ := h1
    exact seg_end (.ok .next) ⟨rfl, g1, σ', H, I1, Out.now o st (.bl _)⟩
  | succ k ih =>
    intro i s₀ s hk hi hgi hj
    obtain ⟨ρ, H, sto, σ', sl, I, st, sr, hsl, hll, hst, hwk, htn, hfn, o⟩ := hj
    have hlt : i < ys.length := by omega
    obtain ⟨hgo, hyl⟩ := (hwk i ρ H sto (Go.refl _ _) st hst).1 ys[i] (List.getElem?_eq_getElem hlt)
    rw [List.drop_eq_getElem_cons hlt] at o
    simp only [qLoop] at o
    show Seg _ A _ _ _ s₀ _ ((compTurn (.GeneratorExp el [⟨.Name z px, src, [], 0⟩] scope pos) 0 (.ref it) .none X'.env).onRaise (leaving X'.env)) [] s
    rw [compTurn_gen, Sem.onRaise_eq_wrap]
    refine seg_bind_wrap (wpAny_standAt ?_)
    refine seg_bind_wrap ?_
    rw [← hA]
    refine wpAny_gs hgi (wpAny_mono (hT.item X' rfl rfl hK hcalm i P s σ' H _ I (hfp H hfn) htn hgo) (fun r s1 h1 g1 => ?_) fun _ _ e => e)
    obtain ⟨u, rfl, h1⟩ := h1
    refine seg_bind_wrap ?_
    rw [← hA]
    refine wpAny_gs g1 (wpAny_mono h1 (fun _ s2 h2 g2 => ?_) fun _ _ e => e)
    obtain ⟨x, H2, I2, r2, y2, tn2, fn2⟩ := h2
    obtain ⟨e2, rx⟩ := hyl x H2 y2
    subst e2
    have I2' := I2.pinned (hfp _ fn2) (hT.obj _ _ tn2)
    cases ea : asT sto (.nm own) ys[i] sl0 with
    | none =>
      simp only [ea] at o
      exact o.elim
    | some sl2 =>
    simp only [ea] at o
    have ea1 : (if own < sl0.length then some (sl0.set own (some ys[i])) else none) = some sl2 := by simpa only [asT] using ea
    have ea2 : asT sto (.nm own) ys[i] sl = some sl2 := by
      simp only [asT]
      rw [hll, hsl]
      exact ea1
    have esl2 : sl2 = sl0.set own (some ys[i]) := by
      split at ea1
      · exact (Option.some.inj ea1).symm
      · cases ea1
    refine seg_bind_wrap ?_
    rw [← hA]
    refine wpAny_gs g2 (wpAny_mono (PGt.run _ s2 σ' H2 x u (fun σ'' H'' => H'' = H2 ∧ SlR K ρ H2 σ'' sl2) I2' r2 ⟨ρ, sl, sto, ys[i], sl2, st, sr, rx, ea2, fun σ'' sr2 _ => ⟨rfl, sr2⟩⟩) (fun _ s3 h3 g3 => ?_) fun e s e3 => absurd e3 (hxe e s))
    obtain ⟨σ3, H4, I3, rfl, sr3⟩ := h3
    simp only [List.forIn_nil]
    refine seg_bind_wrap (wpAny_pure ?_)
    simp only [if_true]
    have hy : ∀ v, yieldOut X'.env v = yieldValue v := fun v => by simp only [yieldOut, hco, Bool.false_eq_true, if_false]
    simp only [hy]
    rw [Sem.bind_eq_wrap', Sem.bind_eq_wrap', Sem.wrap_wrap, Sem.wrap_wrap]
    refine seg_wrap ?_
    rw [← hA]
    have I3' := I3
    refine wpAny_gs g3 (wpAny_mono (PEl.run _ s3 σ3 H4 (fun v H5 => ∃ ρ5 sto5 y, v = .bl y ∧ Go ρ H4 ρ5 H5 ∧ StR K ρ5 H5 sto5 ∧ (if y == all then Out K xc E ρ5 H5 (Rp K) (if stands .seq xs ys sto5 then qLoop ev all own elt xs ys sl0 (ys.drop (i + 1)) sto5 else .bad) Q else Out K xc E ρ5 H5 (Rp K) (.ok (.bl y) sto5) Q)) I3 ?_) (fun v s4 h4 g4 => ?_) fun e s e3 => absurd e3 (hxe e s))
    · refine ⟨ρ, sl2, sto, st, sr3, ?_⟩
      rw [hw]
      refine Out.bdX o ?_
      intro a s5 ρ5 H5 b _ g5 st5 r5 o5
      cases a with
      | bl y =>
        cases r5
        refine ⟨ρ5, s5, y, rfl, g5, st5, ?_⟩
        have o6 : Out K xc E ρ H4 (Rp K) (if (y == all) = true then (if stands .seq xs ys s5 = true then qLoop ev all own elt xs ys sl0 (ys.drop (i + 1)) s5 else .bad) else .ok (.bl y) s5) Q := o5
        by_cases hy2 : (y == all) = true
        · rw [if_pos hy2] at o6 ⊢
          exact Out.up o6 g5
        · rw [if_neg hy2] at o6 ⊢
          exact Out.up o6 g5
      | _ => exact o5.elim
    obtain ⟨x5, H5, I5, r5, ρ5, sto5, y, rfl, g5, st5, o5⟩ := h4
    cases r5
    have hm : ys.length - i = (ys.length - (i + 1)) + 1 := by omega
    rw [hm]
    have hidx : ys.length - (ys.length - (i + 1)) = i + 1 := by omega
    have I6 := I5.unpinned
    refine seg_at (seg_yield rfl rfl rfl ⟨g4, y, rfl, fun hyA => ?_, fun hyA => ?_⟩)
    · rw [hidx]
      have hy2 : (y == all) = true := by rw [hyA]; simp
      rw [if_pos hy2] at o5
      split at o5
      · rename_i hst5
        refine ⟨⟨ρ5, H5, sto5, σ3, sl2, I6, st5, sr3.go g5, fun d => by rw [esl2, List.set_set], by rw [esl2, List.length_set], hst5, hwk.up g5, hT.keep _ _ _ tn2 fun b hb ob e => ?_, fun b hb => ?_, o5⟩, fun s'' g'' hj'' => ?_⟩
        · exact (I5.pin (b, ob) (List.mem_append_right _ (List.mem_append_right _ (mem_pinsAt hb e)))).1
        · obtain ⟨ob, e, d⟩ := hT.obj _ _ tn2 b hb
          exact (I5.pin (b, ob) (List.mem_append_right _ (List.mem_append_right _ (mem_pinsAt hb e)))).2.1
        · exact seg_again rfl (ih (i + 1) s'' s'' (by omega) (by omega) g'' hj'')
      · exact o5.elim
    · have hy2 : ¬ (y == all) = true := by simpa using hyA
      rw [if_neg hy2] at o5
      exact ⟨σ3, H5, I6, Out.now o5 st5 (.bl _)⟩
end
end Jp


set_option Elab.async false
set_option linter.all false
set_option maxRecDepth 100000
set_option maxHeartbeats 4000000
namespace Jp
open PySem PySem.Spec PyProof.Rows L2
variable [Tb] [Cb]
/-! ### all, any of a generator expression -/
section
variable {K : PySem.W.Frag} {xc : List (Addr × List Str)} {E : XK} {X' : Cx} {P : List (Addr × Obj)} {ev : IE → Slots → Sto → Rs AV} {all : Bool} {own : Nat} {elt : IE} {xs ys : List AV} {sl0 : Slots} {Jt : It} {fp : List Addr} {tn : Nat → Heap → Prop} {gi : Nat} {Q : V → Hp → Prop}
theorem gen_start {el src : Expr} {z : Str} {px : Pos} {scope : Scope} {pos : Pos} {it : Addr} {A : Around} (hT : Turn X'.prog X'.w K (.Name z px) Jt fp it tn) (hK : X'.K = K) (hcalm : X'.calm = true)
    (hA : X'.A = A.over (.compLoop (.GeneratorExp el [⟨.Name z px, src, [], 0⟩] scope pos) 0 (.ref it) .none X'.env) []) (hco : X'.env.scope.isCoroutine = false) (hxe : ∀ e s, ¬ X'.xe e s)
    (hfp : ∀ (H : Hp), (∀ b ∈ fp, H b = none) → ∀ b ∈ fp, FpOk X' P H b) (w : Wd) (hw : w.xc = xc)
    (PEl : PE X' el (tI w K E0 (ev elt))) (PGt : PG X' (.Name z px) (tG K (.nm own))) :
    ∀ s, gi < s.gens.size → GJ K xc E X' P ev all own elt xs ys sl0 Jt fp tn Q 0 s → (GenState.fresh (.compStart (.GeneratorExp el [⟨.Name z px, src, [], 0⟩] scope pos) 0 (.ref it) .none X'.env)).Goes (model X'.prog X'.w) A
      (fun n s₀ r s₁ => r = .ok .next ∧ GRq X' P all gi Q n s₀ s₁) (GYq K xc E X' P ev all own elt xs ys sl0 Jt fp tn gi Q) (ys.length - 0) (.send .none) s := by
  intro s hg hj
  refine ⟨rfl, ?_⟩
  have loop := gen_loop (el := el) (src := src) (scope := scope) (pos := pos) hT hK hcalm hA hco hxe hfp [] w hw PEl PGt ys.length 0 s s (Nat.sub_zero _) (Nat.zero_le _) hg hj
  obtain ⟨ρ, H, sto, σ', sl, I, st, sr, hsl, hll, hst, hwk, htn, hfn, o⟩ := id hj
  show Seg _ A _ _ _ s _ ((compStart (.GeneratorExp el [⟨.Name z px, src, [], 0⟩] scope pos) 0 (.ref it) .none X'.env).onRaise (leaving X'.env)) [] s
  unfold compStart
  rw [Sem.onRaise_eq_wrap]
  show Seg _ A _ _ _ s _ ((ask >>= _).wrap _ _ _ _) [] s
  refine seg_bind_wrap (wpAny_askSetting ?_)
  split
  · exact seg_again rfl loop
  · first
      | exact seg_bind_wrap (wpAny_rule (seg_bind_wrap (wpAny_standAt (seg_bind_wrap (hT.self _ 0 s _ _ htn (seg_again rfl loop))))))
      | (refine seg_bind_wrap (wpAny_rule ?_); show Seg _ A _ _ _ s _ ((standAt src.pos >>= _).wrap _ _ _ _) [] s; exact seg_bind_wrap (wpAny_standAt (seg_bind_wrap (hT.self _ 0 s _ _ htn (seg_again rfl loop)))))
variable (K xc E X' P ev all own elt xs ys sl0 Jt fp tn gi Q) in
/-- the generator, ahead of the i-th turn -/
def GSt (A : Around) (i : Nat) (s : Shared) : Prop := gi < s.gens.size ∧ GJ K xc E X' P ev all own elt xs ys sl0 Jt fp tn Q i s ∧ ∃ gs, s.gens[gi]? = some gs ∧ ∀ s'', gi < s''.gens.size → GJ K xc E X' P ev all own elt xs ys sl0 Jt fp tn Q i s'' →
  gs.Goes (model X'.prog X'.w) A (fun n s₀ r s₁ => r = .ok .next ∧ GRq X' P all gi Q n s₀ s₁) (GYq K xc E X' P ev all own elt xs ys sl0 Jt fp tn gi Q) (ys.length - i) (.send .none) s''
theorem gen_next {A : Around} {a i : Nat} {s : Shared} {Er : Value → Shared → Prop} {R : Option Value → Shared → Prop} (hh : A.handled = none) (hroom : A.depth < recursionLimit) (hgen : ∀ σ H s, Inv X' P σ H s → s.heap.IsGen a gi)
    (h : GSt K xc E X' P ev all own elt xs ys sl0 Jt fp tn gi Q A.in1 i s) (hi : i ≤ ys.length)
    (hY : ∀ s', i < ys.length → GSt K xc E X' P ev all own elt xs ys sl0 Jt fp tn gi Q A.in1 (i + 1) s' → R (some (.bool all)) s')
    (hB : ∀ b s', b ≠ all → GE X' P Q b s' → R (some (.bool b)) s') (hE : ∀ s', GE X' P Q all s' → R none s') :
    wpAny (model X'.prog X'.w) A (pyNext (.ref a)) R Er s := by
  obtain ⟨hg, hj, gs, hgs, hgo⟩ := h
  obtain ⟨ρ, H, sto, σ', sl, I, hr⟩ := id hj
  have bare := I.bare
  have hg2 : gi < (s.setGen gi .running).gens.size := by
    rw [GenW.setGen_size]
    exact hg
  refine wpAny_pyNext_genexpQ (P := GRq X' P all gi Q) hh I.nolimit hroom (hgen _ _ _ I) hgs (hgo (s.setGen gi .running) hg2 (hj.gens (t := s.toks) (allBare_setGen (x := .running) bare rfl))) (fun v s₁ gs' hb hv => ?_) (fun s₁ hp h' hk => ?_)
  · obtain ⟨g1, b, rfl, ha, hn⟩ := hv
    by_cases e : b = all
    · subst e
      obtain ⟨hj1, hk1⟩ := ha rfl
      cases hn2 : ys.length - i with
      | zero =>
        rw [hn2] at hj1 hk1
        exact (hk1 s₁ g1 hj1).elim
      | succ m =>
        rw [hn2] at hj1 hk1
        have hi1 : ys.length - m = i + 1 := by omega
        have hm1 : ys.length - (i + 1) = m := by omega
        have e1 : m + 1 - 1 = m := rfl
        rw [e1, hi1] at hj1 hk1
        obtain ⟨_, _, _, _, _, I1, _⟩ := id hj1
        refine hY _ (by omega) ⟨by rw [GenW.setGen_size]; exact g1, hj1.gens (t := s₁.toks) (allBare_setGen I1.bare hb), gs', setGen_at g1, fun s'' g'' j'' => ?_⟩
        rw [hm1]
        exact hk1 s'' g'' j''
    · obtain ⟨σ1, H1, I1, q⟩ := hn e
      exact hB b _ e (GE.gens (t := s₁.toks) ⟨σ1, H1, I1, q⟩ (allBare_setGen I1.bare hb))
  · obtain ⟨g1, σ1, H1, I1, q⟩ := hp
    obtain ⟨σ2, H2, I2, q2⟩ := GE.gens (t := s₁.toks) (b := all) ⟨σ1, H1, I1, q⟩ (allBare_setGen (x := .finished) I1.bare rfl)
    exact hE _ ⟨σ2, H2, I2.kept hk, q2⟩
theorem all_loop {A : Around} {a : Nat} {R : Result → Shared → Prop} (hh : A.handled = none) (hroom : A.depth < recursionLimit) (hgen : ∀ σ H s, Inv X' P σ H s → s.heap.IsGen a gi) (hR : ∀ b s', GE X' P Q b s' → R (.ok (.ret (.bool b))) s') :
    ∀ k i s, ys.length - i = k → i ≤ ys.length → GSt K xc E X' P ev true own elt xs ys sl0 Jt fp tn gi Q A.in1.in1 i s → codeAny (model X'.prog X'.w) A (.builtin "all.loop" ⟨[.ref a], []⟩) R s := by
  intro k
  induction k with
  | zero =>
    intro i s hk hi h
    refine codeAny_builtin F.entry_all_loop ?_
    rw [Around.under_plainId F.plain_all_loop _]
    show wpAny _ A.in1 (pyNext (.ref a) >>= _) _ _ s
    refine wpAny_bind (gen_next (A := A.in1) hh hroom hgen h hi (fun s' hlt _ => absurd hlt (by omega)) (fun b s' hb g => ?_) (fun s' g => ?_))
    · cases b with
      | true => exact absurd rfl hb
      | false =>
        refine wpAny_bind (wpAny_holding (wpAny_truthy_bool ?_))
        refine wpAny_bind (wpAny_letGo ?_)
        simp only [Bool.false_eq_true, if_false]
        exact wpAny_bind (wpAny_rule (wpAny_pure (hR false s' g)))
    · exact wpAny_bind (wpAny_rule (wpAny_pure (hR true s' g)))
  | succ k ih =>
    intro i s hk hi h
    refine codeAny_builtin F.entry_all_loop ?_
    rw [Around.under_plainId F.plain_all_loop _]
    show wpAny _ A.in1 (pyNext (.ref a) >>= _) _ _ s
    refine wpAny_bind (gen_next (A := A.in1) hh hroom hgen h hi (fun s' hlt g => ?_) (fun b s' hb g => ?_) (fun s' g => ?_))
    · refine wpAny_bind (wpAny_holding (wpAny_truthy_bool ?_))
      refine wpAny_bind (wpAny_letGo ?_)
      simp only [if_true]
      exact wpAny_pure ⟨plainId_quiet F.plain_all_loop _, ih (i + 1) s' (by omega) hlt g⟩
    · cases b with
      | true => exact absurd rfl hb
      | false =>
        refine wpAny_bind (wpAny_holding (wpAny_truthy_bool ?_))
        refine wpAny_bind (wpAny_letGo ?_)
        simp only [Bool.false_eq_true, if_false]
        exact wpAny_bind (wpAny_rule (wpAny_pure (hR false s' g)))
    · exact wpAny_bind (wpAny_rule (wpAny_pure (hR true s' g)))
theorem any_loop {A : Around} {a : Nat} {R : Result → Shared → Prop} (hh : A.handled = none) (hroom : A.depth < recursionLimit) (hgen : ∀ σ H s, Inv X' P σ H s → s.heap.IsGen a gi) (hR : ∀ b s', GE X' P Q b s' → R (.ok (.ret (.bool b))) s') :
    ∀ k i s, ys.length - i = k → i ≤ ys.length → GSt K xc E X' P ev false own elt xs ys sl0 Jt fp tn gi Q A.in1.in1 i s → codeAny (model X'.prog X'.w) A (.builtin "any.loop" ⟨[.ref a], []⟩) R s := by
  intro k
  induction k with
  | zero =>
    intro i s hk hi h
    refine codeAny_builtin F.entry_any_loop ?_
    rw [Around.under_plainId F.plain_any_loop _]
    show wpAny _ A.in1 (pyNext (.ref a) >>= _) _ _ s
    refine wpAny_bind (gen_next (A := A.in1) hh hroom hgen h hi (fun s' hlt _ => absurd hlt (by omega)) (fun b s' hb g => ?_) (fun s' g => ?_))
    · cases b with
      | false => exact absurd rfl hb
      | true =>
        refine wpAny_bind (wpAny_holding (wpAny_truthy_bool ?_))
        refine wpAny_bind (wpAny_letGo ?_)
        simp only [if_true]
        exact wpAny_bind (wpAny_rule (wpAny_pure (hR true s' g)))
    · exact wpAny_bind (wpAny_rule (wpAny_pure (hR false s' g)))
  | succ k ih =>
    intro i s hk hi h
    refine codeAny_builtin F.entry_any_loop ?_
    rw [Around.under_plainId F.plain_any_loop _]
    show wpAny _ A.in1 (pyNext (.ref a) >>= _) _ _ s
    refine wpAny_bind (gen_next (A := A.in1) hh hroom hgen h hi (fun s' hlt g => ?_) (fun b s' hb g => ?_) (fun s' g => ?_))
    · refine wpAny_bind (wpAny_holding (wpAny_truthy_bool ?_))
      refine wpAny_bind (wpAny_letGo ?_)
      simp only [Bool.false_eq_true, if_false]
      exact wpAny_pure ⟨plainId_quiet F.plain_any_loop _, ih (i + 1) s' (by omega) hlt g⟩
    · cases b with
      | false => exact absurd rfl hb
      | true =>
        refine wpAny_bind (wpAny_holding (wpAny_truthy_bool ?_))
        refine wpAny_bind (wpAny_letGo ?_)
        simp only [if_true]
        exact wpAny_bind (wpAny_rule (wpAny_pure (hR true s' g)))
    · exact wpAny_bind (wpAny_rule (wpAny_pure (hR false s' g)))
end
end Jp


set_option Elab.async false
set_option linter.all false
set_option maxRecDepth 100000
set_option maxHeartbeats 4000000
namespace Jp
open PySem PySem.Spec PyProof.Rows L2
variable [Tb] [Cb]
section
variable {K : PySem.W.Frag} {xc : List (Addr × List Str)} {E : XK} {ρ : List Addr} {H H' : Hp} {s : Sto} {P : Addr} {ps more : Array Value}
/-! ### the table has grown -/
theorem Gr.tbl (h : H P = some (.tbl ps)) {o : HO} : Gr H (upd H P o) :=
  ⟨fun a ys e => by rw [upd_ne (ne_of e h (by intro z; cases z))]; exact e, fun a b u e => by rw [upd_ne (ne_of e h (by intro z; cases z))]; exact e⟩
theorem Go.tbl (h : H P = some (.tbl ps)) {ps' : Array Value} : Go ρ H ρ (upd H P (.tbl ps')) := ⟨Le.refl _, Gr.tbl h, fun a u e n nt => ⟨by
  rw [upd_ne (fun z => nt ps (by rw [z, h] at e; exact (Option.some.inj e).symm))]
  exact e, n⟩⟩
theorem StR.tbl (st : StR K ρ H s) (hPl : P ∈ Tb.l) (h : H P = some (.tbl ps)) {ps' : Array Value} (t : TriplesOk ps'.toList) : StR K ρ (upd H P (.tbl ps')) s := st.gr (Gr.tbl h) (fun a u e nt => by
  rw [upd_ne (ne_of e h (fun z => nt _ z))]
  exact e) (st.tb.tbd (P := P) hPl ⟨⟨ps', upd_same, t⟩, fun b hb => upd_ne hb⟩)
theorem un_tbl {fs ex : List Addr} {h h' : Heap} (hP : H P = some (.tbl ps)) (k : ∀ b o, b ≠ P → h.get? b = some o → h'.get? b = some o) (hm : ∃ o, h'.get? P = some o) : Un fs ex H (upd H P (.tbl (ps ++ more))) h h' where
  keep := fun b o e n _ _ => k b o (fun z => by rw [z, hP] at n; cases n) e
  slot := fun b o e n _ _ => ⟨o.slots, k b o (fun z => by rw [z, hP] at n; cases n) e⟩
  free := fun b o e n _ => by
    rw [upd_ne (fun z => by rw [z, hP] at n; cases n)]
    exact n
  there := fun b o e _ => by
    by_cases hb : b = P
    · rw [hb]
      exact hm
    · exact ⟨o, k b o hb e⟩
  tups := fun b xs e => by rw [upd_ne (ne_of e hP (by intro z; cases z))]; exact e
  frzs := fun b o u e => by rw [upd_ne (ne_of e hP (by intro z; cases z))]; exact e
  tbls := fun b qs e => by
    by_cases hb : b = P
    · rw [hb, hP] at e
      cases e
      rw [hb, upd_same]
      exact ⟨more, rfl⟩
    · rw [upd_ne hb, e]
      exact ⟨#[], by simp⟩
end
section
variable {w : Wd} {T : Nat → Nat → List AV → Sto → Rs AV} {k g n : Nat} {E : XK} {X : Cx}
theorem Rg.gen {A : Around} (r : Rg k 0 A) {elt tg iter : Expr} {ifs : List Expr} {scope : Scope} {pos : Pos} {it acc : Value} {env : Env} : Rg k 1 (A.in1.in1.over (.compLoop (.GeneratorExp elt [⟨tg, iter, ifs, 0⟩] scope pos) 0 it acc env) []) := by
  rw [over_comp]
  have h1 := r.rm.d
  have h2 := r.rm.u
  refine ⟨r.rm.h, r.rm.g, by decide, ?_, ?_⟩
  · show A.depth + 1 + k + 100 < recursionLimit + 4 * 1
    omega
  · show A.units + 1 + 1 + 3 + 4 * k + 700 < cLine + 2 * (4 * 1)
    omega
theorem Gd.gen (G : Gd w T k 0 E X) {A : Around} {st : List Env} {cenv : Env} {s2 : Shared} {H2 : Hp} {fp : List Addr} (hn : LAM ∉ w.N) (r : Rg k 1 A) : Gd w T k 1 E0 (gcx X A st cenv s2 H2 fp) where
  N := G.N
  nd := G.nd
  calm := rfl
  rg := r
  fn := G.fn
  cn := G.cn
  dn := G.dn
  kl := G.kl
  ma := G.ma
  bi := G.bi
  ps := passL
  cd := fun h => by cases h
  ld := fun h => absurd h hn
  cw := G.cw
  hf := G.hf
/-- the generator is made -/
def Rdy (X : Cx) (pins : List (Addr × Obj)) (σ : L2.St) (Q : V → Hp → Prop) (all : Bool) (A : Around) (a : Addr) (s : Shared) : Prop :=
  ∃ (K : PySem.W.Frag) (xc : List (Addr × List Str)) (E : XK) (X' : Cx) (P : List (Addr × Obj)) (ev : IE → Slots → Sto → Rs AV) (own : Nat) (elt : IE) (xs ys : List AV) (sl0 : Slots) (Jt : It) (fp : List Addr) (tn : Nat → Heap → Prop) (gi : Nat),
    X'.prog = X.prog ∧ X'.w = X.w ∧ (∀ σ H s, Inv X' P σ H s → s.heap.IsGen a gi) ∧ (∀ b s', GE X' P Q b s' → ∃ H', Inv X pins σ H' s' ∧ Q (.bl b) H') ∧ GSt K xc E X' P ev all own elt xs ys sl0 Jt fp tn gi Q A 0 s
theorem call_all {pins : List (Addr × Obj)} {σ : L2.St} {Q : V → Hp → Prop} {a : Addr} {s : Shared} (hh : X.A.handled = none) (hroom : X.A.depth < recursionLimit) (h : Rdy X pins σ Q true X.A.in1.in1 a s) :
    wpAny (model X.prog X.w) X.A (call (.builtin "all") [.ref a]) (EP X pins σ Q) X.xe s := by
  obtain ⟨K, xc, E, X', P, ev, own, elt, xs, ys, sl0, Jt, fp, tn, gi, e1, e2, hgen, hback, hst⟩ := h
  rw [← e1, ← e2]
  refine call_function_tree F.kind_all F.plain_all F.entry_all (F.args_all1 _) ?_
  unfold Builtin.«all»
  refine wpAny_bind (m := oneArg "all" _) (wpAny_pure ?_)
  obtain ⟨_, _, _, _, _, I1, _⟩ := id hst.2.1
  refine wpAny_bind (wpAny_pyIter_gen (hgen _ _ _ I1) ?_)
  refine wpAny_pure ⟨plainId_quiet F.plain_all_loop _, all_loop (A := X.A) hh hroom hgen (fun b s' g => ?_) ys.length 0 s (Nat.sub_zero _) (Nat.zero_le _) hst⟩
  obtain ⟨H', I', q⟩ := hback b s' g
  exact ⟨.bl b, H', I', rfl, q⟩
theorem call_any {pins : List (Addr × Obj)} {σ : L2.St} {Q : V → Hp → Prop} {a : Addr} {s : Shared} (hh : X.A.handled = none) (hroom : X.A.depth < recursionLimit) (h : Rdy X pins σ Q false X.A.in1.in1 a s) :
    wpAny (model X.prog X.w) X.A (call (.builtin "any") [.ref a]) (EP X pins σ Q) X.xe s := by
  obtain ⟨K, xc, E, X', P, ev, own, elt, xs, ys, sl0, Jt, fp, tn, gi, e1, e2, hgen, hback, hst⟩ := h
  rw [← e1, ← e2]
  refine call_function_tree F.kind_any F.plain_any F.entry_any (F.args_any1 _) ?_
  unfold Builtin.«any»
  refine wpAny_bind (m := oneArg "any" _) (wpAny_pure ?_)
  obtain ⟨_, _, _, _, _, I1, _⟩ := id hst.2.1
  refine wpAny_bind (wpAny_pyIter_gen (hgen _ _ _ I1) ?_)
  refine wpAny_pure ⟨plainId_quiet F.plain_any_loop _, any_loop (A := X.A) hh hroom hgen (fun b s' g => ?_) ys.length 0 s (Nat.sub_zero _) (Nat.zero_le _) hst⟩
  obtain ⟨H', I', q⟩ := hback b s' g
  exact ⟨.bl b, H', I', rfl, q⟩
end
end Jp


set_option Elab.async false
set_option linter.all false
set_option maxRecDepth 100000
set_option maxHeartbeats 8000000
namespace Jp
open PySem PySem.Spec PyProof.Rows L2
variable [Tb] [Cb]
section
variable {w : Wd} {T : Nat → Nat → List AV → Sto → Rs AV} {k g n : Nat} {E : XK} {X : Cx}
theorem stands_wk {wk : IW} {src : Slots → Sto → Rs (List AV)} {sl : Slots} {s s1 : Sto} {xs ys : List AV} (hwk : wkE wk src sl s = .ok (xs, ys) s1) : stands wk xs ys s1 = true := by
  unfold wkE at hwk
  cases q : src sl s with
  | bad => rw [q] at hwk; cases hwk
  | exc _ _ => rw [q] at hwk; cases hwk
  | ok xs0 s0 =>
    rw [q] at hwk
    have hwk2 : ((opt (walk wk xs0 s0) s0).bd fun ys s => Rs.ok (xs0, ys) s) = .ok (xs, ys) s1 := hwk
    cases q2 : walk wk xs0 s0 with
    | none => rw [q2] at hwk2; cases hwk2
    | some ys0 =>
      rw [q2] at hwk2
      cases hwk2
      exact stands_now q2
/-- what is wanted once the walk has come -/
def RW2 (w : Wd) (K : PySem.W.Frag) (E : XK) (ev : IE → Slots → Sto → Rs AV) (all : Bool) (own : Nat) (elt : IE) (σ : L2.St) (Q : V → Hp → Prop) (Jt : It) (H2 : Hp) : Prop :=
  ∃ ρ2 sl sto2 xs ys, StR K ρ2 H2 sto2 ∧ SlR K ρ2 H2 σ sl ∧ WalkOk K ρ2 H2 .seq xs ys Jt ∧ stands .seq xs ys sto2 = true ∧ Out K w.xc E ρ2 H2 (Rp K) (qLoop ev all own elt xs ys sl ys sto2) Q
theorem quant_read {K : PySem.W.Frag} {src : Slots → Sto → Rs (List AV)} {ev : IE → Slots → Sto → Rs AV} {all : Bool} {own : Nat} {elt : IE} {σ : L2.St} {H : Hp} {Q : V → Hp → Prop}
    (h : tI w K E (fun σ s => (src σ s).bd fun xs s => (opt (walk .seq xs s) s).bd fun ys s => qLoop ev all own elt xs ys σ ys s) σ H Q) : tW w K E .seq src σ H (RW2 w K E ev all own elt σ Q) := by
  obtain ⟨ρ, sl, s, st, sr, o⟩ := h
  refine ⟨ρ, sl, s, st, sr, ?_⟩
  have e0 : ((src sl s).bd fun xs s => (opt (walk .seq xs s) s).bd fun ys s => qLoop ev all own elt xs ys sl ys s) = (wkE .seq src sl s).bd fun a s => qLoop ev all own elt a.1 a.2 sl a.2 s := by
    unfold wkE
    rw [Rs.assoc]
    congr 1
    funext xs s1
    rw [Rs.assoc] <;> rfl
  have o0 : Out K w.xc E ρ H (Rp K) ((wkE .seq src sl s).bd fun a s => qLoop ev all own elt a.1 a.2 sl a.2 s) Q := by
    rw [← e0]
    exact o
  refine Out.bd o0 ?_
  rintro ⟨xs, ys⟩ s1 ρ1 H1 J hwk g1 st1 hJ o1
  exact ⟨ρ1, sl, s1, xs, ys, st1, sr.go g1, hJ, stands_wk hwk, o1⟩

theorem gen_arg (S : SnE w T k n) (G : Gd w T k 0 E X) {el src : Expr} {z : Str} {px gpos : Pos} {scope : Scope} {all : Bool} {i : Nat} {elt it : IE} {pins : List (Addr × Obj)} {σ : L2.St} {H : Hp} {s : Shared} {Q : V → Hp → Prop} {Q' : Value → Shared → Prop}
    (hnl : LAM ∉ w.N) (hz : X.N[i]? = some z) (hgen : genC X.N X.env.scope scope z = true) (hl : isListE src = false) (hsrc : mt w.N w.fn w.cn n X.env.scope it src = true) (hel : mt w.N w.fn w.cn n scope elt el = true)
    (I : Inv X pins σ H s) (h : tI w X.K E (fun σ s => (evs (ev T w 0 n) [it] σ s).bd fun xs s => (opt (walk .seq xs s) s).bd fun ys s => qLoop (ev T w 1 n) all i elt xs ys σ ys s) σ H Q)
    (hQ : ∀ a s', Rdy X pins σ Q all X.A.in1.in1 a s' → Q' (.ref a) s') : wpAny (model X.prog X.w) X.A (eval (.GeneratorExp el [⟨.Name z px, src, [], 0⟩] scope gpos) X.env) Q' X.xe s := by
  have D := genD_of hgen
  obtain ⟨c, P, hcode, TB, hP⟩ := G.cd rfl hnl
  have hwt : mt.mtW w.N w.fn w.cn n X.env.scope .seq [it] src = true := by
    unfold mt.mtW mtW'
    show (mt w.N w.fn w.cn n X.env.scope it src && true) = true
    rw [hsrc] <;> rfl
  have hsf : ∀ x, genFold src X.env x = pure x := fun x => by
    have q := fold_plain (env := X.env) hwt x
    cases src <;> first | exact q | (cases hl; done)
  have hroom : X.A.depth < recursionLimit := by
    have := G.rg.rm.d; have := G.rg.rm.le
    omega
  refine wpAny_GeneratorExp_make D.co (closure_ok (D.caps I)) D.cell D.dot D.kind hroom ?_ hsf
  refine thn ((pi_walk S G (tg := .Name z px) hwt).run pins s σ H _ I (quant_read h)) fun xv s1 h1 => thn h1 fun itv s2 h2 => ?_
  obtain ⟨ia, fp, tn, Jt, H2, rfl, I2, hT, tn2, f2, ρ2, sl, sto2, xs, ys, st2, sr2, wk2, hst2, o2⟩ := h2
  refine ⟨I2.nolimit, ?_⟩
  obtain ⟨ps, hHP, ht⟩ := st2.tb.l P hP
  have hPs : s2.heap.get? P = some { cls := .none, data := .fields ps } := I2.hok P _ hHP
  have hf : ∀ b ∈ fp, FpOk X pins H2 b ∧ b < s2.heap.objs.size := fun b hb => by
    obtain ⟨o, e, _⟩ := hT.obj _ _ tn2 b hb
    exact ⟨f2 b hb, Heap.lt_size e⟩
  have cd : PySem.W.CodeHd s2.heap c P := TB.code.keeps fun b u e => I2.bk b u e
  have cont : ∀ (code : Value) (h3 : Heap) (tk : Nat) (ps' : Array Value), Heap.ExtBut P s2.heap h3 → s2.heap.objs.size ≤ h3.objs.size → h3.get? P = some { cls := .none, data := .fields ps' } → (∃ more, ps' = ps ++ more) → TriplesOk ps'.toList →
      wpAny (model X.prog X.w) X.A (builtinsFor X.env.globals X.env.builtins) (fun bi s₄ => ∀ h' : Heap, h'.Ns s₄.heap.objs.size (fun y => if y = (".0" : Str) then some (Value.ref ia) else none) → Heap.SameBut s₄.heap.objs.size (s₄.heap.push { cls := .type "frame", data := .dict #[] }) h' →
        Q' (.ref h'.objs.size) { s₄ with
          gens := s₄.gens.push (.fresh (.compStart (.GeneratorExp el [⟨.Name z px, src, [], 0⟩] scope gpos) 0 (.ref ia) .none (genEnv scope (cloFrom X.env.cells scope.names []) s₄.heap.objs.size code bi X.env))),
          toks := s₄.toks + 1 + 1 + 1,
          heap := h'.push { cls := .type "generator", data := .fields #[.int s₄.gens.size 0, .str "<genexpr>" (s₄.toks + 1), .str (X.env.qual ++ "<genexpr>") (s₄.toks + 1 + 1)] } }) X.xe { s2 with heap := h3, toks := tk } := by
    intro code h3 tk ps' hx hsz hP3 hmore ht3
    obtain ⟨more, em⟩ := hmore
    subst em
    obtain ⟨bm, ob, e1, e2, e3, e4, e5, e6, e7, e8⟩ := TB.bm
    have keep3 : ∀ b u, b ≠ P → s2.heap.get? b = some u → h3.get? b = some u := fun b u hb e => hx b u hb e
    refine wpAny_builtinsFor (m := X.mg) (by rw [I2.ok.glob]; exact (I2.mod.glob.keeps I2.bk).extBut hx TB.gP) e1 e2 (keep3 _ _ e4 (I2.bk _ _ e5)) e6 e7 e8 ?_
    intro h' hns hsb
    have hs' : h'.objs.size = h3.objs.size + 1 := by rw [hsb.1, Heap.size_push]
    have keep' : ∀ b o, h3.get? b = some o → h'.get? b = some o := fun b o e => hsb.extBut b o (Nat.ne_of_lt (Heap.lt_size e)) (Heap.get?_push_of_some _ e)
    have J := GxR.inv_tab (more := more) (h' := h3) (g' := s2.gens.push (.fresh (.compStart (.GeneratorExp el [⟨.Name z px, src, [], 0⟩] scope gpos) 0 (.ref ia) .none (gEnv X scope h3.objs.size code)))) (d' := s2.drawn) (t' := tk + 1 + 1 + 1) I2 hHP keep3 hP3 (I2.bare.push rfl)
    have u : Un (frs X.stack) fp H2 (upd H2 P (.tbl (ps ++ more))) s2.heap h3 := un_tbl hHP keep3 ⟨_, hP3⟩
    have r1 : Rg k 1 (X.A.in1.in1.over (.compLoop (.GeneratorExp el [⟨.Name z px, src, [], 0⟩] scope gpos) 0 (.ref ia) .none (gEnv X scope h3.objs.size code)) []) := G.rg.gen
    have hfr : (X.A.in1.in1.over (.compLoop (.GeneratorExp el [⟨.Name z px, src, [], 0⟩] scope gpos) 0 (.ref ia) .none (gEnv X scope h3.objs.size code)) []).frames = some (gEnv X scope h3.objs.size code :: X.stack) := by
      rw [over_comp]
      show pushEnvs [gEnv X scope h3.objs.size code] X.A.frames = _
      rw [I2.ok.frames] <;> rfl
    have IX := gcx_start (h5 := h'.push { cls := .type "generator", data := .fields #[.int s2.gens.size 0, .str "<genexpr>" (tk + 1), .str (X.env.qual ++ "<genexpr>") (tk + 1 + 1)] }) (a := h'.objs.size) (it := .ref ia) D I2 hf hsz r1.rm.h hfr hz G.nd J u
      (fun b o e => Heap.get?_push_of_some _ (keep' b o e)) rfl (hns.push _) (Heap.get?_push_size _ rfl) (by rw [hs']; exact Nat.lt_succ_self _) (fun v e => by cases e)
    have gT : Go ρ2 H2 ρ2 (upd H2 P (.tbl (ps ++ more))) := Go.tbl hHP
    have hfpX : ∀ (H : Hp), (∀ b ∈ fp, H b = none) → ∀ b ∈ fp, FpOk (gcx X (X.A.in1.in1.over (.compLoop (.GeneratorExp el [⟨.Name z px, src, [], 0⟩] scope gpos) 0 (.ref ia) .none (gEnv X scope h3.objs.size code)) []) (gEnv X scope h3.objs.size code :: X.stack) (gEnv X scope h3.objs.size code) s2 H2 fp)
        [(h'.objs.size, { cls := .type "generator", data := .fields #[.int s2.gens.size 0, .str "<genexpr>" (tk + 1), .str (X.env.qual ++ "<genexpr>") (tk + 1 + 1)] })] H b := fun H hn b hb => by
      refine ⟨hn b hb, (IX.ok.exf b hb).1, IX.ok.exfs b hb, Or.inl hb, (IX.ok.exf b hb).2, fun p hp => ?_⟩
      have hp' : p = _ := List.mem_singleton.mp hp
      subst hp'
      intro e
      have l1 := (hf b hb).2
      rw [← e] at l1
      have l2 : h'.objs.size < s2.heap.objs.size := l1
      omega
    refine hQ _ _ ⟨X.K, w.xc, E, (gcx X (X.A.in1.in1.over (.compLoop (.GeneratorExp el [⟨.Name z px, src, [], 0⟩] scope gpos) 0 (.ref ia) .none (gEnv X scope h3.objs.size code)) []) (gEnv X scope h3.objs.size code :: X.stack) (gEnv X scope h3.objs.size code) s2 H2 fp), _, ev T w 1 n, i, elt, xs, ys, sl, Jt, fp, tn, s2.gens.size, rfl, rfl, fun σ1 H1 s1 I1 => ?_, fun b s' hge => ?_, ?_, ⟨ρ2, _, sto2, σ.set i none, sl.set i none, IX, st2.tbl hP hHP ht3, (sr2.go gT).unset i (notC_of G.cw hz D.db), fun d => by rw [List.set_set], by rw [List.length_set], hst2, wk2.up gT, ?_, ?_, ?_⟩, .fresh (.compStart (.GeneratorExp el [⟨.Name z px, src, [], 0⟩] scope gpos) 0 (.ref ia) .none (gEnv X scope h3.objs.size code)), ?_, ?_⟩
    · obtain ⟨p1, _⟩ := I1.pin (h'.objs.size, { cls := .type "generator", data := .fields #[.int s2.gens.size 0, .str "<genexpr>" (tk + 1), .str (X.env.qual ++ "<genexpr>") (tk + 1 + 1)] }) (List.mem_singleton.mpr rfl)
      exact ⟨_, _, _, p1, rfl, rfl, rfl⟩
    · obtain ⟨σ1, H1, I1, q1⟩ := hge
      exact ⟨H1, gcx_back I2 hf I1, q1⟩
    · show s2.gens.size < (s2.gens.push _).size
      rw [Array.size_push]
      exact Nat.lt_succ_self _
    · refine hT.keep 0 s2.heap _ tn2 fun b hb o e => Heap.get?_push_of_some _ (keep' b o (keep3 b o (fun e2 => ?_) e))
      have q := (f2 b hb).1
      rw [e2, hHP] at q
      cases q
    · intro b hb
      have q := (f2 b hb).1
      rw [upd_ne (fun e2 => by rw [e2, hHP] at q; cases q)]
      exact q
    · rw [List.drop_zero]
      exact Out.up o2 gT
    · exact Array.getElem?_push_size ..
    · refine gen_start (scope := scope) (pos := gpos) (w := w) hT rfl rfl rfl D.co (fun e s hx => hx) hfpX rfl (S 1 E0 _ (G.gen hnl r1) elt el hel) ?_
      refine pg_ok (X := gcx X _ _ _ _ _ _) G.nd rfl G.cw (osc := scope) (fun x hx => absurd rfl (D.cell _ (PySem.mem_of_lookup hx))) (.nm i) (.Name z px) ?_
      show (decide (X.N[i]? = some z) && decide (scope.names.lookup z = scope.names.lookup z) && (decide (scope.names.lookup z = some .local) || decide (scope.names.lookup z = some .cell)) && !dunder z) = true
      rw [D.own, hz, D.db]
      simp
  cases hcf : codeAmong gpos ps.toList with
  | none =>
    refine wpAny_genexprCodeX hcode (cd.code hPs ht) (cd.tab hPs) hcf fun c' h' tk hx hge hlt hco' _ htab' _ => ?_
    obtain ⟨o1, vs, f1, tf, fl, tg, inF, tx, tt, op, _, _, _, _, _, _, _, _, _, htr, _⟩ := hco'
    exact cont _ h' tk _ hx (Nat.le_trans hge (Nat.le_of_lt hlt)) htab'.2 ⟨_, rfl⟩ htr
  | some cv =>
    refine wpAny_genexprCode_hit hcode (cd.code hPs ht) hcf ?_
    exact cont cv s2.heap s2.toks ps (Heap.ExtBut.refl _ _) (Nat.le_refl _) hPs ⟨#[], by simp⟩ ht
end
end Jp
namespace Jp
open PySem PySem.Spec PyProof.Rows L2
variable [Tb] [Cb]
section
variable {w : Wd} {T : Nat → Nat → List AV → Sto → Rs AV} {k g n : Nat} {E : XK} {X : Cx}
theorem qu_ok (S : SnE w T k n) : ∀ (g : Nat) (E : XK) (X : Cx), Gd w T k g E X → ∀ al i elt it x p1 xs p2, mt w.N w.fn w.cn (n + 1) X.env.scope (.quant al i elt it) (.Call (.Name x p1) xs [] p2) = true →
    PE X (.Call (.Name x p1) xs [] p2) (tI w X.K E (ev T w g (n + 1) (.quant al i elt it))) := by
  intro g E X G al i elt it x p1 xs p2 h
  by_cases hg : g = 0
  · subst hg
    unfold mt at h
    dsimp only at h
    split at h
    · rename_i el z px src scope gpos
      obtain ⟨h2, h9⟩ := b2 h
      obtain ⟨h2, h8⟩ := b2 h2
      obtain ⟨h2, h7⟩ := b2 h2
      obtain ⟨h2, hl0⟩ := b2 h2
      obtain ⟨h2, h6⟩ := b2 h2
      obtain ⟨h2, h5⟩ := b2 h2
      obtain ⟨h3, h4⟩ := b2 h2
      have hnl : LAM ∉ w.N := by simpa using hl0
      obtain ⟨v1, v2, v3⟩ := gl_of h4
      have hroom : X.A.depth < recursionLimit := by
        have := G.rg.rm.d; have := G.rg.rm.le
        omega
      refine ⟨fun pins s σ H Q I hq => ?_⟩
      have hq2 : tI w X.K E (fun σ s => (evs (ev T w 0 n) [it] σ s).bd fun xs s => (opt (walk .seq xs s) s).bd fun ys s => qLoop (ev T w 1 n) al i elt xs ys σ ys s) σ H Q := hq
      cases al with
      | true =>
        have e : x = "all" := of_decide_eq_true h3
        subst e
        refine wpAny_Call_Name_kw (ld_blt I v1 (G.bi _ (by decide)) (by rfl) ?_)
        refine PyProof.Rows.callWith_builtin1 ?_ (by rfl) (by rfl)
        show wpAny _ _ (spliced ((false, eval (.GeneratorExp el [⟨.Name z px, src, [], 0⟩] scope gpos) X.env) :: backTo p2 (starEach [] X.env))) _ _ s
        refine Calls.spliced_cons (gen_arg S G hnl (by rw [G.N]; exact of_decide_eq_true h5) (by rw [G.N]; exact h6) (by simpa using h7) h8 h9 I hq2 fun a s5 hr => ?_)
        exact Calls.spliced_nil (call_all G.rg.rm.h hroom hr)
      | false =>
        have e : x = "any" := of_decide_eq_true h3
        subst e
        refine wpAny_Call_Name_kw (ld_blt I v1 (G.bi _ (by decide)) (by rfl) ?_)
        refine PyProof.Rows.callWith_builtin1 ?_ (by rfl) (by rfl)
        show wpAny _ _ (spliced ((false, eval (.GeneratorExp el [⟨.Name z px, src, [], 0⟩] scope gpos) X.env) :: backTo p2 (starEach [] X.env))) _ _ s
        refine Calls.spliced_cons (gen_arg S G hnl (by rw [G.N]; exact of_decide_eq_true h5) (by rw [G.N]; exact h6) (by simpa using h7) h8 h9 I hq2 fun a s5 hr => ?_)
        exact Calls.spliced_nil (call_any G.rg.rm.h hroom hr)
    · cases h
  · refine PE.no fun σ s => ?_
    simp only [ev, evI]
    rw [if_neg hg]
end
end Jp


set_option Elab.async false
set_option linter.all false
set_option maxRecDepth 100000
set_option maxHeartbeats 8000000
namespace Jp
open PySem PySem.Spec PyProof.Rows L2
variable [Tb]
/-! ### a lambda is made -/
section
variable {X : Cx} {pins : List (Addr × Obj)} {σ : L2.St} {H : Hp} {s : Shared}
theorem not_frame (I : Inv X pins σ H s) {f : Addr} (h : s.heap.objs.size ≤ f) : f ∉ frs X.stack := fun z => by
  rcases List.mem_cons.mp (I.stkSub f z) with e | e
  · have q := I.lt
    rw [← e] at q
    exact absurd q (Nat.not_lt.mpr h)
  · exact I.nofs h e
/-- the heap behind it: a code object more, or none -/
def LamMk (H : Hp) (P : Addr) (q : Str) (c' : Addr) (H1 : Hp) : Prop := H1 c' = some (LamX.CodeO c' q) ∧ (H1 = H ∨ (H c' = none ∧ ∃ ps ps', H P = some (.tbl ps) ∧ H1 = upd (upd H P (.tbl ps')) c' (LamX.CodeO c' q) ∧ TriplesOk ps'.toList ∧
  ∀ (pos : Pos) (cv : Value), codeAmong pos ps'.toList = some cv → ∃ c, cv = .ref c ∧ (c = c' ∨ H c = some (LamX.CodeO c q))))
theorem lam_mk {c P : Addr} {params : Arguments} {body : Expr} {scope : Scope} {pos : Pos} {E : Value → Shared → Prop} {Q : Value → Shared → Prop} (I : Inv X pins σ H s) (TB : LamX.TabB X.base X.mg c P) (hcode : X.env.code = .ref c)
    (hT : LamX.TabS H P (X.env.qual ++ LAM)) (hdef : defaultsOf params X.env = ([], [])) (hfree : ∀ y ∈ scope.names, y.2 = .free → ∃ c, X.env.cells.lookup y.1 = some c)
    (h : ∀ (f c' : Addr) (pm ctv : Value) (H1 : Hp) (s' : Shared), Inv X pins σ H1 s' → LamMk H P (X.env.qual ++ LAM) c' H1 →
      s'.heap.get? f = some (PySem.W.kla_obj LAM (X.env.qual ++ LAM) params body scope (cloFrom X.env.cells scope.names []) pm c' ctv) → H1 f = none → f ∉ frs X.stack → Q (.ref f) s') :
    wpAny (model X.prog X.w) X.A (eval (.Lambda params body scope pos) X.env) Q E s := by
  obtain ⟨ps, tP, tOk, tC⟩ := hT
  have bI : s.heap.BuiltinsAt X.mg P := TB.bm.keeps I.bk
  have gP : s.heap.get? P = some { cls := .none, data := .fields ps } := I.hok P _ tP
  refine PySem.W.kla_eval hdef ?_
  cases hc : codeAmong pos ps.toList with
  | some cv =>
    obtain ⟨c', rfl, co⟩ := tC pos cv hc
    refine PySem.W.kla_makeFunctionHit (mg := X.mg) (c := c) (P := P) (ps := ps) (closure_ok hfree) I.ok.glob (I.mod.glob.keeps I.bk) hcode (TB.code.keeps I.bk) gP tOk hc bI ?_
    intro ctv h' tk keep hsz
    have J : Inv X pins σ H { s with heap := h'.push (PySem.W.kla_obj LAM (X.env.qual ++ LAM) params body scope (cloFrom X.env.cells scope.names []) ((X.mg "__name__").getD .none) c' ctv), toks := tk } := I.kept fun b o e => Heap.get?_push_of_some _ (keep b o e)
    exact h h'.objs.size c' _ ctv H _ J ⟨co, Or.inl rfl⟩ (Heap.get?_push_size _ rfl) (I.hok.fresh hsz) (not_frame I hsz)
  | none =>
    refine PySem.W.kla_makeFunction (mg := X.mg) (c := c) (P := P) (ps := ps) (closure_ok hfree) I.ok.glob (I.mod.glob.keeps I.bk) hcode (TB.code.keeps I.bk) gP tOk hc TB.gP bI ?_
    rintro c' ctv h' tk keep hge hlt ⟨c2, oc, vs, t, e2, hoc, hd, hv⟩ htb
    cases e2
    have hsz : s.heap.objs.size ≤ h'.objs.size := Nat.le_of_lt (Nat.lt_of_le_of_lt hge hlt)
    have nC : H c' = none := I.hok.fresh hge
    have J := LamX.inv_table (t' := tk) (more := #[rawInt pos.line, rawInt pos.col, .ref c']) (h' := h'.push (PySem.W.kla_obj LAM (X.env.qual ++ LAM) params body scope (cloFrom X.env.cells scope.names []) ((X.mg "__name__").getD .none) c' ctv)) I tP
      (fun b o hb e => Heap.get?_push_of_some _ (keep b o hb e)) (Heap.get?_push_of_some _ htb) hge ⟨oc, vs, t, Heap.get?_push_of_some _ hoc, hd, hv⟩
    have eL : (ps ++ #[rawInt pos.line, rawInt pos.col, .ref c']).toList = ps.toList ++ [rawInt pos.line, rawInt pos.col, .ref c'] := by simp
    refine h h'.objs.size c' _ ctv _ _ J ⟨upd_same, Or.inr ⟨nC, ps, _, tP, rfl, by rw [eL]; exact PySem.TriplesOk_snoc _ _ _ _ tOk, fun p' cv hcv => ?_⟩⟩ (Heap.get?_push_size _ rfl) ?_ (not_frame I hsz)
    · rw [eL] at hcv
      rcases LamX.among_app _ tOk hcv with z | z
      · obtain ⟨c0, e1, e2⟩ := tC p' cv z
        exact ⟨c0, e1, Or.inr e2⟩
      · exact ⟨c', z, Or.inl rfl⟩
    · have n1 : h'.objs.size ≠ c' := Nat.ne_of_gt hlt
      have n2 : h'.objs.size ≠ P := Nat.ne_of_gt (Nat.lt_of_lt_of_le (Heap.lt_size gP) hsz)
      rw [upd_ne n1, upd_ne n2]
      exact I.hok.fresh hsz
end
section
variable [Cb] {K : PySem.W.Frag} {ρ : List Addr} {H H1 : Hp} {sto : Sto} {P c' : Addr} {q : Str}
theorem LamMk.keep (m : LamMk H P q c' H1) (tP : ∃ ps, H P = some (.tbl ps)) : ∀ a u, H a = some u → (∀ ps, u ≠ .tbl ps) → H1 a = some u := fun a u e nt => by
  rcases m.2 with rfl | ⟨n, ps, ps', hP, rfl, _, _⟩
  · exact e
  · rw [upd_ne (ne_of_none e n), upd_ne (fun z => nt ps (by rw [z, hP] at e; exact (Option.some.inj e).symm))]
    exact e
theorem LamMk.go (m : LamMk H P q c' H1) (st : StR K ρ H sto) (hP : (P, q) ∈ Tb.lm) : Go ρ H ρ H1 ∧ StR K ρ H1 sto := by
  have tP : ∃ ps, H P = some (.tbl ps) := by
    obtain ⟨ps, e, _⟩ := st.tb.m _ hP
    exact ⟨ps, e⟩
  have kp := m.keep tP
  have gr : Gr H H1 := ⟨fun a xs e => kp a _ e (fun ps z => by cases z), fun a o u e => kp a _ e (fun ps z => by cases z)⟩
  refine ⟨⟨Le.refl _, gr, fun a o e na nt => ⟨kp a o e nt, na⟩⟩, st.gr gr (fun a u e nt => kp a u e nt) ?_⟩
  rcases m.2 with rfl | ⟨n, ps, ps', hPt, rfl, t1, t2⟩
  · exact st.tb
  · refine ⟨fun Q hQ => ?_, fun p hp => ?_⟩
    · obtain ⟨ps2, e, t⟩ := st.tb.l Q hQ
      exact ⟨ps2, by rw [upd_ne (ne_of_none e n), upd_ne (fun z => Tb.dj _ hP (by show P ∈ Tb.l; rw [← z]; exact hQ))]; exact e, t⟩
    · by_cases hb : p.1 = P
      · have eq : p.2 = q := Tb.un p hp (P, q) hP hb
        refine ⟨ps', by rw [hb, upd_ne (ne_of_none hPt n), upd_same], t1, fun pos cv hcv => ?_⟩
        obtain ⟨c0, e1, e2⟩ := t2 pos cv hcv
        refine ⟨c0, e1, ?_⟩
        rw [eq]
        rcases e2 with rfl | e2
        · exact upd_same
        · rw [upd_ne (ne_of_none e2 n), upd_ne (fun z => by rw [z, hPt] at e2; cases e2)]
          exact e2
      · obtain ⟨ps2, e, t, c⟩ := st.tb.m p hp
        refine ⟨ps2, by rw [upd_ne (ne_of_none e n), upd_ne hb]; exact e, t, fun pos cv hcv => ?_⟩
        obtain ⟨c0, e1, e2⟩ := c pos cv hcv
        refine ⟨c0, e1, ?_⟩
        rw [upd_ne (ne_of_none e2 n), upd_ne (fun z => by rw [z, hPt] at e2; cases e2)]
        exact e2
end
/-! ### a function is handed to a def -/
section
variable [Cb]
variable {w : Wd} {T : Nat → Nat → List AV → Sto → Rs AV} {k g n : Nat} {E : XK} {X : Cx}
/-- the captured names' values -/
theorem caps_read {σ : L2.St} {ρ : List Addr} {H : Hp} {sl : Slots} {t : Sto} (hN : X.N = w.N) (sr : SlR X.K ρ H σ sl) : ∀ (caps : List IE) (fr : List Str), capsB w.N X.env.scope caps fr = true →
    evs (ev T w g n) caps sl t = .bad ∨ ∃ cs, evs (ev T w g n) caps sl t = .ok cs t ∧ ∃ (js : List Nat) (vsc : List V), js.map (fun j => X.N[j]?) = fr.map some ∧ js.map (NdefX.slotAt σ) = vsc.map some ∧ RpL X.K ρ H vsc cs := by
  intro caps
  induction caps with
  | nil =>
    intro fr h
    cases fr with
    | nil => exact Or.inr ⟨[], rfl, [], [], rfl, rfl, .nil⟩
    | cons _ _ => cases h
  | cons c caps ih =>
    intro fr h
    cases fr with
    | nil => cases h
    | cons y fr =>
      obtain ⟨h1, h2⟩ := b2 (show ((match (generalizing := false) c with
        | .slot i => decide (w.N[i]? = some y) && (decide (X.env.scope.names.lookup y = some .cell) || decide (X.env.scope.names.lookup y = some .free)) && !dunder y
        | _ => false) && capsB w.N X.env.scope caps fr) = true from h)
      cases c <;> first | (cases h1; done) | skip
      rename_i i
      obtain ⟨h3, _⟩ := b2 h1
      obtain ⟨h4, _⟩ := b2 h3
      cases n with
      | zero => exact Or.inl rfl
      | succ m =>
        have e' : evs (ev T w g (m + 1)) (.slot i :: caps) sl t = ((match sl[i]? with
          | some (some d) => Rs.ok d t
          | _ => .bad).bd fun x s => (evs (ev T w g (m + 1)) caps sl s).bd fun xs s => .ok (x :: xs) s) := rfl
        rw [e']
        cases ei : sl[i]? with
        | none => exact Or.inl rfl
        | some od =>
          cases od with
          | none => exact Or.inl rfl
          | some d =>
            show ((evs (ev T w g (m + 1)) caps sl t).bd fun xs s => Rs.ok (d :: xs) s) = .bad ∨ ∃ cs, ((evs (ev T w g (m + 1)) caps sl t).bd fun xs s => Rs.ok (d :: xs) s) = .ok cs t ∧ _
            rcases ih fr h2 with er | ⟨ds, er, js, vsc, q1, q2, q3⟩
            · rw [er]
              exact Or.inl rfl
            · rw [er]
              obtain ⟨v, hv, rv⟩ := sr.get i d ei
              exact Or.inr ⟨d :: ds, rfl, i :: js, v :: vsc, by rw [List.map_cons, List.map_cons, q1, hN, of_decide_eq_true h4], by rw [List.map_cons, List.map_cons, q2, NdefX.slotAt_of hv], .cons rv q3⟩
theorem call_hof (G : Gd w T k g E X) {a : Addr} {q : Nat} {L : Lam} {F : List AV → Sto → Rs AV} {pins : List (Addr × Obj)} {σ : L2.St} {H : Hp} {s : Shared} {Q : VK} {u : Value} {v : V} {vsc : List V} {p : Addr} (hna : L.na = 1)
    (FH : FnH X.prog X.w X.K X.mg X.base w.xc w.fn w.cn.lt k (4 * g) a q L F) (I : Inv X pins σ H s) (ru : RelV v u) (hp : HoP X.K X.mg w.fn w.cn.lt X.stack s H q L p vsc) (sp : spI X.K w.xc F ([v] ++ vsc) H Q E) :
    wpAny (model X.prog X.w) X.A (call (.ref a) [u, .ref p]) (EP X pins σ Q) X.xe s := by
  refine wpAny_call (codeAny_mono (FH.run X.A X.stack s H [u] [v] vsc p Q E G.rg.rm I.env0 (.cons ru .nil) hna.symm hp sp) ?_)
  intro r s' hq
  match r, hq with
  | .error e, hq => exact G.ps pins σ H s e s' I hq
  | .ok (.ret u), hq => exact I.after hq
theorem ch_ok (S : SnE w T k n) : ∀ (g : Nat) (E : XK) (X : Cx), Gd w T k g E X → ∀ q es caps x p1 xs p2, mt w.N w.fn w.cn (n + 1) X.env.scope (.callh q es caps) (.Call (.Name x p1) xs [] p2) = true →
    PE X (.Call (.Name x p1) xs [] p2) (tI w X.K E (ev T w g (n + 1) (.callh q es caps))) := by
  intro g E X G q es caps x p1 xs p2 h
  unfold mt at h
  dsimp only at h
  split at h
  · rename_i L y hx a hL
    obtain ⟨h, hk⟩ := b2 h
    obtain ⟨h, hy⟩ := b2 h
    obtain ⟨h, hna⟩ := b2 h
    obtain ⟨hf, hgl⟩ := b2 h
    have hna := of_decide_eq_true hna
    obtain ⟨v1, v2, v3⟩ := gl_of hgl
    obtain ⟨fa, m1, m2, FH⟩ := G.hf (4 * g) q L x hL (of_decide_eq_true hf) (ne_of_gl hgl)
    constructor
    rintro pins s σ H Q I ⟨ρ, sl, s0, st, sr, o⟩
    have o1 : Out X.K w.xc E ρ H (Rp X.K) ((ev T w g n a sl s0).bd fun d s => (evs (ev T w g n) caps sl s).bd fun cs s => callF (T (4 * g) (HOF + q)) ([d] ++ cs) s) Q := by
      have e0 : ev T w g (n + 1) (.callh q [a] caps) sl s0 = ((ev T w g n a sl s0).bd fun d s => (evs (ev T w g n) caps sl s).bd fun cs s => callF (T (4 * g) (HOF + q)) ([d] ++ cs) s) := by
        show ((evs (ev T w g n) [a] sl s0).bd _) = _
        rw [evs, Rs.assoc]
        congr 1
      rw [← e0]
      exact o
    refine wpAny_Call_Name_kw (ld_glob I v1 m1 ?_ v2)
    have sy : starEach [y, hx] X.env = (false, eval y X.env) :: starEach [hx] X.env := star_plain hy
    have shx : starEach [hx] X.env = [(false, eval hx X.env)] := by
      split at hk
      · cases hx <;> first | rfl | cases hk
      · cases hx <;> first | rfl | cases hk
    refine PySem.W.callWith_K (h₀ := X.base) I.ok.mod.kin m2 ?_ sy (by rw [shx]; rfl)
    rw [sy, shx]
    show wpAny _ _ (spliced [(false, eval y X.env), (false, eval hx X.env)]) _ _ s
    refine Calls.spliced_cons (thn ((S g E X G a y hy).run pins s σ H (fun v H1 => ∃ ρ1 t1 d, StR X.K ρ1 H1 t1 ∧ SlR X.K ρ1 H1 σ sl ∧ Rp X.K ρ1 H1 v d ∧ Out X.K w.xc E ρ1 H1 (Rp X.K) ((evs (ev T w g n) caps sl t1).bd fun cs s => callF (T (4 * g) (HOF + q)) ([d] ++ cs) s) Q) I
      ⟨ρ, sl, s0, st, sr, Out.bd o1 fun d t1 ρ1 H1 v _ g1 st1 r1 o2 => ⟨ρ1, t1, d, st1, sr.go g1, r1, o2⟩⟩) ?_)
    rintro u s1 ⟨v, H1, I1, ru, ρ1, t1, d, st1, sr1, rd, o2⟩
    split at hk
    · rename_i j hkd
      cases hx <;> first | (cases hk; done) | skip
      rename_i z pz
      obtain ⟨hk, k4⟩ := b2 hk
      obtain ⟨hk, k3⟩ := b2 hk
      obtain ⟨k1, k2⟩ := b2 hk
      have ec := List.isEmpty_iff.mp k1
      subst ec
      obtain ⟨w1, w2, w3⟩ := gl_of k4
      obtain ⟨b, fd, ps, n1, n2, n3, _⟩ := G.fn (4 * g) j z (of_decide_eq_true k3) (ne_of_gl k4)
      have o3 : Out X.K w.xc E ρ1 H1 (Rp X.K) (callF (T (4 * g) (HOF + q)) ([d] ++ []) t1) Q := o2
      refine Calls.spliced_cons (ld_glob I1 w1 n1 ?_ w2)
      refine Calls.spliced_nil ⟨I1.kIn, ?_⟩
      refine call_hof G hna FH I1 ru (vsc := []) ?_ (callF_ok st1 (.cons rd .nil) o3)
      unfold HoP
      rw [hkd]
      exact ⟨rfl, z, of_decide_eq_true k3, ne_of_gl k4, n1⟩
    · rename_i pars ps fr body hkd
      split at hk
      · rename_i a1 a2 el scope pl
        obtain ⟨hk, k8⟩ := b2 hk
        obtain ⟨hk, k7⟩ := b2 hk
        obtain ⟨hk, k6⟩ := b2 hk
        obtain ⟨hk, k5⟩ := b2 hk
        obtain ⟨hk, k4⟩ := b2 hk
        obtain ⟨hk, k3⟩ := b2 hk
        obtain ⟨k1, k2⟩ := b2 hk
        obtain ⟨c, P, hcode, TB, hPm⟩ := G.ld (of_decide_eq_true k7)
        have hfr : ∀ y ∈ scope.names, y.2 = .free → X.env.scope.names.lookup y.1 = some .cell ∨ X.env.scope.names.lookup y.1 = some .free := NdefX.ndef_free k5
        have hfree : ∀ y ∈ scope.names, y.2 = .free → ∃ c, X.env.cells.lookup y.1 = some c := fun y hy e => (hfr y hy e).elim (fun z => I1.ok.has _ (.inl z)) fun z => I1.ok.has _ (.inr z)
        refine Calls.spliced_cons (lam_mk I1 TB hcode (st1.tb.m _ hPm) rfl hfree ?_)
        intro f c' pm ctv H2 s2 I2 mk hfo hfn hff
        refine Calls.spliced_nil ⟨I2.kIn, ?_⟩
        obtain ⟨g2, st2⟩ := mk.go st1 hPm
        have sr2 := sr1.go g2
        rcases caps_read (T := T) (g := g) (n := n) (t := t1) G.N sr2 caps fr k6 with ecs | ⟨cs, ecs, js, vsc, q1, q2, q3⟩
        · rw [ecs] at o2
          exact o2.elim
        · rw [ecs] at o2
          have o3 : Out X.K w.xc E ρ1 H1 (Rp X.K) (callF (T (4 * g) (HOF + q)) ([d] ++ cs) t1) Q := o2
          have cp := NdefX.Caps.made (fr := fr) (js := js) (scope := scope) I2.ok hfr (NdefX.ndef_fr k5) q1
          refine call_hof G hna FH I2 ru (vsc := vsc) ?_ (callF_ok st2 (.cons (rd.go g2) q3) (Out.up o3 g2))
          unfold HoP
          rw [hkd]
          refine ⟨a1, a2, el, scope, cloFrom X.env.cells scope.names [], pm, ctv, c', X.env.qual ++ LAM, of_decide_eq_true k2, of_decide_eq_true k1, k8, k4, hfo, hfn, hff, mk.1, ?_⟩
          have := NdefX.cells_of I2 cp
          rw [q2] at this
          exact this
      · cases hk
  · cases h
end
end Jp


set_option Elab.async false
set_option linter.all false
set_option maxRecDepth 100000
set_option maxHeartbeats 4000000
namespace Jp
open PySem PySem.Spec PyProof.Rows L2
variable [Tb]
section
variable [Cb]
variable {w : Wd} {T : Nat → Nat → List AV → Sto → Rs AV} {k n : Nat}
def SsE (w : Wd) (T : Nat → Nat → List AV → Sto → Rs AV) (k n : Nat) : Prop := ∀ (g : Nat) (E : XK) (X : Cx), Gd w T k g E X → ∀ a x p1 xs p2, mt w.N w.fn w.cn (n + 1) X.env.scope (.bi .sortedSet [a]) (.Call (.Name x p1) xs [] p2) = true →
    PE X (.Call (.Name x p1) xs [] p2) (tI w X.K E (ev T w g (n + 1) (.bi .sortedSet [a])))
theorem all_n (hss : ∀ n, SnE w T k n → SsE w T k n) : ∀ n, SnE w T k n ∧ TnE w T k n ∧ SnS w T k n ∧ ∀ m, n = m + 1 → SnE w T k m ∧ TnE w T k m := by
  intro n
  induction n with
  | zero =>
    refine ⟨fun g E X G ir e h => ?_, fun g E X G ir e h => ?_, fun E X GS hb st e h => ?_, fun m h => by cases h⟩
    · rw [mt] at h
      cases h
    · rw [mt] at h
      cases h
    · rw [mtS] at h
      cases h
  | succ n ih =>
    obtain ⟨S, Tn, SS, hlc⟩ := ih
    have S1 : SnE w T k (n + 1) := sn_step S Tn ⟨lc_ok S Tn, qu_ok S, hss n S, ch_ok S⟩
    refine ⟨S1, tn_step S1 S Tn, ss_step S Tn SS hlc, fun m h => ?_⟩
    cases h
    exact ⟨S, Tn⟩
end
/-- in a def that was handed no function -/
abbrev C0 : Cb := ⟨none, [], [], []⟩
/-! ### what was made and is held by nobody is let go -/
section
variable [Cb]
variable {K : PySem.W.Frag} {xc : List (Addr × List Str)} {E : XK} {ρ ρ' : List Addr} {H H' : Hp} {n : Nat}
theorem FsR.low : ∀ {gs : List (Str × V)} {fs : List (Str × AV)}, lowL n (fs.map (·.2)) = true → FsR K ρ H gs fs → FsR K (ρ.take n) H gs fs
  | [], [], _, _ => trivial
  | (f, v) :: gs, (g, d) :: fs, l, h => by
    have l2 : (lowA n d && lowL n (fs.map (·.2))) = true := by simpa only [List.map_cons, lowL] using l
    rw [Bool.and_eq_true] at l2
    exact ⟨h.1, Rp.low d v l2.1 h.2.1, FsR.low l2.2 h.2.2⟩
  | [], _ :: _, _, h => h.elim
  | _ :: _, [], _, h => h.elim
theorem letGo_ok {s' : Sto} {d : AV} {v : V} (hn : n = ρ.length) (g : Go ρ H ρ' H') (st : StR K ρ' H' s') (r : Rp K ρ' H' v d) : ∃ ρ2, Go ρ H ρ2 H' ∧ StR K ρ2 H' (letGo n d s') ∧ Rp K ρ2 H' v d := by
  unfold letGo
  split
  · rename_i h
    rw [Bool.and_eq_true] at h
    obtain ⟨h1, h2⟩ := h
    refine ⟨ρ'.take n, ⟨fun j a e => ?_, g.g, fun a o e na nt => ?_⟩, ⟨?_, ?_, st.tb, fun j a o e1 e2 => ?_⟩, Rp.low d v h1 r⟩
    · have hj : j < n := by rw [hn]; exact (List.getElem?_eq_some_iff.mp e).1
      rw [List.getElem?_take_of_lt hj]
      exact g.le j a e
    · obtain ⟨q1, q2⟩ := g.f a o e na nt
      exact ⟨q1, fun z => q2 (List.mem_of_mem_take z)⟩
    · rw [List.length_take, List.length_take, st.len]
    · exact st.nd.sublist (List.take_sublist _ _)
    · have hj : j < n := by
        have := (List.getElem?_eq_some_iff.mp e1).1
        rw [List.length_take] at this
        omega
      have hmem : o ∈ s'.take n := List.mem_of_getElem? e2
      rw [List.getElem?_take_of_lt hj] at e1 e2
      have q := st.ob j a o e1 e2
      have lo := List.all_eq_true.mp h2 o hmem
      cases o with
      | lst ds =>
        obtain ⟨xs, p1, p2⟩ := q
        exact ⟨xs, p1, RpL.low ds xs (by simpa only [lowO] using lo) p2⟩
      | ins c fs =>
        obtain ⟨dx, gs, p1, p2⟩ := q
        exact ⟨dx, gs, p1, p2.low (by simpa only [lowO] using lo)⟩
      | dct kvs =>
        obtain ⟨gs, p1, p2⟩ := q
        exact ⟨gs, p1, p2.low (by simpa only [lowO] using lo)⟩
  · exact ⟨ρ', g, st, r⟩
theorem Out.bd0 {α β γ δ : Type} {R : List Addr → Hp → β → α → Prop} {R2 : List Addr → Hp → δ → γ → Prop} {r : Rs α} {f : α → Sto → Rs γ} {Q : δ → Hp → Prop} {Q' : β → Hp → Prop} (h : Out K xc E ρ H R2 (r.bd f) Q)
    (hk : ∀ a s ρ1 H1 b, r = .ok a s → Go ρ H ρ1 H1 → StR K ρ1 H1 s → R ρ1 H1 b a → Out K xc E ρ H R2 (f a s) Q → Q' b H1) : Out K xc E ρ H R r Q' := by
  cases r with
  | ok a s => exact fun ρ' H' b g st rb => hk a s ρ' H' b rfl g st rb h
  | exc x s => exact h
  | bad => exact h.elim
theorem start_get {N : List Str} {vs ws : List V} {ds : List AV} (r : RpL K ρ H vs ds) (i : Nat) (d : AV) (e : (ds.map some ++ List.replicate (N.length - ds.length) (none : Option AV))[i]? = some (some d)) : ∃ v, (L2.start N (vs ++ ws))[i]? = some (some v) ∧ Rp K ρ H v d := by
  have l := r.len
  unfold L2.start
  by_cases hi : i < ds.length
  · rw [List.getElem?_append_left (by simpa using hi), List.getElem?_map] at e
    cases q : ds[i]? with
    | none => rw [q] at e; cases e
    | some d2 =>
      rw [q] at e
      cases e
      obtain ⟨v, h1, h2⟩ := r.get q
      refine ⟨v, ?_, h2⟩
      rw [List.getElem?_append_left (by simp [l]; omega), List.getElem?_map, List.getElem?_append_left (by rw [l]; exact hi), h1] <;> rfl
  · rw [List.getElem?_append_right (by simpa using hi)] at e
    rw [List.getElem?_replicate] at e
    split at e <;> cases e
end
section
variable {K : PySem.W.Frag} {xc : List (Addr × List Str)} {E : XK} {ρ ρ' : List Addr} {H H' : Hp} {n : Nat}
theorem slr_start {N : List Str} {vs : List V} {ds : List AV} (r : RpL K ρ H vs ds) (hl : ds.length ≤ N.length) : @SlR _ C0 K ρ H (L2.start N vs) (ds.map some ++ List.replicate (N.length - ds.length) none) := by
  letI : Cb := C0
  have l := r.len
  refine @SlR.mk _ C0 K ρ H _ _ ?_ (fun i d e => ?_) (fun i p e => by cases e)
  · unfold L2.start
    simp [l]
  · have q := start_get (ws := []) r i d e
    rw [List.append_nil] at q
    exact q
theorem slr_startC {N : List Str} {vs cv : List V} {ds ca : List AV} {p : Addr} {tr : List (Addr × HO)} (r : RpL K ρ H vs ds) (hl : ds.length + 1 ≤ N.length) (htr : ∀ x ∈ tr, H x.1 = some x.2 ∧ x.1 ∉ ρ ∧ ∀ ps, x.2 ≠ .tbl ps) (rc : RpL K ρ H cv ca) :
    @SlR _ ⟨some (ds.length, p), tr, cv, ca⟩ K ρ H (L2.start N (vs ++ [.ref p])) (ds.map some ++ List.replicate (N.length - ds.length) none) := by
  letI : Cb := ⟨some (ds.length, p), tr, cv, ca⟩
  have l := r.len
  refine @SlR.mk _ ⟨some (ds.length, p), tr, cv, ca⟩ K ρ H _ _ (by unfold L2.start; simp [l]; omega) (fun i d e => start_get r i d e) (fun i q e => ⟨?_, htr, rc⟩)
  have e2 : (ds.length, p) = (i, q) := Option.some.inj e
  cases e2
  unfold L2.start
  rw [List.getElem?_append_left (by simp [l]), List.getElem?_map, List.getElem?_append_right (by omega), l]
  simp
end
/-! ### a def -/
/-- what is known of the program, k calls deep -/
structure Fx (P : Program) (W : World) (K : PySem.W.Frag) (mg : Str → Option Value) (base : Heap) (w : Wd) (T : Nat → Nat → List AV → Sto → Rs AV) (k : Nat) : Prop where
  fn : ∀ (d f : Nat) (x : Str), w.fn[f]? = some x → x ≠ "" → ∃ a fd ps, mg x = some (.ref a) ∧ PySem.W.keepIn K (.ref a) = true ∧ Binds K fd ps [] ∧ FnG P W K mg base k d a fd ps (spI K w.xc (T d f))
  cn : ∀ (i : Nat) (x : Str) (d : AV), w.cn.c[i]? = some x → w.C.c[i]? = some d → ∃ u v, mg x = some u ∧ RelV v u ∧ ∀ ρ H, Rp K ρ H v d
  dn : ∀ (i : Nat) (x : Str) (kvs : List (Str × AV)), w.cn.d[i]? = some x → w.C.d[i]? = some kvs → ∃ p es m, mg x = some (.ref p) ∧ KDict K W p es m ∧ ∀ z : Str, match kvs.lookup z with
    | some d => ∃ u v, PySem.W.nsIn K p z = some (some u) ∧ RelV v u ∧ ∀ ρ H, Rp K ρ H v d
    | none => PySem.W.nsIn K p z = some none
  kl : ∀ (c : Nat) (ci : CI), w.C.k[c]? = some ci → L2.Cls K (Tb.ca c) ∧ (∀ f ∈ ci.fl, NoAttr K (Tb.ca c) f) ∧
    ∀ (m : Str) (f d dd : Nat) (df : List AV), ci.ms.lookup m = some f → w.C.df[f]? = some df → ∃ a fd ps us vs, Meth K (Tb.ca c) m a ∧ Binds K fd ps us ∧ Vals vs us ∧ (∀ ρ H, RpL K ρ H vs (df.drop d)) ∧ FnG P W K mg base k dd a fd ps (spI K w.xc (T dd f))
  ma : ∀ (c : Nat) (x : Str) (ci : CI) (f dd : Nat), w.cn.k[c]? = some x → w.C.k[c]? = some ci → ci.ini = some f → mg x = some (.ref (Tb.ca c)) ∧ ∃ a fd ps, Mk K (Tb.ca c) a ∧ Binds K fd ps [] ∧ FnG P W K mg base k dd a fd ps (spI K w.xc (T dd f))
  bi : ∀ x ∈ bltins, mg x = none
  hf : ∀ (d q : Nat) (L : Lam) (x : Str), w.cn.lm[q]? = some L → w.fn[L.f]? = some x → x ≠ "" → ∃ a, mg x = some (.ref a) ∧ PySem.W.keepIn K (.ref a) = true ∧ FnH P W K mg base w.xc w.fn w.cn.lt k d a q L (T d (HOF + q))
  xa : XAll w K mg
  xc : ∀ (c : Nat) (x : Str) (xi : XI), w.cn.x[c]? = some x → w.C.x[c]? = some xi → xi.fl ≠ [] → ∃ C, w.xc[c]? = some (C, xi.fl) ∧ XcOk K mg P W base k x xi.fl C
theorem clo_bad {C : Gt} {ds : List Df} (h : ds.length ≤ CLO) : ∀ {k : Nat} (xs : List AV) (s : Sto), tab C ds k 0 CLO xs s = .bad
  | 0, _, _ => rfl
  | k + 1, xs, s => by
    simp only [tab]
    rw [List.getElem?_eq_none h] <;> rfl
theorem def_ok {P : Program} {W : World} {K : PySem.W.Frag} {mg : Str → Option Value} {base : Heap} {w : Wd} {ds : List Df} {k fi : Nat} {f : Addr} {x qual : Str} {params : Arguments} {body : List Stmt} {scope : Scope} {dvs : List V} {fd : FuncData} {ps : List Str} {d : Df} {c tP : Addr}
    (F : FunD K x qual params body scope dvs [] f fd) (S : FnScope w.N ps scope) (hd : ds[fi]? = some d) (hps : d.pars = ps.length) (hnm : d.names = w.N.length) (hle : ps.length ≤ w.N.length)
    (hm : all2 (mtS w.N w.fn w.cn 100 scope) d.body body = true)
    (hss : ∀ (cb : Cb) (w : Wd) (T : Nat → Nat → List AV → Sto → Rs AV) (k n : Nat), @SnE _ cb w T k n → @SsE _ cb w T k n) (hlen : ds.length ≤ CLO)
    (fx : Fx P W K mg base w (tab w.C ds k) k) (hcd : fd.code = .ref c) (TB : GxR.TabB base mg c tP) (hP : LAM ∉ w.N → tP ∈ Tb.l) (hld : LAM ∈ w.N → (tP, (envOfC qual scope 0 f (.ref c)).qual ++ LAM) ∈ Tb.lm) :
    FnG P W K mg base (k + 1) 0 f fd ps (spI K w.xc (tab w.C ds (k + 1) 0 fi)) := by
  letI : Cb := C0
  obtain ⟨oc, od, dV, kV, doc, pm, an, cdv, ct, osl, e, lk, hci, _, _⟩ := F.ex
  subst e
  have tb : tab w.C ds (k + 1) 0 fi = runD (fun g => tab w.C ds k (4 * g)) w.C d := by
    funext xs s
    simp only [tab, hd]
  rw [tb]
  refine fnG_of lk hci S (fun vs H Q E h => ?_) (fun A outer s H vs Q E hr h => ?_)
  · obtain ⟨ρ, s, as, st, rl, o⟩ := h
    unfold runD at o
    split at o
    · rename_i hl
      rw [rl.len, hl, hps]
    · exact o.elim
  · obtain ⟨ρ, s0, as, st, rl, o⟩ := h
    unfold runD at o
    split at o
    · rename_i hl
      have hcd2 : cdv = .ref c := hcd
      letI : Cb := C0
      have G : Gd w (tab w.C ds k) k 0 E (cxOf (L2.CX P W) P W K mg base w.N qual scope f cdv A outer s H E) := {
        N := rfl
        nd := S.nd
        calm := rfl
        rg := ⟨hr⟩
        fn := fx.fn
        cn := fx.cn
        dn := fx.dn
        kl := fx.kl
        ma := fx.ma
        bi := fx.bi
        ps := passes_call (takes_of rfl rfl rfl rfl) (fun _ _ _ _ h => h)
        cd := fun _ hn => ⟨c, tP, hcd2, TB, hP hn⟩
        ld := fun hl => ⟨c, tP, hcd2, ⟨TB.code, TB.bm, TB.gP⟩, hld hl⟩
        cw := fun j p e => by cases e
        hf := fx.hf }
      have GS : Gs w (tab w.C ds k) k E (cxOf (L2.CX P W) P W K mg base w.N qual scope f cdv A outer s H E) := {
        G := G
        own := fun _ _ => rfl
        po := passes_of rfl
        tk := takes_of rfl rfl rfl rfl
        stk := rfl
        frm := rfl
        xa := fx.xa
        xc := fx.xc
        clo := Or.inl (clo_bad hlen) }
      have SS := (all_n (fun n => hss C0 w (tab w.C ds k) k n) 100).2.2.1
      refine ⟨_, pss_all (fun st e q => SS E _ GS (by show (if scope.kind.isAnnotationScope then ScopeKind.function else scope.kind) = scope.kind; rw [S.kind]; rfl) st e q) d.body body hm, ρ, as.map some ++ List.replicate (d.names - d.pars) none, s0, st, ?_, ?_⟩
      · rw [hnm, ← hl]
        exact slr_start rl (by rw [hl, hps]; exact hle)
      · refine Out.bd0 o ?_
        intro fl s1 ρ1 H1 b _ g1 st1 rb o1
        cases fl with
        | nx sl1 =>
          cases b with
          | nx σ1 =>
            obtain ⟨ρ2, g2, st2, r2⟩ := letGo_ok (v := .non) (d := .non) (n := s0.length) st.len g1 st1 .non
            exact o1 ρ2 H1 .non g2 st2 r2
          | _ => exact rb.elim
        | rt dv =>
          cases b with
          | rt v =>
            obtain ⟨ρ2, g2, st2, r2⟩ := letGo_ok (n := s0.length) st.len g1 st1 rb
            exact o1 ρ2 H1 v g2 st2 r2
          | _ => exact rb.elim
        | bk _ => exact o1.elim
        | ct _ => exact o1.elim
    · exact o.elim
end Jp


set_option Elab.async false
set_option linter.all false
set_option maxRecDepth 100000
set_option maxHeartbeats 8000000
namespace Jp
open PySem PySem.Spec PyProof.Rows L2
variable [Tb]
/-! ### a def that is handed a function -/
section
variable {P : Program} {W : World} {K : PySem.W.Frag} {mg : Str → Option Value} {base : Heap}
theorem cells_later {X : Cx} {pins : List (Addr × Obj)} {σ : L2.St} {H : Hp} {s : Shared} {cl : List (Str × Addr)} {fr : List Str} {ws : List (Option V)} (C : NdefX.CellsAt cl fr ws X.s_0.heap X.H_0) (hx : X.ex = []) (I : Inv X pins σ H s) : NdefX.CellsAt cl fr ws s.heap H := by
  have no : ∀ c : Addr, c ∉ X.ex := fun c z => by rw [hx] at z; cases z
  have kp : ∀ y c, cl.lookup y = some c → ∀ v, X.s_0.heap.IsCell c v → s.heap.IsCell c v := fun y c e v ⟨o, ho, hd⟩ => by
    obtain ⟨sl, q⟩ := I.base.any ho (C.all y c e).1 (no c)
    exact ⟨_, q, hd⟩
  refine ⟨C.len, fun y c e => ?_, C.inj, fun i y e => ?_⟩
  · obtain ⟨n, v, z⟩ := C.all y c e
    refine ⟨?_, v, kp y c e v z⟩
    obtain ⟨o, ho, _⟩ := z
    exact I.base.free c o ho n (no c)
  · obtain ⟨c, hc, hv⟩ := C.has i y e
    refine ⟨c, hc, fun v ev => ?_⟩
    obtain ⟨u, r, z⟩ := hv v ev
    exact ⟨u, r, kp y c hc _ z⟩
theorem fnRun_of {k : Nat} {f : Addr} {name qual : Str} {params : Arguments} {body : List Stmt} {scope : Scope} {dV kV doc pm cdv ct oc : Value} {an od : Option Addr} {osl : Array (Option Value)} {N ps : List Str}
    (lk : K.lookup f = some ⟨oc, od, .func (PySem.W.fnOf name qual params body scope dV kV doc pm an cdv ct), osl⟩) (hcd : PySem.W.codeIn K cdv qual = true) (S : FnScope N ps scope)
    {A : Around} {outer : List Env} {s : Shared} {H : Hp} {args : Args} {us : List Value} {vs : List V} {Q : VK} {E : XK} (hr : Rm (k + 1) 0 A) (e0 : Env0 P W K mg base A outer s H) (bnd : BindsTo s (PySem.W.fnOf name qual params body scope dV kV doc pm an cdv ct) args (ps.zip us)) (r : Vals vs us) (lv : vs.length = ps.length)
    (hb : Rm k 0 (A.deeper (envOfC qual scope s.heap.objs.size f cdv)) → ∃ t, PSs (cxOf (L2.CX P W) P W K mg base N qual scope f cdv A outer s H E) body t ∧ t { nx := fun _ H' => Q .non H', rt := Q } (start N vs) H) :
    codeAny (model P W) A (.call (.ref f) args) (CR (L2.CX P W) outer P W H s Q E) s := by
  have inK : K.In s.heap := e0.mod.kin.keeps (fun b o e => (e0.bs b o e).1)
  have nl : s.heap.NoLimit := e0.mod.nolimit.keeps (fun b o e => (e0.bs b o e).1)
  have knd : ∀ y ∈ ps.zip us, scope.names.lookup y.1 = some .local ∨ (scope.names.lookup y.1 = some .cell ∧ ((cellsFrom (s.heap.objs.size + 1) scope.names []).lookup y.1).isSome = true) := by
    rintro ⟨n, v⟩ hy
    cases S.par n (List.of_mem_zip hy).1 with
    | inl q => exact Or.inl q
    | inr q => exact Or.inr ⟨q, PySem.W.cellsFrom_some _ _ _ (Or.inl q)⟩
  refine codeAny_call_function hr.room.depth (inK _ _ lk) rfl S.co S.gen rfl (PySem.W.codeRec_of inK hcd) (bnd _ _ _ _ ?_)
  refine wpAny_newFunctionEnv_cells S.kind knd (fun env he s1 x => ?_)
  subst he
  refine ⟨nl.keeps x.toInCall.keep, codeAny_func ?_⟩
  obtain ⟨t, ht, hq⟩ := hb (hr.call _)
  have I0 : Inv (cxOf (L2.CX P W) P W K mg base N qual scope f cdv A outer s H E) [] (start N vs) H s1 := inv_start S hr.h e0 lv r x
  refine wpAny_mono (ht.run [] s1 (start N vs) H _ I0 hq) ?_ (fun e s' hs => hs)
  intro fl s' hs
  match fl, hs with
  | .ret u, hs =>
    obtain ⟨v, σ', H', J, rv, q⟩ := hs
    exact ⟨v, H', J.os, J.bare, J.base, J.hok, rv, q⟩
  | .next, hs =>
    obtain ⟨σ', H', J, q⟩ := hs
    exact ⟨V.non, H', J.os, J.bare, J.base, J.hok, rfl, q⟩
  | .brk, hs =>
    obtain ⟨_, _, _, q⟩ := hs
    exact q.elim
  | .cont, hs =>
    obtain ⟨_, _, _, q⟩ := hs
    exact q.elim
theorem bind2 {a1 a2 : Arg} {q : Str} {el : Expr} {sc : Scope} {cl : List (Str × Addr)} {pm cdv ctv : Value} (hne : a1.arg ≠ a2.arg) : ∀ us : List Value, us.length = 2 → bindArgs (PySem.W.kla_fn LAM q ⟨[], [a1, a2], none, [], [], none, []⟩ el sc cl pm cdv ctv) ⟨us, []⟩ = pure ([a1.arg, a2.arg].zip us)
  | [u, v], _ => by
    have h1 : (a2.arg == a1.arg) = false := beq_eq_false_iff_ne.mpr (Ne.symm hne)
    have e1 : List.lookup a1.arg [(a1.arg, u), (a2.arg, v)] = some u := by simp [List.lookup]
    have e2 : List.lookup a2.arg [(a1.arg, u), (a2.arg, v)] = some v := by simp [List.lookup, h1]
    unfold bindArgs PySem.W.kla_fn
    simp [seqItems?, e1, e2]
    rfl
/-- a call of a lambda -/
theorem lam_run {w : Wd} {T : Nat → Nat → List AV → Sto → Rs AV} {k : Nat} {X : Cx} {L : Lam} {pars : Nat} {psl fr : List Str} {bd : IE} (hkd : L.kd = .lam pars psl fr bd) (hX : X.prog = P ∧ X.w = W ∧ X.K = K ∧ X.mg = mg ∧ X.base = base) (hex : X.ex = [])
    {a1 a2 : Arg} {el : Expr} {sc : Scope} {clv : List (Str × Addr)} {pm ctv : Value} {c' p : Addr} {qual : Str} {vsc : List V} {caps : List AV} (e1 : psl = [a1.arg, a2.arg]) (e2 : pars = 2) (e4 : nsB (psl ++ fr) psl fr sc = true)
    (hob : X.s_0.heap.get? p = some (PySem.W.kla_obj LAM qual ⟨[], [a1, a2], none, [], [], none, []⟩ el sc clv pm c' ctv)) (hpn : X.H_0 p = none) (hpf : p ∉ X.fs) (hcells : NdefX.CellsAt clv fr (vsc.map some) X.s_0.heap X.H_0)
    {cnL : Nm} (hmt : mt (psl ++ fr) w.fn cnL 99 sc bd el = true) (hlam : LAM ∉ psl ++ fr) (hrm : Rm k 0 X.A)
    (SN : @SnE _ C0 ⟨psl ++ fr, w.fn, cnL, w.C, w.xc⟩ T k 99) (fx : Fx P W K mg base ⟨psl ++ fr, w.fn, cnL, w.C, w.xc⟩ T k) :
    ClP w.xc X p [(c', LamX.CodeO c' qual)] vsc caps (cloF T w.C L caps) := by
  obtain ⟨hP, hW, hK, hmg, hbase⟩ := hX
  subst hP hW hK hmg hbase
  have NS : NdefX.NScope (psl ++ fr) psl fr sc := NdefX.nscope_by e4
  have obj : ∀ {pins : List (Addr × Obj)} {σ : L2.St} {H : Hp} {s : Shared}, Inv X pins σ H s → s.heap.get? p = some (PySem.W.kla_obj LAM qual ⟨[], [a1, a2], none, [], [], none, []⟩ el sc clv pm c' ctv) := fun I => I.base.keep p _ hob hpn hpf (by rw [hex]; exact List.not_mem_nil)
  refine ⟨fun pins σ H s I _ => ⟨_, _, _, _, obj I⟩, ?_⟩
  intro pins σ H s us vs ρ sto ds Q E I hx htr r st rl rc o
  have ho := obj I
  have hcode : H c' = some (LamX.CodeO c' qual) := htr _ List.mem_cons_self
  have cells := cells_later hcells hex I
  have ecl : cloF T w.C L caps = fun ys s => if ys.length = pars ∧ psl.length = pars ∧ caps.length = fr.length then (evI (fun g => T (4 * g)) w.C 1 99 bd (ys.map some ++ caps.map some) s).bd fun v s' => .ok v (letGo s.length v s') else .bad := by
    unfold cloF
    rw [hkd]
  rw [ecl] at o
  have o : Out X.K w.xc E ρ H (Rp X.K) (if ds.length = pars ∧ psl.length = pars ∧ caps.length = fr.length then (evI (fun g => T (4 * g)) w.C 1 99 bd (ds.map some ++ caps.map some) sto).bd fun v s' => .ok v (letGo sto.length v s') else .bad) Q := o
  split at o
  · rename_i hc
    obtain ⟨c1, c2, c3⟩ := hc
    have hl : vs.length = psl.length := by rw [rl.len, c1, c2]
    have hlu : us.length = 2 := by rw [← r.length, rl.len, c1, e2]
    have hne : a1.arg ≠ a2.arg := by
      have q := NS.nd
      rw [e1] at q
      intro e
      simp [e] at q
    refine wpAny_call (codeAny_mono (R := CR (L2.CX X.prog X.w) X.stack X.prog X.w H s Q E) ?_ ?_)
    rotate_left
    · intro rr s' hq
      match rr, hq with
      | .error e, hq => exact hx pins σ H s e s' I hq
      | .ok (.ret u), hq => exact I.after hq
    · refine PySem.W.kla_callFunE hrm.room.depth ho rfl NS.co NS.gen rfl (NdefX.codeO_at I.hok hcode) ?_
      rw [bind2 hne us hlu]
      have hpar : ∀ y ∈ [a1.arg, a2.arg].zip us, sc.names.lookup y.1 = some .local := fun ⟨n, _⟩ hy => NS.par n (by rw [e1]; exact (List.of_mem_zip hy).1)
      refine wpAny_pure (wpAny_newFunctionEnv NS.nocell hpar (fun h₁ hns hsb => ⟨I.nolimit.fresh _ hsb, ?_⟩) NS.kind)
      let FN : NdefX.NF := ⟨LAM, qual, ⟨[], [a1, a2], none, [], [], none, []⟩, [], sc, clv, c'⟩
      show codeAny _ _ (.expr el (NdefX.envF FN p s.heap.objs.size)) _ _
      have kp : ∀ b o, s.heap.get? b = some o → h₁.get? b = some o := fun b o e => hsb.extBut b o (Nat.ne_of_lt (Heap.lt_size e)) (Heap.get?_push_of_some _ e)
      have J : Inv (NdefX.ncx (L2.CX X.prog X.w) X.prog X.w X.K X.mg X.base (psl ++ fr) FN p X.A X.stack s H E) [] (NdefX.startF (psl ++ fr) vs (vsc.map some)) H { s with heap := h₁, toks := s.toks + ([a1.arg, a2.arg].zip us).length } := by
        refine NdefX.inv_startN (ps := psl) NS hrm.h I.env0 hl r cells ?_ kp
        rw [e1]
        exact hns
      letI : Cb := C0
      have G : Gd ⟨psl ++ fr, w.fn, cnL, w.C, w.xc⟩ T k 1 E (NdefX.ncx (L2.CX X.prog X.w) X.prog X.w X.K X.mg X.base (psl ++ fr) FN p X.A X.stack s H E) := {
        N := rfl
        nd := NS.nd
        calm := rfl
        rg := ⟨by
          have h1 := hrm.d
          have h2 := hrm.u
          refine ⟨hrm.h, hrm.g, by decide, ?_, ?_⟩
          · show X.A.depth + 1 + k + 100 < recursionLimit + 4 * 1
            omega
          · show X.A.units + 3 + 4 * k + 700 < cLine + 2 * (4 * 1)
            omega⟩
        fn := fx.fn
        cn := fx.cn
        dn := fx.dn
        kl := fx.kl
        ma := fx.ma
        bi := fx.bi
        ps := passes_call (takes_of rfl rfl rfl rfl) (fun _ _ _ _ h => h)
        cd := fun h => by cases h
        ld := fun h => absurd h hlam
        cw := fun j p e => by cases e
        hf := fx.hf }
      have PEl := SN 1 E _ G bd el hmt
      have sr : SlR X.K ρ H (NdefX.startF (psl ++ fr) vs (vsc.map some)) (ds.map some ++ caps.map some) := by
        have lc := rc.len
        have lv := rl.len
        have e0 : NdefX.startF (psl ++ fr) vs (vsc.map some) = (vs ++ vsc).map some := by
          unfold NdefX.startF
          rw [List.length_append, List.length_map, show psl.length + fr.length - vs.length - vsc.length = 0 from by omega]
          simp
        rw [e0, ← List.map_append]
        have ra := rl.app rc
        refine ⟨by simp; omega, fun i d e => ?_, fun i p e => by cases e⟩
        rw [List.getElem?_map] at e
        cases q : (ds ++ caps)[i]? with
        | none => rw [q] at e; cases e
        | some d2 =>
          rw [q] at e
          cases e
          obtain ⟨v, h1, h2⟩ := ra.get q
          exact ⟨v, by rw [List.getElem?_map, h1]; rfl, h2⟩
      refine PySem.W.kla_codeExpr (wpAny_mono (PEl.run [] _ _ H Q J ⟨ρ, ds.map some ++ caps.map some, sto, st, sr, ?_⟩) (fun v s'' hq => ?_) fun e s'' hq => hq)
      · refine Out.bd0 o ?_
        intro v s1 ρ1 H1 u _ g1 st1 r1 o2
        obtain ⟨ρ2, g2, st2, r2⟩ := letGo_ok (n := sto.length) st.len g1 st1 r1
        exact o2 ρ2 H1 u g2 st2 r2
      · obtain ⟨w', H', J', rv, qq⟩ := hq
        exact ⟨w', H', J'.os, J'.bare, J'.base, J'.hok, rv, qq⟩
  · exact o.elim
theorem withC_ne {T : Nat → Nat → List AV → Sto → Rs AV} {c : List AV → Sto → Rs AV} {d j : Nat} (h : j ≠ CLO) : withC T c d j = T d j := if_neg h
theorem withC_eq {T : Nat → Nat → List AV → Sto → Rs AV} {c : List AV → Sto → Rs AV} : withC T c 0 CLO = c := by
  unfold withC
  rw [if_pos rfl, if_pos rfl]
theorem hof_ok {w : Wd} {ds : List Df} {k q : Nat} {L : Lam} {f : Addr} {x qual : Str} {params : Arguments} {body : List Stmt} {scope : Scope} {dvs : List V} {fd : FuncData} {ps : List Str} {d : Df} {c tP : Addr}
    (F : FunD K x qual params body scope dvs [] f fd) (B : Binds K fd ps []) (S : FnScope w.N ps scope) (hd : ds[L.f]? = some d) (hL : w.C.lm[q]? = some L) (hps : d.pars = ps.length) (hnm : d.names = w.N.length) (hle : ps.length ≤ w.N.length)
    (hm : all2 (mtS w.N w.fn w.cn 100 scope) d.body body = true) (hcb : w.N[L.na]? = some "combine") (hlen : ds.length ≤ CLO) (hfl : w.fn.length ≤ CLO)
    (hk1 : ∀ (c : Nat) (ci : CI) (m : Str) (f : Nat), w.C.k[c]? = some ci → ci.ms.lookup m = some f → f ≠ CLO) (hk2 : ∀ (c : Nat) (x : Str) (ci : CI) (f : Nat), w.cn.k[c]? = some x → w.C.k[c]? = some ci → ci.ini = some f → f ≠ CLO)
    (hss : ∀ (cb : Cb) (w : Wd) (T : Nat → Nat → List AV → Sto → Rs AV) (k n : Nat), @SnE _ cb w T k n → @SsE _ cb w T k n)
    (hfa : ∀ (j : Nat) (x : Str) (a : Addr), w.fn[j]? = some x → x ≠ "" → mg x = some (.ref a) → ∃ oc od fd sl, K.lookup a = some ⟨oc, od, .func fd, sl⟩)
    (hlt : ∀ pars psl fr bd sc el, L.kd = .lam pars psl fr bd → w.cn.lt q sc el = true → ∃ cnL, mt (psl ++ fr) w.fn cnL 99 sc bd el = true ∧ LAM ∉ psl ++ fr ∧ Fx P W K mg base ⟨psl ++ fr, w.fn, cnL, w.C, w.xc⟩ (tab w.C ds k) k)
    (fx : Fx P W K mg base w (tab w.C ds k) k) (hcd : fd.code = .ref c) (TB : GxR.TabB base mg c tP) (hP : LAM ∉ w.N → tP ∈ Tb.l) (hld : LAM ∈ w.N → (tP, (envOfC qual scope 0 f (.ref c)).qual ++ LAM) ∈ Tb.lm) :
    FnH P W K mg base w.xc w.fn w.cn.lt (k + 1) 0 f q L (tab w.C ds (k + 1) 0 (HOF + q)) := by
  have i0 : Cb := C0
  obtain ⟨oc, od, dV, kV, doc, pm, an, cdv, ct, osl, e, lk, hci, _, _⟩ := F.ex
  subst e
  have tb : tab w.C ds (k + 1) 0 (HOF + q) = runH (tab w.C ds k) w.C L d := by
    have h1 : ds[HOF + q]? = none := List.getElem?_eq_none (Nat.le_trans hlen (by unfold CLO HOF; omega))
    have h2 : ¬ (HOF + q < HOF) := by omega
    have h3 : HOF + q - HOF = q := by omega
    funext xs s
    simp only [tab, h1, h2, if_false, h3, hL, hd]
  constructor
  intro A outer s H us vs vsc p Q E hr e0 rv hvl hp hsp
  obtain ⟨ρ, sto, das, st, rl, o⟩ := hsp
  rw [tb] at o
  unfold runH at o
  split at o
  · rename_i hc
    obtain ⟨hc1, hc2⟩ := hc
    have hlv : (vs ++ [V.ref p]).length = ps.length := by rw [List.length_append, hvl, ← hps, hc2]; rfl
    have bnd := B s (us ++ [Value.ref p]) (e0.mod.kin.keeps (fun b o e => (e0.bs b o e).1)) (by rw [List.append_nil, List.length_append, ← rv.length, hvl, ← hps, hc2]; rfl)
    rw [List.append_nil] at bnd
    refine fnRun_of lk hci S hr e0 bnd (rv.append (.cons (show RelV (V.ref p) (Value.ref p) from rfl) .nil)) hlv fun hr' => ?_
    have hcd2 : cdv = .ref c := hcd
    have r1 : RpL K ρ H vs (das.take L.na) := by
      have q1 := RpL.take L.na rl
      rw [List.take_append_of_le_length (by omega), List.take_of_length_le (by omega)] at q1
      exact q1
    have r2 : RpL K ρ H vsc (das.drop L.na) := by
      have q1 := RpL.drop L.na rl
      rw [List.drop_append_of_le_length (by omega), List.drop_of_length_le (by omega), List.nil_append] at q1
      exact q1
    have l1 : (das.take L.na).length = L.na := by rw [List.length_take]; omega
    generalize hX : cxOf (L2.CX P W) P W K mg base w.N qual scope f cdv A outer s H E = X
    obtain ⟨tr, htr, hcl⟩ : ∃ tr : List (Addr × HO), (∀ x ∈ tr, H x.1 = some x.2 ∧ x.1 ∉ ρ ∧ ∀ ps, x.2 ≠ .tbl ps) ∧ ClP w.xc X p tr vsc (das.drop L.na) (cloF (tab w.C ds k) w.C L (das.drop L.na)) := by
      cases hkd : L.kd with
      | fn j =>
        unfold HoP at hp
        rw [hkd] at hp
        obtain ⟨_, x0, hx0, hne, hm0⟩ := hp
        obtain ⟨a, fd2, ps2, m1, m2, m3, FG⟩ := fx.fn 0 j x0 hx0 hne
        have ea : a = p := by
          rw [hm0] at m1
          cases m1
          rfl
        subst ea
        obtain ⟨oc2, od2, fd3, sl2, hlk⟩ := hfa j x0 a hx0 hne hm0
        refine ⟨[], fun x hx => (by cases hx), ?_⟩
        subst hX
        refine ⟨fun pins σ H' s' I' _ => ⟨oc2, od2, fd3, sl2, I'.kIn _ _ hlk⟩, ?_⟩
        intro pins σ H' s' us' vs' ρ' sto' ds' Q' E' I' hx _ rv' st' rl' _ o'
        refine runG FG hr' m3 hx I' rv' ⟨ρ', sto', ds', st', rl', ?_⟩
        unfold cloF at o'
        rw [hkd] at o'
        exact o'
      | lam pars psl fr bd =>
        unfold HoP at hp
        rw [hkd] at hp
        obtain ⟨a1, a2, el, sc, clv, pm', ctv, c', qual', e1, e2, e3, e4, hob, hpn, hpf, hco, hcells⟩ := hp
        obtain ⟨cnL, hmt, hlam, fxl⟩ := hlt pars psl fr bd sc el hkd e3
        refine ⟨[(c', LamX.CodeO c' qual')], fun x hx => ?_, ?_⟩
        · rw [List.mem_singleton] at hx
          subst hx
          refine ⟨hco, fun hm' => ?_, fun ps z => by cases z⟩
          obtain ⟨m, hn⟩ := List.getElem?_of_mem hm'
          have hl : m < sto.length := by rw [st.len]; exact (List.getElem?_eq_some_iff.mp hn).1
          have hobj := st.ob m c' sto[m] hn (List.getElem?_eq_getElem hl)
          have hco' : H c' = some (LamX.CodeO c' qual') := hco
          cases hso : sto[m] with
          | lst ds0 => rw [hso] at hobj; obtain ⟨ys, e, _⟩ := hobj; rw [hco'] at e; cases e
          | ins c0 fs => rw [hso] at hobj; obtain ⟨dx, gs, e, _⟩ := hobj; rw [hco'] at e; cases e
          | dct kvs => rw [hso] at hobj; obtain ⟨gs, e, _⟩ := hobj; rw [hco'] at e; cases e
        · have SN : @SnE _ C0 ⟨psl ++ fr, w.fn, cnL, w.C, w.xc⟩ (tab w.C ds k) k 99 := (@all_n _ C0 ⟨psl ++ fr, w.fn, cnL, w.C, w.xc⟩ (tab w.C ds k) k (fun n => hss C0 _ _ k n) 99).1
          subst hX
          exact lam_run (w := w) (X := cxOf (L2.CX P W) P W K mg base w.N qual scope f cdv A outer s H E) hkd ⟨rfl, rfl, rfl, rfl, rfl⟩ rfl e1 e2 e4 hob hpn hpf hcells hmt hlam hr' SN fxl
    letI : Cb := ⟨some ((das.take L.na).length, p), tr, vsc, das.drop L.na⟩
    have lt : ∀ {d0 j : Nat} {x0 : Str}, w.fn[j]? = some x0 → withC (tab w.C ds k) (cloF (tab w.C ds k) w.C L (das.drop L.na)) d0 j = tab w.C ds k d0 j := fun h => withC_ne (by have := (List.getElem?_eq_some_iff.mp h).1; omega)
    have G : Gd w (withC (tab w.C ds k) (cloF (tab w.C ds k) w.C L (das.drop L.na))) k 0 E X := by
      subst hX
      exact {
        N := rfl
        nd := S.nd
        calm := rfl
        rg := ⟨hr'⟩
        fn := fun d0 f0 x0 h1 h2 => by rw [lt h1]; exact fx.fn d0 f0 x0 h1 h2
        cn := fx.cn
        dn := fx.dn
        kl := fun c0 ci h => by
          obtain ⟨k1, k2, k3⟩ := fx.kl c0 ci h
          refine ⟨k1, k2, fun m f0 dd d0 df hm0 hdf => ?_⟩
          rw [withC_ne (hk1 c0 ci m f0 h hm0)]
          exact k3 m f0 dd d0 df hm0 hdf
        ma := fun c0 x0 ci f0 d0 h1 h2 h3 => by
          rw [withC_ne (hk2 c0 x0 ci f0 h1 h2 h3)]
          exact fx.ma c0 x0 ci f0 d0 h1 h2 h3
        bi := fx.bi
        ps := passes_call (takes_of rfl rfl rfl rfl) (fun _ _ _ _ h => h)
        cd := fun _ hn => ⟨c, tP, hcd2, TB, hP hn⟩
        ld := fun hl => ⟨c, tP, hcd2, ⟨TB.code, TB.bm, TB.gP⟩, hld hl⟩
        cw := fun j p0 e => by
          have e2 : ((das.take L.na).length, p) = (j, p0) := Option.some.inj e
          cases e2
          show w.N[(das.take L.na).length]? = _
          rw [l1]
          exact hcb
        hf := fun d0 q0 L0 x0 h1 h2 h3 => by
          obtain ⟨a, b1, b2, b3⟩ := fx.hf d0 q0 L0 x0 h1 h2 h3
          refine ⟨a, b1, b2, ?_⟩
          rw [withC_ne (by unfold CLO HOF; omega)]
          exact b3 }
    have GS : Gs w (withC (tab w.C ds k) (cloF (tab w.C ds k) w.C L (das.drop L.na))) k E X := by
      subst hX
      exact {
        G := G
        own := fun _ _ => rfl
        po := passes_of rfl
        tk := takes_of rfl rfl rfl rfl
        stk := rfl
        frm := rfl
        xa := fx.xa
        xc := fx.xc
        clo := Or.inr ⟨_, p, rfl, by rw [withC_eq]; exact hcl⟩ }
    have SS := (all_n (fun n => hss _ w (withC (tab w.C ds k) (cloF (tab w.C ds k) w.C L (das.drop L.na))) k n) 100).2.2.1
    have hbk : X.env.blockKind = X.env.scope.kind := by
      subst hX
      show (if scope.kind.isAnnotationScope then ScopeKind.function else scope.kind) = scope.kind
      rw [S.kind] <;> rfl
    have hsc : X.env.scope = scope := by subst hX; rfl
    have hXK : X.K = K := by subst hX; rfl
    refine ⟨_, pss_all (fun st e q => SS E X GS hbk st e q) d.body body (by rw [hsc]; exact hm), ρ, (das.take L.na).map some ++ List.replicate (d.names - L.na) none, sto, by rw [hXK]; exact st, ?_, ?_⟩
    · rw [hXK, hnm, show w.N.length - L.na = w.N.length - (das.take L.na).length from by rw [l1]]
      exact slr_startC r1 (by rw [l1]; omega) htr r2
    · rw [hXK]
      refine Out.bd0 o ?_
      intro fl s1 ρ1 H1 b _ g1 st1 rb o1
      cases fl with
      | nx sl1 =>
        cases b with
        | nx σ1 =>
          obtain ⟨ρ2, g2, st2, r2⟩ := letGo_ok (v := .non) (d := .non) (n := sto.length) st.len g1 st1 .non
          exact o1 ρ2 H1 .non g2 st2 r2
        | _ => exact rb.elim
      | rt dv =>
        cases b with
        | rt v =>
          obtain ⟨ρ2, g2, st2, r2⟩ := letGo_ok (n := sto.length) st.len g1 st1 rb
          exact o1 ρ2 H1 v g2 st2 r2
        | _ => exact rb.elim
      | bk _ => exact o1.elim
      | ct _ => exact o1.elim
  · exact o.elim
end
end Jp


set_option Elab.async false
set_option linter.all false
set_option maxRecDepth 100000
set_option maxHeartbeats 4000000
namespace Jp
open PySem PySem.Spec PyProof.Rows L2
variable [Tb]
/-! ### all defs of a program -/
theorem tab_bad {C : Gt} {ds : List Df} : ∀ (k d f : Nat) (xs : List AV) (s : Sto), k ≤ d → tab C ds k d f xs s = .bad
  | 0, _, _, _, _, _ => rfl
  | k + 1, 0, _, _, _, h => absurd h (by omega)
  | k + 1, d + 1, f, xs, s, h => tab_bad k d f xs s (by omega)
theorem tab_sub {C : Gt} {ds : List Df} : ∀ (k d : Nat), d ≤ k → tab C ds k d = tab C ds (k - d) 0
  | k, 0, _ => rfl
  | k + 1, d + 1, h => by
    rw [show k + 1 - (d + 1) = k - d from by omega]
    exact tab_sub k d (by omega)
theorem dv_ok [Cb] {K : PySem.W.Frag} {ρ : List Addr} {H : Hp} {v : He.Dv} {d : AV} (h : dvOk v d = true) : Rp K ρ H (v.v K) d := by
  cases v <;> cases d <;> first | (cases h; done) | skip
  · exact .non
  · have e := eq_of_beq (show (_ == _) = true from h); subst e; exact .bl _
  · have e := eq_of_beq (show (_ == _) = true from h); subst e; exact .int _
  · have e := eq_of_beq (show (_ == _) = true from h); subst e; exact .str _
theorem dvs_ok [Cb] {K : PySem.W.Frag} {ρ : List Addr} {H : Hp} : ∀ {vs : List He.Dv} {ds : List AV}, all2 dvOk vs ds = true → RpL K ρ H (vs.map (He.Dv.v K)) ds
  | [], [], _ => .nil
  | v :: vs, d :: ds, h => .cons (dv_ok (b2 h).1) (dvs_ok (b2 h).2)
  | [], _ :: _, h => by cases h
  | _ :: _, [], h => by cases h
/-- what is looked at once -/
def DI.good (fn : List Str) (cn : Nm) (q : DI) : Bool :=
  decide (q.d.pars = q.ps.length) && decide (q.d.names = q.N.length) && decide (q.ps.length ≤ q.N.length) && all2 (mtS q.N fn cn 100 (defScope q.st)) q.d.body (defBody q.st)
structure DI.At (P : Program) (W : World) (K : PySem.W.Frag) (mg : Str → Option Value) (base : Heap) (q : DI) (f : Addr) (fd : FuncData) (c tP : Addr) : Prop where
  gl : q.cl = none → mg q.x = some (.ref f) ∧ q.dv = []
  F : FunD K q.x q.qual (defArgs q.st) (defBody q.st) (defScope q.st) (q.dv.map (He.Dv.v K)) [] f fd
  B : ∀ j, j ≤ q.dv.length → ∃ us, Vals ((q.dv.map (He.Dv.v K)).drop j) us ∧ Binds K fd q.ps us
  S : FnScope q.N q.ps (defScope q.st)
  cd : fd.code = .ref c
  TB : GxR.TabB base mg c tP
  tb : LAM ∉ q.N → tP ∈ Tb.l
  tm : LAM ∈ q.N → (tP, (envOfC q.qual (defScope q.st) 0 f (.ref c)).qual ++ LAM) ∈ Tb.lm
/-- the names as a lambda's body sees them -/
def Nm.lo (cn : Nm) : Nm := { cn with lm := [], lt := fun _ _ _ => false }
theorem vals_nil {us : List Value} (h : Vals [] us) : us = [] := by cases h; rfl
/-- what stands whatever is called -/
structure Fix (P : Program) (W : World) (K : PySem.W.Frag) (mg : Str → Option Value) (base : Heap) (qs : List DI) (cn : Nm) (C : Gt) (xc : List (Addr × List Str)) : Prop where
  con : ∀ (i : Nat) (x : Str) (d : AV), cn.c[i]? = some x → C.c[i]? = some d → ∃ u v, mg x = some u ∧ RelV v u ∧ ∀ ρ H, Rp K ρ H v d
  dn : ∀ (i : Nat) (x : Str) (kvs : List (Str × AV)), cn.d[i]? = some x → C.d[i]? = some kvs → ∃ p es m, mg x = some (.ref p) ∧ KDict K W p es m ∧ ∀ z : Str, match kvs.lookup z with
    | some d => ∃ u v, PySem.W.nsIn K p z = some (some u) ∧ RelV v u ∧ ∀ ρ H, Rp K ρ H v d
    | none => PySem.W.nsIn K p z = some none
  kl : ∀ (c : Nat) (ci : CI), C.k[c]? = some ci → L2.Cls K (Tb.ca c) ∧ (∀ f ∈ ci.fl, NoAttr K (Tb.ca c) f) ∧
    ∀ (m : Str) (f : Nat), ci.ms.lookup m = some f → ∃ q f2 fd2 c2 tP2, qs[f]? = some q ∧ q.At P W K mg base f2 fd2 c2 tP2 ∧ Meth K (Tb.ca c) m f2 ∧ ∀ df, C.df[f]? = some df → all2 dvOk q.dv df = true
  ma : ∀ (c : Nat) (x : Str) (ci : CI) (f : Nat), cn.k[c]? = some x → C.k[c]? = some ci → ci.ini = some f → mg x = some (.ref (Tb.ca c)) ∧ ∃ q f2 fd2 c2 tP2, qs[f]? = some q ∧ q.At P W K mg base f2 fd2 c2 tP2 ∧ q.dv = [] ∧ Mk K (Tb.ca c) f2
  bi : ∀ x ∈ bltins, mg x = none
  xa : ∀ N : List Str, XAll ⟨N, qs.map DI.fnm, cn, C, xc⟩ K mg
  len : qs.length ≤ CLO
  lmc : C.lm = cn.lm
  lmf : ∀ (i : Nat) (L : Lam), cn.lm[i]? = some L → ∃ q, qs[L.f]? = some q ∧ q.N[L.na]? = some "combine"
  lt : ∀ (i : Nat) (sc : Scope) (el : Expr), cn.lt i sc el = true → ∀ (L : Lam) (pars : Nat) (ps fr : List Str) (bd : IE), cn.lm[i]? = some L → L.kd = .lam pars ps fr bd → mt (ps ++ fr) (qs.map DI.fnm) cn.lo 99 sc bd el = true ∧ LAM ∉ ps ++ fr
  xcs : ∀ (k c : Nat) (x : Str) (xi : XI), cn.x[c]? = some x → C.x[c]? = some xi → xi.fl ≠ [] → ∃ D, xc[c]? = some (D, xi.fl) ∧ XcOk K mg P W base k x xi.fl D
theorem fx_of {P : Program} {W : World} {K : PySem.W.Frag} {mg : Str → Option Value} {base : Heap} {qs : List DI} {cn : Nm} {C : Gt} {xc : List (Addr × List Str)}
    (hq : ∀ q ∈ qs, ∃ f fd c tP, q.At P W K mg base f fd c tP) (fix : Fix P W K mg base qs cn C xc) {k : Nat} {T : Nat → Nat → List AV → Sto → Rs AV} (N : List Str) (cn2 : Nm) (hc : cn2.lo = cn.lo)
    (lower : ∀ (dd j : Nat) (r : DI) (f2 : Addr) (fd2 : FuncData) (c2 tP2 : Addr), qs[j]? = some r → r.At P W K mg base f2 fd2 c2 tP2 → FnG P W K mg base k dd f2 fd2 r.ps (spI K xc (T dd j)))
    (hf : ∀ (d q : Nat) (L : Lam) (x : Str), cn2.lm[q]? = some L → (qs.map DI.fnm)[L.f]? = some x → x ≠ "" → ∃ a, mg x = some (.ref a) ∧ PySem.W.keepIn K (.ref a) = true ∧ FnH P W K mg base xc (qs.map DI.fnm) cn2.lt k d a q L (T d (HOF + q))) :
    Fx P W K mg base ⟨N, qs.map DI.fnm, cn2, C, xc⟩ T k := by
  have i0 : Cb := C0
  have ec : cn2.c = cn.c := (congrArg Nm.c hc : cn2.lo.c = cn.lo.c)
  have ed : cn2.d = cn.d := (congrArg Nm.d hc : cn2.lo.d = cn.lo.d)
  have ek : cn2.k = cn.k := (congrArg Nm.k hc : cn2.lo.k = cn.lo.k)
  have ex : cn2.x = cn.x := (congrArg Nm.x hc : cn2.lo.x = cn.lo.x)
  exact {
    fn := by
      intro dd j x hx hne
      have hx' : (qs.map DI.fnm)[j]? = some x := hx
      rw [List.getElem?_map] at hx'
      cases e : qs[j]? with
      | none => rw [e] at hx'; cases hx'
      | some r =>
        rw [e] at hx'
        have ex : r.fnm = x := Option.some.inj hx'
        obtain ⟨f2, fd2, c2, tP2, at2⟩ := hq r (List.mem_of_getElem? e)
        unfold DI.fnm at ex
        split at ex
        · rename_i hcl
          obtain ⟨gl, hdv⟩ := at2.gl hcl
          obtain ⟨us, hv, hb⟩ := at2.B 0 (Nat.zero_le _)
          rw [hdv] at hv
          have hus := vals_nil hv
          subst hus
          exact ⟨f2, fd2, r.ps, by rw [← ex]; exact gl, at2.F.kp, hb, lower dd j r f2 fd2 c2 tP2 e at2⟩
        · exact absurd ex.symm hne
    cn := fun i x d h => fix.con i x d (by rw [← ec]; exact h)
    dn := fun i x d h => fix.dn i x d (by rw [← ed]; exact h)
    kl := by
      intro c0 ci hc
      obtain ⟨k1, k2, k3⟩ := fix.kl c0 ci hc
      refine ⟨k1, k2, fun m f0 d dd df hm hdf => ?_⟩
      obtain ⟨r, f2, fd2, c2, tP2, e, at2, hme, hdv⟩ := k3 m f0 hm
      have hl := hdv df hdf
      have hlen : r.dv.length = df.length := by
        have := (dvs_ok (K := K) (ρ := []) (H := fun _ => none) hl).len
        simpa using this
      by_cases hd : d ≤ r.dv.length
      · obtain ⟨us, hv, hb⟩ := at2.B d hd
        exact ⟨f2, fd2, r.ps, us, _, hme, hb, hv, fun ρ H => (dvs_ok hl).drop d, lower dd f0 r f2 fd2 c2 tP2 e at2⟩
      · obtain ⟨us, hv, hb⟩ := at2.B r.dv.length (Nat.le_refl _)
        have e1 : (r.dv.map (He.Dv.v K)).drop r.dv.length = [] := by simp
        have e2 : df.drop d = [] := List.drop_eq_nil_of_le (by omega)
        rw [e1] at hv
        exact ⟨f2, fd2, r.ps, us, [], hme, hb, hv, fun ρ H => by rw [e2]; exact .nil, lower dd f0 r f2 fd2 c2 tP2 e at2⟩
    ma := by
      intro c0 x ci f0 dd hx hc hf
      obtain ⟨m1, r, f2, fd2, c2, tP2, e, at2, hdv, hmk⟩ := fix.ma c0 x ci f0 (by rw [← ek]; exact hx) hc hf
      obtain ⟨us, hv, hb⟩ := at2.B 0 (Nat.zero_le _)
      rw [hdv] at hv
      have hus := vals_nil hv
      subst hus
      exact ⟨m1, f2, fd2, r.ps, hmk, hb, lower dd f0 r f2 fd2 c2 tP2 e at2⟩
    bi := fix.bi
    hf := hf
    xa := by
      have q := fix.xa N
      exact ⟨fun i xi h => by
        obtain ⟨D, a, b, c⟩ := q.at_ i xi h
        exact ⟨D, a, b, fun j z e => c j z (by rw [← ex]; exact e)⟩, fun j z e => q.nm j z (by rw [← ex]; exact e)⟩
    xc := fun c0 x xi h1 h2 h3 => fix.xcs k c0 x xi (by rw [← ex]; exact h1) h2 h3 }
/-- all defs, and what is handed functions, k calls deep -/
structure AllF (P : Program) (W : World) (K : PySem.W.Frag) (mg : Str → Option Value) (base : Heap) (qs : List DI) (cn : Nm) (C : Gt) (xc : List (Addr × List Str)) (k : Nat) : Prop where
  g : ∀ (i : Nat) (q : DI), qs[i]? = some q → ∀ f fd c tP, q.At P W K mg base f fd c tP → FnG P W K mg base k 0 f fd q.ps (spI K xc (tab C (qs.map (·.d)) k 0 i))
  h : ∀ (q : Nat) (L : Lam) (x : Str), cn.lm[q]? = some L → (qs.map DI.fnm)[L.f]? = some x → x ≠ "" → ∃ a, mg x = some (.ref a) ∧ PySem.W.keepIn K (.ref a) = true ∧ FnH P W K mg base xc (qs.map DI.fnm) cn.lt k 0 a q L (tab C (qs.map (·.d)) k 0 (HOF + q))
theorem all_ok {P : Program} {W : World} {K : PySem.W.Frag} {mg : Str → Option Value} {base : Heap} {qs : List DI} {cn : Nm} {C : Gt} {xc : List (Addr × List Str)}
    (hq : ∀ q ∈ qs, (q.good (qs.map DI.fnm) cn = true) ∧ ∃ f fd c tP, q.At P W K mg base f fd c tP)
    (hss : ∀ (cb : Cb) (w : Wd) (T : Nat → Nat → List AV → Sto → Rs AV) (k n : Nat), @SnE _ cb w T k n → @SsE _ cb w T k n)
    (fix : Fix P W K mg base qs cn C xc) (k : Nat) : AllF P W K mg base qs cn C xc k := by
  have i0 : Cb := C0
  have hq2 : ∀ q ∈ qs, ∃ f fd c tP, q.At P W K mg base f fd c tP := fun q hm => (hq q hm).2
  -- whose name is a def's
  have named : ∀ (L : Lam) (x : Str), (qs.map DI.fnm)[L.f]? = some x → x ≠ "" → ∃ r f fd c tP, qs[L.f]? = some r ∧ r.At P W K mg base f fd c tP ∧ mg x = some (.ref f) ∧ r.dv = [] := by
    intro L x hx hne
    rw [List.getElem?_map] at hx
    cases e : qs[L.f]? with
    | none => rw [e] at hx; cases hx
    | some r =>
      rw [e] at hx
      have ex : r.fnm = x := Option.some.inj hx
      obtain ⟨f2, fd2, c2, tP2, at2⟩ := hq2 r (List.mem_of_getElem? e)
      unfold DI.fnm at ex
      split at ex
      · rename_i hcl
        obtain ⟨gl, hdv⟩ := at2.gl hcl
        exact ⟨r, f2, fd2, c2, tP2, rfl, at2, by rw [← ex]; exact gl, hdv⟩
      · exact absurd ex.symm hne
  induction k using Nat.strongRecOn with
  | _ k ih =>
    cases k with
    | zero =>
      refine ⟨fun i q hi f fd c tP hat => ⟨fun vs H Q E h => ?_, fun A outer s H args us vs Q E _ _ _ _ h => ?_⟩, fun q L x hL hx hne => ?_⟩
      · obtain ⟨ρ, s, ds, _, _, o⟩ := h
        exact o.elim
      · obtain ⟨ρ, s, ds, _, _, o⟩ := h
        exact o.elim
      · obtain ⟨r, f, fd, c, tP, _, at2, hm, _⟩ := named L x hx hne
        refine ⟨f, hm, at2.F.kp, ⟨fun A outer s H us vs vsc p Q E _ _ _ _ _ h => ?_⟩⟩
        obtain ⟨ρ, s, ds, _, _, o⟩ := h
        exact o.elim
    | succ k =>
      have lower : ∀ (dd j : Nat) (r : DI) (f2 : Addr) (fd2 : FuncData) (c2 tP2 : Addr), qs[j]? = some r → r.At P W K mg base f2 fd2 c2 tP2 → FnG P W K mg base k dd f2 fd2 r.ps (spI K xc (tab C (qs.map (·.d)) k dd j)) := by
        intro dd j r f2 fd2 c2 tP2 e at2
        by_cases hdd : dd ≤ k
        · have G0 := (ih (k - dd) (by omega)).g j r e f2 fd2 c2 tP2 at2
          rw [tab_sub k dd hdd]
          exact ⟨G0.len, fun A outer s H args us vs Q E hr => G0.run A outer s H args us vs Q E (hr.sub hdd)⟩
        · have bad : ∀ xs s, tab C (qs.map (·.d)) k dd j xs s = .bad := fun xs s => tab_bad k dd j xs s (by omega)
          refine ⟨fun vs H Q E h => ?_, fun A outer s H args us vs Q E _ _ _ _ h => ?_⟩
          · obtain ⟨ρ, s, ds, _, _, o⟩ := h
            rw [bad] at o
            exact o.elim
          · obtain ⟨ρ, s, ds, _, _, o⟩ := h
            rw [bad] at o
            exact o.elim
      have lowerH : ∀ (dd q : Nat) (L : Lam) (x : Str), cn.lm[q]? = some L → (qs.map DI.fnm)[L.f]? = some x → x ≠ "" → ∃ a, mg x = some (.ref a) ∧ PySem.W.keepIn K (.ref a) = true ∧ FnH P W K mg base xc (qs.map DI.fnm) cn.lt k dd a q L (tab C (qs.map (·.d)) k dd (HOF + q)) := by
        intro dd q L x hL hx hne
        by_cases hdd : dd ≤ k
        · obtain ⟨a, m1, m2, G0⟩ := (ih (k - dd) (by omega)).h q L x hL hx hne
          rw [tab_sub k dd hdd]
          exact ⟨a, m1, m2, ⟨fun A outer s H us vs vsc p Q E hr => G0.run A outer s H us vs vsc p Q E (hr.sub hdd)⟩⟩
        · have bad : ∀ xs s, tab C (qs.map (·.d)) k dd (HOF + q) xs s = .bad := fun xs s => tab_bad k dd _ xs s (by omega)
          obtain ⟨r, f, fd, c, tP, _, at2, hm, _⟩ := named L x hx hne
          refine ⟨f, hm, at2.F.kp, ⟨fun A outer s H us vs vsc p Q E _ _ _ _ _ h => ?_⟩⟩
          obtain ⟨ρ, s, ds, _, _, o⟩ := h
          rw [bad] at o
          exact o.elim
      have fx : ∀ N : List Str, Fx P W K mg base ⟨N, qs.map DI.fnm, cn, C, xc⟩ (tab C (qs.map (·.d)) k) k := fun N => fx_of hq2 fix N cn rfl lower lowerH
      have hlen : (qs.map (·.d)).length ≤ CLO := by rw [List.length_map]; exact fix.len
      refine ⟨fun i q hi f fd c tP hat => ?_, fun i L x hL hx hne => ?_⟩
      · obtain ⟨hg, _⟩ := hq q (List.mem_of_getElem? hi)
        unfold DI.good at hg
        obtain ⟨hg, g4⟩ := b2 hg
        obtain ⟨hg, g3⟩ := b2 hg
        obtain ⟨g1, g2⟩ := b2 hg
        exact def_ok (w := ⟨q.N, qs.map DI.fnm, cn, C, xc⟩) hat.F hat.S (d := q.d) (by rw [List.getElem?_map, hi]; rfl) (of_decide_eq_true g1) (of_decide_eq_true g2) (of_decide_eq_true g3) (by dsimp only; exact g4) hss hlen (fx q.N) hat.cd hat.TB hat.tb hat.tm
      · obtain ⟨r, f, fd, c, tP, hr, at2, hm, hdv⟩ := named L x hx hne
        obtain ⟨hg, _⟩ := hq r (List.mem_of_getElem? hr)
        unfold DI.good at hg
        obtain ⟨hg, g4⟩ := b2 hg
        obtain ⟨hg, g3⟩ := b2 hg
        obtain ⟨g1, g2⟩ := b2 hg
        obtain ⟨r2, hr2, hcb⟩ := fix.lmf i L hL
        have e2 : r2 = r := by rw [hr] at hr2; exact (Option.some.inj hr2).symm
        subst e2
        obtain ⟨us, hv, hb⟩ := at2.B 0 (Nat.zero_le _)
        rw [hdv] at hv
        have hus := vals_nil hv
        subst hus
        have F0 := at2.F
        rw [hdv] at F0
        refine ⟨f, hm, at2.F.kp, hof_ok (w := ⟨r2.N, qs.map DI.fnm, cn, C, xc⟩) F0 hb at2.S (d := r2.d) (by rw [List.getElem?_map, hr]; rfl) (by show C.lm[i]? = _; rw [fix.lmc]; exact hL) (of_decide_eq_true g1) (of_decide_eq_true g2) (of_decide_eq_true g3) (by dsimp only; exact g4) hcb hlen (by show (qs.map DI.fnm).length ≤ _; rw [List.length_map]; exact fix.len) ?_ ?_ hss ?_ ?_ (fx r2.N) at2.cd at2.TB at2.tb at2.tm⟩
        · intro c0 ci m f0 hc0 hm0
          obtain ⟨_, _, k3⟩ := fix.kl c0 ci hc0
          obtain ⟨q3, _, _, _, _, e3, _⟩ := k3 m f0 hm0
          have := (List.getElem?_eq_some_iff.mp e3).1
          have := fix.len
          omega
        · intro c0 x0 ci f0 hx0 hc0 hf0
          obtain ⟨_, q3, _, _, _, _, e3, _⟩ := fix.ma c0 x0 ci f0 hx0 hc0 hf0
          have := (List.getElem?_eq_some_iff.mp e3).1
          have := fix.len
          omega
        · intro j x0 a hx0 hne0 hm0
          obtain ⟨r3, f3, fd3, c3, tP3, _, at3, hm3, _⟩ := named ⟨j, 0, 0, .fn 0⟩ x0 hx0 hne0
          rw [hm3] at hm0
          cases hm0
          obtain ⟨oc, od, dV, kV, doc, pm, an, cdv, ct, osl, _, lk, _⟩ := at3.F.ex
          exact ⟨_, _, _, _, lk⟩
        · intro pars psl fr bd sc el hkd hlt
          obtain ⟨h1, h2⟩ := fix.lt i sc el hlt L pars psl fr bd hL hkd
          exact ⟨cn.lo, h1, h2, fx_of hq2 fix (psl ++ fr) cn.lo rfl lower (fun d q L x h => by cases h)⟩
theorem prog_ok {P : Program} {W : World} {K : PySem.W.Frag} {mg : Str → Option Value} {base : Heap} {qs : List DI} {cn : Nm} {C : Gt} {xc : List (Addr × List Str)}
    (hq : ∀ q ∈ qs, (q.good (qs.map DI.fnm) cn = true) ∧ ∃ f fd c tP, q.At P W K mg base f fd c tP)
    (hss : ∀ (cb : Cb) (w : Wd) (T : Nat → Nat → List AV → Sto → Rs AV) (k n : Nat), @SnE _ cb w T k n → @SsE _ cb w T k n)
    (fix : Fix P W K mg base qs cn C xc) :
    ∀ (k i : Nat) (q : DI), qs[i]? = some q → ∀ f fd c tP, q.At P W K mg base f fd c tP → FnG P W K mg base k 0 f fd q.ps (spI K xc (tab C (qs.map (·.d)) k 0 i)) := fun k => (all_ok hq hss fix k).g
end Jp


set_option Elab.async false
set_option linter.all false
set_option maxRecDepth 100000
set_option maxHeartbeats 4000000
namespace Jp
open PySem PySem.Spec PyProof.Rows L2
/-! ### the law's end -/
section
variable {P : Program} {W : World} {K : PySem.W.Frag} {mg mb : Str → Option Value} {cs : List (Addr × Addr)} {a : Addr} {s1 : Shared} {vs : List Value} {ns : List Int}
/-- what is tracked at the law's call: the tables, the script where it is none of K -/
def H0 (K : PySem.W.Frag) (cs : List (Addr × Addr)) (a : Addr) (vs : List Value) (ns : List Int) : Hp := fun b =>
  if b ∈ cs.map Prod.snd then some (.tbl #[]) else if b = a ∧ K.lookup a = none then some (.frz { cls := .type "list", data := .seq vs.toArray } (.lst (ns.map V.int))) else none
theorem H0_tab {b : Addr} (h : b ∈ cs.map Prod.snd) : H0 K cs a vs ns b = some (.tbl #[]) := if_pos h
theorem H0_cases (b : Addr) : (b ∈ cs.map Prod.snd ∧ H0 K cs a vs ns b = some (.tbl #[])) ∨ (b ∉ cs.map Prod.snd ∧ b = a ∧ K.lookup a = none ∧ H0 K cs a vs ns b = some (.frz { cls := .type "list", data := .seq vs.toArray } (.lst (ns.map V.int)))) ∨ (b ∉ cs.map Prod.snd ∧ ¬ (b = a ∧ K.lookup a = none) ∧ H0 K cs a vs ns b = none) := by
  by_cases h1 : b ∈ cs.map Prod.snd
  · exact Or.inl ⟨h1, if_pos h1⟩
  · by_cases h2 : b = a ∧ K.lookup a = none
    · exact Or.inr (Or.inl ⟨h1, h2.1, h2.2, by unfold H0; rw [if_neg h1, if_pos h2]⟩)
    · exact Or.inr (Or.inr ⟨h1, h2, by unfold H0; rw [if_neg h1, if_neg h2]⟩)
theorem law_run {k : Nat} {fa : Addr} {fd : FuncData} {x : Str} {sp : Sp} (inK : K.In s1.heap) (gl : s1.heap.Ns mainGlobals mg) (bl : s1.heap.Ns builtinsNs mb) (boot : ∀ x : Str, x ≠ "__name__" → mb x = bootBuiltins x) (lim : s1.heap.NoLimit) (nog : s1.gens = #[])
    (tE : ∀ p ∈ cs, s1.heap.get? p.2 = some { cls := .none, data := .fields #[] }) (tK : ∀ p ∈ cs, K.lookup p.2 = none) (tC : ∀ p ∈ cs, PySem.W.CodeHd s1.heap p.1 p.2)
    (bm : ∃ (m : Addr) (ob : Obj), mg "__builtins__" = some (.ref m) ∧ m ≠ builtinsNs ∧ s1.heap.get? m = some ob ∧ ob.cls = .type "module" ∧ ob.dict = some builtinsNs ∧ ob.data = .plain)
    (ha : s1.heap.get? a = some { cls := .type "list", data := .seq vs.toArray }) (hi : IntsAre vs ns) (hl : ns.length ≤ sizeLine) (hr : Rm k 0 callerA)
    (F : ∀ base : Heap, K.In base → base.Ns mainGlobals mg → (∀ p ∈ cs, GxR.TabB base mg p.1 p.2) → FnG P W K mg base k 0 fa fd [x] sp) (bnd : ∀ (s : Shared) (u : Value), BindsTo s fd ⟨[u], []⟩ [(x, u)])
    (hsp : ∀ H : Hp, (∀ p ∈ cs, H p.2 = some (.tbl #[])) → FzL K H a (ns.map V.int) → sp [.ref a] H (fun v _ => v = .bl true) E0) :
    codeAny (model P W) callerA (.call (.ref fa) ⟨[.ref a], []⟩) (fun r s' => r = .ok (.ret (.bool true)) ∧ OldK s1.heap s'.heap ∧ s'.os = s1.os ∧ AllBare s'.gens) s1 := by
  have rv := vals_ints hi
  have lv := hi.length
  have tE2 : ∀ b ∈ cs.map Prod.snd, s1.heap.get? b = some { cls := .none, data := .fields #[] } := fun b hb => by
    obtain ⟨p, hp, rfl⟩ := List.mem_map.mp hb
    exact tE p hp
  -- an object that is neither a list nor an empty table is not tracked
  have un : ∀ (b : Addr) (o : Obj), s1.heap.get? b = some o → (∀ vs n, o.data ≠ .seq vs n) → o.data ≠ .fields #[] → H0 K cs a vs ns b = none := fun b o e d1 d2 => by
    rcases H0_cases (K := K) (cs := cs) (a := a) (vs := vs) (ns := ns) b with ⟨q, _⟩ | ⟨_, q, _⟩ | ⟨_, _, q⟩
    · rw [tE2 b q] at e
      cases e
      exact absurd rfl d2
    · rw [q, ha] at e
      cases e
      exact absurd rfl (d1 _ _)
    · exact q
  have hid : ∀ (b : Addr) (o : Obj), s1.heap.get? b = some o → H0 K cs a vs ns b = none → (hidT s1.heap (H0 K cs a vs ns)).get? b = some o := fun b o e n => hidT_get e n
  have ns_ : ∀ (b : Addr) (m : Str → Option Value), s1.heap.Ns b m → (hidT s1.heap (H0 K cs a vs ns)).Ns b m := fun b m h => by
    obtain ⟨o, es, ep, e, d, r⟩ := h
    refine ⟨o, es, ep, hid b o e (un b o e (fun vs n z => ?_) fun z => ?_), d, r⟩
    · rw [d] at z; cases z
    · rw [d] at z; cases z
  have kB : K.In (hidT s1.heap (H0 K cs a vs ns)) := fun b o e => by
    refine hid b o (inK b o e) ?_
    rcases H0_cases (K := K) (cs := cs) (a := a) (vs := vs) (ns := ns) b with ⟨q, _⟩ | ⟨_, q, q2, _⟩ | ⟨_, _, q⟩
    · obtain ⟨p, hp, rfl⟩ := List.mem_map.mp q
      rw [tK p hp] at e
      cases e
    · rw [q, q2] at e
      cases e
    · exact q
  have md : Mod K mg (hidT s1.heap (H0 K cs a vs ns)) := ⟨kB, ns_ _ _ gl, ⟨mb, ns_ _ _ bl, boot⟩, by
    obtain ⟨mc, q1, q2⟩ := lim
    exact ⟨mc, ns_ _ _ q1, q2⟩⟩
  have tbs : ∀ p ∈ cs, GxR.TabB (hidT s1.heap (H0 K cs a vs ns)) mg p.1 p.2 := fun p hp => by
    have e0 := tE p hp
    refine ⟨?_, ?_, fun z => ?_⟩
    · obtain ⟨o, us, f1, f2, f3, f4, f5, f6, f7, q, r1, r2, r3, r⟩ := tC p hp
      refine ⟨o, us, f1, f2, f3, f4, f5, f6, f7, hid _ o q (un _ o q (fun vs n z => ?_) fun z => ?_), r1, r2, r3, r⟩
      · rw [r2] at z; cases z
      · rw [r2] at z
        cases z
        simp at r3
    · obtain ⟨m, ob, q1, q2, q3, q4, q5, q6⟩ := bm
      refine ⟨m, ob, q1, q2, fun z => ?_, fun z => ?_, hid _ ob q3 (un _ ob q3 (fun vs n z => ?_) fun z => ?_), q4, q5, q6⟩
      · obtain ⟨o, es, ep, e, hd, _⟩ := gl
        rw [z, e] at q3
        cases q3
        rw [hd] at q6
        cases q6
      · rw [z, e0] at q3
        cases q3
        cases q6
      · rw [q6] at z; cases z
      · rw [q6] at z; cases z
    · obtain ⟨o, es, ep, e, hd, _⟩ := gl
      rw [z, e0] at e
      cases e
      cases hd
  have ok : HOk P W (H0 K cs a vs ns) s1.heap := fun b o e => by
    rcases H0_cases (K := K) (cs := cs) (a := a) (vs := vs) (ns := ns) b with ⟨q, q2⟩ | ⟨_, q, _, q2⟩ | ⟨_, _, q2⟩
    · rw [q2] at e
      cases e
      exact tE2 b q
    · rw [q2] at e
      cases e
      rw [q]
      exact ⟨ha, by rw [List.length_map]; exact hl, vs, _, rv, ha⟩
    · rw [q2] at e
      cases e
  have e0 : Env0 P W K mg (hidT s1.heap (H0 K cs a vs ns)) callerA [] s1 (H0 K cs a vs ns) := {
    frames := rfl
    mod := md
    bs := fun b o e => of_hidT e
    bsz := Nat.le_of_eq (hidT_size _ _)
    funs := trivial
    frf := fun b hb => absurd (show b ∈ ([] : List Addr) from hb) (by simp)
    hok := ok
    bare := AllBare.of_eq nog }
  have fz : FzL K (H0 K cs a vs ns) a (ns.map V.int) := by
    cases hk : K.lookup a with
    | some o =>
      have e := inK a o hk
      rw [ha] at e
      cases e
      exact .kk hk rfl rfl rfl (by rw [List.size_toArray, lv]; exact hl) (by simpa using rv)
    | none =>
      rcases H0_cases (K := K) (cs := cs) (a := a) (vs := vs) (ns := ns) a with ⟨q, _⟩ | ⟨_, _, _, q2⟩ | ⟨_, q, _⟩
      · have e := tE2 a q
        rw [ha] at e
        cases e
      · exact .frz q2
      · exact absurd ⟨rfl, hk⟩ q
  refine codeAny_mono ((F _ kB (ns_ _ _ gl) tbs).run callerA [] s1 _ ⟨[.ref a], []⟩ [.ref a] [.ref a] _ _ hr e0 (bnd s1 (.ref a)) (.cons rfl .nil) (hsp _ (fun p hp => H0_tab (List.mem_map.mpr ⟨p, hp, rfl⟩)) fz)) ?_
  intro r s' h
  match r, h with
  | .error e, h =>
    obtain ⟨_, _, _, _, _, _, _, _, _, _, _, _, z⟩ := h
    exact z.elim
  | .ok (.ret u), h =>
    obtain ⟨v, H', os, bare, un', hok', r', q⟩ := h
    have qv : v = .bl true := q
    subst qv
    cases r'
    have stays : ∀ (b : Addr) (o : Obj), b ∉ cs.map Prod.snd → s1.heap.get? b = some o → s'.heap.get? b = some o := fun b o nb e => by
      rcases H0_cases (K := K) (cs := cs) (a := a) (vs := vs) (ns := ns) b with ⟨q, _⟩ | ⟨_, _, _, q2⟩ | ⟨_, _, q2⟩
      · exact absurd q nb
      · obtain ⟨z1, _⟩ := ok b _ q2
        obtain ⟨z2, _⟩ := hok' b _ (un'.frzs b _ _ q2)
        rw [e] at z1
        cases z1
        exact z2
      · exact un'.keep b o e q2 (fun z => by cases z) (fun z => by cases z)
    have grow : ∀ p ∈ cs, ∃ more : Array Value, s'.heap.get? p.2 = some { cls := .none, data := .fields more } := fun p hp => by
      obtain ⟨more, z⟩ := un'.tbls p.2 #[] (H0_tab (List.mem_map.mpr ⟨p, hp, rfl⟩))
      exact ⟨_, hok' p.2 _ z⟩
    refine ⟨rfl, ⟨fun b o e => ?_, fun b o e => ?_⟩, os, bare⟩
    · by_cases hb : b ∈ cs.map Prod.snd
      · obtain ⟨p, hp, rfl⟩ := List.mem_map.mp hb
        obtain ⟨more, m⟩ := grow p hp
        rw [tE p hp] at e
        cases e
        refine .inr (.inl ⟨((tC p hp).tab (tE p hp)).isCodeTable, rfl, #[], more, rfl, ?_⟩)
        rw [Array.empty_append]
        exact m
      · exact .inl (stays b o hb e)
    · by_cases hb : b ∈ cs.map Prod.snd
      · obtain ⟨p, hp, rfl⟩ := List.mem_map.mp hb
        obtain ⟨more, m⟩ := grow p hp
        exact ⟨_, m⟩
      · exact ⟨o, stays b o hb e⟩
end
end Jp


set_option Elab.async false
set_option linter.all false
set_option maxRecDepth 100000
set_option maxHeartbeats 4000000
namespace Jp
open PySem PySem.Spec PyProof.Rows L2
mutual
theorem rpV_ok [Tb] {K : PySem.W.Frag} : ∀ (d : AV) (u : Value), rpV K u d = true → ∃ v, RelV v u ∧ ∀ ρ H, Rp K ρ H v d
  | .non, u, h => by
    cases u <;> first | exact ⟨.non, rfl, fun _ _ => .non⟩ | (simp [rpV] at h; done)
  | .bl b, u, h => by
    cases u <;> first | (simp [rpV] at h; done) | skip
    rename_i c
    have e : b = c := by simpa [rpV] using h
    subst e
    exact ⟨.bl b, rfl, fun _ _ => .bl b⟩
  | .int i, u, h => by
    cases u <;> first | (simp [rpV] at h; done) | skip
    rename_i j t
    have e : i = j := by simpa [rpV] using h
    subst e
    exact ⟨.int i, ⟨t, rfl⟩, fun _ _ => .int i⟩
  | .str x, u, h => by
    cases u <;> first | (simp [rpV] at h; done) | skip
    rename_i y t
    have e : x = y := by simpa [rpV] using h
    subst e
    exact ⟨.str x, ⟨t, rfl⟩, fun _ _ => .str x⟩
  | .tup ds, u, h => by
    cases u <;> first | (simp [rpV] at h; done) | skip
    rename_i a
    have h2 : (match K.lookup a with
      | some ⟨.type c, _, .seq its _, _⟩ => decide (c = "tuple") && decide (its.size ≤ sizeLine) && rpVs K its.toList ds
      | _ => false) = true := by (simp only [rpV] at h; exact h)
    split at h2
    · rename_i c od its n sl e
      rw [Bool.and_eq_true, Bool.and_eq_true] at h2
      obtain ⟨⟨h3, h4⟩, h5⟩ := h2
      obtain ⟨vs, r, rp⟩ := rpVs_ok ds its.toList h5
      exact ⟨.ref a, rfl, fun ρ H => .tup (Or.inr ⟨_, its, n, e, congrArg Value.type (of_decide_eq_true h3), rfl, of_decide_eq_true h4, r⟩) (rp ρ H)⟩
    · cases h2
  | .lst ds, u, h => by
    cases u <;> first | (simp [rpV] at h; done) | skip
    rename_i a
    have h2 : (match K.lookup a with
      | some ⟨.type c, none, .seq its _, _⟩ => decide (c = "list") && decide (its.size ≤ sizeLine) && rpVs K its.toList ds
      | _ => false) = true := by (simp only [rpV] at h; exact h)
    split at h2
    · rename_i c its n sl e
      rw [Bool.and_eq_true, Bool.and_eq_true] at h2
      obtain ⟨⟨h3, h4⟩, h5⟩ := h2
      obtain ⟨vs, r, rp⟩ := rpVs_ok ds its.toList h5
      exact ⟨.ref a, rfl, fun ρ H => .lst (.kk e (congrArg Value.type (of_decide_eq_true h3)) rfl rfl (of_decide_eq_true h4) r) (rp ρ H)⟩
    · cases h2
  | .ref _, u, h => by simp [rpV] at h
  | .fn _, u, h => by simp [rpV] at h
theorem rpVs_ok [Tb] {K : PySem.W.Frag} : ∀ (ds : List AV) (us : List Value), rpVs K us ds = true → ∃ vs, Vals vs us ∧ ∀ ρ H, RpL K ρ H vs ds
  | [], us, h => by
    cases us with
    | nil => exact ⟨[], .nil, fun _ _ => .nil⟩
    | cons _ _ => simp [rpVs] at h
  | d :: ds, us, h => by
    cases us with
    | nil => simp [rpVs] at h
    | cons u us =>
      have h2 : (rpV K u d && rpVs K us ds) = true := by (simp only [rpVs] at h; exact h)
      rw [Bool.and_eq_true] at h2
      obtain ⟨v, r, rp⟩ := rpV_ok d u h2.1
      obtain ⟨vs, rs, rps⟩ := rpVs_ok ds us h2.2
      exact ⟨v :: vs, .cons r rs, fun ρ H => .cons (rp ρ H) (rps ρ H)⟩
end
theorem conOk_at [Tb] {K : PySem.W.Frag} {h : Heap} {mg : Str → Option Value} (X : K.In h) (G : h.Ns mainGlobals mg) : ∀ {cn : List Str} {C : List AV}, conOk K cn C = true → ∀ (i : Nat) (x : Str) (d : AV), cn[i]? = some x → C[i]? = some d → ∃ u v, mg x = some u ∧ RelV v u ∧ ∀ ρ H, Rp K ρ H v d
  | [], _, _, i, x, d, e, _ => by simp at e
  | y :: ys, [], hc, _, _, _, _, _ => by simp [conOk] at hc
  | y :: ys, d0 :: ds, hc, i, x, d, e1, e2 => by
    have hc2 : ((match PySem.W.nsIn K mainGlobals y with
      | some (some u) => rpV K u d0
      | _ => false) && conOk K ys ds) = true := by (simp only [conOk] at hc; exact hc)
    rw [Bool.and_eq_true] at hc2
    obtain ⟨h1, h2⟩ := hc2
    cases i with
    | zero =>
      simp at e1 e2
      subst e1 e2
      split at h1
      · rename_i u q
        obtain ⟨v, r, rp⟩ := rpV_ok _ u h1
        exact ⟨u, v, PySem.W.mg_of X G q, r, rp⟩
      · cases h1
    | succ i => exact conOk_at X G h2 i x d (by simpa using e1) (by simpa using e2)
/-! ### the module's dicts -/
theorem ent_key {K : PySem.W.Frag} {e : DictEntry} {kv : Str × AV} (h : entOk K e kv = true) : ∃ t, e.key = .str kv.1 t := by
  unfold entOk at h
  obtain ⟨h1, _⟩ := He.ba h
  split at h1
  · rename_i x t q
    have e2 := of_decide_eq_true h1
    subst e2
    exact ⟨t, q⟩
  · cases h1
theorem ents_find {K : PySem.W.Frag} : ∀ {es : List DictEntry} {kvs : List (Str × AV)} (z : Str), all2 (entOk K) es kvs = true → (match kvs.lookup z with
    | some d => ∃ e, es.find? (fun e => e.key.isStr z) = some e ∧ rpV K e.val d = true
    | none => es.find? (fun e => e.key.isStr z) = none) ∧ es.any (·.refKey) = false
  | [], [], z, _ => ⟨rfl, rfl⟩
  | e :: es, (k, d) :: kvs, z, h => by
    obtain ⟨h1, h2⟩ := He.ba h
    obtain ⟨t, ek⟩ := ent_key h1
    have hr : rpV K e.val d = true := (He.ba (show ((match e.key with
      | .str x _ => decide (x = k)
      | _ => false) && rpV K e.val d) = true from h1)).2
    obtain ⟨ih1, ih2⟩ := ents_find (es := es) (kvs := kvs) z h2
    have rk : e.refKey = false := by
      unfold DictEntry.refKey
      rw [ek]
    refine ⟨?_, by rw [List.any_cons, rk, ih2]; rfl⟩
    have is : e.key.isStr z = (k == z) := by
      rw [ek] <;> rfl
    rw [List.lookup_cons, List.find?_cons, is]
    by_cases q : k = z
    · subst q
      rw [beq_self_eq_true]
      exact ⟨e, rfl, hr⟩
    · have q1 : (k == z) = false := by simpa using q
      have q2 : (z == k) = false := by simpa using fun a : z = k => q a.symm
      rw [q1, q2]
      exact ih1
  | [], _ :: _, _, h => by cases h
  | _ :: _, [], _, h => by cases h
theorem dct_ok [Tb] {K : PySem.W.Frag} {x : Str} {kvs : List (Str × AV)} (h : dctOk K x kvs = true) (z : Str) : match kvs.lookup z with
    | some d => ∃ u v, PySem.W.nsIn K (He.ga K x) z = some (some u) ∧ RelV v u ∧ ∀ ρ H, Rp K ρ H v d
    | none => PySem.W.nsIn K (He.ga K x) z = some none := by
  unfold dctOk at h
  split at h
  · rename_i c d es n sl q
    obtain ⟨h1, h2⟩ := ents_find z h
    have ns : PySem.W.nsIn K (He.ga K x) z = (match es.toList.find? (·.key.isStr z) with
      | some e => some (some e.val)
      | none => if es.toList.any (·.refKey) then none else some none) := by
      unfold PySem.W.nsIn
      rw [q] <;> rfl
    rw [h2] at ns
    cases e : kvs.lookup z with
    | none =>
      rw [e] at h1
      rw [ns, h1] <;> rfl
    | some d =>
      rw [e] at h1
      obtain ⟨en, e1, e2⟩ := h1
      obtain ⟨v, r1, r2⟩ := rpV_ok d en.val e2
      exact ⟨en.val, v, by rw [ns, e1], r1, r2⟩
  · cases h
/-! ### the classes of errors -/
theorem oexB_ok {K : PySem.W.Frag} {C : Addr} (h : oexB K C = true) : OexC K C := by
  unfold oexB at h
  obtain ⟨h, h5⟩ := He.ba h
  obtain ⟨h, h4⟩ := He.ba h
  obtain ⟨h, h3⟩ := He.ba h
  obtain ⟨h1, h2⟩ := He.ba h
  refine ⟨?_, of_decide_eq_true h2, of_decide_eq_true h3, of_decide_eq_true h4, h5⟩
  split at h1
  · rename_i c dd cd sl ho
    obtain ⟨hc, g1⟩ := He.ba h1
    have ec := of_decide_eq_true hc
    subst ec
    split at g1
    · rename_i C' bm k0 k1 k2 k3 n k5 hm hs
      obtain ⟨g1, q5⟩ := He.ba g1
      obtain ⟨g1, q4⟩ := He.ba g1
      obtain ⟨g1, q3⟩ := He.ba g1
      obtain ⟨q1, q2⟩ := He.ba g1
      have e1 := of_decide_eq_true q1
      have e2 := of_decide_eq_true q2
      subst e1 e2
      obtain ⟨nm, bs, mro, ns, qn, hd, sn, sub, ab, col, del⟩ := cd
      dsimp only at hm q3 q4
      have q3' : del = false := by simpa using q3
      subst hm q3' q4
      have hsl : sl = #[k0, k1, k2, k3, some (.builtin "ValueError.__new__"), k5] := by
        obtain ⟨l⟩ := sl
        simp only at hs
        rw [hs]
      subst hsl
      exact ⟨nm, qn, ns, bs, bm, sn, sub, ab, col, dd, k0, k1, k2, k3, k5, ho, q5⟩
    · cases g1
  · cases h1
theorem xsB_ok [Tb] {K : PySem.W.Frag} {C : Addr} {fl : List Str} (h : xsB K C fl = true) : XsOk K fl C := by
  unfold xsB at h
  obtain ⟨h, h9⟩ := He.ba h
  obtain ⟨h, h8⟩ := He.ba h
  obtain ⟨h, h7⟩ := He.ba h
  obtain ⟨h, h6⟩ := He.ba h
  obtain ⟨h, h5⟩ := He.ba h
  obtain ⟨h, h4⟩ := He.ba h
  obtain ⟨h, h3⟩ := He.ba h
  obtain ⟨h1, h2⟩ := He.ba h
  exact ⟨xfB_ok h1, of_decide_eq_true h2, fun f hf => of_decide_eq_true (List.all_eq_true.mp h3 f hf), h4, of_decide_eq_true h5, of_decide_eq_true h6, of_decide_eq_true h7, of_decide_eq_true h8, of_decide_eq_true h9⟩
end Jp


set_option Elab.async false
set_option linter.all false
set_option maxRecDepth 100000
set_option maxHeartbeats 4000000
namespace Jp
open PySem PySem.Spec PyProof.Rows L2 PySem.Froz
/-! ### sets of texts -/
/-- the set of the texts l at a; its table rises and can be walked -/
def SetS (P : Program) (w : World) (h : Heap) (a : Addr) (l : List Str) : Prop := ∃ D : SD, h.get? a = some (sObj "set" D) ∧ TxOk P w D l ∧ Ris D.2.2.place.toList ∧ (w.params.followText "set-order" = true ∨ D.2.2.led = true) ∧ l.Nodup
section
variable {P : Program} {w : World} {A : Around} {E : Value → Shared → Prop} {s : Shared} {a : Addr}
theorem SetS.move {h h' : Heap} {l : List Str} (R : SetS P w h a l) (k : ∀ o, h.get? a = some o → h'.get? a = some o) : SetS P w h' a l := by
  obtain ⟨D, e, r⟩ := R
  exact ⟨D, k _ e, r⟩
theorem ris_tail {ep : Nat} {es1 : Array (Int × Value)} {t2 : SetTable} {wd : Bool} (r : Ris t2.place.toList) : Ris (tailTx ep es1 t2 wd).2.2.place.toList := by
  unfold tailTx
  split
  · exact relayAll_ris t2 es1 _
  · exact r
theorem led_tail {ep : Nat} {es1 : Array (Int × Value)} {t2 : SetTable} {wd : Bool} : (tailTx ep es1 t2 wd).2.2.led = t2.led := by
  unfold tailTx
  split
  · exact relayAll_led t2 es1 _
  · rfl
theorem ris_add {h : Int} {v : Value} {D : SD} (r : Ris D.2.2.place.toList) : Ris (addTx h v D).2.2.place.toList := by
  unfold addTx
  refine ris_tail ?_
  split
  · exact layNew_ris D.2.2 D.1 h v r
  · exact layNew_ris D.2.2 D.1 h v r
theorem led_add {h : Int} {v : Value} {D : SD} : (addTx h v D).2.2.led = D.2.2.led := by
  unfold addTx
  rw [led_tail]
  split
  · exact layNew_led D.2.2 D.1 h v
  · exact layNew_led D.2.2 D.1 h v
/-- one more, or the same -/
def insT (k : Str) (l : List Str) : List Str := if k ∈ l then l else k :: l
theorem setS_add {l : List Str} {k : Str} {u : Tok} {Q : Bool → Shared → Prop} (R : SetS P w s.heap a l) (room : l.length + 1 < scanBound)
    (hQ : ∀ (b : Bool) (h' : Heap), Heap.SameBut a s.heap h' → SetS P w h' a (insT k l) → Q b { s with heap := h' }) : wpAny (model P w) A (setAddHashed a (.str k u) (hashStr w k)) Q E s := by
  obtain ⟨D, ho, F, r, hl, nd⟩ := R
  by_cases hk : k ∈ l
  · obtain ⟨es, ep, t⟩ := D
    have hd : (sObj "set" (es, ep, t)).data = .set es ep t := rfl
    have sz : es.size = l.length := F.sz
    obtain ⟨e, he, q⟩ := (F.mem k).mp hk
    unfold setAddHashed setAddHashedIn
    refine wpAny_holding (wpAny_bind (wpAny_setState_of ho hd F.fit ?_))
    dsimp only
    rw [byScan_of rfl (by rw [sz]; omega) F.el]
    simp only [↓reduceIte]
    unfold setAddByScan
    refine wpAny_bind ?_
    refine wpAny_bind (wpAny_rule ?_)
    refine wpAny_bind (wpAny_setScan_of (knd := strKind P w) (k := k) (is_str k u) ho hd F.fit F.el ?_)
    cases hfi : List.findIdx? (fun e => (strKind P w).is k e.2) es.toList with
    | some j =>
      dsimp only
      refine wpAny_pure (wpAny_pure ?_)
      exact hQ _ s.heap (Heap.SameBut.refl a s.heap) ⟨(es, ep, t), ho, by unfold insT; rw [if_pos hk]; exact F, r, hl, by unfold insT; rw [if_pos hk]; exact nd⟩
    | none =>
      have c := List.findIdx?_eq_none_iff.mp hfi e he
      rw [q] at c
      cases c
  · refine add_x ho F hk room (hQ _ _ (Heap.SameBut.update s.heap a _) ⟨_, get_upd _ ho rfl, ?_, ris_add r, hl.imp id fun z => by rw [led_add]; exact z, ?_⟩)
    · unfold insT
      rw [if_neg hk]
      exact add_ok u F
    · unfold insT
      rw [if_neg hk]
      exact List.nodup_cons.mpr ⟨hk, nd⟩
theorem setS_new {h : Heap} (ho : h.get? a = some { cls := .type "set", dict := none, data := .set #[] 0 (.fresh 0 0 (!w.params.followText "set-order")) }) : SetS P w h a [] :=
  ⟨(#[], 0, .fresh 0 0 (!w.params.followText "set-order")), ho, TxOk.nil rfl, List.Pairwise.nil, by
    show _ ∨ (!w.params.followText "set-order") = true
    cases w.params.followText "set-order"
    · exact Or.inr rfl
    · exact Or.inl rfl, List.nodup_nil⟩
/-- all of xs, one behind another -/
def insTs (xs : List Str) (l : List Str) : List Str := xs.foldl (fun l k => insT k l) l
theorem insT_len (k : Str) (l : List Str) : (insT k l).length ≤ l.length + 1 := by
  unfold insT
  split
  · omega
  · simp
theorem insT_mem (k j : Str) (l : List Str) : j ∈ insT k l ↔ j = k ∨ j ∈ l := by
  unfold insT
  by_cases hk : k ∈ l
  · rw [if_pos hk]
    exact ⟨Or.inr, fun h => h.elim (fun e => by rw [e]; exact hk) id⟩
  · rw [if_neg hk, List.mem_cons]
theorem insTs_mem (j : Str) : ∀ (xs l : List Str), j ∈ insTs xs l ↔ j ∈ xs ∨ j ∈ l
  | [], l => by simp [insTs]
  | k :: r, l => by
    show j ∈ insTs r (insT k l) ↔ _
    rw [insTs_mem j r, insT_mem, List.mem_cons]
    exact ⟨fun h => by rcases h with h | h | h <;> simp [h], fun h => by rcases h with (h | h) | h <;> simp [h]⟩
theorem upd_strs {I : Addr} {fp wr : List Addr} {G : Array GenState → Array GenState → Prop} {n : Nat} {Pv : Nat → Value → Prop} {St : Nat → Shared → Prop} {R : Result → Shared → Prop}
    (W : WalksS P w A.in1 I fp wr G n Pv St) (S : Addr) (hSf : S ∉ fp) (xs : List Str) (hn : n = xs.length) (hb : xs.length + 1 < scanBound) (hval : ∀ i v, Pv i v → ∃ k t, xs[i]? = some k ∧ v = .str k t) :
    ∀ (k i : Nat) (s : Shared) (l : List Str), n - i = k → i ≤ n → St i s → l.length ≤ i → SetS P w s.heap S l →
      (∀ s', Moved (S :: wr) G s s' → SetS P w s'.heap S (insTs (xs.drop i) l) → R (.ok (.ret .none)) s') → codeAny (model P w) A (.builtin "set.update.loop" ⟨[.ref S, .ref I], []⟩) R s := by
  have out : S ∉ wr := fun h => hSf (W.sub _ h)
  intro k
  induction k with
  | zero =>
    intro i s l hk' hi hst hc hS hR
    have hin : i = n := by omega
    subst hin
    refine codeAny_builtin F.entry_set_update_loop ?_
    rw [Around.under_plainId F.plain_set_update_loop _]
    show wpAny _ A.in1 (pyNext (.ref I) >>= _) _ _ s
    refine wpAny_bind (W.done s _ _ hst fun s' hm => ?_)
    show wpAny _ A.in1 (ret Value.none) _ _ s'
    refine wpAny_pure (hR s' (hm.mono fun b hb => List.mem_cons_of_mem _ hb) ?_)
    rw [List.drop_of_length_le (by omega)]
    exact hS.move fun o e => hm.heap S o out e
  | succ k ih =>
    intro i s l hk' hi hst hc hS hR
    have hlt : i < n := by omega
    refine codeAny_builtin F.entry_set_update_loop ?_
    rw [Around.under_plainId F.plain_set_update_loop _]
    show wpAny _ A.in1 (pyNext (.ref I) >>= _) _ _ s
    refine wpAny_bind (W.item i s _ _ hlt hst fun v s' hP hst' hm => ?_)
    obtain ⟨z, t, hz, rfl⟩ := hval i v hP
    show wpAny _ A.in1 (holding [Value.str z t] (setAdd S (.str z t)) >>= _) _ _ s'
    refine wpAny_bind (wpAny_holding ?_)
    unfold setAdd
    refine wpAny_holding ?_
    refine wpAny_bind ((strKind P w).pyHash (k := z) (is_str z t) ?_)
    refine setS_add (s := { s' with toks := s'.toks + 1 }) (l := l) (hS.move fun o e => hm.heap S o out e) (by omega) fun b h' hsb hS2 => ?_
    have keepI : ∀ b ∈ fp, ∀ o, s'.heap.get? b = some o → h'.get? b = some o := fun b hb o e => by
      rw [hsb.2 b (fun z : b = S => hSf (by rw [← z]; exact hb))]
      exact e
    refine wpAny_pure ⟨plainId_quiet F.plain_set_update_loop _, ih (i + 1) _ (insT z l) (by omega) hlt (W.frame _ s' _ _ hst' (Nat.le_succ _) keepI) (by have := insT_len z l; omega) hS2 fun s'' hm'' hS'' => ?_⟩
    refine hR s'' (Moved.trans W.gtrans ((hm.mono fun b hb => List.mem_cons_of_mem _ hb).then_heap (Nat.le_succ _) fun b o hb e => ?_) hm'') ?_
    · rw [hsb.2 b (fun z : b = S => hb (by rw [z]; exact List.mem_cons_self))]
      exact e
    · rw [List.drop_eq_getElem_cons (by omega)]
      have ez : xs[i]'(by omega) = z := by
        have h2 := List.getElem?_eq_some_iff.mp hz
        exact h2.2
      rw [ez]
      exact hS''
end
end Jp


set_option Elab.async false
set_option linter.all false
set_option maxRecDepth 100000
set_option maxHeartbeats 4000000
namespace Jp
open PySem PySem.Spec PyProof.Rows L2 PySem.Froz
section
variable {P : Program} {w : World} {A : Around} {E : Value → Shared → Prop} {s : Shared} {a : Addr}
set_option quotPrecheck false
theorem call_set_tupT {l : Addr} {its : Array Value} (xs : List Str) {Q : Value → Shared → Prop} (hh : A.handled = none) (hl : s.heap.IsTuple l its) (hit : StrsAre its.toList xs) (hb : xs.length + 1 < scanBound)
    (h : ∀ (h' : Heap) (tk : Nat), SetS P w h' s.heap.objs.size (insTs xs []) → (∀ b o, s.heap.get? b = some o → h'.get? b = some o) → Q (.ref s.heap.objs.size) { s with heap := h', toks := tk }) :
    wpAny (model P w) A (call (.type "set") [.ref l]) Q E s := by
  have isz : its.size = xs.length := by
    rw [← Array.length_toList]
    exact hit.length
  obtain ⟨c, tl, hmro⟩ := F.called_set.mro
  have q1 := F.called_set.made
  have q2 := F.called_set.sub
  refine wpAny_call (codeAny_of_tree ?_)
  show wpAny _ _ (callAny (.type "set") _) _ _ _
  refine wpAny_pure ⟨Code.quiet_builtin _ (by decide +kernel), codeAny_builtin F.entry_type_call ?_⟩
  rw [Around.under_plain (weight_type_call_type "set" [.ref l] []) rfl]
  have q3 := F.called_set.notType
  have q4 := F.called_set.canCreate
  have q5 := F.typeCall_set_1 (.ref l)
  repeat (any_goals (first | assumption | wp_step))
  refine codeAny_mono (code_set_led1 (.ref l) (E := E) (Q₁ := fun v s₁ => v = .ref s.heap.objs.size ∧ s₁ = { s with heap := (s.heap.push ({ cls := .type "set", dict := none, data := .set #[] 0 (.fresh 0 0 (!w.params.followText "set-order")) } : Obj)) }) ⟨rfl, rfl⟩) fun r s₁ hr => ?_
  cases r with
  | error e => exact hr
  | ok fl =>
    cases fl with
    | ret v =>
      obtain ⟨rfl, rfl⟩ := hr
      have hS : ((s.heap.push ({ cls := .type "set", dict := none, data := .set #[] 0 (.fresh 0 0 (!w.params.followText "set-order")) } : Obj))).get? s.heap.objs.size = some ({ cls := .type "set", dict := none, data := .set #[] 0 (.fresh 0 0 (!w.params.followText "set-order")) } : Obj) := Heap.get?_push_size _ rfl
      have hT : Shared.TypeIs { s with heap := (s.heap.push ({ cls := .type "set", dict := none, data := .set #[] 0 (.fresh 0 0 (!w.params.followText "set-order")) } : Obj)) } (.ref s.heap.objs.size) "set" := ⟨_, hS, rfl⟩
      have q6 := F.called_set.init.lookup
      have q7 := F.called_set.init.bind (.ref s.heap.objs.size)
      repeat (any_goals (first | assumption | wp_step))
      refine codeAny_mono (codeAny_call_builtin (R := wants (fun r s₂ => r = .none ∧ ∃ h' tk, s₂ = { s with heap := h', toks := tk } ∧ SetS P w h' s.heap.objs.size (insTs xs []) ∧
          (∀ b o, s.heap.get? b = some o → h'.get? b = some o)) E) F.called_set.init.plain F.entry_set_init (check_set_init_1 hT ?_)) fun r₂ s₂ hr₂ => ?_
      · obtain ⟨⟨oc, od, dt, sl⟩, hol, hcl, nl, hdl⟩ := hl
        simp only at hcl hdl
        subst hcl; subst hdl
        have hol' : ((s.heap.push ({ cls := .type "set", dict := none, data := .set #[] 0 (.fresh 0 0 (!w.params.followText "set-order")) } : Obj))).get? l = some { cls := .type "tuple", dict := od, data := .seq its nl, slots := sl } := Heap.get?_push_of_some _ hol
        have z1 := F.sub_tuple_set
        have z2 := F.sub_tuple_frozenset
        have z3 : (Value.type "tuple" == Value.type "dict") = false := by decide
        have hl1 : ((s.heap.push ({ cls := .type "set", dict := none, data := .set #[] 0 (.fresh 0 0 (!w.params.followText "set-order")) } : Obj))).IsTuple l its := ⟨_, hol', rfl, nl, rfl⟩
        unfold Builtin.«set.__init__» noKeywords Builtin.Frozenset.updateFrom
        generalize hPI : pyIter = PI
        wp_walk
        subst hPI
        refine wpAny_pyIter_tuple hl1 ?_
        refine wpAny_bind (wpAny_runValue ?_)
        have hlS : l < s.heap.objs.size := Heap.lt_size hol
        have h3 : A.in1.in1.in1.handled = none := by simp [hh]
        have sz1 : ((s.heap.push ({ cls := .type "set", dict := none, data := .set #[] 0 (.fresh 0 0 (!w.params.followText "set-order")) } : Obj))).objs.size = s.heap.objs.size + 1 := Heap.size_push ..
        have neI : l ≠ ((s.heap.push ({ cls := .type "set", dict := none, data := .set #[] 0 (.fresh 0 0 (!w.params.followText "set-order")) } : Obj))).objs.size := by
          rw [sz1]; exact Nat.ne_of_lt (Nat.lt_succ_of_lt hlS)
        have nS : s.heap.objs.size ∉ [((s.heap.push ({ cls := .type "set", dict := none, data := .set #[] 0 (.fresh 0 0 (!w.params.followText "set-order")) } : Obj))).objs.size, l] := by
          rw [sz1]
          intro z
          rcases List.mem_cons.mp z with z | z
          · exact absurd z (Nat.ne_of_lt (Nat.lt_succ_self _))
          · exact absurd (List.mem_singleton.mp z) (Nat.ne_of_gt hlS)
        have val : ∀ (i : Nat) (v : Value), its[i]? = some v → ∃ k t, xs[i]? = some k ∧ v = .str k t := fun i v hv => by
          have hi : i < xs.length := by rw [← isz]; exact (Array.getElem?_eq_some_iff.mp hv).1
          obtain ⟨t, e⟩ := SS.strs_at hit i v (by rw [Array.getElem?_toList]; exact hv)
          refine ⟨xs[i], t, List.getElem?_eq_getElem hi, ?_⟩
          rw [e, List.getD_eq_getElem?_getD, List.getElem?_eq_getElem hi] <;> rfl
        refine upd_strs ((Walks.tuple h3 _ l neI its).toS) s.heap.objs.size nS xs isz hb val (its.size - 0) 0 _ [] (by omega) (Nat.zero_le _) ⟨⟨_, Heap.get?_push_size _ rfl, rfl, rfl⟩, (hl1.push _)⟩ (Nat.zero_le _) ?s0 ?s1
        case s0 => exact setS_new (Heap.get?_push_of_some _ hS)
        case s1 =>
          intro s' hm hS'
          obtain ⟨h', g2, d', tk', os'⟩ := s'
          obtain rfl : g2 = s.gens := hm.gens
          obtain rfl : d' = s.drawn := hm.drawn
          obtain rfl : os' = s.os := hm.os
          show wpAny _ _ _ _ _ _
          refine wpAny_pure ?_
          show wpAny _ _ (ret Value.none) _ _ _
          refine wpAny_pure ⟨rfl, h', tk', rfl, hS', fun b o e => ?_⟩
          have b0 : b < s.heap.objs.size := Heap.lt_size e
          refine hm.heap b o (fun z => ?_) (Heap.get?_push_of_some _ (Heap.get?_push_of_some _ e))
          rcases List.mem_cons.mp z with z | z
          · exact absurd z (Nat.ne_of_lt b0)
          · rw [List.mem_singleton, sz1] at z
            exact absurd z (Nat.ne_of_lt (Nat.lt_succ_of_lt b0))
      · cases r₂ with
        | error e => exact hr₂
        | ok fl₂ =>
          cases fl₂ with
          | ret r =>
            obtain ⟨rfl, h', tk, rfl, hS', hk'⟩ := hr₂
            repeat (any_goals (first | assumption | wp_step))
            exact h _ _ hS' hk'
          | _ => exact hr₂.elim
    | _ => exact hr.elim
end
end Jp


set_option Elab.async false
set_option linter.all false
set_option maxRecDepth 100000
set_option maxHeartbeats 4000000
namespace Jp
open PySem PySem.Spec PyProof.Rows L2 PySem.Froz
theorem perm_sub : ∀ (l m : List Str), l.Nodup → (∀ x ∈ l, x ∈ m) → m.length = l.length → m.Perm l
  | [], m, _, _, h => by
    have e : m = [] := List.length_eq_zero_iff.mp h
    rw [e]
  | x :: r, m, nd, sub, h => by
    obtain ⟨n1, n2⟩ := List.nodup_cons.mp nd
    have hx := sub x List.mem_cons_self
    have p := List.perm_cons_erase hx
    refine p.trans (List.Perm.cons x (perm_sub r (m.erase x) n2 (fun y hy => ?_) ?_))
    · have ne : y ≠ x := fun z => n1 (by rw [← z]; exact hy)
      exact (List.mem_erase_of_ne ne).mpr (sub y (List.mem_cons_of_mem _ hy))
    · rw [List.length_erase_of_mem hx, h] <;> rfl
section
variable {P : Program} {w : World} {A : Around} {E : Value → Shared → Prop} {s : Shared} {a : Addr}
/-- the texts that values are -/
def txOf (v : Value) : Str := match v with
  | .str x _ => x
  | _ => Str.empty
theorem el_txt {D : SD} {l : List Str} (F : TxOk P w D l) (nd : l.Nodup) : (∀ e ∈ D.1.toList, ∃ t, e.2 = Value.str (txOf e.2) t) ∧ (D.1.toList.map fun e => txOf e.2).Perm l := by
  have h1 : ∀ e ∈ D.1.toList, ∃ k t, e.2 = Value.str k t := fun e he => by
    obtain ⟨⟨k, hk, _⟩, _⟩ := F.el e he
    cases q : e.2 with
    | str x t => exact ⟨x, t, rfl⟩
    | _ =>
      rw [q] at hk
      cases hk
  have h2 : ∀ e ∈ D.1.toList, ∃ t, e.2 = Value.str (txOf e.2) t := fun e he => by
    obtain ⟨k, t, q⟩ := h1 e he
    exact ⟨t, by rw [q]; rfl⟩
  refine ⟨h2, ?_⟩
  have sub : l ⊆ D.1.toList.map fun e => txOf e.2 := fun k hk => by
    obtain ⟨e, he, q⟩ := (F.mem k).mp hk
    obtain ⟨t, e2⟩ := h2 e he
    rw [e2] at q
    have e3 : (txOf e.2 == k) = true := q
    exact List.mem_map.mpr ⟨e, he, eq_of_beq e3⟩
  have len : (D.1.toList.map fun e => txOf e.2).length = l.length := by rw [List.length_map, Array.length_toList]; exact F.sz
  exact perm_sub l _ nd sub len
theorem each_txt : ∀ {vs : List Value}, (∀ v ∈ vs, ∃ t, v = Value.str (txOf v) t) → PySem.W.EachIs (fun v (b : Str) => ∃ t, v = Value.str b t) vs (vs.map txOf)
  | [], _ => .nil
  | v :: r, h => .cons (h v List.mem_cons_self) (each_txt fun u hu => h u (List.mem_cons_of_mem _ hu))
def leS (x y : Str) : Bool := decide (x.cps.toList ≤ y.cps.toList)
/-- sorted(set of texts) -/
theorem sorted_setS {l : List Str} {Q : Value → Shared → Prop} (R : SetS P w s.heap a l) (hh : A.handled = none) (h64 : l.length < 64) (hu : A.units + 20 < cLine)
    (hQ : ∀ (s' : Shared) (p : Addr) (out : List Value) (c : Nat) (zs : List Str), (∀ b o, s.heap.get? b = some o → s'.heap.get? b = some o) → s'.gens = s.gens → s'.os = s.os → s.heap.objs.size ≤ p →
      s'.heap.get? p = some (seqObj "list" out.toArray c) → PySem.W.EachIs (fun v (b : Str) => ∃ t, v = Value.str b t) out (zs.mergeSort leS) → zs.Perm l → Q (.ref p) s') : wpAny (model P w) A (call (.builtin "sorted") [.ref a]) Q E s := by
  obtain ⟨D, ho, F', r, hl, nd⟩ := R
  obtain ⟨es, ep, t⟩ := D
  obtain ⟨t1, t2⟩ := el_txt F' nd
  have sz : es.size = l.length := F'.sz
  refine Calls.call_function_entry kind_sorted plain_sorted entry_sorted (args_sorted1 _) ?_
  unfold Builtin.«sorted»
  refine wpAny_bind (m := checkCount "sorted" 1 1 _) (wpAny_pure ?_)
  refine wpAny_bind (collect_set (A := A.in1) hh ⟨_, ho, rfl, rfl⟩ F'.fit (by rw [sz]; exact Nat.lt_trans h64 (by decide)) r hl fun s1 vs k1 hz g1 o1 pm => ?_)
  have txt : ∀ v ∈ vs, ∃ t, v = Value.str (txOf v) t := fun v hv => by
    obtain ⟨e, he, q⟩ := List.mem_map.mp (pm.mem_iff.mp hv)
    rw [← q]
    exact t1 e he
  have pz : (vs.map txOf).Perm l := by
    have q := pm.map txOf
    rw [List.map_map] at q
    exact q.trans t2
  have lv : vs.length < 64 := by
    have q := pz.length_eq
    rw [List.length_map] at q
    omega
  refine wpAny_bind (wpAny_newList ?_ (by rw [sizeLine_eq]; omega))
  have hoL : (s1.heap.push (seqObj "list" vs.toArray 0)).get? s1.heap.objs.size = some (seqObj "list" vs.toArray 0) := Heap.get?_push_size _ rfl
  refine wpAny_bind (wpAny_holding (PySem.W.list_sort_data (bs := vs.map txOf) (enc := fun b : Str => PyData.str b) hoL (each_txt txt) ((each_txt txt).mono fun v b ⟨t, q⟩ => ⟨[], by rw [q]; exact .str b t, by simp⟩) (PySem.W.AllAlike.of fun b b' => rfl) (PySem.W.Sortable.others fun b => ⟨fun z => (by cases z), fun xs z => (by cases z)⟩)
    (by rw [List.length_map, sizeLine_eq]; omega) (fun b _ => ?_) fun out hlen hout => ?_))
  · show A.in1.units + 1 + 0 < cLine
    show A.units + 1 + 1 + 0 < cLine
    omega
  · obtain ⟨c, hc⟩ := sortedHeap_at (vs := vs) (out := out.toArray) hoL
    have ed : PySem.W.dataLe false (fun b : Str => PyData.str b) = leS := PySem.W.dataLe_str (fun b : Str => b)
    rw [ed] at hout
    refine wpAny_pure ⟨_, rfl, hQ { s1 with heap := sortedHeap (s1.heap.push (seqObj "list" vs.toArray 0)) s1.heap.objs.size vs out.toArray } s1.heap.objs.size out c (vs.map txOf) (fun b u e => ?_) g1 o1 hz hc hout pz⟩
    have q := k1 b u e
    have lt := Heap.lt_size q
    show (sortedHeap (s1.heap.push (seqObj "list" vs.toArray 0)) s1.heap.objs.size vs out.toArray).get? b = some u
    rw [sortedHeap_old (Nat.ne_of_lt lt) (by rw [size_push']; exact Nat.lt_succ_of_lt lt)]
    exact Heap.get?_push_of_some _ q
end
end Jp


set_option Elab.async false
set_option linter.all false
set_option maxRecDepth 100000
namespace Jp
open PySem
/-! ### in order, each once: there is just one such list -/
abbrev ltS (x y : Str) : Prop := x.cps.toList < y.cps.toList
theorem str_ext {x y : Str} (h : x.cps.toList = y.cps.toList) : x = y := by
  cases x
  cases y
  have e := Array.toList_inj.mp h
  simp only at e
  rw [e]
theorem ltS_irr (x : Str) : ¬ ltS x x := List.lt_irrefl _
theorem ltS_tr {x y z : Str} (a : ltS x y) (b : ltS y z) : ltS x z := List.lt_trans a b
theorem ltS_tri (x y : Str) : ltS x y ∨ x = y ∨ ltS y x := by
  by_cases h1 : ltS x y
  · exact Or.inl h1
  · by_cases h2 : ltS y x
    · exact Or.inr (Or.inr h2)
    · exact Or.inr (Or.inl (str_ext (List.le_antisymm (List.not_lt.mp h2) (List.not_lt.mp h1))))
theorem one_list : ∀ l m : List Str, l.Pairwise ltS → m.Pairwise ltS → (∀ x, x ∈ l ↔ x ∈ m) → l = m
  | [], [], _, _, _ => rfl
  | [], y :: r, _, _, h => absurd ((h y).mpr List.mem_cons_self) (by simp)
  | x :: r, [], _, _, h => absurd ((h x).mp List.mem_cons_self) (by simp)
  | x :: r, y :: q, hl, hm, h => by
    obtain ⟨l1, l2⟩ := List.pairwise_cons.mp hl
    obtain ⟨m1, m2⟩ := List.pairwise_cons.mp hm
    have e : x = y := by
      rcases List.mem_cons.mp ((h x).mp List.mem_cons_self) with z | z
      · exact z
      · rcases List.mem_cons.mp ((h y).mpr List.mem_cons_self) with z2 | z2
        · exact z2.symm
        · exact absurd (ltS_tr (m1 x z) (l1 y z2)) (ltS_irr _)
    subst e
    rw [one_list r q l2 m2 fun z => ⟨fun hz => ?_, fun hz => ?_⟩]
    · rcases List.mem_cons.mp ((h z).mp (List.mem_cons_of_mem _ hz)) with e | e
      · exact absurd (by have q := l1 z hz; rw [← e] at q; exact q : ltS z z) (ltS_irr _)
      · exact e
    · rcases List.mem_cons.mp ((h z).mpr (List.mem_cons_of_mem _ hz)) with e | e
      · exact absurd (by have q := m1 z hz; rw [← e] at q; exact q : ltS z z) (ltS_irr _)
      · exact e
theorem insS_mem (x j : Str) : ∀ l : List Str, j ∈ insS x l ↔ j = x ∨ j ∈ l
  | [] => by simp [insS]
  | y :: r => by
    unfold insS
    split
    · simp
    · split
      · rw [List.mem_cons, insS_mem x j r, List.mem_cons]
        exact ⟨fun h => by rcases h with h | h | h <;> simp [h], fun h => by rcases h with h | h | h <;> simp [h]⟩
      · rename_i h1 h2
        have e : x = y := by
          rcases ltS_tri x y with z | z | z
          · exact absurd z h1
          · exact z
          · exact absurd z h2
        rw [e, List.mem_cons]
        exact ⟨Or.inr, fun h => h.elim Or.inl id⟩
theorem insS_pw (x : Str) : ∀ l : List Str, l.Pairwise ltS → (insS x l).Pairwise ltS
  | [], _ => by simp [insS]
  | y :: r, h => by
    obtain ⟨h1, h2⟩ := List.pairwise_cons.mp h
    unfold insS
    split
    · rename_i c
      exact List.pairwise_cons.mpr ⟨fun z hz => by
        rcases List.mem_cons.mp hz with e | e
        · rw [e]; exact c
        · exact ltS_tr c (h1 z e), h⟩
    · split
      · rename_i c
        refine List.pairwise_cons.mpr ⟨fun z hz => ?_, insS_pw x r h2⟩
        rcases (insS_mem x z r).mp hz with e | e
        · rw [e]; exact c
        · exact h1 z e
      · exact h
theorem sortS_mem (j : Str) : ∀ xs : List Str, j ∈ sortS xs ↔ j ∈ xs
  | [] => by simp [sortS]
  | x :: r => by
    show j ∈ insS x (sortS r) ↔ _
    rw [insS_mem, sortS_mem j r, List.mem_cons]
theorem sortS_pw : ∀ xs : List Str, (sortS xs).Pairwise ltS
  | [] => by simp [sortS]
  | x :: r => insS_pw x _ (sortS_pw r)
theorem pw_lt : ∀ l : List Str, l.Pairwise (fun x y => leS x y = true) → l.Nodup → l.Pairwise ltS
  | [], _, _ => List.Pairwise.nil
  | x :: r, h, nd => by
    obtain ⟨h1, h2⟩ := List.pairwise_cons.mp h
    obtain ⟨n1, n2⟩ := List.nodup_cons.mp nd
    refine List.pairwise_cons.mpr ⟨fun y hy => ?_, pw_lt r h2 n2⟩
    have le : x.cps.toList ≤ y.cps.toList := of_decide_eq_true (h1 y hy)
    rcases ltS_tri x y with z | z | z
    · exact z
    · exact absurd (by rw [z]; exact hy) n1
    · exact absurd z (List.not_lt.mpr le)
theorem merge_sortS {xs zs : List Str} (nd : zs.Nodup) (h : ∀ j, j ∈ zs ↔ j ∈ xs) : zs.mergeSort leS = sortS xs := by
  have pm := List.mergeSort_perm zs leS
  refine one_list _ _ (pw_lt _ ?_ (pm.nodup_iff.mpr nd)) (sortS_pw xs) fun x => by rw [pm.mem_iff, sortS_mem, h]
  refine List.pairwise_mergeSort (fun a b c h1 h2 => ?_) (fun a b => ?_) zs
  · exact decide_eq_true (List.le_trans (of_decide_eq_true h1) (of_decide_eq_true h2))
  · rcases List.le_total a.cps.toList b.cps.toList with z | z
    · exact Bool.or_eq_true_iff.mpr (Or.inl (decide_eq_true z))
    · exact Bool.or_eq_true_iff.mpr (Or.inr (decide_eq_true z))
theorem insTs_nodup : ∀ (xs l : List Str), l.Nodup → (insTs xs l).Nodup
  | [], _, h => h
  | k :: r, l, h => insTs_nodup r (insT k l) (by
    unfold insT
    split
    · exact h
    · rename_i z
      exact List.nodup_cons.mpr ⟨z, h⟩)
end Jp


set_option Elab.async false
set_option linter.all false
set_option maxRecDepth 100000
set_option maxHeartbeats 4000000
namespace Jp
open PySem PySem.Spec PyProof.Rows L2
variable [Tb] [Cb]
/-! ### sorted(set(a tuple of texts)) -/
theorem insTs_len : ∀ (xs l : List Str), (insTs xs l).length ≤ xs.length + l.length
  | [], l => by simp [insTs]
  | k :: r, l => by
    have h1 := insTs_len r (insT k l)
    have h2 := insT_len k l
    show (insTs r (insT k l)).length ≤ (r.length + 1) + l.length
    omega
theorem vals_each : ∀ {out : List Value} {zs : List Str}, PySem.W.EachIs (fun v (b : Str) => ∃ t, v = Value.str b t) out zs → Vals (zs.map V.str) out
  | _, _, .nil => .nil
  | _, _, .cons ⟨t, e⟩ r => .cons ⟨t, e⟩ (vals_each r)
theorem strs_rpl {K : PySem.W.Frag} {ρ : List Addr} {H : Hp} : ∀ {ys : List AV} {vs : List V} {zs : List Str}, RpL K ρ H vs ys → optAll asStr ys = some zs → vs = zs.map V.str
  | [], _, zs, r, h => by
    cases r
    have e : zs = [] := by simpa [optAll] using h.symm
    rw [e] <;> rfl
  | y :: ys, _, zs, r, h => by
    cases r with
    | cons a b =>
      cases y with
      | str x =>
        cases a
        cases q : optAll asStr ys with
        | none => simp [optAll, asStr, q] at h
        | some ws =>
          have e : x :: ws = zs := by simpa [optAll, asStr, q] using h
          rw [← e, strs_rpl b q] <;> rfl
      | _ => simp [optAll, asStr] at h
theorem ss_ok {w : Wd} {T : Nat → Nat → List AV → Sto → Rs AV} {k n : Nat} (S : SnE w T k n) : SsE w T k n := by
  intro g E X G a x p1 xs p2 h
  unfold mt at h
  dsimp only at h
  split at h
  · rename_i z pz y pq
    obtain ⟨h, h5⟩ := b2 h
    obtain ⟨h, h4⟩ := b2 h
    obtain ⟨h, h3⟩ := b2 h
    obtain ⟨h1, h2⟩ := b2 h
    obtain ⟨v1, v2, v3⟩ := gl_of h3
    obtain ⟨u1, u2, u3⟩ := gl_of h4
    have e1 : x = "sorted" := of_decide_eq_true h1
    have e2 : z = "set" := of_decide_eq_true h2
    subst e1
    subst e2
    have hh : X.A.handled = none := G.rg.rm.h
    have hu : X.A.units + 100 < cLine := by have := G.rg.rm.u; have := G.rg.rm.le; omega
    constructor
    intro pins s σ H Q I hq
    have na : starEach [y] X.env = (false, eval y X.env) :: starEach [] X.env := star_plain h5
    have read : tI w X.K E (ev T w g n a) σ H (fun v H1 => ∃ ρ1 s1 d, StR X.K ρ1 H1 s1 ∧ Rp X.K ρ1 H1 v d ∧ Out X.K w.xc E ρ1 H1 (Rp X.K) (opBi .sortedSet [d] s1) Q) := by
      obtain ⟨ρ, sl, s0, st, sr, o⟩ := hq
      refine ⟨ρ, sl, s0, st, sr, ?_⟩
      have o2 : Out X.K w.xc E ρ H (Rp X.K) ((ev T w g n a sl s0).bd fun d s => opBi .sortedSet [d] s) Q := by
        have e : ev T w g (n + 1) (.bi .sortedSet [a]) sl s0 = (ev T w g n a sl s0).bd fun d s => opBi .sortedSet [d] s := by
          show (((ev T w g n a sl s0).bd fun x s => (Rs.ok ([] : List AV) s).bd fun xs s => .ok (x :: xs) s).bd fun ds s => opBi .sortedSet ds s) = _
          rw [Rs.assoc] <;> rfl
        rw [← e]
        exact o
      refine Out.bd o2 ?_
      intro d s1 ρ1 H1 v _ g1 st1 r1 o1
      exact ⟨ρ1, s1, d, st1, r1, o1⟩
    refine Call_ (ld_blt (u := .builtin "sorted") I v1 (G.bi _ (by decide)) (by decide +kernel) ?_)
    refine PyProof.Rows.callWith_builtin1 (PyProof.Rows.args_cons ?_ rfl) rfl rfl
    refine Call_ (ld_blt (u := .type "set") I u1 (G.bi _ (by decide)) (by decide +kernel) ?_)
    refine PyProof.Rows.callWith_type1 (PyProof.Rows.args_cons (thn ((S g E X G a y h5).run pins s σ H _ I read) fun v s1 hv => PyProof.Rows.args_nil ?_) na) na rfl
    obtain ⟨v0, H1, I1, r1, ρ1, st0, d, st1, rd, o1⟩ := hv
    cases d with
    | tup ys =>
      cases rd with
      | @tup t vs _ hT hL =>
        cases r1
        cases hz : optAll asStr ys with
        | none =>
          have o2 : Out X.K w.xc E ρ1 H1 (Rp X.K) (match optAll asStr ys with
            | some zs => if zs.length < 64 then .ok (.ref st0.length) (st0 ++ [.lst ((sortS zs).map .str)]) else .bad
            | none => .bad) Q := o1
          rw [hz] at o2
          exact o2.elim
        | some zs =>
          have o2 : Out X.K w.xc E ρ1 H1 (Rp X.K) (match optAll asStr ys with
            | some zs => if zs.length < 64 then .ok (.ref st0.length) (st0 ++ [.lst ((sortS zs).map .str)]) else .bad
            | none => .bad) Q := o1
          rw [hz] at o2
          dsimp only at o2
          split at o2
          · rename_i h64
            have ev := strs_rpl hL hz
            subst ev
            obtain ⟨its, rv, pl, hsz⟩ := I1.tuple hT
            have hlen : (insTs zs []).length < 64 := Nat.lt_of_le_of_lt (insTs_len zs []) (by simpa using h64)
            refine call_set_tupT (s := s1) zs hh pl (by simpa using strsAre_of rv) (Nat.lt_trans (Nat.succ_lt_succ h64) (by decide)) fun h' tk R keep => ?_
            refine PyProof.Rows.args_nil ?_
            have I2 : Inv X pins σ H1 { s1 with heap := h', toks := tk } := I1.kept keep
            refine sorted_setS (s := { s1 with heap := h', toks := tk }) R hh hlen (by omega) fun s' p out c zs2 k2 g2 os2 hp hg hout pm => ?_
            have esort : zs2.mergeSort leS = sortS zs := merge_sortS (pm.nodup_iff.mpr (insTs_nodup zs [] List.nodup_nil)) fun j => by
              rw [pm.mem_iff, insTs_mem]
              simp
            rw [esort] at hout
            have rvals := vals_each hout
            have hn : H1 p = none := I2.hok.fresh hp
            have hl2 : ((sortS zs).map V.str).length ≤ sizeLine := by
              have q1 : (sortS zs).length = zs2.length := by
                rw [← esort, List.length_mergeSort]
              rw [List.length_map, q1, pm.length_eq, sizeLine_eq]
              omega
            have J : Inv X pins σ (upd H1 p (.lst ((sortS zs).map V.str))) s' := I2.call' (ch := []) os2 (Un.laid k2 hp hn) (I2.hok.laid k2 hp ⟨hl2, out, c, rvals, hg⟩) (by rw [g2]; exact I2.bare) (fun _ z => nomatch z)
            exact ⟨.ref p, _, J, rfl, Out.new o2 st1 (rpl_strs _) hn⟩
          · exact o2.elim
    | _ => exact o1.elim
  · cases h
end Jp


set_option Elab.async false
set_option linter.all false
set_option maxRecDepth 100000
set_option maxHeartbeats 4000000
namespace Jp
open PySem PySem.Spec PyProof.Rows L2
/-- how the statement binds its parameters -/
def BindsAs (q : DI) : Prop := (q.dv = [] → ∀ (kV doc pm : Value) (an : Option Addr) (cdv ct : Value) (us : List Value), us.length = q.ps.length → bindArgs (PySem.W.fnOf q.x q.qual (defArgs q.st) (defBody q.st) (defScope q.st) .none kV doc pm an cdv ct) ⟨us, []⟩ = pure (q.ps.zip us)) ∧
  (q.dv ≠ [] → q.dv.length ≤ q.ps.length ∧ ∀ j, j ≤ q.dv.length → ∀ (T : Addr) (kV doc pm : Value) (an : Option Addr) (cdv ct : Value) (us its : List Value), us.length = q.ps.length - (q.dv.length - j) → its.length = q.dv.length →
    ∃ k, bindArgs (PySem.W.fnOf q.x q.qual (defArgs q.st) (defBody q.st) (defScope q.st) (.ref T) kV doc pm an cdv ct) ⟨us, []⟩ = seqItems? (.ref T) >>= k ∧ k (some its.toArray) = pure (q.ps.zip (us ++ its.drop j)))
def BindsX (q : XDI) : Prop := ∀ (kV doc pm : Value) (an : Option Addr) (cdv ct : Value) (us : List Value), us.length = q.ps.length → bindArgs (PySem.W.fnOf "__init__" q.qual (defArgs q.st) (defBody q.st) (defScope q.st) .none kV doc pm an cdv ct) ⟨us, []⟩ = pure (q.ps.zip us)
def Says (dp : Nat) (qs : List DI) (xd : List XDI) (cn : Nm) (C : Gt) (w : World) (h : Heap) : Prop := ∃ K : PySem.W.Frag, K.In h ∧ He.SaysX (hFa qs cn C) (qs.map DI.dd ++ xd.map XDI.dd) (hTs cn C) (qs.map DI.at_) (fun K => moreQ K qs cn C xd) w h K
def LtOk (qs : List DI) (cn : Nm) : Prop := ∀ (i : Nat) (sc : Scope) (el : Expr), cn.lt i sc el = true → ∀ (L : Lam) (pars : Nat) (ps fr : List Str) (bd : IE), cn.lm[i]? = some L → L.kd = .lam pars ps fr bd → mt (ps ++ fr) (qs.map DI.fnm) cn.lo 99 sc bd el = true ∧ LAM ∉ ps ++ fr
/-- the usual look at a lambda -/
def ltF (fn : List Str) (cn : Nm) (lm : List Lam) (i : Nat) (sc : Scope) (el : Expr) : Bool := match lm[i]? with
  | some ⟨_, _, _, .lam _ ps fr bd⟩ => mt (ps ++ fr) fn cn 99 sc bd el && !decide (LAM ∈ ps ++ fr)
  | _ => false
theorem ltF_ok {qs : List DI} {cn0 cn : Nm} {lm : List Lam} (e1 : cn.lm = lm) (e2 : cn.lt = ltF (qs.map DI.fnm) cn0 lm) (e3 : cn.lo = cn0) : LtOk qs cn := by
  intro i sc el h L pars ps fr bd hL hk
  rw [e2] at h
  rw [e1] at hL
  unfold ltF at h
  obtain ⟨f, na, nc, kd⟩ := L
  dsimp only at hk
  subst hk
  rw [hL] at h
  obtain ⟨h1, h2⟩ := He.ba h
  exact ⟨by rw [e3]; exact h1, by simpa using h2⟩
theorem disB_inj : ∀ {l : List DI} {f : DI → Nat}, disB (l.map f) = true → ∀ p ∈ l, ∀ q ∈ l, f p = f q → p = q
  | [], _, _, _, hp, _, _, _ => by cases hp
  | a :: l, f, h, p, hp, q, hq, e => by
    obtain ⟨h1, h2⟩ := He.ba (show (noB (f a) (l.map f) && disB (l.map f)) = true from h)
    have no : ∀ r ∈ l, f r ≠ f a := fun r hr e => by
      have z := List.all_eq_true.mp h1 (f r) (List.mem_map.mpr ⟨r, hr, rfl⟩)
      rw [e] at z
      simp at z
    rcases List.mem_cons.mp hp with e1 | e1 <;> rcases List.mem_cons.mp hq with e2 | e2
    · rw [e1, e2]
    · rw [e1] at e
      exact absurd e.symm (no q e2)
    · rw [e2] at e
      exact absurd e (no p e1)
    · exact disB_inj h2 p e1 q e2 e
theorem law_walk {l : PySem.W.OpenLaw} {n k li : Nat} {q : Program} {loose : List Str} {XP : (Str → Option Value) → Heap → Prop} {YP : World → Heap → Prop} {d : DefRec} {qs : List DI} {xd : List XDI} {ql : DI} {cn : Nm} {C : Gt} {x : Str} {dp : Nat}
    (hn : l.most = some n) (hn2 : n ≤ sizeLine) (hdf : d.params.defaults = []) (hr : Rm k 0 callerA) (hY : ∀ w h, YP w h → Says dp qs xd cn.lo C w h) (hli : qs[li]? = some ql) (hnm : d.name = ql.x) (hps : ql.ps = [x]) (hcl : ql.cl = none) (hdv : ql.dv = []) (hql2 : ql.qual = ql.x)
    (good : ∀ q ∈ qs, q.good (qs.map DI.fnm) cn = true ∧ FnScope q.N q.ps (defScope q.st) ∧ BindsAs q)
    (goodX : ∀ q ∈ xd, FnScope q.N q.ps (defScope q.st) ∧ BindsX q ∧ iniB q.N (defScope q.st) 1 q.fl (defBody q.st) = true ∧ q.ps.length = q.fl.length + 1 ∧ q.fl.length ≤ 400)
    (cls : clsB qs cn.lo C xd = true) (hlm : lmB qs cn = true) (hC : C.lm = cn.lm) (hlt : LtOk qs cn)
    (hss : ∀ [Tb] (cb : Cb) (w : Wd) (T : Nat → Nat → List AV → Sto → Rs AV) (k n : Nat), @SnE _ cb w T k n → @SsE _ cb w T k n)
    (math : ∀ ns : List Int, ns.length ≤ n → (∀ z ∈ ns, Builtin.Int.intBits z ≤ 1048576) → ∃ s', tab C (qs.map (·.d)) k 0 li [.lst (ns.map AV.int)] [] = .ok (.bl true) s') :
    PySem.W.WalkO q loose XP YP l.row.toRowW d [] (fun f vs => PySem.call f vs) := by
  have hY : ∀ w h, YP w h → Says dp qs xd cn C w h := hY
  have cls : clsB qs cn C xd = true := cls
  refine Att.attach_callB hn hdf fun w s₀ s₁ mg mb fa o pm cd doc a vs ns G Y ho hd hcd hmg hobj hints hlen hbits hg => ?_
  obtain ⟨K, KX, c⟩ := hY w _ Y
  have more0 := c.more
  have m5 : tabsB K qs = true := (He.ba (show (moreB K cn C xd && tabsB K qs) = true from more0)).2
  obtain ⟨m6, m7⟩ := He.ba (show (_ && disB _) = true from m5)
  letI tbI : Tb := ⟨(qs.filter fun q => !q.mkr).map (DI.tab K), fun _ => 0, fun i => match C.k[i]? with
    | some ci => He.ga K ci.nm
    | none => 0, (qs.filter DI.mkr).map (fun q => (DI.tab K q, (envOfC q.qual (defScope q.st) 0 (He.fAd K q.at_) (.ref (He.cT K q.at_).1)).qual ++ LAM)), fun p hp hl => by
      obtain ⟨q, hq, rfl⟩ := List.mem_map.mp hp
      have z := List.all_eq_true.mp m6 (DI.tab K q) (List.mem_map.mpr ⟨q, hq, rfl⟩)
      have z2 := List.all_eq_true.mp z _ hl
      simp at z2, fun p hp p2 hp2 e => by
      obtain ⟨q, hq, rfl⟩ := List.mem_map.mp hp
      obtain ⟨q2, hq2, rfl⟩ := List.mem_map.mp hp2
      have eq := disB_inj m7 q hq q2 hq2 e
      rw [eq]⟩
  have i0 : Cb := C0
  have Gg := G.T.g
  have memP : ∀ q ∈ qs, He.cT K q.at_ ∈ qs.map fun q => He.cT K q.at_ := fun q hq => List.mem_map.mpr ⟨q, hq, rfl⟩
  have tfm : ∀ q ∈ qs, q.at_ ∈ qs.map DI.at_ := fun q hq => List.mem_map.mpr ⟨q, hq, rfl⟩
  have ofP : ∀ p ∈ qs.map fun q => He.cT K q.at_, ∃ q ∈ qs, p = He.cT K q.at_ := fun p hp => by
    obtain ⟨q, hq, e⟩ := List.mem_map.mp hp
    exact ⟨q, hq, e.symm⟩
  have facts : ∀ f ∈ hFa qs cn C, f.ok K = true := fun f hf => c.t.d.facts hf
  have gloQ : ∀ q ∈ qs, q.cl = none → mg q.x = some (.ref (He.ga K q.x)) := fun q hq e => He.glo_ok KX Gg (facts (.glo q.x) (by
    unfold hFa
    refine List.mem_append_left _ (List.mem_append_left _ (List.mem_append_left _ (List.mem_append_left _ (List.mem_flatMap.mpr ⟨q, hq, ?_⟩))))
    rw [e]
    exact List.mem_singleton.mpr rfl))
  have free : ∀ y ∈ bltins, mg y = none := fun y hy => He.free_ok KX Gg (facts (.free y) (by
    unfold hFa
    exact List.mem_append_left _ (List.mem_append_left _ (List.mem_append_left _ (List.mem_append_right _ (List.mem_map.mpr ⟨y, hy, rfl⟩))))))
  have clsF : ∀ ci ∈ C.k, ∀ f ∈ ciFa ci, f.ok K = true := fun ci hci f hf => facts f (by
    unfold hFa
    exact List.mem_append_left _ (List.mem_append_left _ (List.mem_append_right _ (List.mem_flatMap.mpr ⟨ci, hci, hf⟩))))
  have gloX : ∀ xi ∈ C.x, mg xi.nm = some (.ref (He.ga K xi.nm)) := fun xi hxi => He.glo_ok KX Gg (facts (.glo xi.nm) (by
    unfold hFa
    exact List.mem_append_left _ (List.mem_append_right _ (List.mem_map.mpr ⟨xi, hxi, rfl⟩))))
  have gloD : ∀ y ∈ cn.d, mg y = some (.ref (He.ga K y)) := fun y hy => He.glo_ok KX Gg (facts (.glo y) (by
    unfold hFa
    exact List.mem_append_right _ (List.mem_map.mpr ⟨y, hy, rfl⟩)))
  have more := (He.ba (show (moreB K cn C xd && tabsB K qs) = true from more0)).1
  unfold moreB at more
  obtain ⟨more, m4⟩ := He.ba more
  obtain ⟨more, m3⟩ := He.ba more
  obtain ⟨m1, m2⟩ := He.ba more
  have cls' := cls
  unfold clsB at cls'
  obtain ⟨cls', c6⟩ := He.ba cls'
  obtain ⟨cls', c5⟩ := He.ba cls'
  obtain ⟨cls', c4⟩ := He.ba cls'
  obtain ⟨cls', c3⟩ := He.ba cls'
  obtain ⟨c1, c2⟩ := He.ba cls'
  have ek := of_decide_eq_true c1
  have ex := of_decide_eq_true c2
  have el := of_decide_eq_true c3
  have cons := conOk_at KX Gg m1
  have defs : ∀ q ∈ qs, ∃ fd, FunD K q.x q.qual (defArgs q.st) (defBody q.st) (defScope q.st) (q.dv.map (He.Dv.v K)) [] (He.fAd K q.at_) fd ∧ fd.code = .ref (He.cT K q.at_).1 := fun q hq => by
    obtain ⟨fd, F⟩ := c.t.d.defs (d := q.dd) (List.mem_append_left _ (List.mem_map.mpr ⟨q, hq, rfl⟩))
    refine ⟨fd, F, ?_⟩
    obtain ⟨oc, od, dV, kV, doc, pm, an, cdv, ct, osl, e, lk, hci, _, _⟩ := F.ex
    obtain ⟨c0, ec⟩ := He.codeIn_ref hci
    have e1 : fd.code = .ref c0 := by
      rw [e]
      exact ec
    have e2 : He.codeOf K q.at_ = c0 := He.codeOf_eq lk e1
    rw [e1]
    show Value.ref c0 = Value.ref (He.codeOf K q.at_)
    rw [e2]
  have at_ : ∀ base : Heap, (∀ p ∈ qs.map (fun q => He.cT K q.at_), GxR.TabB base mg p.1 p.2) → ∀ q ∈ qs, ∃ fd, DI.At l.prog w K mg base q (He.fAd K q.at_) fd (He.cT K q.at_).1 (He.cT K q.at_).2 := fun base tb q hq => by
    obtain ⟨fd, F, ec⟩ := defs q hq
    obtain ⟨_, S, B0, B1⟩ := good q hq
    refine ⟨fd, fun e => ⟨?_, ?_⟩, F, fun j hj => ?_, S, ec, tb _ (memP q hq), fun hm => List.mem_map.mpr ⟨q, List.mem_filter.mpr ⟨hq, by show (!decide (LAM ∈ q.N)) = true; simp [hm]⟩, rfl⟩, fun hm => List.mem_map.mpr ⟨q, List.mem_filter.mpr ⟨hq, by show decide (LAM ∈ q.N) = true; simp [hm]⟩, rfl⟩⟩
    · have h := gloQ q hq e
      have e2 : He.fAd K q.at_ = He.ga K q.x := by
        unfold DI.at_
        rw [e] <;> rfl
      rw [e2]
      exact h
    · have h := List.all_eq_true.mp c6 q hq
      rw [e] at h
      exact List.isEmpty_iff.mp h
    · by_cases hdv : q.dv = []
      · rw [hdv] at F ⊢
        exact ⟨[], by simpa using Paired.nil, FunD.bindsN F (B0 hdv)⟩
      · obtain ⟨q1, q2⟩ := B1 hdv
        have hm : (q.dv.map (He.Dv.v K)).length = q.dv.length := List.length_map ..
        refine FunD.binds1 F (q.ps.length - (q.dv.length - j)) j (by simpa using hdv) (by rw [hm]; omega) fun T kV doc pm an cdv ct us its hu hi => ?_
        exact q2 j hj T kV doc pm an cdv ct us its hu (by rw [hi, hm])
  have hql := List.mem_of_getElem? hli
  obtain ⟨fdl, Fl, ecl⟩ := defs ql hql
  have efA : He.fAd K ql.at_ = He.ga K ql.x := by
    unfold DI.at_
    rw [hcl] <;> rfl
  have efa : fa = He.fAd K ql.at_ := by
    have e := gloQ ql hql hcl
    rw [← hnm, hmg] at e
    cases e
    rw [efA, hnm]
  subst efa
  have fixO : ∀ base : Heap, (∀ p ∈ qs.map (fun q => He.cT K q.at_), GxR.TabB base mg p.1 p.2) → Fix l.prog w K mg base qs cn C (C.x.map fun xi => (He.ga K xi.nm, xi.fl)) := fun base tb => by
    have A := at_ base tb
    refine ⟨cons, fun i y kvs h1 h2 => ?_, fun ci_ ci hc => ?_, fun ci_ y ci f h1 h2 h3 => ?_, free, fun N => ⟨fun i xi hxi => ?_, fun j z hz => ?_⟩, of_decide_eq_true (He.ba hlm).1, hC, fun i L hL => ?_, hlt, fun k c0 y xi h1 h2 hfl => ?_⟩
    · have hz : (cn.d.zip C.d)[i]? = some (y, kvs) := by
        rw [List.getElem?_zip_eq_some]
        exact ⟨h1, h2⟩
      obtain ⟨es, m, D⟩ := c.t.tab i (t := ((fun K => He.ga K y), kvs.map (·.1))) (by
        unfold hTs
        rw [List.getElem?_map, hz]
        rfl)
      have hall : ∀ {as : List Str} {bs : List (List (Str × AV))} {i : Nat}, all2 (fun x kvs => dctOk K x kvs) as bs = true → as[i]? = some y → bs[i]? = some kvs → dctOk K y kvs = true := by
        intro as
        induction as with
        | nil => intro bs i _ e _; simp at e
        | cons a r ih =>
          intro bs i h e1 e2
          cases bs with
          | nil => cases h
          | cons b t =>
            obtain ⟨p1, p2⟩ := He.ba h
            cases i with
            | zero =>
              simp at e1 e2
              subst e1 e2
              exact p1
            | succ i => exact ih p2 (by simpa using e1) (by simpa using e2)
      exact ⟨_, es, m, gloD y (List.mem_of_getElem? h1), D, fun z => dct_ok (hall m2 h1 h2) z⟩
    · have hmem := List.mem_of_getElem? hc
      have eca : Tb.ca ci_ = He.ga K ci.nm := by
        show (match C.k[ci_]? with
          | some ci => He.ga K ci.nm
          | none => 0) = _
        rw [hc]
      rw [eca]
      have F := clsF ci hmem
      refine ⟨He.cls_ok (F (.cls ci.nm) (by unfold ciFa; simp)), fun f hf => He.noat_ok (F (.noat ci.nm f) (by unfold ciFa; simp [hf])), fun m f hm => ?_⟩
      have hp := lookup_mem hm
      have hck := List.all_eq_true.mp c4 ci hmem
      obtain ⟨hck, _⟩ := He.ba hck
      have hq := List.all_eq_true.mp hck _ hp
      dsimp only at hq
      cases e : qs[f]? with
      | none => rw [e] at hq; cases hq
      | some q =>
        rw [e] at hq
        dsimp only at hq
        obtain ⟨hq, q3⟩ := He.ba hq
        obtain ⟨q1, q2⟩ := He.ba hq
        have e1 := of_decide_eq_true q1
        have e2 := of_decide_eq_true q2
        obtain ⟨fd, at2⟩ := A q (List.mem_of_getElem? e)
        refine ⟨q, _, fd, _, _, rfl, at2, ?_, fun df hdf => ?_⟩
        · have e3 : He.fAd K q.at_ = He.ma K (He.ga K ci.nm) m := by
            unfold DI.at_
            rw [e1, e2] <;> rfl
          rw [e3]
          exact He.meth_ok (F (.meth ci.nm m) (by unfold ciFa; simp; exact Or.inl ⟨f, hp⟩))
        · rw [hdf] at q3
          exact q3
    · have hmem := List.mem_of_getElem? h2
      have eca : Tb.ca ci_ = He.ga K ci.nm := by
        show (match C.k[ci_]? with
          | some ci => He.ga K ci.nm
          | none => 0) = _
        rw [h2]
      rw [eca]
      have F := clsF ci hmem
      have ey : ci.nm = y := by
        rw [ek, List.getElem?_map, h2] at h1
        exact Option.some.inj h1
      refine ⟨by rw [← ey]; exact He.glo_ok KX Gg (F (.glo ci.nm) (by unfold ciFa; simp)), ?_⟩
      have hck := List.all_eq_true.mp c4 ci hmem
      obtain ⟨_, hq⟩ := He.ba hck
      rw [h3] at hq
      dsimp only at hq
      cases e : qs[f]? with
      | none => rw [e] at hq; cases hq
      | some q =>
        rw [e] at hq
        dsimp only at hq
        obtain ⟨hq, q3⟩ := He.ba hq
        obtain ⟨q1, q2⟩ := He.ba hq
        have e1 := of_decide_eq_true q1
        have e2 := of_decide_eq_true q2
        obtain ⟨fd, at2⟩ := A q (List.mem_of_getElem? e)
        refine ⟨q, _, fd, _, _, rfl, at2, List.isEmpty_iff.mp q3, ?_⟩
        have e3 : He.fAd K q.at_ = He.ma K (He.ga K ci.nm) "__init__" := by
          unfold DI.at_
          rw [e1, e2] <;> rfl
        rw [e3]
        exact He.mkr_ok (F (.mkr ci.nm) (by unfold ciFa; rw [h3]; simp))
    · have hmem := List.mem_of_getElem? hxi
      have hx := List.all_eq_true.mp m3 xi hmem
      obtain ⟨x1, x2⟩ := He.ba hx
      refine ⟨He.ga K xi.nm, by show (C.x.map _)[i]? = _; rw [List.getElem?_map, hxi]; rfl, xsB_ok x1, fun j z hz => ?_⟩
      have hz' : (C.x.map (·.nm))[j]? = some z := by
        rw [← ex]
        exact hz
      rw [List.getElem?_map] at hz'
      cases e : C.x[j]? with
      | none => rw [e] at hz'; cases hz'
      | some xj =>
        rw [e] at hz'
        have ez : xj.nm = z := Option.some.inj hz'
        have hj : j ∈ List.range C.x.length := List.mem_range.mpr (List.getElem?_eq_some_iff.mp e).1
        have h := List.all_eq_true.mp x2 j hj
        rw [e] at h
        obtain ⟨y1, y2⟩ := He.ba h
        refine ⟨He.ga K xj.nm, by rw [← ez]; exact gloX xj (List.mem_of_getElem? e), by show ((C.x.map _)[j]?.map _) = _; rw [List.getElem?_map, e]; rfl, of_decide_eq_true y1, of_decide_eq_true y2⟩
    · have hz' : (C.x.map (·.nm))[j]? = some z := by
        rw [← ex]
        exact hz
      rw [List.getElem?_map] at hz'
      cases e : C.x[j]? with
      | none => rw [e] at hz'; cases hz'
      | some xj =>
        rw [e] at hz'
        have ez : xj.nm = z := Option.some.inj hz'
        exact ⟨He.ga K xj.nm, by rw [← ez]; exact gloX xj (List.mem_of_getElem? e), by show ((C.x.map _)[j]?.map _) = _; rw [List.getElem?_map, e]; rfl⟩
    · have z := List.all_eq_true.mp (He.ba hlm).2 L (List.mem_of_getElem? hL)
      cases e : qs[L.f]? with
      | none => rw [e] at z; cases z
      | some q => rw [e] at z; exact ⟨q, rfl, of_decide_eq_true z⟩
    · have hmem := List.mem_of_getElem? h2
      have ey : xi.nm = y := by
        rw [ex, List.getElem?_map, h2] at h1
        exact Option.some.inj h1
      refine ⟨He.ga K xi.nm, by rw [List.getElem?_map, h2]; rfl, ?_⟩
      have h5 := List.all_eq_true.mp c5 xi hmem
      rcases Bool.or_eq_true_iff.mp h5 with h5 | h5
      · exact absurd (List.isEmpty_iff.mp h5) hfl
      · obtain ⟨q, hq, h6⟩ := List.any_eq_true.mp h5
        obtain ⟨h6, h7⟩ := He.ba h6
        have e1 := of_decide_eq_true h6
        have e2 := of_decide_eq_true h7
        obtain ⟨S, B, I, hl, h400⟩ := goodX q hq
        have hi := List.all_eq_true.mp m4 q hq
        obtain ⟨hi, i3⟩ := He.ba hi
        obtain ⟨i1, i2⟩ := He.ba hi
        obtain ⟨fd, F⟩ := c.t.d.defs (d := q.dd) (List.mem_append_right _ (List.mem_map.mpr ⟨q, hq, rfl⟩))
        have O := oexB_ok i1
        have hxs := xsB_ok (He.ba (List.all_eq_true.mp m3 xi hmem)).1
        rw [← e2] at hfl hxs ⊢
        rw [← e1] at hxs ⊢
        refine ⟨by rw [← ey, ← e1]; have := gloX xi hmem; rw [← e1] at this; exact this, O, hfl, h400, _, fd, q.ps, of_decide_eq_true i2, of_decide_eq_true i3, FunD.bindsN F B, ?_⟩
        obtain ⟨oc, od, dV, kV, doc, pm, an, cdv, ct, osl, e, lk, hci, _, _⟩ := F.ex
        subst e
        refine fnG_leaf lk hci S (fun vs H Q E h => ?_) (fun A outer s H vs Q E h => ?_)
        · obtain ⟨a, ys, rfl, hy, _⟩ := h
          rw [hl, List.length_cons, hy]
        · obtain ⟨a, ys, rfl, hy, hne, ha, hq2⟩ := h
          refine ⟨_, ini_ok (X := cxOf (L2.CX l.prog w) l.prog w K mg base q.N q.qual (defScope q.st) (He.fAd K (q.nm, some "__init__")) cdv A outer s H E) O q.fl 1 (defBody q.st) I hxs.no h400, a, ys, ?_, fun j y hj => ?_, hy, Or.inl ⟨hne, ha, hq2⟩⟩
          · unfold L2.start
            simp
          · unfold L2.start
            rw [List.getElem?_append_left (by
              have := (List.getElem?_eq_some_iff.mp hj).1
              simp
              omega), List.getElem?_map, show 1 + j = j + 1 from by omega, List.getElem?_cons_succ, hj]
            rfl
  have main : ∀ base : Heap, K.In base → base.Ns mainGlobals mg → (∀ p ∈ qs.map (fun q => He.cT K q.at_), GxR.TabB base mg p.1 p.2) → FnG l.prog w K mg base k 0 (He.fAd K ql.at_) fdl [x] (spI K (C.x.map fun xi => (He.ga K xi.nm, xi.fl)) (tab C (qs.map (·.d)) k 0 li)) := fun base kb nb tb => by
    have A := at_ base tb
    obtain ⟨fd2, At2⟩ := A ql hql
    have efd : fd2 = fdl := by
      obtain ⟨oc, od, dV, kV, doc, pm, an, cdv, ct, osl, e, lk, _⟩ := Fl.ex
      obtain ⟨oc2, od2, dV2, kV2, doc2, pm2, an2, cdv2, ct2, osl2, e2, lk2, _⟩ := At2.F.ex
      rw [lk] at lk2
      cases lk2
      rfl
    subst efd
    have R := prog_ok (P := l.prog) (W := w) (K := K) (mg := mg) (base := base) (qs := qs) (cn := cn) (C := C) (xc := C.x.map fun xi => (He.ga K xi.nm, xi.fl)) (fun q hq => ⟨(good q hq).1, He.fAd K q.at_, by
      obtain ⟨fd, h⟩ := A q hq
      exact ⟨fd, _, _, h⟩⟩) hss (fixO base tb) k li ql hli _ _ _ _ At2
    rw [hps] at R
    exact R
  have bnd : ∀ (s : Shared) (u : Value), BindsTo s fdl ⟨[u], []⟩ [(x, u)] := fun s u => by
    rw [hdv] at Fl
    have h := FunD.bindsA Fl ((good ql hql).2.2.1 hdv) s [u] (by rw [hps]; rfl)
    rw [hps] at h
    exact h
  refine law_run (cs := qs.map fun q => He.cT K q.at_) KX Gg G.T.b G.T.builtins G.T.nolimit hg (fun p hp => ?_) (fun p hp => ?_) (fun p hp => ?_) G.T.bmain hobj hints (Nat.le_trans hlen hn2) hr main bnd (fun H hH hz => ?_)
  · obtain ⟨q, hq, rfl⟩ := ofP p hp
    exact c.empty _ (tfm q hq)
  · obtain ⟨q, hq, rfl⟩ := ofP p hp
    exact c.out _ (tfm q hq)
  · obtain ⟨q, hq, rfl⟩ := ofP p hp
    exact PySem.W.codeHd_of_K KX (c.hd _ (tfm q hq))
  · obtain ⟨s', e⟩ := math ns hlen hbits
    refine ⟨[], [], [.lst (ns.map AV.int)], ⟨rfl, List.nodup_nil, ⟨fun P hP => ?_, fun p hp => ?_⟩, fun m a o e1 e2 => by simp at e1⟩, .cons (.lst hz ?_) .nil, ?_⟩
    · obtain ⟨q, hq, rfl⟩ := List.mem_map.mp hP
      exact ⟨#[], hH _ (memP q (List.mem_filter.mp hq).1), trivial⟩
    · obtain ⟨q, hq, rfl⟩ := List.mem_map.mp hp
      exact ⟨#[], hH _ (memP q (List.mem_filter.mp hq).1), trivial, fun pos cv h => by cases h⟩
    · have all : ∀ zs : List Int, RpL K [] H (zs.map V.int) (zs.map AV.int) := fun zs => by
        induction zs with
        | nil => exact .nil
        | cons z r ih => exact .cons (.int z) ih
      exact all ns
    · rw [e]
      intro ρ' H' b _ _ rb
      cases rb
      rfl
end Jp


set_option Elab.async false
set_option linter.all false
set_option maxRecDepth 100000
namespace Jp
open PySem PySem.Spec PyProof.Rows L2
def scB (q : DI) : Bool := decide ((defScope q.st).kind = .function) && !(defScope q.st).isCoroutine && !(defScope q.st).isGenerator && decide (q.N.Nodup) && decide (q.N.take q.ps.length = q.ps) &&
  (q.ps.all fun x => decide ((defScope q.st).names.lookup x = some .local) || decide ((defScope q.st).names.lookup x = some .cell)) && ((defScope q.st).names.all fun y => decide (y.2 ≠ .free))
theorem scB_ok {q : DI} (h : scB q = true) : FnScope q.N q.ps (defScope q.st) := by
  unfold scB at h
  obtain ⟨h, h7⟩ := He.ba h
  obtain ⟨h, h6⟩ := He.ba h
  obtain ⟨h, h5⟩ := He.ba h
  obtain ⟨h, h4⟩ := He.ba h
  obtain ⟨h, h3⟩ := He.ba h
  obtain ⟨h1, h2⟩ := He.ba h
  refine ⟨of_decide_eq_true h1, by simpa using h2, by simpa using h3, of_decide_eq_true h4, of_decide_eq_true h5, fun x hx => ?_, fun y hy => of_decide_eq_true (List.all_eq_true.mp h7 y hy)⟩
  rcases Bool.or_eq_true_iff.mp (List.all_eq_true.mp h6 x hx) with z | z
  · exact Or.inl (of_decide_eq_true z)
  · exact Or.inr (of_decide_eq_true z)
def scX (q : XDI) : Bool := decide ((defScope q.st).kind = .function) && !(defScope q.st).isCoroutine && !(defScope q.st).isGenerator && decide (q.N.Nodup) && decide (q.N.take q.ps.length = q.ps) &&
  (q.ps.all fun x => decide ((defScope q.st).names.lookup x = some .local) || decide ((defScope q.st).names.lookup x = some .cell)) && ((defScope q.st).names.all fun y => decide (y.2 ≠ .free))
theorem scX_ok {q : XDI} (h : scX q = true) : FnScope q.N q.ps (defScope q.st) := by
  unfold scX at h
  obtain ⟨h, h7⟩ := He.ba h
  obtain ⟨h, h6⟩ := He.ba h
  obtain ⟨h, h5⟩ := He.ba h
  obtain ⟨h, h4⟩ := He.ba h
  obtain ⟨h, h3⟩ := He.ba h
  obtain ⟨h1, h2⟩ := He.ba h
  refine ⟨of_decide_eq_true h1, by simpa using h2, by simpa using h3, of_decide_eq_true h4, of_decide_eq_true h5, fun x hx => ?_, fun y hy => of_decide_eq_true (List.all_eq_true.mp h7 y hy)⟩
  rcases Bool.or_eq_true_iff.mp (List.all_eq_true.mp h6 x hx) with z | z
  · exact Or.inl (of_decide_eq_true z)
  · exact Or.inr (of_decide_eq_true z)
end Jp


set_option Elab.async false
set_option linter.all false
set_option maxRecDepth 1000000
set_option maxHeartbeats 4000000
namespace L03H
open PySem PySem.Spec PyProof.Rows L2 Jp
def cn : Nm := { cn0 with lm := L03.lms, lt := ltF (qs.map DI.fnm) cn0 L03.lms }
theorem b_q0 : BindsAs q0 := ⟨fun _ _ _ _ _ _ _ us hl => match us, hl with | [_], _ => rfl, fun h => absurd rfl h⟩
theorem b_q1 : BindsAs q1 := ⟨fun _ _ _ _ _ _ _ us hl => match us, hl with | [_], _ => rfl, fun h => absurd rfl h⟩
theorem b_q2 : BindsAs q2 := ⟨fun _ _ _ _ _ _ _ us hl => match us, hl with | [_, _], _ => rfl, fun h => absurd rfl h⟩
theorem b_q3 : BindsAs q3 := ⟨fun _ _ _ _ _ _ _ us hl => match us, hl with | [_, _, _, _], _ => rfl, fun h => absurd rfl h⟩
theorem b_q4 : BindsAs q4 := ⟨fun _ _ _ _ _ _ _ us hl => match us, hl with | [_, _, _, _, _], _ => rfl, fun h => absurd rfl h⟩
theorem b_q5 : BindsAs q5 := ⟨fun _ _ _ _ _ _ _ us hl => match us, hl with | [_, _], _ => rfl, fun h => absurd rfl h⟩
theorem b_q6 : BindsAs q6 := ⟨fun _ _ _ _ _ _ _ us hl => match us, hl with | [_], _ => rfl, fun h => absurd rfl h⟩
theorem b_q7 : BindsAs q7 := ⟨fun _ _ _ _ _ _ _ us hl => match us, hl with | [_, _, _], _ => rfl, fun h => absurd rfl h⟩
theorem b_q8 : BindsAs q8 := ⟨fun _ _ _ _ _ _ _ us hl => match us, hl with | [_, _], _ => rfl, fun h => absurd rfl h⟩
theorem b_q9 : BindsAs q9 := ⟨fun _ _ _ _ _ _ _ us hl => match us, hl with | [_, _, _], _ => rfl, fun h => absurd rfl h⟩
theorem b_q10 : BindsAs q10 := ⟨fun _ _ _ _ _ _ _ us hl => match us, hl with | [_], _ => rfl, fun h => absurd rfl h⟩
theorem b_q11 : BindsAs q11 := ⟨fun _ _ _ _ _ _ _ us hl => match us, hl with | [_], _ => rfl, fun h => absurd rfl h⟩
theorem b_q12 : BindsAs q12 := ⟨fun _ _ _ _ _ _ _ us hl => match us, hl with | [_, _, _], _ => rfl, fun h => absurd rfl h⟩
theorem b_q13 : BindsAs q13 := ⟨fun _ _ _ _ _ _ _ us hl => match us, hl with | [_, _, _], _ => rfl, fun h => absurd rfl h⟩
theorem b_q14 : BindsAs q14 := ⟨fun _ _ _ _ _ _ _ us hl => match us, hl with | [_, _, _], _ => rfl, fun h => absurd rfl h⟩
theorem b_q15 : BindsAs q15 := ⟨fun _ _ _ _ _ _ _ us hl => match us, hl with | [_], _ => rfl, fun h => absurd rfl h⟩
theorem b_q16 : BindsAs q16 := ⟨fun _ _ _ _ _ _ _ us hl => match us, hl with | [_, _], _ => rfl, fun h => absurd rfl h⟩
theorem b_q17 : BindsAs q17 := ⟨fun _ _ _ _ _ _ _ us hl => match us, hl with | [_], _ => rfl, fun h => absurd rfl h⟩
theorem b_q18 : BindsAs q18 := ⟨fun _ _ _ _ _ _ _ us hl => match us, hl with | [_, _], _ => rfl, fun h => absurd rfl h⟩
theorem b_q19 : BindsAs q19 := ⟨fun _ _ _ _ _ _ _ us hl => match us, hl with | [_, _], _ => rfl, fun h => absurd rfl h⟩
theorem b_q20 : BindsAs q20 := ⟨fun _ _ _ _ _ _ _ us hl => match us, hl with | [_, _], _ => rfl, fun h => absurd rfl h⟩
theorem b_q21 : BindsAs q21 := ⟨fun _ _ _ _ _ _ _ us hl => match us, hl with | [_, _, _], _ => rfl, fun h => absurd rfl h⟩
theorem b_q22 : BindsAs q22 := ⟨fun _ _ _ _ _ _ _ us hl => match us, hl with | [_, _], _ => rfl, fun h => absurd rfl h⟩
theorem b_q23 : BindsAs q23 := ⟨fun _ _ _ _ _ _ _ us hl => match us, hl with | [_, _], _ => rfl, fun h => absurd rfl h⟩
theorem b_q24 : BindsAs q24 := ⟨fun _ _ _ _ _ _ _ us hl => match us, hl with | [_, _], _ => rfl, fun h => absurd rfl h⟩
theorem b_q25 : BindsAs q25 := ⟨fun _ _ _ _ _ _ _ us hl => match us, hl with | [_], _ => rfl, fun h => absurd rfl h⟩
theorem b_q26 : BindsAs q26 := ⟨fun _ _ _ _ _ _ _ us hl => match us, hl with | [_], _ => rfl, fun h => absurd rfl h⟩
theorem b_q27 : BindsAs q27 := ⟨fun _ _ _ _ _ _ _ us hl => match us, hl with | [_], _ => rfl, fun h => absurd rfl h⟩
theorem b_q28 : BindsAs q28 := ⟨fun _ _ _ _ _ _ _ us hl => match us, hl with | [_], _ => rfl, fun h => absurd rfl h⟩
theorem b_q29 : BindsAs q29 := ⟨fun _ _ _ _ _ _ _ us hl => match us, hl with | [_], _ => rfl, fun h => absurd rfl h⟩
theorem b_q30 : BindsAs q30 := ⟨fun _ _ _ _ _ _ _ us hl => match us, hl with | [_, _, _, _], _ => rfl, fun h => absurd rfl h⟩
theorem b_q31 : BindsAs q31 := ⟨fun _ _ _ _ _ _ _ us hl => match us, hl with | [_, _, _, _], _ => rfl, fun h => absurd rfl h⟩
theorem b_q32 : BindsAs q32 := ⟨fun _ _ _ _ _ _ _ us hl => match us, hl with | [_, _, _], _ => rfl, fun h => absurd rfl h⟩
theorem b_q33 : BindsAs q33 := ⟨fun _ _ _ _ _ _ _ us hl => match us, hl with | [_], _ => rfl, fun h => absurd rfl h⟩
theorem b_q34 : BindsAs q34 := ⟨fun _ _ _ _ _ _ _ us hl => match us, hl with | [_], _ => rfl, fun h => absurd rfl h⟩
theorem b_q35 : BindsAs q35 := ⟨fun _ _ _ _ _ _ _ us hl => match us, hl with | [_], _ => rfl, fun h => absurd rfl h⟩
end L03H
namespace L03H
open PySem PySem.Spec PyProof.Rows L2 Jp
theorem good0 : (qs.all fun q => q.good (qs.map DI.fnm) cn) = true := by decide +kernel
theorem scs0 : (qs.all scB) = true := by decide +kernel
theorem bnds : ∀ q ∈ qs, BindsAs q := by
  intro q hq
  simp only [qs, List.mem_cons, List.not_mem_nil, or_false] at hq
  rcases hq with rfl | rfl | rfl | rfl | rfl | rfl | rfl | rfl | rfl | rfl | rfl | rfl | rfl | rfl | rfl | rfl | rfl | rfl | rfl | rfl | rfl | rfl | rfl | rfl | rfl | rfl | rfl | rfl | rfl | rfl | rfl | rfl | rfl | rfl | rfl | rfl
  · exact b_q0
  · exact b_q1
  · exact b_q2
  · exact b_q3
  · exact b_q4
  · exact b_q5
  · exact b_q6
  · exact b_q7
  · exact b_q8
  · exact b_q9
  · exact b_q10
  · exact b_q11
  · exact b_q12
  · exact b_q13
  · exact b_q14
  · exact b_q15
  · exact b_q16
  · exact b_q17
  · exact b_q18
  · exact b_q19
  · exact b_q20
  · exact b_q21
  · exact b_q22
  · exact b_q23
  · exact b_q24
  · exact b_q25
  · exact b_q26
  · exact b_q27
  · exact b_q28
  · exact b_q29
  · exact b_q30
  · exact b_q31
  · exact b_q32
  · exact b_q33
  · exact b_q34
  · exact b_q35
theorem goods : ∀ q ∈ qs, q.good (qs.map DI.fnm) cn = true ∧ FnScope q.N q.ps (defScope q.st) ∧ BindsAs q := fun q hq =>
  ⟨List.all_eq_true.mp good0 q hq, scB_ok (List.all_eq_true.mp scs0 q hq), bnds q hq⟩
def xB (q : XDI) : Bool := scX q && iniB q.N (defScope q.st) 1 q.fl (defBody q.st) && decide (q.ps.length = q.fl.length + 1) && decide (q.fl.length ≤ 400)
theorem xs0 : (xd.all xB) = true := by decide +kernel
theorem bndX : ∀ q ∈ xd, BindsX q := by
  intro q hq
  cases hq
theorem goodX : ∀ q ∈ xd, FnScope q.N q.ps (defScope q.st) ∧ BindsX q ∧ iniB q.N (defScope q.st) 1 q.fl (defBody q.st) = true ∧ q.ps.length = q.fl.length + 1 ∧ q.fl.length ≤ 400 := fun q hq => by
  have h := List.all_eq_true.mp xs0 q hq
  unfold xB at h
  obtain ⟨h, h4⟩ := He.ba h
  obtain ⟨h, h3⟩ := He.ba h
  obtain ⟨h1, h2⟩ := He.ba h
  exact ⟨scX_ok h1, bndX q hq, h2, of_decide_eq_true h3, of_decide_eq_true h4⟩
theorem cls0 : clsB qs cn0 L03.G xd = true := by decide +kernel
theorem lm0 : lmB qs cn = true := by decide +kernel
theorem lt0 : LtOk qs cn := ltF_ok (cn0 := cn0) (lm := L03.lms) rfl rfl rfl
end L03H


set_option Elab.async false
set_option linter.all false
set_option maxRecDepth 100000
namespace L03
open PySem Jp
theorem bd_ok {α β : Type} (a : α) (s : Sto) (f : α → Sto → Rs β) : (Rs.ok a s).bd f = f a s := rfl
theorem letGo_same {n : Nat} {v : AV} {s : Sto} (h : s.length = n) : Jp.letGo n v s = s := by
  unfold Jp.letGo
  split
  · rw [← h, List.take_length]
  · rfl
section
variable {s : Sto} {k : Nat} {xs : List AV} {i j : Int} {x y : AV}
theorem idx_ref (h : s[k]? = some (.lst xs)) : opIdx (.ref k) (.int i) s = L2.atI xs i := by
  show (match items s (.ref k) with
    | some xs => L2.atI xs i
    | none => none) = _
  have e : items s (.ref k) = some xs := by
    simp only [items, h]
  rw [e]
theorem at0 : L2.atI (x :: xs) 0 = some x := by simp [L2.atI, L2.ixN]
theorem at1 : L2.atI (x :: y :: xs) 1 = some y := by
  have h : (1 : Int) < (((x :: y :: xs).length : Nat) : Int) := by simp only [List.length_cons]; omega
  unfold L2.atI L2.ixN
  rw [if_pos (by decide), if_pos h] <;> rfl
theorem ix21 : L2.ixN 2 1 = some 1 := by decide
theorem add_ii : opBin .add (.int i) (.int j) s = .ok (.int (i + j)) s := rfl
theorem mul_ij (h : -18446744073709551616 < j ∧ j < 18446744073709551616) : opBin .mul (.int i) (.int j) s = .ok (.int (i * j)) s := by
  show (if _ then _ else _) = _
  rw [if_pos (Or.inr h)]
theorem mod_ii (h : 0 < j) : opBin .mod (.int i) (.int j) s = .ok (.int (i % j)) s := by
  show (if _ then _ else _) = _
  rw [if_pos h]
theorem lt_ii : opCmp .lt (.int i) (.int j) s = some (decide (i < j)) := rfl
theorem tr_b {b : Bool} : truth s (.bl b) = some b := rfl
theorem len_ref (h : s[k]? = some (.lst xs)) : opBi .len [.ref k] s = .ok (.int (xs.length : Nat)) s := by
  show (match items s (.ref k) with
    | some ys => Rs.ok (AV.int (ys.length : Nat)) s
    | none => .bad) = _
  have e : items s (.ref k) = some xs := by
    simp only [items, h]
  rw [e]
theorem int_i : opBi .int [.int i] s = .ok (.int i) s := rfl
theorem opt_some {α : Type} (a : α) : opt (some a) s = .ok a s := rfl
theorem atI_int (zs : List Int) (h0 : 0 ≤ i) (h : i < zs.length) : ∃ z, L2.atI (zs.map AV.int) i = some (.int z) := by
  unfold L2.atI L2.ixN
  rw [if_pos h0, if_pos (by simpa using h)]
  have hl : i.toNat < zs.length := by omega
  exact ⟨zs[i.toNat], by simp [hl]⟩
end
theorem draw (k : Nat) (b a : Nat) (s : Sto) (at_ many : Int) (zs : List Int) (hb : s[b]? = some (.lst [.ref a, .int at_])) (ha : s[a]? = some (.lst (zs.map AV.int))) (hab : a ≠ b) (h0 : 0 ≤ at_) (hm : 0 < many) :
    ∃ r : Int, 0 ≤ r ∧ r < many ∧ tab G defs (k + 1) 0 22 [.ref b, .int many] s = .ok (.int r) (s.set b (.lst [.ref a, .int (at_ + 1)])) := by
  have hbl : b < s.length := (List.getElem?_eq_some_iff.mp hb).1
  have hb2 : (s.set b (.lst [.ref a, .int (at_ + 1)]))[b]? = some (.lst [.ref a, .int (at_ + 1)]) := List.getElem?_set_self hbl
  have ha2 : (s.set b (.lst [.ref a, .int (at_ + 1)]))[a]? = some (.lst (zs.map AV.int)) := by
    rw [List.getElem?_set_ne (fun e => hab e.symm)]
    exact ha
  have e : tab G defs (k + 1) 0 22 = runD (fun g => tab G defs k (4 * g)) G d22 := by
    funext xs s
    rfl
  rw [e]
  unfold runD d22
  simp only [List.length_cons, List.length_nil, exs, exI, evI, evs, bd_ok, List.map, List.replicate, List.cons_append, List.nil_append, List.getElem?_cons_zero, List.getElem?_cons_succ, asT, opt_some, idx_ref hb, at1, if_true, add_ii, Nat.lt_irrefl, List.set_cons_zero, List.set_cons_succ,
    Nat.reduceAdd, Nat.reduceLT, reduceIte, Nat.reduceSub, hb, ix21, idx_ref hb2, at0, len_ref ha2, lt_ii, tr_b, int_i, idx_ref ha2, mod_ii hm, mul_ij (show -18446744073709551616 < (7 : Int) ∧ (7 : Int) < 18446744073709551616 by decide)]
  rw [List.length_map, Option.map_some]
  have ls : (s.set b (.lst [.ref a, .int (at_ + 1)])).length = s.length := List.length_set
  by_cases hlt : at_ < (zs.length : Int)
  · obtain ⟨z, hz⟩ := atI_int zs h0 hlt
    have hd : decide (at_ < (zs.length : Int)) = true := decide_eq_true hlt
    refine ⟨z % many, Int.emod_nonneg _ (Int.ne_of_gt hm), Int.emod_lt_of_pos _ hm, ?_⟩
    simp only [hd, opt_some, bd_ok, tr_b, if_true, idx_ref hb2, at0, idx_ref ha2, hz, int_i, mod_ii hm, letGo_same ls]
  · have hd : decide (at_ < (zs.length : Int)) = false := decide_eq_false hlt
    refine ⟨(at_ * 7 + 3) % many, Int.emod_nonneg _ (Int.ne_of_gt hm), Int.emod_lt_of_pos _ hm, ?_⟩
    simp only [hd, opt_some, bd_ok, tr_b, Bool.false_eq_true, if_false, List.getElem?_cons_zero, List.getElem?_cons_succ, mul_ij (show -18446744073709551616 < (7 : Int) ∧ (7 : Int) < 18446744073709551616 by decide), add_ii, int_i, mod_ii hm, letGo_same ls]
end L03
namespace L03
open PySem Jp
def S2 (zs : List Int) (at_ : Int) : Sto := [.lst (zs.map AV.int), .lst [.ref 0, .int at_]]
theorem draw2 (k : Nat) (zs : List Int) (at_ many : Int) (r : Sto) (h0 : 0 ≤ at_) (hm : 0 < many) :
    ∃ x : Int, 0 ≤ x ∧ x < many ∧ tab G defs (k + 1) 0 22 [.ref 1, .int many] (S2 zs at_ ++ r) = .ok (.int x) (S2 zs (at_ + 1) ++ r) := draw k 1 0 (S2 zs at_ ++ r) at_ many zs rfl rfl (by decide) h0 hm
theorem sub_ii {s : Sto} {i j : Int} : opBin .sub (.int i) (.int j) s = .ok (.int (i - j)) s := rfl
theorem eq_ii {s : Sto} {i j : Int} : opCmp .eq (.int i) (.int j) s = some (decide (i = j)) := by
  first
    | rfl
    | simp [opCmp, eqD]
theorem low_ints (n : Nat) : ∀ zs : List Int, lowL n (zs.map AV.int) = true
  | [] => rfl
  | z :: r => by
    show (lowA n (.int z) && lowL n (r.map AV.int)) = true
    rw [low_ints n r] <;> rfl
theorem letGo2 (zs : List Int) (at_ : Int) (v : AV) (r : Sto) (h : lowA 2 v = true) : Jp.letGo 2 v (S2 zs at_ ++ r) = S2 zs at_ := by
  unfold Jp.letGo
  have e : (S2 zs at_ ++ r).take 2 = S2 zs at_ := rfl
  rw [e, h]
  have e2 : ((S2 zs at_).all (lowO 2)) = true := by
    show (lowL 2 (zs.map AV.int) && ((lowL 2 [.ref 0, .int at_]) && true)) = true
    rw [low_ints 2 zs] <;> rfl
  rw [e2] <;> rfl
end L03

namespace L03
open PySem Jp
/-! ### the digits: a new list of ints, nothing else is wanted -/
theorem cell (k : Nat) (ns : List Int) (i : Int) (h0 : 0 ≤ i) (s : Sto) : ∃ c : Int, tab G defs (k + 1) 0 18 [.lst (ns.map AV.int), .int i] s = .ok (.int c) s := by
  have e : tab G defs (k + 1) 0 18 = runD (fun g => tab G defs k (4 * g)) G d18 := by
    funext xs s
    rfl
  have el : opBi .len [.lst (ns.map AV.int)] s = .ok (.int (ns.length : Nat)) s := by
    show Rs.ok (AV.int ((ns.map AV.int).length : Nat)) s = _
    rw [List.length_map]
  have ei : opIdx (.lst (ns.map AV.int)) (.int i) s = L2.atI (ns.map AV.int) i := rfl
  rw [e]
  unfold runD d18
  by_cases hlt : i < (ns.length : Int)
  · obtain ⟨z, hz⟩ := atI_int ns h0 hlt
    have hd : decide (i < (ns.length : Int)) = true := decide_eq_true hlt
    refine ⟨z, ?_⟩
    simp only [List.length_cons, List.length_nil, exs, exI, evI, evs, bd_ok, List.map_cons, List.map_nil, List.replicate, List.cons_append, List.nil_append, List.getElem?_cons_zero, List.getElem?_cons_succ, opt_some, if_true, Nat.reduceAdd, Nat.reduceSub, reduceIte, el, lt_ii, Option.map_some, hd, tr_b, ei, hz, letGo_same]
  · have hd : decide (i < (ns.length : Int)) = false := decide_eq_false hlt
    refine ⟨0, ?_⟩
    simp only [List.length_cons, List.length_nil, exs, exI, evI, evs, bd_ok, List.map_cons, List.map_nil, List.replicate, List.cons_append, List.nil_append, List.getElem?_cons_zero, List.getElem?_cons_succ, opt_some, if_true, Nat.reduceAdd, Nat.reduceSub, reduceIte, el, lt_ii, Option.map_some, hd, tr_b, Bool.false_eq_true, if_false, letGo_same]
/-- a for, by what holds ahead of each turn -/
theorem for_inv {ex : Slots → Sto → Rs Fl} {t : IT} {wk : IW} {src whole : List AV} (P : Nat → Slots → Sto → Prop) : ∀ (l : List AV) (j : Nat) (σ : Slots) (s : Sto),
    (∀ (m : Nat) (x : AV) (σ : Slots) (s : Sto), l[m]? = some x → P (j + m) σ s → ∃ σ2 σ3 s3, asT s t x σ = some σ2 ∧ (ex σ2 s = .ok (.nx σ3) s3) ∧ stands wk src whole s3 = true ∧ P (j + m + 1) σ3 s3) → P j σ s →
    ∃ σ' s', forLoop ex t wk src whole l σ s = .ok (.nx σ') s' ∧ P (j + l.length) σ' s'
  | [], j, σ, s, _, p => ⟨σ, s, rfl, p⟩
  | x :: r, j, σ, s, h, p => by
    obtain ⟨σ2, σ3, s3, h1, h2, h3, h4⟩ := h 0 x σ s rfl p
    obtain ⟨σ', s', q1, q2⟩ := for_inv P r (j + 1) σ3 s3 (fun m y σ s hm hp => by
      have z := h (m + 1) y σ s (by simpa using hm) (by rw [show j + (m + 1) = j + 1 + m from by omega]; exact hp)
      rw [show j + (m + 1) + 1 = j + 1 + m + 1 from by omega] at z
      exact z) h4
    refine ⟨σ', s', ?_, by rw [List.length_cons, show j + (r.length + 1) = j + 1 + r.length from by omega]; exact q2⟩
    simp only [forLoop, h1, h2, bd_ok, h3, if_true]
    exact q1
end L03

namespace L03
open PySem Jp
def sl (ns : List Int) (i : Int) (c5 c6 c7 : Option AV) : Slots := [some (.lst (ns.map AV.int)), some (.int 0), some (.int 60), some (.ref 0), some (.int i), c5, c6, c7]
def St (zs : List Int) : Sto := [.lst (zs.map AV.int)]
def innerA : List IS := [(.ifs (.cmp .gt (.slot 5) (.lit (.int 0))) [(.ex (.me .append (.slot 3) [(.bin .mod (.bi .int [(.slot 5)]) (.lit (.int 1000)))])), (.asg (.nm 5) (.bin .fdiv (.slot 5) (.lit (.int 1000))))] [])]
def innerB : List IS := [(.asg (.nm 7) (.bin .mod (.bi .int [(.bin .add (.bin .add (.bin .mul (.slot 7) (.lit (.int 16807))) (.bin .mul (.lit (.int 7)) (.slot 6))) (.lit (.int 1)))]) (.lit (.int 2147483647)))),
  (.ex (.me .append (.slot 3) [(.bin .mod (.bi .int [(.bin .fdiv (.slot 7) (.lit (.int 997)))]) (.lit (.int 1000)))]))]
def bodyO : List IS := [(.asg (.nm 5) (.call 18 [(.slot 0), (.slot 4)])),
  (.ifs (.cmp .lt (.slot 5) (.lit (.int 0))) [(.asg (.nm 5) (.bin .sub (.lit (.int 1)) (.bin .mul (.lit (.int 2)) (.slot 5))))] []),
  (.ifs (.cmp .ge (.slot 5) (.bin .pow (.lit (.int 10)) (.lit (.int 18)))) [(.for_ (.nm 6) .range1 [(.lit (.int 60))] innerA)]
    [(.asg (.nm 7) (.bin .mod (.bi .int [(.bin .add (.bin .add (.bin .mul (.slot 5) (.lit (.int 48271))) (.bin .mul (.slot 4) (.lit (.int 69621)))) (.lit (.int 11)))]) (.lit (.int 2147483647)))),
     (.for_ (.nm 6) .range1 [(.lit (.int 12))] innerB)])]
theorem d21_eq : d21 = ⟨8, 3, [(.asg (.nm 3) (.lst [])), (.for_ (.nm 4) .range2 [(.slot 1), (.slot 2)] bodyO), (.ret (.slot 3))]⟩ := rfl
section
variable {ns zs : List Int} {i c j : Int} {c5 c6 c7 : Option AV} {d : AV} {s : Sto}
theorem g3 : (sl ns i c5 c6 c7)[3]? = some (some (.ref 0)) := rfl
theorem g4 : (sl ns i c5 c6 c7)[4]? = some (some (.int i)) := rfl
theorem g0 : (sl ns i c5 c6 c7)[0]? = some (some (.lst (ns.map AV.int))) := rfl
theorem g5 : (sl ns i (some d) c6 c7)[5]? = some (some d) := rfl
theorem g6 : (sl ns i c5 (some d) c7)[6]? = some (some d) := rfl
theorem g7 : (sl ns i c5 c6 (some d))[7]? = some (some d) := rfl
theorem as5 : asT s (.nm 5) d (sl ns i c5 c6 c7) = some (sl ns i (some d) c6 c7) := rfl
theorem as6 : asT s (.nm 6) d (sl ns i c5 c6 c7) = some (sl ns i c5 (some d) c7) := rfl
theorem as7 : asT s (.nm 7) d (sl ns i c5 c6 c7) = some (sl ns i c5 c6 (some d)) := rfl
theorem gt_ii : opCmp .gt (.int i) (.int j) s = some (decide (j < i)) := rfl
theorem ge_ii : opCmp .ge (.int i) (.int j) s = some (decide (j ≤ i)) := rfl
theorem fdiv_ij (h : 0 < j ∧ j < 1073741824) : opBin .fdiv (.int i) (.int j) s = .ok (.int (i / j)) s := by
  show (if _ then _ else _) = _
  rw [if_pos h]
theorem mul_ji (h : -18446744073709551616 < i ∧ i < 18446744073709551616) : opBin .mul (.int i) (.int j) s = .ok (.int (i * j)) s := by
  show (if _ then _ else _) = _
  rw [if_pos (Or.inl h)]
theorem meT0 : meT .append (.ref 0) (St zs) = true := rfl
theorem app (h : zs.length < LINE) : opMe .append (.ref 0) [.int c] (St zs) = .ok .non (St (zs ++ [c])) := by
  show (if (zs.map AV.int).length < LINE then Rs.ok AV.non ((St zs).set 0 (.lst (zs.map AV.int ++ [.int c]))) else .bad) = _
  rw [List.length_map, if_pos h]
  show Rs.ok AV.non [AO.lst (zs.map AV.int ++ [.int c])] = Rs.ok AV.non [AO.lst ((zs ++ [c]).map AV.int)]
  rw [List.map_append] <;> rfl
end
theorem turnA (F : Nat → Nat → List AV → Sto → Rs AV) (n : Nat) (ns zs : List Int) (i c : Int) (c6 c7 : Option AV) (hl : zs.length < LINE) :
    ∃ c2 zs2, zs2.length ≤ zs.length + 1 ∧ exs (exI F G (n + 12)) innerA (sl ns i (some (.int c)) c6 c7) (St zs) = .ok (.nx (sl ns i (some (.int c2)) c6 c7)) (St zs2) := by
  by_cases h : (0 : Int) < c
  · refine ⟨c / 1000, zs ++ [c % 1000], by simp, ?_⟩
    unfold innerA
    simp only [exs, exI, evI, evs, bd_ok, g5, gt_ii, Option.map_some, decide_eq_true h, opt_some, tr_b, if_true, g3, meT0, int_i, mod_ii (show (0 : Int) < 1000 by decide), app hl, fdiv_ij (show (0 : Int) < 1000 ∧ (1000 : Int) < 1073741824 by decide), as5]
  · refine ⟨c, zs, by simp, ?_⟩
    unfold innerA
    simp only [exs, exI, evI, evs, bd_ok, g5, gt_ii, Option.map_some, decide_eq_false h, opt_some, tr_b, Bool.false_eq_true, if_false]
theorem turnB (F : Nat → Nat → List AV → Sto → Rs AV) (n : Nat) (ns zs : List Int) (i m q : Int) (c5 : Option AV) (hl : zs.length < LINE) :
    ∃ q2 zs2, zs2.length ≤ zs.length + 1 ∧ exs (exI F G (n + 12)) innerB (sl ns i c5 (some (.int m)) (some (.int q))) (St zs) = .ok (.nx (sl ns i c5 (some (.int m)) (some (.int q2)))) (St zs2) := by
  refine ⟨(q * 16807 + 7 * m + 1) % 2147483647, zs ++ [((q * 16807 + 7 * m + 1) % 2147483647 / 997) % 1000], by simp, ?_⟩
  unfold innerB
  simp only [exs, exI, evI, evs, bd_ok, g7, g6, mul_ij (show -18446744073709551616 < (16807 : Int) ∧ (16807 : Int) < 18446744073709551616 by decide), mul_ji (show -18446744073709551616 < (7 : Int) ∧ (7 : Int) < 18446744073709551616 by decide), add_ii, int_i, mod_ii (show (0 : Int) < 2147483647 by decide), mod_ii (show (0 : Int) < 1000 by decide), opt_some, as7, g3, meT0, if_true, fdiv_ij (show (0 : Int) < 997 ∧ (997 : Int) < 1073741824 by decide), app hl]
end L03

namespace L03
open PySem Jp
def upto (n : Nat) : List AV := (List.range n).map fun (k : Nat) => AV.int k
theorem upto_at {n m : Nat} {x : AV} (h : (upto n)[m]? = some x) : x = .int m := by
  unfold upto at h
  rw [List.getElem?_map] at h
  by_cases hm : m < n
  · rw [List.getElem?_range hm] at h
    exact (Option.some.inj h).symm
  · rw [List.getElem?_eq_none (by simpa using hm)] at h
    cases h
theorem upto_len {n : Nat} : (upto n).length = n := by simp [upto]
theorem walk60 {s : Sto} : walk .range1 [.int 60] s = some (upto 60) := rfl
theorem walk12 {s : Sto} : walk .range1 [.int 12] s = some (upto 12) := rfl
theorem loopA (F : Nat → Nat → List AV → Sto → Rs AV) (n : Nat) (ns zs : List Int) (i c : Int) (c6 c7 : Option AV) (hl : zs.length + 60 ≤ LINE) :
    ∃ c2 c62 zs2, zs2.length ≤ zs.length + 60 ∧ exI F G (n + 13) (.for_ (.nm 6) .range1 [(.lit (.int 60))] innerA) (sl ns i (some (.int c)) c6 c7) (St zs) = .ok (.nx (sl ns i (some (.int c2)) c62 c7)) (St zs2) := by
  obtain ⟨σ', s', h1, c2, c62, zs2, h2, h3, h4⟩ := for_inv (ex := exs (exI F G (n + 12)) innerA) (t := .nm 6) (wk := .range1) (src := [.int 60]) (whole := upto 60)
    (fun m σ s => ∃ (c : Int) (c6 : Option AV) (z : List Int), z.length ≤ zs.length + m ∧ σ = sl ns i (some (.int c)) c6 c7 ∧ s = St z) (upto 60) 0 (sl ns i (some (.int c)) c6 c7) (St zs) (fun m x σ s hx hp => by
      obtain ⟨c, c6, z, p1, rfl, rfl⟩ := hp
      have hm : m < 60 := by
        have := (List.getElem?_eq_some_iff.mp hx).1
        rw [upto_len] at this
        exact this
      obtain ⟨c2, z2, q1, q2⟩ := turnA F n ns z i c (some x) c7 (by omega)
      exact ⟨_, _, _, as6, q2, rfl, c2, some x, z2, by omega, rfl, rfl⟩) ⟨c, c6, zs, by omega, rfl, rfl⟩
  subst h3
  subst h4
  rw [upto_len] at h2
  refine ⟨c2, c62, zs2, by omega, ?_⟩
  rw [exI]
  show ((opt (walk .range1 [.int 60] (St zs)) (St zs)).bd fun ys s => forLoop (exs (exI F G (n + 12)) innerA) (.nm 6) .range1 [.int 60] ys ys (sl ns i (some (.int c)) c6 c7) s) = _
  rw [walk60]
  exact h1
theorem loopB (F : Nat → Nat → List AV → Sto → Rs AV) (n : Nat) (ns zs : List Int) (i q : Int) (c5 c6 : Option AV) (hl : zs.length + 60 ≤ LINE) :
    ∃ c62 q2 zs2, zs2.length ≤ zs.length + 60 ∧ exI F G (n + 13) (.for_ (.nm 6) .range1 [(.lit (.int 12))] innerB) (sl ns i c5 c6 (some (.int q))) (St zs) = .ok (.nx (sl ns i c5 c62 (some (.int q2)))) (St zs2) := by
  obtain ⟨σ', s', h1, c62, q2, zs2, h2, h3, h4⟩ := for_inv (ex := exs (exI F G (n + 12)) innerB) (t := .nm 6) (wk := .range1) (src := [.int 12]) (whole := upto 12)
    (fun m σ s => ∃ (c6 : Option AV) (q : Int) (z : List Int), z.length ≤ zs.length + m ∧ σ = sl ns i c5 c6 (some (.int q)) ∧ s = St z) (upto 12) 0 (sl ns i c5 c6 (some (.int q))) (St zs) (fun m x σ s hx hp => by
      obtain ⟨c6, q, z, p1, rfl, rfl⟩ := hp
      have hm : m < 12 := by
        have := (List.getElem?_eq_some_iff.mp hx).1
        rw [upto_len] at this
        exact this
      have ex := upto_at hx
      subst ex
      obtain ⟨q2, z2, r1, r2⟩ := turnB F n ns z i m q c5 (by omega)
      exact ⟨_, _, _, as6, r2, rfl, some (.int m), q2, z2, by omega, rfl, rfl⟩) ⟨c6, q, zs, by omega, rfl, rfl⟩
  subst h3
  subst h4
  rw [upto_len] at h2
  refine ⟨c62, q2, zs2, by omega, ?_⟩
  rw [exI]
  show ((opt (walk .range1 [.int 12] (St zs)) (St zs)).bd fun ys s => forLoop (exs (exI F G (n + 12)) innerB) (.nm 6) .range1 [.int 12] ys ys (sl ns i c5 c6 (some (.int q))) s) = _
  rw [walk12]
  exact h1
theorem pow18 {s : Sto} : opBin .pow (.int 10) (.int 18) s = .ok (.int 1000000000000000000) s := rfl
theorem tab4 (k f : Nat) : (fun g => tab G defs k (4 * g)) 0 f = tab G defs k 0 f := rfl
theorem turnO (k n : Nat) (ns zs : List Int) (i : Int) (hi : 0 ≤ i) (c5 c6 c7 : Option AV) (hl : zs.length + 60 ≤ LINE) :
    ∃ d5 d6 d7 zs2, zs2.length ≤ zs.length + 60 ∧ exs (exI (fun g => tab G defs (k + 1) (4 * g)) G (n + 15)) bodyO (sl ns i c5 c6 c7) (St zs) = .ok (.nx (sl ns i d5 d6 d7)) (St zs2) := by
  obtain ⟨c0, hc0⟩ := cell k ns i hi []
  have hc : callF (tab G defs (k + 1) 0 18) [AV.lst (ns.map AV.int), AV.int i] (St zs) = .ok (.int c0) (St zs) := by
    unfold callF
    have e : lowL 0 [AV.lst (ns.map AV.int), AV.int i] = true := by
      show (lowL 0 (ns.map AV.int) && (true && true)) = true
      rw [low_ints 0 ns] <;> rfl
    rw [e, hc0] <;> rfl
  -- behind the second statement the cell is some int
  have two : ∃ c : Int, (exI (fun g => tab G defs (k + 1) (4 * g)) G (n + 15) (.ifs (.cmp .lt (.slot 5) (.lit (.int 0))) [(.asg (.nm 5) (.bin .sub (.lit (.int 1)) (.bin .mul (.lit (.int 2)) (.slot 5))))] [])) (sl ns i (some (.int c0)) c6 c7) (St zs) = .ok (.nx (sl ns i (some (.int c)) c6 c7)) (St zs) := by
    by_cases h : c0 < 0
    · refine ⟨1 - 2 * c0, ?_⟩
      simp only [exs, exI, evI, evs, bd_ok, g5, lt_ii, Option.map_some, decide_eq_true h, opt_some, tr_b, if_true, mul_ji (show -18446744073709551616 < (2 : Int) ∧ (2 : Int) < 18446744073709551616 by decide), sub_ii, as5]
    · refine ⟨c0, ?_⟩
      simp only [exs, exI, evI, evs, bd_ok, g5, lt_ii, Option.map_some, decide_eq_false h, opt_some, tr_b, Bool.false_eq_true, if_false]
  obtain ⟨c, h2⟩ := two
  have one : exI (fun g => tab G defs (k + 1) (4 * g)) G (n + 15) (.asg (.nm 5) (.call 18 [(.slot 0), (.slot 4)])) (sl ns i c5 c6 c7) (St zs) = .ok (.nx (sl ns i (some (.int c0)) c6 c7)) (St zs) := by
    simp only [exI, evI, evs, bd_ok, g0, g4, Nat.mul_zero, hc, opt_some, as5]
  have three : ∃ d5 d6 d7 zs2, zs2.length ≤ zs.length + 60 ∧ (exI (fun g => tab G defs (k + 1) (4 * g)) G (n + 15) (.ifs (.cmp .ge (.slot 5) (.bin .pow (.lit (.int 10)) (.lit (.int 18)))) [(.for_ (.nm 6) .range1 [(.lit (.int 60))] innerA)]
    [(.asg (.nm 7) (.bin .mod (.bi .int [(.bin .add (.bin .add (.bin .mul (.slot 5) (.lit (.int 48271))) (.bin .mul (.slot 4) (.lit (.int 69621)))) (.lit (.int 11)))]) (.lit (.int 2147483647)))),
     (.for_ (.nm 6) .range1 [(.lit (.int 12))] innerB)])) (sl ns i (some (.int c)) c6 c7) (St zs) = .ok (.nx (sl ns i d5 d6 d7)) (St zs2) := by
    by_cases h : (1000000000000000000 : Int) ≤ c
    · obtain ⟨c2, c62, zs2, q1, q2⟩ := loopA (fun g => tab G defs (k + 1) (4 * g)) (n + 1) ns zs i c c6 c7 hl
      refine ⟨some (.int c2), c62, c7, zs2, q1, ?_⟩
      have e : exI (fun g => tab G defs (k + 1) (4 * g)) G (n + 15) (.ifs (.cmp .ge (.slot 5) (.bin .pow (.lit (.int 10)) (.lit (.int 18)))) [(.for_ (.nm 6) .range1 [(.lit (.int 60))] innerA)]
          [(.asg (.nm 7) (.bin .mod (.bi .int [(.bin .add (.bin .add (.bin .mul (.slot 5) (.lit (.int 48271))) (.bin .mul (.slot 4) (.lit (.int 69621)))) (.lit (.int 11)))]) (.lit (.int 2147483647)))),
           (.for_ (.nm 6) .range1 [(.lit (.int 12))] innerB)]) (sl ns i (some (.int c)) c6 c7) (St zs) = exI (fun g => tab G defs (k + 1) (4 * g)) G (n + 1 + 13) (.for_ (.nm 6) .range1 [(.lit (.int 60))] innerA) (sl ns i (some (.int c)) c6 c7) (St zs) := by
        rw [exI]
        simp only [exs, evI, evs, bd_ok, g5, pow18, ge_ii, Option.map_some, decide_eq_true h, opt_some, tr_b, if_true]
      rw [e]
      exact q2
    · obtain ⟨c62, q2, zs2, r1, r2⟩ := loopB (fun g => tab G defs (k + 1) (4 * g)) (n + 1) ns zs i ((c * 48271 + i * 69621 + 11) % 2147483647) (some (.int c)) c6 hl
      refine ⟨some (.int c), c62, some (.int q2), zs2, r1, ?_⟩
      have e : exI (fun g => tab G defs (k + 1) (4 * g)) G (n + 15) (.ifs (.cmp .ge (.slot 5) (.bin .pow (.lit (.int 10)) (.lit (.int 18)))) [(.for_ (.nm 6) .range1 [(.lit (.int 60))] innerA)]
          [(.asg (.nm 7) (.bin .mod (.bi .int [(.bin .add (.bin .add (.bin .mul (.slot 5) (.lit (.int 48271))) (.bin .mul (.slot 4) (.lit (.int 69621)))) (.lit (.int 11)))]) (.lit (.int 2147483647)))),
           (.for_ (.nm 6) .range1 [(.lit (.int 12))] innerB)]) (sl ns i (some (.int c)) c6 c7) (St zs) = exI (fun g => tab G defs (k + 1) (4 * g)) G (n + 1 + 13) (.for_ (.nm 6) .range1 [(.lit (.int 12))] innerB) (sl ns i (some (.int c)) c6 (some (.int ((c * 48271 + i * 69621 + 11) % 2147483647)))) (St zs) := by
        rw [exI]
        have hA : ∀ s : Sto, exI (fun g => tab G defs (k + 1) (4 * g)) G (n + 14) (.asg (.nm 7) (.bin .mod (.bi .int [(.bin .add (.bin .add (.bin .mul (.slot 5) (.lit (.int 48271))) (.bin .mul (.slot 4) (.lit (.int 69621)))) (.lit (.int 11)))]) (.lit (.int 2147483647)))) (sl ns i (some (.int c)) c6 c7) s = .ok (.nx (sl ns i (some (.int c)) c6 (some (.int ((c * 48271 + i * 69621 + 11) % 2147483647))))) s := by
          intro s
          simp only [exI, evI, evs, bd_ok, g5, g4, mul_ij (show -18446744073709551616 < (48271 : Int) ∧ (48271 : Int) < 18446744073709551616 by decide), mul_ij (show -18446744073709551616 < (69621 : Int) ∧ (69621 : Int) < 18446744073709551616 by decide), add_ii, int_i, mod_ii (show (0 : Int) < 2147483647 by decide), opt_some, as7]
        simp only [exs, evI, evs, bd_ok, g5, pow18, ge_ii, Option.map_some, decide_eq_false h, opt_some, tr_b, Bool.false_eq_true, if_false, hA]
      rw [e]
      exact r2
  obtain ⟨d5, d6, d7, zs2, q1, q2⟩ := three
  refine ⟨d5, d6, d7, zs2, q1, ?_⟩
  unfold bodyO
  simp only [exs, one, h2, bd_ok]
  exact q2
end L03

namespace L03
open PySem Jp
def rg : List AV := (List.range 60).map fun (k : Nat) => AV.int (0 + (k : Int))
theorem rg_at {m : Nat} {x : AV} (h : rg[m]? = some x) : x = .int (0 + (m : Int)) ∧ m < 60 := by
  unfold rg at h
  rw [List.getElem?_map] at h
  by_cases hm : m < 60
  · rw [List.getElem?_range hm] at h
    exact ⟨(Option.some.inj h).symm, hm⟩
  · rw [List.getElem?_eq_none (by simpa using hm)] at h
    cases h
theorem rg_len : rg.length = 60 := by simp [rg]
theorem walkR {s : Sto} : walk .range2 [.int 0, .int 60] s = some rg := rfl
theorem loopO (k : Nat) (ns : List Int) : ∃ σ' zs, exI (fun g => tab G defs (k + 1) (4 * g)) G 100 (.for_ (.nm 4) .range2 [(.slot 1), (.slot 2)] bodyO) [some (.lst (ns.map AV.int)), some (.int 0), some (.int 60), some (.ref 0), none, none, none, none] (St []) = .ok (.nx σ') (St zs) ∧ σ'[3]? = some (some (.ref 0)) := by
  obtain ⟨σ', s', h1, c4, d5, d6, d7, zs2, h2, h3, h4⟩ := for_inv (ex := exs (exI (fun g => tab G defs (k + 1) (4 * g)) G 99) bodyO) (t := .nm 4) (wk := .range2) (src := [.int 0, .int 60]) (whole := rg)
    (fun m σ s => ∃ (c4 c5 c6 c7 : Option AV) (z : List Int), z.length ≤ 60 * m ∧ σ = [some (.lst (ns.map AV.int)), some (.int 0), some (.int 60), some (.ref 0), c4, c5, c6, c7] ∧ s = St z) rg 0 [some (.lst (ns.map AV.int)), some (.int 0), some (.int 60), some (.ref 0), none, none, none, none] (St []) (fun m x σ s hx hp => by
      obtain ⟨c4, c5, c6, c7, z, p1, rfl, rfl⟩ := hp
      obtain ⟨rfl, hm⟩ := rg_at hx
      have hL : 4000 ≤ LINE := by decide
      obtain ⟨d5, d6, d7, z2, q1, q2⟩ := turnO k 84 ns z (0 + (m : Int)) (by omega) c5 c6 c7 (by omega)
      exact ⟨sl ns (0 + (m : Int)) c5 c6 c7, _, _, rfl, q2, rfl, some (.int (0 + (m : Int))), d5, d6, d7, z2, by omega, rfl, rfl⟩) ⟨none, none, none, none, [], by simp, rfl, rfl⟩
  subst h3
  subst h4
  refine ⟨[some (.lst (ns.map AV.int)), some (.int 0), some (.int 60), some (.ref 0), c4, d5, d6, d7], zs2, ?_, rfl⟩
  rw [exI]
  show ((opt (walk .range2 [.int 0, .int 60] (St [])) (St [])).bd fun ys s => forLoop (exs (exI (fun g => tab G defs (k + 1) (4 * g)) G 99) bodyO) (.nm 4) .range2 [.int 0, .int 60] ys ys [some (.lst (ns.map AV.int)), some (.int 0), some (.int 60), some (.ref 0), none, none, none, none] s) = _
  rw [walkR]
  exact h1
theorem digits (k : Nat) (ns : List Int) : ∃ zs, tab G defs (k + 2) 0 21 [.lst (ns.map AV.int), .int 0, .int 60] [] = .ok (.ref 0) (St zs) := by
  obtain ⟨σ', zs, h, h3⟩ := loopO k ns
  refine ⟨zs, ?_⟩
  have e : tab G defs (k + 2) 0 21 = runD (fun g => tab G defs (k + 1) (4 * g)) G ⟨8, 3, [(.asg (.nm 3) (.lst [])), (.for_ (.nm 4) .range2 [(.slot 1), (.slot 2)] bodyO), (.ret (.slot 3))]⟩ := by
    funext xs s
    rfl
  rw [e]
  unfold runD
  have one : exI (fun g => tab G defs (k + 1) (4 * g)) G 100 (.asg (.nm 3) (.lst [])) ([AV.lst (ns.map AV.int), .int 0, .int 60].map some ++ List.replicate (8 - 3) none) [] = .ok (.nx [some (.lst (ns.map AV.int)), some (.int 0), some (.int 60), some (.ref 0), none, none, none, none]) (St []) := rfl
  have three : exI (fun g => tab G defs (k + 1) (4 * g)) G 100 (.ret (.slot 3)) σ' (St zs) = .ok (.rt (.ref 0)) (St zs) := by
    simp only [exI, evI, h3, bd_ok]
  simp only [List.length_cons, List.length_nil, if_true, exs, one, bd_ok, h, three]
  rfl
end L03


set_option Elab.async false
set_option linter.all false
set_option maxRecDepth 100000
namespace L03
open PySem Jp
theorem runD_rt {F : Nat → Nat → List AV → Sto → Rs AV} {d : Df} {xs : List AV} {s s2 : Sto} {v : AV} (hl : xs.length = d.pars) (h : exs (exI F G 100) d.body (xs.map some ++ List.replicate (d.names - d.pars) none) s = .ok (.rt v) s2) : runD F G d xs s = .ok v (Jp.letGo s.length v s2) := by
  unfold runD
  rw [if_pos hl, h] <;> rfl
section
variable {ex : IS → Slots → Sto → Rs Fl} {st st2 : IS} {r : List IS} {σ σ2 : Slots} {s s2 : Sto} {v : AV}
theorem exs_nx (h : ex st σ s = .ok (.nx σ2) s2) : exs ex (st :: st2 :: r) σ s = exs ex (st2 :: r) σ2 s2 := by
  simp only [exs, h, bd_ok]
theorem exs_rt (h : ex st σ s = .ok (.rt v) s2) : exs ex (st :: r) σ s = .ok (.rt v) s2 := by
  cases r with
  | nil => exact h
  | cons y z => simp only [exs, h, bd_ok]
end
section
variable {F : Nat → Nat → List AV → Sto → Rs AV} {n : Nat} {c e : IE} {a r : List IS} {st2 : IS} {σ σ2 : Slots} {s s2 s3 : Sto} {v : AV}
theorem ifR (h : evI F G 0 (n + 1) c σ s = .ok (.bl true) s2) (h2 : evI F G 0 n e σ s2 = .ok v s3) : exs (exI F G (n + 2)) (.ifs c [.ret e] [] :: r) σ s = .ok (.rt v) s3 := by
  refine exs_rt ?_
  rw [exI, h]
  show exs (exI F G (n + 1)) [.ret e] σ s2 = _
  rw [exs, exI, h2] <;> rfl
theorem ifN (h : evI F G 0 (n + 1) c σ s = .ok (.bl false) s2) : exs (exI F G (n + 2)) (.ifs c a [] :: st2 :: r) σ s = exs (exI F G (n + 2)) (st2 :: r) σ s2 := by
  refine exs_nx ?_
  rw [exI, h] <;> rfl
theorem rtE (h : evI F G 0 (n + 1) e σ s = .ok v s2) : exs (exI F G (n + 2)) [.ret e] σ s = .ok (.rt v) s2 := by
  rw [exs, exI, h] <;> rfl
end
theorem runD_same {F : Nat → Nat → List AV → Sto → Rs AV} {d : Df} {xs : List AV} {s : Sto} {v : AV} (hl : xs.length = d.pars) (h : exs (exI F G 100) d.body (xs.map some ++ List.replicate (d.names - d.pars) none) s = .ok (.rt v) s) : runD F G d xs s = .ok v s := by
  rw [runD_rt hl h, letGo_same rfl]
end L03


set_option Elab.async false
set_option linter.all false
set_option maxRecDepth 100000
namespace L03
open PySem Jp
/-! ### values, with any texts -/
def TR : Str := ⟨⟨[116, 114, 117, 116, 104]⟩⟩
def NU : Str := ⟨⟨[110, 117, 109, 98, 101, 114]⟩⟩
def OT : Str := ⟨⟨[111, 112, 116, 105, 111, 110]⟩⟩
def OS : Str := ⟨⟨[111, 112, 116, 105, 111, 110, 115]⟩⟩
def TX : Str := ⟨⟨[116, 101, 120, 116]⟩⟩
inductive W where
  | non | tr (b : Bool) | num (i : Int) | opt (x : Str) | opts (xs : List Str) | txt (x : Str)
def ss (l : List Str) : List AV := l.map AV.str
def W.av : W → AV
  | .non => .non
  | .tr b => .tup [.str TR, .bl b]
  | .num i => .tup [.str NU, .int i]
  | .opt x => .tup [.str OT, .str x]
  | .opts xs => .tup [.str OS, .tup (ss xs)]
  | .txt x => .tup [.str TX, .str x]
theorem low_ss (n : Nat) : ∀ l : List Str, lowL n (ss l) = true
  | [] => rfl
  | _ :: l => low_ss n l
theorem W.low (n : Nat) (w : W) : lowA n w.av = true := by
  cases w with
  | opts xs =>
    show (true && (lowL n (ss xs) && true)) = true
    rw [low_ss] <;> rfl
  | _ => rfl
/-- a call that wants no store -/
structure Pu (f : List AV → Sto → Rs AV) (xs : List AV) (v : AV) : Prop where
  x : lowL 0 xs = true
  l : lowA 0 v = true
  h : ∃ s', f xs [] = .ok v s'
theorem Pu.call {f : List AV → Sto → Rs AV} {xs : List AV} {v : AV} (p : Pu f xs v) (s : Sto) : callF f xs s = .ok v s := by
  obtain ⟨s', h⟩ := p.h
  unfold callF
  rw [if_pos p.x, h]
  show (if lowA 0 v = true then _ else _) = _
  rw [if_pos p.l]
def truA : W → AV
  | .tr b => .bl b
  | _ => .non
def numA : W → AV
  | .num i => .int i
  | _ => .non
theorem low2 (u w : W) : lowL 0 [u.av, w.av] = true := by
  show (lowA 0 u.av && (lowA 0 w.av && true)) = true
  rw [W.low, W.low] <;> rfl
theorem low1 (w : W) : lowL 0 [w.av] = true := by
  show (lowA 0 w.av && true) = true
  rw [W.low] <;> rfl
theorem lowK (w : W) (K : Str) : lowL 0 [w.av, .str K] = true := by
  show (lowA 0 w.av && (true && true)) = true
  rw [W.low] <;> rfl
theorem worth_tr (k : Nat) (w : W) : Pu (tab G defs (k + 1) 0 5) [w.av, .str TR] (truA w) := by
  refine ⟨lowK w TR, ?_, ?_⟩
  · cases w <;> rfl
  · cases w <;> exact ⟨_, rfl⟩
theorem worth_nu (k : Nat) (w : W) : Pu (tab G defs (k + 1) 0 5) [w.av, .str NU] (numA w) := by
  refine ⟨lowK w NU, ?_, ?_⟩
  · cases w <;> rfl
  · cases w <;> exact ⟨_, rfl⟩
def negW : W → W
  | .tr b => .tr (!b)
  | _ => .non
theorem neg_ok (k : Nat) (w : W) : Pu (tab G defs (k + 2) 0 6) [w.av] (negW w).av := by
  refine ⟨low1 w, W.low 0 _, ?_⟩
  have q := (worth_tr k w).call []
  have p1 : exI (fun g => tab G defs (k + 1) (4 * g)) G 100 (.asg (.nm 1) (.call 5 [(.slot 0), (.lit (.str ⟨⟨[116, 114, 117, 116, 104]⟩⟩))])) [some w.av, none] [] = .ok (.nx [some w.av, some (truA w)]) [] := by
    have q : callF (tab G defs (k + 1) 0 5) [w.av, .str ⟨⟨[116, 114, 117, 116, 104]⟩⟩] [] = .ok (truA w) [] := q
    simp only [exI, evI, evs, bd_ok, List.getElem?_cons_zero, Nat.mul_zero, q]
    rfl
  refine ⟨_, runD_rt (F := fun g => tab G defs (k + 1) (4 * g)) (d := d6) (xs := [w.av]) (s := []) (s2 := []) rfl ((exs_nx p1).trans (rtE ?_))⟩
  cases w <;> rfl
def chW : W → W → W → W
  | .tr true, a, _ => a
  | .tr false, _, b => b
  | _, _, _ => .non
theorem ch_ok (k : Nat) (t a b : W) : Pu (tab G defs (k + 2) 0 7) [t.av, a.av, b.av] (chW t a b).av := by
  refine ⟨?_, W.low 0 _, ?_⟩
  · show (lowA 0 t.av && lowL 0 [a.av, b.av]) = true
    rw [W.low, low2] <;> rfl
  have q := (worth_tr k t).call []
  have p1 : exI (fun g => tab G defs (k + 1) (4 * g)) G 100 (.asg (.nm 3) (.call 5 [(.slot 0), (.lit (.str ⟨⟨[116, 114, 117, 116, 104]⟩⟩))])) [some t.av, some a.av, some b.av, none] [] = .ok (.nx [some t.av, some a.av, some b.av, some (truA t)]) [] := by
    have q : callF (tab G defs (k + 1) 0 5) [t.av, .str ⟨⟨[116, 114, 117, 116, 104]⟩⟩] [] = .ok (truA t) [] := q
    simp only [exI, evI, evs, bd_ok, List.getElem?_cons_zero, Nat.mul_zero, q]
    rfl
  refine ⟨_, runD_rt (F := fun g => tab G defs (k + 1) (4 * g)) (d := d7) (xs := [t.av, a.av, b.av]) (s := []) (s2 := []) rfl ((exs_nx p1).trans ?_)⟩
  cases t <;> first | exact ifR rfl rfl | skip
  rename_i c
  refine (ifN rfl).trans (rtE ?_)
  cases c <;> rfl
theorem in_ss (x : Str) : ∀ F : List Str, ((ss F).any fun z => eqA z (.str x)) = decide (x ∈ F)
  | [] => rfl
  | y :: F => by
    show ((y == x) || (ss F).any fun z => eqA z (.str x)) = _
    rw [in_ss x F]
    by_cases h : y = x
    · subst h
      simp
    · have h2 : ¬ x = y := fun e => h e.symm
      have h3 : (y == x) = false := by simpa using h
      rw [h3, Bool.false_or]
      simp [h2]
theorem flat_ss : ∀ F : List Str, (ss F).all flatA = true
  | [] => rfl
  | y :: F => flat_ss F
theorem in_sst (x : Str) (F : List Str) (s : Sto) : opCmp .in_ (.str x) (.tup (ss F)) s = some (decide (x ∈ F)) := by
  show (if (flatA (.str x) && (ss F).all flatA) = true then some ((ss F).any fun z => eqA z (.str x)) else inD (.str x) (.tup (ss F)) s) = _
  rw [flat_ss, in_ss] <;> rfl
def memW (o : Str) : W → W
  | .opts xs => .tr (decide (o ∈ xs))
  | _ => .non
def optA : W → AV
  | .opts xs => .tup (ss xs)
  | _ => .non
theorem worth_os (k : Nat) (w : W) : Pu (tab G defs (k + 1) 0 5) [w.av, .str OS] (optA w) := by
  refine ⟨lowK w OS, ?_, ?_⟩
  · cases w with
    | opts xs => exact low_ss 0 xs
    | _ => rfl
  · cases w <;> exact ⟨_, rfl⟩
theorem mem_ok (k : Nat) (w : W) (o : Str) : Pu (tab G defs (k + 2) 0 8) [w.av, .str o] (memW o w).av := by
  refine ⟨lowK w o, W.low 0 _, ?_⟩
  have q := (worth_os k w).call []
  have p1 : exI (fun g => tab G defs (k + 1) (4 * g)) G 100 (.asg (.nm 2) (.call 5 [(.slot 0), (.lit (.str ⟨⟨[111, 112, 116, 105, 111, 110, 115]⟩⟩))])) [some w.av, some (.str o), none] [] = .ok (.nx [some w.av, some (.str o), some (optA w)]) [] := by
    have q : callF (tab G defs (k + 1) 0 5) [w.av, .str ⟨⟨[111, 112, 116, 105, 111, 110, 115]⟩⟩] [] = .ok (optA w) [] := q
    simp only [exI, evI, evs, bd_ok, List.getElem?_cons_zero, Nat.mul_zero, q]
    rfl
  refine ⟨_, runD_rt (F := fun g => tab G defs (k + 1) (4 * g)) (d := d8) (xs := [w.av, .str o]) (s := []) (s2 := []) rfl ((exs_nx p1).trans (rtE ?_))⟩
  cases w with
  | opts xs =>
    have z := in_sst o xs []
    have h2 : 2 ≤ LINE := by decide
    have n0 : ∀ s : Sto, opCmp .isN (.tup (ss xs)) .non s = some false := fun s => rfl
    simp only [evI, evs, bd_ok, List.getElem?_cons_zero, List.getElem?_cons_succ, optA, n0, z, Option.map_some, opt_some, tr_b, Bool.false_eq_true, if_false, List.length_cons, List.length_nil, Nat.reduceAdd, h2, if_true]
    rfl
  | _ => rfl
/-! ### two values, alike or not -/
def eqW : W → W → Bool
  | .non, .non => true
  | .tr a, .tr b => a == b
  | .num i, .num j => i == j
  | .opt a, .opt b => a == b
  | .opts a, .opts b => a == b
  | .txt a, .txt b => a == b
  | _, _ => false
def isNo : W → Bool
  | .non => true
  | _ => false
def LIKE : Str := ⟨⟨[61]⟩⟩
def UNLK : Str := ⟨⟨[60, 62]⟩⟩
def lkW (e : Bool) (a b : W) : W := if isNo a || isNo b then .non else .tr (eqW a b == e)
def lkS (e : Bool) : Str := if e then LIKE else UNLK
def dS (l : List Str) : PyData := .tuple (l.map PyData.str)
def dW : W → PyData
  | .non => .none
  | .tr b => .tuple [.str TR, .bool b]
  | .num i => .tuple [.str NU, .int i]
  | .opt x => .tuple [.str OT, .str x]
  | .opts xs => .tuple [.str OS, dS xs]
  | .txt x => .tuple [.str TX, .str x]
theorem data_ss (s : Sto) (n : Nat) : ∀ ys : List Str, optAll (AV.data s (n + 1)) (ss ys) = some (ys.map PyData.str)
  | [] => rfl
  | y :: ys => by
    show optAll (AV.data s (n + 1)) (.str y :: ss ys) = _
    rw [optAll, show AV.data s (n + 1) (.str y) = some (.str y) from rfl, data_ss s n ys] <;> rfl
theorem data_n (w : W) (s : Sto) (n : Nat) : w.av.data s (n + 3) = some (dW w) := by
  cases w with
  | opts xs =>
    have t : AV.data s (n + 2) (.tup (ss xs)) = some (dS xs) := by
      show (optAll (AV.data s (n + 1)) (ss xs)).map PyData.tuple = _
      rw [data_ss] <;> rfl
    show (optAll (AV.data s (n + 2)) [.str OS, .tup (ss xs)]).map PyData.tuple = _
    rw [optAll, show AV.data s (n + 2) (.str OS) = some (.str OS) from rfl, optAll, t] <;> rfl
  | _ => rfl
theorem data_ok (w : W) (s : Sto) : w.av.data s 60 = some (dW w) := data_n w s 57
/-- a text that can be shown, and is short -/
def okS (x : Str) : Bool := PyData.strOk x && decide (x.length ≤ 100)
def okW : W → Bool
  | .opt x => okS x
  | .opts xs => xs.all okS && decide (xs.length ≤ 100)
  | .txt x => okS x
  | _ => true
theorem lay_strs : ∀ xs : List Str, xs.all okS = true → PyData.canLayAll0 (xs.map PyData.str) = true ∧ PyData.depthAll (xs.map PyData.str) = 0
  | [], _ => by simp [PyData.canLayAll0, PyData.depthAll]
  | x :: xs, h => by
    rw [List.all_cons, Bool.and_eq_true] at h
    obtain ⟨a, b⟩ := lay_strs xs h.2
    have q := h.1
    unfold okS at q
    rw [Bool.and_eq_true] at q
    rw [List.map_cons, PyData.canLayAll0, PyData.depthAll, a, b, PyData.canLay0, PyData.depth, q.1]
    exact ⟨rfl, rfl⟩
theorem strOk_of {x : Str} (h : okS x = true) : PyData.strOk x = true := by
  unfold okS at h
  rw [Bool.and_eq_true] at h
  exact h.1
theorem shaped_ok (w : W) (h : okW w = true) : SeqAt.shaped (dW w) = true ∧ (dW w).depth ≤ 2 := by
  have c : ∀ x : Str, okS x = true → PyData.canLay0 (.str x) = true := fun x hx => by
    rw [PyData.canLay0]
    exact strOk_of hx
  have k1 : PyData.strOk OS = true := by decide +kernel
  have k2 : PyData.strOk OT = true := by decide +kernel
  have k3 : PyData.strOk TX = true := by decide +kernel
  have k4 : PyData.strOk TR = true := by decide +kernel
  have k5 : PyData.strOk NU = true := by decide +kernel
  have z2 : decide ((2 : Nat) ≤ 64) = true := by decide
  cases w with
  | non => exact ⟨by decide +kernel, by simp [dW, PyData.depth]⟩
  | tr b => cases b <;> exact ⟨by decide +kernel, by simp [dW, PyData.depth, PyData.depthAll]⟩
  | num i =>
    refine ⟨?_, by simp [dW, PyData.depth, PyData.depthAll]⟩
    simp [SeqAt.shaped, dW, PyData.canLay0, PyData.depth, PyData.canLayAll0, PyData.depthAll, k5]
  | opt x =>
    refine ⟨?_, by simp [dW, PyData.depth, PyData.depthAll]⟩
    simp [SeqAt.shaped, dW, PyData.canLay0, PyData.depth, PyData.canLayAll0, PyData.depthAll, k2, strOk_of h]
  | txt x =>
    refine ⟨?_, by simp [dW, PyData.depth, PyData.depthAll]⟩
    simp [SeqAt.shaped, dW, PyData.canLay0, PyData.depth, PyData.canLayAll0, PyData.depthAll, k3, strOk_of h]
  | opts xs =>
    have h1 : xs.all okS = true := by
      have h : (xs.all okS && decide (xs.length ≤ 100)) = true := h
      rw [Bool.and_eq_true] at h
      exact h.1
    obtain ⟨a, b⟩ := lay_strs xs h1
    refine ⟨?_, by simp [dW, dS, PyData.depth, PyData.depthAll, b]⟩
    simp [SeqAt.shaped, dW, dS, PyData.canLay0, PyData.depth, PyData.canLayAll0, PyData.depthAll, k1, a, b]
theorem eqv_strs : ∀ xs ys : List Str, PyData.eqvAll (xs.map PyData.str) (ys.map PyData.str) = (xs == ys)
  | [], [] => by simp [PyData.eqvAll]
  | [], _ :: _ => by simp [PyData.eqvAll]
  | _ :: _, [] => by simp [PyData.eqvAll]
  | x :: xs, y :: ys => by
    rw [List.map_cons, List.map_cons, PyData.eqvAll, eqv_strs xs ys, PyData.eqv] <;> rfl
theorem eqv_ok (a b : W) : PyData.eqv (dW a) (dW b) = eqW a b := by
  have d1 : (OS == OT) = false := by decide
  have d2 : (OT == OS) = false := by decide
  have d3 : (OS == TX) = false := by decide
  have d4 : (TX == OS) = false := by decide
  have d5 : (OT == TX) = false := by decide
  have d6 : (TX == OT) = false := by decide
  have d7 : (TR == NU) = false := by decide
  have d8 : (NU == TR) = false := by decide
  have d9 : ∀ x : Str, x ∈ [OS, OT, TX] → (TR == x) = false ∧ (x == TR) = false ∧ (NU == x) = false ∧ (x == NU) = false := fun x hx => by
    simp only [List.mem_cons, List.not_mem_nil, or_false] at hx
    rcases hx with rfl | rfl | rfl <;> decide
  have e1 := d9 OS (by simp)
  have e2 := d9 OT (by simp)
  have e3 := d9 TX (by simp)
  cases a <;> cases b <;> simp only [dW, dS, PyData.eqv, PyData.eqvAll, eqW, eqv_strs, beq_self_eq_true, Bool.true_and, Bool.and_true, Bool.and_false, Bool.false_and, d1, d2, d3, d4, d5, d6, d7, d8, e1, e2, e3]
theorem eqD_dat {x y : AV} {s : Sto} {d e : PyData} (h : scalA x y = none) (h1 : x.data s 60 = some d) (h2 : y.data s 60 = some e) (s1 : SeqAt.shaped d = true) (s2 : SeqAt.shaped e = true) : eqD x y s = some (PyData.eqv d e) := by
  unfold eqD
  rw [h]
  show (match x.data s 60, y.data s 60 with
    | some d, some e => if SeqAt.shaped d && SeqAt.shaped e then some (PyData.eqv d e) else none
    | _, _ => if eqO s x y then some true else none) = _
  rw [h1, h2]
  show (if (SeqAt.shaped d && SeqAt.shaped e) = true then some (PyData.eqv d e) else none) = _
  rw [s1, s2] <;> rfl
theorem eqD_ok (a b : W) (s : Sto) (ha : okW a = true) (hb : okW b = true) : eqD a.av b.av s = some (eqW a b) := by
  have h : scalA a.av b.av = none ∨ (scalA a.av b.av = some (eqW a b)) := by
    cases a <;> cases b <;> first | exact Or.inl rfl | exact Or.inr rfl
  rcases h with h | h
  · rw [eqD_dat h (data_ok a s) (data_ok b s) (shaped_ok a ha).1 (shaped_ok b hb).1, eqv_ok]
  · unfold eqD
    rw [h]
end L03


set_option Elab.async false
set_option linter.all false
set_option maxRecDepth 100000
namespace L03
open PySem Jp
theorem isN_ok (w : W) (s : Sto) : opCmp .isN w.av .non s = some (isNo w) := by cases w <;> rfl
theorem noN_ok (w : W) (s : Sto) : opCmp .noN w.av .non s = some (!isNo w) := by cases w <;> rfl
theorem eq_ok (a b : W) (s : Sto) (ha : okW a = true) (hb : okW b = true) : opCmp .eq a.av b.av s = some (eqW a b) := eqD_ok a b s ha hb
theorem eq_bb (a b : Bool) (s : Sto) : opCmp .eq (.bl a) (.bl b) s = some (a == b) := rfl
theorem eq_lk (e : Bool) (s : Sto) : opCmp .eq (.str (lkS e)) (.str ⟨⟨[61]⟩⟩) s = some e := by cases e <;> rfl
theorem lk_ok (k : Nat) (e : Bool) (a b : W) (oa : okW a = true) (ob : okW b = true) : Pu (tab G defs (k + 1) 0 12) [.str (lkS e), a.av, b.av] (lkW e a b).av := by
  refine ⟨?_, W.low 0 _, ?_⟩
  · show (true && lowL 0 [a.av, b.av]) = true
    rw [low2] <;> rfl
  · show ∃ s', runD (fun g => tab G defs k (4 * g)) G d12 [.str (lkS e), a.av, b.av] [] = .ok (lkW e a b).av s'
    unfold runD d12
    have hL : 2 ≤ LINE := by decide
    have eq_ok := fun s => eq_ok a b s oa ob
    unfold lkW
    cases ha : isNo a with
    | true =>
      simp only [exs, exI, evI, evs, bd_ok, List.length_cons, List.length_nil, Nat.reduceAdd, reduceIte, List.map_cons, List.map_nil, List.cons_append, List.nil_append, List.getElem?_cons_zero, List.getElem?_cons_succ, opt_some, Option.map_some, isN_ok, ha, tr_b, if_true]
      exact ⟨_, rfl⟩
    | false =>
      cases hb : isNo b with
      | true =>
        simp only [exs, exI, evI, evs, bd_ok, List.length_cons, List.length_nil, Nat.reduceAdd, reduceIte, List.map_cons, List.map_nil, List.cons_append, List.nil_append, List.getElem?_cons_zero, List.getElem?_cons_succ, opt_some, Option.map_some, isN_ok, ha, hb, tr_b, if_true, Bool.false_eq_true, if_false]
        exact ⟨_, rfl⟩
      | false =>
        simp only [exs, exI, evI, evs, bd_ok, List.length_cons, List.length_nil, Nat.reduceAdd, reduceIte, List.map_cons, List.map_nil, List.cons_append, List.nil_append, List.getElem?_cons_zero, List.getElem?_cons_succ, opt_some, Option.map_some, isN_ok, ha, hb, eq_ok, eq_bb, eq_lk, tr_b, hL, if_true, Bool.false_eq_true, if_false]
        exact ⟨_, rfl⟩
/-! ### lists of values -/
theorem lc_worth (F : Nat → Nat → List AV → Sto → Rs AV) (n : Nat) (K : Str) (f : W → AV) (i : Nat) (σ : Slots) (src whole : List AV) (own : List Nat) (hf : ∀ (w : W) (s : Sto), callF (F 0 5) [w.av, .str K] s = .ok (f w) s) (hst : ∀ s, stands .seq src whole s = true) (hi : i < σ.length) (ho : own = [i]) : ∀ (ws : List W) (acc : List AV) (s : Sto), ws.length + acc.length < LINE →
    lcLoop (evI F G 0 (n + 2)) own (.call 5 [(.slot i), (.lit (.str K))]) (.nm i) .seq src whole [] σ (ws.map W.av) acc s = .ok (acc ++ ws.map f) s
  | [], acc, s, _ => by
    rw [List.map_nil, lcLoop, List.map_nil, List.append_nil]
  | w :: ws, acc, s, hl => by
    subst ho
    have hg : ((σ.set i none).set i (some w.av))[i]? = some (some w.av) := by
      rw [List.getElem?_set_self (by rw [List.length_set]; exact hi)]
    have e1 : evI F G 0 (n + 2) (.call 5 [(.slot i), (.lit (.str K))]) ((σ.set i none).set i (some w.av)) s = .ok (f w) s := by
      simp only [evI, evs, bd_ok, hg, hf]
    have ih := lc_worth F n K f i σ src whole [i] hf hst hi rfl ws (acc ++ [f w]) s (by simp only [List.length_append, List.length_cons, List.length_nil] at hl ⊢; omega)
    have ha : asT s (.nm i) w.av (wipeA σ [i]) = some ((σ.set i none).set i (some w.av)) := by
      simp only [asT, wipeA, List.length_set, hi, if_true]
    rw [List.map_cons, lcLoop, ha]
    show ((noX (tests (evI F G 0 (n + 2)) [] ((σ.set i none).set i (some w.av)) s)).bd _) = _
    simp only [tests, noX, bd_ok, e1, hst, if_true]
    rw [if_pos (by simp only [List.length_cons] at hl; omega), ih]
    simp
theorem walk_tup (xs : List AV) (s : Sto) : walk .seq [.tup xs] s = some xs := rfl
theorem lc_all (F : Nat → Nat → List AV → Sto → Rs AV) (n : Nat) (K : Str) (f : W → AV) (i : Nat) (nm : Str) (σ : Slots) (j : Nat) (ws : List W) (hf : ∀ (w : W) (s : Sto), callF (F 0 5) [w.av, .str K] s = .ok (f w) s) (hj : σ[j]? = some (some (.tup (ws.map W.av)))) (hi : i < σ.length) (hl : ws.length < LINE) {s : Sto} :
    evI F G 0 (n + 3) (.lc [(nm, i)] (.call 5 [(.slot i), (.lit (.str K))]) (.nm i) .seq [(.slot j)] []) σ s = .ok (.ref s.length) (s ++ [.lst (ws.map f)]) := by
  have e0 : evI F G 0 (n + 3) (.lc [(nm, i)] (.call 5 [(.slot i), (.lit (.str K))]) (.nm i) .seq [(.slot j)] []) σ s = (evs (evI F G 0 (n + 2)) [.slot j] σ s).bd fun xs s => (opt (walk .seq xs s) s).bd fun ys s => (lcLoop (evI F G 0 (n + 2)) [i] (.call 5 [(.slot i), (.lit (.str K))]) (.nm i) .seq xs ys [] σ ys [] s).bd fun zs s => .ok (.ref s.length) (s ++ [.lst zs]) := rfl
  have e1 : evs (evI F G 0 (n + 2)) [.slot j] σ s = .ok [.tup (ws.map W.av)] s := by
    simp only [evs, evI, bd_ok, hj]
  rw [e0, e1, bd_ok, walk_tup, opt_some, bd_ok, lc_worth F n K f i σ _ _ [i] hf (fun s => rfl) hi rfl ws [] s hl] <;> rfl
theorem flat_tru : ∀ ws : List W, (ws.map truA).all flatA = true
  | [] => rfl
  | w :: ws => by
    rw [List.map_cons, List.all_cons, flat_tru ws]
    cases w <;> rfl
theorem flat_num : ∀ ws : List W, (ws.map numA).all flatA = true
  | [] => rfl
  | w :: ws => by
    rw [List.map_cons, List.all_cons, flat_num ws]
    cases w <;> rfl
/-- what it is worth as a truth -/
def T3 : W → Option Bool
  | .tr b => some b
  | _ => none
def hasT (b : Bool) (ws : List W) : Bool := ws.any fun w => T3 w == some b
def hasO (ws : List W) : Bool := ws.any fun w => T3 w == none
def alW (ws : List W) : W := if hasT false ws then .tr false else if hasO ws then .non else .tr true
def anW (ws : List W) : W := if hasT true ws then .tr true else if hasO ws then .non else .tr false
theorem any_tr (b : Bool) : ∀ ws : List W, ((ws.map truA).any fun z => eqA z (.bl b)) = hasT b ws
  | [] => rfl
  | w :: ws => by
    have ih := any_tr b ws
    unfold hasT at ih ⊢
    rw [List.map_cons, List.any_cons, List.any_cons, ih]
    cases w <;> first | rfl | skip
theorem any_no : ∀ ws : List W, ((ws.map truA).any fun z => eqA z .non) = hasO ws
  | [] => rfl
  | w :: ws => by
    have ih := any_no ws
    unfold hasO at ih ⊢
    rw [List.map_cons, List.any_cons, List.any_cons, ih]
    cases w <;> rfl
theorem in_ref {s : Sto} {m : Nat} {xs : List AV} {x : AV} (h : s[m]? = some (.lst xs)) (hx : flatA x = true) (ha : xs.all flatA = true) : opCmp .in_ x (.ref m) s = some (xs.any fun z => eqA z x) := by
  show inA x (.ref m) s = _
  have e : items s (.ref m) = some xs := by simp only [items, h]
  show (match items s (.ref m) with
    | some xs => if flatA x && xs.all flatA then some (xs.any fun z => eqA z x) else inD x (.ref m) s
    | none => none) = _
  rw [e]
  show (if (flatA x && xs.all flatA) = true then _ else _) = _
  rw [hx, ha] <;> rfl
theorem lowT (ws : List W) : lowL 0 [AV.tup (ws.map W.av)] = true := by
  have h : ∀ ws : List W, lowL 0 (ws.map W.av) = true := fun ws => by
    induction ws with
    | nil => rfl
    | cons w ws ih =>
      show (lowA 0 w.av && lowL 0 (ws.map W.av)) = true
      rw [W.low, ih] <;> rfl
  show (lowL 0 (ws.map W.av) && true) = true
  rw [h] <;> rfl
theorem all_ok (k : Nat) (ws : List W) (hl : ws.length < LINE) : Pu (tab G defs (k + 2) 0 10) [.tup (ws.map W.av)] (alW ws).av := by
  refine ⟨lowT ws, W.low 0 _, ?_⟩
  show ∃ s', runD (fun g => tab G defs (k + 1) (4 * g)) G d10 [.tup (ws.map W.av)] [] = .ok (alW ws).av s'
  have hL : 2 ≤ LINE := by decide
  have one : exI (fun g => tab G defs (k + 1) (4 * g)) G 100 (.asg (.nm 1) (.lc [(⟨⟨[118, 97, 108, 117, 101]⟩⟩, 2)] (.call 5 [(.slot 2), (.lit (.str TR))]) (.nm 2) .seq [(.slot 0)] [])) [some (.tup (ws.map W.av)), none, none] [] = .ok (.nx [some (.tup (ws.map W.av)), some (.ref 0), none]) [.lst (ws.map truA)] := by
    rw [exI, lc_all (fun g => tab G defs (k + 1) (4 * g)) 96 TR truA 2 _ [some (.tup (ws.map W.av)), none, none] 0 ws (fun w s => (worth_tr k w).call s) rfl (Nat.lt_succ_self 2) hl] <;> rfl
  have e : exs (exI (fun g => tab G defs (k + 1) (4 * g)) G 100) d10.body [some (.tup (ws.map W.av)), none, none] [] = .ok (.rt (alW ws).av) [.lst (ws.map truA)] := by
    unfold d10
    have r0 : ([.lst (ws.map truA)] : Sto)[0]? = some (.lst (ws.map truA)) := rfl
    refine (exs_nx one).trans ?_
    unfold alW
    cases h1 : hasT false ws with
    | true =>
      simp only [exI, exs, evI, evs, bd_ok, List.getElem?_cons_zero, List.getElem?_cons_succ, in_ref r0 (x := .bl false) rfl (flat_tru ws), any_tr, h1, Option.map_some, opt_some, tr_b, List.length_cons, List.length_nil, Nat.reduceAdd, hL, if_true]
      rfl
    | false =>
      cases h2 : hasO ws <;>
      · simp only [exI, exs, evI, evs, bd_ok, List.getElem?_cons_zero, List.getElem?_cons_succ, in_ref r0 (x := .bl false) rfl (flat_tru ws), in_ref r0 (x := .non) rfl (flat_tru ws), any_tr, any_no, h1, h2, Option.map_some, opt_some, tr_b, List.length_cons, List.length_nil, Nat.reduceAdd, hL, if_true, Bool.false_eq_true, if_false]
        rfl
  exact ⟨_, runD_rt rfl e⟩
end L03


set_option Elab.async false
set_option linter.all false
set_option maxRecDepth 100000
namespace L03
open PySem Jp
theorem any_ok (k : Nat) (ws : List W) (hl : ws.length < LINE) : Pu (tab G defs (k + 2) 0 11) [.tup (ws.map W.av)] (anW ws).av := by
  refine ⟨lowT ws, W.low 0 _, ?_⟩
  show ∃ s', runD (fun g => tab G defs (k + 1) (4 * g)) G d11 [.tup (ws.map W.av)] [] = .ok (anW ws).av s'
  have hL : 2 ≤ LINE := by decide
  have one : exI (fun g => tab G defs (k + 1) (4 * g)) G 100 (.asg (.nm 1) (.lc [(⟨⟨[118, 97, 108, 117, 101]⟩⟩, 2)] (.call 5 [(.slot 2), (.lit (.str TR))]) (.nm 2) .seq [(.slot 0)] [])) [some (.tup (ws.map W.av)), none, none] [] = .ok (.nx [some (.tup (ws.map W.av)), some (.ref 0), none]) [.lst (ws.map truA)] := by
    rw [exI, lc_all (fun g => tab G defs (k + 1) (4 * g)) 96 TR truA 2 _ [some (.tup (ws.map W.av)), none, none] 0 ws (fun w s => (worth_tr k w).call s) rfl (Nat.lt_succ_self 2) hl] <;> rfl
  have e : exs (exI (fun g => tab G defs (k + 1) (4 * g)) G 100) d11.body [some (.tup (ws.map W.av)), none, none] [] = .ok (.rt (anW ws).av) [.lst (ws.map truA)] := by
    unfold d11
    have r0 : ([.lst (ws.map truA)] : Sto)[0]? = some (.lst (ws.map truA)) := rfl
    refine (exs_nx one).trans ?_
    unfold anW
    cases h1 : hasT true ws with
    | true =>
      simp only [exI, exs, evI, evs, bd_ok, List.getElem?_cons_zero, List.getElem?_cons_succ, in_ref r0 (x := .bl true) rfl (flat_tru ws), any_tr, h1, Option.map_some, opt_some, tr_b, List.length_cons, List.length_nil, Nat.reduceAdd, hL, if_true]
      rfl
    | false =>
      cases h2 : hasO ws <;>
      · simp only [exI, exs, evI, evs, bd_ok, List.getElem?_cons_zero, List.getElem?_cons_succ, in_ref r0 (x := .bl true) rfl (flat_tru ws), in_ref r0 (x := .non) rfl (flat_tru ws), any_tr, any_no, h1, h2, Option.map_some, opt_some, tr_b, List.length_cons, List.length_nil, Nat.reduceAdd, hL, if_true, Bool.false_eq_true, if_false]
        rfl
  exact ⟨_, runD_rt rfl e⟩
/-! ### numbers -/
def resW (n : Int) : W := if -1000000 ≤ n ∧ n ≤ 1000000 then .num n else .non
theorem res_ok (k : Nat) (n : Int) : Pu (tab G defs (k + 1) 0 15) [.int n] (resW n).av := by
  refine ⟨rfl, W.low 0 _, ?_⟩
  show ∃ s', runD (fun g => tab G defs k (4 * g)) G d15 [.int n] [] = .ok (resW n).av s'
  have hL : 2 ≤ LINE := by decide
  have c0 : G.c[0]? = some (AV.int 1000000) := rfl
  have le1 : ∀ (i j : Int) (s : Sto), opCmp .le (.int i) (.int j) s = some (decide (i ≤ j)) := fun _ _ _ => rfl
  have hn : (-(1000000 : Int)) = -1000000 := rfl
  unfold resW
  by_cases h1 : (-1000000 : Int) ≤ n
  · by_cases h2 : n ≤ 1000000
    · have d1 := decide_eq_true h1
      have d2 := decide_eq_true h2
      refine ⟨_, runD_rt (s2 := []) rfl ?_⟩
      unfold d15
      simp only [exs, exI, evI, evs, bd_ok, List.map_cons, List.map_nil, List.cons_append, List.nil_append, List.getElem?_cons_zero, opt_some, Option.map_some, c0, le1, hn, d1, d2, tr_b, List.length_cons, List.length_nil, Nat.reduceAdd, hL, if_true]
      rw [if_pos ⟨h1, h2⟩] <;> rfl
    · have d1 := decide_eq_true h1
      have d2 := decide_eq_false h2
      refine ⟨_, runD_rt (s2 := []) rfl ?_⟩
      unfold d15
      simp only [exs, exI, evI, evs, bd_ok, List.map_cons, List.map_nil, List.cons_append, List.nil_append, List.getElem?_cons_zero, opt_some, Option.map_some, c0, le1, hn, d1, d2, tr_b, List.length_cons, List.length_nil, Nat.reduceAdd, hL, if_true, Bool.false_eq_true, if_false]
      rw [if_neg (fun z => h2 z.2)] <;> rfl
  · have d1 := decide_eq_false h1
    refine ⟨_, runD_rt (s2 := []) rfl ?_⟩
    unfold d15
    simp only [exs, exI, evI, evs, bd_ok, List.map_cons, List.map_nil, List.cons_append, List.nil_append, List.getElem?_cons_zero, opt_some, Option.map_some, c0, le1, hn, d1, tr_b, List.length_cons, List.length_nil, Nat.reduceAdd, hL, if_true, Bool.false_eq_true, if_false]
    rw [if_neg (fun z => h1 z.1)] <;> rfl
/-- signs of comparison, of calculation -/
inductive Cs where
  | lt | le | gt | ge
inductive As where
  | ad | sb | ml
def Cs.s : Cs → Str
  | .lt => ⟨⟨[60]⟩⟩
  | .le => ⟨⟨[60, 61]⟩⟩
  | .gt => ⟨⟨[62]⟩⟩
  | .ge => ⟨⟨[62, 61]⟩⟩
def As.s : As → Str
  | .ad => ⟨⟨[43]⟩⟩
  | .sb => ⟨⟨[45]⟩⟩
  | .ml => ⟨⟨[42]⟩⟩
def Cs.f : Cs → Int → Int → Bool
  | .lt, i, j => decide (i < j)
  | .le, i, j => decide (i ≤ j)
  | .gt, i, j => decide (j < i)
  | .ge, i, j => decide (j ≤ i)
def As.f : As → Int → Int → Int
  | .ad, i, j => i + j
  | .sb, i, j => i - j
  | .ml, i, j => i * j
def N3 : W → Option Int
  | .num i => some i
  | _ => none
def cmW (c : Cs) (a b : W) : W := match N3 a, N3 b with
  | some i, some j => .tr (c.f i j)
  | _, _ => .non
def caW (c : As) (a b : W) : W := match N3 a, N3 b with
  | some i, some j => resW (c.f i j)
  | _, _ => .non
def Bd (w : W) : Prop := (∀ i, w = .num i → -1000000 ≤ i ∧ i ≤ 1000000) ∧ okW w = true
theorem two_nums (k : Nat) (x : AV) (a b : W) : exI (fun g => tab G defs (k + 1) (4 * g)) G 100 (.asg (.tp [(.nm 3), (.nm 4)]) (.tup [(.call 5 [(.slot 1), (.lit (.str ⟨⟨[110, 117, 109, 98, 101, 114]⟩⟩))]), (.call 5 [(.slot 2), (.lit (.str ⟨⟨[110, 117, 109, 98, 101, 114]⟩⟩))])])) [some x, some a.av, some b.av, none, none] [] = .ok (.nx [some x, some a.av, some b.av, some (numA a), some (numA b)]) [] := by
  have qa : ∀ s, callF (tab G defs (k + 1) 0 5) [a.av, .str ⟨⟨[110, 117, 109, 98, 101, 114]⟩⟩] s = .ok (numA a) s := fun s => (worth_nu k a).call s
  have qb : ∀ s, callF (tab G defs (k + 1) 0 5) [b.av, .str ⟨⟨[110, 117, 109, 98, 101, 114]⟩⟩] s = .ok (numA b) s := fun s => (worth_nu k b).call s
  have hL : 2 ≤ LINE := by decide
  simp only [exI, evI, evs, bd_ok, List.getElem?_cons_zero, List.getElem?_cons_succ, Nat.mul_zero, qa, qb, List.length_cons, List.length_nil, Nat.reduceAdd, hL, if_true]
  rfl
theorem cm_ok (k : Nat) (c : Cs) (a b : W) : Pu (tab G defs (k + 2) 0 13) [.str c.s, a.av, b.av] (cmW c a b).av := by
  refine ⟨?_, W.low 0 _, ?_⟩
  · show (true && lowL 0 [a.av, b.av]) = true
    rw [low2] <;> rfl
  refine ⟨_, runD_rt (F := fun g => tab G defs (k + 1) (4 * g)) (d := d13) (xs := [.str c.s, a.av, b.av]) (s := []) (s2 := []) rfl ((exs_nx (two_nums k (.str c.s) a b)).trans ?_)⟩
  have c1 : ∀ (u v : AV) (σ0 : AV) (x y : AV), (u = .non ∨ v = .non) → evI (fun g => tab G defs (k + 1) (4 * g)) G 0 99 (.or_ (.cmp .isN (.slot 3) (.lit .non)) (.cmp .isN (.slot 4) (.lit .non))) [some σ0, some x, some y, some u, some v] [] = .ok (.bl true) [] := fun u v σ0 x y h => by
    rcases h with rfl | rfl
    · rfl
    · cases u <;> rfl
  cases ha : N3 a with
  | none =>
    have e1 : numA a = .non := by cases a <;> first | rfl | cases ha
    have e2 : cmW c a b = .non := by unfold cmW; rw [ha]
    rw [e2]
    exact ifR (c1 _ _ _ _ _ (Or.inl e1)) rfl
  | some i =>
    cases hb : N3 b with
    | none =>
      have e1 : numA b = .non := by cases b <;> first | rfl | cases hb
      have e2 : cmW c a b = .non := by unfold cmW; rw [ha, hb]
      rw [e2]
      exact ifR (c1 _ _ _ _ _ (Or.inr e1)) rfl
    | some j =>
      have e1 : numA a = .int i := by cases a <;> first | (cases ha; rfl) | (cases ha; done)
      have e2 : numA b = .int j := by cases b <;> first | (cases hb; rfl) | (cases hb; done)
      have e3 : cmW c a b = .tr (c.f i j) := by unfold cmW; rw [ha, hb]
      rw [e1, e2, e3]
      cases c <;> rfl
theorem ca_ok (k : Nat) (c : As) (a b : W) (hb : Bd b) : Pu (tab G defs (k + 3) 0 14) [.str c.s, a.av, b.av] (caW c a b).av := by
  refine ⟨?_, W.low 0 _, ?_⟩
  · show (true && lowL 0 [a.av, b.av]) = true
    rw [low2] <;> rfl
  refine ⟨_, runD_rt (F := fun g => tab G defs (k + 2) (4 * g)) (d := d14) (xs := [.str c.s, a.av, b.av]) (s := []) (s2 := []) rfl ((exs_nx (two_nums (k + 1) (.str c.s) a b)).trans ?_)⟩
  have c1 : ∀ (u v : AV) (σ0 : AV) (x y : AV), (u = .non ∨ v = .non) → evI (fun g => tab G defs (k + 2) (4 * g)) G 0 99 (.or_ (.cmp .isN (.slot 3) (.lit .non)) (.cmp .isN (.slot 4) (.lit .non))) [some σ0, some x, some y, some u, some v] [] = .ok (.bl true) [] := fun u v σ0 x y h => by
    rcases h with rfl | rfl
    · rfl
    · cases u <;> rfl
  cases ha : N3 a with
  | none =>
    have e1 : numA a = .non := by cases a <;> first | rfl | cases ha
    have e2 : caW c a b = .non := by unfold caW; rw [ha]
    rw [e2]
    exact ifR (c1 _ _ _ _ _ (Or.inl e1)) rfl
  | some i =>
    cases hb3 : N3 b with
    | none =>
      have e1 : numA b = .non := by cases b <;> first | rfl | cases hb3
      have e2 : caW c a b = .non := by unfold caW; rw [ha, hb3]
      rw [e2]
      exact ifR (c1 _ _ _ _ _ (Or.inr e1)) rfl
    | some j =>
      have e1 : numA a = .int i := by cases a <;> first | (cases ha; rfl) | (cases ha; done)
      have e2 : numA b = .int j := by cases b <;> first | (cases hb3; rfl) | (cases hb3; done)
      have e3 : caW c a b = resW (c.f i j) := by unfold caW; rw [ha, hb3]
      have hj : -1000000 ≤ j ∧ j ≤ 1000000 := by
        cases b <;> first | (cases hb3; done) | skip
        cases hb3
        exact hb.1 _ rfl
      have hc := fun (n : Int) (s : Sto) => (res_ok (k + 1) n).call s
      have q1 : ∀ s : Sto, opCmp .eq (.str c.s) (.str ⟨⟨[43]⟩⟩) s = some (match c with
        | .ad => true
        | _ => false) := fun s => by cases c <;> rfl
      have q2 : ∀ s : Sto, opCmp .eq (.str c.s) (.str ⟨⟨[45]⟩⟩) s = some (match c with
        | .sb => true
        | _ => false) := fun s => by cases c <;> rfl
      have ml : ∀ s : Sto, opBin .mul (.int i) (.int j) s = .ok (.int (i * j)) s := fun s => mul_ij ⟨by omega, by omega⟩
      have ad : ∀ s : Sto, opBin .add (.int i) (.int j) s = .ok (.int (i + j)) s := fun s => rfl
      have sb : ∀ s : Sto, opBin .sub (.int i) (.int j) s = .ok (.int (i - j)) s := fun s => rfl
      have nn : ∀ (i : Int) (s : Sto), opCmp .isN (.int i) .non s = some false := fun _ _ => rfl
      rw [e1, e2, e3]
      cases c <;> simp only [exs, exI, evI, evs, bd_ok, List.getElem?_cons_zero, List.getElem?_cons_succ, opt_some, Option.map_some, nn, q1, q2, tr_b, if_true, Bool.false_eq_true, if_false, ml, ad, sb, hc, As.f, Nat.mul_zero]
end L03


set_option Elab.async false
set_option linter.all false
set_option maxRecDepth 100000
namespace L03
open PySem Jp
/-- the signs between two parts -/
inductive Sg where
  | qq | or | and | lk (e : Bool) | ca (c : As) | cm (c : Cs)
def Sg.s : Sg → Str
  | .qq => ⟨⟨[63, 63]⟩⟩
  | .or => ⟨⟨[111, 114]⟩⟩
  | .and => ⟨⟨[97, 110, 100]⟩⟩
  | .lk e => lkS e
  | .ca c => c.s
  | .cm c => c.s
def opW : Sg → W → W → W
  | .qq, a, b => if isNo a then b else a
  | .or, a, b => anW [a, b]
  | .and, a, b => alW [a, b]
  | .lk e, a, b => lkW e a b
  | .ca c, a, b => caW c a b
  | .cm c, a, b => cmW c a b
theorem op_ok (k : Nat) (g : Sg) (a b : W) (ha : Bd a) (hb : Bd b) : Pu (tab G defs (k + 4) 0 9) [.str g.s, a.av, b.av] (opW g a b).av := by
  refine ⟨?_, W.low 0 _, ?_⟩
  · show (true && lowL 0 [a.av, b.av]) = true
    rw [low2] <;> rfl
  · show ∃ s', runD (fun g => tab G defs (k + 3) (4 * g)) G d9 [.str g.s, a.av, b.av] [] = .ok (opW g a b).av s'
    have h2 : (2 : Nat) < LINE := by decide
    refine ⟨_, runD_rt (s2 := []) rfl ?_⟩
    show exs (exI (fun g => tab G defs (k + 3) (4 * g)) G 100) d9.body [some (.str g.s), some a.av, some b.av] [] = _
    unfold d9
    cases g with
    | qq =>
      refine ifR rfl ?_
      unfold opW
      cases h : isNo a <;> simp only [evI, bd_ok, List.getElem?_cons_zero, List.getElem?_cons_succ, isN_ok, h, Option.map_some, opt_some, tr_b, if_true, Bool.false_eq_true, if_false]
    | or =>
      refine (ifN rfl).trans (ifR rfl ?_)
      have q := (any_ok (k + 1) [a, b] h2).call []
      have q : callF (tab G defs (k + 3) 0 11) [.tup [a.av, b.av]] [] = .ok (anW [a, b]).av [] := q
      have hL : 2 ≤ LINE := by decide
      simp only [evI, evs, bd_ok, List.getElem?_cons_zero, List.getElem?_cons_succ, List.length_cons, List.length_nil, Nat.reduceAdd, hL, if_true, q, Nat.mul_zero, opW]
    | and =>
      refine (ifN rfl).trans ((ifN rfl).trans (ifR rfl ?_))
      have q := (all_ok (k + 1) [a, b] h2).call []
      have q : callF (tab G defs (k + 3) 0 10) [.tup [a.av, b.av]] [] = .ok (alW [a, b]).av [] := q
      have hL : 2 ≤ LINE := by decide
      simp only [evI, evs, bd_ok, List.getElem?_cons_zero, List.getElem?_cons_succ, List.length_cons, List.length_nil, Nat.reduceAdd, hL, if_true, q, Nat.mul_zero, opW]
    | lk e =>
      have q := (lk_ok (k + 2) e a b ha.2 hb.2).call []
      cases e <;>
      · refine (ifN rfl).trans ((ifN rfl).trans ((ifN rfl).trans (ifR rfl ?_)))
        simp only [evI, evs, bd_ok, List.getElem?_cons_zero, List.getElem?_cons_succ, q, Nat.mul_zero, opW, Sg.s]
    | ca c =>
      have q := (ca_ok k c a b hb).call []
      cases c <;>
      · refine (ifN rfl).trans ((ifN rfl).trans ((ifN rfl).trans ((ifN rfl).trans (ifR rfl ?_))))
        simp only [evI, evs, bd_ok, List.getElem?_cons_zero, List.getElem?_cons_succ, q, Nat.mul_zero, opW, Sg.s]
    | cm c =>
      have q := (cm_ok (k + 1) c a b).call []
      cases c <;>
      · refine (ifN rfl).trans ((ifN rfl).trans ((ifN rfl).trans ((ifN rfl).trans ((ifN rfl).trans (rtE ?_)))))
        simp only [evI, evs, bd_ok, List.getElem?_cons_zero, List.getElem?_cons_succ, q, Nat.mul_zero, opW, Sg.s]
end L03


set_option Elab.async false
set_option linter.all false
set_option maxRecDepth 100000
namespace L03
open PySem Jp
def nums : List W → Option (List Int)
  | [] => some []
  | w :: ws => match N3 w, nums ws with
    | some i, some l => some (i :: l)
    | _, _ => none
theorem nums_map : ∀ {ws : List W} {zs : List Int}, nums ws = some zs → ws.map numA = zs.map AV.int
  | [], zs, h => by
    cases h
    rfl
  | w :: ws, zs, h => by
    unfold nums at h
    cases e1 : N3 w with
    | none => rw [e1] at h; cases h
    | some i =>
      cases e2 : nums ws with
      | none => rw [e1, e2] at h; cases h
      | some l =>
        rw [e1, e2] at h
        cases h
        rw [List.map_cons, List.map_cons, nums_map e2]
        cases w <;> first | (cases e1; done) | (cases e1; rfl)
theorem nums_in : ∀ ws : List W, ((ws.map numA).any fun z => eqA z .non) = (nums ws).isNone
  | [] => rfl
  | w :: ws => by
    rw [List.map_cons, List.any_cons, nums_in ws]
    show (eqA (numA w) .non || (nums ws).isNone) = (match N3 w, nums ws with
      | some i, some l => some (i :: l)
      | _, _ => none : Option (List Int)).isNone
    generalize nums ws = x
    cases w <;> cases x <;> rfl
theorem asInts : ∀ zs : List Int, optAll asInt (zs.map AV.int) = some zs
  | [] => rfl
  | z :: zs => by
    rw [List.map_cons, optAll, asInts zs] <;> rfl
inductive Fn where
  | count | any | all | sum | least | greatest
def Fn.s : Fn → Str
  | .count => ⟨⟨[99, 111, 117, 110, 116]⟩⟩
  | .any => ⟨⟨[97, 110, 121]⟩⟩
  | .all => ⟨⟨[97, 108, 108]⟩⟩
  | .sum => ⟨⟨[115, 117, 109]⟩⟩
  | .least => ⟨⟨[108, 101, 97, 115, 116]⟩⟩
  | .greatest => ⟨⟨[103, 114, 101, 97, 116, 101, 115, 116]⟩⟩
def minL : List Int → W
  | [] => .non
  | z :: zs => .num (zs.foldl (fun m i => if i < m then i else m) z)
def maxL : List Int → W
  | [] => .non
  | z :: zs => .num (zs.foldl (fun m i => if m < i then i else m) z)
def ovW : Fn → List W → W
  | .count, ws => .num (ws.length : Nat)
  | .any, ws => anW ws
  | .all, ws => alW ws
  | .sum, ws => match nums ws with
    | some zs => resW zs.sum
    | none => .non
  | .least, ws => match nums ws with
    | some zs => minL zs
    | none => .non
  | .greatest, ws => match nums ws with
    | some zs => maxL zs
    | none => .non
theorem ov_s {ws : List W} {zs : List Int} (h : nums ws = some zs) : ovW .sum ws = resW zs.sum := by simp only [ovW, h]
theorem ov_l {ws : List W} {zs : List Int} (h : nums ws = some zs) : ovW .least ws = minL zs := by simp only [ovW, h]
theorem ov_g {ws : List W} {zs : List Int} (h : nums ws = some zs) : ovW .greatest ws = maxL zs := by simp only [ovW, h]
theorem ov_n {ws : List W} (h : nums ws = none) : ovW .sum ws = .non ∧ ovW .least ws = .non ∧ ovW .greatest ws = .non := by simp only [ovW, h, and_self]
theorem len_tup (xs : List AV) (s : Sto) : opBi .len [.tup xs] s = .ok (.int (xs.length : Nat)) s := rfl
section
variable {s : Sto} {m : Nat} {zs : List Int}
theorem itemsL_ref {xs : List AV} (h : s[m]? = some (.lst xs)) : itemsL s (.ref m) = some xs := by
  show items s (.ref m) = _
  simp only [items, h]
theorem sum_ref (h : s[m]? = some (.lst (zs.map AV.int))) : opBi .sum [.ref m] s = .ok (.int zs.sum) s := by
  show (match itemsL s (.ref m) with
    | some ys => (match optAll asInt ys with
      | some zs => Rs.ok (AV.int zs.sum) s
      | none => .bad)
    | none => .bad) = _
  rw [itemsL_ref h]
  show (match optAll asInt (zs.map AV.int) with
      | some zs => Rs.ok (AV.int zs.sum) s
      | none => .bad) = _
  rw [asInts]
theorem min_ref {z : Int} (h : s[m]? = some (.lst ((z :: zs).map AV.int))) : opBi .min [.ref m] s = .ok (.int (zs.foldl (fun m i => if i < m then i else m) z)) s := by
  show (match itemsL s (.ref m) with
    | some ys => (match optAll asInt ys with
      | some (z :: zs) => Rs.ok (AV.int (zs.foldl (fun m i => if i < m then i else m) z)) s
      | _ => .bad)
    | none => .bad) = _
  rw [itemsL_ref h]
  show (match optAll asInt ((z :: zs).map AV.int) with
      | some (z :: zs) => Rs.ok (AV.int (zs.foldl (fun m i => if i < m then i else m) z)) s
      | _ => .bad) = _
  rw [asInts]
theorem max_ref {z : Int} (h : s[m]? = some (.lst ((z :: zs).map AV.int))) : opBi .max [.ref m] s = .ok (.int (zs.foldl (fun m i => if m < i then i else m) z)) s := by
  show (match itemsL s (.ref m) with
    | some ys => (match optAll asInt ys with
      | some (z :: zs) => Rs.ok (AV.int (zs.foldl (fun m i => if m < i then i else m) z)) s
      | _ => .bad)
    | none => .bad) = _
  rw [itemsL_ref h]
  show (match optAll asInt ((z :: zs).map AV.int) with
      | some (z :: zs) => Rs.ok (AV.int (zs.foldl (fun m i => if m < i then i else m) z)) s
      | _ => .bad) = _
  rw [asInts]
theorem tr_ref {xs : List AV} (h : s[m]? = some (.lst xs)) : truth s (.ref m) = some (!xs.isEmpty) := by
  show (items s (.ref m)).map (fun xs => !xs.isEmpty) = _
  have e : items s (.ref m) = some xs := by simp only [items, h]
  rw [e] <;> rfl
end
theorem ov_ok (k : Nat) (f : Fn) (ws : List W) (hl : ws.length < LINE) : Pu (tab G defs (k + 3) 0 16) [.str f.s, .tup (ws.map W.av)] (ovW f ws).av := by
  refine ⟨?_, W.low 0 _, ?_⟩
  · exact lowT ws
  · show ∃ s', runD (fun g => tab G defs (k + 2) (4 * g)) G d16 [.str f.s, .tup (ws.map W.av)] [] = .ok (ovW f ws).av s'
    have hL : 2 ≤ LINE := by decide
    have lc := lc_all (fun g => tab G defs (k + 2) (4 * g)) 96 NU numA 3 ⟨⟨[118, 97, 108, 117, 101]⟩⟩ [some (.str f.s), some (.tup (ws.map W.av)), none, none] 1 ws (fun w s => (worth_nu (k + 1) w).call s) rfl (by simp) hl (s := [])
    have st : exI (fun g => tab G defs (k + 2) (4 * g)) G 100 (.asg (.nm 2) (.lc [(⟨⟨[118, 97, 108, 117, 101]⟩⟩, 3)] (.call 5 [(.slot 3), (.lit (.str NU))]) (.nm 3) .seq [(.slot 1)] [])) [some (.str f.s), some (.tup (ws.map W.av)), none, none] [] = .ok (.nx [some (.str f.s), some (.tup (ws.map W.av)), some (.ref 0), none]) [.lst (ws.map numA)] := by
      rw [exI, lc] <;> rfl
    have r0 : ([.lst (ws.map numA)] : Sto)[0]? = some (.lst (ws.map numA)) := rfl
    have inn : ∀ σ : Slots, σ[2]? = some (some (.ref 0)) → evI (fun g => tab G defs (k + 2) (4 * g)) G 0 99 (.cmp .in_ (.lit .non) (.slot 2)) σ [.lst (ws.map numA)] = .ok (.bl (nums ws).isNone) [.lst (ws.map numA)] := fun σ h => by
      simp only [evI, bd_ok, h, in_ref r0 (x := .non) rfl (flat_num ws), nums_in, Option.map_some, opt_some]
    cases f with
    | count =>
      refine ⟨_, runD_rt (s2 := []) rfl ?_⟩
      refine ifR (σ := [some (.str Fn.count.s), some (.tup (ws.map W.av)), none, none]) (s2 := []) rfl ?_
      simp only [evI, evs, bd_ok, List.getElem?_cons_zero, List.getElem?_cons_succ, len_tup, List.length_map, List.length_cons, List.length_nil, Nat.reduceAdd, hL, if_true]
      rfl
    | any =>
      have q := (any_ok k ws hl).call []
      refine ⟨_, runD_rt (s2 := []) rfl ?_⟩
      refine (ifN (σ := [some (.str Fn.any.s), some (.tup (ws.map W.av)), none, none]) (s2 := []) rfl).trans (ifR (s2 := []) rfl ?_)
      simp only [evI, evs, bd_ok, List.getElem?_cons_zero, List.getElem?_cons_succ, q, Nat.mul_zero, ovW]
    | all =>
      have q := (all_ok k ws hl).call []
      refine ⟨_, runD_rt (s2 := []) rfl ?_⟩
      refine (ifN (σ := [some (.str Fn.all.s), some (.tup (ws.map W.av)), none, none]) (s2 := []) rfl).trans ((ifN (s2 := []) rfl).trans (ifR (s2 := []) rfl ?_))
      simp only [evI, evs, bd_ok, List.getElem?_cons_zero, List.getElem?_cons_succ, q, Nat.mul_zero, ovW]
    | sum =>
      refine ⟨_, runD_rt (s2 := [.lst (ws.map numA)]) rfl ?_⟩
      refine (ifN (σ := [some (.str Fn.sum.s), some (.tup (ws.map W.av)), none, none]) (s2 := []) rfl).trans ((ifN (s2 := []) rfl).trans ((ifN (s2 := []) rfl).trans ((exs_nx st).trans ?_)))
      have i2 := inn [some (.str Fn.sum.s), some (.tup (ws.map W.av)), some (.ref 0), none] rfl
      cases h : nums ws with
      | none =>
        rw [h] at i2
        rw [(ov_n h).1]
        exact ifR i2 rfl
      | some zs =>
        rw [h] at i2
        rw [ov_s h]
        have r1 : ([.lst (ws.map numA)] : Sto)[0]? = some (.lst (zs.map AV.int)) := by rw [r0, nums_map h]
        refine (ifN i2).trans (ifR (s2 := [.lst (ws.map numA)]) rfl ?_)
        have q := (res_ok (k + 1) zs.sum).call [.lst (ws.map numA)]
        simp only [evI, evs, bd_ok, List.getElem?_cons_zero, List.getElem?_cons_succ, sum_ref r1, q, Nat.mul_zero]
    | least =>
      refine ⟨_, runD_rt (s2 := [.lst (ws.map numA)]) rfl ?_⟩
      refine (ifN (σ := [some (.str Fn.least.s), some (.tup (ws.map W.av)), none, none]) (s2 := []) rfl).trans ((ifN (s2 := []) rfl).trans ((ifN (s2 := []) rfl).trans ((exs_nx st).trans ?_)))
      have i2 := inn [some (.str Fn.least.s), some (.tup (ws.map W.av)), some (.ref 0), none] rfl
      cases h : nums ws with
      | none =>
        rw [h] at i2
        rw [(ov_n h).2.1]
        exact ifR i2 rfl
      | some zs =>
        rw [h] at i2
        rw [ov_l h]
        have r1 : ([.lst (ws.map numA)] : Sto)[0]? = some (.lst (zs.map AV.int)) := by rw [r0, nums_map h]
        refine (ifN i2).trans ((ifN (s2 := [.lst (ws.map numA)]) rfl).trans ?_)
        cases zs with
        | nil =>
          refine ifR (s2 := [.lst (ws.map numA)]) ?_ rfl
          simp only [evI, bd_ok, List.getElem?_cons_zero, List.getElem?_cons_succ, tr_ref r1, Option.map_some, opt_some]
          rfl
        | cons z zs =>
          refine (ifN (s2 := [.lst (ws.map numA)]) ?_).trans (rtE ?_)
          · simp only [evI, bd_ok, List.getElem?_cons_zero, List.getElem?_cons_succ, tr_ref r1, Option.map_some, opt_some]
            rfl
          · have eq : ∀ s : Sto, opCmp .eq (.str Fn.least.s) (.str ⟨⟨[108, 101, 97, 115, 116]⟩⟩) s = some true := fun _ => rfl
            simp only [evI, evs, bd_ok, List.getElem?_cons_zero, List.getElem?_cons_succ, eq, min_ref r1, Option.map_some, opt_some, tr_b, List.length_cons, List.length_nil, Nat.reduceAdd, hL, if_true]
            rfl
    | greatest =>
      refine ⟨_, runD_rt (s2 := [.lst (ws.map numA)]) rfl ?_⟩
      refine (ifN (σ := [some (.str Fn.greatest.s), some (.tup (ws.map W.av)), none, none]) (s2 := []) rfl).trans ((ifN (s2 := []) rfl).trans ((ifN (s2 := []) rfl).trans ((exs_nx st).trans ?_)))
      have i2 := inn [some (.str Fn.greatest.s), some (.tup (ws.map W.av)), some (.ref 0), none] rfl
      cases h : nums ws with
      | none =>
        rw [h] at i2
        rw [(ov_n h).2.2]
        exact ifR i2 rfl
      | some zs =>
        rw [h] at i2
        rw [ov_g h]
        have r1 : ([.lst (ws.map numA)] : Sto)[0]? = some (.lst (zs.map AV.int)) := by rw [r0, nums_map h]
        refine (ifN i2).trans ((ifN (s2 := [.lst (ws.map numA)]) rfl).trans ?_)
        cases zs with
        | nil =>
          refine ifR (s2 := [.lst (ws.map numA)]) ?_ rfl
          simp only [evI, bd_ok, List.getElem?_cons_zero, List.getElem?_cons_succ, tr_ref r1, Option.map_some, opt_some]
          rfl
        | cons z zs =>
          refine (ifN (s2 := [.lst (ws.map numA)]) ?_).trans (rtE ?_)
          · simp only [evI, bd_ok, List.getElem?_cons_zero, List.getElem?_cons_succ, tr_ref r1, Option.map_some, opt_some]
            rfl
          · have eq : ∀ s : Sto, opCmp .eq (.str Fn.greatest.s) (.str ⟨⟨[108, 101, 97, 115, 116]⟩⟩) s = some false := fun _ => rfl
            simp only [evI, evs, bd_ok, List.getElem?_cons_zero, List.getElem?_cons_succ, eq, max_ref r1, Option.map_some, opt_some, tr_b, List.length_cons, List.length_nil, Nat.reduceAdd, hL, if_true, Bool.false_eq_true, if_false]
            rfl
end L03


set_option Elab.async false
set_option linter.all false
set_option maxRecDepth 100000
namespace L03
open PySem Jp
inductive Lf where
  | name (x : Str) | row | tr (b : Bool) | opt (o : Str) | num (i : Int) | has (x : Str) (o : Str) | askA (x : Str) | ask (f : Fn) (x : Str)
def Lf.av : Lf → AV
  | .name x => .tup [.str ⟨⟨[110, 97, 109, 101]⟩⟩, .str x]
  | .row => .tup [.str ⟨⟨[114, 111, 119]⟩⟩]
  | .tr b => .tup [.str TR, .bl b]
  | .opt o => .tup [.str OT, .str o]
  | .num i => .tup [.str NU, .int i]
  | .has x o => .tup [.str ⟨⟨[104, 97, 115]⟩⟩, .str x, .str o]
  | .askA x => .tup [.str ⟨⟨[97, 115, 107]⟩⟩, .str ⟨⟨[97, 110, 115, 119, 101, 114, 101, 100]⟩⟩, .str x]
  | .ask f x => .tup [.str ⟨⟨[97, 115, 107]⟩⟩, .str f.s, .str x]
/-- what is read: the values of the names, of the rows' fields, the row's number -/
structure Env where
  nm : Str → W
  rw : Str → List W
  no : Option Int
def noA : Option Int → AV
  | none => .non
  | some i => .int i
def valL (N : Env) : Lf → W
  | .name x => N.nm x
  | .row => match N.no with
    | none => .non
    | some i => .num i
  | .tr b => .tr b
  | .opt b => .opt b
  | .num i => .num i
  | .has x o => memW o (N.nm x)
  | .askA x => .tr (!isNo (N.nm x))
  | .ask f x => ovW f (N.rw x)
structure EnvOk (N : Env) (n r : Nat) (s : Sto) : Prop where
  a : ∃ kvs, s[n]? = some (.dct kvs) ∧ ∀ x, (lookK kvs (.inr x)).getD .non = (N.nm x).av
  b : ∃ kvs, s[r]? = some (.dct kvs) ∧ ∀ x, (lookK kvs (.inr x)).getD (.tup []) = .tup ((N.rw x).map W.av)
  c : ∀ x, (N.rw x).length < LINE
theorem dct_ref {s : Sto} {n : Nat} {kvs : List (L2.Key × AV)} (h : s[n]? = some (.dct kvs)) : dctA s (.ref n) = some kvs := by
  show (match s[n]? with
    | some (.dct kvs) => some kvs
    | _ => none) = _
  rw [h]
theorem key_s (x : Str) : keyA (.str x) = some (.inr x) := rfl
section
variable {s : Sto} {a b c d : AV} {xs : List AV}
theorem ix0 : opIdx (.tup (a :: xs)) (.int 0) s = some a := at0
theorem ix1 : opIdx (.tup (a :: b :: xs)) (.int 1) s = some b := at1
theorem ix2 : opIdx (.tup [a, b, c]) (.int 2) s = some c := rfl
end
abbrev SV (v : AV) (m n r : Nat) (no : Option Int) (kd : AV) : Slots := [some v, some (.ref m), some (.ref n), some (.ref r), some (noA no), some kd]
theorem leaf_ok (k : Nat) (N : Env) (l : Lf) (m n r : Nat) (s : Sto) (E : EnvOk N n r s) : tab G defs (k + 4) 0 4 [l.av, .ref m, .ref n, .ref r, noA N.no] s = .ok (valL N l).av s := by
  show runD (fun g => tab G defs (k + 3) (4 * g)) G d4 [l.av, .ref m, .ref n, .ref r, noA N.no] s = _
  obtain ⟨k1, e1, h1⟩ := E.a
  obtain ⟨k2, e2, h2⟩ := E.b
  have c1 := dct_ref e1
  have c2 := dct_ref e2
  have hL2 : 2 ≤ LINE := by decide
  refine runD_same rfl ?_
  cases l with
  | name x =>
    refine (exs_nx (σ2 := SV (Lf.name x).av m n r N.no (.str ⟨⟨[110, 97, 109, 101]⟩⟩)) (s2 := s) rfl).trans (ifR (s2 := s) rfl ?_)
    simp only [evI, bd_ok, List.getElem?_cons_zero, List.getElem?_cons_succ, Lf.av, c1, ix1, opt_some, key_s, h1, valL]
  | row =>
    refine (exs_nx (σ2 := SV Lf.row.av m n r N.no (.str ⟨⟨[114, 111, 119]⟩⟩)) (s2 := s) rfl).trans ((ifN (s2 := s) rfl).trans (ifR (s2 := s) rfl ?_))
    unfold valL
    cases N.no <;> rfl
  | tr b => exact (exs_nx (σ2 := SV (Lf.tr b).av m n r N.no (.str TR)) (s2 := s) rfl).trans ((ifN (s2 := s) rfl).trans ((ifN (s2 := s) rfl).trans ((ifN (s2 := s) rfl).trans ((ifN (s2 := s) rfl).trans ((ifN (s2 := s) rfl).trans ((ifN (s2 := s) rfl).trans ((ifN (s2 := s) rfl).trans ((ifN (s2 := s) rfl).trans ((ifN (s2 := s) rfl).trans (rtE rfl))))))))))
  | opt b => exact (exs_nx (σ2 := SV (Lf.opt b).av m n r N.no (.str OT)) (s2 := s) rfl).trans ((ifN (s2 := s) rfl).trans ((ifN (s2 := s) rfl).trans ((ifN (s2 := s) rfl).trans ((ifN (s2 := s) rfl).trans ((ifN (s2 := s) rfl).trans ((ifN (s2 := s) rfl).trans ((ifN (s2 := s) rfl).trans ((ifN (s2 := s) rfl).trans ((ifN (s2 := s) rfl).trans (rtE rfl))))))))))
  | num i => exact (exs_nx (σ2 := SV (Lf.num i).av m n r N.no (.str NU)) (s2 := s) rfl).trans ((ifN (s2 := s) rfl).trans ((ifN (s2 := s) rfl).trans ((ifN (s2 := s) rfl).trans ((ifN (s2 := s) rfl).trans ((ifN (s2 := s) rfl).trans ((ifN (s2 := s) rfl).trans ((ifN (s2 := s) rfl).trans ((ifN (s2 := s) rfl).trans ((ifN (s2 := s) rfl).trans (rtE rfl))))))))))
  | has x o =>
    refine (exs_nx (σ2 := SV (Lf.has x o).av m n r N.no (.str ⟨⟨[104, 97, 115]⟩⟩)) (s2 := s) rfl).trans ((ifN (s2 := s) rfl).trans ((ifN (s2 := s) rfl).trans ((ifN (s2 := s) rfl).trans ((ifN (s2 := s) rfl).trans ((ifN (s2 := s) rfl).trans ((ifN (s2 := s) rfl).trans (ifR (s2 := s) rfl ?_)))))))
    have q := (mem_ok (k + 1) (N.nm x) o).call s
    simp only [evI, evs, bd_ok, List.getElem?_cons_zero, List.getElem?_cons_succ, Lf.av, c1, ix1, ix2, opt_some, key_s, h1, valL, Nat.mul_zero, q]
  | askA x =>
    refine (exs_nx (σ2 := SV (Lf.askA x).av m n r N.no (.str ⟨⟨[97, 115, 107]⟩⟩)) (s2 := s) rfl).trans ((ifN (s2 := s) rfl).trans ((ifN (s2 := s) rfl).trans ((ifN (s2 := s) rfl).trans ((ifN (s2 := s) rfl).trans ((ifN (s2 := s) rfl).trans ((ifN (s2 := s) rfl).trans ((ifN (s2 := s) rfl).trans (ifR (s2 := s) rfl ?_))))))))
    simp only [evI, evs, bd_ok, List.getElem?_cons_zero, List.getElem?_cons_succ, Lf.av, c1, ix1, ix2, opt_some, key_s, h1, noN_ok, Option.map_some, valL, List.length_cons, List.length_nil, Nat.reduceAdd, hL2, if_true]
    rfl
  | ask f x =>
    have q := (ov_ok k f (N.rw x) (E.c x)).call s
    cases f <;>
    · refine (exs_nx (σ2 := SV (Lf.ask _ x).av m n r N.no (.str ⟨⟨[97, 115, 107]⟩⟩)) (s2 := s) rfl).trans ((ifN (s2 := s) rfl).trans ((ifN (s2 := s) rfl).trans ((ifN (s2 := s) rfl).trans ((ifN (s2 := s) rfl).trans ((ifN (s2 := s) rfl).trans ((ifN (s2 := s) rfl).trans ((ifN (s2 := s) rfl).trans ((ifN (s2 := s) rfl).trans (ifR (s2 := s) rfl ?_)))))))))
      simp only [evI, evs, bd_ok, List.getElem?_cons_zero, List.getElem?_cons_succ, Lf.av, c2, ix1, ix2, opt_some, key_s, h2, valL, Nat.mul_zero, List.length_nil, Nat.zero_le, if_true, q]
theorem bd0 : Bd (.num 0) := ⟨fun i h => by
  cases h
  exact ⟨by decide, by decide⟩, rfl⟩
section
variable (k : Nat) (N : Env) (m n r : Nat) (s : Sto) (x y z : AV) (u v w : W)
theorem ixr {i : Int} {xs : List AV} {d : AV} (h : s[m]? = some (.lst xs)) (e : L2.atI xs i = some d) : opIdx (.ref m) (.int i) s = some d := by rw [idx_ref h, e]
theorem nt_ok (h : s[m]? = some (.lst [u.av])) : tab G defs (k + 4) 0 4 [.tup [.str ⟨⟨[110, 111, 116]⟩⟩, x], .ref m, .ref n, .ref r, noA N.no] s = .ok (negW u).av s := by
  show runD (fun g => tab G defs (k + 3) (4 * g)) G d4 _ s = _
  refine runD_same rfl ?_
  refine (exs_nx (σ2 := SV (.tup [.str ⟨⟨[110, 111, 116]⟩⟩, x]) m n r N.no (.str ⟨⟨[110, 111, 116]⟩⟩)) (s2 := s) rfl).trans ((ifN (s2 := s) rfl).trans ((ifN (s2 := s) rfl).trans (ifR (s2 := s) rfl ?_)))
  have q := (neg_ok (k + 1) u).call s
  have i0 := ixr m s (i := 0) h rfl
  simp only [evI, evs, bd_ok, List.getElem?_cons_zero, List.getElem?_cons_succ, i0, opt_some, Nat.mul_zero, q]
theorem mi_ok (h : s[m]? = some (.lst [u.av])) (hu : Bd u) : tab G defs (k + 4) 0 4 [.tup [.str ⟨⟨[109, 105, 110, 117, 115]⟩⟩, x], .ref m, .ref n, .ref r, noA N.no] s = .ok (caW .sb (.num 0) u).av s := by
  show runD (fun g => tab G defs (k + 3) (4 * g)) G d4 _ s = _
  refine runD_same rfl ?_
  refine (exs_nx (σ2 := SV (.tup [.str ⟨⟨[109, 105, 110, 117, 115]⟩⟩, x]) m n r N.no (.str ⟨⟨[109, 105, 110, 117, 115]⟩⟩)) (s2 := s) rfl).trans ((ifN (s2 := s) rfl).trans ((ifN (s2 := s) rfl).trans ((ifN (s2 := s) rfl).trans (ifR (s2 := s) rfl ?_))))
  have q : callF (tab G defs (k + 3) 0 14) [.str ⟨⟨[45]⟩⟩, .tup [.str ⟨⟨[110, 117, 109, 98, 101, 114]⟩⟩, .int 0], u.av] s = _ := (ca_ok k .sb (.num 0) u hu).call s
  have i0 := ixr m s (i := 0) h rfl
  have hL2 : 2 ≤ LINE := by decide
  simp only [evI, evs, bd_ok, List.getElem?_cons_zero, List.getElem?_cons_succ, i0, opt_some, Nat.mul_zero, List.length_cons, List.length_nil, Nat.reduceAdd, hL2, if_true, q]
theorem opv_ok (g : Sg) (h : s[m]? = some (.lst [u.av, v.av])) (hu : Bd u) (hv : Bd v) : tab G defs (k + 5) 0 4 [.tup [.str ⟨⟨[111, 112]⟩⟩, .str g.s, x, y], .ref m, .ref n, .ref r, noA N.no] s = .ok (opW g u v).av s := by
  show runD (fun g => tab G defs (k + 4) (4 * g)) G d4 _ s = _
  refine runD_same rfl ?_
  refine (exs_nx (σ2 := SV (.tup [.str ⟨⟨[111, 112]⟩⟩, .str g.s, x, y]) m n r N.no (.str ⟨⟨[111, 112]⟩⟩)) (s2 := s) rfl).trans ((ifN (s2 := s) rfl).trans ((ifN (s2 := s) rfl).trans ((ifN (s2 := s) rfl).trans ((ifN (s2 := s) rfl).trans (ifR (s2 := s) rfl ?_)))))
  have q := (op_ok k g u v hu hv).call s
  have i0 := ixr m s (i := 0) h rfl
  have i1 := ixr m s (i := 1) h rfl
  simp only [evI, evs, bd_ok, List.getElem?_cons_zero, List.getElem?_cons_succ, ix1, i0, i1, opt_some, Nat.mul_zero, q]
theorem if_ok (h : s[m]? = some (.lst [u.av, v.av, w.av])) : tab G defs (k + 4) 0 4 [.tup [.str ⟨⟨[105, 102]⟩⟩, x, y, z], .ref m, .ref n, .ref r, noA N.no] s = .ok (chW u v w).av s := by
  show runD (fun g => tab G defs (k + 3) (4 * g)) G d4 _ s = _
  refine runD_same rfl ?_
  refine (exs_nx (σ2 := SV (.tup [.str ⟨⟨[105, 102]⟩⟩, x, y, z]) m n r N.no (.str ⟨⟨[105, 102]⟩⟩)) (s2 := s) rfl).trans ((ifN (s2 := s) rfl).trans ((ifN (s2 := s) rfl).trans ((ifN (s2 := s) rfl).trans ((ifN (s2 := s) rfl).trans ((ifN (s2 := s) rfl).trans (ifR (s2 := s) rfl ?_))))))
  have q := (ch_ok (k + 1) u v w).call s
  have i0 := ixr m s (i := 0) h rfl
  have i1 := ixr m s (i := 1) h rfl
  have i2 := ixr m s (i := 2) h rfl
  simp only [evI, evs, bd_ok, List.getElem?_cons_zero, List.getElem?_cons_succ, i0, i1, i2, opt_some, Nat.mul_zero, q]
end
end L03


set_option Elab.async false
set_option linter.all false
set_option maxRecDepth 100000
namespace L03
open PySem Jp
inductive Ex where
  | lf (l : Lf) | nt (a : Ex) | mi (a : Ex) | op (g : Sg) (a b : Ex) | ife (a b c : Ex)
def enc : Ex → AV
  | .lf l => l.av
  | .nt a => .tup [.str ⟨⟨[110, 111, 116]⟩⟩, enc a]
  | .mi a => .tup [.str ⟨⟨[109, 105, 110, 117, 115]⟩⟩, enc a]
  | .op g a b => .tup [.str ⟨⟨[111, 112]⟩⟩, .str g.s, enc a, enc b]
  | .ife a b c => .tup [.str ⟨⟨[105, 102]⟩⟩, enc a, enc b, enc c]
theorem low_enc (n : Nat) : ∀ e : Ex, lowA n (enc e) = true
  | .lf l => by cases l <;> rfl
  | .nt a => by
    show (true && (lowA n (enc a) && true)) = true
    rw [low_enc n a] <;> rfl
  | .mi a => by
    show (true && (lowA n (enc a) && true)) = true
    rw [low_enc n a] <;> rfl
  | .op g a b => by
    show (true && (true && (lowA n (enc a) && (lowA n (enc b) && true)))) = true
    rw [low_enc n a, low_enc n b] <;> rfl
  | .ife a b c => by
    show (true && (lowA n (enc a) && (lowA n (enc b) && (lowA n (enc c) && true)))) = true
    rw [low_enc n a, low_enc n b, low_enc n c] <;> rfl
def parts : Ex → List Ex
  | .lf _ => []
  | .nt a => [a]
  | .mi a => [a]
  | .op _ a b => [a, b]
  | .ife a b c => [a, b, c]
theorem low_encs (n : Nat) : ∀ l : List Ex, lowL n (l.map enc) = true
  | [] => rfl
  | a :: l => by
    show (lowA n (enc a) && lowL n (l.map enc)) = true
    rw [low_enc, low_encs n l] <;> rfl
theorem parts_ok (k : Nat) (e : Ex) : Pu (tab G defs (k + 1) 0 0) [enc e] (.tup ((parts e).map enc)) := by
  refine ⟨?_, low_encs 0 (parts e), ?_⟩
  · show (lowA 0 (enc e) && true) = true
    rw [low_enc] <;> rfl
  · cases e with
    | lf l => cases l <;> exact ⟨_, rfl⟩
    | nt a => exact ⟨_, rfl⟩
    | mi a => exact ⟨_, rfl⟩
    | op g a b => exact ⟨_, rfl⟩
    | ife a b c => exact ⟨_, rfl⟩
def pre : Ex → List Ex
  | .lf l => [.lf l]
  | .nt a => .nt a :: pre a
  | .mi a => .mi a :: pre a
  | .op g a b => .op g a b :: (pre b ++ pre a)
  | .ife a b c => .ife a b c :: (pre c ++ (pre b ++ pre a))
theorem pre_pos (e : Ex) : 1 ≤ (pre e).length := by
  cases e <;> exact Nat.succ_le_succ (Nat.zero_le _)
def S2l (s : Sto) (A B : List AV) : Sto := s ++ [.lst A, .lst B]
section
variable (s : Sto) (A B C : List AV)
theorem S2a : (S2l s A B)[s.length]? = some (.lst A) := by
  unfold S2l
  rw [List.getElem?_append_right (Nat.le_refl _), Nat.sub_self] <;> rfl
theorem S2b : (S2l s A B)[s.length + 1]? = some (.lst B) := by
  unfold S2l
  rw [List.getElem?_append_right (Nat.le_succ _), show s.length.succ - s.length = 1 from by omega] <;> rfl
theorem S2sa : (S2l s A B).set s.length (.lst C) = S2l s C B := by
  unfold S2l
  rw [List.set_append_right _ _ (Nat.le_refl _), Nat.sub_self] <;> rfl
theorem S2sb : (S2l s A B).set (s.length + 1) (.lst C) = S2l s A C := by
  unfold S2l
  rw [List.set_append_right _ _ (Nat.le_succ _), show s.length.succ - s.length = 1 from by omega] <;> rfl
end
theorem opt_none {α : Type} (s : Sto) : opt (none : Option α) s = .bad := rfl
theorem pop_ref {s : Sto} {m : Nat} {xs : List AV} {x : AV} (h : s[m]? = some (.lst (xs ++ [x]))) : opMe .pop (.ref m) [] s = .ok x (s.set m (.lst xs)) := by
  show (match s[m]? with
    | some (.lst ys) => (match ys[ys.length - 1]? with
      | some y => Rs.ok y (s.set m (.lst ys.dropLast))
      | none => .bad)
    | _ => .bad) = _
  rw [h]
  show (match (xs ++ [x])[(xs ++ [x]).length - 1]? with
      | some y => Rs.ok y (s.set m (.lst (xs ++ [x]).dropLast))
      | none => .bad) = _
  rw [List.length_append, List.length_singleton, Nat.add_sub_cancel, List.getElem?_append_right (Nat.le_refl _), Nat.sub_self, List.dropLast_concat] <;> rfl
theorem app_ref {s : Sto} {m : Nat} {xs : List AV} {x : AV} (h : s[m]? = some (.lst xs)) (hl : xs.length < LINE) : opMe .append (.ref m) [x] s = .ok .non (s.set m (.lst (xs ++ [x]))) := by
  show (match s[m]? with
    | some (.lst ys) => if ys.length < LINE then Rs.ok AV.non (s.set m (.lst (ys ++ [x]))) else .bad
    | _ => .bad) = _
  rw [h]
  show (if xs.length < LINE then _ else _) = _
  rw [if_pos hl]
theorem ext_ref {s : Sto} {m : Nat} {xs zs : List AV} (h : s[m]? = some (.lst xs)) (hl : xs.length + zs.length ≤ LINE) : opMe .extend (.ref m) [.tup zs] s = .ok .non (s.set m (.lst (xs ++ zs))) := by
  show (match s[m]? with
    | some (.lst ys) => if ys.length + zs.length ≤ LINE then Rs.ok AV.non (s.set m (.lst (ys ++ zs))) else .bad
    | _ => .bad) = _
  rw [h]
  show (if xs.length + zs.length ≤ LINE then _ else _) = _
  rw [if_pos hl]
theorem rev_ref {s : Sto} {m : Nat} {xs : List AV} (h : s[m]? = some (.lst xs)) : opMe .reverse (.ref m) [] s = .ok .non (s.set m (.lst xs.reverse)) := by
  show (match s[m]? with
    | some (.lst ys) => Rs.ok AV.non (s.set m (.lst ys.reverse))
    | _ => .bad) = _
  rw [h]
section
variable {s : Sto} {m : Nat} {xs : List AV} (h : s[m]? = some (.lst xs))
include h
theorem mt_pop : meT .pop (.ref m) s = true := by
  show (match s[m]? with
    | some (.lst _) => true
    | _ => false) = true
  rw [h]
theorem mt_app : meT .append (.ref m) s = true := by
  show (match s[m]? with
    | some (.lst _) => true
    | _ => false) = true
  rw [h]
theorem mt_ext : meT .extend (.ref m) s = true := by
  show (match s[m]? with
    | some (.lst _) => true
    | _ => false) = true
  rw [h]
theorem mt_rev : meT .reverse (.ref m) s = true := by
  show (match s[m]? with
    | some (.lst _) => true
    | _ => false) = true
  rw [h]
end
def apB : List IS := [(.asg (.nm 3) (.me .pop (.slot 2) [])),
      (.ex (.me .append (.slot 1) [(.slot 3)])),
      (.ex (.me .extend (.slot 2) [(.call 0 [(.slot 3)])]))]
theorem d1_eq : d1 = ⟨4, 1, [(.asg (.nm 1) (.lst [])), (.asg (.nm 2) (.lst [(.slot 0)])), (.while_ (.slot 2) apB), (.ex (.me .reverse (.slot 1) [])), (.ret (.slot 1))]⟩ := rfl
abbrev Sl1 (e0 : AV) (N : Nat) (c : Option AV) : Slots := [some e0, some (.ref N), some (.ref (N + 1)), c]
theorem turn1 (k n : Nat) (s : Sto) (e0 : AV) (c : Option AV) (A B : List AV) (e : Ex) (hA : A.length < LINE) (hB : B.length + 3 ≤ LINE) :
    exs (exI (fun g => tab G defs (k + 1) (4 * g)) G (n + 4)) apB (Sl1 e0 s.length c) (S2l s A (B ++ [enc e])) = .ok (.nx (Sl1 e0 s.length (some (enc e)))) (S2l s (A ++ [enc e]) (B ++ (parts e).map enc)) := by
  have hp := fun s => (parts_ok k e).call s
  have l3 : ((parts e).map enc).length ≤ 3 := by cases e <;> simp [parts]
  have t1 := mt_pop (S2b s A (B ++ [enc e]))
  have t2 := mt_app (S2a s A B)
  have t3 := mt_ext (S2b s (A ++ [enc e]) B)
  have o1 := pop_ref (S2b s A (B ++ [enc e]))
  have o2 := app_ref (x := enc e) (S2a s A B) hA
  have o3 := ext_ref (zs := (parts e).map enc) (S2b s (A ++ [enc e]) B) (by omega)
  rw [S2sb] at o1 o3
  rw [S2sa] at o2
  unfold apB
  simp only [exs, exI, evI, evs, bd_ok, List.getElem?_cons_zero, List.getElem?_cons_succ, t1, o1, asT, List.length_cons, List.length_nil, Nat.reduceAdd, Nat.reduceLT, reduceIte, opt_some, List.set_cons_succ, List.set_cons_zero, if_true, t2, o2, t3, o3, Nat.mul_zero, hp]
theorem test1 (k n : Nat) (s : Sto) (e0 : AV) (c : Option AV) (A B : List AV) : ((evI (fun g => tab G defs (k + 1) (4 * g)) G 0 (n + 1) (.slot 2) (Sl1 e0 s.length c) (S2l s A B)).bd fun x s => opt (truth s x) s) = .ok (!B.isEmpty) (S2l s A B) := by
  have t := tr_ref (S2b s A B)
  simp only [evI, bd_ok, List.getElem?_cons_zero, List.getElem?_cons_succ, t, opt_some]
/-- the parts of e come behind each other -/
theorem loop1 (k n : Nat) (s : Sto) (e0 : AV) : ∀ (e : Ex) (M : Nat) (c : Option AV) (A B : List AV), A.length + (pre e).length + B.length + 10 ≤ LINE →
    ∃ c', whileLoop (fun σ s => (evI (fun g => tab G defs (k + 1) (4 * g)) G 0 (n + 4) (.slot 2) σ s).bd fun x s => opt (truth s x) s) (exs (exI (fun g => tab G defs (k + 1) (4 * g)) G (n + 4)) apB) (M + (pre e).length) (Sl1 e0 s.length c) (S2l s A (B ++ [enc e])) =
      whileLoop (fun σ s => (evI (fun g => tab G defs (k + 1) (4 * g)) G 0 (n + 4) (.slot 2) σ s).bd fun x s => opt (truth s x) s) (exs (exI (fun g => tab G defs (k + 1) (4 * g)) G (n + 4)) apB) M (Sl1 e0 s.length c') (S2l s (A ++ (pre e).map enc) B) := by
  have one : ∀ (e : Ex) (M : Nat) (c : Option AV) (A B : List AV), A.length + B.length + 4 ≤ LINE → whileLoop (fun σ s => (evI (fun g => tab G defs (k + 1) (4 * g)) G 0 (n + 4) (.slot 2) σ s).bd fun x s => opt (truth s x) s) (exs (exI (fun g => tab G defs (k + 1) (4 * g)) G (n + 4)) apB) (M + 1) (Sl1 e0 s.length c) (S2l s A (B ++ [enc e])) =
      whileLoop (fun σ s => (evI (fun g => tab G defs (k + 1) (4 * g)) G 0 (n + 4) (.slot 2) σ s).bd fun x s => opt (truth s x) s) (exs (exI (fun g => tab G defs (k + 1) (4 * g)) G (n + 4)) apB) M (Sl1 e0 s.length (some (enc e))) (S2l s (A ++ [enc e]) (B ++ (parts e).map enc)) := fun e M c A B hl => by
    rw [whileLoop, test1 k (n + 3) s e0 c A (B ++ [enc e]), bd_ok, show (!(B ++ [enc e]).isEmpty) = true from by simp, if_pos rfl, turn1 k n s e0 c A B e (by omega) (by omega)] <;> rfl
  intro e
  induction e with
  | lf l =>
    intro M c A B hl
    refine ⟨some (enc (.lf l)), ?_⟩
    rw [show (pre (.lf l)).length = 1 from rfl, one _ M c A B (by omega)]
    show whileLoop _ _ M _ (S2l s (A ++ [enc (.lf l)]) (B ++ [])) = _
    rw [List.append_nil] <;> rfl
  | nt a iha =>
    intro M c A B hl
    have hl : A.length + ((pre a).length + 1) + B.length + 10 ≤ LINE := hl
    obtain ⟨c', h⟩ := iha M (some (enc (.nt a))) (A ++ [enc (.nt a)]) B (by rw [List.length_append, List.length_singleton]; omega)
    refine ⟨c', ?_⟩
    rw [show M + (pre (.nt a)).length = (M + (pre a).length) + 1 from rfl, one _ _ c A B (by omega)]
    refine h.trans ?_
    rw [List.append_assoc] <;> rfl
  | mi a iha =>
    intro M c A B hl
    have hl : A.length + ((pre a).length + 1) + B.length + 10 ≤ LINE := hl
    obtain ⟨c', h⟩ := iha M (some (enc (.mi a))) (A ++ [enc (.mi a)]) B (by rw [List.length_append, List.length_singleton]; omega)
    refine ⟨c', ?_⟩
    rw [show M + (pre (.mi a)).length = (M + (pre a).length) + 1 from rfl, one _ _ c A B (by omega)]
    refine h.trans ?_
    rw [List.append_assoc] <;> rfl
  | op g a b iha ihb =>
    intro M c A B hl
    have hl : A.length + ((pre b ++ pre a).length + 1) + B.length + 10 ≤ LINE := hl
    rw [List.length_append] at hl
    have pa := pre_pos a
    obtain ⟨c1, h1⟩ := ihb (M + (pre a).length) (some (enc (.op g a b))) (A ++ [enc (.op g a b)]) (B ++ [enc a]) (by rw [List.length_append, List.length_singleton, List.length_append, List.length_singleton]; omega)
    obtain ⟨c2, h2⟩ := iha M c1 (A ++ [enc (.op g a b)] ++ (pre b).map enc) B (by rw [List.length_append, List.length_append, List.length_singleton, List.length_map]; omega)
    refine ⟨c2, ?_⟩
    rw [show M + (pre (.op g a b)).length = (M + (pre a).length + (pre b).length) + 1 from by
      show M + ((pre b ++ pre a).length + 1) = _
      rw [List.length_append]
      omega, one _ _ c A B (by omega)]
    have e1 : B ++ (parts (.op g a b)).map enc = (B ++ [enc a]) ++ [enc b] := by
      rw [List.append_assoc] <;> rfl
    rw [e1]
    refine h1.trans (h2.trans ?_)
    rw [show A ++ [enc (.op g a b)] ++ (pre b).map enc ++ (pre a).map enc = A ++ (pre (.op g a b)).map enc from by
      show _ = A ++ enc (.op g a b) :: (pre b ++ pre a).map enc
      rw [List.map_append]
      simp]
  | ife a b d iha ihb ihd =>
    intro M c A B hl
    have hl : A.length + ((pre d ++ (pre b ++ pre a)).length + 1) + B.length + 10 ≤ LINE := hl
    rw [List.length_append, List.length_append] at hl
    have pa := pre_pos a
    have pb := pre_pos b
    obtain ⟨c1, h1⟩ := ihd (M + (pre a).length + (pre b).length) (some (enc (.ife a b d))) (A ++ [enc (.ife a b d)]) (B ++ [enc a] ++ [enc b]) (by simp only [List.length_append, List.length_singleton]; omega)
    obtain ⟨c2, h2⟩ := ihb (M + (pre a).length) c1 (A ++ [enc (.ife a b d)] ++ (pre d).map enc) (B ++ [enc a]) (by simp only [List.length_append, List.length_singleton, List.length_map]; omega)
    obtain ⟨c3, h3⟩ := iha M c2 (A ++ [enc (.ife a b d)] ++ (pre d).map enc ++ (pre b).map enc) B (by simp only [List.length_append, List.length_singleton, List.length_map]; omega)
    refine ⟨c3, ?_⟩
    rw [show M + (pre (.ife a b d)).length = (M + (pre a).length + (pre b).length + (pre d).length) + 1 from by
      show M + ((pre d ++ (pre b ++ pre a)).length + 1) = _
      rw [List.length_append, List.length_append]
      omega, one _ _ c A B (by omega)]
    have e1 : B ++ (parts (.ife a b d)).map enc = (B ++ [enc a] ++ [enc b]) ++ [enc d] := by
      rw [List.append_assoc, List.append_assoc] <;> rfl
    rw [e1]
    refine h1.trans (h2.trans (h3.trans ?_))
    rw [show A ++ [enc (.ife a b d)] ++ (pre d).map enc ++ (pre b).map enc ++ (pre a).map enc = A ++ (pre (.ife a b d)).map enc from by
      show _ = A ++ enc (.ife a b d) :: (pre d ++ (pre b ++ pre a)).map enc
      rw [List.map_append, List.map_append]
      simp]
end L03


set_option Elab.async false
set_option linter.all false
set_option maxRecDepth 100000
namespace L03
open PySem Jp
def post (e : Ex) : List Ex := (pre e).reverse
theorem many (n : Nat) (h : n ≤ 1000) : ∃ M, MANY = (M + 1) + n := ⟨MANY - n - 1, by
  have : 2000 ≤ MANY := by decide
  omega⟩
theorem allp_ok (k : Nat) (e : Ex) (s : Sto) (hl : (pre e).length ≤ 1000) : tab G defs (k + 2) 0 1 [enc e] s = .ok (.ref s.length) (S2l s ((post e).map enc) []) := by
  have e0 : tab G defs (k + 2) 0 1 [enc e] s = runD (fun g => tab G defs (k + 1) (4 * g)) G ⟨4, 1, [(.asg (.nm 1) (.lst [])), (.asg (.nm 2) (.lst [(.slot 0)])), (.while_ (.slot 2) apB), (.ex (.me .reverse (.slot 1) [])), (.ret (.slot 1))]⟩ [enc e] s := rfl
  have hL : 2000 ≤ LINE := by decide
  have a1 : exI (fun g => tab G defs (k + 1) (4 * g)) G 100 (.asg (.nm 1) (.lst [])) [some (enc e), none, none, none] s = .ok (.nx [some (enc e), some (.ref s.length), none, none]) (s ++ [.lst []]) := rfl
  have a2 : exI (fun g => tab G defs (k + 1) (4 * g)) G 100 (.asg (.nm 2) (.lst [(.slot 0)])) [some (enc e), some (.ref s.length), none, none] (s ++ [.lst []]) = .ok (.nx (Sl1 (enc e) s.length none)) (S2l s [] [enc e]) := by
    have h1 : ([enc e] : List AV).length ≤ LINE := by
      show 1 ≤ LINE
      omega
    simp only [exI, evI, evs, bd_ok, List.getElem?_cons_zero, h1, if_true, asT, List.length_cons, List.length_nil, Nat.reduceAdd, Nat.reduceLT, reduceIte, opt_some, List.set_cons_succ, List.set_cons_zero, List.length_append, List.append_assoc, List.cons_append, List.nil_append]
    rfl
  obtain ⟨M, hM⟩ := many (pre e).length hl
  obtain ⟨c', hw⟩ := loop1 k 95 s (enc e) e (M + 1) none [] [] (by simp only [List.length_nil]; omega)
  have a3 : exI (fun g => tab G defs (k + 1) (4 * g)) G 100 (.while_ (.slot 2) apB) (Sl1 (enc e) s.length none) (S2l s [] [enc e]) = .ok (.nx (Sl1 (enc e) s.length c')) (S2l s ((pre e).map enc) []) := by
    rw [exI, hM]
    refine hw.trans ?_
    rw [List.nil_append, whileLoop, test1 k 98 s (enc e) c' ((pre e).map enc) []] <;> rfl
  have a4 : exI (fun g => tab G defs (k + 1) (4 * g)) G 100 (.ex (.me .reverse (.slot 1) [])) (Sl1 (enc e) s.length c') (S2l s ((pre e).map enc) []) = .ok (.nx (Sl1 (enc e) s.length c')) (S2l s ((post e).map enc) []) := by
    have t1 := mt_rev (S2a s ((pre e).map enc) [])
    have o1 := rev_ref (S2a s ((pre e).map enc) [])
    rw [S2sa, ← List.map_reverse] at o1
    simp only [exI, evI, evs, bd_ok, List.getElem?_cons_zero, List.getElem?_cons_succ, t1, o1, if_true]
    rfl
  have b : exs (exI (fun g => tab G defs (k + 1) (4 * g)) G 100) [(.asg (.nm 1) (.lst [])), (.asg (.nm 2) (.lst [(.slot 0)])), (.while_ (.slot 2) apB), (.ex (.me .reverse (.slot 1) [])), (.ret (.slot 1))] [some (enc e), none, none, none] s = .ok (.rt (.ref s.length)) (S2l s ((post e).map enc) []) :=
    (exs_nx a1).trans ((exs_nx a2).trans ((exs_nx a3).trans ((exs_nx a4).trans (rtE rfl))))
  rw [e0, runD_rt rfl b]
  have lg : Jp.letGo s.length (.ref s.length) (S2l s ((post e).map enc) []) = S2l s ((post e).map enc) [] := by
    unfold Jp.letGo
    rw [show lowA s.length (.ref s.length) = false from by simp [lowA]] <;> rfl
  rw [lg]
theorem allp_call (k : Nat) (e : Ex) (s : Sto) (hl : (pre e).length ≤ 1000) : callF (tab G defs (k + 2) 0 1) [enc e] s = .ok (.ref s.length) (S2l s ((post e).map enc) []) := by
  unfold callF
  rw [show lowL 0 [enc e] = true from by
    show (lowA 0 (enc e) && true) = true
    rw [low_enc]
    rfl, if_pos rfl, allp_ok k e [] hl]
  exact allp_ok k e s hl
/-- what a part is worth -/
def valE (N : Env) : Ex → W
  | .lf l => valL N l
  | .nt a => negW (valE N a)
  | .mi a => caW .sb (.num 0) (valE N a)
  | .op g a b => opW g (valE N a) (valE N b)
  | .ife a b c => chW (valE N a) (valE N b) (valE N c)
def vals (N : Env) (l : List Ex) : List AV := l.map fun p => (valE N p).av
theorem EnvOk.app {N : Env} {n r : Nat} {s : Sto} (E : EnvOk N n r s) (t : Sto) : EnvOk N n r (s ++ t) := by
  obtain ⟨k1, e1, h1⟩ := E.a
  obtain ⟨k2, e2, h2⟩ := E.b
  refine ⟨⟨k1, ?_, h1⟩, ⟨k2, ?_, h2⟩, E.c⟩
  · rw [List.getElem?_append_left (List.getElem?_eq_some_iff.mp e1).1, e1]
  · rw [List.getElem?_append_left (List.getElem?_eq_some_iff.mp e2).1, e2]
/-- every part's value is bounded -/
def BdE (N : Env) : Ex → Prop
  | .lf l => Bd (valL N l)
  | .nt a => BdE N a
  | .mi a => BdE N a
  | .op _ a b => BdE N a ∧ BdE N b
  | .ife a b c => BdE N a ∧ BdE N b ∧ BdE N c
theorem bdn {w : W} (h : ∀ i, w ≠ .num i) (o : okW w = true) : Bd w := ⟨fun i e => absurd e (h i), o⟩
theorem bd_num {i : Int} (h : -1000000 ≤ i ∧ i ≤ 1000000) : Bd (.num i) := ⟨fun j e => by
  cases e
  exact h, rfl⟩
theorem bd_non : Bd .non := bdn (fun _ e => by cases e) rfl
theorem bd_tr (b : Bool) : Bd (.tr b) := bdn (fun _ e => by cases e) rfl
theorem bd_res (n : Int) : Bd (resW n) := by
  unfold resW
  split
  · rename_i q
    exact bd_num q
  · exact bd_non
theorem bd_ca (c : As) (a b : W) : Bd (caW c a b) := by
  unfold caW
  split
  · exact bd_res _
  · exact bd_non
theorem bd_al (ws : List W) : Bd (alW ws) := by
  unfold alW
  split
  · exact bd_tr _
  · split
    · exact bd_non
    · exact bd_tr _
theorem bd_an (ws : List W) : Bd (anW ws) := by
  unfold anW
  split
  · exact bd_tr _
  · split
    · exact bd_non
    · exact bd_tr _
theorem bd_op (g : Sg) {a b : W} (ha : Bd a) (hb : Bd b) : Bd (opW g a b) := by
  cases g with
  | qq =>
    show Bd (if isNo a then b else a)
    split
    · exact hb
    · exact ha
  | or => exact bd_an _
  | and => exact bd_al _
  | lk e =>
    show Bd (if isNo a || isNo b then W.non else .tr (eqW a b == e))
    split
    · exact bd_non
    · exact bd_tr _
  | ca c => exact bd_ca c a b
  | cm c =>
    show Bd (match N3 a, N3 b with
      | some i, some j => W.tr (c.f i j)
      | _, _ => .non)
    split
    · exact bd_tr _
    · exact bd_non
theorem bd_neg (w : W) : Bd (negW w) := by
  cases w <;> first | exact bd_non | exact bd_tr _
theorem bd_ch {t a b : W} (ha : Bd a) (hb : Bd b) : Bd (chW t a b) := by
  cases t <;> first | exact bd_non | skip
  rename_i c
  cases c
  · exact hb
  · exact ha
theorem bd_val (N : Env) : ∀ e : Ex, BdE N e → Bd (valE N e)
  | .lf l, h => h
  | .nt a, h => bd_neg _
  | .mi a, h => bd_ca .sb _ _
  | .op g a b, h => bd_op g (bd_val N a h.1) (bd_val N b h.2)
  | .ife a b c, h => bd_ch (bd_val N b h.2.1) (bd_val N c h.2.2)
theorem part_ok (k : Nat) (N : Env) (e : Ex) (m n r : Nat) (s : Sto) (E : EnvOk N n r s) (hb : BdE N e) (h : s[m]? = some (.lst (vals N (parts e)))) : tab G defs (k + 5) 0 4 [enc e, .ref m, .ref n, .ref r, noA N.no] s = .ok (valE N e).av s := by
  cases e with
  | lf l => exact leaf_ok (k + 1) N l m n r s E
  | nt a => exact nt_ok (k + 1) N m n r s (enc a) (valE N a) h
  | mi a => exact mi_ok (k + 1) N m n r s (enc a) (valE N a) h (bd_val N a hb)
  | op g a b => exact opv_ok k N m n r s (enc a) (enc b) (valE N a) (valE N b) g h (bd_val N a hb.1) (bd_val N b hb.2)
  | ife a b c => exact if_ok (k + 1) N m n r s (enc a) (enc b) (enc c) (valE N a) (valE N b) (valE N c) h
end L03


set_option Elab.async false
set_option linter.all false
set_option maxRecDepth 100000
namespace L03
open PySem Jp
theorem callF_hi {f : List AV → Sto → Rs AV} {xs : List AV} {s : Sto} (h : lowL 0 xs = false) : callF f xs s = f xs s := by
  unfold callF
  rw [h] <;> rfl
theorem withC_ne {T : Nat → Nat → List AV → Sto → Rs AV} {c : List AV → Sto → Rs AV} {d j : Nat} (h : j ≠ CLO) : withC T c d j = T d j := if_neg h
theorem withC_eq {T : Nat → Nat → List AV → Sto → Rs AV} {c : List AV → Sto → Rs AV} : withC T c 0 CLO = c := by
  unfold withC
  rw [if_pos rfl, if_pos rfl]
def bdyL : IE := .call 4 [(.slot 0), (.slot 1), (.slot 2), (.slot 3), (.slot 4)]
def L0 : Lam := ⟨2, 1, 3, .lam 2 [⟨⟨[112, 97, 114, 116]⟩⟩, ⟨⟨[105, 110, 110, 101, 114]⟩⟩] [⟨⟨[110, 97, 109, 101, 115]⟩⟩, ⟨⟨[114, 111, 119, 115]⟩⟩, ⟨⟨[110, 117, 109, 98, 101, 114]⟩⟩] bdyL⟩
theorem lms_eq : G.lm = [L0] := rfl
abbrev Fc (K : Nat) (caps : List AV) : Nat → Nat → List AV → Sto → Rs AV := fun g => withC (tab G defs K) (cloF (tab G defs K) G L0 caps) (4 * g)
section
variable (k : Nat) (N : Env) (n r : Nat)
theorem clo_ok (e : Ex) (m : Nat) (s : Sto) (E : EnvOk N n r s) (hb : BdE N e) (h : s[m]? = some (.lst (vals N (parts e)))) : cloF (tab G defs (k + 9)) G L0 [.ref n, .ref r, noA N.no] [enc e, .ref m] s = .ok (valE N e).av s := by
  have q := part_ok k N e m n r s E hb h
  have lo : lowL 0 [enc e, .ref m, .ref n, .ref r, noA N.no] = false := by
    show (lowA 0 (enc e) && (decide (m < 0) && _)) = false
    rw [low_enc, show decide (m < 0) = false from by simp] <;> rfl
  have ev : evI (fun g => tab G defs (k + 9) (4 * g)) G 1 99 bdyL [some (enc e), some (.ref m), some (.ref n), some (.ref r), some (noA N.no)] s = .ok (valE N e).av s := by
    have c : callF (tab G defs (k + 5) 0 4) [enc e, .ref m, .ref n, .ref r, noA N.no] s = .ok (valE N e).av s := (callF_hi lo).trans q
    exact c
  show (if 2 = 2 ∧ 2 = 2 ∧ 3 = 3 then (evI (fun g => tab G defs (k + 9) (4 * g)) G 1 99 bdyL [some (enc e), some (.ref m), some (.ref n), some (.ref r), some (noA N.no)] s).bd fun v s' => Rs.ok v (Jp.letGo s.length v s') else .bad) = _
  rw [if_pos ⟨rfl, rfl, rfl⟩, ev]
  show Rs.ok _ (Jp.letGo s.length _ s) = _
  rw [letGo_same rfl]
end
theorem runH_rt {T : Nat → Nat → List AV → Sto → Rs AV} {L : Lam} {d : Df} {xs caps : List AV} {σ : Slots} {body : List IS} {s s2 : Sto} {v : AV} (hl : xs.length = L.na + L.nc ∧ d.pars = L.na + 1) (h1 : xs.drop L.na = caps) (h2 : (xs.take L.na).map some ++ List.replicate (d.names - L.na) none = σ) (h3 : d.body = body)
    (h : exs (exI (fun g => withC T (cloF T G L caps) (4 * g)) G 100) body σ s = .ok (.rt v) s2) : runH T G L d xs s = .ok v (Jp.letGo s.length v s2) := by
  subst h1 h2 h3
  unfold runH
  rw [if_pos hl, h] <;> rfl
def St3 (s : Sto) (A P : List AV) (J : Sto) : Sto := s ++ (.lst A :: .lst P :: .lst [] :: J)
section
variable (s : Sto) (A P C : List AV) (J : Sto)
theorem St3a : (St3 s A P J)[s.length]? = some (.lst A) := by
  unfold St3
  rw [List.getElem?_append_right (Nat.le_refl _), Nat.sub_self] <;> rfl
theorem St3b : (St3 s A P J)[s.length + 1]? = some (.lst P) := by
  unfold St3
  rw [List.getElem?_append_right (Nat.le_succ _), show s.length.succ - s.length = 1 from by omega] <;> rfl
theorem St3s : (St3 s A P J).set s.length (.lst C) = St3 s C P J := by
  unfold St3
  rw [List.set_append_right _ _ (Nat.le_refl _), Nat.sub_self] <;> rfl
theorem St3p (x : AO) : St3 s A P J ++ [x] = St3 s A P (J ++ [x]) := by
  unfold St3
  rw [List.append_assoc] <;> rfl
theorem St3l (x : AO) : (St3 s A P (J ++ [x]))[(St3 s A P J).length]? = some x := by
  rw [← St3p, List.getElem?_append_right (Nat.le_refl _), Nat.sub_self] <;> rfl
end
theorem sl_tail {s : Sto} {m : Nat} {A B : List AV} (h : s[m]? = some (.lst (A ++ B))) : opSl (.ref m) (some (A.length : Int)) none s = .ok (.ref s.length) (s ++ [.lst B]) := by
  show (match s[m]? with
    | some (.lst xs) => Rs.ok (AV.ref s.length) (s ++ [AO.lst ((xs.drop (HT.sIx xs.length 0 (some (A.length : Int)))).take (HT.sIx xs.length xs.length none - HT.sIx xs.length 0 (some (A.length : Int))))])
    | _ => .bad) = _
  rw [h]
  show Rs.ok (AV.ref s.length) (s ++ [AO.lst (((A ++ B).drop (HT.sIx (A ++ B).length 0 (some (A.length : Int)))).take (HT.sIx (A ++ B).length (A ++ B).length none - HT.sIx (A ++ B).length 0 (some (A.length : Int))))]) = _
  rw [HT.sIx_none, HT.sIx_nat, List.length_append, Nat.min_eq_left (by omega), List.drop_left, List.take_of_length_le (by omega)]
def foB : List IS := [(.asg (.nm 4) (.bin .sub (.bi .len [(.slot 2)]) (.bi .len [(.call 0 [(.slot 3)])]))), (.putc (.slot 2) (.slot 4) [(.slot 3), (.sl (.slot 2) (some (.slot 4)) none)])]
theorem d2_eq : d2 = ⟨5, 2, [(.asg (.nm 2) (.lst [])), (.for_ (.nm 3) .seq [(.call 1 [(.slot 0)])] foB), (.ret (.idx (.slot 2) (.lit (.int 0))))]⟩ := rfl
abbrev Sl2 (e0 : AV) (m : Nat) (c3 c4 : Option AV) : Slots := [some e0, none, some (.ref m), c3, c4]
section
variable (k : Nat) (N : Env) (n r : Nat)
theorem fold1 (w : Nat) (e0 : AV) (e : Ex) (c4 : Option AV) (s : Sto) (A P : List AV) (J : Sto) (E : EnvOk N n r s) (hb : BdE N e) (hl : A.length + 10 ≤ LINE) :
    exs (exI (Fc (k + 9) [.ref n, .ref r, noA N.no]) G (w + 5)) foB (Sl2 e0 s.length (some (enc e)) c4) (St3 s (A ++ vals N (parts e)) P J) = .ok (.nx (Sl2 e0 s.length (some (enc e)) (some (.int (A.length : Nat))))) (St3 s (A ++ [(valE N e).av]) P (J ++ [.lst (vals N (parts e))])) := by
  have p0 : ∀ s, callF (withC (tab G defs (k + 9)) (cloF (tab G defs (k + 9)) G L0 [.ref n, .ref r, noA N.no]) 0 0) [enc e] s = .ok (.tup ((parts e).map enc)) s := fun s => by
    rw [withC_ne (by decide)]
    exact (parts_ok (k + 8) e).call s
  have l1 := len_ref (St3a s (A ++ vals N (parts e)) P J)
  have l2 : ∀ s, opBi .len [.tup ((parts e).map enc)] s = .ok (.int (((parts e).map enc).length : Nat)) s := fun s => len_tup _ s
  have lv : (vals N (parts e)).length = (parts e).length := List.length_map ..
  have l3 : (parts e).length ≤ 3 := by cases e <;> simp [parts]
  have sb : ∀ s, opBin .sub (.int ((A ++ vals N (parts e)).length : Nat)) (.int (((parts e).map enc).length : Nat)) s = .ok (.int (A.length : Nat)) s := fun s => by
    show Rs.ok (AV.int (((A ++ vals N (parts e)).length : Nat) - (((parts e).map enc).length : Nat) : Int)) s = _
    rw [List.length_append, List.length_map, lv, show (((A.length + (parts e).length : Nat) : Int) - ((parts e).length : Nat)) = (A.length : Nat) from by omega]
  have sl := sl_tail (St3a s (A ++ vals N (parts e)) P J)
  rw [St3p] at sl
  have cl : withC (tab G defs (k + 9)) (cloF (tab G defs (k + 9)) G L0 [.ref n, .ref r, noA N.no]) 0 CLO [enc e, .ref (St3 s (A ++ vals N (parts e)) P J).length] (St3 s (A ++ vals N (parts e)) P (J ++ [.lst (vals N (parts e))])) = .ok (valE N e).av (St3 s (A ++ vals N (parts e)) P (J ++ [.lst (vals N (parts e))])) := by
    rw [withC_eq]
    exact clo_ok k N n r e _ _ (E.app _) hb (St3l s _ P J _)
  have one : exI (Fc (k + 9) [.ref n, .ref r, noA N.no]) G (w + 5) (.asg (.nm 4) (.bin .sub (.bi .len [(.slot 2)]) (.bi .len [(.call 0 [(.slot 3)])]))) (Sl2 e0 s.length (some (enc e)) c4) (St3 s (A ++ vals N (parts e)) P J) = .ok (.nx (Sl2 e0 s.length (some (enc e)) (some (.int (A.length : Nat))))) (St3 s (A ++ vals N (parts e)) P J) := by
    simp only [exI, evI, evs, bd_ok, List.getElem?_cons_zero, List.getElem?_cons_succ, l1, Nat.mul_zero, p0, l2, sb, asT, List.length_cons, List.length_nil, Nat.reduceAdd, Nat.reduceLT, reduceIte, opt_some, List.set_cons_succ, List.set_cons_zero]
  refine (exs_nx one).trans ?_
  have two : exI (Fc (k + 9) [.ref n, .ref r, noA N.no]) G (w + 5) (.putc (.slot 2) (.slot 4) [(.slot 3), (.sl (.slot 2) (some (.slot 4)) none)]) (Sl2 e0 s.length (some (enc e)) (some (.int (A.length : Nat)))) (St3 s (A ++ vals N (parts e)) P J) = .ok (.nx (Sl2 e0 s.length (some (enc e)) (some (.int (A.length : Nat))))) (St3 s (A ++ [(valE N e).av]) P (J ++ [.lst (vals N (parts e))])) := by
    have g := St3a s (A ++ vals N (parts e)) P (J ++ [.lst (vals N (parts e))])
    have cond : 0 ≤ ((A.length : Nat) : Int) ∧ ((A.length : Nat) : Int) ≤ ((A ++ vals N (parts e)).length : Nat) ∧ (A ++ vals N (parts e)).length < LINE := by
      rw [List.length_append, lv]
      omega
    simp only [exI, evI, evI.part, evs, bd_ok, List.getElem?_cons_zero, List.getElem?_cons_succ, sl, noX, Nat.mul_zero, cl, g]
    rw [if_pos cond, St3s, Int.toNat_natCast, List.take_left]
  exact two
end
mutual
theorem same_A : ∀ a : AV, sameA a a = true
  | .non => rfl
  | .bl x => by simp [sameA]
  | .int x => by simp [sameA]
  | .str x => by simp [sameA]
  | .tup x => by simp [sameA, same_L x]
  | .lst x => by simp [sameA, same_L x]
  | .ref x => by simp [sameA]
  | .fn x => by simp [sameA]
theorem same_L : ∀ a : List AV, sameL a a = true
  | [] => rfl
  | x :: r => by simp [sameL, same_A x, same_L r]
end
theorem stands_ref {s : Sto} {m : Nat} {P : List AV} (h : s[m]? = some (.lst P)) : stands .seq [.ref m] P s = true := by
  show (match s[m]? with
    | some (.lst zs) => sameL zs P
    | _ => false) = true
  rw [h]
  exact same_L P
section
variable (k : Nat) (N : Env) (n r : Nat)
/-- the fold's loop over a part's parts: its value comes -/
theorem foldL (w : Nat) (e0 : AV) (s : Sto) (P : List AV) (E : EnvOk N n r s) : ∀ (e : Ex) (rest : List AV) (c3 c4 : Option AV) (A : List AV) (J : Sto), BdE N e → A.length + (pre e).length + 10 ≤ LINE →
    ∃ d3 d4 J', forLoop (exs (exI (Fc (k + 9) [.ref n, .ref r, noA N.no]) G (w + 5)) foB) (.nm 3) .seq [.ref (s.length + 1)] P ((post e).map enc ++ rest) (Sl2 e0 s.length c3 c4) (St3 s A P J) =
      forLoop (exs (exI (Fc (k + 9) [.ref n, .ref r, noA N.no]) G (w + 5)) foB) (.nm 3) .seq [.ref (s.length + 1)] P rest (Sl2 e0 s.length d3 d4) (St3 s (A ++ [(valE N e).av]) P J') := by
  have one : ∀ (e : Ex) (rest : List AV) (c3 c4 : Option AV) (A : List AV) (J : Sto), BdE N e → A.length + 10 ≤ LINE → ∃ d3 d4 J', forLoop (exs (exI (Fc (k + 9) [.ref n, .ref r, noA N.no]) G (w + 5)) foB) (.nm 3) .seq [.ref (s.length + 1)] P (enc e :: rest) (Sl2 e0 s.length c3 c4) (St3 s (A ++ vals N (parts e)) P J) =
      forLoop (exs (exI (Fc (k + 9) [.ref n, .ref r, noA N.no]) G (w + 5)) foB) (.nm 3) .seq [.ref (s.length + 1)] P rest (Sl2 e0 s.length d3 d4) (St3 s (A ++ [(valE N e).av]) P J') := fun e rest c3 c4 A J hb hl => by
    refine ⟨some (enc e), some (.int (A.length : Nat)), J ++ [.lst (vals N (parts e))], ?_⟩
    have h := fold1 k N n r w e0 e c4 s A P J E hb hl
    have st := stands_ref (St3b s (A ++ [(valE N e).av]) P (J ++ [.lst (vals N (parts e))]))
    rw [forLoop, show asT (St3 s (A ++ vals N (parts e)) P J) (.nm 3) (enc e) (Sl2 e0 s.length c3 c4) = some (Sl2 e0 s.length (some (enc e)) c4) from rfl]
    show ((exs _ foB _ _).bd _) = _
    rw [h, bd_ok]
    show (if stands _ _ _ _ = true then _ else _) = _
    rw [st] <;> rfl
  intro e
  induction e with
  | lf l =>
    intro rest c3 c4 A J hb hl
    obtain ⟨d3, d4, J', h⟩ := one (.lf l) rest c3 c4 A J hb (by omega)
    refine ⟨d3, d4, J', Eq.trans ?_ h⟩
    show _ = forLoop _ _ _ _ _ _ _ (St3 s (A ++ []) P J)
    rw [List.append_nil] <;> rfl
  | nt a iha =>
    intro rest c3 c4 A J hb hl
    have hl : A.length + ((pre a).length + 1) + 10 ≤ LINE := hl
    have e1 : (post (.nt a)).map enc ++ rest = (post a).map enc ++ (enc (.nt a) :: rest) := by simp [post, pre]
    obtain ⟨b3, b4, J1, h1⟩ := iha (enc (.nt a) :: rest) c3 c4 A J hb (by omega)
    obtain ⟨d3, d4, J', h⟩ := one (.nt a) rest b3 b4 A J1 hb (by omega)
    exact ⟨d3, d4, J', by rw [e1]; exact h1.trans h⟩
  | mi a iha =>
    intro rest c3 c4 A J hb hl
    have hl : A.length + ((pre a).length + 1) + 10 ≤ LINE := hl
    have e1 : (post (.mi a)).map enc ++ rest = (post a).map enc ++ (enc (.mi a) :: rest) := by simp [post, pre]
    obtain ⟨b3, b4, J1, h1⟩ := iha (enc (.mi a) :: rest) c3 c4 A J hb (by omega)
    obtain ⟨d3, d4, J', h⟩ := one (.mi a) rest b3 b4 A J1 hb (by omega)
    exact ⟨d3, d4, J', by rw [e1]; exact h1.trans h⟩
  | op g a b iha ihb =>
    intro rest c3 c4 A J hb hl
    have hl : A.length + ((pre b ++ pre a).length + 1) + 10 ≤ LINE := hl
    rw [List.length_append] at hl
    have pa := pre_pos a
    have e1 : (post (.op g a b)).map enc ++ rest = (post a).map enc ++ ((post b).map enc ++ (enc (.op g a b) :: rest)) := by simp [post, pre]
    obtain ⟨b3, b4, J1, h1⟩ := iha ((post b).map enc ++ (enc (.op g a b) :: rest)) c3 c4 A J hb.1 (by omega)
    obtain ⟨f3, f4, J2, h2⟩ := ihb (enc (.op g a b) :: rest) b3 b4 (A ++ [(valE N a).av]) J1 hb.2 (by rw [List.length_append, List.length_singleton]; omega)
    obtain ⟨d3, d4, J', h⟩ := one (.op g a b) rest f3 f4 A J2 hb (by omega)
    refine ⟨d3, d4, J', ?_⟩
    rw [e1]
    refine h1.trans (h2.trans ?_)
    rw [List.append_assoc]
    exact h
  | ife a b c iha ihb ihc =>
    intro rest c3 c4 A J hb hl
    have hl : A.length + ((pre c ++ (pre b ++ pre a)).length + 1) + 10 ≤ LINE := hl
    rw [List.length_append, List.length_append] at hl
    have pa := pre_pos a
    have pb := pre_pos b
    have e1 : (post (.ife a b c)).map enc ++ rest = (post a).map enc ++ ((post b).map enc ++ ((post c).map enc ++ (enc (.ife a b c) :: rest))) := by simp [post, pre]
    obtain ⟨b3, b4, J1, h1⟩ := iha ((post b).map enc ++ ((post c).map enc ++ (enc (.ife a b c) :: rest))) c3 c4 A J hb.1 (by omega)
    obtain ⟨f3, f4, J2, h2⟩ := ihb ((post c).map enc ++ (enc (.ife a b c) :: rest)) b3 b4 (A ++ [(valE N a).av]) J1 hb.2.1 (by rw [List.length_append, List.length_singleton]; omega)
    obtain ⟨g3, g4, J3, h3⟩ := ihc (enc (.ife a b c) :: rest) f3 f4 (A ++ [(valE N a).av] ++ [(valE N b).av]) J2 hb.2.2 (by rw [List.length_append, List.length_append, List.length_singleton, List.length_singleton]; omega)
    obtain ⟨d3, d4, J', h⟩ := one (.ife a b c) rest g3 g4 A J3 hb (by omega)
    refine ⟨d3, d4, J', ?_⟩
    rw [e1]
    refine h1.trans (h2.trans (h3.trans ?_))
    rw [List.append_assoc, List.append_assoc]
    exact h
/-- all objects of a store hold what stands in it -/
def LowS (s : Sto) : Prop := s.all (lowO s.length) = true
theorem fold_ok (e : Ex) (s : Sto) (E : EnvOk N n r s) (hb : BdE N e) (hl : (pre e).length ≤ 1000) (hs : LowS s) : runH (tab G defs (k + 9)) G L0 d2 [enc e, .ref n, .ref r, noA N.no] s = .ok (valE N e).av s := by
  have hL : 2000 ≤ LINE := by decide
  have a1 : exI (Fc (k + 9) [.ref n, .ref r, noA N.no]) G 100 (.asg (.nm 2) (.lst [])) [some (enc e), none, none, none, none] s = .ok (.nx (Sl2 (enc e) s.length none none)) (s ++ [.lst []]) := rfl
  have src : evs (evI (Fc (k + 9) [.ref n, .ref r, noA N.no]) G 0 99) [(.call 1 [(.slot 0)])] (Sl2 (enc e) s.length none none) (s ++ [.lst []]) = .ok [.ref (s.length + 1)] (St3 s [] ((post e).map enc) []) := by
    have q := allp_call (k + 7) e (s ++ [.lst []]) hl
    have p0 : callF (withC (tab G defs (k + 9)) (cloF (tab G defs (k + 9)) G L0 [.ref n, .ref r, noA N.no]) 0 1) [enc e] (s ++ [.lst []]) = .ok (.ref (s.length + 1)) (St3 s [] ((post e).map enc) []) := by
      rw [withC_ne (by decide), q, List.length_append]
      unfold S2l St3
      rw [List.append_assoc] <;> rfl
    simp only [evs, evI, bd_ok, List.getElem?_cons_zero, Nat.mul_zero, p0]
  have wk : walk .seq [.ref (s.length + 1)] (St3 s [] ((post e).map enc) []) = some ((post e).map enc) := by
    show items _ (.ref (s.length + 1)) = _
    simp only [items, St3b]
  obtain ⟨d3, d4, J', h⟩ := foldL k N n r 94 (enc e) s ((post e).map enc) E e [] none none [] [] hb (by simp only [List.length_nil]; omega)
  rw [List.append_nil] at h
  have a2 : exI (Fc (k + 9) [.ref n, .ref r, noA N.no]) G 100 (.for_ (.nm 3) .seq [(.call 1 [(.slot 0)])] foB) (Sl2 (enc e) s.length none none) (s ++ [.lst []]) = .ok (.nx (Sl2 (enc e) s.length d3 d4)) (St3 s [(valE N e).av] ((post e).map enc) J') := by
    rw [exI, src, bd_ok, wk, opt_some, bd_ok]
    exact h
  have a3 : evI (Fc (k + 9) [.ref n, .ref r, noA N.no]) G 0 99 (.idx (.slot 2) (.lit (.int 0))) (Sl2 (enc e) s.length d3 d4) (St3 s [(valE N e).av] ((post e).map enc) J') = .ok (valE N e).av (St3 s [(valE N e).av] ((post e).map enc) J') := by
    have q := ixr s.length (St3 s [(valE N e).av] ((post e).map enc) J') (i := 0) (St3a s [(valE N e).av] ((post e).map enc) J') rfl
    simp only [evI, bd_ok, List.getElem?_cons_zero, List.getElem?_cons_succ, q, opt_some]
  have b : exs (exI (Fc (k + 9) [.ref n, .ref r, noA N.no]) G 100) [(.asg (.nm 2) (.lst [])), (.for_ (.nm 3) .seq [(.call 1 [(.slot 0)])] foB), (.ret (.idx (.slot 2) (.lit (.int 0))))] [some (enc e), none, none, none, none] s = .ok (.rt (valE N e).av) (St3 s [(valE N e).av] ((post e).map enc) J') :=
    (exs_nx a1).trans ((exs_nx a2).trans (rtE a3))
  have lg : Jp.letGo s.length (valE N e).av (St3 s [(valE N e).av] ((post e).map enc) J') = s := by
    unfold Jp.letGo
    have tk : (St3 s [(valE N e).av] ((post e).map enc) J').take s.length = s := List.take_left
    rw [tk, W.low, show s.all (lowO s.length) = true from hs] <;> rfl
  have z := runH_rt (T := tab G defs (k + 9)) (L := L0) (d := d2) (xs := [enc e, .ref n, .ref r, noA N.no]) (caps := [.ref n, .ref r, noA N.no]) (σ := [some (enc e), none, none, none, none]) (body := [(.asg (.nm 2) (.lst [])), (.for_ (.nm 3) .seq [(.call 1 [(.slot 0)])] foB), (.ret (.idx (.slot 2) (.lit (.int 0))))]) (s := s) (s2 := St3 s [(valE N e).av] ((post e).map enc) J') (v := (valE N e).av) ⟨rfl, rfl⟩ rfl rfl rfl b
  rw [lg] at z
  exact z
theorem meaning_ok (e : Ex) (s : Sto) (E : EnvOk N n r s) (hb : BdE N e) (hl : (pre e).length ≤ 1000) (hs : LowS s) : tab G defs (k + 11) 0 3 [enc e, .ref n, .ref r, noA N.no] s = .ok (valE N e).av s := by
  have q := fold_ok k N n r e s E hb hl hs
  have h0 : defs[HOF + 0]? = none := List.getElem?_eq_none (by decide)
  have t0 : tab G defs (k + 10) 0 (HOF + 0) [enc e, .ref n, .ref r, noA N.no] s = .ok (valE N e).av s := by
    rw [tab]
    show (match defs[HOF + 0]? with
      | some d => runD (fun g => tab G defs (k + 9) (4 * g)) G d [enc e, .ref n, .ref r, noA N.no] s
      | none => if HOF + 0 < HOF then Rs.bad else (match G.lm[HOF + 0 - HOF]? with
        | some L => (match defs[L.f]? with
          | some d => runH (tab G defs (k + 9)) G L d [enc e, .ref n, .ref r, noA N.no] s
          | none => .bad)
        | none => .bad)) = _
    rw [h0]
    exact q
  show runD (fun g => tab G defs (k + 10) (4 * g)) G d3 [enc e, .ref n, .ref r, noA N.no] s = _
  refine runD_same rfl ?_
  refine rtE ?_
  have lo : lowL 0 [enc e, .ref n, .ref r, noA N.no] = false := by
    show (lowA 0 (enc e) && (decide (n < 0) && _)) = false
    rw [low_enc, show decide (n < 0) = false from by simp] <;> rfl
  have c : callF (tab G defs (k + 10) 0 (HOF + 0)) [enc e, .ref n, .ref r, noA N.no] s = .ok (valE N e).av s := (callF_hi lo).trans t0
  exact c
end
end L03


set_option Elab.async false
set_option linter.all false
set_option maxRecDepth 100000
namespace L03
open PySem Jp
abbrev FK (k : Nat) : Nat → Nat → List AV → Sto → Rs AV := fun g => tab G defs k (4 * g)
def Free (o : AO) : Prop := ∀ n, lowO n o = true
mutual
theorem lowA_mono {n m : Nat} (h : n ≤ m) : ∀ v : AV, lowA n v = true → lowA m v = true
  | .non, _ => rfl
  | .bl _, _ => rfl
  | .int _, _ => rfl
  | .str _, _ => rfl
  | .fn _, _ => rfl
  | .ref k, q => by
    have q : decide (k < n) = true := q
    show decide (k < m) = true
    have := of_decide_eq_true q
    exact decide_eq_true (by omega)
  | .tup xs, q => lowL_mono h xs q
  | .lst xs, q => lowL_mono h xs q
theorem lowL_mono {n m : Nat} (h : n ≤ m) : ∀ l : List AV, lowL n l = true → lowL m l = true
  | [], _ => rfl
  | x :: r, q => by
    have q : (lowA n x && lowL n r) = true := q
    rw [Bool.and_eq_true] at q
    show (lowA m x && lowL m r) = true
    rw [lowA_mono h x q.1, lowL_mono h r q.2] <;> rfl
end
theorem lowO_mono {n m : Nat} (h : n ≤ m) (o : AO) (q : lowO n o = true) : lowO m o = true := by
  cases o with
  | lst xs => exact lowL_mono h xs q
  | ins c fs => exact lowL_mono h _ q
  | dct kvs => exact lowL_mono h _ q
theorem at_app {r J : Sto} {x : AO} : (r ++ x :: J)[r.length]? = some x := by
  rw [List.getElem?_append_right (Nat.le_refl _), Nat.sub_self] <;> rfl
theorem at_left {r : Sto} {m : Nat} {x : AO} (h : r[m]? = some x) (J : Sto) : (r ++ J)[m]? = some x := by
  rw [List.getElem?_append_left (List.getElem?_eq_some_iff.mp h).1, h]
theorem LowS.app {s J : Sto} (h : LowS s) (hJ : ∀ o ∈ J, Free o) : LowS (s ++ J) := by
  unfold LowS at h ⊢
  rw [List.all_append, List.length_append, Bool.and_eq_true]
  exact ⟨List.all_eq_true.mpr fun o ho => lowO_mono (by omega) o (List.all_eq_true.mp h o ho), List.all_eq_true.mpr fun o ho => hJ o ho _⟩
theorem LowS.letGo {s J : Sto} (h : LowS s) {v : AV} (hv : lowA s.length v = true) : Jp.letGo s.length v (s ++ J) = s := by
  unfold Jp.letGo
  have e : (s ++ J).take s.length = s := List.take_left
  rw [e, hv, show s.all (lowO s.length) = true from h] <;> rfl
theorem LowS.nil : LowS [] := rfl
/-- a def whose answer holds no ref, and whose lists are let go -/
theorem runD_low {F : Nat → Nat → List AV → Sto → Rs AV} {d : Df} {xs : List AV} {s J : Sto} {w : W} (hl : xs.length = d.pars) (hs : LowS s) (h : exs (exI F G 100) d.body (xs.map some ++ List.replicate (d.names - d.pars) none) s = .ok (.rt w.av) (s ++ J)) : runD F G d xs s = .ok w.av s := by
  rw [runD_rt hl h, hs.letGo (W.low _ _)]
/-! ### the law's small functions -/
theorem truth_ok (k : Nat) (w : W) : Pu (tab G defs (k + 1) 0 26) [w.av] (truA w) := by
  refine ⟨low1 w, ?_, ?_⟩
  · cases w <;> rfl
  · cases w <;> exact ⟨_, rfl⟩
theorem number_ok (k : Nat) (w : W) : Pu (tab G defs (k + 1) 0 27) [w.av] (numA w) := by
  refine ⟨low1 w, ?_, ?_⟩
  · cases w <;> rfl
  · cases w <;> exact ⟨_, rfl⟩
theorem clip_ok (k : Nat) (n : Int) : Pu (tab G defs (k + 1) 0 25) [.int n] (resW n).av := by
  refine ⟨rfl, W.low 0 _, ?_⟩
  have lt : ∀ (i j : Int) (s : Sto), opCmp .lt (.int i) (.int j) s = some (decide (i < j)) := fun _ _ _ => rfl
  have gt : ∀ (i j : Int) (s : Sto), opCmp .gt (.int i) (.int j) s = some (decide (j < i)) := fun _ _ _ => rfl
  have hn : (-(1000000 : Int)) = -1000000 := rfl
  have c : evI (FK k) G 0 99 (.or_ (.cmp .lt (.slot 0) (.neg (.lit (.int 1000000)))) (.cmp .gt (.slot 0) (.lit (.int 1000000)))) [some (.int n)] [] = .ok (.bl (!decide (-1000000 ≤ n ∧ n ≤ 1000000))) [] := by
    simp only [evI, bd_ok, List.getElem?_cons_zero, hn, lt, gt, Option.map_some, opt_some, tr_b]
    by_cases h1 : n < -1000000
    · rw [decide_eq_true h1, if_pos rfl, decide_eq_false (by omega)] <;> rfl
    · rw [decide_eq_false h1, if_neg Bool.false_ne_true]
      by_cases h2 : (1000000 : Int) < n
      · rw [decide_eq_true h2, decide_eq_false (by omega)] <;> rfl
      · rw [decide_eq_false h2, decide_eq_true (by omega)] <;> rfl
  unfold resW
  by_cases h : -1000000 ≤ n ∧ n ≤ 1000000
  · rw [decide_eq_true h] at c
    rw [if_pos h]
    exact ⟨_, runD_rt (F := FK k) (d := d25) (xs := [.int n]) (s := []) (s2 := []) rfl ((ifN c).trans (rtE rfl))⟩
  · rw [decide_eq_false h] at c
    rw [if_neg h]
    exact ⟨_, runD_rt (F := FK k) (d := d25) (xs := [.int n]) (s := []) (s2 := []) rfl (ifR c rfl)⟩
theorem not_ok (k : Nat) (w : W) : Pu (tab G defs (k + 2) 0 29) [w.av] (negW w).av := by
  refine ⟨low1 w, W.low 0 _, ?_⟩
  have q := (truth_ok k w).call []
  have p1 : exI (FK (k + 1)) G 100 (.asg (.nm 1) (.call 26 [(.slot 0)])) [some w.av, none] [] = .ok (.nx [some w.av, some (truA w)]) [] := by
    simp only [exI, evI, evs, bd_ok, List.getElem?_cons_zero, Nat.mul_zero, q]
    rfl
  refine ⟨_, runD_rt (F := FK (k + 1)) (d := d29) (xs := [w.av]) (s := []) (s2 := []) rfl ((exs_nx p1).trans ?_)⟩
  cases w <;> first | exact ifR rfl rfl | exact (ifN rfl).trans (rtE rfl)
theorem hi1 (m : Nat) : lowL 0 [AV.ref m] = false := by
  show (decide (m < 0) && true) = false
  rw [show decide (m < 0) = false from by simp] <;> rfl
theorem allof_ok (k m : Nat) (ws : List W) (s : Sto) (h : s[m]? = some (.lst (ws.map truA))) : callF (tab G defs (k + 1) 0 28) [.ref m] s = .ok (alW ws).av s := by
  refine (callF_hi (hi1 m)).trans ?_
  refine runD_same (F := FK k) (d := d28) rfl ?_
  have c1 : evI (FK k) G 0 99 (.cmp .in_ (.lit (.bl false)) (.slot 0)) [some (.ref m)] s = .ok (.bl (hasT false ws)) s := by
    simp only [evI, bd_ok, List.getElem?_cons_zero, in_ref h (x := .bl false) rfl (flat_tru ws), any_tr, Option.map_some, opt_some]
  have c2 : evI (FK k) G 0 99 (.cmp .in_ (.lit .non) (.slot 0)) [some (.ref m)] s = .ok (.bl (hasO ws)) s := by
    simp only [evI, bd_ok, List.getElem?_cons_zero, in_ref h (x := .non) rfl (flat_tru ws), any_no, Option.map_some, opt_some]
  unfold alW
  cases h1 : hasT false ws with
  | true =>
    rw [h1] at c1
    exact ifR c1 rfl
  | false =>
    rw [h1] at c1
    cases h2 : hasO ws with
    | true =>
      rw [h2] at c2
      exact (ifN c1).trans (ifR c2 rfl)
    | false =>
      rw [h2] at c2
      exact (ifN c1).trans ((ifN c2).trans (rtE rfl))
theorem neg_T (ws : List W) : hasT false (ws.map negW) = hasT true ws := by
  induction ws with
  | nil => rfl
  | cons w ws ih =>
    unfold hasT at ih ⊢
    rw [List.map_cons, List.any_cons, List.any_cons, ih]
    cases w <;> first | rfl | skip
    rename_i b
    cases b <;> rfl
theorem neg_O (ws : List W) : hasO (ws.map negW) = hasO ws := by
  induction ws with
  | nil => rfl
  | cons w ws ih =>
    unfold hasO at ih ⊢
    rw [List.map_cons, List.any_cons, List.any_cons, ih]
    cases w <;> rfl
theorem an_neg (ws : List W) : anW ws = negW (alW (ws.map negW)) := by
  unfold anW alW
  rw [neg_T, neg_O]
  cases hasT true ws <;> cases hasO ws <;> rfl
end L03


set_option Elab.async false
set_option linter.all false
set_option maxRecDepth 100000
namespace L03
open PySem Jp
theorem ifT {F : Nat → Nat → List AV → Sto → Rs AV} {n : Nat} {c : IE} {a b : List IS} {σ : Slots} {s s2 : Sto} (h : evI F G 0 (n + 1) c σ s = .ok (.bl true) s2) : exI F G (n + 2) (.ifs c a b) σ s = exs (exI F G (n + 1)) a σ s2 := by
  rw [exI, h] <;> rfl
theorem ifF {F : Nat → Nat → List AV → Sto → Rs AV} {n : Nat} {c : IE} {a b : List IS} {σ : Slots} {s s2 : Sto} (h : evI F G 0 (n + 1) c σ s = .ok (.bl false) s2) : exI F G (n + 2) (.ifs c a b) σ s = exs (exI F G (n + 1)) b σ s2 := by
  rw [exI, h] <;> rfl
theorem ifE0 {F : Nat → Nat → List AV → Sto → Rs AV} {n : Nat} {c : IE} {a : List IS} {σ : Slots} {s s2 : Sto} (h : evI F G 0 (n + 1) c σ s = .ok (.bl false) s2) : exI F G (n + 2) (.ifs c a []) σ s = .ok (.nx σ) s2 := by
  rw [exI, h] <;> rfl
theorem oper_ok (k : Nat) (g : Sg) (a b : W) (ha : Bd a) (hb : Bd b) : Pu (tab G defs (k + 3) 0 32) [.str g.s, a.av, b.av] (opW g a b).av := by
  refine ⟨?_, W.low 0 _, ?_⟩
  · show (true && lowL 0 [a.av, b.av]) = true
    rw [low2] <;> rfl
  have ta := fun s => (truth_ok (k + 1) a).call s
  have tb := fun s => (truth_ok (k + 1) b).call s
  have na := fun s => (not_ok k a).call s
  have nb := fun s => (not_ok k b).call s
  have tna := fun s => (truth_ok (k + 1) (negW a)).call s
  have tnb := fun s => (truth_ok (k + 1) (negW b)).call s
  have ua := fun s => (number_ok (k + 1) a).call s
  have ub := fun s => (number_ok (k + 1) b).call s
  have h2 : (2 : Nat) ≤ LINE := by decide
  have fin : ∀ (J : Sto), exs (exI (FK (k + 2)) G 100) d32.body [some (.str g.s), some a.av, some b.av, none, none] [] = .ok (.rt (opW g a b).av) J → ∃ s', tab G defs (k + 3) 0 32 [.str g.s, a.av, b.av] [] = .ok (opW g a b).av s' := fun J h => ⟨_, runD_rt (F := FK (k + 2)) (d := d32) (xs := [.str g.s, a.av, b.av]) (s := []) rfl h⟩
  -- numbers
  have p3 : ∀ s, exI (FK (k + 2)) G 100 (.asg (.nm 3) (.call 27 [(.slot 1)])) [some (.str g.s), some a.av, some b.av, none, none] s = .ok (.nx [some (.str g.s), some a.av, some b.av, some (numA a), none]) s := fun s => by
    simp only [exI, evI, evs, bd_ok, List.getElem?_cons_zero, List.getElem?_cons_succ, Nat.mul_zero, ua]
    rfl
  have p4 : ∀ s, exI (FK (k + 2)) G 100 (.asg (.nm 4) (.call 27 [(.slot 2)])) [some (.str g.s), some a.av, some b.av, some (numA a), none] s = .ok (.nx [some (.str g.s), some a.av, some b.av, some (numA a), some (numA b)]) s := fun s => by
    simp only [exI, evI, evs, bd_ok, List.getElem?_cons_zero, List.getElem?_cons_succ, Nat.mul_zero, ub]
    rfl
  have c1 : ∀ (u v x y z : AV), (u = .non ∨ v = .non) → evI (FK (k + 2)) G 0 99 (.or_ (.cmp .isN (.slot 3) (.lit .non)) (.cmp .isN (.slot 4) (.lit .non))) [some z, some x, some y, some u, some v] [] = .ok (.bl true) [] := fun u v x y z h => by
    rcases h with rfl | rfl
    · rfl
    · cases u <;> rfl
  have nums2 : (∃ i j, N3 a = some i ∧ N3 b = some j ∧ numA a = .int i ∧ numA b = .int j) ∨ ((numA a = .non ∨ numA b = .non) ∧ (N3 a = none ∨ N3 b = none)) := by
    cases e1 : N3 a with
    | none => exact Or.inr ⟨Or.inl (by cases a <;> first | rfl | cases e1), Or.inl rfl⟩
    | some i =>
      cases e2 : N3 b with
      | none => exact Or.inr ⟨Or.inr (by cases b <;> first | rfl | cases e2), Or.inr rfl⟩
      | some j => exact Or.inl ⟨i, j, rfl, rfl, by cases a <;> first | (cases e1; rfl) | (cases e1; done), by cases b <;> first | (cases e2; rfl) | (cases e2; done)⟩
  cases g with
  | and =>
    refine fin _ (ifR (s3 := [.lst ([a, b].map truA)]) rfl ?_)
    have l : evI (FK (k + 2)) G 0 97 (.lst [(.call 26 [(.slot 1)]), (.call 26 [(.slot 2)])]) [some (.str Sg.and.s), some a.av, some b.av, none, none] [] = .ok (.ref 0) [.lst ([a, b].map truA)] := by
      rw [evI]
      simp only [evs, evI, bd_ok, List.getElem?_cons_zero, List.getElem?_cons_succ, Nat.mul_zero, ta, tb, List.length_cons, List.length_nil, Nat.reduceAdd, h2, if_true]
      rfl
    have q := allof_ok (k + 1) 0 [a, b] [.lst ([a, b].map truA)] rfl
    rw [evI, evs, l, bd_ok, evs, bd_ok, bd_ok]
    exact q
  | or =>
    refine fin _ ((ifN rfl).trans (ifR (s3 := [.lst ([negW a, negW b].map truA)]) rfl ?_))
    have l : evI (FK (k + 2)) G 0 96 (.lst [(.call 26 [(.call 29 [(.slot 1)])]), (.call 26 [(.call 29 [(.slot 2)])])]) [some (.str Sg.or.s), some a.av, some b.av, none, none] [] = .ok (.ref 0) [.lst ([negW a, negW b].map truA)] := by
      rw [evI]
      simp only [evs, evI, bd_ok, List.getElem?_cons_zero, List.getElem?_cons_succ, Nat.mul_zero, na, nb, tna, tnb, List.length_cons, List.length_nil, Nat.reduceAdd, h2, if_true]
      rfl
    have q := allof_ok (k + 1) 0 [negW a, negW b] [.lst ([negW a, negW b].map truA)] rfl
    have q2 : evI (FK (k + 2)) G 0 97 (.call 28 [(.lst [(.call 26 [(.call 29 [(.slot 1)])]), (.call 26 [(.call 29 [(.slot 2)])])])]) [some (.str Sg.or.s), some a.av, some b.av, none, none] [] = .ok (alW [negW a, negW b]).av [.lst ([negW a, negW b].map truA)] := by
      rw [evI, evs, l, bd_ok, evs, bd_ok, bd_ok]
      exact q
    have nl := (not_ok k (alW [negW a, negW b])).call [.lst ([negW a, negW b].map truA)]
    have e : opW .or a b = negW (alW [negW a, negW b]) := an_neg [a, b]
    rw [e, evI, evs, q2, bd_ok, evs, bd_ok, bd_ok]
    exact nl
  | qq =>
    refine fin [] ((ifN rfl).trans ((ifN rfl).trans ?_))
    refine exs_rt ?_
    refine (ifT rfl).trans ?_
    have c : evI (FK (k + 2)) G 0 98 (.cmp .isN (.slot 1) (.lit .non)) [some (.str Sg.qq.s), some a.av, some b.av, none, none] [] = .ok (.bl (isNo a)) [] := by
      simp only [evI, bd_ok, List.getElem?_cons_zero, List.getElem?_cons_succ, isN_ok, Option.map_some, opt_some]
    show exs _ _ _ _ = .ok (.rt (if isNo a then b else a).av) []
    cases h : isNo a with
    | true =>
      rw [h] at c
      exact ifR c rfl
    | false =>
      rw [h] at c
      exact (ifN c).trans (rtE rfl)
  | lk e =>
    have eqs : ∀ s, opCmp .eq (.str (lkS e)) (.str ⟨⟨[61]⟩⟩) s = some e := fun s => by cases e <;> rfl
    have eqab := fun s => eq_ok a b s ha.2 hb.2
    have bb : ∀ (x y : Bool) (s : Sto), opCmp .eq (.bl x) (.bl y) s = some (x == y) := fun x y s => rfl
    have start : exs (exI (FK (k + 2)) G 100) d32.body [some (.str (Sg.lk e).s), some a.av, some b.av, none, none] [] = .ok (.rt (opW (.lk e) a b).av) [] := by
      have hd : ∀ (c : IS) (r : List IS) (v : AV), exI (FK (k + 2)) G 100 (.ifs (.cmp .in_ (.slot 0) (.tup [(.lit (.str ⟨⟨[61]⟩⟩)), (.lit (.str ⟨⟨[60, 62]⟩⟩))])) [(.ifs (.or_ (.cmp .isN (.slot 1) (.lit .non)) (.cmp .isN (.slot 2) (.lit .non))) [(.ret (.lit .non))] []), (.ret (.tup [(.lit (.str ⟨⟨[116, 114, 117, 116, 104]⟩⟩)), (.cmp .eq (.cmp .eq (.slot 1) (.slot 2)) (.cmp .eq (.slot 0) (.lit (.str ⟨⟨[61]⟩⟩))))]))] []) [some (.str (lkS e)), some a.av, some b.av, none, none] [] = .ok (.rt v) [] → exs (exI (FK (k + 2)) G 100) d32.body [some (.str (lkS e)), some a.av, some b.av, none, none] [] = .ok (.rt v) [] := fun c r v h => by
        cases e <;> exact (ifN rfl).trans ((ifN rfl).trans ((ifN rfl).trans (exs_rt h)))
      refine hd .pass [] _ ?_
      have cin : evI (FK (k + 2)) G 0 99 (.cmp .in_ (.slot 0) (.tup [(.lit (.str ⟨⟨[61]⟩⟩)), (.lit (.str ⟨⟨[60, 62]⟩⟩))])) [some (.str (lkS e)), some a.av, some b.av, none, none] [] = .ok (.bl true) [] := by cases e <;> rfl
      refine (ifT cin).trans ?_
      have c : evI (FK (k + 2)) G 0 98 (.or_ (.cmp .isN (.slot 1) (.lit .non)) (.cmp .isN (.slot 2) (.lit .non))) [some (.str (lkS e)), some a.av, some b.av, none, none] [] = .ok (.bl (isNo a || isNo b)) [] := by
        simp only [evI, bd_ok, List.getElem?_cons_zero, List.getElem?_cons_succ, isN_ok, Option.map_some, opt_some, tr_b]
        cases isNo a <;> rfl
      show exs _ _ _ _ = .ok (.rt (if isNo a || isNo b then W.non else .tr (eqW a b == e)).av) []
      cases h : (isNo a || isNo b) with
      | true =>
        rw [h] at c
        exact ifR c rfl
      | false =>
        rw [h] at c
        refine (ifN c).trans (rtE ?_)
        simp only [evI, evs, bd_ok, List.getElem?_cons_zero, List.getElem?_cons_succ, eqs, eqab, bb, Option.map_some, opt_some, List.length_cons, List.length_nil, Nat.reduceAdd, h2, if_true]
        rfl
    exact fin [] start
  | ca c =>
    have hd : ∀ (v : AV) (J : Sto), exs (exI (FK (k + 2)) G 100) [(.asg (.nm 3) (.call 27 [(.slot 1)])), (.asg (.nm 4) (.call 27 [(.slot 2)])),
      (.ifs (.or_ (.cmp .isN (.slot 3) (.lit .non)) (.cmp .isN (.slot 4) (.lit .non))) [(.ret (.lit .non))] []),
      (.ifs (.cmp .in_ (.slot 0) (.tup [(.lit (.str ⟨⟨[43]⟩⟩)), (.lit (.str ⟨⟨[45]⟩⟩)), (.lit (.str ⟨⟨[42]⟩⟩))])) [(.ret (.call 25 [(.dix (.dmk [⟨⟨[43]⟩⟩, ⟨⟨[45]⟩⟩, ⟨⟨[42]⟩⟩] [(.bin .add (.slot 3) (.slot 4)), (.bin .sub (.slot 3) (.slot 4)), (.bin .mul (.slot 3) (.slot 4))]) (.slot 0))]))] []),
      (.ret (.tup [(.lit (.str ⟨⟨[116, 114, 117, 116, 104]⟩⟩)), (.dix (.dmk [⟨⟨[60]⟩⟩, ⟨⟨[60, 61]⟩⟩, ⟨⟨[62]⟩⟩, ⟨⟨[62, 61]⟩⟩] [(.cmp .lt (.slot 3) (.slot 4)), (.cmp .le (.slot 3) (.slot 4)), (.cmp .gt (.slot 3) (.slot 4)), (.cmp .ge (.slot 3) (.slot 4))]) (.slot 0))]))] [some (.str c.s), some a.av, some b.av, none, none] [] = .ok (.rt v) J → exs (exI (FK (k + 2)) G 100) d32.body [some (.str c.s), some a.av, some b.av, none, none] [] = .ok (.rt v) J := fun v J h => by
      cases c <;> exact (ifN rfl).trans ((ifN rfl).trans ((ifN rfl).trans ((ifN rfl).trans h)))
    rcases nums2 with ⟨i, j, e1, e2, e3, e4⟩ | ⟨e1, e2⟩
    · have e5 : opW (.ca c) a b = resW (c.f i j) := by
        show caW c a b = _
        unfold caW
        rw [e1, e2]
      have hj : -1000000 ≤ j ∧ j ≤ 1000000 := by
        cases b <;> first | (cases e2; done) | skip
        cases e2
        exact hb.1 _ rfl
      have ml : ∀ s : Sto, opBin .mul (.int i) (.int j) s = .ok (.int (i * j)) s := fun s => mul_ij ⟨by omega, by omega⟩
      have ad : ∀ s : Sto, opBin .add (.int i) (.int j) s = .ok (.int (i + j)) s := fun s => rfl
      have sb : ∀ s : Sto, opBin .sub (.int i) (.int j) s = .ok (.int (i - j)) s := fun s => rfl
      have cin : evI (FK (k + 2)) G 0 99 (.cmp .in_ (.slot 0) (.tup [(.lit (.str ⟨⟨[43]⟩⟩)), (.lit (.str ⟨⟨[45]⟩⟩)), (.lit (.str ⟨⟨[42]⟩⟩))])) [some (.str c.s), some a.av, some b.av, some (.int i), some (.int j)] [] = .ok (.bl true) [] := by cases c <;> rfl
      have cn : evI (FK (k + 2)) G 0 99 (.or_ (.cmp .isN (.slot 3) (.lit .non)) (.cmp .isN (.slot 4) (.lit .non))) [some (.str c.s), some a.av, some b.av, some (.int i), some (.int j)] [] = .ok (.bl false) [] := rfl
      have dm : evI (FK (k + 2)) G 0 96 (.dmk [⟨⟨[43]⟩⟩, ⟨⟨[45]⟩⟩, ⟨⟨[42]⟩⟩] [(.bin .add (.slot 3) (.slot 4)), (.bin .sub (.slot 3) (.slot 4)), (.bin .mul (.slot 3) (.slot 4))]) [some (.str c.s), some a.av, some b.av, some (.int i), some (.int j)] [] = .ok (.ref 0) [.dct [(.inr ⟨⟨[43]⟩⟩, .int (i + j)), (.inr ⟨⟨[45]⟩⟩, .int (i - j)), (.inr ⟨⟨[42]⟩⟩, .int (i * j))]] := by
        rw [evI, if_pos ⟨by decide, rfl, by decide, by simp⟩]
        simp only [evs, evI, bd_ok, List.getElem?_cons_zero, List.getElem?_cons_succ, ml, ad, sb]
        rfl
      have dx : evI (FK (k + 2)) G 0 97 (.dix (.dmk [⟨⟨[43]⟩⟩, ⟨⟨[45]⟩⟩, ⟨⟨[42]⟩⟩] [(.bin .add (.slot 3) (.slot 4)), (.bin .sub (.slot 3) (.slot 4)), (.bin .mul (.slot 3) (.slot 4))]) (.slot 0)) [some (.str c.s), some a.av, some b.av, some (.int i), some (.int j)] [] = .ok (.int (c.f i j)) [.dct [(.inr ⟨⟨[43]⟩⟩, .int (i + j)), (.inr ⟨⟨[45]⟩⟩, .int (i - j)), (.inr ⟨⟨[42]⟩⟩, .int (i * j))]] := by
        rw [evI, dm, bd_ok]
        cases c <;> rfl
      have cl := (clip_ok (k + 1) (c.f i j)).call [.dct [(.inr ⟨⟨[43]⟩⟩, .int (i + j)), (.inr ⟨⟨[45]⟩⟩, .int (i - j)), (.inr ⟨⟨[42]⟩⟩, .int (i * j))]]
      refine fin [.dct [(.inr ⟨⟨[43]⟩⟩, .int (i + j)), (.inr ⟨⟨[45]⟩⟩, .int (i - j)), (.inr ⟨⟨[42]⟩⟩, .int (i * j))]] (hd _ _ ?_)
      rw [e5]
      refine (exs_nx (p3 [])).trans ((exs_nx (p4 [])).trans ?_)
      rw [e3, e4]
      refine (ifN cn).trans (ifR cin ?_)
      rw [evI, evs, dx, bd_ok, evs, bd_ok, bd_ok]
      exact cl
    · have e5 : opW (.ca c) a b = .non := by
        show caW c a b = _
        unfold caW
        rcases e2 with e2 | e2
        · rw [e2]
        · rw [e2]
          cases N3 a <;> rfl
      refine fin [] (hd _ _ ?_)
      rw [e5]
      exact (exs_nx (p3 [])).trans ((exs_nx (p4 [])).trans (ifR (c1 _ _ _ _ _ e1) rfl))
  | cm c =>
    have hd : ∀ (v : AV) (J : Sto), exs (exI (FK (k + 2)) G 100) [(.asg (.nm 3) (.call 27 [(.slot 1)])), (.asg (.nm 4) (.call 27 [(.slot 2)])),
      (.ifs (.or_ (.cmp .isN (.slot 3) (.lit .non)) (.cmp .isN (.slot 4) (.lit .non))) [(.ret (.lit .non))] []),
      (.ifs (.cmp .in_ (.slot 0) (.tup [(.lit (.str ⟨⟨[43]⟩⟩)), (.lit (.str ⟨⟨[45]⟩⟩)), (.lit (.str ⟨⟨[42]⟩⟩))])) [(.ret (.call 25 [(.dix (.dmk [⟨⟨[43]⟩⟩, ⟨⟨[45]⟩⟩, ⟨⟨[42]⟩⟩] [(.bin .add (.slot 3) (.slot 4)), (.bin .sub (.slot 3) (.slot 4)), (.bin .mul (.slot 3) (.slot 4))]) (.slot 0))]))] []),
      (.ret (.tup [(.lit (.str ⟨⟨[116, 114, 117, 116, 104]⟩⟩)), (.dix (.dmk [⟨⟨[60]⟩⟩, ⟨⟨[60, 61]⟩⟩, ⟨⟨[62]⟩⟩, ⟨⟨[62, 61]⟩⟩] [(.cmp .lt (.slot 3) (.slot 4)), (.cmp .le (.slot 3) (.slot 4)), (.cmp .gt (.slot 3) (.slot 4)), (.cmp .ge (.slot 3) (.slot 4))]) (.slot 0))]))] [some (.str c.s), some a.av, some b.av, none, none] [] = .ok (.rt v) J → exs (exI (FK (k + 2)) G 100) d32.body [some (.str c.s), some a.av, some b.av, none, none] [] = .ok (.rt v) J := fun v J h => by
      cases c <;> exact (ifN rfl).trans ((ifN rfl).trans ((ifN rfl).trans ((ifN rfl).trans h)))
    rcases nums2 with ⟨i, j, e1, e2, e3, e4⟩ | ⟨e1, e2⟩
    · have e5 : opW (.cm c) a b = .tr (c.f i j) := by
        show cmW c a b = _
        unfold cmW
        rw [e1, e2]
      have cin : evI (FK (k + 2)) G 0 99 (.cmp .in_ (.slot 0) (.tup [(.lit (.str ⟨⟨[43]⟩⟩)), (.lit (.str ⟨⟨[45]⟩⟩)), (.lit (.str ⟨⟨[42]⟩⟩))])) [some (.str c.s), some a.av, some b.av, some (.int i), some (.int j)] [] = .ok (.bl false) [] := by cases c <;> rfl
      have cn : evI (FK (k + 2)) G 0 99 (.or_ (.cmp .isN (.slot 3) (.lit .non)) (.cmp .isN (.slot 4) (.lit .non))) [some (.str c.s), some a.av, some b.av, some (.int i), some (.int j)] [] = .ok (.bl false) [] := rfl
      refine fin [.dct [(.inr ⟨⟨[60]⟩⟩, .bl (decide (i < j))), (.inr ⟨⟨[60, 61]⟩⟩, .bl (decide (i ≤ j))), (.inr ⟨⟨[62]⟩⟩, .bl (decide (j < i))), (.inr ⟨⟨[62, 61]⟩⟩, .bl (decide (j ≤ i)))]] (hd _ _ ?_)
      rw [e5]
      refine (exs_nx (p3 [])).trans ((exs_nx (p4 [])).trans ?_)
      rw [e3, e4]
      refine (ifN cn).trans ((ifN cin).trans (rtE ?_))
      have dm : evI (FK (k + 2)) G 0 97 (.dmk [⟨⟨[60]⟩⟩, ⟨⟨[60, 61]⟩⟩, ⟨⟨[62]⟩⟩, ⟨⟨[62, 61]⟩⟩] [(.cmp .lt (.slot 3) (.slot 4)), (.cmp .le (.slot 3) (.slot 4)), (.cmp .gt (.slot 3) (.slot 4)), (.cmp .ge (.slot 3) (.slot 4))]) [some (.str c.s), some a.av, some b.av, some (.int i), some (.int j)] [] = .ok (.ref 0) [.dct [(.inr ⟨⟨[60]⟩⟩, .bl (decide (i < j))), (.inr ⟨⟨[60, 61]⟩⟩, .bl (decide (i ≤ j))), (.inr ⟨⟨[62]⟩⟩, .bl (decide (j < i))), (.inr ⟨⟨[62, 61]⟩⟩, .bl (decide (j ≤ i)))]] := by
        rw [evI, if_pos ⟨by decide, rfl, by decide, by simp⟩] <;> rfl
      have dx : evI (FK (k + 2)) G 0 98 (.dix (.dmk [⟨⟨[60]⟩⟩, ⟨⟨[60, 61]⟩⟩, ⟨⟨[62]⟩⟩, ⟨⟨[62, 61]⟩⟩] [(.cmp .lt (.slot 3) (.slot 4)), (.cmp .le (.slot 3) (.slot 4)), (.cmp .gt (.slot 3) (.slot 4)), (.cmp .ge (.slot 3) (.slot 4))]) (.slot 0)) [some (.str c.s), some a.av, some b.av, some (.int i), some (.int j)] [] = .ok (.bl (c.f i j)) [.dct [(.inr ⟨⟨[60]⟩⟩, .bl (decide (i < j))), (.inr ⟨⟨[60, 61]⟩⟩, .bl (decide (i ≤ j))), (.inr ⟨⟨[62]⟩⟩, .bl (decide (j < i))), (.inr ⟨⟨[62, 61]⟩⟩, .bl (decide (j ≤ i)))]] := by
        rw [evI, dm, bd_ok]
        cases c <;> rfl
      rw [evI]
      simp only [evs, show ∀ s, evI (FK (k + 2)) G 0 98 (.lit (.str ⟨⟨[116, 114, 117, 116, 104]⟩⟩)) [some (.str c.s), some a.av, some b.av, some (.int i), some (.int j)] s = .ok (.str TR) s from fun s => rfl, dx, bd_ok, List.length_cons, List.length_nil, Nat.reduceAdd, h2, if_true]
      rfl
    · have e5 : opW (.cm c) a b = .non := by
        show cmW c a b = _
        unfold cmW
        rcases e2 with e2 | e2
        · rw [e2]
        · rw [e2]
          cases N3 a <;> rfl
      refine fin [] (hd _ _ ?_)
      rw [e5]
      exact (exs_nx (p3 [])).trans ((exs_nx (p4 [])).trans (ifR (c1 _ _ _ _ _ e1) rfl))
end L03


set_option Elab.async false
set_option linter.all false
set_option maxRecDepth 100000
namespace L03
open PySem Jp
theorem lc_gen {α : Type} (en f : α → AV) (p : α → Bool) (ev : IE → Slots → Sto → Rs AV) (i : Nat) (elt : IE) (ifs : List IE) (src whole : List AV) (σ : Slots) (s : Sto) (hst : stands .seq src whole s = true) (hi : i < σ.length) (ht : ∀ a : α, tests ev ifs ((σ.set i none).set i (some (en a))) s = .ok (p a) s) (he : ∀ a : α, p a = true → ev elt ((σ.set i none).set i (some (en a))) s = .ok (f a) s) :
    ∀ (vs : List α) (acc : List AV), acc.length + vs.length < LINE → lcLoop ev [i] elt (.nm i) .seq src whole ifs σ (vs.map en) acc s = .ok (acc ++ (vs.filter p).map f) s
  | [], acc, _ => by
    rw [List.map_nil, lcLoop]
    simp
  | a :: vs, acc, hl => by
    simp only [List.length_cons] at hl
    have ha : asT s (.nm i) (en a) (wipeA σ [i]) = some ((σ.set i none).set i (some (en a))) := by
      simp only [asT, wipeA, List.length_set, hi, if_true]
    rw [List.map_cons, lcLoop, ha]
    show ((noX (tests ev ifs ((σ.set i none).set i (some (en a))) s)).bd _) = _
    rw [ht a]
    cases hp : p a with
    | true =>
      show ((noX (ev elt ((σ.set i none).set i (some (en a))) s)).bd _) = _
      rw [he a hp]
      show (if acc.length < LINE then (if stands .seq src whole s = true then _ else Rs.bad) else Rs.bad) = _
      rw [if_pos (by omega), hst, if_pos rfl, lc_gen en f p ev i elt ifs src whole σ s hst hi ht he vs (acc ++ [f a]) (by simp only [List.length_append, List.length_cons, List.length_nil]; omega), List.filter_cons_of_pos hp]
      simp
    | false =>
      show (if stands .seq src whole s = true then _ else Rs.bad) = _
      rw [hst, if_pos rfl, lc_gen en f p ev i elt ifs src whole σ s hst hi ht he vs acc (by omega), List.filter_cons_of_neg (by rw [hp]; exact Bool.false_ne_true)]
theorem lc_all0 {α : Type} (en f : α → AV) (ev : IE → Slots → Sto → Rs AV) (i : Nat) (elt : IE) (src whole : List AV) (σ : Slots) (s : Sto) (hst : stands .seq src whole s = true) (hi : i < σ.length) (he : ∀ a : α, ev elt ((σ.set i none).set i (some (en a))) s = .ok (f a) s) (vs : List α) (hl : vs.length < LINE) :
    lcLoop ev [i] elt (.nm i) .seq src whole [] σ (vs.map en) [] s = .ok (vs.map f) s := by
  rw [lc_gen en f (fun _ => true) ev i elt [] src whole σ s hst hi (fun a => rfl) (fun a _ => he a) vs [] (by rw [List.length_nil]; omega), List.nil_append, List.filter_eq_self.mpr (fun _ _ => rfl)]
abbrev S7 (f x : Str) (n r : Nat) (c4 c5 c6 : Option AV) : Slots := [some (.str f), some (.str x), some (.ref n), some (.ref r), c4, c5, c6]
def VAL : Str := ⟨⟨[118, 97, 108, 117, 101]⟩⟩
/-- a comprehension over the rows' values -/
theorem lc_rows (k n : Nat) (elt : IE) (g : W → AV) (f x : Str) (p q : Nat) (c5 c6 : Option AV) (ws : List W) (s : Sto) (hl : ws.length < LINE) (he : ∀ (w : W) (s : Sto), evI (FK k) G 0 (n + 1) elt (S7 f x p q (some (.tup (ws.map W.av))) (some w.av) c6) s = .ok (g w) s) :
    evI (FK k) G 0 (n + 2) (.lc [(VAL, 5)] elt (.nm 5) .seq [(.slot 4)] []) (S7 f x p q (some (.tup (ws.map W.av))) c5 c6) s = .ok (.ref s.length) (s ++ [.lst (ws.map g)]) := by
  have q0 : evI (FK k) G 0 (n + 2) (.lc [(VAL, 5)] elt (.nm 5) .seq [(.slot 4)] []) (S7 f x p q (some (.tup (ws.map W.av))) c5 c6) s =
    (lcLoop (evI (FK k) G 0 (n + 1)) [5] elt (.nm 5) .seq [.tup (ws.map W.av)] (ws.map W.av) [] (S7 f x p q (some (.tup (ws.map W.av))) c5 c6) (ws.map W.av) [] s).bd fun zs s => .ok (.ref s.length) (s ++ [.lst zs]) := rfl
  have z := lc_all0 W.av g (evI (FK k) G 0 (n + 1)) 5 elt [.tup (ws.map W.av)] (ws.map W.av) (S7 f x p q (some (.tup (ws.map W.av))) c5 c6) s rfl (show 5 < 7 from by decide) (fun w => he w s) ws hl
  rw [q0, z] <;> rfl
theorem free1 {xs : List AV} (h : ∀ n, lowL n xs = true) : ∀ o ∈ [AO.lst xs], Free o := fun o ho => by
  rw [List.mem_singleton] at ho
  rw [ho]
  exact h
theorem low_tru (n : Nat) : ∀ ws : List W, lowL n (ws.map truA) = true
  | [] => rfl
  | w :: ws => by
    show (lowA n (truA w) && lowL n (ws.map truA)) = true
    rw [low_tru n ws]
    cases w <;> rfl
theorem low_num (n : Nat) : ∀ ws : List W, lowL n (ws.map numA) = true
  | [] => rfl
  | w :: ws => by
    show (lowA n (numA w) && lowL n (ws.map numA)) = true
    rw [low_num n ws]
    cases w <;> rfl
theorem askA_ok (k : Nat) (N : Env) (x : Str) (n r : Nat) (s : Sto) (E : EnvOk N n r s) : tab G defs (k + 4) 0 31 [.str ⟨⟨[97, 110, 115, 119, 101, 114, 101, 100]⟩⟩, .str x, .ref n, .ref r] s = .ok (W.tr (!isNo (N.nm x))).av s := by
  obtain ⟨kvs, e1, h1⟩ := E.a
  have d1 := dct_ref e1
  have h2 : 2 ≤ LINE := by decide
  refine runD_same (F := FK (k + 3)) (d := d31) (xs := [.str ⟨⟨[97, 110, 115, 119, 101, 114, 101, 100]⟩⟩, .str x, .ref n, .ref r]) rfl (show exs (exI (FK (k + 3)) G 100) d31.body (S7 ⟨⟨[97, 110, 115, 119, 101, 114, 101, 100]⟩⟩ x n r none none none) s = _ from ifR rfl ?_)
  have hx := h1 x
  cases q : lookK kvs (.inr x) with
  | none =>
    rw [q] at hx
    have hn : isNo (N.nm x) = true := by
      have hx : AV.non = (N.nm x).av := hx
      generalize N.nm x = w at hx
      cases w <;> first | rfl | cases hx
    rw [hn]
    simp only [evI, evs, bd_ok, List.getElem?_cons_zero, List.getElem?_cons_succ, d1, key_s, q, Bool.false_eq_true, if_false, Option.isSome_none, tr_b, opt_some, List.length_cons, List.length_nil, Nat.reduceAdd, h2, if_true]
    rfl
  | some v =>
    rw [q] at hx
    have hx : v = (N.nm x).av := hx
    simp only [evI, evs, bd_ok, List.getElem?_cons_zero, List.getElem?_cons_succ, d1, key_s, q, Bool.false_eq_true, if_false, Option.isSome_some, tr_b, opt_some, hx, noN_ok, Option.map_some, List.length_cons, List.length_nil, Nat.reduceAdd, h2, if_true]
    rfl
theorem ask_ok (k : Nat) (N : Env) (f : Fn) (x : Str) (n r : Nat) (s : Sto) (E : EnvOk N n r s) (hs : LowS s) : tab G defs (k + 4) 0 31 [.str f.s, .str x, .ref n, .ref r] s = .ok (ovW f (N.rw x)).av s := by
  obtain ⟨kvs, e1, h1⟩ := E.b
  have d1 := dct_ref e1
  have hl := E.c x
  have hx := h1 x
  generalize N.rw x = ws at hl hx
  have h2 : 2 ≤ LINE := by decide
  have h0 : 0 ≤ LINE := Nat.zero_le _
  have tw := fun (w : W) (s : Sto) => (truth_ok (k + 2) w).call s
  have nw := fun (w : W) (s : Sto) => (number_ok (k + 2) w).call s
  have gw := fun (w : W) (s : Sto) => (not_ok (k + 1) w).call s
  have p4 : exI (FK (k + 3)) G 100 (.asg (.nm 4) (.dg2 (.slot 3) (.slot 1) (.tup []))) (S7 f.s x n r none none none) s = .ok (.nx (S7 f.s x n r (some (.tup (ws.map W.av))) none none)) s := by
    simp only [exI, evI, evs, bd_ok, List.getElem?_cons_zero, List.getElem?_cons_succ, d1, key_s, hx, List.length_nil, h0, if_true]
    rfl
  have lcT := lc_rows (k + 3) 94 (.call 26 [(.slot 5)]) truA f.s x n r none none ws s hl (fun w s => by
    simp only [evI, evs, bd_ok, List.getElem?_cons_zero, List.getElem?_cons_succ, Nat.mul_zero, tw])
  have lcN := lc_rows (k + 3) 93 (.call 26 [(.call 29 [(.slot 5)])]) (fun w => truA (negW w)) f.s x n r none none ws s hl (fun w s => by
    simp only [evI, evs, bd_ok, List.getElem?_cons_zero, List.getElem?_cons_succ, Nat.mul_zero, tw, gw])
  have lcM := lc_rows (k + 3) 97 (.call 27 [(.slot 5)]) numA f.s x n r none none ws s hl (fun w s => by
    simp only [evI, evs, bd_ok, List.getElem?_cons_zero, List.getElem?_cons_succ, Nat.mul_zero, nw])
  have mm : (ws.map fun w => truA (negW w)) = (ws.map negW).map truA := by rw [List.map_map]; rfl
  have p6 : exI (FK (k + 3)) G 100 (.asg (.nm 6) (.lc [(VAL, 5)] (.call 27 [(.slot 5)]) (.nm 5) .seq [(.slot 4)] [])) (S7 f.s x n r (some (.tup (ws.map W.av))) none none) s = .ok (.nx (S7 f.s x n r (some (.tup (ws.map W.av))) none (some (.ref s.length)))) (s ++ [.lst (ws.map numA)]) := by
    rw [exI, show evI (FK (k + 3)) G 0 99 (.lc [(VAL, 5)] (.call 27 [(.slot 5)]) (.nm 5) .seq [(.slot 4)] []) (S7 f.s x n r (some (.tup (ws.map W.av))) none none) s = _ from lcM] <;> rfl
  have r0 : (s ++ [AO.lst (ws.map numA)])[s.length]? = some (.lst (ws.map numA)) := at_app
  have inn : evI (FK (k + 3)) G 0 99 (.cmp .in_ (.lit .non) (.slot 6)) (S7 f.s x n r (some (.tup (ws.map W.av))) none (some (.ref s.length))) (s ++ [.lst (ws.map numA)]) = .ok (.bl (nums ws).isNone) (s ++ [.lst (ws.map numA)]) := by
    simp only [evI, bd_ok, List.getElem?_cons_zero, List.getElem?_cons_succ, in_ref r0 (x := .non) rfl (flat_num ws), nums_in, Option.map_some, opt_some]
  have fJ : ∀ o ∈ [AO.lst (ws.map numA)], Free o := free1 fun n => low_num n ws
  cases f with
  | count =>
    refine runD_same (F := FK (k + 3)) (d := d31) (xs := [.str Fn.count.s, .str x, .ref n, .ref r]) rfl ((ifN rfl).trans ((exs_nx p4).trans (ifR rfl ?_)))
    have ln : ∀ s : Sto, opBi .len [.tup (ws.map W.av)] s = .ok (.int (ws.length : Nat)) s := fun s => by rw [len_tup, List.length_map]
    simp only [evI, evs, bd_ok, List.getElem?_cons_zero, List.getElem?_cons_succ, ln, List.length_cons, List.length_nil, Nat.reduceAdd, h2, if_true]
    rfl
  | all =>
    refine runD_low (F := FK (k + 3)) (d := d31) (xs := [.str Fn.all.s, .str x, .ref n, .ref r]) (J := [.lst (ws.map truA)]) (w := alW ws) rfl hs ((ifN rfl).trans ((exs_nx p4).trans ((ifN rfl).trans (ifR (s2 := s) rfl ?_))))
    have q := allof_ok (k + 2) s.length ws (s ++ [.lst (ws.map truA)]) at_app
    have lcT2 := lc_rows (k + 3) 95 (.call 26 [(.slot 5)]) truA Fn.all.s x n r none none ws s hl (fun w s => by
      simp only [evI, evs, bd_ok, List.getElem?_cons_zero, List.getElem?_cons_succ, Nat.mul_zero, tw])
    rw [evI, evs, show evI (FK (k + 3)) G 0 97 (.lc [(⟨⟨[118, 97, 108, 117, 101]⟩⟩, 5)] (.call 26 [(.slot 5)]) (.nm 5) .seq [(.slot 4)] []) (S7 Fn.all.s x n r (some (.tup (ws.map W.av))) none none) s = _ from lcT2, bd_ok, evs, bd_ok, bd_ok]
    exact q
  | any =>
    refine runD_low (F := FK (k + 3)) (d := d31) (xs := [.str Fn.any.s, .str x, .ref n, .ref r]) (J := [.lst ((ws.map negW).map truA)]) (w := anW ws) rfl hs ((ifN rfl).trans ((exs_nx p4).trans ((ifN rfl).trans ((ifN rfl).trans (ifR (s2 := s) rfl ?_)))))
    have q := allof_ok (k + 2) s.length (ws.map negW) (s ++ [.lst ((ws.map negW).map truA)]) at_app
    have q2 := (not_ok (k + 1) (alW (ws.map negW))).call (s ++ [.lst ((ws.map negW).map truA)])
    have lcN2 := lc_rows (k + 3) 94 (.call 26 [(.call 29 [(.slot 5)])]) (fun w => truA (negW w)) Fn.any.s x n r none none ws s hl (fun w s => by
      simp only [evI, evs, bd_ok, List.getElem?_cons_zero, List.getElem?_cons_succ, Nat.mul_zero, tw, gw])
    rw [mm] at lcN2
    have e1 : evI (FK (k + 3)) G 0 97 (.call 28 [(.lc [(⟨⟨[118, 97, 108, 117, 101]⟩⟩, 5)] (.call 26 [(.call 29 [(.slot 5)])]) (.nm 5) .seq [(.slot 4)] [])]) (S7 Fn.any.s x n r (some (.tup (ws.map W.av))) none none) s = .ok (alW (ws.map negW)).av (s ++ [.lst ((ws.map negW).map truA)]) := by
      rw [evI, evs, show evI (FK (k + 3)) G 0 96 (.lc [(⟨⟨[118, 97, 108, 117, 101]⟩⟩, 5)] (.call 26 [(.call 29 [(.slot 5)])]) (.nm 5) .seq [(.slot 4)] []) (S7 Fn.any.s x n r (some (.tup (ws.map W.av))) none none) s = _ from lcN2, bd_ok, evs, bd_ok, bd_ok]
      exact q
    rw [an_neg, evI, evs, e1, bd_ok, evs, bd_ok, bd_ok]
    exact q2
  | sum =>
    refine runD_low (F := FK (k + 3)) (d := d31) (xs := [.str Fn.sum.s, .str x, .ref n, .ref r]) (J := [.lst (ws.map numA)]) (w := ovW .sum ws) rfl hs ((ifN rfl).trans ((exs_nx p4).trans ((ifN rfl).trans ((ifN rfl).trans ((ifN rfl).trans ((exs_nx p6).trans ?_))))))
    cases h : nums ws with
    | none =>
      rw [h] at inn
      rw [(ov_n h).1]
      exact ifR inn rfl
    | some zs =>
      rw [h] at inn
      rw [ov_s h]
      have r1 : (s ++ [AO.lst (ws.map numA)])[s.length]? = some (.lst (zs.map AV.int)) := by rw [r0, nums_map h]
      refine (ifN inn).trans (ifR (s2 := s ++ [.lst (ws.map numA)]) rfl ?_)
      have q := (clip_ok (k + 2) zs.sum).call (s ++ [.lst (ws.map numA)])
      simp only [evI, evs, bd_ok, List.getElem?_cons_zero, List.getElem?_cons_succ, sum_ref r1, q, Nat.mul_zero]
  | least =>
    have go : ∀ J v, exs (exI (FK (k + 3)) G 100) [(.ifs (.cmp .eq (.bi .len [(.slot 6)]) (.lit (.int 0))) [(.ret (.lit .non))] []),
      (.ret (.tup [(.lit (.str ⟨⟨[110, 117, 109, 98, 101, 114]⟩⟩)), (.idx (.lst [(.bi .min [(.slot 6)]), (.bi .max [(.slot 6)])]) (.bi .int [(.cmp .eq (.slot 0) (.lit (.str ⟨⟨[103, 114, 101, 97, 116, 101, 115, 116]⟩⟩)))]))]))] (S7 Fn.least.s x n r (some (.tup (ws.map W.av))) none (some (.ref s.length))) (s ++ [.lst (ws.map numA)]) = .ok (.rt (W.av v)) (s ++ J) → nums ws ≠ none → tab G defs (k + 4) 0 31 [.str Fn.least.s, .str x, .ref n, .ref r] s = .ok v.av s := fun J v h hn => by
      have inn2 := inn
      cases h3 : nums ws with
      | none => exact absurd h3 hn
      | some zs =>
        rw [h3] at inn2
        exact runD_low (F := FK (k + 3)) (d := d31) (xs := [.str Fn.least.s, .str x, .ref n, .ref r]) (J := J) (w := v) rfl hs ((ifN rfl).trans ((exs_nx p4).trans ((ifN rfl).trans ((ifN rfl).trans ((ifN rfl).trans ((exs_nx p6).trans ((ifN inn2).trans ((ifN rfl).trans h))))))))
    cases h : nums ws with
    | none =>
      rw [h] at inn
      rw [(ov_n h).2.1]
      exact runD_low (F := FK (k + 3)) (d := d31) (xs := [.str Fn.least.s, .str x, .ref n, .ref r]) (J := [.lst (ws.map numA)]) (w := .non) rfl hs ((ifN rfl).trans ((exs_nx p4).trans ((ifN rfl).trans ((ifN rfl).trans ((ifN rfl).trans ((exs_nx p6).trans (ifR inn rfl)))))))
    | some zs =>
      rw [ov_l h]
      have r1 : (s ++ [AO.lst (ws.map numA)])[s.length]? = some (.lst (zs.map AV.int)) := by rw [r0, nums_map h]
      have c : evI (FK (k + 3)) G 0 99 (.cmp .eq (.bi .len [(.slot 6)]) (.lit (.int 0))) (S7 Fn.least.s x n r (some (.tup (ws.map W.av))) none (some (.ref s.length))) (s ++ [.lst (ws.map numA)]) = .ok (.bl (decide (((zs.length : Nat) : Int) = 0))) (s ++ [.lst (ws.map numA)]) := by
        have ln := len_ref r1
        rw [List.length_map] at ln
        have q : ∀ s : Sto, opCmp .eq (.int (zs.length : Nat)) (.int 0) s = some (decide (((zs.length : Nat) : Int) = 0)) := fun s => eq_ii
        simp only [evI, evs, bd_ok, List.getElem?_cons_zero, List.getElem?_cons_succ, ln, q, Option.map_some, opt_some]
      cases zs with
      | nil => exact go [.lst (ws.map numA)] .non (ifR c rfl) (by rw [h]; exact fun e => by cases e)
      | cons z zs =>
        rw [decide_eq_false (by simp only [List.length_cons]; omega)] at c
        have eq : ∀ s : Sto, opCmp .eq (.str Fn.least.s) (.str ⟨⟨[103, 114, 101, 97, 116, 101, 115, 116]⟩⟩) s = some false := fun _ => rfl
        have l1 : evI (FK (k + 3)) G 0 97 (.lst [(.bi .min [(.slot 6)]), (.bi .max [(.slot 6)])]) (S7 Fn.least.s x n r (some (.tup (ws.map W.av))) none (some (.ref s.length))) (s ++ [.lst (ws.map numA)]) = .ok (.ref (s ++ [AO.lst (ws.map numA)]).length) ((s ++ [.lst (ws.map numA)]) ++ [.lst [.int (zs.foldl (fun m i => if i < m then i else m) z), .int (zs.foldl (fun m i => if m < i then i else m) z)]]) := by
          rw [evI]
          simp only [evI, evs, bd_ok, List.getElem?_cons_zero, List.getElem?_cons_succ, min_ref r1, max_ref r1, List.length_cons, List.length_nil, Nat.reduceAdd, h2, if_true]
        have ix := idx_ref (i := 0) (at_app (r := s ++ [AO.lst (ws.map numA)]) (J := []) (x := AO.lst [.int (zs.foldl (fun m i => if i < m then i else m) z), .int (zs.foldl (fun m i => if m < i then i else m) z)]))
        rw [at0] at ix
        refine go [.lst (ws.map numA), .lst [.int (zs.foldl (fun m i => if i < m then i else m) z), .int (zs.foldl (fun m i => if m < i then i else m) z)]] (.num (zs.foldl (fun m i => if i < m then i else m) z)) ((ifN c).trans (rtE ?_)) (by rw [h]; exact fun e => by cases e)
        have bi : ∀ s : Sto, opBi .int [.bl false] s = .ok (.int 0) s := fun s => rfl
        have i1 : evI (FK (k + 3)) G 0 98 (.idx (.lst [(.bi .min [(.slot 6)]), (.bi .max [(.slot 6)])]) (.bi .int [(.cmp .eq (.slot 0) (.lit (.str ⟨⟨[103, 114, 101, 97, 116, 101, 115, 116]⟩⟩)))])) (S7 Fn.least.s x n r (some (.tup (ws.map W.av))) none (some (.ref s.length))) (s ++ [.lst (ws.map numA)]) = .ok (.int (zs.foldl (fun m i => if i < m then i else m) z)) ((s ++ [.lst (ws.map numA)]) ++ [.lst [.int (zs.foldl (fun m i => if i < m then i else m) z), .int (zs.foldl (fun m i => if m < i then i else m) z)]]) := by
          rw [evI, l1, bd_ok]
          simp only [evI, evs, bd_ok, List.getElem?_cons_zero, eq, Option.map_some, opt_some, bi, ix]
        rw [evI]
        simp only [evs, i1, show ∀ t, evI (FK (k + 3)) G 0 98 (.lit (.str ⟨⟨[110, 117, 109, 98, 101, 114]⟩⟩)) (S7 Fn.least.s x n r (some (.tup (ws.map W.av))) none (some (.ref s.length))) t = .ok (.str NU) t from fun t => rfl, bd_ok, List.length_cons, List.length_nil, Nat.reduceAdd, h2, if_true]
        rw [List.append_assoc] <;> rfl
  | greatest =>
    have go : ∀ J v, exs (exI (FK (k + 3)) G 100) [(.ifs (.cmp .eq (.bi .len [(.slot 6)]) (.lit (.int 0))) [(.ret (.lit .non))] []),
      (.ret (.tup [(.lit (.str ⟨⟨[110, 117, 109, 98, 101, 114]⟩⟩)), (.idx (.lst [(.bi .min [(.slot 6)]), (.bi .max [(.slot 6)])]) (.bi .int [(.cmp .eq (.slot 0) (.lit (.str ⟨⟨[103, 114, 101, 97, 116, 101, 115, 116]⟩⟩)))]))]))] (S7 Fn.greatest.s x n r (some (.tup (ws.map W.av))) none (some (.ref s.length))) (s ++ [.lst (ws.map numA)]) = .ok (.rt (W.av v)) (s ++ J) → nums ws ≠ none → tab G defs (k + 4) 0 31 [.str Fn.greatest.s, .str x, .ref n, .ref r] s = .ok v.av s := fun J v h hn => by
      have inn2 := inn
      cases h3 : nums ws with
      | none => exact absurd h3 hn
      | some zs =>
        rw [h3] at inn2
        exact runD_low (F := FK (k + 3)) (d := d31) (xs := [.str Fn.greatest.s, .str x, .ref n, .ref r]) (J := J) (w := v) rfl hs ((ifN rfl).trans ((exs_nx p4).trans ((ifN rfl).trans ((ifN rfl).trans ((ifN rfl).trans ((exs_nx p6).trans ((ifN inn2).trans ((ifN rfl).trans h))))))))
    cases h : nums ws with
    | none =>
      rw [h] at inn
      rw [(ov_n h).2.2]
      exact runD_low (F := FK (k + 3)) (d := d31) (xs := [.str Fn.greatest.s, .str x, .ref n, .ref r]) (J := [.lst (ws.map numA)]) (w := .non) rfl hs ((ifN rfl).trans ((exs_nx p4).trans ((ifN rfl).trans ((ifN rfl).trans ((ifN rfl).trans ((exs_nx p6).trans (ifR inn rfl)))))))
    | some zs =>
      rw [ov_g h]
      have r1 : (s ++ [AO.lst (ws.map numA)])[s.length]? = some (.lst (zs.map AV.int)) := by rw [r0, nums_map h]
      have c : evI (FK (k + 3)) G 0 99 (.cmp .eq (.bi .len [(.slot 6)]) (.lit (.int 0))) (S7 Fn.greatest.s x n r (some (.tup (ws.map W.av))) none (some (.ref s.length))) (s ++ [.lst (ws.map numA)]) = .ok (.bl (decide (((zs.length : Nat) : Int) = 0))) (s ++ [.lst (ws.map numA)]) := by
        have ln := len_ref r1
        rw [List.length_map] at ln
        have q : ∀ s : Sto, opCmp .eq (.int (zs.length : Nat)) (.int 0) s = some (decide (((zs.length : Nat) : Int) = 0)) := fun s => eq_ii
        simp only [evI, evs, bd_ok, List.getElem?_cons_zero, List.getElem?_cons_succ, ln, q, Option.map_some, opt_some]
      cases zs with
      | nil => exact go [.lst (ws.map numA)] .non (ifR c rfl) (by rw [h]; exact fun e => by cases e)
      | cons z zs =>
        rw [decide_eq_false (by simp only [List.length_cons]; omega)] at c
        have eq : ∀ s : Sto, opCmp .eq (.str Fn.greatest.s) (.str ⟨⟨[103, 114, 101, 97, 116, 101, 115, 116]⟩⟩) s = some true := fun _ => rfl
        have l1 : evI (FK (k + 3)) G 0 97 (.lst [(.bi .min [(.slot 6)]), (.bi .max [(.slot 6)])]) (S7 Fn.greatest.s x n r (some (.tup (ws.map W.av))) none (some (.ref s.length))) (s ++ [.lst (ws.map numA)]) = .ok (.ref (s ++ [AO.lst (ws.map numA)]).length) ((s ++ [.lst (ws.map numA)]) ++ [.lst [.int (zs.foldl (fun m i => if i < m then i else m) z), .int (zs.foldl (fun m i => if m < i then i else m) z)]]) := by
          rw [evI]
          simp only [evI, evs, bd_ok, List.getElem?_cons_zero, List.getElem?_cons_succ, min_ref r1, max_ref r1, List.length_cons, List.length_nil, Nat.reduceAdd, h2, if_true]
        have ix := idx_ref (i := 1) (at_app (r := s ++ [AO.lst (ws.map numA)]) (J := []) (x := AO.lst [.int (zs.foldl (fun m i => if i < m then i else m) z), .int (zs.foldl (fun m i => if m < i then i else m) z)]))
        rw [at1] at ix
        refine go [.lst (ws.map numA), .lst [.int (zs.foldl (fun m i => if i < m then i else m) z), .int (zs.foldl (fun m i => if m < i then i else m) z)]] (.num (zs.foldl (fun m i => if m < i then i else m) z)) ((ifN c).trans (rtE ?_)) (by rw [h]; exact fun e => by cases e)
        have bi : ∀ s : Sto, opBi .int [.bl true] s = .ok (.int 1) s := fun s => rfl
        have i1 : evI (FK (k + 3)) G 0 98 (.idx (.lst [(.bi .min [(.slot 6)]), (.bi .max [(.slot 6)])]) (.bi .int [(.cmp .eq (.slot 0) (.lit (.str ⟨⟨[103, 114, 101, 97, 116, 101, 115, 116]⟩⟩)))])) (S7 Fn.greatest.s x n r (some (.tup (ws.map W.av))) none (some (.ref s.length))) (s ++ [.lst (ws.map numA)]) = .ok (.int (zs.foldl (fun m i => if m < i then i else m) z)) ((s ++ [.lst (ws.map numA)]) ++ [.lst [.int (zs.foldl (fun m i => if i < m then i else m) z), .int (zs.foldl (fun m i => if m < i then i else m) z)]]) := by
          rw [evI, l1, bd_ok]
          simp only [evI, evs, bd_ok, List.getElem?_cons_zero, eq, Option.map_some, opt_some, bi, ix]
        rw [evI]
        simp only [evs, i1, show ∀ t, evI (FK (k + 3)) G 0 98 (.lit (.str ⟨⟨[110, 117, 109, 98, 101, 114]⟩⟩)) (S7 Fn.greatest.s x n r (some (.tup (ws.map W.av))) none (some (.ref s.length))) t = .ok (.str NU) t from fun t => rfl, bd_ok, List.length_cons, List.length_nil, Nat.reduceAdd, h2, if_true]
        rw [List.append_assoc] <;> rfl
end L03


set_option Elab.async false
set_option linter.all false
set_option maxRecDepth 100000
namespace L03
open PySem Jp
def ht : Ex → Nat
  | .lf _ => 0
  | .nt a => ht a + 1
  | .mi a => ht a + 1
  | .op _ a b => max (ht a) (ht b) + 1
  | .ife a b c => max (ht a) (max (ht b) (ht c)) + 1
theorem hi4 (e : Ex) (n r : Nat) (no : Option Int) : lowL 0 [enc e, .ref n, .ref r, noA no] = false := by
  show (lowA 0 (enc e) && (decide (n < 0) && _)) = false
  rw [low_enc, show decide (n < 0) = false from by simp] <;> rfl
theorem hi31 (f x : Str) (n r : Nat) : lowL 0 [.str f, .str x, .ref n, .ref r] = false := by
  show (true && (true && (decide (n < 0) && _))) = false
  rw [show decide (n < 0) = false from by simp] <;> rfl
abbrev S8 (v : AV) (n r : Nat) (no : Option Int) (c4 c5 c6 : Option AV) : Slots := [some v, some (.ref n), some (.ref r), some (noA no), c4, c5, c6]
section
variable (N : Env) (n r : Nat) (s : Sto) (E : EnvOk N n r s) (hs : LowS s)
include E hs
theorem law_leaf (k : Nat) (l : Lf) : tab G defs (k + 5) 0 30 [l.av, .ref n, .ref r, noA N.no] s = .ok (valL N l).av s := by
  obtain ⟨k1, e1, h1⟩ := E.a
  have c1 := dct_ref e1
  have h2L : 2 ≤ LINE := by decide
  have run : ∀ v : AV, exs (exI (FK (k + 4)) G 100) d30.body (S8 l.av n r N.no none none none) s = .ok (.rt v) s → tab G defs (k + 5) 0 30 [l.av, .ref n, .ref r, noA N.no] s = .ok v s := fun v h => runD_same (F := FK (k + 4)) (d := d30) (xs := [l.av, .ref n, .ref r, noA N.no]) rfl h
  refine run _ ?_
  cases l with
  | num i => exact (exs_nx (s2 := s) (σ2 := S8 (Lf.num i).av n r N.no (some (.str NU)) none none) rfl).trans (ifR rfl rfl)
  | tr b => exact (exs_nx (s2 := s) (σ2 := S8 (Lf.tr b).av n r N.no (some (.str TR)) none none) rfl).trans (ifR rfl rfl)
  | opt o => exact (exs_nx (s2 := s) (σ2 := S8 (Lf.opt o).av n r N.no (some (.str OT)) none none) rfl).trans (ifR rfl rfl)
  | name x =>
    refine (exs_nx (s2 := s) (σ2 := S8 (Lf.name x).av n r N.no (some (.str ⟨⟨[110, 97, 109, 101]⟩⟩)) none none) rfl).trans ((ifN (s2 := s) rfl).trans (ifR (s2 := s) rfl ?_))
    simp only [evI, bd_ok, List.getElem?_cons_zero, List.getElem?_cons_succ, Lf.av, c1, ix1, opt_some, key_s, h1, valL]
  | row =>
    refine (exs_nx (s2 := s) (σ2 := S8 Lf.row.av n r N.no (some (.str ⟨⟨[114, 111, 119]⟩⟩)) none none) rfl).trans ((ifN (s2 := s) rfl).trans ((ifN (s2 := s) rfl).trans (exs_rt ((ifT (s2 := s) rfl).trans ?_))))
    unfold valL
    cases hn : N.no with
    | none => exact ifR rfl rfl
    | some i => exact (ifN rfl).trans (rtE rfl)
  | has x o =>
    refine (exs_nx (s2 := s) (σ2 := S8 (Lf.has x o).av n r N.no (some (.str ⟨⟨[104, 97, 115]⟩⟩)) none none) rfl).trans ((ifN (s2 := s) rfl).trans ((ifN (s2 := s) rfl).trans ((ifN (s2 := s) rfl).trans ((ifN (s2 := s) rfl).trans ((ifN (s2 := s) rfl).trans ((ifN (s2 := s) rfl).trans (exs_rt ((ifT (s2 := s) rfl).trans ?_))))))))
    have hx := h1 x
    show exs (exI (FK (k + 4)) G 99) _ _ _ = .ok (.rt (memW o (N.nm x)).av) s
    generalize N.nm x = w at hx
    have p6 : exI (FK (k + 4)) G 99 (.asg (.nm 6) (.dg1 (.slot 1) (.idx (.slot 0) (.lit (.int 1))))) (S8 (Lf.has x o).av n r N.no (some (.str ⟨⟨[104, 97, 115]⟩⟩)) none none) s = .ok (.nx (S8 (Lf.has x o).av n r N.no (some (.str ⟨⟨[104, 97, 115]⟩⟩)) none (some w.av))) s := by
      simp only [exI, evI, bd_ok, List.getElem?_cons_zero, List.getElem?_cons_succ, Lf.av, c1, ix1, opt_some, key_s, hx]
      rfl
    refine (exs_nx p6).trans ?_
    cases w with
    | opts xs =>
      refine (ifN rfl).trans (rtE ?_)
      have z := in_sst o xs s
      have i2 : ∀ s : Sto, opIdx (Lf.has x o).av (.int 2) s = some (.str o) := fun s => rfl
      have i1 : ∀ s : Sto, opIdx (W.opts xs).av (.int 1) s = some (.tup (ss xs)) := fun s => rfl
      simp only [evI, evs, bd_ok, List.getElem?_cons_zero, List.getElem?_cons_succ, i1, i2, opt_some, z, Option.map_some, List.length_cons, List.length_nil, Nat.reduceAdd, h2L, if_true]
      rfl
    | _ => exact ifR rfl rfl
  | askA x =>
    refine (exs_nx (s2 := s) (σ2 := S8 (Lf.askA x).av n r N.no (some (.str ⟨⟨[97, 115, 107]⟩⟩)) none none) rfl).trans ((ifN (s2 := s) rfl).trans ((ifN (s2 := s) rfl).trans ((ifN (s2 := s) rfl).trans ((ifN (s2 := s) rfl).trans ((ifN (s2 := s) rfl).trans ((ifN (s2 := s) rfl).trans ((ifN (s2 := s) rfl).trans (ifR (s2 := s) rfl ?_))))))))
    have q := (callF_hi (hi31 ⟨⟨[97, 110, 115, 119, 101, 114, 101, 100]⟩⟩ x n r)).trans (askA_ok k N x n r s E)
    simp only [evI, evs, bd_ok, List.getElem?_cons_zero, List.getElem?_cons_succ, Lf.av, ix1, ix2, opt_some, Nat.mul_zero, q, valL]
  | ask f x =>
    have q := (callF_hi (hi31 f.s x n r)).trans (ask_ok k N f x n r s E hs)
    cases f <;>
    · refine (exs_nx (s2 := s) (σ2 := S8 (Lf.ask _ x).av n r N.no (some (.str ⟨⟨[97, 115, 107]⟩⟩)) none none) rfl).trans ((ifN (s2 := s) rfl).trans ((ifN (s2 := s) rfl).trans ((ifN (s2 := s) rfl).trans ((ifN (s2 := s) rfl).trans ((ifN (s2 := s) rfl).trans ((ifN (s2 := s) rfl).trans ((ifN (s2 := s) rfl).trans (ifR (s2 := s) rfl ?_))))))))
      simp only [evI, evs, bd_ok, List.getElem?_cons_zero, List.getElem?_cons_succ, Lf.av, ix1, ix2, opt_some, Nat.mul_zero, q, valL]
theorem law_mean : ∀ (e : Ex) (k : Nat), ht e ≤ k → BdE N e → tab G defs (k + 5) 0 30 [enc e, .ref n, .ref r, noA N.no] s = .ok (valE N e).av s := by
  have h2L : 2 ≤ LINE := by decide
  have run : ∀ (e : Ex) (k : Nat) (v : AV), exs (exI (FK (k + 4)) G 100) d30.body (S8 (enc e) n r N.no none none none) s = .ok (.rt v) s → tab G defs (k + 5) 0 30 [enc e, .ref n, .ref r, noA N.no] s = .ok v s := fun e k v h => runD_same (F := FK (k + 4)) (d := d30) (xs := [enc e, .ref n, .ref r, noA N.no]) rfl h
  intro e
  induction e with
  | lf l => intro k _ _; exact law_leaf N n r s E hs k l
  | nt a iha =>
    intro k hk hb
    have hk : ht a + 1 ≤ k := hk
    obtain ⟨k, rfl⟩ : ∃ j, k = j + 1 := ⟨k - 1, by omega⟩
    have qa := (callF_hi (hi4 a n r N.no)).trans (iha k (by omega) hb)
    have qn := (not_ok (k + 3) (valE N a)).call s
    refine run _ _ _ ((exs_nx (s2 := s) (σ2 := S8 (enc (.nt a)) n r N.no (some (.str ⟨⟨[110, 111, 116]⟩⟩)) none none) rfl).trans ((ifN (s2 := s) rfl).trans ((ifN (s2 := s) rfl).trans ((ifN (s2 := s) rfl).trans (ifR (s2 := s) rfl ?_)))))
    simp only [evI, evs, bd_ok, List.getElem?_cons_zero, List.getElem?_cons_succ, enc, ix1, opt_some, Nat.mul_zero, qa, qn, valE]
  | mi a iha =>
    intro k hk hb
    have hk : ht a + 1 ≤ k := hk
    obtain ⟨k, rfl⟩ : ∃ j, k = j + 1 := ⟨k - 1, by omega⟩
    have qa := (callF_hi (hi4 a n r N.no)).trans (iha k (by omega) hb)
    have qn := (number_ok (k + 4) (valE N a)).call s
    refine run _ _ _ ((exs_nx (s2 := s) (σ2 := S8 (enc (.mi a)) n r N.no (some (.str ⟨⟨[109, 105, 110, 117, 115]⟩⟩)) none none) rfl).trans ((ifN (s2 := s) rfl).trans ((ifN (s2 := s) rfl).trans ((ifN (s2 := s) rfl).trans ((ifN (s2 := s) rfl).trans (exs_rt ((ifT (s2 := s) rfl).trans ?_)))))))
    have p5 : exI (FK (k + 5)) G 99 (.asg (.nm 5) (.call 27 [(.call 30 [(.idx (.slot 0) (.lit (.int 1))), (.slot 1), (.slot 2), (.slot 3)])])) (S8 (enc (.mi a)) n r N.no (some (.str ⟨⟨[109, 105, 110, 117, 115]⟩⟩)) none none) s = .ok (.nx (S8 (enc (.mi a)) n r N.no (some (.str ⟨⟨[109, 105, 110, 117, 115]⟩⟩)) (some (numA (valE N a))) none)) s := by
      simp only [exI, evI, evs, bd_ok, List.getElem?_cons_zero, List.getElem?_cons_succ, enc, ix1, opt_some, Nat.mul_zero, qa, qn]
      rfl
    refine (exs_nx p5).trans ?_
    show exs _ _ _ _ = .ok (.rt (caW .sb (.num 0) (valE N a)).av) s
    generalize valE N a = w
    cases w with
    | num i =>
      have cl := (clip_ok (k + 4) (-i)).call s
      refine (ifN rfl).trans (rtE ?_)
      have e : caW .sb (.num 0) (.num i) = resW (-i) := by
        show resW (0 - i) = resW (-i)
        rw [Int.zero_sub]
      rw [e]
      simp only [evI, evs, bd_ok, List.getElem?_cons_zero, List.getElem?_cons_succ, numA, Nat.mul_zero, cl]
    | _ => exact ifR rfl rfl
  | op g a b iha ihb =>
    intro k hk hb
    have hk : max (ht a) (ht b) + 1 ≤ k := hk
    obtain ⟨k, rfl⟩ : ∃ j, k = j + 1 := ⟨k - 1, by omega⟩
    have qa := (callF_hi (hi4 a n r N.no)).trans (iha k (by omega) hb.1)
    have qb := (callF_hi (hi4 b n r N.no)).trans (ihb k (by omega) hb.2)
    have qo := (oper_ok (k + 2) g (valE N a) (valE N b) (bd_val N a hb.1) (bd_val N b hb.2)).call s
    refine run _ _ _ ((exs_nx (s2 := s) (σ2 := S8 (enc (.op g a b)) n r N.no (some (.str ⟨⟨[111, 112]⟩⟩)) none none) rfl).trans ((ifN (s2 := s) rfl).trans ((ifN (s2 := s) rfl).trans ((ifN (s2 := s) rfl).trans ((ifN (s2 := s) rfl).trans ((ifN (s2 := s) rfl).trans ((ifN (s2 := s) rfl).trans ((ifN (s2 := s) rfl).trans ((ifN (s2 := s) rfl).trans (rtE ?_))))))))))
    have i1 : ∀ s : Sto, opIdx (enc (.op g a b)) (.int 1) s = some (.str g.s) := fun s => rfl
    have i2 : ∀ s : Sto, opIdx (enc (.op g a b)) (.int 2) s = some (enc a) := fun s => rfl
    have i3 : ∀ s : Sto, opIdx (enc (.op g a b)) (.int 3) s = some (enc b) := fun s => rfl
    simp only [evI, evs, bd_ok, List.getElem?_cons_zero, List.getElem?_cons_succ, i1, i2, i3, opt_some, Nat.mul_zero, qa, qb, qo, valE]
  | ife a b c iha ihb ihc =>
    intro k hk hb
    have hk : max (ht a) (max (ht b) (ht c)) + 1 ≤ k := hk
    obtain ⟨k, rfl⟩ : ∃ j, k = j + 1 := ⟨k - 1, by omega⟩
    have qa := (callF_hi (hi4 a n r N.no)).trans (iha k (by omega) hb.1)
    have qb := (callF_hi (hi4 b n r N.no)).trans (ihb k (by omega) hb.2.1)
    have qc := (callF_hi (hi4 c n r N.no)).trans (ihc k (by omega) hb.2.2)
    have qt := (truth_ok (k + 4) (valE N a)).call s
    refine run _ _ _ ((exs_nx (s2 := s) (σ2 := S8 (enc (.ife a b c)) n r N.no (some (.str ⟨⟨[105, 102]⟩⟩)) none none) rfl).trans ((ifN (s2 := s) rfl).trans ((ifN (s2 := s) rfl).trans ((ifN (s2 := s) rfl).trans ((ifN (s2 := s) rfl).trans ((ifN (s2 := s) rfl).trans (exs_rt ((ifT (s2 := s) rfl).trans ?_))))))))
    have p5 : exI (FK (k + 5)) G 99 (.asg (.nm 5) (.call 26 [(.call 30 [(.idx (.slot 0) (.lit (.int 1))), (.slot 1), (.slot 2), (.slot 3)])])) (S8 (enc (.ife a b c)) n r N.no (some (.str ⟨⟨[105, 102]⟩⟩)) none none) s = .ok (.nx (S8 (enc (.ife a b c)) n r N.no (some (.str ⟨⟨[105, 102]⟩⟩)) (some (truA (valE N a))) none)) s := by
      simp only [exI, evI, evs, bd_ok, List.getElem?_cons_zero, List.getElem?_cons_succ, enc, ix1, opt_some, Nat.mul_zero, qa, qt]
      rfl
    refine (exs_nx p5).trans ?_
    have ib : ∀ s : Sto, opIdx (enc (.ife a b c)) (.int 2) s = some (enc b) := fun s => rfl
    have ic : ∀ s : Sto, opIdx (enc (.ife a b c)) (.int 3) s = some (enc c) := fun s => rfl
    have bi : ∀ (t : Bool) (s : Sto), opBi .int [.bl t] s = .ok (.int (if t then 1 else 0)) s := fun t s => rfl
    have sb1 : ∀ s : Sto, opBin .sub (.int 3) (.int 1) s = .ok (.int 2) s := fun s => rfl
    have sb0 : ∀ s : Sto, opBin .sub (.int 3) (.int 0) s = .ok (.int 3) s := fun s => rfl
    show exs _ _ _ _ = .ok (.rt (chW (valE N a) (valE N b) (valE N c)).av) s
    generalize valE N a = w
    cases w with
    | tr t =>
      refine (ifN rfl).trans (rtE ?_)
      cases t with
      | true => simp only [evI, evs, bd_ok, List.getElem?_cons_zero, List.getElem?_cons_succ, truA, bi, if_true, sb1, ib, opt_some, Nat.mul_zero, qb, chW]
      | false => simp only [evI, evs, bd_ok, List.getElem?_cons_zero, List.getElem?_cons_succ, truA, bi, Bool.false_eq_true, if_false, sb0, ic, opt_some, Nat.mul_zero, qc, chW]
    | _ => exact ifR rfl rfl
end
/-! ### what is more known -/
/-- no function over rows, no ??, nothing asked -/
def plain : Ex → Bool
  | .lf (.askA _) => false
  | .lf (.ask _ _) => false
  | .lf _ => true
  | .nt a => plain a
  | .mi a => plain a
  | .op .qq _ _ => false
  | .op _ a b => plain a && plain b
  | .ife a b c => plain a && plain b && plain c
theorem no_eq {w : W} (h : isNo w = true) : w = .non := by cases w <;> first | rfl | cases h
/-- one value is the other, or open -/
def LeW (a b : W) : Prop := a = .non ∨ a = b
theorem le_an {a b c d : W} (h1 : LeW a c) (h2 : LeW b d) : LeW (anW [a, b]) (anW [c, d]) := by
  have key : ∀ b d : W, LeW b d → T3 b = none ∨ T3 b = T3 d := fun b d h => by
    rcases h with rfl | rfl
    · exact Or.inl rfl
    · exact Or.inr rfl
  have e : ∀ x y : W, anW [x, y] = (match T3 x, T3 y with
      | some true, _ => .tr true
      | _, some true => .tr true
      | some false, some false => .tr false
      | _, _ => .non) := fun x y => by
    unfold anW hasT hasO
    simp only [List.any_cons, List.any_nil, Bool.or_false]
    cases T3 x with
    | none => cases T3 y with
      | none => rfl
      | some b => cases b <;> rfl
    | some a => cases a <;> cases T3 y with
      | none => rfl
      | some b => cases b <;> rfl
  rw [e, e]
  have k1 := key a c h1
  have k2 := key b d h2
  generalize T3 a = p at k1
  generalize T3 b = q at k2
  generalize T3 c = p2 at k1
  generalize T3 d = q2 at k2
  rcases k1 with rfl | rfl <;> rcases k2 with rfl | rfl
  · exact Or.inl rfl
  · cases q with
    | none => exact Or.inl rfl
    | some b => cases b with
      | true =>
        right
        cases p2 with
        | none => rfl
        | some t => cases t <;> rfl
      | false => exact Or.inl rfl
  · cases p with
    | none => exact Or.inl rfl
    | some b => cases b with
      | true => exact Or.inr rfl
      | false => exact Or.inl rfl
  · exact Or.inr rfl
theorem al_neg (x y : W) : alW [x, y] = negW (anW [negW x, negW y]) := by
  have e1 : ∀ w : W, hasT true [w] = hasT true [w] := fun w => rfl
  cases x <;> cases y <;> first | rfl | skip
  all_goals first | (rename_i a; cases a <;> rfl) | (rename_i a b; cases a <;> rfl) | skip
  all_goals (rename_i a b; cases a <;> cases b <;> rfl)
theorem le_neg {a b : W} (h : LeW a b) : LeW (negW a) (negW b) := by
  rcases h with rfl | rfl
  · exact Or.inl rfl
  · exact Or.inr rfl
theorem le_al {a b c d : W} (h1 : LeW a c) (h2 : LeW b d) : LeW (alW [a, b]) (alW [c, d]) := by
  rw [al_neg, al_neg]
  exact le_neg (le_an (le_neg h1) (le_neg h2))
theorem le_val {N M : Env} (h : ∀ x, LeW (N.nm x) (M.nm x)) (ho : N.no = M.no) : ∀ e : Ex, plain e = true → LeW (valE N e) (valE M e)
  | .lf l, p => by
    cases l with
    | name x => exact h x
    | row =>
      right
      show (match N.no with
        | none => W.non
        | some i => .num i) = (match M.no with
        | none => W.non
        | some i => .num i)
      rw [ho]
    | tr b => exact Or.inr rfl
    | opt o => exact Or.inr rfl
    | num i => exact Or.inr rfl
    | has x o =>
      show LeW (memW o (N.nm x)) (memW o (M.nm x))
      rcases h x with e | e
      · rw [e]
        exact Or.inl rfl
      · rw [e]
        exact Or.inr rfl
    | askA x => cases p
    | ask f x => cases p
  | .nt a, p => le_neg (le_val h ho a p)
  | .mi a, p => by
    show LeW (caW .sb (.num 0) (valE N a)) (caW .sb (.num 0) (valE M a))
    rcases le_val h ho a p with e | e
    · rw [e]
      exact Or.inl rfl
    · rw [e]
      exact Or.inr rfl
  | .op g a b, p => by
    have p2 : g ≠ .qq ∧ plain a = true ∧ plain b = true := by
      cases g <;> first | (cases p; done) | skip
      all_goals
        have p : (plain a && plain b) = true := p
        rw [Bool.and_eq_true] at p
        exact ⟨(fun e => by cases e), p.1, p.2⟩
    have la := le_val h ho a p2.2.1
    have lb := le_val h ho b p2.2.2
    show LeW (opW g (valE N a) (valE N b)) (opW g (valE M a) (valE M b))
    generalize valE N a = u at la
    generalize valE N b = v at lb
    generalize valE M a = u2 at la
    generalize valE M b = v2 at lb
    have strict : ∀ f : W → W → W, (∀ x, f .non x = .non) → (∀ x, f x .non = .non) → LeW (f u v) (f u2 v2) := fun f f1 f2 => by
      rcases la with rfl | rfl
      · exact Or.inl (f1 v)
      · rcases lb with rfl | rfl
        · exact Or.inl (f2 u)
        · exact Or.inr rfl
    cases g with
    | qq => exact absurd rfl p2.1
    | or => exact le_an la lb
    | and => exact le_al la lb
    | lk e => exact strict (lkW e) (fun x => rfl) (fun x => by unfold lkW; cases isNo x <;> rfl)
    | ca c => exact strict (caW c) (fun x => rfl) (fun x => by unfold caW; cases N3 x <;> rfl)
    | cm c => exact strict (cmW c) (fun x => rfl) (fun x => by unfold cmW; cases N3 x <;> rfl)
  | .ife a b c, p => by
    have p : ((plain a && plain b) && plain c) = true := p
    rw [Bool.and_eq_true, Bool.and_eq_true] at p
    have la := le_val h ho a p.1.1
    have lb := le_val h ho b p.1.2
    have lc := le_val h ho c p.2
    show LeW (chW (valE N a) (valE N b) (valE N c)) (chW (valE M a) (valE M b) (valE M c))
    rcases la with e | e
    · rw [e]
      exact Or.inl rfl
    · rw [e]
      generalize valE M a = t
      cases t <;> first | exact Or.inl rfl | skip
      rename_i q
      cases q
      · exact lc
      · exact lb
end L03


set_option Elab.async false
set_option linter.all false
set_option maxRecDepth 100000
namespace L03
open PySem Jp
/-! ### _law_plain -/
def plI : IE := .an (.isi (.slot 1) .tuple) (.nt (.call 34 [(.slot 1)]))
def plL : IE := .lc [(⟨⟨[112, 97, 114, 116]⟩⟩, 1)] (.slot 1) (.nm 1) .seq [(.sl (.slot 0) (some (.lit (.int 1))) none)] [plI]
theorem d34_eq : d34 = ⟨2, 1, [(.ifs (.or_ (.cmp .eq (.idx (.slot 0) (.lit (.int 0))) (.lit (.str ⟨⟨[97, 115, 107]⟩⟩))) (.an (.cmp .eq (.idx (.slot 0) (.lit (.int 0))) (.lit (.str ⟨⟨[111, 112]⟩⟩))) (.cmp .eq (.idx (.slot 0) (.lit (.int 1))) (.lit (.str ⟨⟨[63, 63]⟩⟩))))) [(.ret (.lit (.bl false)))] []), (.ret (.cmp .eq (.bi .len [plL]) (.lit (.int 0))))]⟩ := rfl
theorem lc_flat (k n : Nat) (v x : AV) (src whole r acc : List AV) (s : Sto) (hst : stands .seq src whole s = true) (hx : isT s x .tuple = some false) : lcLoop (evI (FK k) G 0 (n + 3)) [1] (.slot 1) (.nm 1) .seq src whole [plI] [some v, none] (x :: r) acc s = lcLoop (evI (FK k) G 0 (n + 3)) [1] (.slot 1) (.nm 1) .seq src whole [plI] [some v, none] r acc s := by
  rw [lcLoop, show asT s (.nm 1) x (wipeA [some v, none] [1]) = some [some v, some x] from rfl]
  have t : tests (evI (FK k) G 0 (n + 3)) [plI] [some v, some x] s = .ok false s := by
    unfold tests plI
    simp only [evI, bd_ok, List.getElem?_cons_zero, List.getElem?_cons_succ, hx, Option.map_some, opt_some, tr_b, Bool.false_eq_true, if_false]
  show ((noX (tests (evI (FK k) G 0 (n + 3)) [plI] [some v, some x] s)).bd _) = _
  rw [t]
  show (if stands .seq src whole s = true then _ else Rs.bad) = _
  rw [hst] <;> rfl
theorem lc_part (k n : Nat) (v : AV) (e : Ex) (b : Bool) (src whole r acc : List AV) (s : Sto) (hst : stands .seq src whole s = true) (hb : callF (tab G defs k 0 34) [enc e] s = .ok (.bl b) s) (hl : acc.length < LINE) : lcLoop (evI (FK k) G 0 (n + 5)) [1] (.slot 1) (.nm 1) .seq src whole [plI] [some v, none] (enc e :: r) acc s = lcLoop (evI (FK k) G 0 (n + 5)) [1] (.slot 1) (.nm 1) .seq src whole [plI] [some v, none] r (if b then acc else acc ++ [enc e]) s := by
  rw [lcLoop, show asT s (.nm 1) (enc e) (wipeA [some v, none] [1]) = some [some v, some (enc e)] from rfl]
  have it : isT s (enc e) .tuple = some true := by
    cases e with
    | lf l => cases l <;> rfl
    | _ => rfl
  have t : tests (evI (FK k) G 0 (n + 5)) [plI] [some v, some (enc e)] s = .ok (!b) s := by
    unfold tests plI
    simp only [evI, evs, bd_ok, List.getElem?_cons_zero, List.getElem?_cons_succ, it, Option.map_some, opt_some, tr_b, if_true, Nat.mul_zero, hb]
  show ((noX (tests (evI (FK k) G 0 (n + 5)) [plI] [some v, some (enc e)] s)).bd _) = _
  rw [t]
  cases b with
  | true =>
    show (if stands .seq src whole s = true then _ else Rs.bad) = _
    rw [hst] <;> rfl
  | false =>
    show (if acc.length < LINE then (if stands .seq src whole s = true then _ else Rs.bad) else Rs.bad) = _
    rw [if_pos hl, hst] <;> rfl
theorem plain_ok : ∀ (e : Ex) (k : Nat), ht e ≤ k → Pu (tab G defs (k + 1) 0 34) [enc e] (.bl (plain e)) := by
  have hL : 2000 ≤ LINE := by decide
  have low1 : ∀ e : Ex, lowL 0 [enc e] = true := fun e => by
    show (lowA 0 (enc e) && true) = true
    rw [low_enc] <;> rfl
  have start : ∀ (e : Ex) (k : Nat) (xs out : List AV) (b : Bool), exI (FK k) G 100 (.ifs (.or_ (.cmp .eq (.idx (.slot 0) (.lit (.int 0))) (.lit (.str ⟨⟨[97, 115, 107]⟩⟩))) (.an (.cmp .eq (.idx (.slot 0) (.lit (.int 0))) (.lit (.str ⟨⟨[111, 112]⟩⟩))) (.cmp .eq (.idx (.slot 0) (.lit (.int 1))) (.lit (.str ⟨⟨[63, 63]⟩⟩))))) [(.ret (.lit (.bl false)))] []) [some (enc e), none] [] = .ok (.nx [some (enc e), none]) [] →
      evs (evI (FK k) G 0 96) [(.sl (.slot 0) (some (.lit (.int 1))) none)] [some (enc e), none] [] = .ok [.tup xs] [] → lcLoop (evI (FK k) G 0 96) [1] (.slot 1) (.nm 1) .seq [.tup xs] xs [plI] [some (enc e), none] xs [] [] = .ok out [] → b = decide (((out.length : Nat) : Int) = 0) → Pu (tab G defs (k + 1) 0 34) [enc e] (.bl b) := fun e k xs out b h1 h2 h3 h4 => by
    refine ⟨low1 e, rfl, ?_⟩
    have l2 : evI (FK k) G 0 97 plL [some (enc e), none] [] = .ok (.ref 0) [.lst out] := by
      have q0 : evI (FK k) G 0 97 plL [some (enc e), none] [] = (evs (evI (FK k) G 0 96) [(.sl (.slot 0) (some (.lit (.int 1))) none)] [some (enc e), none] []).bd fun xs s => (opt (walk .seq xs s) s).bd fun ys s => (lcLoop (evI (FK k) G 0 96) [1] (.slot 1) (.nm 1) .seq xs ys [plI] [some (enc e), none] ys [] s).bd fun zs s => .ok (.ref s.length) (s ++ [.lst zs]) := rfl
      rw [q0, h2, bd_ok, walk_tup, opt_some, bd_ok, h3] <;> rfl
    have ln : opBi .len [.ref 0] [.lst out] = .ok (.int (out.length : Nat)) [.lst out] := len_ref rfl
    have q : ∀ s : Sto, opCmp .eq (.int (out.length : Nat)) (.int 0) s = some (decide (((out.length : Nat) : Int) = 0)) := fun s => eq_ii
    refine ⟨_, runD_rt (F := FK k) (d := d34) (xs := [enc e]) (s := []) (s2 := [.lst out]) rfl ?_⟩
    rw [d34_eq]
    refine (exs_nx h1).trans (rtE ?_)
    have lb : evI (FK k) G 0 98 (.bi .len [plL]) [some (enc e), none] [] = .ok (.int (out.length : Nat)) [.lst out] := by
      rw [evI, evs, l2, bd_ok, evs, bd_ok, bd_ok, ln]
    rw [evI, lb, bd_ok]
    show opt ((opCmp .eq (.int (out.length : Nat)) (.int 0) [AO.lst out]).map AV.bl) [AO.lst out] = _
    rw [q, h4] <;> rfl
  have no : ∀ (e : Ex) (k : Nat), evI (FK k) G 0 99 (.or_ (.cmp .eq (.idx (.slot 0) (.lit (.int 0))) (.lit (.str ⟨⟨[97, 115, 107]⟩⟩))) (.an (.cmp .eq (.idx (.slot 0) (.lit (.int 0))) (.lit (.str ⟨⟨[111, 112]⟩⟩))) (.cmp .eq (.idx (.slot 0) (.lit (.int 1))) (.lit (.str ⟨⟨[63, 63]⟩⟩))))) [some (enc e), none] [] = .ok (.bl true) [] → Pu (tab G defs (k + 1) 0 34) [enc e] (.bl false) := fun e k h =>
    ⟨low1 e, rfl, _, runD_rt (F := FK k) (d := d34) (xs := [enc e]) (s := []) (s2 := []) rfl (by rw [d34_eq]; exact ifR h rfl)⟩
  have sd : ∀ (xs : List AV) (s : Sto), stands .seq [.tup xs] xs s = true := fun xs s => rfl
  intro e
  induction e with
  | lf l =>
    intro k _
    cases l with
    | name x => exact start _ k [.str x] [] true rfl rfl ((lc_flat k 93 _ _ _ _ _ _ _ (sd _ _) rfl).trans rfl) rfl
    | row => exact start _ k [] [] true rfl rfl rfl rfl
    | tr b => exact start _ k [.bl b] [] true rfl rfl ((lc_flat k 93 _ _ _ _ _ _ _ (sd _ _) rfl).trans rfl) rfl
    | opt o => exact start _ k [.str o] [] true rfl rfl ((lc_flat k 93 _ _ _ _ _ _ _ (sd _ _) rfl).trans rfl) rfl
    | num i => exact start _ k [.int i] [] true rfl rfl ((lc_flat k 93 _ _ _ _ _ _ _ (sd _ _) rfl).trans rfl) rfl
    | has x o => exact start _ k [.str x, .str o] [] true rfl rfl ((lc_flat k 93 _ _ _ _ _ _ _ (sd _ _) rfl).trans ((lc_flat k 93 _ _ _ _ _ _ _ (sd _ _) rfl).trans rfl)) rfl
    | askA x => exact no _ k rfl
    | ask f x => exact no _ k rfl
  | nt a iha =>
    intro k hk
    have hk : ht a + 1 ≤ k := hk
    obtain ⟨k, rfl⟩ : ∃ j, k = j + 1 := ⟨k - 1, by omega⟩
    have qa := (iha k (by omega)).call []
    refine start _ (k + 1) [enc a] (if plain a then [] else [enc a]) (plain a) rfl rfl ((lc_part (k + 1) 91 _ a _ _ _ _ _ _ (sd _ _) qa (by show 0 < LINE; omega)).trans ?_) ?_
    · cases plain a <;> rfl
    · cases plain a <;> rfl
  | mi a iha =>
    intro k hk
    have hk : ht a + 1 ≤ k := hk
    obtain ⟨k, rfl⟩ : ∃ j, k = j + 1 := ⟨k - 1, by omega⟩
    have qa := (iha k (by omega)).call []
    refine start _ (k + 1) [enc a] (if plain a then [] else [enc a]) (plain a) rfl rfl ((lc_part (k + 1) 91 _ a _ _ _ _ _ _ (sd _ _) qa (by show 0 < LINE; omega)).trans ?_) ?_
    · cases plain a <;> rfl
    · cases plain a <;> rfl
  | op g a b iha ihb =>
    intro k hk
    have hk : max (ht a) (ht b) + 1 ≤ k := hk
    obtain ⟨k, rfl⟩ : ∃ j, k = j + 1 := ⟨k - 1, by omega⟩
    have qa := (iha k (by omega)).call []
    have qb := (ihb k (by omega)).call []
    by_cases hg : g = .qq
    · subst hg
      exact no _ (k + 1) rfl
    · have e1 : plain (.op g a b) = (plain a && plain b) := by cases g <;> first | exact absurd rfl hg | rfl
      rw [e1]
      have i1 : exI (FK (k + 1)) G 100 (.ifs (.or_ (.cmp .eq (.idx (.slot 0) (.lit (.int 0))) (.lit (.str ⟨⟨[97, 115, 107]⟩⟩))) (.an (.cmp .eq (.idx (.slot 0) (.lit (.int 0))) (.lit (.str ⟨⟨[111, 112]⟩⟩))) (.cmp .eq (.idx (.slot 0) (.lit (.int 1))) (.lit (.str ⟨⟨[63, 63]⟩⟩))))) [(.ret (.lit (.bl false)))] []) [some (enc (.op g a b)), none] [] = .ok (.nx [some (enc (.op g a b)), none]) [] := by
        cases g with
        | qq => exact absurd rfl hg
        | or => rfl
        | and => rfl
        | lk e => cases e <;> rfl
        | ca c => cases c <;> rfl
        | cm c => cases c <;> rfl
      refine start _ (k + 1) [.str g.s, enc a, enc b] ((if plain a then [] else [enc a]) ++ (if plain b then [] else [enc b])) (plain a && plain b) i1 rfl ((lc_flat (k + 1) 93 _ _ _ _ _ _ _ (sd _ _) rfl).trans ((lc_part (k + 1) 91 _ a _ _ _ _ _ _ (sd _ _) qa (by show 0 < LINE; omega)).trans ((lc_part (k + 1) 91 _ b _ _ _ _ _ _ (sd _ _) qb (by cases plain a <;> (first | (show 0 < LINE; omega) | (show 1 < LINE; omega)))).trans ?_))) ?_
      · cases plain a <;> cases plain b <;> rfl
      · cases plain a <;> cases plain b <;> rfl
  | ife a b c iha ihb ihc =>
    intro k hk
    have hk : max (ht a) (max (ht b) (ht c)) + 1 ≤ k := hk
    obtain ⟨k, rfl⟩ : ∃ j, k = j + 1 := ⟨k - 1, by omega⟩
    have qa := (iha k (by omega)).call []
    have qb := (ihb k (by omega)).call []
    have qc := (ihc k (by omega)).call []
    refine start _ (k + 1) [enc a, enc b, enc c] (((if plain a then [] else [enc a]) ++ (if plain b then [] else [enc b])) ++ (if plain c then [] else [enc c])) (plain a && plain b && plain c) rfl rfl ((lc_part (k + 1) 91 _ a _ _ _ _ _ _ (sd _ _) qa (by show 0 < LINE; omega)).trans ((lc_part (k + 1) 91 _ b _ _ _ _ _ _ (sd _ _) qb (by cases plain a <;> (first | (show 0 < LINE; omega) | (show 1 < LINE; omega)))).trans ((lc_part (k + 1) 91 _ c _ _ _ _ _ _ (sd _ _) qc (by cases plain a <;> cases plain b <;> (first | (show 0 < LINE; omega) | (show 1 < LINE; omega) | (show 2 < LINE; omega)))).trans ?_))) ?_
    · cases plain a <;> cases plain b <;> cases plain c <;> rfl
    · cases plain a <;> cases plain b <;> cases plain c <;> rfl
end L03


set_option Elab.async false
set_option linter.all false
set_option maxRecDepth 100000
namespace L03
open PySem Jp
/-! ### the store behind the box -/
def LowR (r : Sto) : Prop := r.all (lowO (2 + r.length)) = true
theorem S2_len (zs : List Int) (a : Int) (r : Sto) : (S2 zs a ++ r).length = 2 + r.length := by
  rw [List.length_append] <;> rfl
theorem S2_app {zs : List Int} {a : Int} {r J : Sto} : (S2 zs a ++ r) ++ J = S2 zs a ++ (r ++ J) := List.append_assoc ..
theorem S2_at {zs : List Int} {a : Int} {r : Sto} {m : Nat} : (S2 zs a ++ r)[2 + m]? = r[m]? := by
  rw [List.getElem?_append_right (by show 2 ≤ 2 + m; omega), show 2 + m - (S2 zs a).length = m from by show 2 + m - 2 = m; omega]
theorem S2_set {zs : List Int} {a : Int} {r : Sto} {m : Nat} {x : AO} : (S2 zs a ++ r).set (2 + m) x = S2 zs a ++ r.set m x := by
  rw [List.set_append_right _ _ (by show 2 ≤ 2 + m; omega), show 2 + m - (S2 zs a).length = m from by show 2 + m - 2 = m; omega]
theorem lowS2 (zs : List Int) (a : Int) (r : Sto) (h : LowR r) : LowS (S2 zs a ++ r) := by
  unfold LowS
  rw [S2_len, List.all_append, h]
  show ((lowL (2 + r.length) (zs.map AV.int) && ((decide (0 < 2 + r.length) && (true && true)) && true)) && true) = true
  rw [low_ints, show decide (0 < 2 + r.length) = true from by simp; omega] <;> rfl
theorem LowR.addL {r K : Sto} (h : LowR r) (hK : ∀ o ∈ K, Free o) : LowR (r ++ K) := by
  unfold LowR
  rw [List.all_append, List.length_append]
  have h1 : r.all (lowO (2 + (r.length + K.length))) = true := List.all_eq_true.mpr fun o ho => lowO_mono (by omega) o (List.all_eq_true.mp h o ho)
  have h2 : K.all (lowO (2 + (r.length + K.length))) = true := List.all_eq_true.mpr fun o ho => hK o ho _
  rw [h1, h2] <;> rfl
theorem letGoR (zs : List Int) (a a2 : Int) (r J : Sto) (v : AV) (h : LowR r) (hv : lowA 0 v = true) : Jp.letGo (S2 zs a ++ r).length v (S2 zs a2 ++ (r ++ J)) = S2 zs a2 ++ r := by
  unfold Jp.letGo
  have tk : (S2 zs a2 ++ (r ++ J)).take (S2 zs a ++ r).length = S2 zs a2 ++ r := by
    rw [← List.append_assoc, S2_len, ← S2_len zs a2 r, List.take_left]
  have lo := lowS2 zs a2 r h
  unfold LowS at lo
  rw [S2_len] at lo
  rw [tk, S2_len, lowA_mono (Nat.zero_le _) v hv, lo] <;> rfl
theorem runD_R {F : Nat → Nat → List AV → Sto → Rs AV} {d : Df} {xs : List AV} {zs : List Int} {a a2 : Int} {r J : Sto} {v : AV} (hp : xs.length = d.pars) (hr : LowR r) (hv : lowA 0 v = true)
    (h : exs (exI F G 100) d.body (xs.map some ++ List.replicate (d.names - d.pars) none) (S2 zs a ++ r) = .ok (.rt v) (S2 zs a2 ++ (r ++ J))) : runD F G d xs (S2 zs a ++ r) = .ok v (S2 zs a2 ++ r) := by
  rw [runD_rt hp h, letGoR zs a a2 r J v hr hv]
theorem call1 (f : List AV → Sto → Rs AV) (xs : List AV) (s : Sto) : callF f (.ref 1 :: xs) s = f (.ref 1 :: xs) s := callF_hi rfl
theorem atI_mem {xs : List AV} {y : Int} (h0 : 0 ≤ y) (h1 : y < xs.length) : ∃ d ∈ xs, L2.atI xs y = some d := by
  unfold L2.atI L2.ixN
  rw [if_pos h0, if_pos h1]
  have hl : y.toNat < xs.length := by omega
  exact ⟨xs[y.toNat], List.getElem_mem _, by simp [hl]⟩
/-! ### what is drawn: a value of a kind, and lists that nobody holds -/
def FreeL (J : Sto) : Prop := ∀ o ∈ J, Free o
theorem FreeL.nil : FreeL [] := fun o h => by cases h
theorem FreeL.app {J K : Sto} (h1 : FreeL J) (h2 : FreeL K) : FreeL (J ++ K) := fun o ho => by
  rcases List.mem_append.mp ho with q | q
  · exact h1 o q
  · exact h2 o q
theorem FreeL.one {xs : List AV} (h : lowL 0 xs = true) : FreeL [.lst xs] := fun o ho => by
  rw [List.mem_singleton] at ho
  rw [ho]
  exact fun n => lowL_mono (Nat.zero_le n) xs h
def Dv (k n : Nat) (zs : List Int) (σ : Slots) (e : IE) (P : AV → Prop) : Prop := ∀ (a : Int) (r : Sto), 0 ≤ a → LowR r → ∃ (v : AV) (a2 : Int) (J : Sto), 0 ≤ a2 ∧ P v ∧ FreeL J ∧ evI (FK k) G 0 n e σ (S2 zs a ++ r) = .ok v (S2 zs a2 ++ (r ++ J))
def Dvs (k n : Nat) (zs : List Int) (σ : Slots) (es : List IE) (P : List AV → Prop) : Prop := ∀ (a : Int) (r : Sto), 0 ≤ a → LowR r → ∃ (v : List AV) (a2 : Int) (J : Sto), 0 ≤ a2 ∧ P v ∧ FreeL J ∧ evs (evI (FK k) G 0 n) es σ (S2 zs a ++ r) = .ok v (S2 zs a2 ++ (r ++ J))
section
variable {k n : Nat} {zs : List Int} {σ : Slots} {e : IE} {es : List IE} {P Q : AV → Prop} {Ps : List AV → Prop}
theorem Dv.mono (h : Dv k n zs σ e P) (hq : ∀ v, P v → Q v) : Dv k n zs σ e Q := fun a r h0 hr => by
  obtain ⟨v, a2, J, h1, h2, h3, h4⟩ := h a r h0 hr
  exact ⟨v, a2, J, h1, hq v h2, h3, h4⟩
theorem dv_pure {v : AV} (h : ∀ s, evI (FK k) G 0 n e σ s = .ok v s) : Dv k n zs σ e (fun x => x = v) := fun a r h0 _ => ⟨v, a, [], h0, rfl, FreeL.nil, by rw [List.append_nil]; exact h _⟩
theorem dvs_nil : Dvs k n zs σ [] (fun l => l = []) := fun a r h0 _ => ⟨[], a, [], h0, rfl, FreeL.nil, by rw [List.append_nil]; rfl⟩
theorem dvs_cons (h1 : Dv k n zs σ e P) (h2 : Dvs k n zs σ es Ps) : Dvs k n zs σ (e :: es) (fun l => ∃ x xs, P x ∧ Ps xs ∧ l = x :: xs) := fun a r h0 hr => by
  obtain ⟨v, a2, J, q1, q2, q3, q4⟩ := h1 a r h0 hr
  obtain ⟨l, a3, J2, p1, p2, p3, p4⟩ := h2 a2 (r ++ J) q1 (hr.addL q3)
  exact ⟨v :: l, a3, J ++ J2, p1, ⟨v, l, q2, p2, rfl⟩, q3.app p3, by rw [evs, q4, bd_ok, p4, bd_ok, List.append_assoc]⟩
theorem dv_tup (h : Dvs k n zs σ es Ps) (hl : ∀ l, Ps l → l.length ≤ LINE) : Dv k (n + 1) zs σ (.tup es) (fun v => ∃ l, Ps l ∧ v = .tup l) := fun a r h0 hr => by
  obtain ⟨l, a2, J, q1, q2, q3, q4⟩ := h a r h0 hr
  exact ⟨.tup l, a2, J, q1, ⟨l, q2, rfl⟩, q3, by rw [evI, q4, bd_ok, if_pos (hl l q2)]⟩
theorem dv_draw (j : Nat) (many : Int) (hm : 0 < many) (hσ : σ[j]? = some (some (.ref 1))) : Dv (k + 1) (n + 2) zs σ (.call 22 [(.slot j), (.lit (.int many))]) (fun v => ∃ x : Int, 0 ≤ x ∧ x < many ∧ v = .int x) := fun a r h0 hr => by
  obtain ⟨x, x0, x1, h⟩ := draw2 k zs a many r h0 hm
  refine ⟨.int x, a + 1, [], by omega, ⟨x, x0, x1, rfl⟩, FreeL.nil, ?_⟩
  rw [List.append_nil]
  simp only [evI, evs, bd_ok, hσ, call1, Nat.mul_zero, h]
/-- one of a list that is written there -/
theorem dv_idx (j : Nat) (many : Int) (hm : 0 < many) (hσ : σ[j]? = some (some (.ref 1))) (h : Dvs (k + 1) (n + 2) zs σ es Ps) (hp : ∀ l, Ps l → many = (l.length : Nat) ∧ l.length ≤ LINE ∧ lowL 0 l = true ∧ ∀ x ∈ l, Q x) : Dv (k + 1) (n + 4) zs σ (.idx (.lst es) (.call 22 [(.slot j), (.lit (.int many))])) Q := fun a r h0 hr => by
  obtain ⟨l, a2, J, q1, q2, q3, q4⟩ := h a r h0 hr
  obtain ⟨m1, m2, m3, m4⟩ := hp l q2
  have hr2 : LowR (r ++ (J ++ [.lst l])) := hr.addL (q3.app (FreeL.one m3))
  obtain ⟨x, x0, x1, hx⟩ := draw2 k zs a2 many (r ++ (J ++ [.lst l])) q1 hm
  obtain ⟨d, hd, e⟩ := atI_mem (xs := l) x0 (by omega)
  have l1 : evI (FK (k + 1)) G 0 (n + 3) (.lst es) σ (S2 zs a ++ r) = .ok (.ref (2 + (r ++ J).length)) (S2 zs a2 ++ (r ++ (J ++ [.lst l]))) := by
    rw [evI, q4, bd_ok, if_pos m2, S2_len, S2_app, List.append_assoc]
  have g : (S2 zs (a2 + 1) ++ (r ++ (J ++ [AO.lst l])))[2 + (r ++ J).length]? = some (.lst l) := by
    rw [S2_at, ← List.append_assoc]
    exact at_app
  refine ⟨d, a2 + 1, J ++ [.lst l], by omega, m4 d hd, q3.app (FreeL.one m3), ?_⟩
  have c : evI (FK (k + 1)) G 0 (n + 3) (.call 22 [(.slot j), (.lit (.int many))]) σ (S2 zs a2 ++ (r ++ (J ++ [.lst l]))) = .ok (.int x) (S2 zs (a2 + 1) ++ (r ++ (J ++ [.lst l]))) := by
    simp only [evI, evs, bd_ok, hσ, call1, Nat.mul_zero, hx]
  rw [evI, l1, bd_ok, c, bd_ok, idx_ref g, e, opt_some]
end
/-! ### _law_pick -/
theorem pick_ok (k m : Nat) (zs : List Int) (a : Int) (r : Sto) (l : List AV) (h0 : 0 ≤ a) (hr : LowR r) (hm : r[m]? = some (.lst l)) (hl : 0 < l.length) (hlo : lowL 0 l = true) : ∃ d ∈ l, tab G defs (k + 2) 0 23 [.ref 1, .ref (2 + m)] (S2 zs a ++ r) = .ok d (S2 zs (a + 1) ++ r) := by
  obtain ⟨x, x0, x1, hx⟩ := draw2 k zs a 90 r h0 (by decide)
  have hL : (0 : Int) < (l.length : Nat) := by omega
  have y0 := Int.emod_nonneg x (show ((l.length : Nat) : Int) ≠ 0 from by omega)
  have y1 := Int.emod_lt_of_pos x hL
  obtain ⟨d, hd, e⟩ := atI_mem (xs := l) y0 y1
  have lowd : lowA 0 d = true := by
    have : ∀ l : List AV, lowL 0 l = true → ∀ d ∈ l, lowA 0 d = true := fun l => by
      induction l with
      | nil => intro _ d h; cases h
      | cons x l ih =>
        intro h d hd
        have h : (lowA 0 x && lowL 0 l) = true := h
        rw [Bool.and_eq_true] at h
        rcases List.mem_cons.mp hd with q | q
        · rw [q]
          exact h.1
        · exact ih h.2 d q
    exact this l hlo d hd
  refine ⟨d, hd, ?_⟩
  have g : (S2 zs (a + 1) ++ r)[2 + m]? = some (.lst l) := by rw [S2_at]; exact hm
  have ln := len_ref g
  have md : ∀ s : Sto, opBin .mod (.int x) (.int (l.length : Nat)) s = .ok (.int (x % (l.length : Nat))) s := fun s => mod_ii hL
  show runD (FK (k + 1)) G d23 [.ref 1, .ref (2 + m)] (S2 zs a ++ r) = _
  refine runD_R (J := []) rfl hr lowd ?_
  rw [List.append_nil]
  refine rtE ?_
  have c : evI (FK (k + 1)) G 0 96 (.call 22 [(.slot 0), (.lit (.int 90))]) [some (.ref 1), some (.ref (2 + m))] (S2 zs a ++ r) = .ok (.int x) (S2 zs (a + 1) ++ r) := by
    simp only [evI, evs, bd_ok, List.getElem?_cons_zero, call1, Nat.mul_zero, hx]
  show evI (FK (k + 1)) G 0 99 (.idx (.slot 1) (.bin .mod (.bi .int [(.call 22 [(.slot 0), (.lit (.int 90))])]) (.bi .len [(.slot 1)]))) [some (.ref 1), some (.ref (2 + m))] (S2 zs a ++ r) = _
  have b : evI (FK (k + 1)) G 0 98 (.bin .mod (.bi .int [(.call 22 [(.slot 0), (.lit (.int 90))])]) (.bi .len [(.slot 1)])) [some (.ref 1), some (.ref (2 + m))] (S2 zs a ++ r) = .ok (.int (x % (l.length : Nat))) (S2 zs (a + 1) ++ r) := by
    have b1 : evI (FK (k + 1)) G 0 97 (.bi .int [(.call 22 [(.slot 0), (.lit (.int 90))])]) [some (.ref 1), some (.ref (2 + m))] (S2 zs a ++ r) = .ok (.int x) (S2 zs (a + 1) ++ r) := by
      rw [evI, evs, c, bd_ok, evs, bd_ok, bd_ok] <;> rfl
    have b2 : evI (FK (k + 1)) G 0 97 (.bi .len [(.slot 1)]) [some (.ref 1), some (.ref (2 + m))] (S2 zs (a + 1) ++ r) = .ok (.int (l.length : Nat)) (S2 zs (a + 1) ++ r) := by
      simp only [evI, evs, bd_ok, List.getElem?_cons_zero, List.getElem?_cons_succ, ln]
    rw [evI, b1, bd_ok, b2, bd_ok, md]
  rw [evI, show evI (FK (k + 1)) G 0 98 (.slot 1) [some (.ref 1), some (.ref (2 + m))] (S2 zs a ++ r) = .ok (.ref (2 + m)) (S2 zs a ++ r) from rfl, bd_ok, b, bd_ok, idx_ref g, e, opt_some]
section
variable {k n : Nat} {zs : List Int} {σ : Slots} {es : List IE}
/-- one of texts that are written there -/
theorem dv_pick (j : Nat) (ds : List Str) (hσ : σ[j]? = some (some (.ref 1))) (hd : 0 < ds.length) (hL : ds.length ≤ LINE) (he : ∀ s, evs (evI (FK (k + 2)) G 0 (n + 1)) es σ s = .ok (ss ds) s) : Dv (k + 2) (n + 3) zs σ (.call 23 [(.slot j), (.lst es)]) (fun v => ∃ x ∈ ds, v = .str x) := fun a r h0 hr => by
  have ls : (ss ds).length = ds.length := List.length_map ..
  have hr2 : LowR (r ++ [.lst (ss ds)]) := hr.addL (FreeL.one (low_ss 0 ds))
  obtain ⟨d, hd2, e⟩ := pick_ok k r.length zs a (r ++ [.lst (ss ds)]) (ss ds) h0 hr2 at_app (by rw [ls]; exact hd) (low_ss 0 ds)
  obtain ⟨x, hx, rfl⟩ := List.mem_map.mp hd2
  refine ⟨.str x, a + 1, [.lst (ss ds)], by omega, ⟨x, hx, rfl⟩, FreeL.one (low_ss 0 ds), ?_⟩
  have l1 : evI (FK (k + 2)) G 0 (n + 2) (.lst es) σ (S2 zs a ++ r) = .ok (.ref (2 + r.length)) (S2 zs a ++ (r ++ [.lst (ss ds)])) := by
    rw [evI, he, bd_ok, if_pos (by rw [ls]; exact hL), S2_len, S2_app]
  have v0 : ∀ s, evI (FK (k + 2)) G 0 (n + 2) (.slot j) σ s = .ok (.ref 1) s := fun s => by
    simp only [evI, hσ]
  rw [evI]
  simp only [evs, v0, l1, bd_ok, call1, Nat.mul_zero, e]
end
/-! ### _law_value -/
def PW (v : AV) : Prop := ∃ w : W, Bd w ∧ v = w.av
def O1 : Str := ⟨⟨[111, 49]⟩⟩
def O2 : Str := ⟨⟨[111, 50]⟩⟩
def YES : Str := ⟨⟨[121, 101, 115]⟩⟩
theorem bd_opt {x : Str} (h : okS x = true) : Bd (.opt x) := bdn (fun _ e => by cases e) h
theorem bd_txt {x : Str} (h : okS x = true) : Bd (.txt x) := bdn (fun _ e => by cases e) h
theorem bd_opts {xs : List Str} (h : okW (.opts xs) = true) : Bd (.opts xs) := bdn (fun _ e => by cases e) h
theorem PW.low {v : AV} (h : PW v) (n : Nat) : lowA n v = true := by
  obtain ⟨w, _, rfl⟩ := h
  exact W.low n w
theorem low_mem : ∀ {l : List AV}, (∀ x ∈ l, ∀ n, lowA n x = true) → ∀ n, lowL n l = true
  | [], _, _ => rfl
  | x :: l, h, n => by
    show (lowA n x && lowL n l) = true
    rw [h x List.mem_cons_self n, low_mem (fun y hy => h y (List.mem_cons_of_mem _ hy)) n] <;> rfl
theorem value_draw (k : Nat) (zs : List Int) (a : Int) (r : Sto) (h0 : 0 ≤ a) (hr : LowR r) : ∃ (w : W) (a2 : Int), 0 ≤ a2 ∧ Bd w ∧ tab G defs (k + 2) 0 33 [.ref 1] (S2 zs a ++ r) = .ok w.av (S2 zs a2 ++ r) := by
  have h2L : 2 ≤ LINE := by decide
  have d0 : Dvs (k + 1) 98 zs [some (.ref 1), none] [(.lit .non), (.tup [(.lit (.str ⟨⟨[116, 114, 117, 116, 104]⟩⟩)), (.lit (.bl true))]), (.tup [(.lit (.str ⟨⟨[116, 114, 117, 116, 104]⟩⟩)), (.lit (.bl false))]), (.tup [(.lit (.str ⟨⟨[110, 117, 109, 98, 101, 114]⟩⟩)), (.bin .sub (.call 22 [(.slot 0), (.lit (.int 20))]) (.lit (.int 10)))]), (.tup [(.lit (.str ⟨⟨[110, 117, 109, 98, 101, 114]⟩⟩)), (.lit (.int 9999))]), (.tup [(.lit (.str ⟨⟨[111, 112, 116, 105, 111, 110]⟩⟩)), (.lit (.str ⟨⟨[111, 49]⟩⟩))]), (.tup [(.lit (.str ⟨⟨[111, 112, 116, 105, 111, 110, 115]⟩⟩)), (.tup [(.lit (.str ⟨⟨[111, 49]⟩⟩))])]), (.tup [(.lit (.str ⟨⟨[116, 101, 120, 116]⟩⟩)), (.lit (.str ⟨⟨[121, 101, 115]⟩⟩))])]
      (fun l => ∃ i : Int, -1000000 ≤ i ∧ i ≤ 1000000 ∧ l = [W.non, .tr true, .tr false, .num i, .num 9999, .opt O1, .opts [O1], .txt YES].map W.av) := by
    intro a r h0 hr
    obtain ⟨x, x0, x1, hx⟩ := draw2 k zs a 20 r h0 (by decide)
    refine ⟨_, a + 1, [], by omega, ⟨x - 10, by omega, by omega, rfl⟩, FreeL.nil, ?_⟩
    rw [List.append_nil]
    have c : evI (FK (k + 1)) G 0 97 (.bin .sub (.call 22 [(.slot 0), (.lit (.int 20))]) (.lit (.int 10))) [some (.ref 1), none] (S2 zs a ++ r) = .ok (.int (x - 10)) (S2 zs (a + 1) ++ r) := by
      simp only [evI, evs, bd_ok, List.getElem?_cons_zero, call1, Nat.mul_zero, hx]
      rfl
    have t : evI (FK (k + 1)) G 0 98 (.tup [(.lit (.str ⟨⟨[110, 117, 109, 98, 101, 114]⟩⟩)), (.bin .sub (.call 22 [(.slot 0), (.lit (.int 20))]) (.lit (.int 10)))]) [some (.ref 1), none] (S2 zs a ++ r) = .ok (W.num (x - 10)).av (S2 zs (a + 1) ++ r) := by
      rw [evI, evs, show evI (FK (k + 1)) G 0 97 (.lit (.str ⟨⟨[110, 117, 109, 98, 101, 114]⟩⟩)) [some (.ref 1), none] (S2 zs a ++ r) = .ok (.str NU) (S2 zs a ++ r) from rfl, bd_ok, evs, c, bd_ok, evs, bd_ok, bd_ok, bd_ok] <;> rfl
    simp only [evs]
    rw [show evI (FK (k + 1)) G 0 98 (.lit .non) [some (.ref 1), none] (S2 zs a ++ r) = .ok .non (S2 zs a ++ r) from rfl, bd_ok]
    rw [show evI (FK (k + 1)) G 0 98 (.tup [(.lit (.str ⟨⟨[116, 114, 117, 116, 104]⟩⟩)), (.lit (.bl true))]) [some (.ref 1), none] (S2 zs a ++ r) = .ok (W.tr true).av (S2 zs a ++ r) from rfl, bd_ok]
    rw [show evI (FK (k + 1)) G 0 98 (.tup [(.lit (.str ⟨⟨[116, 114, 117, 116, 104]⟩⟩)), (.lit (.bl false))]) [some (.ref 1), none] (S2 zs a ++ r) = .ok (W.tr false).av (S2 zs a ++ r) from rfl, bd_ok, t, bd_ok] <;> rfl
  obtain ⟨l, a1, J, q1, ⟨i, i0, i1, rfl⟩, q3, q4⟩ := d0 a r h0 hr
  have bw : ∀ w ∈ [W.non, .tr true, .tr false, .num i, .num 9999, .opt O1, .opts [O1], .txt YES], Bd w := fun w hw => by
    simp only [List.mem_cons, List.not_mem_nil, or_false] at hw
    rcases hw with rfl | rfl | rfl | rfl | rfl | rfl | rfl | rfl
    · exact bd_non
    · exact bd_tr _
    · exact bd_tr _
    · exact bd_num ⟨i0, i1⟩
    · exact bd_num (by decide)
    · exact bd_opt (by decide +kernel)
    · exact bd_opts (by decide +kernel)
    · exact bd_txt (by decide +kernel)
  generalize hws : [W.non, .tr true, .tr false, .num i, .num 9999, .opt O1, .opts [O1], .txt YES] = ws at q4 bw
  have lw : ws.length = 8 := by rw [← hws]; rfl
  have lm : (ws.map W.av).length = 8 := by rw [List.length_map, lw]
  have lo : lowL 0 (ws.map W.av) = true := low_mem (fun x hx => by
    obtain ⟨w, _, rfl⟩ := List.mem_map.mp hx
    exact fun n => W.low n w) 0
  have hr2 : LowR (r ++ (J ++ [.lst (ws.map W.av)])) := hr.addL (q3.app (FreeL.one lo))
  obtain ⟨x, x0, x1, hx⟩ := draw2 k zs a1 8 (r ++ (J ++ [.lst (ws.map W.av)])) q1 (by decide)
  obtain ⟨d, hd, e⟩ := atI_mem (xs := ws.map W.av) x0 (by rw [lm]; exact x1)
  obtain ⟨w, hw, rfl⟩ := List.mem_map.mp hd
  refine ⟨w, a1 + 1, by omega, bw w hw, ?_⟩
  show runD (FK (k + 1)) G d33 [.ref 1] (S2 zs a ++ r) = _
  refine runD_R (J := J ++ [.lst (ws.map W.av)]) rfl hr (W.low 0 w) ?_
  have h8L : 8 ≤ LINE := by decide
  have p1 : exI (FK (k + 1)) G 100 (.asg (.nm 1) (.lst [(.lit .non), (.tup [(.lit (.str ⟨⟨[116, 114, 117, 116, 104]⟩⟩)), (.lit (.bl true))]), (.tup [(.lit (.str ⟨⟨[116, 114, 117, 116, 104]⟩⟩)), (.lit (.bl false))]), (.tup [(.lit (.str ⟨⟨[110, 117, 109, 98, 101, 114]⟩⟩)), (.bin .sub (.call 22 [(.slot 0), (.lit (.int 20))]) (.lit (.int 10)))]), (.tup [(.lit (.str ⟨⟨[110, 117, 109, 98, 101, 114]⟩⟩)), (.lit (.int 9999))]), (.tup [(.lit (.str ⟨⟨[111, 112, 116, 105, 111, 110]⟩⟩)), (.lit (.str ⟨⟨[111, 49]⟩⟩))]), (.tup [(.lit (.str ⟨⟨[111, 112, 116, 105, 111, 110, 115]⟩⟩)), (.tup [(.lit (.str ⟨⟨[111, 49]⟩⟩))])]), (.tup [(.lit (.str ⟨⟨[116, 101, 120, 116]⟩⟩)), (.lit (.str ⟨⟨[121, 101, 115]⟩⟩))])])) [some (.ref 1), none] (S2 zs a ++ r) = .ok (.nx [some (.ref 1), some (.ref (2 + (r ++ J).length))]) (S2 zs a1 ++ (r ++ (J ++ [.lst (ws.map W.av)]))) := by
    rw [exI, evI, q4, bd_ok, if_pos (by rw [lm]; exact h8L), bd_ok, S2_len, S2_app, List.append_assoc] <;> rfl
  have g : (S2 zs (a1 + 1) ++ (r ++ (J ++ [AO.lst (ws.map W.av)])))[2 + (r ++ J).length]? = some (.lst (ws.map W.av)) := by
    rw [S2_at, ← List.append_assoc]
    exact at_app
  refine (exs_nx p1).trans (rtE ?_)
  have c : evI (FK (k + 1)) G 0 98 (.call 22 [(.slot 0), (.lit (.int 8))]) [some (.ref 1), some (.ref (2 + (r ++ J).length))] (S2 zs a1 ++ (r ++ (J ++ [.lst (ws.map W.av)]))) = .ok (.int x) (S2 zs (a1 + 1) ++ (r ++ (J ++ [.lst (ws.map W.av)]))) := by
    simp only [evI, evs, bd_ok, List.getElem?_cons_zero, call1, Nat.mul_zero, hx]
  rw [evI, show evI (FK (k + 1)) G 0 98 (.slot 1) [some (.ref 1), some (.ref (2 + (r ++ J).length))] (S2 zs a1 ++ (r ++ (J ++ [.lst (ws.map W.av)]))) = .ok (.ref (2 + (r ++ J).length)) (S2 zs a1 ++ (r ++ (J ++ [.lst (ws.map W.av)]))) from rfl, bd_ok, c, bd_ok, idx_ref g, e, opt_some]
end L03


set_option Elab.async false
set_option linter.all false
set_option maxRecDepth 100000
namespace L03
open PySem Jp
def LfB : Lf → Prop
  | .num i => -1000000 ≤ i ∧ i ≤ 1000000
  | .opt o => okS o = true
  | _ => True
def isLeaf (v : AV) : Prop := ∃ l : Lf, LfB l ∧ v = l.av
theorem leaf_low {v : AV} (h : isLeaf v) (n : Nat) : lowA n v = true := by
  obtain ⟨l, _, rfl⟩ := h
  cases l <;> rfl
def ONES (P : AV → Prop) (m : Nat) (l : List AV) : Prop := l.length = m ∧ ∀ x ∈ l, P x
theorem ones_nil {P : AV → Prop} : ∀ l, l = [] → ONES P 0 l := fun l h => by
  rw [h]
  exact ⟨rfl, fun x hx => by cases hx⟩
theorem ones_cons {P : AV → Prop} {m : Nat} : ∀ l, (∃ x xs, P x ∧ ONES P m xs ∧ l = x :: xs) → ONES P (m + 1) l := fun l h => by
  obtain ⟨x, xs, h1, h2, rfl⟩ := h
  refine ⟨by rw [List.length_cons, h2.1], fun y hy => ?_⟩
  rcases List.mem_cons.mp hy with q | q
  · rw [q]
    exact h1
  · exact h2.2 y q
section
variable {k n m : Nat} {zs : List Int} {σ : Slots} {e : IE} {es : List IE} {P : AV → Prop}
theorem Dvs.mono {Ps Qs : List AV → Prop} (h : Dvs k n zs σ es Ps) (hq : ∀ l, Ps l → Qs l) : Dvs k n zs σ es Qs := fun a r h0 hr => by
  obtain ⟨l, a2, J, h1, h2, h3, h4⟩ := h a r h0 hr
  exact ⟨l, a2, J, h1, hq l h2, h3, h4⟩
theorem dn : Dvs k n zs σ [] (ONES P 0) := dvs_nil.mono ones_nil
theorem dc (h1 : Dv k n zs σ e P) (h2 : Dvs k n zs σ es (ONES P m)) : Dvs k n zs σ (e :: es) (ONES P (m + 1)) := (dvs_cons h1 h2).mono ones_cons
/-- a pair whose first item is a text -/
theorem dpair {K : Str} {P Q : AV → Prop} (h : Dv k (n + 1) zs σ e P) (hq : ∀ v, P v → Q (.tup [.str K, v])) : Dv k (n + 2) zs σ (.tup [(.lit (.str K)), e]) Q := by
  have hL : 2 ≤ LINE := by decide
  refine (dv_tup (dvs_cons (dv_pure (v := .str K) fun s => rfl) (dvs_cons h dvs_nil)) (fun l hl => ?_)).mono fun v hv => ?_
  · obtain ⟨x, xs, _, ⟨y, ys, _, rfl, rfl⟩, rfl⟩ := hl
    exact hL
  · obtain ⟨l, ⟨x, xs, rfl, ⟨y, ys, hy, rfl, rfl⟩, rfl⟩, rfl⟩ := hv
    exact hq y hy
theorem dtrip {K : Str} {e2 : IE} {P P2 Q : AV → Prop} (h : Dv k (n + 1) zs σ e P) (h2 : Dv k (n + 1) zs σ e2 P2) (hq : ∀ v u, P v → P2 u → Q (.tup [.str K, v, u])) : Dv k (n + 2) zs σ (.tup [(.lit (.str K)), e, e2]) Q := by
  have hL : 3 ≤ LINE := by decide
  refine (dv_tup (dvs_cons (dv_pure (v := .str K) fun s => rfl) (dvs_cons h (dvs_cons h2 dvs_nil))) (fun l hl => ?_)).mono fun v hv => ?_
  · obtain ⟨x, xs, _, ⟨y, ys, _, ⟨z, zs, _, rfl, rfl⟩, rfl⟩, rfl⟩ := hl
    exact hL
  · obtain ⟨l, ⟨x, xs, rfl, ⟨y, ys, hy, ⟨z, zs, hz, rfl, rfl⟩, rfl⟩, rfl⟩, rfl⟩ := hv
    exact hq y z hy hz
end
def txE (ds : List Str) : List IE := ds.map fun x => .lit (.str x)
theorem evs_txE (k n : Nat) (σ : Slots) : ∀ (ds : List Str) (s : Sto), evs (evI (FK k) G 0 (n + 1)) (txE ds) σ s = .ok (ss ds) s
  | [], s => rfl
  | x :: ds, s => by
    show ((evI (FK k) G 0 (n + 1) (.lit (.str x)) σ s).bd fun v s => (evs (evI (FK k) G 0 (n + 1)) (txE ds) σ s).bd fun vs s => Rs.ok (v :: vs) s) = _
    rw [show evI (FK k) G 0 (n + 1) (.lit (.str x)) σ s = .ok (.str x) s from rfl, bd_ok, evs_txE k n σ ds s] <;> rfl
theorem dpk {k n : Nat} {zs : List Int} {σ : Slots} (j : Nat) (ds : List Str) (hσ : σ[j]? = some (some (.ref 1))) (hd : 0 < ds.length) (hL : ds.length ≤ LINE) : Dv (k + 2) (n + 3) zs σ (.call 23 [(.slot j), (.lst (txE ds))]) (fun v => ∃ x ∈ ds, v = .str x) := dv_pick j ds hσ hd hL fun s => evs_txE _ _ _ ds s
theorem dix {k n : Nat} {zs : List Int} {σ : Slots} (j : Nat) (many : Int) (is : List Int) (hm : 0 < many) (hσ : σ[j]? = some (some (.ref 1))) (hl : many = (is.length : Nat)) (hL : is.length ≤ LINE) : Dv (k + 1) (n + 4) zs σ (.idx (.lst (is.map fun i => .lit (.int i))) (.call 22 [(.slot j), (.lit (.int many))])) (fun v => ∃ i ∈ is, v = .int i) := by
  have ev : ∀ (is : List Int) (s : Sto), evs (evI (FK (k + 1)) G 0 (n + 2)) (is.map fun i => .lit (.int i)) σ s = .ok (is.map AV.int) s := fun is => by
    induction is with
    | nil => intro s; rfl
    | cons i is ih =>
      intro s
      show ((evI (FK (k + 1)) G 0 (n + 2) (.lit (.int i)) σ s).bd fun v s => (evs (evI (FK (k + 1)) G 0 (n + 2)) (is.map fun i => .lit (.int i)) σ s).bd fun vs s => Rs.ok (v :: vs) s) = _
      rw [show evI (FK (k + 1)) G 0 (n + 2) (.lit (.int i)) σ s = .ok (.int i) s from rfl, bd_ok, ih] <;> rfl
  refine dv_idx (Ps := fun l => l = is.map AV.int) j many hm hσ (fun a r h0 _ => ⟨_, a, [], h0, rfl, FreeL.nil, by rw [List.append_nil]; exact ev is _⟩) fun l h => ?_
  subst h
  refine ⟨by rw [List.length_map]; exact hl, by rw [List.length_map]; exact hL, low_ints 0 is, fun x hx => ?_⟩
  obtain ⟨i, hi, rfl⟩ := List.mem_map.mp hx
  exact ⟨i, hi, rfl⟩
/-! ### leaves -/
def NMs : List Str := [⟨⟨[97]⟩⟩, ⟨⟨[98]⟩⟩, ⟨⟨[99]⟩⟩, ⟨⟨[115, 117, 109]⟩⟩, ⟨⟨[104, 97, 115]⟩⟩]
def NM2 : List Str := [⟨⟨[97]⟩⟩, ⟨⟨[98]⟩⟩, ⟨⟨[109]⟩⟩]
def OPs : List Str := [O1, O2, ⟨⟨[114, 111, 119, 49]⟩⟩]
def FNs : List Str := [⟨⟨[97, 110, 115, 119, 101, 114, 101, 100]⟩⟩, Fn.count.s, Fn.sum.s, Fn.any.s, Fn.all.s, Fn.least.s, Fn.greatest.s]
def AKs : List Str := [⟨⟨[97]⟩⟩, ⟨⟨[109]⟩⟩, ⟨⟨[110]⟩⟩, ⟨⟨[99, 111, 117, 110, 116]⟩⟩]
def HSs : List Str := [⟨⟨[115]⟩⟩, ⟨⟨[97]⟩⟩]
def OP2 : List Str := [O1, O2]
def lf1 : IE := .lst [(.tup [(.lit (.str NU)), (.idx (.lst (([0, 1, 7, 9999] : List Int).map fun i => .lit (.int i))) (.call 22 [(.slot 0), (.lit (.int 4))]))]), (.tup [(.lit (.str TR)), (.cmp .eq (.call 22 [(.slot 0), (.lit (.int 2))]) (.lit (.int 1)))]), (.tup [(.lit (.str OT)), (.call 23 [(.slot 0), (.lst (txE OPs))])]), (.tup [(.lit (.str ⟨⟨[114, 111, 119]⟩⟩))])]
def lf2 : IE := .lst [(.tup [(.lit (.str ⟨⟨[110, 97, 109, 101]⟩⟩)), (.call 23 [(.slot 0), (.lst (txE NMs))])]), (.tup [(.lit (.str ⟨⟨[110, 97, 109, 101]⟩⟩)), (.call 23 [(.slot 0), (.lst (txE NM2))])])]
def lf3 : IE := .tup [(.lit (.str ⟨⟨[97, 115, 107]⟩⟩)), (.call 23 [(.slot 0), (.lst (txE FNs))]), (.call 23 [(.slot 0), (.lst (txE AKs))])]
def lf4 : IE := .tup [(.lit (.str ⟨⟨[104, 97, 115]⟩⟩)), (.call 23 [(.slot 0), (.lst (txE HSs))]), (.call 23 [(.slot 0), (.lst (txE OP2))])]
def lfB : List IS := [(.asg (.nm 3) lf1), (.asg (.nm 3) (.bin .add (.slot 3) lf2)), (.ex (.me .append (.slot 3) [lf3])), (.ret (.idx (.bin .add (.slot 3) (.lst [lf4])) (.call 22 [(.slot 0), (.lit (.int 8))])))]
section
variable {k n : Nat} {zs : List Int} {σ : Slots} (hσ : σ[0]? = some (some (.ref 1)))
include hσ
/-- a list that is made -/
theorem d_lst {m : Nat} {es : List IE} (h : Dvs (k + 2) n zs σ es (ONES isLeaf m)) (hm : m ≤ 100) (a : Int) (r : Sto) (h0 : 0 ≤ a) (hr : LowR r) : ∃ (l : List AV) (a2 : Int) (J : Sto), 0 ≤ a2 ∧ ONES isLeaf m l ∧ FreeL J ∧ evI (FK (k + 2)) G 0 (n + 1) (.lst es) σ (S2 zs a ++ r) = .ok (.ref (2 + (r ++ J).length)) (S2 zs a2 ++ (r ++ (J ++ [.lst l]))) := by
  have hL : 2000 ≤ LINE := by decide
  obtain ⟨l, a2, J, q1, q2, q3, q4⟩ := h a r h0 hr
  refine ⟨l, a2, J, q1, q2, q3, ?_⟩
  rw [evI, q4, bd_ok, if_pos (by rw [q2.1]; omega), S2_len, S2_app, List.append_assoc]
theorem d_lf1 : Dvs (k + 2) (n + 6) zs σ [(.tup [(.lit (.str NU)), (.idx (.lst (([0, 1, 7, 9999] : List Int).map fun i => .lit (.int i))) (.call 22 [(.slot 0), (.lit (.int 4))]))]), (.tup [(.lit (.str TR)), (.cmp .eq (.call 22 [(.slot 0), (.lit (.int 2))]) (.lit (.int 1)))]), (.tup [(.lit (.str OT)), (.call 23 [(.slot 0), (.lst (txE OPs))])]), (.tup [(.lit (.str ⟨⟨[114, 111, 119]⟩⟩))])] (ONES isLeaf 4) := by
  have n1 : Dv (k + 2) (n + 6) zs σ (.tup [(.lit (.str NU)), (.idx (.lst (([0, 1, 7, 9999] : List Int).map fun i => .lit (.int i))) (.call 22 [(.slot 0), (.lit (.int 4))]))]) isLeaf := dpair (dix (n := n + 1) 0 4 [0, 1, 7, 9999] (by decide) hσ rfl (by decide)) fun v hv => by
    obtain ⟨i, hi, rfl⟩ := hv
    refine ⟨.num i, ?_, rfl⟩
    simp only [List.mem_cons, List.not_mem_nil, or_false] at hi
    rcases hi with rfl | rfl | rfl | rfl <;> exact ⟨by decide, by decide⟩
  have t1 : Dv (k + 2) (n + 5) zs σ (.cmp .eq (.call 22 [(.slot 0), (.lit (.int 2))]) (.lit (.int 1))) (fun v => ∃ b, v = .bl b) := fun a r h0 hr => by
    obtain ⟨v, a2, J, q1, ⟨x, x0, x1, rfl⟩, q3, q4⟩ := dv_draw (k := k + 1) (n := n + 2) (zs := zs) (σ := σ) 0 2 (by decide) hσ a r h0 hr
    refine ⟨.bl (decide (x = 1)), a2, J, q1, ⟨_, rfl⟩, q3, ?_⟩
    have q : ∀ s : Sto, opCmp .eq (.int x) (.int 1) s = some (decide (x = 1)) := fun s => eq_ii
    rw [evI, q4, bd_ok]
    show opt ((opCmp .eq (.int x) (.int 1) (S2 zs a2 ++ (r ++ J))).map AV.bl) (S2 zs a2 ++ (r ++ J)) = _
    rw [q] <;> rfl
  have t2 : Dv (k + 2) (n + 6) zs σ (.tup [(.lit (.str TR)), (.cmp .eq (.call 22 [(.slot 0), (.lit (.int 2))]) (.lit (.int 1)))]) isLeaf := dpair t1 fun v hv => by
    obtain ⟨b, rfl⟩ := hv
    exact ⟨.tr b, trivial, rfl⟩
  have o1 : Dv (k + 2) (n + 6) zs σ (.tup [(.lit (.str OT)), (.call 23 [(.slot 0), (.lst (txE OPs))])]) isLeaf := dpair (dpk (n := n + 2) 0 OPs hσ (by decide) (by decide)) fun v hv => by
    obtain ⟨x, hx, rfl⟩ := hv
    refine ⟨.opt x, ?_, rfl⟩
    simp only [OPs, List.mem_cons, List.not_mem_nil, or_false] at hx
    rcases hx with rfl | rfl | rfl <;> (show okS _ = true; decide +kernel)
  have r1 : Dv (k + 2) (n + 6) zs σ (.tup [(.lit (.str ⟨⟨[114, 111, 119]⟩⟩))]) isLeaf := (dv_pure (v := Lf.row.av) fun s => rfl).mono fun v hv => ⟨.row, trivial, hv⟩
  exact dc n1 (dc t2 (dc o1 (dc r1 dn)))
theorem d_nm (ds : List Str) (hd : 0 < ds.length) (hL : ds.length ≤ LINE) : Dv (k + 2) (n + 4) zs σ (.tup [(.lit (.str ⟨⟨[110, 97, 109, 101]⟩⟩)), (.call 23 [(.slot 0), (.lst (txE ds))])]) isLeaf := dpair (dpk (n := n) 0 ds hσ hd hL) fun v hv => by
  obtain ⟨x, hx, rfl⟩ := hv
  exact ⟨.name x, trivial, rfl⟩
theorem d_lf2 : Dvs (k + 2) (n + 4) zs σ [(.tup [(.lit (.str ⟨⟨[110, 97, 109, 101]⟩⟩)), (.call 23 [(.slot 0), (.lst (txE NMs))])]), (.tup [(.lit (.str ⟨⟨[110, 97, 109, 101]⟩⟩)), (.call 23 [(.slot 0), (.lst (txE NM2))])])] (ONES isLeaf 2) := dc (d_nm hσ NMs (by decide) (by decide)) (dc (d_nm hσ NM2 (by decide) (by decide)) dn)
theorem d_lf3 : Dv (k + 2) (n + 4) zs σ lf3 isLeaf := dtrip (dpk (n := n) 0 FNs hσ (by decide) (by decide)) (dpk (n := n) 0 AKs hσ (by decide) (by decide)) fun v u hv hu => by
  obtain ⟨x, hx, rfl⟩ := hv
  obtain ⟨y, hy, rfl⟩ := hu
  simp only [FNs, List.mem_cons, List.not_mem_nil, or_false] at hx
  rcases hx with rfl | rfl | rfl | rfl | rfl | rfl | rfl
  · exact ⟨.askA y, trivial, rfl⟩
  · exact ⟨.ask .count y, trivial, rfl⟩
  · exact ⟨.ask .sum y, trivial, rfl⟩
  · exact ⟨.ask .any y, trivial, rfl⟩
  · exact ⟨.ask .all y, trivial, rfl⟩
  · exact ⟨.ask .least y, trivial, rfl⟩
  · exact ⟨.ask .greatest y, trivial, rfl⟩
theorem d_lf4 : Dv (k + 2) (n + 4) zs σ lf4 isLeaf := dtrip (dpk (n := n) 0 HSs hσ (by decide) (by decide)) (dpk (n := n) 0 OP2 hσ (by decide) (by decide)) fun v u hv hu => by
  obtain ⟨x, hx, rfl⟩ := hv
  obtain ⟨y, hy, rfl⟩ := hu
  exact ⟨.has x y, trivial, rfl⟩
end
theorem ones_low {m : Nat} {l : List AV} (h : ONES isLeaf m l) (n : Nat) : lowL n l = true := low_mem (fun x hx => leaf_low (h.2 x hx)) n
theorem add_rr {s : Sto} {m p : Nat} {xs ys : List AV} (h1 : s[m]? = some (.lst xs)) (h2 : s[p]? = some (.lst ys)) (hl : xs.length + ys.length ≤ LINE) : opBin .add (.ref m) (.ref p) s = .ok (.ref s.length) (s ++ [.lst (xs ++ ys)]) := by
  show (match s[m]?, s[p]? with
    | some (.lst xs), some (.lst ys) => if xs.length + ys.length ≤ LINE then Rs.ok (AV.ref s.length) (s ++ [AO.lst (xs ++ ys)]) else .bad
    | _, _ => .bad) = _
  rw [h1, h2]
  show (if xs.length + ys.length ≤ LINE then _ else _) = _
  rw [if_pos hl]
theorem ones_app {m p : Nat} {l1 l2 : List AV} (h1 : ONES isLeaf m l1) (h2 : ONES isLeaf p l2) : ONES isLeaf (m + p) (l1 ++ l2) := ⟨by rw [List.length_append, h1.1, h2.1], fun x hx => by
  rcases List.mem_append.mp hx with q | q
  · exact h1.2 x q
  · exact h2.2 x q⟩
theorem leaf_draw (k n : Nat) (zs : List Int) (a : Int) (r : Sto) (dp kd : AV) (c3 c4 : Option AV) (h0 : 0 ≤ a) (hr : LowR r) : ∃ (l : Lf) (a2 : Int) (J : Sto), 0 ≤ a2 ∧ LfB l ∧ exs (exI (FK (k + 2)) G (n + 12)) lfB [some (.ref 1), some dp, some kd, c3, c4] (S2 zs a ++ r) = .ok (.rt l.av) (S2 zs a2 ++ (r ++ J)) := by
  have hL : 2000 ≤ LINE := by decide
  -- the first four
  obtain ⟨l1, a1, J1, h1, o1, f1, e1⟩ := d_lst (σ := [some (.ref 1), some dp, some kd, c3, c4]) rfl (d_lf1 (k := k) (n := n + 4) (zs := zs) (σ := [some (.ref 1), some dp, some kd, c3, c4]) rfl) (by decide) a r h0 hr
  have e1 : evI (FK (k + 2)) G 0 (n + 11) lf1 [some (.ref 1), some dp, some kd, c3, c4] (S2 zs a ++ r) = .ok (.ref (2 + (r ++ J1).length)) (S2 zs a1 ++ (r ++ (J1 ++ [.lst l1]))) := e1
  have p1 : exI (FK (k + 2)) G (n + 12) (.asg (.nm 3) lf1) [some (.ref 1), some dp, some kd, c3, c4] (S2 zs a ++ r) = .ok (.nx [some (.ref 1), some dp, some kd, some (.ref (2 + (r ++ J1).length)), c4]) (S2 zs a1 ++ (r ++ (J1 ++ [.lst l1]))) := by
    rw [exI, e1] <;> rfl
  have fr1 : FreeL (J1 ++ [.lst l1]) := f1.app (FreeL.one (ones_low o1 0))
  have g1 : (r ++ (J1 ++ [AO.lst l1]))[(r ++ J1).length]? = some (.lst l1) := by rw [← List.append_assoc]; exact at_app
  generalize hR1 : r ++ (J1 ++ [AO.lst l1]) = r1 at p1 g1
  have hr1 : LowR r1 := by rw [← hR1]; exact hr.addL fr1
  generalize (r ++ J1).length = i1 at p1 g1
  -- two more
  obtain ⟨l2, a2, J2, h2, o2, f2, e2⟩ := d_lst (σ := [some (.ref 1), some dp, some kd, some (.ref (2 + i1)), c4]) rfl (d_lf2 (k := k) (n := n + 5) (zs := zs) (σ := [some (.ref 1), some dp, some kd, some (.ref (2 + i1)), c4]) rfl) (by decide) a1 r1 h1 hr1
  have e2 : evI (FK (k + 2)) G 0 (n + 10) lf2 [some (.ref 1), some dp, some kd, some (.ref (2 + i1)), c4] (S2 zs a1 ++ r1) = .ok (.ref (2 + (r1 ++ J2).length)) (S2 zs a2 ++ (r1 ++ (J2 ++ [.lst l2]))) := e2
  have fr2 : FreeL (J2 ++ [.lst l2]) := f2.app (FreeL.one (ones_low o2 0))
  have hr2 : LowR (r1 ++ (J2 ++ [.lst l2])) := hr1.addL fr2
  have g2 : (r1 ++ (J2 ++ [AO.lst l2]))[(r1 ++ J2).length]? = some (.lst l2) := by rw [← List.append_assoc]; exact at_app
  have g1b := at_left g1 (J2 ++ [.lst l2])
  generalize hR2 : r1 ++ (J2 ++ [AO.lst l2]) = r2 at e2 g2 g1b hr2
  have o12 := ones_app o1 o2
  have ad := add_rr (s := S2 zs a2 ++ r2) (m := 2 + i1) (p := 2 + (r1 ++ J2).length) (by rw [S2_at]; exact g1b) (by rw [S2_at]; exact g2) (by rw [o1.1, o2.1]; omega)
  rw [S2_len, S2_app] at ad
  have p2 : exI (FK (k + 2)) G (n + 12) (.asg (.nm 3) (.bin .add (.slot 3) lf2)) [some (.ref 1), some dp, some kd, some (.ref (2 + i1)), c4] (S2 zs a1 ++ r1) = .ok (.nx [some (.ref 1), some dp, some kd, some (.ref (2 + r2.length)), c4]) (S2 zs a2 ++ (r2 ++ [.lst (l1 ++ l2)])) := by
    have b : evI (FK (k + 2)) G 0 (n + 11) (.bin .add (.slot 3) lf2) [some (.ref 1), some dp, some kd, some (.ref (2 + i1)), c4] (S2 zs a1 ++ r1) = .ok (.ref (2 + r2.length)) (S2 zs a2 ++ (r2 ++ [.lst (l1 ++ l2)])) := by
      rw [evI, show evI (FK (k + 2)) G 0 (n + 10) (.slot 3) [some (.ref 1), some dp, some kd, some (.ref (2 + i1)), c4] (S2 zs a1 ++ r1) = .ok (.ref (2 + i1)) (S2 zs a1 ++ r1) from rfl, bd_ok, e2, bd_ok, ad]
    rw [exI, b] <;> rfl
  have hr3 : LowR (r2 ++ [.lst (l1 ++ l2)]) := hr2.addL (FreeL.one (ones_low o12 0))
  -- one more
  obtain ⟨v3, a3, J3, h3, q3, f3, e3⟩ := d_lf3 (k := k) (n := n + 6) (zs := zs) (σ := [some (.ref 1), some dp, some kd, some (.ref (2 + r2.length)), c4]) rfl a2 (r2 ++ [.lst (l1 ++ l2)]) h2 hr3
  have p3 : exI (FK (k + 2)) G (n + 12) (.ex (.me .append (.slot 3) [lf3])) [some (.ref 1), some dp, some kd, some (.ref (2 + r2.length)), c4] (S2 zs a2 ++ (r2 ++ [.lst (l1 ++ l2)])) = .ok (.nx [some (.ref 1), some dp, some kd, some (.ref (2 + r2.length)), c4]) (S2 zs a3 ++ (r2 ++ (.lst (l1 ++ l2 ++ [v3]) :: J3))) := by
    have ga : (S2 zs a2 ++ (r2 ++ [AO.lst (l1 ++ l2)]))[2 + r2.length]? = some (.lst (l1 ++ l2)) := by rw [S2_at]; exact at_app
    have gb : (S2 zs a3 ++ (r2 ++ (AO.lst (l1 ++ l2) :: J3)))[2 + r2.length]? = some (.lst (l1 ++ l2)) := by rw [S2_at]; exact at_app
    have m := mt_app ga
    have ap := app_ref (x := v3) gb (by rw [o12.1]; omega)
    rw [S2_set, List.set_append_right _ _ (Nat.le_refl _), Nat.sub_self] at ap
    have e3 : evI (FK (k + 2)) G 0 (n + 10) lf3 [some (.ref 1), some dp, some kd, some (.ref (2 + r2.length)), c4] (S2 zs a2 ++ (r2 ++ [.lst (l1 ++ l2)])) = .ok v3 (S2 zs a3 ++ (r2 ++ (.lst (l1 ++ l2) :: J3))) := by
      have z := e3
      rw [List.append_assoc] at z
      exact z
    have me : evI (FK (k + 2)) G 0 (n + 11) (.me .append (.slot 3) [lf3]) [some (.ref 1), some dp, some kd, some (.ref (2 + r2.length)), c4] (S2 zs a2 ++ (r2 ++ [.lst (l1 ++ l2)])) = .ok .non (S2 zs a3 ++ (r2 ++ (.lst (l1 ++ l2 ++ [v3]) :: J3))) := by
      rw [evI, show evI (FK (k + 2)) G 0 (n + 10) (.slot 3) [some (.ref 1), some dp, some kd, some (.ref (2 + r2.length)), c4] (S2 zs a2 ++ (r2 ++ [.lst (l1 ++ l2)])) = .ok (.ref (2 + r2.length)) (S2 zs a2 ++ (r2 ++ [.lst (l1 ++ l2)])) from rfl, bd_ok, m, if_pos rfl, evs, e3, bd_ok, evs, bd_ok, bd_ok, ap] <;> rfl
    rw [exI, me] <;> rfl
  have o3 : ONES isLeaf 1 [v3] := ⟨rfl, fun x hx => by rw [List.mem_singleton] at hx; rw [hx]; exact q3⟩
  have o123 := ones_app o12 o3
  have hr4 : LowR (r2 ++ (.lst (l1 ++ l2 ++ [v3]) :: J3)) := hr2.addL (FreeL.app (J := [.lst (l1 ++ l2 ++ [v3])]) (FreeL.one (ones_low o123 0)) f3)
  have g3 : (r2 ++ (AO.lst (l1 ++ l2 ++ [v3]) :: J3))[r2.length]? = some (.lst (l1 ++ l2 ++ [v3])) := at_app
  generalize hR4 : r2 ++ (AO.lst (l1 ++ l2 ++ [v3]) :: J3) = r4 at p3 hr4 g3
  -- the last one, and one of them
  obtain ⟨l4, a4, J4, h4, o4, f4, e4⟩ := d_lst (σ := [some (.ref 1), some dp, some kd, some (.ref (2 + r2.length)), c4]) rfl (dc (d_lf4 (k := k) (n := n + 4) (zs := zs) (σ := [some (.ref 1), some dp, some kd, some (.ref (2 + r2.length)), c4]) rfl) dn) (by decide) a3 r4 h3 hr4
  have e4 : evI (FK (k + 2)) G 0 (n + 9) (.lst [lf4]) [some (.ref 1), some dp, some kd, some (.ref (2 + r2.length)), c4] (S2 zs a3 ++ r4) = .ok (.ref (2 + (r4 ++ J4).length)) (S2 zs a4 ++ (r4 ++ (J4 ++ [.lst l4]))) := e4
  have fr4 : FreeL (J4 ++ [.lst l4]) := f4.app (FreeL.one (ones_low o4 0))
  have hr5 : LowR (r4 ++ (J4 ++ [.lst l4])) := hr4.addL fr4
  have g4 : (r4 ++ (J4 ++ [AO.lst l4]))[(r4 ++ J4).length]? = some (.lst l4) := by rw [← List.append_assoc]; exact at_app
  have g3b := at_left g3 (J4 ++ [.lst l4])
  generalize hR5 : r4 ++ (J4 ++ [AO.lst l4]) = r5 at e4 g4 g3b hr5
  have o1234 := ones_app o123 o4
  have ad5 := add_rr (s := S2 zs a4 ++ r5) (m := 2 + r2.length) (p := 2 + (r4 ++ J4).length) (by rw [S2_at]; exact g3b) (by rw [S2_at]; exact g4) (by rw [o123.1, o4.1]; omega)
  rw [S2_len, S2_app] at ad5
  have hr6 : LowR (r5 ++ [.lst (l1 ++ l2 ++ [v3] ++ l4)]) := hr5.addL (FreeL.one (ones_low o1234 0))
  obtain ⟨x, x0, x1, hx⟩ := draw2 (k + 1) zs a4 8 (r5 ++ [.lst (l1 ++ l2 ++ [v3] ++ l4)]) h4 (by decide)
  obtain ⟨d, hd, e⟩ := atI_mem (xs := l1 ++ l2 ++ [v3] ++ l4) x0 (by rw [o1234.1]; exact x1)
  obtain ⟨l, hl, rfl⟩ := o1234.2 d hd
  have g6 : (S2 zs (a4 + 1) ++ (r5 ++ [AO.lst (l1 ++ l2 ++ [v3] ++ l4)]))[2 + r5.length]? = some (.lst (l1 ++ l2 ++ [v3] ++ l4)) := by rw [S2_at]; exact at_app
  have fin : evI (FK (k + 2)) G 0 (n + 11) (.idx (.bin .add (.slot 3) (.lst [lf4])) (.call 22 [(.slot 0), (.lit (.int 8))])) [some (.ref 1), some dp, some kd, some (.ref (2 + r2.length)), c4] (S2 zs a3 ++ r4) = .ok l.av (S2 zs (a4 + 1) ++ (r5 ++ [.lst (l1 ++ l2 ++ [v3] ++ l4)])) := by
    have b : evI (FK (k + 2)) G 0 (n + 10) (.bin .add (.slot 3) (.lst [lf4])) [some (.ref 1), some dp, some kd, some (.ref (2 + r2.length)), c4] (S2 zs a3 ++ r4) = .ok (.ref (2 + r5.length)) (S2 zs a4 ++ (r5 ++ [.lst (l1 ++ l2 ++ [v3] ++ l4)])) := by
      rw [evI, show evI (FK (k + 2)) G 0 (n + 9) (.slot 3) [some (.ref 1), some dp, some kd, some (.ref (2 + r2.length)), c4] (S2 zs a3 ++ r4) = .ok (.ref (2 + r2.length)) (S2 zs a3 ++ r4) from rfl, bd_ok, e4, bd_ok, ad5]
    have c : evI (FK (k + 2)) G 0 (n + 10) (.call 22 [(.slot 0), (.lit (.int 8))]) [some (.ref 1), some dp, some kd, some (.ref (2 + r2.length)), c4] (S2 zs a4 ++ (r5 ++ [.lst (l1 ++ l2 ++ [v3] ++ l4)])) = .ok (.int x) (S2 zs (a4 + 1) ++ (r5 ++ [.lst (l1 ++ l2 ++ [v3] ++ l4)])) := by
      simp only [evI, evs, bd_ok, List.getElem?_cons_zero, call1, Nat.mul_zero, hx]
    rw [evI, b, bd_ok, c, bd_ok, idx_ref g6, e, opt_some]
  -- all that was made lies behind r
  have all : ∃ J, r5 ++ [AO.lst (l1 ++ l2 ++ [v3] ++ l4)] = r ++ J := by
    refine ⟨(J1 ++ [.lst l1]) ++ ((J2 ++ [.lst l2]) ++ ((.lst (l1 ++ l2 ++ [v3]) :: J3) ++ ((J4 ++ [.lst l4]) ++ [.lst (l1 ++ l2 ++ [v3] ++ l4)]))), ?_⟩
    rw [← hR5, ← hR4, ← hR2, ← hR1]
    simp only [List.append_assoc]
  obtain ⟨J, eJ⟩ := all
  rw [eJ] at fin
  exact ⟨l, a4 + 1, J, by omega, hl, (exs_nx p1).trans ((exs_nx p2).trans ((exs_nx p3).trans (rtE fin)))⟩
end L03


set_option Elab.async false
set_option linter.all false
set_option maxRecDepth 100000
namespace L03
open PySem Jp
def EB : Ex → Prop
  | .lf l => LfB l
  | .nt a => EB a
  | .mi a => EB a
  | .op _ a b => EB a ∧ EB b
  | .ife a b c => EB a ∧ EB b ∧ EB c
def SZ : Nat → Nat
  | 0 => 1
  | d + 1 => 1 + 3 * SZ d
theorem SZ_pos (d : Nat) : 1 ≤ SZ d := by
  cases d with
  | zero => exact Nat.le_refl 1
  | succ d =>
    show 1 ≤ 1 + 3 * SZ d
    omega
def sgS : List Str := [(Sg.or).s, (Sg.and).s, (Sg.lk true).s, (Sg.lk false).s, (Sg.cm .lt).s, (Sg.cm .le).s, (Sg.cm .gt).s, (Sg.cm .ge).s, (Sg.ca .ad).s, (Sg.ca .sb).s, (Sg.ca .ml).s, (Sg.qq).s, (Sg.and).s, (Sg.ca .ad).s]
theorem sgS_of {x : Str} (h : x ∈ sgS) : ∃ g : Sg, x = g.s := by
  simp only [sgS, List.mem_cons, List.not_mem_nil, or_false] at h
  rcases h with h | h | h | h | h | h | h | h | h | h | h | h | h | h <;> exact ⟨_, h⟩
theorem tup2 {k n : Nat} {σ : Slots} {b c : IE} {x y : AV} {s s1 s2 : Sto} (h1 : evI (FK k) G 0 (n + 1) b σ s = .ok x s1) (h2 : evI (FK k) G 0 (n + 1) c σ s1 = .ok y s2) : evI (FK k) G 0 (n + 2) (.tup [b, c]) σ s = .ok (.tup [x, y]) s2 := by
  have hL : 2 ≤ LINE := by decide
  rw [evI]
  simp only [evs, h1, h2, bd_ok, List.length_cons, List.length_nil, Nat.reduceAdd, hL, if_true]
theorem tup4 {k n : Nat} {σ : Slots} {b c d e : IE} {x y z u : AV} {s s1 s2 s3 s4 : Sto} (h1 : evI (FK k) G 0 (n + 1) b σ s = .ok x s1) (h2 : evI (FK k) G 0 (n + 1) c σ s1 = .ok y s2) (h3 : evI (FK k) G 0 (n + 1) d σ s2 = .ok z s3) (h4 : evI (FK k) G 0 (n + 1) e σ s3 = .ok u s4) : evI (FK k) G 0 (n + 2) (.tup [b, c, d, e]) σ s = .ok (.tup [x, y, z, u]) s4 := by
  have hL : 4 ≤ LINE := by decide
  rw [evI]
  simp only [evs, h1, h2, h3, h4, bd_ok, List.length_cons, List.length_nil, Nat.reduceAdd, hL, if_true]
abbrev Sy (d : Nat) (x : Int) (c3 c4 : Option AV) : Slots := [some (.ref 1), some (.int (d : Nat)), some (.int x), c3, c4]
def AnyD (K d : Nat) : Prop := ∀ (zs : List Int) (a : Int) (r : Sto), 0 ≤ a → LowR r → ∃ (e : Ex) (a2 : Int), 0 ≤ a2 ∧ EB e ∧ ht e ≤ d ∧ (pre e).length ≤ SZ d ∧ tab G defs K 0 24 [.ref 1, .int (d : Nat)] (S2 zs a ++ r) = .ok (enc e) (S2 zs a2 ++ r)
theorem sub1 (K n d : Nat) (x : Int) (c3 c4 : Option AV) (s : Sto) : evI (FK K) G 0 (n + 3) (.call 24 [(.slot 0), (.bin .sub (.slot 1) (.lit (.int 1)))]) (Sy (d + 1) x c3 c4) s = tab G defs K 0 24 [.ref 1, .int (d : Nat)] s := by
  have e : (((d + 1 : Nat) : Int) - 1) = (d : Nat) := by omega
  simp only [evI, evs, bd_ok, List.getElem?_cons_zero, List.getElem?_cons_succ, sub_ii, e, call1, Nat.mul_zero]
theorem d24_eq : d24 = ⟨5, 2, [(.asg (.nm 2) (.call 22 [(.slot 0), (.lit (.int 12))])),
      (.ifs (.or_ (.cmp .eq (.slot 1) (.lit (.int 0))) (.cmp .lt (.slot 2) (.lit (.int 4)))) lfB []),
      (.ifs (.cmp .eq (.slot 2) (.lit (.int 4))) [(.ret (.tup [(.lit (.str ⟨⟨[110, 111, 116]⟩⟩)), (.call 24 [(.slot 0), (.bin .sub (.slot 1) (.lit (.int 1)))])]))] []),
      (.ifs (.cmp .eq (.slot 2) (.lit (.int 5))) [(.ret (.tup [(.lit (.str ⟨⟨[109, 105, 110, 117, 115]⟩⟩)), (.call 24 [(.slot 0), (.bin .sub (.slot 1) (.lit (.int 1)))])]))] []),
      (.ifs (.cmp .eq (.slot 2) (.lit (.int 6))) [(.ret (.tup [(.lit (.str ⟨⟨[105, 102]⟩⟩)), (.call 24 [(.slot 0), (.bin .sub (.slot 1) (.lit (.int 1)))]), (.call 24 [(.slot 0), (.bin .sub (.slot 1) (.lit (.int 1)))]), (.call 24 [(.slot 0), (.bin .sub (.slot 1) (.lit (.int 1)))])]))] []),
      (.asg (.nm 4) (.idx (.lst (txE sgS)) (.call 22 [(.slot 0), (.lit (.int 14))]))),
      (.ret (.tup [(.lit (.str ⟨⟨[111, 112]⟩⟩)), (.slot 4), (.call 24 [(.slot 0), (.bin .sub (.slot 1) (.lit (.int 1)))]), (.call 24 [(.slot 0), (.bin .sub (.slot 1) (.lit (.int 1)))])]))]⟩ := rfl
theorem expr_draw (k : Nat) : ∀ d : Nat, AnyD (k + 3 + d) d := by
  intro d
  have two : ∀ (K d : Nat) (zs : List Int) (a : Int) (r : Sto), 0 ≤ a → ∃ x : Int, 0 ≤ x ∧ x < 12 ∧ exI (FK (K + 1)) G 100 (.asg (.nm 2) (.call 22 [(.slot 0), (.lit (.int 12))])) [some (.ref 1), some (.int (d : Nat)), none, none, none] (S2 zs a ++ r) = .ok (.nx (Sy d x none none)) (S2 zs (a + 1) ++ r) := fun K d zs a r h0 => by
    obtain ⟨x, x0, x1, hx⟩ := draw2 K zs a 12 r h0 (by decide)
    refine ⟨x, x0, x1, ?_⟩
    simp only [exI, evI, evs, bd_ok, List.getElem?_cons_zero, call1, Nat.mul_zero, hx]
    rfl
  have lt : ∀ (i j : Int) (s : Sto), opCmp .lt (.int i) (.int j) s = some (decide (i < j)) := fun _ _ _ => rfl
  have leaf : ∀ (K d : Nat) (x : Int) (zs : List Int) (a : Int) (r : Sto), 0 ≤ a → LowR r → (d = 0 ∨ x < 4) → exI (FK (K + 2)) G 100 (.asg (.nm 2) (.call 22 [(.slot 0), (.lit (.int 12))])) [some (.ref 1), some (.int (d : Nat)), none, none, none] (S2 zs a ++ r) = .ok (.nx (Sy d x none none)) (S2 zs (a + 1) ++ r) →
      ∃ (e : Ex) (a2 : Int), 0 ≤ a2 ∧ EB e ∧ ht e ≤ d ∧ (pre e).length ≤ SZ d ∧ tab G defs (K + 3) 0 24 [.ref 1, .int (d : Nat)] (S2 zs a ++ r) = .ok (enc e) (S2 zs a2 ++ r) := fun K d x zs a r h0 hr hd p1 => by
    obtain ⟨l, a2, J, h2, hl, e⟩ := leaf_draw K 87 zs (a + 1) r (.int (d : Nat)) (.int x) none none (by omega) hr
    refine ⟨.lf l, a2, h2, hl, Nat.zero_le _, SZ_pos d, ?_⟩
    show runD (FK (K + 2)) G d24 [.ref 1, .int (d : Nat)] (S2 zs a ++ r) = _
    refine runD_R (J := J) rfl hr (low_enc 0 (.lf l)) ?_
    rw [d24_eq]
    refine (exs_nx p1).trans (exs_rt ?_)
    have c : evI (FK (K + 2)) G 0 99 (.or_ (.cmp .eq (.slot 1) (.lit (.int 0))) (.cmp .lt (.slot 2) (.lit (.int 4)))) (Sy d x none none) (S2 zs (a + 1) ++ r) = .ok (.bl true) (S2 zs (a + 1) ++ r) := by
      have q : ∀ s : Sto, opCmp .eq (.int (d : Nat)) (.int 0) s = some (decide (((d : Nat) : Int) = 0)) := fun s => eq_ii
      simp only [evI, bd_ok, List.getElem?_cons_zero, List.getElem?_cons_succ, q, lt, Option.map_some, opt_some, tr_b]
      by_cases hd0 : d = 0
      · rw [decide_eq_true (by omega)] <;> rfl
      · rw [decide_eq_false (by omega), if_neg Bool.false_ne_true, decide_eq_true (by omega)]
    exact (ifT c).trans e
  induction d with
  | zero =>
    intro zs a r h0 hr
    obtain ⟨x, x0, x1, p1⟩ := two (k + 1) 0 zs a r h0
    exact leaf k 0 x zs a r h0 hr (Or.inl rfl) p1
  | succ d ih =>
    intro zs a r h0 hr
    have eK : k + 3 + d = (k + 1 + d) + 2 := by omega
    obtain ⟨x, x0, x1, p1⟩ := two (k + 1 + d + 1) (d + 1) zs a r h0
    rw [show k + 1 + d + 1 + 1 = k + 1 + d + 2 from rfl] at p1
    by_cases h4 : x < 4
    · have q := leaf (k + 1 + d) (d + 1) x zs a r h0 hr (Or.inr h4) p1
      rw [show k + 1 + d + 3 = k + 3 + (d + 1) from by omega] at q
      exact q
    rw [← eK] at p1
    have h1 : 0 ≤ a + 1 := by omega
    have hsz := SZ_pos d
    have hS : SZ (d + 1) = 1 + 3 * SZ d := rfl
    have c0 : ∀ s, evI (FK (k + 3 + d)) G 0 99 (.or_ (.cmp .eq (.slot 1) (.lit (.int 0))) (.cmp .lt (.slot 2) (.lit (.int 4)))) (Sy (d + 1) x none none) s = .ok (.bl false) s := fun s => by
      have q : ∀ s : Sto, opCmp .eq (.int ((d + 1 : Nat) : Int)) (.int 0) s = some false := fun s => by
        rw [eq_ii, decide_eq_false (by omega)]
      simp only [evI, bd_ok, List.getElem?_cons_zero, List.getElem?_cons_succ, q, lt, Option.map_some, opt_some, tr_b, Bool.false_eq_true, if_false, decide_eq_false h4]
    have eqs : ∀ (j : Int) (s : Sto), evI (FK (k + 3 + d)) G 0 99 (.cmp .eq (.slot 2) (.lit (.int j))) (Sy (d + 1) x none none) s = .ok (.bl (decide (x = j))) s := fun j s => by
      have q : ∀ s : Sto, opCmp .eq (.int x) (.int j) s = some (decide (x = j)) := fun s => eq_ii
      simp only [evI, bd_ok, List.getElem?_cons_zero, List.getElem?_cons_succ, q, Option.map_some, opt_some]
    have fin : ∀ (e : Ex) (a2 : Int) (J : Sto), 0 ≤ a2 → EB e → ht e ≤ d + 1 → (pre e).length ≤ SZ (d + 1) → exs (exI (FK (k + 3 + d)) G 100) (d24.body.drop 2) (Sy (d + 1) x none none) (S2 zs (a + 1) ++ r) = .ok (.rt (enc e)) (S2 zs a2 ++ (r ++ J)) →
        ∃ (e : Ex) (a2 : Int), 0 ≤ a2 ∧ EB e ∧ ht e ≤ d + 1 ∧ (pre e).length ≤ SZ (d + 1) ∧ tab G defs (k + 3 + (d + 1)) 0 24 [.ref 1, .int ((d + 1 : Nat) : Int)] (S2 zs a ++ r) = .ok (enc e) (S2 zs a2 ++ r) := fun e a2 J ha he hh hs h => by
      refine ⟨e, a2, ha, he, hh, hs, ?_⟩
      show runD (FK (k + 3 + d)) G d24 [.ref 1, .int ((d + 1 : Nat) : Int)] (S2 zs a ++ r) = _
      refine runD_R (J := J) rfl hr (low_enc 0 e) ?_
      rw [d24_eq] at h ⊢
      exact (exs_nx p1).trans ((ifN (c0 _)).trans h)
    rw [d24_eq] at fin
    by_cases e4 : x = 4
    · have c := eqs 4 (S2 zs (a + 1) ++ r)
      rw [decide_eq_true e4] at c
      obtain ⟨e, a2, h2, he, hh, hs, h⟩ := ih zs (a + 1) r h1 hr
      refine fin (.nt e) a2 [] h2 he (by show ht e + 1 ≤ d + 1; omega) (by show (pre e).length + 1 ≤ _; omega) ?_
      rw [List.append_nil]
      exact ifR c (tup2 rfl ((sub1 (k + 3 + d) 94 d x none none _).trans h))
    have c4 := eqs 4 (S2 zs (a + 1) ++ r)
    rw [decide_eq_false e4] at c4
    by_cases e5 : x = 5
    · have c := eqs 5 (S2 zs (a + 1) ++ r)
      rw [decide_eq_true e5] at c
      obtain ⟨e, a2, h2, he, hh, hs, h⟩ := ih zs (a + 1) r h1 hr
      refine fin (.mi e) a2 [] h2 he (by show ht e + 1 ≤ d + 1; omega) (by show (pre e).length + 1 ≤ _; omega) ?_
      rw [List.append_nil]
      exact (ifN c4).trans (ifR c (tup2 rfl ((sub1 (k + 3 + d) 94 d x none none _).trans h)))
    have c5 := eqs 5 (S2 zs (a + 1) ++ r)
    rw [decide_eq_false e5] at c5
    by_cases e6 : x = 6
    · have c := eqs 6 (S2 zs (a + 1) ++ r)
      rw [decide_eq_true e6] at c
      obtain ⟨e1, a2, h2, he1, hh1, hs1, q1⟩ := ih zs (a + 1) r h1 hr
      obtain ⟨e2, a3, h3, he2, hh2, hs2, q2⟩ := ih zs a2 r h2 hr
      obtain ⟨e3, a4, h4', he3, hh3, hs3, q3⟩ := ih zs a3 r h3 hr
      refine fin (.ife e1 e2 e3) a4 [] h4' ⟨he1, he2, he3⟩ (by show max (ht e1) (max (ht e2) (ht e3)) + 1 ≤ d + 1; omega) (by
        show (pre e3 ++ (pre e2 ++ pre e1)).length + 1 ≤ _
        rw [List.length_append, List.length_append]
        omega) ?_
      rw [List.append_nil]
      exact (ifN c4).trans ((ifN c5).trans (ifR c (tup4 rfl ((sub1 (k + 3 + d) 94 d x none none _).trans q1) ((sub1 (k + 3 + d) 94 d x none none _).trans q2) ((sub1 (k + 3 + d) 94 d x none none _).trans q3))))
    have c6 := eqs 6 (S2 zs (a + 1) ++ r)
    rw [decide_eq_false e6] at c6
    have dsg := dv_idx (k := k + 2 + d) (n := 95) (zs := zs) (σ := Sy (d + 1) x none none) (es := txE sgS) (Ps := fun l => l = ss sgS) (Q := fun v => ∃ g : Sg, v = .str g.s) 0 14 (by decide) rfl (fun a r h0 _ => ⟨_, a, [], h0, rfl, FreeL.nil, by rw [List.append_nil]; exact evs_txE _ _ _ sgS _⟩) (fun l h => by
      subst h
      refine ⟨rfl, by decide, low_ss 0 sgS, fun v hv => ?_⟩
      obtain ⟨y, hy, rfl⟩ := List.mem_map.mp hv
      obtain ⟨g, rfl⟩ := sgS_of hy
      exact ⟨g, rfl⟩)
    rw [show k + 2 + d + 1 = k + 3 + d from by omega] at dsg
    obtain ⟨v, a2, J, h2, ⟨g, rfl⟩, fJ, ev⟩ := dsg (a + 1) r h1 hr
    have hr2 : LowR (r ++ J) := hr.addL fJ
    have sg : exI (FK (k + 3 + d)) G 100 (.asg (.nm 4) (.idx (.lst (txE sgS)) (.call 22 [(.slot 0), (.lit (.int 14))]))) (Sy (d + 1) x none none) (S2 zs (a + 1) ++ r) = .ok (.nx (Sy (d + 1) x none (some (.str g.s)))) (S2 zs a2 ++ (r ++ J)) := by
      rw [exI, ev] <;> rfl
    obtain ⟨e1, a3, h3, he1, hh1, hs1, q1⟩ := ih zs a2 (r ++ J) h2 hr2
    obtain ⟨e2, a4, h4', he2, hh2, hs2, q2⟩ := ih zs a3 (r ++ J) h3 hr2
    refine fin (.op g e1 e2) a4 J h4' ⟨he1, he2⟩ (by show max (ht e1) (ht e2) + 1 ≤ d + 1; omega) (by
      show (pre e2 ++ pre e1).length + 1 ≤ _
      rw [List.length_append]
      omega) ?_
    exact (ifN c4).trans ((ifN c5).trans ((ifN c6).trans ((exs_nx sg).trans (rtE (tup4 rfl rfl ((sub1 (k + 3 + d) 95 d x none _ _).trans q1) ((sub1 (k + 3 + d) 95 d x none _ _).trans q2))))))
end L03


set_option Elab.async false
set_option linter.all false
set_option maxRecDepth 100000
namespace L03
open PySem Jp
/-! ### told the same -/
theorem len_pos (m : Nat) (h : m ≤ 1000001) : (Str.ofString (toString (m : Int))).length ≤ 7 := PyProof.Rows.toString_length_le (v := (m : Int)) (by omega) (by decide) (by
  have : (10 : Int) ^ 7 = 10000000 := by decide
  omega)
theorem len_int (i : Int) (h : -1000000 ≤ i ∧ i ≤ 1000000) : (Str.ofString (toString i)).length ≤ 8 := by
  cases i with
  | ofNat m =>
    have h2 : (m : Int) ≤ 1000000 := h.2
    have := len_pos m (by omega)
    show (Str.ofString (toString (m : Int))).length ≤ 8
    omega
  | negSucc m =>
    have h1 : -1000000 ≤ Int.negSucc m := h.1
    have hm : m + 1 ≤ 1000000 := by omega
    have q := len_pos (m + 1) (by omega)
    rw [PyProof.Rows.ofString_length] at q ⊢
    have e : toString (Int.negSucc m) = "-" ++ toString ((m + 1 : Nat) : Int) := rfl
    rw [e, String.toList_append, List.length_append]
    have : ("-" : String).toList.length = 1 := rfl
    omega
theorem int_log (i : Int) (h : -1000000 ≤ i ∧ i ≤ 1000000) : i.natAbs.log2 < 20 := by
  by_cases h0 : i.natAbs = 0
  · rw [h0]
    decide
  · rw [Nat.log2_lt h0]
    have e : (2 : Nat) ^ 20 = 1048576 := by decide
    omega
def chk (d : PyData) : Bool := d.showable && !d.hasDict && decide (d.shown.length ≤ LINE) && decide (d.depth ≤ 60)
theorem chk_of {d : PyData} (h1 : d.leavesShort 8 = true) (h2 : d.showable = true) (h3 : d.hasDict = false) (h4 : d.depth ≤ 60) (h5 : d.weight ≤ 100000) : chk d = true := by
  have q := PyData.shown_le 8 (Nat.le_refl 8) d h1
  have hL : 2000000 ≤ LINE := by decide
  have : d.shown.length ≤ LINE := by
    have : (8 + 2) * d.weight ≤ 10 * 100000 := Nat.mul_le_mul_left 10 h5
    omega
  unfold chk
  rw [h2, h3, decide_eq_true this, decide_eq_true h4] <;> rfl
theorem okS_l {x : Str} (h : okS x = true) : (x.cps.toList.all fun c => decide (c < 16 ^ 8)) = true ∧ x.cps.size ≤ 100 := by
  unfold okS at h
  rw [Bool.and_eq_true] at h
  refine ⟨?_, of_decide_eq_true h.2⟩
  have q : (x.cps.all fun c => decide (c < 0x110000)) = true := h.1
  rw [List.all_eq_true]
  intro c hc
  have := Array.all_eq_true_iff_forall_mem.mp q c (by simpa using hc)
  have h1 : c < 0x110000 := of_decide_eq_true this
  have e : 16 ^ 8 = 4294967296 := by decide
  exact decide_eq_true (by omega)
theorem small_strs : ∀ xs : List Str, xs.all okS = true → PyData.leavesShortAll 8 (xs.map PyData.str) = true ∧ PyData.showableAll (xs.map PyData.str) = true ∧ PyData.hasDictAll (xs.map PyData.str) = false ∧ PyData.weightAll (xs.map PyData.str) ≤ 101 * xs.length
  | [], _ => by simp [PyData.leavesShortAll, PyData.showableAll, PyData.hasDictAll, PyData.weightAll]
  | x :: xs, h => by
    rw [List.all_cons, Bool.and_eq_true] at h
    obtain ⟨a, b⟩ := okS_l h.1
    obtain ⟨c1, c2, c3, c4⟩ := small_strs xs h.2
    rw [List.map_cons, PyData.leavesShortAll, PyData.showableAll, PyData.hasDictAll, PyData.weightAll, PyData.leavesShort, PyData.showable, PyData.hasDict, PyData.weight, a, c1, c2, c3, List.length_cons]
    refine ⟨rfl, rfl, rfl, ?_⟩
    omega
theorem chk_W (w : W) (h : Bd w) : chk (dW w) = true := by
  have kk : ∀ K : Str, K ∈ [TR, NU, OT, OS, TX] → (K.cps.toList.all fun c => decide (c < 16 ^ 8)) = true ∧ K.cps.size ≤ 7 := fun K hK => by
    simp only [List.mem_cons, List.not_mem_nil, or_false] at hK
    rcases hK with rfl | rfl | rfl | rfl | rfl <;> exact ⟨by decide +kernel, by decide +kernel⟩
  have dp := (shaped_ok w h.2).2
  cases w with
  | non => decide +kernel
  | tr b => cases b <;> decide +kernel
  | num i =>
    have hi := h.1 i rfl
    have q := len_int i hi
    have e : (PyData.shown (.int i)).length ≤ 8 := by simpa [PyData.shown] using q
    obtain ⟨k1, k2⟩ := kk NU (by simp)
    have l2 := int_log i hi
    have l3 : i.natAbs.log2 < 1920 := by omega
    refine chk_of ?_ ?_ ?_ (by omega) ?_
    · simp only [dW, PyData.leavesShort, PyData.leavesShortAll, Bool.and_true]
      rw [k1, decide_eq_true e] <;> rfl
    · simp [dW, PyData.showable, PyData.showableAll, l3]
    · simp [dW, PyData.hasDict, PyData.hasDictAll]
    · simp only [dW, PyData.weight, PyData.weightAll]
      split <;> omega
  | opt x =>
    obtain ⟨k1, k2⟩ := kk OT (by simp)
    obtain ⟨x1, x2⟩ := okS_l (show okS x = true from h.2)
    refine chk_of ?_ ?_ ?_ (by omega) ?_
    · simp only [dW, PyData.leavesShort, PyData.leavesShortAll, Bool.and_true]
      rw [k1, x1] <;> rfl
    · simp [dW, PyData.showable, PyData.showableAll]
    · simp [dW, PyData.hasDict, PyData.hasDictAll]
    · simp only [dW, PyData.weight, PyData.weightAll]
      omega
  | txt x =>
    obtain ⟨k1, k2⟩ := kk TX (by simp)
    obtain ⟨x1, x2⟩ := okS_l (show okS x = true from h.2)
    refine chk_of ?_ ?_ ?_ (by omega) ?_
    · simp only [dW, PyData.leavesShort, PyData.leavesShortAll, Bool.and_true]
      rw [k1, x1] <;> rfl
    · simp [dW, PyData.showable, PyData.showableAll]
    · simp [dW, PyData.hasDict, PyData.hasDictAll]
    · simp only [dW, PyData.weight, PyData.weightAll]
      omega
  | opts xs =>
    obtain ⟨k1, k2⟩ := kk OS (by simp)
    have hx : (xs.all okS && decide (xs.length ≤ 100)) = true := h.2
    rw [Bool.and_eq_true] at hx
    have hl := of_decide_eq_true hx.2
    obtain ⟨c1, c2, c3, c4⟩ := small_strs xs hx.1
    refine chk_of ?_ ?_ ?_ (by omega) ?_
    · simp only [dW, dS, PyData.leavesShort, PyData.leavesShortAll, Bool.and_true]
      rw [k1, c1] <;> rfl
    · simp [dW, dS, PyData.showable, PyData.showableAll, c2]
    · simp [dW, dS, PyData.hasDict, PyData.hasDictAll, c3]
    · simp only [dW, dS, PyData.weight, PyData.weightAll]
      omega
theorem same_W (k : Nat) (w : W) (h : Bd w) : Pu (tab G defs (k + 1) 0 20) [w.av, w.av] (.bl true) := by
  refine ⟨low2 w w, rfl, ?_⟩
  have hc := chk_W w h
  have rp : ∀ s : Sto, opBi .repr [w.av] s = .ok (.str (PyData.shown (dW w))) s := fun s => by
    show (match w.av.data s 60 with
      | some e => if e.showable && !e.hasDict && decide (e.shown.length ≤ LINE) && decide (e.depth ≤ 60) then Rs.ok (AV.str e.shown) s else .bad
      | none => .bad) = _
    rw [data_ok]
    show (if chk (dW w) = true then _ else _) = _
    rw [hc] <;> rfl
  have eq : ∀ (x : Str) (s : Sto), opCmp .eq (.str x) (.str x) s = some true := fun x s => by
    show some (x == x) = some true
    rw [beq_self_eq_true]
  refine ⟨_, runD_rt (F := FK k) (d := d20) (s2 := []) rfl (rtE (s2 := []) ?_)⟩
  show evI (FK k) G 0 99 (.cmp .eq (.bi .repr [(.slot 0)]) (.bi .repr [(.slot 1)])) [some w.av, some w.av] [] = _
  simp only [evI, evs, bd_ok, List.getElem?_cons_zero, List.getElem?_cons_succ, rp, eq, Option.map_some, opt_some]
/-! ### bounds -/
theorem nums_mem : ∀ {ws : List W} {zs : List Int}, nums ws = some zs → (∀ w ∈ ws, Bd w) → ∀ z ∈ zs, -1000000 ≤ z ∧ z ≤ 1000000
  | [], zs, h, _ => by
    cases h
    exact fun z hz => by cases hz
  | w :: ws, zs, h, hb => by
    have h : (match N3 w, nums ws with
      | some i, some l => some (i :: l)
      | _, _ => none) = some zs := h
    cases e1 : N3 w with
    | none => rw [e1] at h; cases h
    | some i =>
      cases e2 : nums ws with
      | none => rw [e1, e2] at h; cases h
      | some l =>
        rw [e1, e2] at h
        cases h
        intro z hz
        rcases List.mem_cons.mp hz with rfl | q
        · have hw := hb w List.mem_cons_self
          cases w <;> first | (cases e1; done) | skip
          cases e1
          exact hw.1 _ rfl
        · exact nums_mem e2 (fun v hv => hb v (List.mem_cons_of_mem _ hv)) z q
theorem fold_b (f : Int → Int → Int) (hf : ∀ m i, f m i = m ∨ f m i = i) (P : Int → Prop) : ∀ (zs : List Int) (z : Int), P z → (∀ y ∈ zs, P y) → P (zs.foldl f z)
  | [], z, h, _ => h
  | y :: zs, z, h, hz => by
    show P (zs.foldl f (f z y))
    refine fold_b f hf P zs (f z y) ?_ fun v hv => hz v (List.mem_cons_of_mem _ hv)
    rcases hf z y with e | e
    · rw [e]
      exact h
    · rw [e]
      exact hz y List.mem_cons_self
theorem bd_ov (f : Fn) {ws : List W} (hb : ∀ w ∈ ws, Bd w) (hl : ws.length ≤ 3) : Bd (ovW f ws) := by
  cases f with
  | count => exact bd_num (by show -1000000 ≤ ((ws.length : Nat) : Int) ∧ ((ws.length : Nat) : Int) ≤ 1000000; omega)
  | any => exact bd_an ws
  | all => exact bd_al ws
  | sum =>
    cases h : nums ws with
    | none =>
      rw [(ov_n h).1]
      exact bd_non
    | some zs =>
      rw [ov_s h]
      exact bd_res _
  | least =>
    cases h : nums ws with
    | none =>
      rw [(ov_n h).2.1]
      exact bd_non
    | some zs =>
      rw [ov_l h]
      have hm := nums_mem h hb
      cases zs with
      | nil => exact bd_non
      | cons z zs => exact bd_num (fold_b _ (fun m i => by by_cases q : i < m <;> simp [q]) (fun z => -1000000 ≤ z ∧ z ≤ 1000000) zs z (hm z List.mem_cons_self) fun y hy => hm y (List.mem_cons_of_mem _ hy))
  | greatest =>
    cases h : nums ws with
    | none =>
      rw [(ov_n h).2.2]
      exact bd_non
    | some zs =>
      rw [ov_g h]
      have hm := nums_mem h hb
      cases zs with
      | nil => exact bd_non
      | cons z zs => exact bd_num (fold_b _ (fun m i => by by_cases q : m < i <;> simp [q]) (fun z => -1000000 ≤ z ∧ z ≤ 1000000) zs z (hm z List.mem_cons_self) fun y hy => hm y (List.mem_cons_of_mem _ hy))
def NoB (n : Option Int) : Prop := n = none ∨ n = some 1 ∨ n = some 3
structure EnvB (N : Env) : Prop where
  a : ∀ x, Bd (N.nm x)
  b : ∀ x, (∀ w ∈ N.rw x, Bd w) ∧ (N.rw x).length ≤ 3
  c : NoB N.no
theorem bd_leaf {N : Env} (h : EnvB N) (l : Lf) (hl : LfB l) : Bd (valL N l) := by
  cases l with
  | name x => exact h.a x
  | row =>
    show Bd (match N.no with
      | none => .non
      | some i => .num i)
    rcases h.c with e | e | e
    · rw [e]
      exact bd_non
    · rw [e]
      exact bd_num (by decide)
    · rw [e]
      exact bd_num (by decide)
  | tr b => exact bd_tr b
  | opt b => exact bd_opt hl
  | num i => exact bd_num hl
  | has x o =>
    show Bd (memW o (N.nm x))
    generalize N.nm x = w
    cases w <;> first | exact bd_non | exact bd_tr _
  | askA x => exact bd_tr _
  | ask f x => exact bd_ov f (h.b x).1 (h.b x).2
theorem bd_E {N : Env} (h : EnvB N) : ∀ e : Ex, EB e → BdE N e
  | .lf l, q => bd_leaf h l q
  | .nt a, q => bd_E h a q
  | .mi a, q => bd_E h a q
  | .op g a b, q => ⟨bd_E h a q.1, bd_E h b q.2⟩
  | .ife a b c, q => ⟨bd_E h a q.1, bd_E h b q.2.1, bd_E h c q.2.2⟩
/-! ### dicts -/
abbrev Kvs := List (L2.Key × AV)
def All (P : AV → Prop) (kvs : Kvs) : Prop := ∀ kv ∈ kvs, P kv.2
def PR (v : AV) : Prop := ∃ ws : List W, (∀ w ∈ ws, Bd w) ∧ ws.length ≤ 3 ∧ v = .tup (ws.map W.av)
theorem low_ws (n : Nat) (ws : List W) : lowL n (ws.map W.av) = true := low_mem (fun x hx => by
  obtain ⟨w, _, rfl⟩ := List.mem_map.mp hx
  exact fun n => W.low n w) n
theorem PR.low {v : AV} (h : PR v) (n : Nat) : lowA n v = true := by
  obtain ⟨ws, _, _, rfl⟩ := h
  exact low_ws n ws
theorem All.look {P : AV → Prop} {kvs : Kvs} (h : All P kvs) {k : L2.Key} {v : AV} (e : lookK kvs k = some v) : P v := by
  unfold lookK at e
  cases q : kvs.find? fun kv => decide (kv.1 = k) with
  | none => rw [q] at e; cases e
  | some kv =>
    rw [q] at e
    cases e
    exact h kv (List.mem_of_find?_eq_some q)
theorem All.store {P : AV → Prop} {kvs : Kvs} (h : All P kvs) (k : L2.Key) {v : AV} (hv : P v) : All P (storeK kvs k v) ∧ (storeK kvs k v).length ≤ kvs.length + 1 := by
  unfold storeK
  split
  · refine ⟨fun kv hk => ?_, by rw [List.length_map]; omega⟩
    obtain ⟨kv0, h0, rfl⟩ := List.mem_map.mp hk
    split
    · exact hv
    · exact h kv0 h0
  · refine ⟨fun kv hk => ?_, by simp⟩
    rcases List.mem_append.mp hk with q | q
    · exact h kv q
    · rw [List.mem_singleton] at q
      subst q
      exact hv
theorem All.free {P : AV → Prop} (hP : ∀ v, P v → ∀ n, lowA n v = true) {kvs : Kvs} (h : All P kvs) : Free (.dct kvs) := fun n => by
  show lowL n (kvs.map (·.2)) = true
  exact low_mem (fun x hx => by
    obtain ⟨kv, h1, rfl⟩ := List.mem_map.mp hx
    exact hP _ (h kv h1)) n
theorem look_other (kvs : Kvs) (k k2 : L2.Key) (v : AV) (hk : k2 ≠ k) : lookK (storeK kvs k v) k2 = lookK kvs k2 := by
  unfold storeK
  split
  · rename_i hh
    clear hh
    induction kvs with
    | nil => rfl
    | cons p r ih =>
      unfold lookK at ih ⊢
      rw [List.map_cons]
      by_cases q : p.1 = k
      · have n2 : ¬ p.1 = k2 := fun e => hk (by rw [← e, q])
        rw [if_pos q, List.find?_cons_of_neg (by simpa using n2), List.find?_cons_of_neg (by simpa using n2)]
        exact ih
      · rw [if_neg q]
        by_cases q2 : p.1 = k2
        · rw [List.find?_cons_of_pos (by simpa using q2), List.find?_cons_of_pos (by simpa using q2)]
        · rw [List.find?_cons_of_neg (by simpa using q2), List.find?_cons_of_neg (by simpa using q2)]
          exact ih
  · unfold lookK
    rw [List.find?_append]
    have : [(k, v)].find? (fun kv => decide (kv.1 = k2)) = none := by
      simp
      exact fun e => hk e.symm
    rw [this, Option.or_none]
theorem putd_ok {K n : Nat} {σ : Slots} {s s2 : Sto} {o i : Nat} {e : IE} {m : Nat} {kvs : Kvs} {x : Str} {v : AV} (he : evI (FK K) G 0 (n + 1) e σ s = .ok v s2) (ho : σ[o]? = some (some (.ref m))) (hi : σ[i]? = some (some (.str x))) (hm : s2[m]? = some (.dct kvs)) (hl : kvs.length < LINE) :
    exI (FK K) G (n + 2) (.putd (.slot o) (.slot i) e) σ s = .ok (.nx σ) (s2.set m (.dct (storeK kvs (.inr x) v))) := by
  rw [exI, he, bd_ok]
  simp only [evI, bd_ok, ho, hi, key_s, hm]
  rw [if_pos hl]
theorem setR {zs : List Int} {a : Int} {r J : Sto} {x y : AO} : (S2 zs a ++ (r ++ (x :: J))).set (2 + r.length) y = S2 zs a ++ (r ++ (y :: J)) := by
  rw [S2_set, List.set_append_right _ _ (Nat.le_refl _), Nat.sub_self] <;> rfl
theorem env_of {A B : Kvs} {no : Option Int} (hA : All PW A) (hB : All PR B) (hn : NoB no) : ∃ N : Env, EnvB N ∧ N.no = no ∧ (∀ x : Str, (lookK A (.inr x)).getD .non = (N.nm x).av) ∧ (∀ x : Str, (lookK B (.inr x)).getD (.tup []) = .tup ((N.rw x).map W.av)) ∧ ∀ x, (N.rw x).length < LINE := by
  have hL : 2000 ≤ LINE := by decide
  have h1 : ∀ s : Str, ∃ w : W, Bd w ∧ (lookK A (.inr s)).getD .non = w.av := fun s => by
    cases q : lookK A (.inr s) with
    | none => exact ⟨.non, bd_non, rfl⟩
    | some v =>
      obtain ⟨w, a, b⟩ := hA.look q
      exact ⟨w, a, b⟩
  have h2 : ∀ s : Str, ∃ ws : List W, ((∀ w ∈ ws, Bd w) ∧ ws.length ≤ 3) ∧ (lookK B (.inr s)).getD (.tup []) = .tup (ws.map W.av) := fun s => by
    cases q : lookK B (.inr s) with
    | none => exact ⟨[], ⟨(fun w h => by cases h), Nat.zero_le _⟩, rfl⟩
    | some v =>
      obtain ⟨ws, a, b, c⟩ := hB.look q
      exact ⟨ws, ⟨a, b⟩, c⟩
  obtain ⟨f, hf⟩ := Classical.axiomOfChoice h1
  obtain ⟨g, hg⟩ := Classical.axiomOfChoice h2
  exact ⟨⟨f, g, no⟩, ⟨fun s => (hf s).1, fun s => (hg s).1, hn⟩, rfl, fun s => (hf s).2, fun s => (hg s).2, fun s => by have := (hg s).1.2; show (g s).length < LINE; omega⟩
theorem mean (N : Env) (n r : Nat) (e : Ex) (s : Sto) (E : EnvOk N n r s) (hs : LowS s) (h1 : BdE N e) (s1 : (pre e).length ≤ 1000) (no : Option Int) (hn : N.no = no) : callF (tab G defs 399 0 3) [enc e, .ref n, .ref r, noA no] s = .ok (valE N e).av s := by
  rw [← hn]
  exact (callF_hi (hi4 e n r N.no)).trans (meaning_ok 388 N n r e s E h1 s1 hs)
theorem lmean (N : Env) (n r : Nat) (e : Ex) (s : Sto) (E : EnvOk N n r s) (hs : LowS s) (h1 : BdE N e) (hh : ht e ≤ 394) (no : Option Int) (hn : N.no = no) : callF (tab G defs 399 0 30) [enc e, .ref n, .ref r, noA no] s = .ok (valE N e).av s := by
  rw [← hn]
  exact (callF_hi (hi4 e n r N.no)).trans (law_mean N n r s E hs e 394 hh h1)
end L03


set_option Elab.async false
set_option linter.all false
set_option maxRecDepth 100000
namespace L03
open PySem Jp
abbrev S12 (sc : AV) (c2 c3 c4 c5 c6 c7 c8 c9 c10 c11 : Option AV) : Slots := [some sc, some (.ref 1), c2, c3, c4, c5, c6, c7, c8, c9, c10, c11]
theorem eqW_refl (w : W) : eqW w w = true := by
  cases w <;> simp [eqW]
theorem eqW_eq {a b : W} (h : eqW a b = true) : a = b := by
  cases a <;> cases b <;> simp_all [eqW]
theorem av_inj {a b : W} (h : a.av = b.av) : a = b := by
  have h1 := data_ok a []
  rw [h, data_ok b []] at h1
  have h2 := eqv_ok a b
  rw [← Option.some.inj h1, eqv_ok, eqW_refl] at h2
  exact eqW_eq h2.symm
theorem av_non {a : W} (h : W.non.av = a.av) : a = .non := (av_inj h).symm
theorem tuple_ref {s : Sto} {m : Nat} {xs : List AV} (h : s[m]? = some (.lst xs)) : opBi .tuple [.ref m] s = .ok (.tup xs) s := by
  show (match items s (.ref m) with
    | some ys => Rs.ok (AV.tup ys) s
    | none => .bad) = _
  have e : items s (.ref m) = some xs := by simp only [items, h]
  rw [e]
theorem walk_ref {s : Sto} {m : Nat} {xs : List AV} (h : s[m]? = some (.lst xs)) : walk .seq [.ref m] s = some xs := by
  show items s (.ref m) = _
  simp only [items, h]
/-- a dict that texts are put into, one after another -/
theorem loopD {K n : Nat} {zs : List Int} {r : Sto} {body : List IS} (I : Kvs → Prop) (hI : ∀ kvs, I kvs → Free (.dct kvs)) (L0 : Nat) (ns : List Str) (hL0 : L0 + ns.length < LINE) (hr : LowR r) (σ : Option AV → Option AV → Slots) (hlen : ∀ a b, (σ a b).length = 12) (hset : ∀ a b x, (σ a b).set 5 (some x) = σ (some x) b)
    (step : ∀ (x : Str) (a : Int) (kvs : Kvs) (J : Sto) (c6 : Option AV), x ∈ ns → 0 ≤ a → I kvs → kvs.length < LINE → LowR (r ++ (.dct kvs :: J)) → ∃ (a2 : Int) (kvs2 : Kvs) (J2 : Sto) (c6' : Option AV), 0 ≤ a2 ∧ I kvs2 ∧ kvs2.length ≤ kvs.length + 1 ∧ FreeL J2 ∧ exs (exI (FK K) G (n + 2)) body (σ (some (.str x)) c6) (S2 zs a ++ (r ++ (.dct kvs :: J))) = .ok (.nx (σ (some (.str x)) c6')) (S2 zs a2 ++ (r ++ (.dct kvs2 :: (J ++ J2)))))
    (a : Int) (kvs : Kvs) (c5 c6 : Option AV) (h0 : 0 ≤ a) (hk : I kvs) (hl : kvs.length ≤ L0) (hns : ns.length ≤ LINE) :
    ∃ (a2 : Int) (kvs2 : Kvs) (J2 : Sto) (c5' c6' : Option AV), 0 ≤ a2 ∧ I kvs2 ∧ kvs2.length ≤ L0 + ns.length ∧ FreeL J2 ∧ exI (FK K) G (n + 3) (.for_ (.nm 5) .seq [(.lst (txE ns))] body) (σ c5 c6) (S2 zs a ++ (r ++ [.dct kvs])) = .ok (.nx (σ c5' c6')) (S2 zs a2 ++ (r ++ (.dct kvs2 :: J2))) := by
  have ls : (ss ns).length = ns.length := List.length_map ..
  have l1 : evs (evI (FK K) G 0 (n + 2)) [(.lst (txE ns))] (σ c5 c6) (S2 zs a ++ (r ++ [.dct kvs])) = .ok [.ref (2 + (r.length + 1))] (S2 zs a ++ (r ++ (.dct kvs :: [.lst (ss ns)]))) := by
    rw [evs, evI, evs_txE, bd_ok, if_pos (by rw [ls]; exact hns), bd_ok, evs, bd_ok, S2_len, List.length_append, S2_app, List.append_assoc] <;> rfl
  have fl : FreeL [AO.lst (ss ns)] := FreeL.one (low_ss 0 ns)
  have lowJ : ∀ kvs J, I kvs → FreeL J → LowR (r ++ (.dct kvs :: J)) := fun kvs J h1 h2 => hr.addL fun o ho => by
    rcases List.mem_cons.mp ho with q | q
    · rw [q]
      exact hI kvs h1
    · exact h2 o q
  have at5 : ∀ (a b : Option AV) (x : AV) (s : Sto), asT s (.nm 5) x (σ a b) = some (σ (some x) b) := fun a b x s => by
    simp only [asT, hlen, hset, show (5 : Nat) < 12 from by decide, if_true]
  have src : ∀ (a : Int) (kvs : Kvs) (J : Sto), (S2 zs a ++ (r ++ (.dct kvs :: ([.lst (ss ns)] ++ J))))[2 + (r.length + 1)]? = some (.lst (ss ns)) := fun a kvs J => by
    rw [S2_at, List.getElem?_append_right (by omega), show r.length + 1 - r.length = 1 from by omega] <;> rfl
  obtain ⟨σ', s', f1, a2, kvs2, J2, c5', c6', q1, q2, q3, q4, rfl, rfl⟩ := for_inv (ex := exs (exI (FK K) G (n + 2)) body) (t := .nm 5) (wk := .seq) (src := [.ref (2 + (r.length + 1))]) (whole := ss ns)
    (fun m σ1 s => ∃ (a2 : Int) (kvs2 : Kvs) (J2 : Sto) (c5' c6' : Option AV), 0 ≤ a2 ∧ I kvs2 ∧ kvs2.length ≤ L0 + m ∧ FreeL J2 ∧ σ1 = σ c5' c6' ∧ s = S2 zs a2 ++ (r ++ (.dct kvs2 :: ([.lst (ss ns)] ++ J2)))) (ss ns) 0 (σ c5 c6) (S2 zs a ++ (r ++ (.dct kvs :: ([.lst (ss ns)] ++ [])))) (fun m x σ1 s hx hp => by
      obtain ⟨a2, kvs2, J2, c5', c6', q1, q2, q3, q4, rfl, rfl⟩ := hp
      obtain ⟨y, hy, rfl⟩ := List.mem_map.mp (List.mem_of_getElem? hx)
      have hm : m < (ss ns).length := (List.getElem?_eq_some_iff.mp hx).1
      rw [ls] at hm
      obtain ⟨a3, kvs3, J3, c6'', p1, p2, p3, p4, e⟩ := step y a2 kvs2 ([.lst (ss ns)] ++ J2) c6' hy q1 q2 (by omega) (lowJ _ _ q2 (fl.app q4))
      rw [List.append_assoc] at e
      exact ⟨_, _, _, at5 _ _ _ _, e, stands_ref (src _ _ _), a3, kvs3, J2 ++ J3, some (.str y), c6'', p1, p2, by omega, q4.app p4, rfl, rfl⟩) ⟨a, kvs, [], c5, c6, h0, hk, hl, FreeL.nil, rfl, rfl⟩
  rw [Nat.zero_add, ls] at q3
  refine ⟨a2, kvs2, [.lst (ss ns)] ++ J2, c5', c6', q1, q2, q3, fl.app q4, ?_⟩
  have w := walk_ref (src a kvs [])
  rw [List.append_nil] at w f1
  rw [exI, l1, bd_ok, w, opt_some, bd_ok]
  exact f1
/-- a comprehension whose items are drawn -/
theorem lc_draw {k n : Nat} {zs : List Int} {i : Nat} {elt : IE} {P : AV → Prop} {σ : Slots} {src whole : List AV} (hst : ∀ s, stands .range1 src whole s = true) (hi : i < σ.length) (he : ∀ x : AV, Dv k n zs ((σ.set i none).set i (some x)) elt P) :
    ∀ (ys acc : List AV) (a : Int) (r : Sto), acc.length + ys.length < LINE → 0 ≤ a → LowR r → ∃ (l : List AV) (a2 : Int) (J : Sto), 0 ≤ a2 ∧ l.length = ys.length ∧ (∀ v ∈ l, P v) ∧ FreeL J ∧ lcLoop (evI (FK k) G 0 n) [i] elt (.nm i) .range1 src whole [] σ ys acc (S2 zs a ++ r) = .ok (acc ++ l) (S2 zs a2 ++ (r ++ J))
  | [], acc, a, r, _, h0, _ => ⟨[], a, [], h0, rfl, (fun v h => by cases h), FreeL.nil, by rw [lcLoop, List.append_nil, List.append_nil]⟩
  | y :: ys, acc, a, r, hl, h0, hr => by
    simp only [List.length_cons] at hl
    have ha : asT (S2 zs a ++ r) (.nm i) y (wipeA σ [i]) = some ((σ.set i none).set i (some y)) := by
      simp only [asT, wipeA, List.length_set, hi, if_true]
    obtain ⟨v, a1, J, q1, q2, q3, q4⟩ := he y a r h0 hr
    obtain ⟨l, a2, J2, p1, p2, p3, p4, p5⟩ := lc_draw hst hi he ys (acc ++ [v]) a1 (r ++ J) (by simp only [List.length_append, List.length_cons, List.length_nil]; omega) q1 (hr.addL q3)
    refine ⟨v :: l, a2, J ++ J2, p1, by rw [List.length_cons, List.length_cons, p2], fun w hw => ?_, q3.app p4, ?_⟩
    · rcases List.mem_cons.mp hw with q | q
      · rw [q]
        exact q2
      · exact p3 w q
    · rw [lcLoop, ha]
      show ((noX (tests (evI (FK k) G 0 n) [] ((σ.set i none).set i (some y)) (S2 zs a ++ r))).bd _) = _
      rw [show tests (evI (FK k) G 0 n) [] ((σ.set i none).set i (some y)) (S2 zs a ++ r) = .ok true (S2 zs a ++ r) from rfl]
      show ((noX (evI (FK k) G 0 n elt ((σ.set i none).set i (some y)) (S2 zs a ++ r))).bd _) = _
      rw [q4]
      show (if acc.length < LINE then (if stands .range1 src whole _ = true then _ else Rs.bad) else Rs.bad) = _
      rw [if_pos (by omega), hst, if_pos rfl, p5, List.append_assoc, List.append_assoc] <;> rfl
end L03


set_option Elab.async false
set_option linter.all false
set_option maxRecDepth 100000
namespace L03
open PySem Jp
def nmN : List Str := [⟨⟨[97]⟩⟩, ⟨⟨[98]⟩⟩, ⟨⟨[99]⟩⟩, ⟨⟨[115]⟩⟩, ⟨⟨[115, 117, 109]⟩⟩, ⟨⟨[104, 97, 115]⟩⟩]
def nmR : List Str := [⟨⟨[97]⟩⟩, ⟨⟨[109]⟩⟩, ⟨⟨[110]⟩⟩]
def bN : List IS := [(.asg (.nm 6) (.call 33 [(.slot 1)])),
      (.ifs (.cmp .noN (.slot 6) (.lit .non)) [(.putd (.slot 4) (.slot 5) (.slot 6))] [])]
def eltR : IE := (.idx (.lst [(.call 33 [(.slot 1)]), (.tup [(.lit (.str ⟨⟨[110, 117, 109, 98, 101, 114]⟩⟩)), (.call 22 [(.slot 1), (.lit (.int 5))])]), (.tup [(.lit (.str ⟨⟨[116, 114, 117, 116, 104]⟩⟩)), (.cmp .eq (.call 22 [(.slot 1), (.lit (.int 2))]) (.lit (.int 0)))])]) (.call 22 [(.slot 1), (.lit (.int 3))]))
def lcR : IE := (.lc [(⟨⟨[107]⟩⟩, 8)] eltR (.nm 8) .range1 [(.call 22 [(.slot 1), (.lit (.int 4))])] [])
def bR : List IS := [(.ifs (.cmp .eq (.call 22 [(.slot 1), (.lit (.int 2))]) (.lit (.int 0))) [(.putd (.slot 7) (.slot 5) (.bi .tuple [lcR]))] [])]
def eltM : IE := (.idx (.lst [(.tup [(.lit (.str ⟨⟨[116, 114, 117, 116, 104]⟩⟩)), (.lit (.bl true))]), (.tup [(.lit (.str ⟨⟨[110, 117, 109, 98, 101, 114]⟩⟩)), (.lit (.int 2))]), (.tup [(.lit (.str ⟨⟨[111, 112, 116, 105, 111, 110, 115]⟩⟩)), (.tup [])])]) (.call 22 [(.slot 1), (.lit (.int 3))]))
def bM : List IS := [(.ifs (.din true (.slot 5) (.slot 11)) [(.putd (.slot 11) (.slot 5) eltM)] [])]
section
variable {zs : List Int} {r : Sto} {sc : AV} {c2 c3 c4 c7 c8 c9 c10 c11 : Option AV}
theorem stepN (hr0 : r.length = r.length) (x : Str) (a : Int) (kvs : Kvs) (J : Sto) (c6 : Option AV) (h0 : 0 ≤ a) (hk : All PW kvs) (hl : kvs.length < LINE) (hr : LowR (r ++ (.dct kvs :: J))) :
    ∃ (a2 : Int) (kvs2 : Kvs) (J2 : Sto) (c6' : Option AV), 0 ≤ a2 ∧ All PW kvs2 ∧ kvs2.length ≤ kvs.length + 1 ∧ FreeL J2 ∧ exs (exI (FK 399) G 98) bN (S12 sc c2 c3 (some (.ref (2 + r.length))) (some (.str x)) c6 c7 c8 c9 c10 c11) (S2 zs a ++ (r ++ (.dct kvs :: J))) = .ok (.nx (S12 sc c2 c3 (some (.ref (2 + r.length))) (some (.str x)) c6' c7 c8 c9 c10 c11)) (S2 zs a2 ++ (r ++ (.dct kvs2 :: (J ++ J2)))) := by
  obtain ⟨w, a2, h2, hw, e⟩ := value_draw 397 zs a _ h0 hr
  have p1 : exI (FK 399) G 98 (.asg (.nm 6) (.call 33 [(.slot 1)])) (S12 sc c2 c3 (some (.ref (2 + r.length))) (some (.str x)) c6 c7 c8 c9 c10 c11) (S2 zs a ++ (r ++ (.dct kvs :: J))) = .ok (.nx (S12 sc c2 c3 (some (.ref (2 + r.length))) (some (.str x)) (some w.av) c7 c8 c9 c10 c11)) (S2 zs a2 ++ (r ++ (.dct kvs :: J))) := by
    simp only [exI, evI, evs, bd_ok, List.getElem?_cons_zero, List.getElem?_cons_succ, call1, Nat.mul_zero, e]
    rfl
  have c : evI (FK 399) G 0 97 (.cmp .noN (.slot 6) (.lit .non)) (S12 sc c2 c3 (some (.ref (2 + r.length))) (some (.str x)) (some w.av) c7 c8 c9 c10 c11) (S2 zs a2 ++ (r ++ (.dct kvs :: J))) = .ok (.bl (!isNo w)) (S2 zs a2 ++ (r ++ (.dct kvs :: J))) := by
    simp only [evI, bd_ok, List.getElem?_cons_zero, List.getElem?_cons_succ, noN_ok, Option.map_some, opt_some]
  cases hn : isNo w with
  | true =>
    rw [hn] at c
    refine ⟨a2, kvs, [], some w.av, h2, hk, by omega, FreeL.nil, ?_⟩
    rw [List.append_nil]
    exact (exs_nx p1).trans (show exI (FK 399) G 98 (.ifs _ _ _) _ _ = _ from ifE0 c)
  | false =>
    rw [hn] at c
    have st := hk.store (.inr x) (v := w.av) ⟨w, hw, rfl⟩
    refine ⟨a2, storeK kvs (.inr x) w.av, [], some w.av, h2, st.1, st.2, FreeL.nil, ?_⟩
    rw [List.append_nil]
    have z := putd_ok (K := 399) (n := 95) (o := 4) (i := 5) (e := .slot 6) (m := 2 + r.length) (kvs := kvs) (x := x) (v := w.av) (σ := S12 sc c2 c3 (some (.ref (2 + r.length))) (some (.str x)) (some w.av) c7 c8 c9 c10 c11) (s := S2 zs a2 ++ (r ++ (.dct kvs :: J))) (s2 := S2 zs a2 ++ (r ++ (.dct kvs :: J))) rfl rfl rfl (by rw [S2_at]; exact at_app) hl
    rw [setR] at z
    exact (exs_nx p1).trans (show exI (FK 399) G 98 (.ifs _ _ _) _ _ = _ from (ifT c).trans z)
theorem elt_dv (k n : Nat) {σ : Slots} (hσ : σ[1]? = some (some (.ref 1))) : Dv (k + 2) (n + 6) zs σ eltR PW := by
  have v : Dv (k + 2) (n + 4) zs σ (.call 33 [(.slot 1)]) PW := fun a r h0 hr => by
    obtain ⟨w, a2, h2, hw, e⟩ := value_draw k zs a r h0 hr
    refine ⟨w.av, a2, [], h2, ⟨w, hw, rfl⟩, FreeL.nil, ?_⟩
    rw [List.append_nil]
    simp only [evI, evs, bd_ok, hσ, call1, Nat.mul_zero, e]
  have nu : Dv (k + 2) (n + 4) zs σ (.tup [(.lit (.str ⟨⟨[110, 117, 109, 98, 101, 114]⟩⟩)), (.call 22 [(.slot 1), (.lit (.int 5))])]) PW := by
    refine dpair (dv_draw 1 5 (by decide) hσ) fun v hv => ?_
    obtain ⟨x, x0, x1, rfl⟩ := hv
    exact ⟨.num x, bd_num (by omega), rfl⟩
  have tr : Dv (k + 2) (n + 4) zs σ (.tup [(.lit (.str ⟨⟨[116, 114, 117, 116, 104]⟩⟩)), (.cmp .eq (.call 22 [(.slot 1), (.lit (.int 2))]) (.lit (.int 0)))]) PW := by
    refine dpair (P := fun v => ∃ b : Bool, v = .bl b) (fun a r h0 hr => ?_) fun v hv => ?_
    · obtain ⟨v, a2, J, q1, ⟨x, x0, x1, rfl⟩, q3, q4⟩ := dv_draw (k := k + 1) (n := n) (zs := zs) 1 2 (by decide) hσ a r h0 hr
      refine ⟨.bl (decide (x = 0)), a2, J, q1, ⟨_, rfl⟩, q3, ?_⟩
      have l0 : ∀ s, evI (FK (k + 2)) G 0 (n + 2) (.lit (.int 0)) σ s = .ok (.int 0) s := fun s => rfl
      rw [evI, q4, bd_ok, l0, bd_ok, eq_ii] <;> rfl
    · obtain ⟨b, rfl⟩ := hv
      exact ⟨.tr b, bd_tr b, rfl⟩
  refine dv_idx (k := k + 1) (n := n + 2) 1 3 (by decide) hσ (dc v (dc nu (dc tr dn))) fun l hl => ⟨by rw [hl.1]; rfl, by rw [hl.1]; decide, low_mem (fun x hx => (hl.2 x hx).low) 0, hl.2⟩
theorem avs_of {l : List AV} (h : ∀ v ∈ l, PW v) : ∃ ws : List W, (∀ w ∈ ws, Bd w) ∧ l = ws.map W.av := by
  induction l with
  | nil => exact ⟨[], (fun w h => by cases h), rfl⟩
  | cons v l ih =>
    obtain ⟨ws, h1, h2⟩ := ih fun u hu => h u (List.mem_cons_of_mem _ hu)
    obtain ⟨w, hw, rfl⟩ := h v List.mem_cons_self
    refine ⟨w :: ws, fun u hu => ?_, by rw [h2]; rfl⟩
    rcases List.mem_cons.mp hu with q | q
    · rw [q]
      exact hw
    · exact h1 u q
theorem rows_dv {σ : Slots} (hσ : σ[1]? = some (some (.ref 1))) (hlen : σ.length = 12) (hw : ∀ x : AV, ((σ.set 8 none).set 8 (some x))[1]? = some (some (.ref 1))) : Dv 399 96 zs σ (.bi .tuple [lcR]) PR := fun a r h0 hr => by
  have hL : 2000 ≤ LINE := by decide
  obtain ⟨v, a1, J, q1, ⟨m, m0, m1, rfl⟩, q3, q4⟩ := dv_draw (k := 398) (n := 92) (zs := zs) 1 4 (by decide) hσ a r h0 hr
  have wk : ∀ s : Sto, walk .range1 [.int m] s = some ((List.range m.toNat).map fun (k : Nat) => AV.int k) := fun s => by
    show (if -4611686018427387904 ≤ m ∧ m < 4611686018427387904 then _ else _) = _
    rw [if_pos ⟨by omega, by omega⟩]
  have ml : ((List.range m.toNat).map fun (k : Nat) => AV.int k).length = m.toNat := by simp
  generalize hys : ((List.range m.toNat).map fun (k : Nat) => AV.int k) = ys at wk ml
  obtain ⟨l, a2, J2, p1, p2, p3, p4, p5⟩ := lc_draw (k := 399) (n := 94) (zs := zs) (i := 8) (elt := eltR) (P := PW) (σ := σ) (src := [.int m]) (whole := ys) (fun s => rfl) (by omega) (fun x => elt_dv 397 88 (hw x)) ys [] a1 (r ++ J) (by rw [List.length_nil]; omega) q1 (hr.addL q3)
  obtain ⟨ws, hws, rfl⟩ := avs_of p3
  have lw : ws.length ≤ 3 := by
    rw [List.length_map] at p2
    omega
  have fw : FreeL [AO.lst (ws.map W.av)] := FreeL.one (low_ws 0 ws)
  refine ⟨.tup (ws.map W.av), a2, J ++ (J2 ++ [.lst (ws.map W.av)]), p1, ⟨ws, hws, lw, rfl⟩, q3.app (p4.app fw), ?_⟩
  have e : evI (FK 399) G 0 95 lcR σ (S2 zs a ++ r) = .ok (.ref (2 + (r ++ J ++ J2).length)) (S2 zs a2 ++ (r ++ (J ++ (J2 ++ [.lst (ws.map W.av)])))) := by
    have q0 : evI (FK 399) G 0 95 lcR σ (S2 zs a ++ r) = (evs (evI (FK 399) G 0 94) [(.call 22 [(.slot 1), (.lit (.int 4))])] σ (S2 zs a ++ r)).bd fun xs s => (opt (walk .range1 xs s) s).bd fun ys s => (lcLoop (evI (FK 399) G 0 94) [8] eltR (.nm 8) .range1 xs ys [] σ ys [] s).bd fun zs s => .ok (.ref s.length) (s ++ [.lst zs]) := rfl
    rw [q0, evs, q4, bd_ok, evs, bd_ok, bd_ok, wk, opt_some, bd_ok, p5, bd_ok, List.nil_append, S2_len, S2_app]
    simp only [List.append_assoc]
  have g : (S2 zs a2 ++ (r ++ (J ++ (J2 ++ [AO.lst (ws.map W.av)]))))[2 + (r ++ J ++ J2).length]? = some (.lst (ws.map W.av)) := by
    rw [S2_at, show r ++ (J ++ (J2 ++ [AO.lst (ws.map W.av)])) = (r ++ J ++ J2) ++ [AO.lst (ws.map W.av)] from by simp only [List.append_assoc]]
    exact at_app
  rw [evI, evs, e, bd_ok, evs, bd_ok, bd_ok, tuple_ref g]
theorem stepR (x : Str) (a : Int) (kvs : Kvs) (J : Sto) (c6 : Option AV) (h0 : 0 ≤ a) (hk : All PR kvs) (hl : kvs.length < LINE) (hr : LowR (r ++ (.dct kvs :: J))) :
    ∃ (a2 : Int) (kvs2 : Kvs) (J2 : Sto) (c6' : Option AV), 0 ≤ a2 ∧ All PR kvs2 ∧ kvs2.length ≤ kvs.length + 1 ∧ FreeL J2 ∧ exs (exI (FK 399) G 98) bR (S12 sc c2 c3 c4 (some (.str x)) c6 (some (.ref (2 + r.length))) c8 c9 c10 c11) (S2 zs a ++ (r ++ (.dct kvs :: J))) = .ok (.nx (S12 sc c2 c3 c4 (some (.str x)) c6' (some (.ref (2 + r.length))) c8 c9 c10 c11)) (S2 zs a2 ++ (r ++ (.dct kvs2 :: (J ++ J2)))) := by
  obtain ⟨v, a1, J1, q1, ⟨y, y0, y1, rfl⟩, q3, q4⟩ := dv_draw (k := 398) (n := 94) (zs := zs) (σ := S12 sc c2 c3 c4 (some (.str x)) c6 (some (.ref (2 + r.length))) c8 c9 c10 c11) 1 2 (by decide) rfl a _ h0 hr
  have c : evI (FK 399) G 0 97 (.cmp .eq (.call 22 [(.slot 1), (.lit (.int 2))]) (.lit (.int 0))) (S12 sc c2 c3 c4 (some (.str x)) c6 (some (.ref (2 + r.length))) c8 c9 c10 c11) (S2 zs a ++ (r ++ (.dct kvs :: J))) = .ok (.bl (decide (y = 0))) (S2 zs a1 ++ ((r ++ (.dct kvs :: J)) ++ J1)) := by
    have l0 : ∀ s, evI (FK 399) G 0 96 (.lit (.int 0)) (S12 sc c2 c3 c4 (some (.str x)) c6 (some (.ref (2 + r.length))) c8 c9 c10 c11) s = .ok (.int 0) s := fun s => rfl
    rw [evI, q4, bd_ok, l0, bd_ok, eq_ii] <;> rfl
  have as1 : ∀ J2 : Sto, (r ++ (AO.dct kvs :: J)) ++ J2 = r ++ (.dct kvs :: (J ++ J2)) := fun J2 => List.append_assoc ..
  by_cases hy : y = 0
  · rw [decide_eq_true hy] at c
    obtain ⟨v, a2, J2, p1, hv, p3, p4⟩ := rows_dv (zs := zs) (σ := S12 sc c2 c3 c4 (some (.str x)) c6 (some (.ref (2 + r.length))) c8 c9 c10 c11) rfl rfl (fun x => rfl) a1 _ q1 (hr.addL q3)
    have st := hk.store (.inr x) hv
    refine ⟨a2, storeK kvs (.inr x) v, J1 ++ J2, c6, p1, st.1, st.2, q3.app p3, ?_⟩
    simp only [List.append_assoc, List.cons_append] at p4
    rw [as1] at c
    have z := putd_ok (K := 399) (n := 95) (o := 7) (i := 5) (m := 2 + r.length) (kvs := kvs) (x := x) p4 rfl rfl (by rw [S2_at]; exact at_app) hl
    rw [setR] at z
    exact (show exI (FK 399) G 98 (.ifs _ _ _) _ _ = _ from (ifT c).trans z)
  · rw [decide_eq_false hy] at c
    refine ⟨a1, kvs, J1, c6, q1, hk, by omega, q3, ?_⟩
    rw [as1] at c
    exact (show exI (FK 399) G 98 (.ifs _ _ _) _ _ = _ from ifE0 c)
theorem eltM_dv {σ : Slots} (hσ : σ[1]? = some (some (.ref 1))) : Dv 399 95 zs σ eltM PW := by
  have h2L : 2 ≤ LINE := by decide
  have h0L : 0 ≤ LINE := by decide
  refine dv_idx (k := 398) (n := 91) (Ps := fun l => l = [W.tr true, .num 2, .opts []].map W.av) 1 3 (by decide) hσ (fun a r h0 hr => ⟨_, a, [], h0, rfl, FreeL.nil, ?_⟩) fun l hl => ?_
  · rw [List.append_nil]
    simp only [evs, evI, bd_ok, List.length_cons, List.length_nil, Nat.reduceAdd, h2L, h0L, if_true]
    rfl
  · subst hl
    refine ⟨rfl, by decide, rfl, fun x hx => ?_⟩
    obtain ⟨w, hw, rfl⟩ := List.mem_map.mp hx
    simp only [List.mem_cons, List.not_mem_nil, or_false] at hw
    rcases hw with rfl | rfl | rfl
    · exact ⟨_, bd_tr _, rfl⟩
    · exact ⟨_, bd_num (by decide), rfl⟩
    · exact ⟨_, bd_opts (by decide +kernel), rfl⟩
def KM (NM kvs : Kvs) : Prop := All PW kvs ∧ ∀ (k : Str) (v : AV), lookK NM (.inr k) = some v → lookK kvs (.inr k) = some v
theorem stepM (NM : Kvs) (x : Str) (a : Int) (kvs : Kvs) (J : Sto) (c6 : Option AV) (h0 : 0 ≤ a) (hk : KM NM kvs) (hl : kvs.length < LINE) (hr : LowR (r ++ (.dct kvs :: J))) :
    ∃ (a2 : Int) (kvs2 : Kvs) (J2 : Sto) (c6' : Option AV), 0 ≤ a2 ∧ KM NM kvs2 ∧ kvs2.length ≤ kvs.length + 1 ∧ FreeL J2 ∧ exs (exI (FK 399) G 97) bM (S12 sc c2 c3 c4 (some (.str x)) c6 c7 c8 c9 c10 (some (.ref (2 + r.length)))) (S2 zs a ++ (r ++ (.dct kvs :: J))) = .ok (.nx (S12 sc c2 c3 c4 (some (.str x)) c6' c7 c8 c9 c10 (some (.ref (2 + r.length))))) (S2 zs a2 ++ (r ++ (.dct kvs2 :: (J ++ J2)))) := by
  have c : evI (FK 399) G 0 96 (.din true (.slot 5) (.slot 11)) (S12 sc c2 c3 c4 (some (.str x)) c6 c7 c8 c9 c10 (some (.ref (2 + r.length)))) (S2 zs a ++ (r ++ (.dct kvs :: J))) = .ok (.bl (lookK kvs (.inr x)).isNone) (S2 zs a ++ (r ++ (.dct kvs :: J))) := by
    have g : (S2 zs a ++ (r ++ (AO.dct kvs :: J)))[2 + r.length]? = some (.dct kvs) := by rw [S2_at]; exact at_app
    simp only [evI, bd_ok, List.getElem?_cons_zero, List.getElem?_cons_succ, dct_ref g, key_s, if_true]
  cases q : lookK kvs (.inr x) with
  | some v =>
    rw [q] at c
    refine ⟨a, kvs, [], c6, h0, hk, by omega, FreeL.nil, ?_⟩
    rw [List.append_nil]
    exact (show exI (FK 399) G 97 (.ifs _ _ _) _ _ = _ from ifE0 c)
  | none =>
    rw [q] at c
    obtain ⟨v, a2, J2, p1, hv, p3, p4⟩ := eltM_dv (zs := zs) (σ := S12 sc c2 c3 c4 (some (.str x)) c6 c7 c8 c9 c10 (some (.ref (2 + r.length)))) rfl a _ h0 hr
    have st := hk.1.store (.inr x) hv
    refine ⟨a2, storeK kvs (.inr x) v, J2, c6, p1, ⟨st.1, fun k u hu => ?_⟩, st.2, p3, ?_⟩
    · have h1 := hk.2 k u hu
      by_cases e : (Sum.inr k : L2.Key) = .inr x
      · rw [e, q] at h1
        cases h1
      · rw [look_other _ _ _ _ e]
        exact h1
    · simp only [List.append_assoc, List.cons_append] at p4
      have z := putd_ok (K := 399) (n := 94) (o := 11) (i := 5) (m := 2 + r.length) (kvs := kvs) (x := x) p4 rfl rfl (by rw [S2_at]; exact at_app) hl
      rw [setR] at z
      exact (show exI (FK 399) G 97 (.ifs _ _ _) _ _ = _ from (ifT c).trans z)
end
end L03


set_option Elab.async false
set_option linter.all false
set_option maxRecDepth 100000
namespace L03
open PySem Jp
theorem l1L : ∀ s : Sto, opCmp .noN .non .non s = some false := fun s => rfl
def stMore : List IS := [(.asg (.nm 11) (.dcopy (.slot 4))), (.for_ (.nm 5) .seq [(.lst (txE nmN))] bM),
      (.ifs (.nt (.call 20 [(.call 3 [(.slot 3), (.slot 11), (.slot 7), (.slot 9)]), (.slot 10)])) [(.ret (.lit (.bl false)))] [])]
def ouB : List IS := [(.asg (.nm 3) (.call 24 [(.slot 1), (.bin .add (.lit (.int 1)) (.call 22 [(.slot 1), (.lit (.int 3))]))])),
      (.asg (.nm 4) .dnew),
      (.for_ (.nm 5) .seq [(.lst (txE nmN))] bN),
      (.asg (.nm 7) .dnew),
      (.for_ (.nm 5) .seq [(.lst (txE nmR))] bR),
      (.asg (.nm 9) (.idx (.lst [(.lit .non), (.lit (.int 1)), (.lit (.int 3))]) (.call 22 [(.slot 1), (.lit (.int 3))]))),
      (.asg (.nm 10) (.call 30 [(.slot 3), (.slot 4), (.slot 7), (.slot 9)])),
      (.ifs (.nt (.call 20 [(.call 3 [(.slot 3), (.slot 4), (.slot 7), (.slot 9)]), (.slot 10)])) [(.ret (.lit (.bl false)))] []),
      (.ifs (.an (.cmp .noN (.slot 10) (.lit .non)) (.call 34 [(.slot 3)])) stMore [])]
def hS : IS := (.asg (.nm 1) (.lst [(.call 21 [(.slot 0), (.lit (.int 0)), (.lit (.int 60))]), (.lit (.int 0))]))
theorem d35_eq : d35 = ⟨12, 1, [hS, (.for_ (.nm 2) .range1 [(.lit (.int 6))] ouB), (.ret (.lit (.bl true)))]⟩ := rfl
theorem SZ3 : SZ 3 = 40 := rfl
theorem SZ_mono : ∀ {a b : Nat}, a ≤ b → SZ a ≤ SZ b := fun {a b} h => by
  induction h with
  | refl => exact Nat.le_refl _
  | @step m h ih =>
    show SZ a ≤ 1 + 3 * SZ m
    omega
theorem low_nil : Free (.dct []) := fun n => rfl
theorem turn (zs : List Int) (a : Int) (r : Sto) (sc : AV) (c2 c3 c4 c5 c6 c7 c8 c9 c10 c11 : Option AV) (h0 : 0 ≤ a) (hr : LowR r) : ∃ (a2 : Int) (r2 : Sto) (b3 b4 b5 b6 b7 b8 b9 b10 b11 : Option AV), 0 ≤ a2 ∧ LowR r2 ∧
    exs (exI (FK 399) G 99) ouB (S12 sc c2 c3 c4 c5 c6 c7 c8 c9 c10 c11) (S2 zs a ++ r) = .ok (.nx (S12 sc c2 b3 b4 b5 b6 b7 b8 b9 b10 b11)) (S2 zs a2 ++ r2) := by
  have hL : 2000 ≤ LINE := by decide
  -- the meaning's text
  obtain ⟨x0, q1, q2, q3⟩ := draw2 398 zs a 3 r h0 (by decide)
  obtain ⟨d, hd⟩ : ∃ d : Nat, 1 + x0 = (d : Nat) := ⟨(1 + x0).toNat, by omega⟩
  have hd3 : d ≤ 3 := by omega
  obtain ⟨e, a1, h1, he, hh, hs, ev⟩ := expr_draw (396 - d) d zs (a + 1) r (by omega) hr
  rw [show 396 - d + 3 + d = 399 from by omega] at ev
  have se : (pre e).length ≤ 40 := Nat.le_trans hs (SZ_mono hd3)
  have p3 : exI (FK 399) G 99 (.asg (.nm 3) (.call 24 [(.slot 1), (.bin .add (.lit (.int 1)) (.call 22 [(.slot 1), (.lit (.int 3))]))])) (S12 sc c2 c3 c4 c5 c6 c7 c8 c9 c10 c11) (S2 zs a ++ r) = .ok (.nx (S12 sc c2 (some (enc e)) c4 c5 c6 c7 c8 c9 c10 c11)) (S2 zs a1 ++ r) := by
    have ad : ∀ s : Sto, opBin .add (.int 1) (.int x0) s = .ok (.int (d : Nat)) s := fun s => by
      rw [← hd] <;> rfl
    simp only [exI, evI, evs, bd_ok, List.getElem?_cons_zero, List.getElem?_cons_succ, call1, Nat.mul_zero, q3, ad, ev]
    rfl
  -- what the names mean
  have p4 : exI (FK 399) G 99 (.asg (.nm 4) .dnew) (S12 sc c2 (some (enc e)) c4 c5 c6 c7 c8 c9 c10 c11) (S2 zs a1 ++ r) = .ok (.nx (S12 sc c2 (some (enc e)) (some (.ref (2 + r.length))) c5 c6 c7 c8 c9 c10 c11)) (S2 zs a1 ++ (r ++ [.dct []])) := by
    have q : evI (FK 399) G 0 98 .dnew (S12 sc c2 (some (enc e)) c4 c5 c6 c7 c8 c9 c10 c11) (S2 zs a1 ++ r) = .ok (.ref (2 + r.length)) (S2 zs a1 ++ (r ++ [.dct []])) := by
      rw [evI, S2_len, S2_app]
    rw [exI, q] <;> rfl
  obtain ⟨a2, NM, JN, c5', c6', h2, hNM, _, fN, p5⟩ := loopD (K := 399) (n := 96) (zs := zs) (r := r) (body := bN) (All PW) (fun kvs h => h.free fun v hv => hv.low) 0 nmN (by show 6 < LINE; omega) hr (fun b5 b6 => S12 sc c2 (some (enc e)) (some (.ref (2 + r.length))) b5 b6 c7 c8 c9 c10 c11) (fun _ _ => rfl) (fun _ _ _ => rfl)
    (fun x a kvs J c6 _ h0 hk hl hr => stepN rfl x a kvs J c6 h0 hk hl hr) a1 [] c5 c6 h1 (fun kv h => by cases h) (Nat.le_refl 0) (by show 6 ≤ LINE; omega)
  have frN : ∀ o ∈ (AO.dct NM :: JN), Free o := fun o ho => by
    rcases List.mem_cons.mp ho with q | q
    · rw [q]
      exact hNM.free fun v hv => hv.low
    · exact fN o q
  have hrB : LowR (r ++ (.dct NM :: JN)) := hr.addL frN
  have gN : (r ++ (AO.dct NM :: JN))[r.length]? = some (.dct NM) := at_app
  generalize hRB : r ++ (AO.dct NM :: JN) = rB at p5 hrB gN
  -- what the rows hold
  have p6 : exI (FK 399) G 99 (.asg (.nm 7) .dnew) (S12 sc c2 (some (enc e)) (some (.ref (2 + r.length))) c5' c6' c7 c8 c9 c10 c11) (S2 zs a2 ++ rB) = .ok (.nx (S12 sc c2 (some (enc e)) (some (.ref (2 + r.length))) c5' c6' (some (.ref (2 + rB.length))) c8 c9 c10 c11)) (S2 zs a2 ++ (rB ++ [.dct []])) := by
    have q : evI (FK 399) G 0 98 .dnew (S12 sc c2 (some (enc e)) (some (.ref (2 + r.length))) c5' c6' c7 c8 c9 c10 c11) (S2 zs a2 ++ rB) = .ok (.ref (2 + rB.length)) (S2 zs a2 ++ (rB ++ [.dct []])) := by
      rw [evI, S2_len, S2_app]
    rw [exI, q] <;> rfl
  obtain ⟨a3, RW, JR, d5, d6, h3, hRW, _, fR, p7⟩ := loopD (K := 399) (n := 96) (zs := zs) (r := rB) (body := bR) (All PR) (fun kvs h => h.free fun v hv => hv.low) 0 nmR (by show 3 < LINE; omega) hrB (fun b5 b6 => S12 sc c2 (some (enc e)) (some (.ref (2 + r.length))) b5 b6 (some (.ref (2 + rB.length))) c8 c9 c10 c11) (fun _ _ => rfl) (fun _ _ _ => rfl)
    (fun x a kvs J c6 _ h0 hk hl hr => stepR x a kvs J c6 h0 hk hl hr) a2 [] c5' c6' h2 (fun kv h => by cases h) (Nat.le_refl 0) (by show 3 ≤ LINE; omega)
  have frR : ∀ o ∈ (AO.dct RW :: JR), Free o := fun o ho => by
    rcases List.mem_cons.mp ho with q | q
    · rw [q]
      exact hRW.free fun v hv => hv.low
    · exact fR o q
  have hrC : LowR (rB ++ (.dct RW :: JR)) := hrB.addL frR
  have gR : (rB ++ (AO.dct RW :: JR))[rB.length]? = some (.dct RW) := at_app
  have gN1 := at_left gN (.dct RW :: JR)
  generalize hRC : rB ++ (AO.dct RW :: JR) = rC at p7 hrC gR gN1
  -- the row's number
  obtain ⟨v, a4, J4, h4, ⟨no, hno, rfl⟩, f4, p8'⟩ := dv_idx (k := 398) (n := 94) (zs := zs) (σ := S12 sc c2 (some (enc e)) (some (.ref (2 + r.length))) d5 d6 (some (.ref (2 + rB.length))) c8 c9 c10 c11) (es := [(.lit .non), (.lit (.int 1)), (.lit (.int 3))]) (Ps := fun l => l = [.non, .int 1, .int 3]) (Q := fun v => ∃ no : Option Int, NoB no ∧ v = noA no) 1 3 (by decide) rfl (fun a r h0 _ => ⟨_, a, [], h0, rfl, FreeL.nil, by rw [List.append_nil]; rfl⟩) (fun l hl => by
      subst hl
      refine ⟨rfl, by decide, rfl, fun x hx => ?_⟩
      simp only [List.mem_cons, List.not_mem_nil, or_false] at hx
      rcases hx with rfl | rfl | rfl
      · exact ⟨none, Or.inl rfl, rfl⟩
      · exact ⟨some 1, Or.inr (Or.inl rfl), rfl⟩
      · exact ⟨some 3, Or.inr (Or.inr rfl), rfl⟩) a3 rC h3 hrC
  have p8 : exI (FK 399) G 99 (.asg (.nm 9) (.idx (.lst [(.lit .non), (.lit (.int 1)), (.lit (.int 3))]) (.call 22 [(.slot 1), (.lit (.int 3))]))) (S12 sc c2 (some (enc e)) (some (.ref (2 + r.length))) d5 d6 (some (.ref (2 + rB.length))) c8 c9 c10 c11) (S2 zs a3 ++ rC) = .ok (.nx (S12 sc c2 (some (enc e)) (some (.ref (2 + r.length))) d5 d6 (some (.ref (2 + rB.length))) c8 (some (noA no)) c10 c11)) (S2 zs a4 ++ (rC ++ J4)) := by
    rw [exI, p8'] <;> rfl
  have hrD : LowR (rC ++ J4) := hrC.addL f4
  have gN2 := at_left gN1 J4
  have gR2 := at_left gR J4
  generalize hRD : rC ++ J4 = rD at p8 hrD gN2 gR2
  -- what it means
  obtain ⟨N, hB, hNo, hf, hg, hlen⟩ := env_of hNM hRW hno
  have bE := bd_E hB e he
  have E1 : EnvOk N (2 + r.length) (2 + rB.length) (S2 zs a4 ++ rD) := ⟨⟨NM, by rw [S2_at]; exact gN2, hf⟩, ⟨RW, by rw [S2_at]; exact gR2, hg⟩, hlen⟩
  have lo1 := lowS2 zs a4 rD hrD
  have m0 := lmean N _ _ e _ E1 lo1 bE (by omega) no hNo
  have m1 := mean N _ _ e _ E1 lo1 bE (by omega) no hNo
  have bDue := bd_val _ _ bE
  have sm := fun s => (same_W 398 _ bDue).call s
  have p9 : exI (FK 399) G 99 (.asg (.nm 10) (.call 30 [(.slot 3), (.slot 4), (.slot 7), (.slot 9)])) (S12 sc c2 (some (enc e)) (some (.ref (2 + r.length))) d5 d6 (some (.ref (2 + rB.length))) c8 (some (noA no)) c10 c11) (S2 zs a4 ++ rD) = .ok (.nx (S12 sc c2 (some (enc e)) (some (.ref (2 + r.length))) d5 d6 (some (.ref (2 + rB.length))) c8 (some (noA no)) (some (valE N e).av) c11)) (S2 zs a4 ++ rD) := by
    simp only [exI, evI, evs, bd_ok, List.getElem?_cons_zero, List.getElem?_cons_succ, Nat.mul_zero, m0]
    rfl
  have p10 : exI (FK 399) G 99 (.ifs (.nt (.call 20 [(.call 3 [(.slot 3), (.slot 4), (.slot 7), (.slot 9)]), (.slot 10)])) [(.ret (.lit (.bl false)))] []) (S12 sc c2 (some (enc e)) (some (.ref (2 + r.length))) d5 d6 (some (.ref (2 + rB.length))) c8 (some (noA no)) (some (valE N e).av) c11) (S2 zs a4 ++ rD) = .ok (.nx (S12 sc c2 (some (enc e)) (some (.ref (2 + r.length))) d5 d6 (some (.ref (2 + rB.length))) c8 (some (noA no)) (some (valE N e).av) c11)) (S2 zs a4 ++ rD) := by
    refine ifE0 ?_
    simp only [evI, evs, bd_ok, List.getElem?_cons_zero, List.getElem?_cons_succ, Nat.mul_zero, m1, sm, tr_b, Option.map_some, opt_some]
    rfl
  have pre10 := (fun (X : Rs Fl) (st : IS) (h : exI (FK 399) G 99 st (S12 sc c2 (some (enc e)) (some (.ref (2 + r.length))) d5 d6 (some (.ref (2 + rB.length))) c8 (some (noA no)) (some (valE N e).av) c11) (S2 zs a4 ++ rD) = X) => (exs_nx p3).trans ((exs_nx p4).trans ((exs_nx p5).trans ((exs_nx p6).trans ((exs_nx p7).trans ((exs_nx p8).trans ((exs_nx p9).trans ((exs_nx p10).trans (show exs _ [st] _ _ = _ from h)))))))))
  -- more is known
  have pl := (plain_ok e 398 (by omega)).call (S2 zs a4 ++ rD)
  have c : evI (FK 399) G 0 98 (.an (.cmp .noN (.slot 10) (.lit .non)) (.call 34 [(.slot 3)])) (S12 sc c2 (some (enc e)) (some (.ref (2 + r.length))) d5 d6 (some (.ref (2 + rB.length))) c8 (some (noA no)) (some (valE N e).av) c11) (S2 zs a4 ++ rD) = .ok (.bl (!isNo (valE N e) && plain e)) (S2 zs a4 ++ rD) := by
    have c1 : evI (FK 399) G 0 97 (.cmp .noN (.slot 10) (.lit .non)) (S12 sc c2 (some (enc e)) (some (.ref (2 + r.length))) d5 d6 (some (.ref (2 + rB.length))) c8 (some (noA no)) (some (valE N e).av) c11) (S2 zs a4 ++ rD) = .ok (.bl (!isNo (valE N e))) (S2 zs a4 ++ rD) := by
      simp only [evI, bd_ok, List.getElem?_cons_zero, List.getElem?_cons_succ, noN_ok, Option.map_some, opt_some]
    have c2' : evI (FK 399) G 0 97 (.call 34 [(.slot 3)]) (S12 sc c2 (some (enc e)) (some (.ref (2 + r.length))) d5 d6 (some (.ref (2 + rB.length))) c8 (some (noA no)) (some (valE N e).av) c11) (S2 zs a4 ++ rD) = .ok (.bl (plain e)) (S2 zs a4 ++ rD) := by
      simp only [evI, evs, bd_ok, List.getElem?_cons_zero, List.getElem?_cons_succ, Nat.mul_zero, pl]
    rw [evI, c1, bd_ok, tr_b, opt_some, bd_ok]
    cases isNo (valE N e) with
    | true => rfl
    | false => exact c2'
  cases hq : (!isNo (valE N e) && plain e) with
  | false =>
    rw [hq] at c
    exact ⟨a4, rD, _, _, _, _, _, _, _, _, _, h4, hrD, pre10 _ _ (ifE0 c)⟩
  | true =>
    rw [hq] at c
    rw [Bool.and_eq_true, Bool.not_eq_true'] at hq
    have p11 : exI (FK 399) G 98 (.asg (.nm 11) (.dcopy (.slot 4))) (S12 sc c2 (some (enc e)) (some (.ref (2 + r.length))) d5 d6 (some (.ref (2 + rB.length))) c8 (some (noA no)) (some (valE N e).av) c11) (S2 zs a4 ++ rD) = .ok (.nx (S12 sc c2 (some (enc e)) (some (.ref (2 + r.length))) d5 d6 (some (.ref (2 + rB.length))) c8 (some (noA no)) (some (valE N e).av) (some (.ref (2 + rD.length))))) (S2 zs a4 ++ (rD ++ [.dct NM])) := by
      have g0 : (S2 zs a4 ++ rD)[2 + r.length]? = some (.dct NM) := by rw [S2_at]; exact gN2
      have q : evI (FK 399) G 0 97 (.dcopy (.slot 4)) (S12 sc c2 (some (enc e)) (some (.ref (2 + r.length))) d5 d6 (some (.ref (2 + rB.length))) c8 (some (noA no)) (some (valE N e).av) c11) (S2 zs a4 ++ rD) = .ok (.ref (2 + rD.length)) (S2 zs a4 ++ (rD ++ [.dct NM])) := by
        simp only [evI, bd_ok, List.getElem?_cons_zero, List.getElem?_cons_succ, dct_ref g0]
        rw [S2_len, S2_app]
      rw [exI, q] <;> rfl
    have lNM : NM.length ≤ 0 + nmN.length := by assumption
    obtain ⟨a5, MO, JM, g5, g6, h5, hMO, _, fM, p12⟩ := loopD (K := 399) (n := 95) (zs := zs) (r := rD) (body := bM) (KM NM) (fun kvs h => h.1.free fun v hv => hv.low) (0 + nmN.length) nmN (by show 12 < LINE; omega) hrD (fun b5 b6 => S12 sc c2 (some (enc e)) (some (.ref (2 + r.length))) b5 b6 (some (.ref (2 + rB.length))) c8 (some (noA no)) (some (valE N e).av) (some (.ref (2 + rD.length)))) (fun _ _ => rfl) (fun _ _ _ => rfl)
      (fun x a kvs J c6 _ h0 hk hl hr => stepM NM x a kvs J c6 h0 hk hl hr) a4 NM d5 d6 h4 ⟨hNM, fun _ _ h => h⟩ lNM (by show 6 ≤ LINE; omega)
    have frM : ∀ o ∈ (AO.dct MO :: JM), Free o := fun o ho => by
      rcases List.mem_cons.mp ho with q | q
      · rw [q]
        exact hMO.1.free fun v hv => hv.low
      · exact fM o q
    have hrE : LowR (rD ++ (.dct MO :: JM)) := hrD.addL frM
    have gM : (rD ++ (AO.dct MO :: JM))[rD.length]? = some (.dct MO) := at_app
    have gR3 := at_left gR2 (.dct MO :: JM)
    generalize hRE : rD ++ (AO.dct MO :: JM) = rE at p12 hrE gM gR3
    obtain ⟨M, hB2, hNo2, hf2, hg2, hlen2⟩ := env_of hMO.1 hRW hno
    have le : ∀ x, LeW (N.nm x) (M.nm x) := fun x => by
      have a1 := hf x
      have a2 := hf2 x
      cases q : lookK NM (.inr x) with
      | none =>
        rw [q] at a1
        exact Or.inl (av_non a1)
      | some v =>
        rw [q] at a1
        rw [hMO.2 x v q] at a2
        exact Or.inr (av_inj (a1.symm.trans a2))
    have agr : valE M e = valE N e := by
      rcases le_val le (hNo.trans hNo2.symm) e hq.2 with q | q
      · rw [q] at hq
        cases hq.1
      · exact q.symm
    have E2 : EnvOk M (2 + rD.length) (2 + rB.length) (S2 zs a5 ++ rE) := ⟨⟨MO, by rw [S2_at]; exact gM, hf2⟩, ⟨RW, by rw [S2_at]; exact gR3, hg2⟩, hlen2⟩
    have m2 := mean M _ _ e _ E2 (lowS2 zs a5 rE hrE) (bd_E hB2 e he) (by omega) no hNo2
    rw [agr] at m2
    have p13 : exI (FK 399) G 98 (.ifs (.nt (.call 20 [(.call 3 [(.slot 3), (.slot 11), (.slot 7), (.slot 9)]), (.slot 10)])) [(.ret (.lit (.bl false)))] []) (S12 sc c2 (some (enc e)) (some (.ref (2 + r.length))) g5 g6 (some (.ref (2 + rB.length))) c8 (some (noA no)) (some (valE N e).av) (some (.ref (2 + rD.length)))) (S2 zs a5 ++ rE) = .ok (.nx (S12 sc c2 (some (enc e)) (some (.ref (2 + r.length))) g5 g6 (some (.ref (2 + rB.length))) c8 (some (noA no)) (some (valE N e).av) (some (.ref (2 + rD.length))))) (S2 zs a5 ++ rE) := by
      refine ifE0 ?_
      simp only [evI, evs, bd_ok, List.getElem?_cons_zero, List.getElem?_cons_succ, Nat.mul_zero, m2, sm, tr_b, Option.map_some, opt_some]
      rfl
    exact ⟨a5, rE, _, _, _, _, _, _, _, _, _, h5, hrE, pre10 _ _ ((ifT c).trans ((exs_nx p11).trans ((exs_nx p12).trans (show exs _ [_] _ _ = _ from p13))))⟩
theorem law (ns : List Int) : ∃ s', tab G defs 400 0 35 [.lst (ns.map AV.int)] [] = .ok (.bl true) s' := by
  obtain ⟨zs, hd⟩ := digits 397 ns
  have hc : callF (tab G defs 399 0 21) [.lst (ns.map AV.int), .int 0, .int 60] [] = .ok (.ref 0) (St zs) := by
    unfold callF
    have e : lowL 0 [AV.lst (ns.map AV.int), .int 0, .int 60] = true := by
      show (lowL 0 (ns.map AV.int) && (true && (true && true))) = true
      rw [low_ints 0 ns] <;> rfl
    rw [e, hd] <;> rfl
  have h1 : exI (FK 399) G 100 hS [some (.lst (ns.map AV.int)), none, none, none, none, none, none, none, none, none, none, none] [] = .ok (.nx (S12 (.lst (ns.map AV.int)) none none none none none none none none none none)) (S2 zs 0 ++ []) := by
    unfold hS
    simp only [exI, evI, evs, bd_ok, List.getElem?_cons_zero, Nat.mul_zero, hc]
    rfl
  have walk6 : ∀ s : Sto, walk .range1 [.int 6] s = some (upto 6) := fun s => rfl
  obtain ⟨σ', s', f1, a2, r2, c2, c3, c4, c5, c6, c7, c8, c9, c10, c11, _, _, rfl, rfl⟩ := for_inv (ex := exs (exI (FK 399) G 99) ouB) (t := .nm 2) (wk := .range1) (src := [.int 6]) (whole := upto 6)
    (fun m σ s => ∃ (a : Int) (r : Sto) (c2 c3 c4 c5 c6 c7 c8 c9 c10 c11 : Option AV), 0 ≤ a ∧ LowR r ∧ σ = S12 (.lst (ns.map AV.int)) c2 c3 c4 c5 c6 c7 c8 c9 c10 c11 ∧ s = S2 zs a ++ r) (upto 6) 0 (S12 (.lst (ns.map AV.int)) none none none none none none none none none none) (S2 zs 0 ++ []) (fun m x σ s hx hp => by
      obtain ⟨a, r, c2, c3, c4, c5, c6, c7, c8, c9, c10, c11, h0, hr, rfl, rfl⟩ := hp
      obtain ⟨a2, r2, b3, b4, b5, b6, b7, b8, b9, b10, b11, h2, hr2, e⟩ := turn zs a r (.lst (ns.map AV.int)) (some x) c3 c4 c5 c6 c7 c8 c9 c10 c11 h0 hr
      exact ⟨_, _, _, rfl, e, rfl, a2, r2, some x, b3, b4, b5, b6, b7, b8, b9, b10, b11, h2, hr2, rfl, rfl⟩) ⟨0, [], none, none, none, none, none, none, none, none, none, none, Int.le_refl 0, rfl, rfl, rfl⟩
  have h2 : exI (FK 399) G 100 (.for_ (.nm 2) .range1 [(.lit (.int 6))] ouB) (S12 (.lst (ns.map AV.int)) none none none none none none none none none none) (S2 zs 0 ++ []) = .ok (.nx (S12 (.lst (ns.map AV.int)) c2 c3 c4 c5 c6 c7 c8 c9 c10 c11)) (S2 zs a2 ++ r2) := by
    rw [exI, show evs (evI (FK 399) G 0 99) [.lit (.int 6)] (S12 (.lst (ns.map AV.int)) none none none none none none none none none none) (S2 zs 0 ++ []) = .ok [.int 6] (S2 zs 0 ++ []) from rfl, bd_ok, walk6, opt_some, bd_ok]
    exact f1
  have hb : exs (exI (FK 399) G 100) [hS, (.for_ (.nm 2) .range1 [(.lit (.int 6))] ouB), (.ret (.lit (.bl true)))] [some (.lst (ns.map AV.int)), none, none, none, none, none, none, none, none, none, none, none] [] = .ok (.rt (.bl true)) (S2 zs a2 ++ r2) := (exs_nx h1).trans ((exs_nx h2).trans (rtE rfl))
  exact ⟨_, runD_rt (F := FK 399) (d := ⟨12, 1, [hS, (.for_ (.nm 2) .range1 [(.lit (.int 6))] ouB), (.ret (.lit (.bl true)))]⟩) (xs := [.lst (ns.map AV.int)]) rfl hb⟩
end L03


set_option maxRecDepth 1000000
set_option maxHeartbeats 4000000
namespace L03H
open PySem PySem.Spec PyProof.Rows L2 Jp
theorem math (ns : List Int) : ∃ s', tab L03.G (qs.map (·.d)) 400 0 35 [.lst (ns.map AV.int)] [] = .ok (.bl true) s' := L03.law ns
end L03H
open PySem PySem.W PySem.Calls PyProof.Rows
theorem PySem.Challenge.cw_formflow_k03_meaning_exact_holds : PySem.Challenge.rw_formflow_k03_meaning_exact.Holds := by
  w_on; o_law
  refine HandSHeadRun.head_any (r := OpenLaw.row PySem.Challenge.rw_formflow_k03_meaning_exact) (q := view (OpenLaw.row PySem.Challenge.rw_formflow_k03_meaning_exact).prog [39]) (H := L03H.hk) (ob := L03H.ob) (M := 6000) (loose := L03H.names)
    (d := HandSHeadRun.topDef (OpenLaw.row PySem.Challenge.rw_formflow_k03_meaning_exact).prog 39) (kwd := []) L03H.ob_eq (by kernel_rfl) (fun s => by kernel_rfl) L03H.run (by kernel_rfl) (by kernel_rfl) (by kernel_rfl) (by rfl) (by first | assumption | decide +kernel) (by decide +kernel) ⟨rfl, rfl, rfl, rfl, rfl, by decide +kernel⟩ ?hw ?hc
  case hw => w_witness2
  case hc =>
    exact Jp.law_walk (dp := 5) (l := PySem.Challenge.rw_formflow_k03_meaning_exact) (n := 63) (k := 400) (li := 35) (qs := L03H.qs) (xd := L03H.xd) (ql := L03H.q35) (cn := L03H.cn) (C := L03.G) (x := "script") rfl (by decide) (by kernel_rfl) ⟨rfl, rfl, by decide, by decide, by decide⟩ (fun w h Y => Y) rfl (by kernel_rfl) (by kernel_rfl) rfl rfl rfl L03H.goods L03H.goodX L03H.cls0 L03H.lm0 rfl L03H.lt0
      (fun cb w T k n S => @Jp.ss_ok _ cb w T k n S) (fun ns _ _ => L03H.math ns)


