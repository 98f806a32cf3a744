import PyProof.Rows.All
import Wide.All
import OpenK.AllK
import Wide.FinOn
import HandS.ForMost
import HandS.Flow
import HandS.IsInst
import HandS.Conv
import HandS.Wide
import HandS.Exc
import HandS.ExcOwn
import HandS.WordsExc
import HandS.Text
import HandS.More
import KE.SortData
import HandS.AnyAll
import HandS.Style
import HandS.RaiseMore
import HandS.NoneIn
import HandS.Nested
import HandS.GenOver
import PyProof.GenQ
import HandS.GenList
import HandS.Defaults
import HandS.SetFor
import HandS.SetTxt0
import HandS.SortOrd
import HandS.Strs
import HandS.Words
import HandS.EndTab
import HandS.HeadHook4
import HandS.Head3
import HandS.Head4
import KE.KStateDown
import HandS.Head0
import HandS.Head1
import HandS.Head2
import PySem.Challenge.RW_formflow_k00_values_coded
set_option Elab.async false
set_option linter.all false
set_option maxRecDepth 100000
/-! A small language whose programs are compared with the statement's trees; what it works out is what the trees do. -/
namespace Ip
open PySem

/-- a value: what can change stands in the store, by its number -/
inductive AV where
  | non | bl (b : Bool) | int (i : Int) | str (x : Str) | tup (xs : List AV) | lst (xs : List AV) | ref (n : Nat)
  deriving Inhabited
inductive AO where
  | lst (xs : List AV)
  deriving Inhabited
abbrev Sto := List AO
abbrev Slots := List (Option AV)
structure AX where
  cls : Nat
  fs : List AV
/-- what comes out -/
inductive Rs (α : Type) where
  | ok (a : α) (s : Sto) | exc (x : AX) (s : Sto) | bad
def Rs.bd {α β : Type} (r : Rs α) (f : α → Sto → Rs β) : Rs β := match r with
  | .ok a s => f a s
  | .exc x s => .exc x s
  | .bad => .bad
inductive BO where
  | add | sub | mul | fdiv | mod | pow
  deriving DecidableEq
inductive CO where
  | eq | ne | lt | le | gt | ge | isN | noN | isB | noB | in_ | notin
  deriving DecidableEq
inductive BI where
  | len | int | str | repr | list | tuple | sortedSet
  deriving DecidableEq
inductive TY where
  | int | str | bool | list | tuple
  deriving DecidableEq
inductive ME where
  | append | startswith | endswith | split | join | find
  deriving DecidableEq
/-- what a for walks -/
inductive IW where
  | seq | signs | range1 | range2
  deriving DecidableEq
/-- a target -/
inductive IT where
  | nm (i : Nat) | tp (ts : List IT)
inductive IE where
  | slot (i : Nat) | con (i : Nat) | lit (d : AV)
  | tup (es : List IE) | lst (es : List IE)
  | bin (op : BO) (a b : IE) | neg (a : IE)
  | cmp (op : CO) (a b : IE) | chain (o p : CO) (a b c : IE)
  | nt (a : IE) | an (a b : IE) | or_ (a b : IE) | ife (c a b : IE)
  | call (f : Nat) (es : List IE)
  | bi (b : BI) (es : List IE)
  | isi (a : IE) (t : TY)
  | me (m : ME) (o : IE) (es : List IE)
  | idx (a i : IE) | sl (a : IE) (lo hi : Option IE)
  | lc (own : List (Str × Nat)) (elt : IE) (t : IT) (w : IW) (it : List IE) (ifs : List IE)
  | quant (all : Bool) (own : Nat) (elt : IE) (it : IE)
inductive IS where
  | ex (e : IE) | asg (t : IT) (e : IE) | put (o i e : IE) | aug (i : Nat) (op : BO) (e : IE)
  | ret (e : IE) | retN | ifs (c : IE) (a b : List IS)
  | for_ (t : IT) (w : IW) (it : List IE) (body : List IS) | while_ (c : IE) (body : List IS)
  | brk | cont | pass
end Ip

set_option Elab.async false
set_option linter.all false
set_option maxRecDepth 100000
namespace Ip
open PySem

def optAll {α β : Type} (f : α → Option β) : List α → Option (List β)
  | [] => some []
  | x :: r => match f x with
    | some y => (match optAll f r with
      | some ys => some (y :: ys)
      | none => none)
    | none => none
/-- as data -/
def AV.data (s : Sto) : Nat → AV → Option PyData
  | 0, _ => none
  | n + 1, d => match d with
    | .non => some .none
    | .bl b => some (.bool b)
    | .int i => some (.int i)
    | .str x => some (.str x)
    | .tup xs => (optAll (AV.data s n) xs).map .tuple
    | .lst xs => (optAll (AV.data s n) xs).map .list
    | .ref k => match s[k]? with
      | some (.lst xs) => (optAll (AV.data s n) xs).map .list
      | none => none
def asStr : AV → Option Str
  | .str x => some x
  | _ => none
def flatA : AV → Bool
  | .non => true
  | .bl _ => true
  | .int _ => true
  | .str _ => true
  | _ => false
def eqA : AV → AV → Bool
  | .non, .non => true
  | .bl a, .bl b => a == b
  | .bl a, .int b => (if a then 1 else 0) == b
  | .int a, .bl b => a == (if b then 1 else 0)
  | .int a, .int b => a == b
  | .str a, .str b => a == b
  | _, _ => false
/-- == where it needs no look at the store -/
def scalA : AV → AV → Option Bool
  | .non, .non => some true
  | .non, .int _ => some false | .int _, .non => some false
  | .non, .bl _ => some false | .bl _, .non => some false
  | .non, .str _ => some false | .str _, .non => some false
  | .int i, .int j => some (i == j)
  | .bl i, .bl j => some (i == j)
  | .str i, .str j => some (i == j)
  | .int _, .str _ => some false | .str _, .int _ => some false
  | .bl _, .str _ => some false | .str _, .bl _ => some false
  | _, _ => none
/-- the items of a list or tuple -/
def items (s : Sto) : AV → Option (List AV)
  | .tup xs => some xs
  | .lst xs => some xs
  | .ref k => (match s[k]? with
    | some (.lst xs) => some xs
    | none => none)
  | _ => none
def LINE : Nat := 16777216
def truth (s : Sto) : AV → Option Bool
  | .non => some false
  | .bl b => some b
  | .int i => some (i != 0)
  | .str y => if y.length ≤ LINE then some ((y.length : Int) != 0) else none
  | d => (items s d).map fun xs => !xs.isEmpty
def eqD (x y : AV) (s : Sto) : Option Bool := match scalA x y with
  | some b => some b
  | none => match x.data s 60, y.data s 60 with
    | some d, some e => if SeqAt.shaped d && SeqAt.shaped e then some (PyData.eqv d e) else none
    | _, _ => none
def opBin (op : BO) (x y : AV) (s : Sto) : Rs AV := match op, x, y with
  | .add, .int i, .int j => .ok (.int (i + j)) s
  | .add, .str a, .str b => if a.length + b.length ≤ LINE then .ok (.str (a ++ b)) s else .bad
  | .add, .tup xs, .tup ys => if xs.isEmpty = false ∧ xs.length + ys.length ≤ LINE then .ok (.tup (xs ++ ys)) s else .bad
  | .add, .ref m, .ref n => (match s[m]?, s[n]? with
    | some (.lst xs), some (.lst ys) => if xs.length + ys.length ≤ LINE then .ok (.ref s.length) (s ++ [.lst (xs ++ ys)]) else .bad
    | _, _ => .bad)
  | .sub, .int i, .int j => .ok (.int (i - j)) s
  | .mul, .int i, .int j => if (-18446744073709551616 < i ∧ i < 18446744073709551616) ∨ (-18446744073709551616 < j ∧ j < 18446744073709551616) then .ok (.int (i * j)) s else .bad
  | .fdiv, .int i, .int j => if 0 < j ∧ j < 1073741824 then .ok (.int (i / j)) s else .bad
  | .mod, .int i, .int j => if 0 < j then .ok (.int (i % j)) s else .bad
  | .pow, .int i, .int j => if 0 ≤ j ∧ j ≤ 1000000 ∧ i.natAbs < 18446744073709551616 then .ok (.int (i ^ j.toNat)) s else .bad
  | _, _, _ => .bad
def opt {α : Type} (o : Option α) (s : Sto) : Rs α := match o with
  | some a => .ok a s
  | none => .bad
def inA (x : AV) (y : AV) (s : Sto) : Option Bool := match y with
  | .str z => (match x with
    | .str ⟨⟨[c]⟩⟩ => some (decide (c ∈ z.cps.toList))
    | _ => none)
  | _ => match items s y with
    | some xs => if flatA x && xs.all flatA then some (xs.any fun z => eqA z x) else none
    | none => none
def opCmp (op : CO) (x y : AV) (s : Sto) : Option Bool := match op with
  | .eq => eqD x y s
  | .ne => (eqD x y s).map (!·)
  | .lt => (match x, y with
    | .int i, .int j => some (decide (i < j))
    | .str i, .str j => some (decide (i.cps.toList < j.cps.toList))
    | _, _ => none)
  | .le => (match x, y with
    | .int i, .int j => some (decide (i ≤ j))
    | .str i, .str j => some (!decide (j.cps.toList < i.cps.toList))
    | _, _ => none)
  | .gt => (match x, y with
    | .int i, .int j => some (decide (j < i))
    | .str i, .str j => some (decide (j.cps.toList < i.cps.toList))
    | _, _ => none)
  | .ge => (match x, y with
    | .int i, .int j => some (decide (j ≤ i))
    | .str i, .str j => some (!decide (i.cps.toList < j.cps.toList))
    | _, _ => none)
  | .isN => (match y with
    | .non => some (match x with | .non => true | _ => false)
    | _ => none)
  | .noN => (match y with
    | .non => some (match x with | .non => false | _ => true)
    | _ => none)
  | .isB => (match x, y with
    | .bl a, .bl b => some (decide (a = b))
    | _, _ => none)
  | .noB => (match x, y with
    | .bl a, .bl b => some (!decide (a = b))
    | _, _ => none)
  | .in_ => inA x y s
  | .notin => (inA x y s).map (!·)
def opIdx (x y : AV) (s : Sto) : Option AV := match y with
  | .int i => (match x with
    | .str z => if z.length ≤ LINE then (L2.atI z.cps.toList i).map fun c => .str ⟨⟨[c]⟩⟩ else none
    | _ => match items s x with
      | some xs => L2.atI xs i
      | none => none)
  | _ => none
def opSl (x : AV) (lo hi : Option Int) (s : Sto) : Rs AV := match x with
  | .str z => if z.length ≤ LINE then .ok (.str (L2.cutS z lo hi)) s else .bad
  | .ref k => (match s[k]? with
    | some (.lst xs) => .ok (.ref s.length) (s ++ [.lst ((xs.drop (HT.sIx xs.length 0 lo)).take (HT.sIx xs.length xs.length hi - HT.sIx xs.length 0 lo))])
    | none => .bad)
  | _ => .bad
def insS (x : Str) : List Str → List Str
  | [] => [x]
  | y :: r => if x.cps.toList < y.cps.toList then x :: y :: r else if y.cps.toList < x.cps.toList then y :: insS x r else y :: r
/-- in order, each once -/
def sortS (xs : List Str) : List Str := xs.foldr insS []
def opBi (b : BI) (xs : List AV) (s : Sto) : Rs AV := match b, xs with
  | .len, [.str z] => if z.length ≤ LINE then .ok (.int z.length) s else .bad
  | .len, [d] => (match items s d with
    | some ys => .ok (.int ys.length) s
    | none => .bad)
  | .int, [.int i] => .ok (.int i) s
  | .int, [.bl k] => .ok (.int (if k then 1 else 0)) s
  | .int, [.str a] => if a.length ≤ 640 then (match PySem.intText? a with
    | some n => .ok (.int n) s
    | none => .bad) else .bad
  | .str, [.int i] => if i.natAbs.log2 < 1920 then .ok (.str (toString i)) s else .bad
  | .str, [.str a] => .ok (.str a) s
  | .repr, [d] => (match d.data s 60 with
    | some e => if e.showable && !e.hasDict && decide (e.shown.length ≤ LINE) && decide (e.depth ≤ 60) then .ok (.str e.shown) s else .bad
    | none => .bad)
  | .list, [d] => (match items s d with
    | some ys => .ok (.ref s.length) (s ++ [.lst ys])
    | none => .bad)
  | .tuple, [.tup ys] => .ok (.tup ys) s
  | .tuple, [d] => (match items s d with
    | some ys => .ok (.tup ys) s
    | none => .bad)
  | .sortedSet, [.tup ys] => (match optAll asStr ys with
      | some zs => if zs.length < 64 then .ok (.ref s.length) (s ++ [.lst ((sortS zs).map .str)]) else .bad
      | none => .bad)
  | _, _ => .bad
def isT (s : Sto) : AV → TY → Option Bool
  | .non, _ => some false
  | .bl _, t => some (t == .bool || t == .int)
  | .int _, t => some (t == .int)
  | .str _, t => some (t == .str)
  | .tup _, t => some (t == .tuple)
  | .lst _, t => some (t == .list)
  | .ref k, t => match s[k]? with
    | some (.lst _) => some (t == .list)
    | none => none
def opMe (m : ME) (o : AV) (xs : List AV) (s : Sto) : Rs AV := match m, o, xs with
  | .append, .ref k, [y] => (match s[k]? with
    | some (.lst ys) => if ys.length < LINE then .ok .non (s.set k (.lst (ys ++ [y]))) else .bad
    | none => .bad)
  | .startswith, .str a, [.str b] => .ok (.bl (Txt.startswith a b)) s
  | .endswith, .str a, [.str b] => .ok (.bl (Txt.endswith a b)) s
  | .find, .str a, [.str b] => .ok (.int (Txt.find a b)) s
  | .split, .str a, [.str b] => if (b.length == 0) = false ∧ a.length + 2 ≤ LINE then .ok (.ref s.length) (s ++ [.lst ((Txt.split a b).map .str)]) else .bad
  | .join, .str a, [d] => (match items s d with
    | some ys => (match optAll asStr ys with
      | some zs => if (zs.map (·.length)).sum + zs.length * a.length ≤ LINE then .ok (.str (Txt.join a zs)) s else .bad
      | none => .bad)
    | none => .bad)
  | _, _, _ => .bad
/-- of what a method is -/
def meT (m : ME) (o : AV) (s : Sto) : Bool := match m, o with
  | .append, .ref k => (match s[k]? with
    | some (.lst _) => true
    | none => false)
  | .append, _ => false
  | _, .str _ => true
  | _, _ => false
mutual
def sameA : AV → AV → Bool
  | .non, .non => true
  | .bl a, .bl b => a == b
  | .int a, .int b => a == b
  | .str a, .str b => a == b
  | .tup a, .tup b => sameL a b
  | .lst a, .lst b => sameL a b
  | .ref a, .ref b => a == b
  | _, _ => false
def sameL : List AV → List AV → Bool
  | [], [] => true
  | a :: r, b :: t => sameA a b && sameL r t
  | _, _ => false
end
/-- what a for goes over, and whether that stands as it stood -/
def walk (w : IW) (xs : List AV) (s : Sto) : Option (List AV) := match w, xs with
  | .seq, [.str z] => some (z.cps.toList.map fun c => .str ⟨⟨[c]⟩⟩)
  | .seq, [d] => items s d
  | .signs, [.str z] => some (z.cps.toList.map fun c => .str ⟨⟨[c]⟩⟩)
  | .range1, [.int j] => if -4611686018427387904 ≤ j ∧ j < 4611686018427387904 then some ((List.range j.toNat).map fun (k : Nat) => .int k) else none
  | .range2, [.int i, .int j] => if (-4611686018427387904 ≤ i ∧ i < 4611686018427387904) ∧ -4611686018427387904 ≤ j ∧ j < 4611686018427387904 then some ((List.range (j - i).toNat).map fun (k : Nat) => .int (i + (k : Int))) else none
  | _, _ => none
def stands (w : IW) (xs : List AV) (ys : List AV) (s : Sto) : Bool := match w, xs with
  | .seq, [.ref k] => (match s[k]? with
    | some (.lst zs) => sameL zs ys
    | none => false)
  | _, _ => true
mutual
def lowA (n : Nat) : AV → Bool
  | .tup xs => lowL n xs
  | .lst xs => lowL n xs
  | .ref k => decide (k < n)
  | _ => true
def lowL (n : Nat) : List AV → Bool
  | [] => true
  | x :: r => lowA n x && lowL n r
end
def lowO (n : Nat) : AO → Bool
  | .lst xs => lowL n xs
/-- a call: where the arguments hold no ref and the answer holds none, in a store of its own -/
def callF (f : List AV → Sto → Rs AV) (xs : List AV) (s : Sto) : Rs AV := if lowL 0 xs then (match f xs [] with
  | .ok v _ => if lowA 0 v then .ok v s else f xs s
  | .exc x _ => if lowL 0 x.fs then .exc x s else f xs s
  | .bad => f xs s) else f xs s
section
variable (F : Nat → Nat → List AV → Sto → Rs AV) (C : List AV)
def evs (ev : IE → Slots → Sto → Rs AV) : List IE → Slots → Sto → Rs (List AV)
  | [], _, s => .ok [] s
  | e :: r, σ, s => (ev e σ s).bd fun x s => (evs ev r σ s).bd fun xs s => .ok (x :: xs) s
mutual
def asT (s : Sto) : IT → AV → Slots → Option Slots
  | .nm i, d, σ => if i < σ.length then some (σ.set i (some d)) else none
  | .tp ts, d, σ => match items s d with
    | some xs => asTs s ts xs σ
    | none => none
def asTs (s : Sto) : List IT → List AV → Slots → Option Slots
  | [], [], σ => some σ
  | t :: ts, x :: xs, σ => (match asT s t x σ with
    | some σ => asTs s ts xs σ
    | none => none)
  | _, _, _ => none
end
/-- the names of a target -/
def tsl : IT → List Nat
  | .nm i => [i]
  | .tp ts => go ts
where go : List IT → List Nat
  | [] => []
  | t :: ts => tsl t ++ go ts
def wipeA (σ : Slots) : List Nat → Slots
  | [] => σ
  | v :: vs => (wipeA σ vs).set v none
def tests (ev : IE → Slots → Sto → Rs AV) : List IE → Slots → Sto → Rs Bool
  | [], _, s => .ok true s
  | [e], σ, s => (ev e σ s).bd fun x s => opt (truth s x) s
  | _, _, _ => .bad
/-- where no error may leave -/
def noX {α : Type} (r : Rs α) : Rs α := match r with
  | .ok a s => .ok a s
  | _ => .bad
/-- a comprehension's turns: acc in the items' own order -/
def lcLoop (ev : IE → Slots → Sto → Rs AV) (own : List Nat) (elt : IE) (t : IT) (w : IW) (src : List AV) (whole : List AV) (ifs : List IE) (σ : Slots) : List AV → List AV → Sto → Rs (List AV)
  | [], acc, s => .ok acc s
  | x :: r, acc, s => match asT s t x (wipeA σ own) with
    | none => .bad
    | some σ2 => (noX (tests ev ifs σ2 s)).bd fun b s => match b with
      | true => (noX (ev elt σ2 s)).bd fun y s => if acc.length < LINE then (if stands w src whole s then lcLoop ev own elt t w src whole ifs σ r (acc ++ [y]) s else .bad) else .bad
      | false => if stands w src whole s then lcLoop ev own elt t w src whole ifs σ r acc s else .bad
def qLoop (ev : IE → Slots → Sto → Rs AV) (all : Bool) (own : Nat) (elt : IE) (src : List AV) (whole : List AV) (σ : Slots) : List AV → Sto → Rs AV
  | [], s => .ok (.bl all) s
  | x :: r, s => match asT s (.nm own) x σ with
    | none => .bad
    | some σ2 => (noX (ev elt σ2 s)).bd fun y s => match y with
      | .bl b => if b == all then (if stands .seq src whole s then qLoop ev all own elt src whole σ r s else .bad) else .ok (.bl b) s
      | _ => .bad
def evI (g : Nat) : Nat → IE → Slots → Sto → Rs AV
  | 0, _, _, _ => .bad
  | n + 1, e, σ, s => match e with
    | .slot i => (match σ[i]? with
      | some (some d) => .ok d s
      | _ => .bad)
    | .con i => opt C[i]? s
    | .lit d => .ok d s
    | .tup es => (evs (evI g n) es σ s).bd fun xs s => if xs.length ≤ LINE then .ok (.tup xs) s else .bad
    | .lst es => (evs (evI g n) es σ s).bd fun xs s => if xs.length ≤ LINE then .ok (.ref s.length) (s ++ [.lst xs]) else .bad
    | .bin op a b => (evI g n a σ s).bd fun x s => (evI g n b σ s).bd fun y s => opBin op x y s
    | .neg a => (evI g n a σ s).bd fun x s => (match x with
      | .int i => .ok (.int (-i)) s
      | _ => .bad)
    | .cmp op a b => (evI g n a σ s).bd fun x s => (evI g n b σ s).bd fun y s => opt ((opCmp op x y s).map .bl) s
    | .chain o p a b c => (evI g n a σ s).bd fun x s => (evI g n b σ s).bd fun y s => (opt (opCmp o x y s) s).bd fun k s =>
      if k then (evI g n c σ s).bd fun z s => opt ((opCmp p y z s).map .bl) s else .ok (.bl false) s
    | .nt a => (evI g n a σ s).bd fun x s => opt ((truth s x).map fun b => .bl (!b)) s
    | .an a b => (evI g n a σ s).bd fun x s => (opt (truth s x) s).bd fun k s => if k then evI g n b σ s else .ok x s
    | .or_ a b => (evI g n a σ s).bd fun x s => (opt (truth s x) s).bd fun k s => if k then .ok x s else evI g n b σ s
    | .ife c a b => (evI g n c σ s).bd fun x s => (opt (truth s x) s).bd fun k s => if k then evI g n a σ s else evI g n b σ s
    | .call f es => (evs (evI g n) es σ s).bd fun xs s => callF (F g f) xs s
    | .bi b es => (evs (evI g n) es σ s).bd fun xs s => opBi b xs s
    | .isi a t => (evI g n a σ s).bd fun x s => opt ((isT s x t).map .bl) s
    | .me m o es => (evI g n o σ s).bd fun x s => if meT m x s then (evs (evI g n) es σ s).bd fun xs s => opMe m x xs s else .bad
    | .idx a i => (evI g n a σ s).bd fun x s => (evI g n i σ s).bd fun y s => opt (opIdx x y s) s
    | .sl a lo hi => (evI g n a σ s).bd fun x s => (part (evI g n) lo σ s).bd fun l s => (part (evI g n) hi σ s).bd fun h s => opSl x l h s
    | .lc own elt t w it ifs => (evs (evI g n) it σ s).bd fun xs s => (opt (walk w xs s) s).bd fun ys s =>
      (lcLoop (evI g n) (own.map (·.2)) elt t w xs ys ifs σ ys [] s).bd fun zs s => .ok (.ref s.length) (s ++ [.lst zs])
    | .quant all own elt it => if g = 0 then (evs (evI g n) [it] σ s).bd fun xs s => (opt (walk .seq xs s) s).bd fun ys s => qLoop (evI (g + 1) n) all own elt xs ys σ ys s else .bad
where part (ev : IE → Slots → Sto → Rs AV) : Option IE → Slots → Sto → Rs (Option Int)
  | none, _, s => .ok none s
  | some e, σ, s => (ev e σ s).bd fun x s => match x with
    | .int i => .ok (some i) s
    | _ => .bad
/-- behind a statement -/
inductive Fl where
  | nx (σ : Slots) | rt (v : AV) | bk (σ : Slots) | ct (σ : Slots)
def forLoop (ex : Slots → Sto → Rs Fl) (t : IT) (w : IW) (src whole : List AV) : List AV → Slots → Sto → Rs Fl
  | [], σ, s => .ok (.nx σ) s
  | x :: r, σ, s => match asT s t x σ with
    | none => .bad
    | some σ2 => (ex σ2 s).bd fun f s => match f with
      | .nx σ3 => if stands w src whole s then forLoop ex t w src whole r σ3 s else .bad
      | .ct σ3 => if stands w src whole s then forLoop ex t w src whole r σ3 s else .bad
      | .bk σ3 => .ok (.nx σ3) s
      | .rt v => .ok (.rt v) s
/-- how often a while may turn -/
def MANY : Nat := 1000000
def whileLoop (test : Slots → Sto → Rs Bool) (ex : Slots → Sto → Rs Fl) : Nat → Slots → Sto → Rs Fl
  | 0, _, _ => .bad
  | m + 1, σ, s => (test σ s).bd fun b s => if b then (ex σ s).bd fun f s => (match f with
      | .nx σ3 => whileLoop test ex m σ3 s
      | .ct σ3 => whileLoop test ex m σ3 s
      | .bk σ3 => .ok (.nx σ3) s
      | .rt v => .ok (.rt v) s) else .ok (.nx σ) s
def exs (ex : IS → Slots → Sto → Rs Fl) : List IS → Slots → Sto → Rs Fl
  | [], σ, s => .ok (.nx σ) s
  | [st], σ, s => ex st σ s
  | st :: r, σ, s => (ex st σ s).bd fun f s => match f with
    | .nx σ => exs ex r σ s
    | f => .ok f s
def exI : Nat → IS → Slots → Sto → Rs Fl
  | 0, _, _, _ => .bad
  | n + 1, st, σ, s => match st with
    | .ex e => (evI F C 0 n e σ s).bd fun _ s => .ok (.nx σ) s
    | .asg t e => (evI F C 0 n e σ s).bd fun x s => (opt (asT s t x σ) s).bd fun σ s => .ok (.nx σ) s
    | .put o i e => (evI F C 0 n e σ s).bd fun v s => (evI F C 0 n o σ s).bd fun x s => (evI F C 0 n i σ s).bd fun y s => (match x, y with
      | .ref k, .int j => (match s[k]? with
        | some (.lst xs) => (match L2.ixN xs.length j with
          | some m => .ok (.nx σ) (s.set k (.lst (xs.set m v)))
          | none => .bad)
        | none => .bad)
      | _, _ => .bad)
    | .aug i op e => (match σ[i]? with
      | some (some (.int a)) => (evI F C 0 n e σ s).bd fun y s => (match op, y with
        | .add, .int b => .ok (.nx (σ.set i (some (.int (a + b))))) s
        | .sub, .int b => .ok (.nx (σ.set i (some (.int (a - b))))) s
        | _, _ => .bad)
      | _ => .bad)
    | .ret e => (evI F C 0 n e σ s).bd fun x s => .ok (.rt x) s
    | .retN => .ok (.rt .non) s
    | .ifs c a b => (evI F C 0 n c σ s).bd fun x s => (opt (truth s x) s).bd fun k s => if k then exs (exI n) a σ s else exs (exI n) b σ s
    | .for_ t w it body => (evs (evI F C 0 n) it σ s).bd fun xs s => (opt (walk w xs s) s).bd fun ys s => forLoop (exs (exI n) body) t w xs ys ys σ s
    | .while_ c body => whileLoop (fun σ s => (evI F C 0 n c σ s).bd fun x s => opt (truth s x) s) (exs (exI n) body) MANY σ s
    | .brk => .ok (.bk σ) s
    | .cont => .ok (.ct σ) s
    | .pass => .ok (.nx σ) s
end
/-- a def: how many names it has, its parameters' number, its body -/
structure Df where
  names : Nat
  pars : Nat
  body : List IS
/-- what was made and is held by nobody is let go -/
def letGo (n : Nat) (v : AV) (s : Sto) : Sto := if lowA n v && (s.take n).all (lowO n) then s.take n else s
def runD (F : Nat → Nat → List AV → Sto → Rs AV) (C : List AV) (d : Df) (xs : List AV) (s : Sto) : Rs AV :=
  if xs.length = d.pars then (exs (exI F C 100) d.body (xs.map some ++ List.replicate (d.names - d.pars) none) s).bd fun f s' => match f with
    | .nx _ => .ok .non (letGo s.length .non s')
    | .rt v => .ok v (letGo s.length v s')
    | _ => .bad
  else .bad
/-- all defs, k calls deep, d of them spent -/
def tab (C : List AV) (ds : List Df) : Nat → Nat → Nat → List AV → Sto → Rs AV
  | 0, _ => fun _ _ _ => .bad
  | k + 1, 0 => fun f xs s => match ds[f]? with
    | some d => runD (fun g => tab C ds k (4 * g)) C d xs s
    | none => .bad
  | k + 1, d + 1 => tab C ds k d
end Ip

set_option Elab.async false
set_option linter.all false
set_option maxRecDepth 100000
namespace Ip
open PySem PySem.Spec PyProof.Rows L2

/-- room for k calls, one in another; d: what is spent of them -/
structure Rm (k j : Nat) (A : Around) : Prop where
  h : A.handled = none
  g : A.guards = some []
  le : j ≤ 20
  d : A.depth + k + 100 < recursionLimit + j
  u : A.units + 4 * k + 700 < cLine + 2 * j
theorem Rm.room {k d : Nat} {A : Around} (r : Rm k d A) : Room 20 A := ⟨r.h, by have := r.d; have := r.le; omega, by have := r.u; have := r.le; omega⟩
theorem Rm.call {k : Nat} {A : Around} (r : Rm (k + 1) 0 A) (env : Env) : Rm k 0 (A.deeper env) :=
  ⟨r.h, r.g, r.le, by have := r.d; show A.depth + 1 + k + 100 < _; omega, by have := r.u; show A.units + 3 + 4 * k + 700 < _; omega⟩
theorem Rm.sub {k d : Nat} {A : Around} (r : Rm k d A) (h : d ≤ k) : Rm (k - d) 0 A := ⟨r.h, r.g, Nat.zero_le _, by have := r.d; omega, by have := r.u; omega⟩

/-- what a def promises, wherever nothing is being handled or guarded -/
structure FnG (P : Program) (w : World) (K : PySem.W.Frag) (mg : Str → Option Value) (base : Heap) (k d : Nat) (f : Addr) (fd : FuncData) (ps : List Str) (sp : Sp) : Prop where
  len : ∀ vs H Q E, sp vs H Q E → vs.length = ps.length
  run : ∀ (A : Around) (outer : List Env) (s : Shared) (H : Hp) (args : Args) (us : List Value) (vs : List V) (Q : VK) (E : XK), Rm k d A → Env0 P w K mg base A outer s H →
    BindsTo s fd args (ps.zip us) → Vals vs us → sp vs H Q E → codeAny (model P w) A (.call (.ref f) args) (CR (L2.CX P w) outer P w H s Q E) s

/-- a def by its body -/
theorem fnG_of {P : Program} {w : World} {K : PySem.W.Frag} {mg : Str → Option Value} {base : Heap} {k : Nat} {f : Addr} {name qual : Str} {params : Arguments} {body : List Stmt} {scope : Scope}
    {dV kV doc pm cdv ct oc : Value} {an od : Option Addr} {osl : Array (Option Value)} {N ps : List Str} {sp : Sp}
    (lk : K.lookup f = some ⟨oc, od, .func (PySem.W.fnOf name qual params body scope dV kV doc pm an cdv ct), osl⟩) (hcd : PySem.W.codeIn K cdv qual = true) (S : FnScope N ps scope)
    (len : ∀ vs H Q E, sp vs H Q E → vs.length = ps.length)
    (hb : ∀ (A : Around) (outer : List Env) (s : Shared) (H : Hp) (vs : List V) (Q : VK) (E : XK), Rm k 0 (A.deeper (envOfC qual scope s.heap.objs.size f cdv)) → sp vs H Q E →
      ∃ t, PSs (cxOf (L2.CX P w) P w K mg base N qual scope f cdv A outer s H E) body t ∧ t { nx := fun _ H' => Q .non H', rt := Q } (start N vs) H) :
    FnG P w K mg base (k + 1) 0 f (PySem.W.fnOf name qual params body scope dV kV doc pm an cdv ct) ps sp := by
  constructor
  · exact len
  intro A outer s H args us vs Q E hr e0 bnd r hsp
  have lv : vs.length = ps.length := len vs H Q E hsp
  have inK : K.In s.heap := e0.mod.kin.keeps (fun b o e => (e0.bs b o e).1)
  have nl : s.heap.NoLimit := e0.mod.nolimit.keeps (fun b o e => (e0.bs b o e).1)
  have knd : ∀ y ∈ ps.zip us, scope.names.lookup y.1 = some .local ∨ (scope.names.lookup y.1 = some .cell ∧ ((cellsFrom (s.heap.objs.size + 1) scope.names []).lookup y.1).isSome = true) := by
    rintro ⟨n, v⟩ hy
    cases S.par n (List.of_mem_zip hy).1 with
    | inl q => exact Or.inl q
    | inr q => exact Or.inr ⟨q, PySem.W.cellsFrom_some _ _ _ (Or.inl q)⟩
  refine codeAny_call_function hr.room.depth (inK _ _ lk) rfl S.co S.gen rfl (PySem.W.codeRec_of inK hcd) (bnd _ _ _ _ ?_)
  refine wpAny_newFunctionEnv_cells S.kind knd (fun env he s1 x => ?_)
  subst he
  refine ⟨nl.keeps x.toInCall.keep, codeAny_func ?_⟩
  obtain ⟨t, ht, hq⟩ := hb A outer s H vs Q E (hr.call _) hsp
  have I0 : Inv (cxOf (L2.CX P w) P w K mg base N qual scope f cdv A outer s H E) [] (start N vs) H s1 := inv_start S hr.h e0 lv r x
  refine wpAny_mono (ht.run [] s1 (start N vs) H _ I0 hq) ?_ (fun e s' hs => hs)
  intro fl s' hs
  match fl, hs with
  | .ret u, hs =>
    obtain ⟨v, σ', H', J, rv, q⟩ := hs
    exact ⟨v, H', J.os, J.bare, J.base, J.hok, rv, q⟩
  | .next, hs =>
    obtain ⟨σ', H', J, q⟩ := hs
    exact ⟨V.non, H', J.os, J.bare, J.base, J.hok, rfl, q⟩
  | .brk, hs =>
    obtain ⟨_, _, _, q⟩ := hs
    exact q.elim
  | .cont, hs =>
    obtain ⟨_, _, _, q⟩ := hs
    exact q.elim

section
variable {X : Cx} {k d : Nat} {f : Addr} {fd : FuncData} {ps : List Str} {sp : Sp} {E : XK} {x : Str} {p pos : Pos} {e : Expr} {es : List Expr} {t : TA}
theorem runG {pins : List (Addr × Obj)} {σ : L2.St} {H : Hp} {s : Shared} {Q : VK} {us : List Value} {vs : List V} (F : FnG X.prog X.w X.K X.mg X.base k d f fd ps sp) (hr : Rm k d X.A) (hb : Binds X.K fd ps []) (hx : Passes (L2.CX X.prog X.w) X E)
    (I : Inv X pins σ H s) (r : Vals vs us) (h : sp vs H Q E) : wpAny (model X.prog X.w) X.A (call (.ref f) us) (EP X pins σ Q) X.xe s := by
  have hl : (us ++ []).length = ps.length := by
    rw [List.append_nil, ← r.length]
    exact F.len _ _ _ _ h
  have b := hb s us I.kIn hl
  rw [List.append_nil] at b
  refine wpAny_call (codeAny_mono (F.run X.A X.stack s H ⟨us, []⟩ us vs Q E hr I.env0 b r h) ?_)
  intro r s' hq
  match r, hq with
  | .error e, hq => exact hx pins σ H s e s' I hq
  | .ok (.ret u), hq => exact I.after hq
theorem pe_callG (F : FnG X.prog X.w X.K X.mg X.base k d f fd ps sp) (hr : Rm k d X.A) (hg : Gl X x) (hm : X.mg x = some (.ref f)) (hk : PySem.W.keepIn X.K (.ref f) = true) (hb : Binds X.K fd ps []) (hx : Passes (L2.CX X.prog X.w) X E)
    (ha : PA X (e :: es) t) (hdb : (x == ("__debug__" : Str)) = false) (he : starEach (e :: es) X.env = (false, eval e X.env) :: starEach es X.env) (hpl : (backTo pos (starEach es X.env)).any (·.1) = false) :
    PE X (.Call (.Name x p) (e :: es) [] pos) (fun σ H Q => t σ H fun vs H1 => sp vs H1 Q E) := by
  constructor
  intro pins s σ H Q I h
  refine wpAny_Call_Name_kw (ld_glob I hg hm ?_ hdb)
  refine PySem.W.callWith_K (h₀ := X.base) I.ok.mod.kin hk (thn (ha.run pos pins s σ H _ I h) ?_) he hpl
  rintro us s1 ⟨vs, H1, I1, r, q⟩
  exact ⟨I1.kIn, runG F hr hb hx I1 r q⟩
theorem pe_callG0 (F : FnG X.prog X.w X.K X.mg X.base k d f fd ps sp) (hr : Rm k d X.A) (hg : Gl X x) (hm : X.mg x = some (.ref f)) (hk : PySem.W.keepIn X.K (.ref f) = true) (hb : Binds X.K fd ps []) (hx : Passes (L2.CX X.prog X.w) X E)
    (hdb : (x == ("__debug__" : Str)) = false) : PE X (.Call (.Name x p) [] [] pos) (fun σ H Q => sp [] H Q E) := by
  constructor
  intro pins s σ H Q I h
  refine wpAny_Call_Name_kw (ld_glob I hg hm ?_ hdb)
  exact PySem.W.callWith_K0 I.kIn hk (runG (us := []) F hr hb hx I .nil h)
end
end Ip

set_option Elab.async false
set_option linter.all false
set_option maxRecDepth 100000
namespace Ip
open PySem PySem.Spec PyProof.Rows L2

/-- what never changes stands -/
structure Gr (H H' : Hp) : Prop where
  tup : ∀ a xs, H a = some (.tup xs) → H' a = some (.tup xs)
  frz : ∀ a o u, H a = some (.frz o u) → H' a = some (.frz o u)
theorem Gr.refl (H : Hp) : Gr H H := ⟨fun _ _ h => h, fun _ _ _ h => h⟩
theorem Gr.trans {H H1 H2 : Hp} (a : Gr H H1) (b : Gr H1 H2) : Gr H H2 := ⟨fun x y h => b.tup x y (a.tup x y h), fun x y z h => b.frz x y z (a.frz x y z h)⟩
theorem Gr.new {H : Hp} {p : Addr} {o : HO} (h : H p = none) : Gr H (upd H p o) :=
  ⟨fun a xs e => by rw [upd_ne (ne_of_none e h)]; exact e, fun a b u e => by rw [upd_ne (ne_of_none e h)]; exact e⟩
theorem Gr.mut {H : Hp} {p : Addr} {o : HO} {xs : List V} (h : H p = some (.lst xs)) : Gr H (upd H p o) :=
  ⟨fun a ys e => by rw [upd_ne (ne_of e h (by intro z; cases z))]; exact e, fun a b u e => by rw [upd_ne (ne_of e h (by intro z; cases z))]; exact e⟩
def Le (ρ ρ' : List Addr) : Prop := ∀ (n : Nat) (a : Addr), ρ[n]? = some a → ρ'[n]? = some a
theorem Le.refl (ρ : List Addr) : Le ρ ρ := fun _ _ h => h
theorem Le.trans {ρ ρ1 ρ2 : List Addr} (a : Le ρ ρ1) (b : Le ρ1 ρ2) : Le ρ ρ2 := fun n x h => b n x (a n x h)
theorem Le.app (ρ ρ1 : List Addr) : Le ρ (ρ ++ ρ1) := fun n a h => by
  rw [List.getElem?_append_left (List.getElem?_eq_some_iff.mp h).1]
  exact h

/-- from one state to a later one: what the store has not stands as it stood -/
structure Go (ρ : List Addr) (H : Hp) (ρ' : List Addr) (H' : Hp) : Prop where
  le : Le ρ ρ'
  g : Gr H H'
  f : ∀ a o, H a = some o → a ∉ ρ → (∀ ps, o ≠ .tbl ps) → H' a = some o ∧ a ∉ ρ'
theorem Go.refl (ρ : List Addr) (H : Hp) : Go ρ H ρ H := ⟨Le.refl _, Gr.refl _, fun _ _ h n _ => ⟨h, n⟩⟩
theorem Go.trans {ρ ρ1 ρ2 : List Addr} {H H1 H2 : Hp} (a : Go ρ H ρ1 H1) (b : Go ρ1 H1 ρ2 H2) : Go ρ H ρ2 H2 := ⟨a.le.trans b.le, a.g.trans b.g, fun x o h n t => by
  obtain ⟨h1, n1⟩ := a.f x o h n t
  exact b.f x o h1 n1 t⟩
theorem Go.fresh {ρ : List Addr} {H : Hp} {p : Addr} {o : HO} (h : H p = none) : Go ρ H ρ (L2.upd H p o) := ⟨Le.refl _, Gr.new h, fun a u e n _ => ⟨by rw [upd_ne (ne_of_none e h)]; exact e, n⟩⟩
theorem Go.new {ρ : List Addr} {H : Hp} {p : Addr} {o : HO} (h : H p = none) : Go ρ H (ρ ++ [p]) (L2.upd H p o) := ⟨Le.app _ _, Gr.new h, fun a u e n _ => ⟨by rw [upd_ne (ne_of_none e h)]; exact e, fun z => by
  rw [List.mem_append, List.mem_singleton] at z
  rcases z with z | z
  · exact n z
  · exact ne_of_none e h z⟩⟩
theorem Go.put {ρ : List Addr} {H : Hp} {p : Addr} {o : HO} {k : Nat} {xs : List V} (hk : ρ[k]? = some p) (h : H p = some (.lst xs)) : Go ρ H ρ (L2.upd H p o) := ⟨Le.refl _, Gr.mut h, fun a u e n _ => ⟨by
  rw [upd_ne (fun z => n (by rw [z]; exact List.mem_of_getElem? hk))]
  exact e, n⟩⟩

theorem sqt_gr {K : PySem.W.Frag} {H H' : Hp} {a : Addr} {xs : List V} (g : Gr H H') (h : SqT K H a xs) : SqT K H' a xs := by
  rcases h with (h | ⟨o, h⟩) | h
  · exact Or.inl (Or.inl (g.tup _ _ h))
  · exact Or.inl (Or.inr ⟨o, g.frz _ _ _ h⟩)
  · exact Or.inr h
/-- a list that nobody changes -/
def FrL (K : PySem.W.Frag) (H : Hp) (a : Addr) (xs : List V) : Prop := SqL K H a xs ∧ ∀ ys, H a ≠ some (.lst ys)
theorem frl_gr {K : PySem.W.Frag} {H H' : Hp} {a : Addr} {xs : List V} (g : Gr H H') (hn : ∀ ys, H' a = some (.lst ys) → H a = some (.lst ys)) (h : FrL K H a xs) : FrL K H' a xs := by
  obtain ⟨h, z⟩ := h
  refine ⟨?_, fun ys e => z ys (hn ys e)⟩
  rcases h with (h | ⟨o, h⟩) | h
  · exact absurd h (z _)
  · exact Or.inl (Or.inr ⟨o, g.frz _ _ _ h⟩)
  · exact Or.inr h
/-- such a list, by what can't change of it -/
inductive FzL (K : PySem.W.Frag) (H : Hp) (a : Addr) (xs : List V) : Prop where
  | frz {o : Obj} (h : H a = some (.frz o (.lst xs)))
  | kk {o : Obj} {its : Array Value} {n : Nat} (lk : List.lookup a K = some o) (c : o.cls = .type "list") (d : o.dict = none) (e : o.data = .seq its n) (z : its.size ≤ sizeLine) (v : Vals xs its.toList)
theorem FzL.sq {K : PySem.W.Frag} {H : Hp} {a : Addr} {xs : List V} : FzL K H a xs → SqL K H a xs
  | .frz h => Or.inl (Or.inr ⟨_, h⟩)
  | .kk lk c d e z v => Or.inr ⟨_, _, _, lk, c, d, e, z, v⟩
theorem FzL.gr {K : PySem.W.Frag} {H H' : Hp} {a : Addr} {xs : List V} (g : Gr H H') : FzL K H a xs → FzL K H' a xs
  | .frz h => .frz (g.frz _ _ _ h)
  | .kk lk c d e z v => .kk lk c d e z v

mutual
inductive Rp (K : PySem.W.Frag) (ρ : List Addr) (H : Hp) : V → AV → Prop
  | non : Rp K ρ H .non .non
  | bl (b : Bool) : Rp K ρ H (.bl b) (.bl b)
  | int (i : Int) : Rp K ρ H (.int i) (.int i)
  | str (x : Str) : Rp K ρ H (.str x) (.str x)
  | tup {a : Addr} {xs : List V} {ds : List AV} : SqT K H a xs → RpL K ρ H xs ds → Rp K ρ H (.ref a) (.tup ds)
  | lst {a : Addr} {xs : List V} {ds : List AV} : FzL K H a xs → RpL K ρ H xs ds → Rp K ρ H (.ref a) (.lst ds)
  | ref {a : Addr} {n : Nat} : ρ[n]? = some a → Rp K ρ H (.ref a) (.ref n)
inductive RpL (K : PySem.W.Frag) (ρ : List Addr) (H : Hp) : List V → List AV → Prop
  | nil : RpL K ρ H [] []
  | cons {v : V} {vs : List V} {d : AV} {ds : List AV} : Rp K ρ H v d → RpL K ρ H vs ds → RpL K ρ H (v :: vs) (d :: ds)
end
section
variable {K : PySem.W.Frag} {ρ ρ' : List Addr} {H H' : Hp}
mutual
theorem Rp.up (le : Le ρ ρ') (g : Gr H H') : ∀ (d : AV) (v : V), Rp K ρ H v d → Rp K ρ' H' v d
  | .non, _, h => by cases h; exact .non
  | .bl b, _, h => by cases h; exact .bl b
  | .int i, _, h => by cases h; exact .int i
  | .str x, _, h => by cases h; exact .str x
  | .tup ds, _, h => by
    cases h with
    | tup a b => exact .tup (sqt_gr g a) (RpL.up le g ds _ b)
  | .lst ds, _, h => by
    cases h with
    | lst a b => exact .lst (a.gr g) (RpL.up le g ds _ b)
  | .ref n, _, h => by
    cases h with
    | ref a => exact .ref (le _ _ a)
theorem RpL.up (le : Le ρ ρ') (g : Gr H H') : ∀ (ds : List AV) (vs : List V), RpL K ρ H vs ds → RpL K ρ' H' vs ds
  | [], _, h => by cases h; exact .nil
  | d :: ds, _, h => by
    cases h with
    | cons a b => exact .cons (Rp.up le g d _ a) (RpL.up le g ds _ b)
end
theorem RpL.len : ∀ {vs : List V} {ds : List AV}, RpL K ρ H vs ds → vs.length = ds.length
  | _, [], h => by cases h; rfl
  | _, d :: ds, h => by
    cases h with
    | cons a b => simp [RpL.len b]
theorem RpL.app : ∀ {vs ws : List V} {ds es : List AV}, RpL K ρ H vs ds → RpL K ρ H ws es → RpL K ρ H (vs ++ ws) (ds ++ es)
  | _, _, [], _, h, h' => by cases h; exact h'
  | _, _, d :: ds, _, h, h' => by
    cases h with
    | cons a b => exact .cons a (RpL.app b h')
theorem RpL.get : ∀ {vs : List V} {ds : List AV} {i : Nat} {d : AV}, RpL K ρ H vs ds → ds[i]? = some d → ∃ v, vs[i]? = some v ∧ Rp K ρ H v d
  | _, [], _, _, h, e => by simp at e
  | _, d :: ds, 0, _, h, e => by
    cases h with
    | cons a b => simp at e; subst e; exact ⟨_, rfl, a⟩
  | _, d :: ds, i + 1, _, h, e => by
    cases h with
    | cons a b =>
      obtain ⟨v, h1, h2⟩ := RpL.get (i := i) b (by simpa using e)
      exact ⟨v, by simpa using h1, h2⟩
theorem RpL.getV : ∀ {vs : List V} {ds : List AV} {i : Nat} {v : V}, RpL K ρ H vs ds → vs[i]? = some v → ∃ d, ds[i]? = some d ∧ Rp K ρ H v d
  | _, [], _, _, h, e => by cases h; simp at e
  | _, d :: ds, 0, _, h, e => by
    cases h with
    | cons a b => simp at e; subst e; exact ⟨_, rfl, a⟩
  | _, d :: ds, i + 1, _, h, e => by
    cases h with
    | cons a b =>
      obtain ⟨v, h1, h2⟩ := RpL.getV (i := i) b (by simpa using e)
      exact ⟨v, by simpa using h1, h2⟩
theorem RpL.set : ∀ {vs : List V} {ds : List AV} {v : V} {d : AV} (i : Nat), Rp K ρ H v d → RpL K ρ H vs ds → RpL K ρ H (vs.set i v) (ds.set i d)
  | _, [], _, _, _, _, h => by cases h; exact .nil
  | _, _ :: _, _, _, 0, r, h => by
    cases h with
    | cons a b => exact .cons r b
  | _, _ :: _, _, _, i + 1, r, h => by
    cases h with
    | cons a b => exact .cons a (RpL.set i r b)
theorem RpL.take : ∀ {vs : List V} {ds : List AV} (n : Nat), RpL K ρ H vs ds → RpL K ρ H (vs.take n) (ds.take n)
  | _, _, 0, _ => .nil
  | _, [], _ + 1, h => by cases h; exact .nil
  | _, _ :: _, n + 1, h => by
    cases h with
    | cons a b => exact .cons a (RpL.take n b)
theorem RpL.drop : ∀ {vs : List V} {ds : List AV} (n : Nat), RpL K ρ H vs ds → RpL K ρ H (vs.drop n) (ds.drop n)
  | _, _, 0, h => h
  | _, [], _ + 1, h => by cases h; exact .nil
  | _, _ :: _, n + 1, h => by
    cases h with
    | cons a b => exact RpL.drop n b
/-- an object of the store -/
def ObR (K : PySem.W.Frag) (ρ : List Addr) (H : Hp) (a : Addr) : AO → Prop
  | .lst ds => ∃ xs, H a = some (.lst xs) ∧ RpL K ρ H xs ds
/-- the tables of the defs' code objects -/
class Tb where
  l : List Addr
variable [Tb]
def TbOk (H : Hp) : Prop := ∀ P ∈ Tb.l, GxR.TabG H P
theorem TbOk.upd {H : Hp} (h : TbOk H) {p : Addr} {o : HO} (hp : ∀ ps, H p ≠ some (.tbl ps)) : TbOk (upd H p o) := fun P hP => by
  obtain ⟨ps, e, t⟩ := h P hP
  exact ⟨ps, by rw [upd_ne (fun z => hp ps (by rw [← z]; exact e))]; exact e, t⟩
theorem TbOk.tbd {H H' : Hp} {P : Addr} (h : TbOk H) (t : GxR.Tabbed P H H') : TbOk H' := fun Q hQ => by
  by_cases e : Q = P
  · rw [e]
    exact t.1
  · obtain ⟨ps, e1, t1⟩ := h Q hQ
    exact ⟨ps, by rw [t.2 Q e]; exact e1, t1⟩
structure StR (K : PySem.W.Frag) (ρ : List Addr) (H : Hp) (s : Sto) : Prop where
  len : s.length = ρ.length
  nd : ρ.Nodup
  tb : TbOk H
  ob : ∀ (n : Nat) (a : Addr) (o : AO), ρ[n]? = some a → s[n]? = some o → ObR K ρ H a o
structure SlR (K : PySem.W.Frag) (ρ : List Addr) (H : Hp) (σ : L2.St) (sl : Slots) : Prop where
  len : σ.length = sl.length
  get : ∀ (i : Nat) (d : AV), sl[i]? = some (some d) → ∃ v, σ[i]? = some (some v) ∧ Rp K ρ H v d
theorem SlR.up {σ : L2.St} {sl : Slots} (h : SlR K ρ H σ sl) (le : Le ρ ρ') (g : Gr H H') : SlR K ρ' H' σ sl := ⟨h.len, fun i d e => by
  obtain ⟨v, h1, h2⟩ := h.get i d e
  exact ⟨v, h1, Rp.up le g _ _ h2⟩⟩
theorem SlR.set {σ : L2.St} {sl : Slots} (h : SlR K ρ H σ sl) {v : V} {d : AV} (r : Rp K ρ H v d) (i : Nat) : SlR K ρ H (σ.set i (some v)) (sl.set i (some d)) := ⟨by simp [h.len], fun j e q => by
  by_cases hj : i = j
  · subst hj
    by_cases hi : i < sl.length
    · rw [List.getElem?_set_self hi] at q
      cases q
      exact ⟨v, List.getElem?_set_self (by rw [h.len]; exact hi), r⟩
    · rw [List.getElem?_eq_none (by simpa using hi)] at q
      cases q
  · rw [List.getElem?_set_ne hj] at q ⊢
    exact h.get j e q⟩
theorem SlR.unset {σ : L2.St} {sl : Slots} (h : SlR K ρ H σ sl) (i : Nat) : SlR K ρ H (σ.set i none) (sl.set i none) := ⟨by simp [h.len], fun j e q => by
  by_cases hj : i = j
  · subst hj
    by_cases hi : i < sl.length
    · rw [List.getElem?_set_self hi] at q
      cases q
    · rw [List.getElem?_eq_none (by simpa using hi)] at q
      cases q
  · rw [List.getElem?_set_ne hj] at q ⊢
    exact h.get j e q⟩
theorem SlR.wipe {σ : L2.St} {sl : Slots} (h : SlR K ρ H σ sl) : ∀ vs : List Nat, SlR K ρ H (L2.wipe σ vs) (wipeA sl vs)
  | [] => h
  | v :: vs => by
    show SlR K ρ H ((L2.wipe σ vs).set v none) ((wipeA sl vs).set v none)
    exact (SlR.wipe h vs).unset v
/-- a new object -/
theorem StR.new {s : Sto} (h : StR K ρ H s) {p : Addr} (hp : H p = none) {xs : List V} {ds : List AV} (r : RpL K ρ H xs ds) :
    StR K (ρ ++ [p]) (upd H p (.lst xs)) (s ++ [.lst ds]) ∧ Rp K (ρ ++ [p]) (upd H p (.lst xs)) (.ref p) (.ref s.length) := by
  have le : Le ρ (ρ ++ [p]) := Le.app _ _
  have g : Gr H (upd H p (.lst xs)) := Gr.new hp
  have at_ : (ρ ++ [p])[ρ.length]? = some p := by simp
  have fr : p ∉ ρ := fun hm => by
    obtain ⟨n, hn⟩ := List.getElem?_of_mem hm
    have hl : n < s.length := by rw [h.len]; exact (List.getElem?_eq_some_iff.mp hn).1
    have hob := h.ob n p s[n] hn (List.getElem?_eq_getElem hl)
    cases hso : s[n] with
    | lst ds =>
      rw [hso] at hob
      obtain ⟨ys, e, _⟩ := hob
      rw [hp] at e
      cases e
  refine ⟨⟨by simp [h.len], ?_, h.tb.upd (fun ps z => by rw [hp] at z; cases z), fun n a o e1 e2 => ?_⟩, .ref (by rw [h.len]; exact at_)⟩
  · rw [List.nodup_append]
    refine ⟨h.nd, by simp, fun a ha b hb z => ?_⟩
    rw [List.mem_singleton] at hb
    subst hb
    subst z
    exact fr ha
  · by_cases hn : n < ρ.length
    · rw [List.getElem?_append_left hn] at e1
      rw [List.getElem?_append_left (by rw [h.len]; exact hn)] at e2
      have hob := h.ob n a o e1 e2
      cases o with
      | lst es =>
        obtain ⟨ys, e, q⟩ := hob
        exact ⟨ys, by rw [upd_ne (ne_of_none e hp)]; exact e, RpL.up le g _ _ q⟩
    · have hn2 : n = ρ.length := by
        have := (List.getElem?_eq_some_iff.mp e1).1
        simp at this
        omega
      subst hn2
      rw [at_] at e1
      cases e1
      have e3 : (s ++ [AO.lst ds])[ρ.length]? = some (.lst ds) := by rw [← h.len]; simp
      rw [e3] at e2
      cases e2
      exact ⟨xs, upd_same, RpL.up le g _ _ r⟩
/-- an object is changed -/
theorem StR.put {s : Sto} (h : StR K ρ H s) {k : Nat} {p : Addr} (hk : ρ[k]? = some p) {ys : List V} (hp : H p = some (.lst ys)) {xs : List V} {ds : List AV} (r : RpL K ρ H xs ds) :
    StR K ρ (upd H p (.lst xs)) (s.set k (.lst ds)) := by
  have g : Gr H (upd H p (.lst xs)) := Gr.mut hp
  refine ⟨by simp [h.len], h.nd, h.tb.upd (fun ps z => by rw [hp] at z; cases z), fun n a o e1 e2 => ?_⟩
  by_cases hn : k = n
  · subst hn
    rw [hk] at e1
    cases e1
    have hl : k < s.length := by rw [h.len]; exact (List.getElem?_eq_some_iff.mp hk).1
    rw [List.getElem?_set_self hl] at e2
    cases e2
    exact ⟨xs, upd_same, RpL.up (Le.refl _) g _ _ r⟩
  · rw [List.getElem?_set_ne hn] at e2
    have hob := h.ob n a o e1 e2
    have hne : a ≠ p := fun z => by
      subst z
      exact hn (by
        have h1 := (List.getElem?_eq_some_iff.mp hk).1
        have h2 := (List.getElem?_eq_some_iff.mp e1).1
        have h3 : ρ[k] = ρ[n] := by rw [(List.getElem?_eq_some_iff.mp hk).2, (List.getElem?_eq_some_iff.mp e1).2]
        exact (List.getElem_inj h.nd).mp h3)
    cases o with
    | lst es =>
      obtain ⟨zs, e, q⟩ := hob
      exact ⟨zs, by rw [upd_ne hne]; exact e, RpL.up (Le.refl _) g _ _ q⟩
theorem StR.at {s : Sto} (h : StR K ρ H s) {k : Nat} {p : Addr} {ds : List AV} (hk : ρ[k]? = some p) (e : s[k]? = some (.lst ds)) : ∃ xs, H p = some (.lst xs) ∧ RpL K ρ H xs ds := h.ob k p _ hk e
/-- the items of a list or tuple stand there -/
theorem items_sq {s : Sto} (h : StR K ρ H s) {d : AV} {v : V} {ds : List AV} (r : Rp K ρ H v d) (e : items s d = some ds) : ∃ a xs, v = .ref a ∧ (SqL K H a xs ∨ SqT K H a xs) ∧ RpL K ρ H xs ds := by
  cases r with
  | tup a b =>
    cases e
    exact ⟨_, _, rfl, Or.inr a, b⟩
  | lst a b =>
    cases e
    exact ⟨_, _, rfl, Or.inl a.sq, b⟩
  | @ref a n q =>
    have e2 : (match s[n]? with
      | some (.lst xs) => some xs
      | none => none) = some ds := e
    cases hs : s[n]? with
    | none => rw [hs] at e2; cases e2
    | some o =>
      cases o with
      | lst ys =>
        rw [hs] at e2
        cases e2
        obtain ⟨xs, h1, h2⟩ := h.at q hs
        exact ⟨a, xs, rfl, Or.inl (Or.inl (Or.inl h1)), h2⟩
  | non => cases e
  | bl _ => cases e
  | int _ => cases e
  | str _ => cases e
end
end Ip

set_option Elab.async false
set_option linter.all false
set_option maxRecDepth 100000
namespace Ip
open PySem PySem.Spec PyProof.Rows L2

/-! ### which tree a word of the small language stands for -/
def dunder (x : Str) : Bool := (x == ("__debug__" : Str)) || (x == ("__classdict__" : Str)) || (x == ("__name__" : Str))
def visB (sc : Scope) (x : Str) : Bool := (match sc.names.lookup x with
  | some .local => true
  | some .cell => true
  | some .free => true
  | _ => false) && !dunder x
def glB (sc : Scope) (x : Str) : Bool := (match sc.names.lookup x with
  | some .globalImplicit => true
  | _ => false) && !dunder x
def litB : AV → Const → Bool
  | .non, .none => true
  | .bl a, .bool b => a == b
  | .int i, .int j => i == j
  | .str a, .str b => a == b
  | _, _ => false
def boB : BO → Operator → Bool
  | .add, .Add => true
  | .sub, .Sub => true
  | .mul, .Mult => true
  | .fdiv, .FloorDiv => true
  | .mod, .Mod => true
  | .pow, .Pow => true
  | _, _ => false
def coB : CO → CmpOp → Bool
  | .eq, .Eq => true
  | .ne, .NotEq => true
  | .lt, .Lt => true
  | .le, .LtE => true
  | .gt, .Gt => true
  | .ge, .GtE => true
  | .isN, .Is => true
  | .noN, .IsNot => true
  | .isB, .Is => true
  | .noB, .IsNot => true
  | .in_, .In => true
  | .notin, .NotIn => true
  | _, _ => false
def biN : BI → Str
  | .len => "len" | .int => "int" | .str => "str" | .repr => "repr" | .list => "list" | .tuple => "tuple" | .sortedSet => "sorted"
def tyN : TY → Str
  | .int => "int" | .str => "str" | .bool => "bool" | .list => "list" | .tuple => "tuple"
def meN : ME → Str
  | .append => "append" | .startswith => "startswith" | .endswith => "endswith" | .split => "split" | .join => "join" | .find => "find"
def all2 {α β : Type} (f : α → β → Bool) : List α → List β → Bool
  | [], [] => true
  | a :: r, b :: t => f a b && all2 f r t
  | _, _ => false
/-- a call without arguments -/
def bare : Expr → Bool
  | .Call (.Name _ _) [] [] _ => true
  | _ => false
/-- a comprehension's names as its frame has them -/
def relab (outer scope : Scope) : Scope := { scope with names := scope.names.map fun (n, k) => if (k == NameKind.free && outer.kind == .function && outer.names.lookup n == some .cell) then (n, NameKind.cell) else (n, k) }
def isListE : Expr → Bool
  | .List .. => true
  | .Set .. => true
  | _ => false
/-- a generator expression's own scope -/
def genC (N : List Str) (sc scope : Scope) (z : Str) : Bool :=
  decide (scope.kind = .function) && !scope.isCoroutine && (scope.names.all fun p => match p.2 with
    | .cell => false
    | .free => decide (sc.names.lookup p.1 = some .cell) || decide (sc.names.lookup p.1 = some .free)
    | .local => decide (p.1 = z) || decide (p.1 = (".0" : Str))
    | _ => true) && decide (scope.names.lookup (".0" : Str) = some .local) && decide (scope.names.lookup z = some .local) && !dunder z && decide ((".0" : Str) ∉ N)
mutual
def mtT (N : List Str) (sc osc : Scope) : IT → Expr → Bool
  | .nm i, .Name x _ => decide (N[i]? = some x) && decide (sc.names.lookup x = osc.names.lookup x) && (decide (osc.names.lookup x = some .local) || decide (osc.names.lookup x = some .cell)) && !dunder x
  | .tp ts, .Tuple es _ _ => mtTs N sc osc ts es
  | _, _ => false
def mtTs (N : List Str) (sc osc : Scope) : List IT → List Expr → Bool
  | [], [] => true
  | t :: ts, e :: es => mtT N sc osc t e && mtTs N sc osc ts es
  | _, _ => false
end
def mtO' (f : IE → Expr → Bool) : Option IE → Option Expr → Bool
  | none, none => true
  | some a, some x => f a x
  | _, _ => false
def mtW' (f : IE → Expr → Bool) (sc : Scope) (w : IW) (it : List IE) (src : Expr) : Bool := match w with
  | .range1 => (match src with
    | .Call (.Name x _) [y] [] _ => decide (x = "range") && glB sc x && all2 f it [y]
    | _ => false)
  | .range2 => (match src with
    | .Call (.Name x _) [y, z] [] _ => decide (x = "range") && glB sc x && all2 f it [y, z]
    | _ => false)
  | .seq => all2 f it [src]
  | .signs => false
section
variable (N fn cn : List Str)
def mt : Nat → Scope → IE → Expr → Bool
  | 0, _, _, _ => false
  | n + 1, sc, ir, e => match e with
    | .BoolOp op [x, y] _ => (match ir, op with
      | .an a b, .And => mt n sc a x && mt n sc b y
      | .or_ a b, .Or => mt n sc a x && mt n sc b y
      | _, _ => false)
    | .BoolOp op (x :: y :: z :: rest) pos => (match ir, op with
      | .an a b, .And => mt n sc a x && mt n sc b (.BoolOp .And (y :: z :: rest) pos)
      | .or_ a b, .Or => mt n sc a x && mt n sc b (.BoolOp .Or (y :: z :: rest) pos)
      | _, _ => false)
    | .Name x _ => (match ir with
      | .slot i => decide (N[i]? = some x) && visB sc x
      | .con i => decide (cn[i]? = some x) && glB sc x
      | _ => false)
    | .Constant c _ _ => (match ir with
      | .lit d => litB d c
      | _ => false)
    | .Tuple xs _ _ => (match ir with
      | .tup es => all2 (mt n sc) es xs
      | _ => false)
    | .List xs _ => (match ir with
      | .lst es => all2 (mt n sc) es xs
      | _ => false)
    | .BinOp x op y _ => (match ir with
      | .bin o a b => boB o op && mt n sc a x && mt n sc b y
      | _ => false)
    | .UnaryOp op x _ => (match ir, op with
      | .neg a, .USub => mt n sc a x
      | .nt a, .Not => mt n sc a x
      | _, _ => false)
    | .Compare x [op] [y] _ => (match ir with
      | .cmp o a b => coB o op && mt n sc a x && mt n sc b y
      | _ => false)
    | .Compare x [op, op'] [y, z] _ => (match ir with
      | .chain o p a b c => coB o op && coB p op' && mt n sc a x && mt n sc b y && mt n sc c z
      | _ => false)
    | .IfExp c x y _ => (match ir with
      | .ife d a b => mt n sc d c && mt n sc a x && mt n sc b y
      | _ => false)
    | .Subscript x (.Slice lo hi none _) _ => (match ir with
      | .sl a l h => mt n sc a x && mtO' (mt n sc) l lo && mtO' (mt n sc) h hi
      | _ => false)
    | .Subscript x y _ => (match ir with
      | .idx a i => mt n sc a x && mt n sc i y
      | _ => false)
    | .Call (.Name x _) xs [] _ => (match ir with
      | .call f es => decide (fn[f]? = some x) && glB sc x && all2 (mt n sc) es xs
      | .bi .sortedSet [a] => (match xs with
        | [.Call (.Name z _) [y] [] _] => decide (x = "sorted") && decide (z = "set") && glB sc x && glB sc z && mt n sc a y
        | _ => false)
      | .bi b es => decide (b ≠ .sortedSet) && decide (x = biN b) && glB sc x && !xs.isEmpty && all2 (mt n sc) es xs
      | .isi a t => (match xs with
        | [y, .Name z _] => decide (x = "isinstance") && glB sc x && decide (z = tyN t) && glB sc z && mt n sc a y
        | _ => false)
      | .quant all i elt it => (match xs with
        | [.GeneratorExp el [⟨.Name z _, src, [], 0⟩] scope _] => decide (x = if all then "all" else "any") && glB sc x && decide (N[i]? = some z) && genC N sc scope z && !isListE src && mt n sc it src && mt n scope elt el
        | _ => false)
      | _ => false)
    | .Call (.Attribute o m apos) xs [] cpos => (match ir with
      | .me k a es => decide (m = meN k) && (apos.endLine == cpos.line) && !bare o && !xs.isEmpty && decide (xs.length < 20) && mt n sc a o && all2 (mt n sc) es xs
      | _ => false)
    | .ListComp el [⟨tg, src, ifs, 0⟩] scope _ => (match ir with
      | .lc own elt t w it cs => (tsl t).all (fun i => decide (i ∈ own.map (·.2))) && blkC N sc scope own && mtT N (relab sc scope) scope t tg && mtW' (mt n sc) sc w it src && decide (cs.length ≤ 1) && all2 (mt n (relab sc scope)) cs ifs && mt n (relab sc scope) elt el
      | _ => false)
    | _ => false
def mt.mtO (n : Nat) (sc : Scope) : Option IE → Option Expr → Bool := mtO' (mt N fn cn n sc)
def mt.mtW (n : Nat) (sc : Scope) : IW → List IE → Expr → Bool := mtW' (mt N fn cn n sc) sc
end
end Ip

set_option Elab.async false
set_option linter.all false
set_option maxRecDepth 100000
set_option maxHeartbeats 1000000
namespace Ip
open PySem PySem.Spec PyProof.Rows L2
variable [Tb]

/-! ### what comes out, over the heap -/
theorem Rp.go {K : PySem.W.Frag} {ρ ρ' : List Addr} {H H' : Hp} {v : V} {d : AV} (r : Rp K ρ H v d) (g : Go ρ H ρ' H') : Rp K ρ' H' v d := Rp.up g.le g.g _ _ r
theorem RpL.go {K : PySem.W.Frag} {ρ ρ' : List Addr} {H H' : Hp} {v : List V} {d : List AV} (r : RpL K ρ H v d) (g : Go ρ H ρ' H') : RpL K ρ' H' v d := RpL.up g.le g.g _ _ r
theorem SlR.go {K : PySem.W.Frag} {ρ ρ' : List Addr} {H H' : Hp} {σ : L2.St} {sl : Slots} (r : SlR K ρ H σ sl) (g : Go ρ H ρ' H') : SlR K ρ' H' σ sl := r.up g.le g.g
/-- the wish about errors -/
def XR (K : PySem.W.Frag) (xc : List (Addr × List Str)) (ρ : List Addr) (H : Hp) (cls : Value) (d : Option Addr) (x : AX) : Prop :=
  ∃ C fs, xc[x.cls]? = some (C, fs) ∧ cls = .ref C ∧ ((x.fs = [] ∧ d = none) ∨ ∃ dd vs, d = some dd ∧ H dd = some (.xd (fs.zip vs)) ∧ RpL K ρ H vs x.fs ∧ fs.length = x.fs.length)
def Out {α β : Type} (K : PySem.W.Frag) (xc : List (Addr × List Str)) (E : XK) (ρ : List Addr) (H : Hp) (R : List Addr → Hp → β → α → Prop) (r : Rs α) (Q : β → Hp → Prop) : Prop := match r with
  | .ok a s => ∀ ρ' H' b, Go ρ H ρ' H' → StR K ρ' H' s → R ρ' H' b a → Q b H'
  | .exc x s => ∀ ρ' H' cls d, Go ρ H ρ' H' → StR K ρ' H' s → XR K xc ρ' H' cls d x → E cls d H'
  | .bad => False
section
variable {K : PySem.W.Frag} {xc : List (Addr × List Str)} {E : XK} {ρ ρ1 : List Addr} {H H1 : Hp} {α β γ δ : Type} {R : List Addr → Hp → β → α → Prop} {R2 : List Addr → Hp → δ → γ → Prop}
theorem Out.up {r : Rs α} {Q : β → Hp → Prop} (h : Out K xc E ρ H R r Q) (g : Go ρ H ρ1 H1) : Out K xc E ρ1 H1 R r Q := by
  cases r with
  | ok a s => exact fun ρ' H' b g2 => h ρ' H' b (g.trans g2)
  | exc x s => exact fun ρ' H' c d g2 => h ρ' H' c d (g.trans g2)
  | bad => exact h.elim
theorem Out.bd {r : Rs α} {f : α → Sto → Rs γ} {Q : δ → Hp → Prop} {Q' : β → Hp → Prop} (h : Out K xc E ρ H R2 (r.bd f) Q)
    (hk : ∀ a s ρ1 H1 b, r = .ok a s → Go ρ H ρ1 H1 → StR K ρ1 H1 s → R ρ1 H1 b a → Out K xc E ρ1 H1 R2 (f a s) Q → Q' b H1) : Out K xc E ρ H R r Q' := by
  cases r with
  | ok a s => exact fun ρ' H' b g st rb => hk a s ρ' H' b rfl g st rb (Out.up (show Out K xc E ρ H R2 (f a s) Q from h) g)
  | exc x s => exact h
  | bad => exact h.elim
/-- handed back at once -/
theorem Out.now {a : α} {s : Sto} {Q : β → Hp → Prop} {b : β} (h : Out K xc E ρ H R (.ok a s) Q) (st : StR K ρ H s) (r : R ρ H b a) : Q b H := h ρ H b (Go.refl _ _) st r
theorem Out.opt {o : Option α} {s : Sto} {Q : β → Hp → Prop} (h : Out K xc E ρ H R (Ip.opt o s) Q) : ∃ a, o = some a ∧ Out K xc E ρ H R (.ok a s) Q := by
  cases o with
  | some a => exact ⟨a, rfl, h⟩
  | none => exact h.elim
/-- a new list -/
theorem Out.new {s : Sto} {Q : V → Hp → Prop} {ds : List AV} (h : Out K xc E ρ H (Rp K) (.ok (.ref s.length) (s ++ [.lst ds])) Q) (st : StR K ρ H s) {xs : List V} (r : RpL K ρ H xs ds) {p : Addr} (hp : H p = none) : Q (.ref p) (L2.upd H p (.lst xs)) := by
  obtain ⟨st2, r2⟩ := st.new hp r
  exact h _ _ _ (Go.new hp) st2 r2
end

/-! ### where one stands -/
structure Wd where
  N : List Str
  fn : List Str
  cn : List Str
  C : List AV
  xc : List (Addr × List Str)
def spI (K : PySem.W.Frag) (xc : List (Addr × List Str)) (f : List AV → Sto → Rs AV) : Sp := fun vs H Q E => ∃ ρ s ds, StR K ρ H s ∧ RpL K ρ H vs ds ∧ Out K xc E ρ H (Rp K) (f ds s) Q
def bltins : List Str := ["len", "int", "str", "repr", "list", "tuple", "sorted", "set", "isinstance", "all", "any", "range", "bool"]
/-- room, g generators deep -/
structure Rg (k g : Nat) (A : Around) : Prop where
  rm : Rm k (4 * g) A
/-- what is known of the context: the defs' promises among it; T: the table, by how much of the depth is spent -/
structure Gd (w : Wd) (T : Nat → Nat → List AV → Sto → Rs AV) (k g : Nat) (E : XK) (X : Cx) : Prop where
  N : X.N = w.N
  nd : X.N.Nodup
  calm : X.calm = true
  rg : Rg k g X.A
  fn : ∀ (d f : Nat) (x : Str), w.fn[f]? = some x → ∃ a fd ps, X.mg x = some (.ref a) ∧ PySem.W.keepIn X.K (.ref a) = true ∧ Binds X.K fd ps [] ∧ FnG X.prog X.w X.K X.mg X.base k d a fd ps (spI X.K w.xc (T d f))
  cn : ∀ (i : Nat) (x : Str) (d : AV), w.cn[i]? = some x → w.C[i]? = some d → ∃ u v, X.mg x = some u ∧ RelV v u ∧ ∀ ρ H, Rp X.K ρ H v d
  bi : ∀ x ∈ bltins, X.mg x = none
  ps : Passes (L2.CX X.prog X.w) X E
  cd : g = 0 → ∃ c P, X.env.code = .ref c ∧ GxR.TabB X.base X.mg c P ∧ P ∈ Tb.l
section
variable {w : Wd} {F : Nat → Nat → List AV → Sto → Rs AV} {E : XK} {X : Cx} {g : Nat}
/-- an expression's reading, by what the small language works out -/
def tI (w : Wd) (K : PySem.W.Frag) (E : XK) (ev : Slots → Sto → Rs AV) : TE := fun σ H Q => ∃ ρ sl s, StR K ρ H s ∧ SlR K ρ H σ sl ∧ Out K w.xc E ρ H (Rp K) (ev sl s) Q
def tIs (w : Wd) (K : PySem.W.Frag) (E : XK) (ev : Slots → Sto → Rs (List AV)) : TA := fun σ H Q => ∃ ρ sl s, StR K ρ H s ∧ SlR K ρ H σ sl ∧ Out K w.xc E ρ H (RpL K) (ev sl s) Q
def EqB (_ : List Addr) (_ : Hp) (b a : Bool) : Prop := b = a
def tIt (w : Wd) (K : PySem.W.Frag) (E : XK) (ev : Slots → Sto → Rs Bool) : TT := fun σ H Q => ∃ ρ sl s, StR K ρ H s ∧ SlR K ρ H σ sl ∧ Out K w.xc E ρ H EqB (ev sl s) Q

theorem PE.of {e : Expr} {t t' : TE} (h : PE X e t) (ht : ∀ σ H Q, t' σ H Q → t σ H Q) : PE X e t' := ⟨fun pins s σ H Q I q => h.run pins s σ H Q I (ht σ H Q q)⟩
theorem PA.of {e : List Expr} {t t' : TA} (h : PA X e t) (ht : ∀ σ H Q, t' σ H Q → t σ H Q) : PA X e t' := ⟨fun pos pins s σ H Q I q => h.run pos pins s σ H Q I (ht σ H Q q)⟩
theorem PT.of {e : Expr} {t t' : TT} (h : PT X e t) (ht : ∀ σ H Q, t' σ H Q → t σ H Q) : PT X e t' := ⟨fun pins s σ H Q I q => h.run pins s σ H Q I (ht σ H Q q)⟩
theorem PW.of {e : Expr} {t t' : TT} (h : PW X e t) (ht : ∀ σ H Q, t' σ H Q → t σ H Q) : PW X e t' := ⟨fun wh pins s σ H Q I q => h.run wh pins s σ H Q I (ht σ H Q q)⟩
theorem PE.no {e : Expr} {ev : Slots → Sto → Rs AV} {K : PySem.W.Frag} (h : ∀ σ s, ev σ s = .bad) : PE X e (tI w K E ev) := ⟨fun pins s σ H Q I q => by
  obtain ⟨ρ, sl, s', _, _, o⟩ := q
  rw [h] at o
  exact o.elim⟩

/-! ### arguments -/
theorem star_plain {N fn cn : List Str} {n : Nat} {sc : Scope} {ir : IE} {e : Expr} {es : List Expr} {env : Env} (h : mt N fn cn n sc ir e = true) : starEach (e :: es) env = (false, eval e env) :: starEach es env := by
  cases n with
  | zero => rw [mt] at h; cases h
  | succ n =>
    cases e <;> first
      | rfl
      | (unfold mt at h; cases h)
theorem args_plain {pos : Pos} {env : Env} {N fn cn : List Str} {n : Nat} {sc : Scope} : ∀ {irs : List IE} {es : List Expr}, all2 (mt N fn cn n sc) irs es = true → (backTo pos (starEach es env)).any (·.1) = false
  | [], [], _ => rfl
  | ir :: irs, e :: es, h => by
    have h2 : (mt N fn cn n sc ir e && all2 (mt N fn cn n sc) irs es) = true := h
    rw [Bool.and_eq_true] at h2
    rw [star_plain h2.1]
    have q := args_plain (pos := pos) (env := env) h2.2
    show (false || (backTo pos (starEach es env)).any (·.1)) = false
    rw [q]
    rfl
theorem pa_all {n : Nat} {sc : Scope} {N fn cn : List Str} {ev : IE → Slots → Sto → Rs AV} (ih : ∀ ir e, mt N fn cn n sc ir e = true → PE X e (tI w X.K E (ev ir))) :
    ∀ (irs : List IE) (es : List Expr), all2 (mt N fn cn n sc) irs es = true → PA X es (tIs w X.K E (evs ev irs))
  | [], [], _ => PA.of pa_nil fun σ H Q ⟨ρ, sl, s, st, sr, o⟩ => Out.now o st .nil
  | ir :: irs, e :: es, h => by
    have h2 : (mt N fn cn n sc ir e && all2 (mt N fn cn n sc) irs es) = true := h
    rw [Bool.and_eq_true] at h2
    refine PA.of (pa_cons (ih ir e h2.1) (pa_all ih irs es h2.2) (star_plain h2.1)) ?_
    rintro σ H Q ⟨ρ, sl, s, st, sr, o⟩
    refine ⟨ρ, sl, s, st, sr, Out.bd o ?_⟩
    intro a s1 ρ1 H1 b _ g1 st1 r1 o1
    refine ⟨ρ1, sl, s1, st1, sr.go g1, Out.bd o1 ?_⟩
    intro as s2 ρ2 H2 bs _ g2 st2 r2 o2
    exact Out.now o2 st2 (.cons (r1.go g2) r2)

/-! ### a call in a store of its own -/
section
variable {K : PySem.W.Frag} {xc : List (Addr × List Str)} {E : XK} {ρ ρ' : List Addr} {H H' : Hp} {n : Nat}
mutual
theorem Rp.low : ∀ (d : AV) (v : V), lowA n d = true → Rp K ρ H v d → Rp K (ρ.take n) H v d
  | .non, _, _, h => by cases h; exact .non
  | .bl b, _, _, h => by cases h; exact .bl b
  | .int i, _, _, h => by cases h; exact .int i
  | .str x, _, _, h => by cases h; exact .str x
  | .tup ds, _, l, h => by
    cases h with
    | tup a b => exact .tup a (RpL.low ds _ (by simpa only [lowA] using l) b)
  | .lst ds, _, l, h => by
    cases h with
    | lst a b => exact .lst a (RpL.low ds _ (by simpa only [lowA] using l) b)
  | .ref m, _, l, h => by
    cases h with
    | ref a =>
      have hm : m < n := by simpa [lowA] using l
      exact .ref (by rw [List.getElem?_take_of_lt hm]; exact a)
theorem RpL.low : ∀ (ds : List AV) (vs : List V), lowL n ds = true → RpL K ρ H vs ds → RpL K (ρ.take n) H vs ds
  | [], _, _, h => by cases h; exact .nil
  | d :: ds, _, l, h => by
    have l2 : (lowA n d && lowL n ds) = true := by simpa only [lowL] using l
    rw [Bool.and_eq_true] at l2
    cases h with
    | cons a b => exact .cons (Rp.low d _ l2.1 a) (RpL.low ds _ l2.2 b)
end
theorem Rp.any {d : AV} {v : V} (l : lowA 0 d = true) (r : Rp K ρ H v d) : Rp K ρ' H v d := by
  have q := Rp.low d v l r
  rw [List.take_zero] at q
  exact Rp.up (ρ := []) (fun _ _ h => by simp at h) (Gr.refl H) d v q
theorem RpL.any {ds : List AV} {vs : List V} (l : lowL 0 ds = true) (r : RpL K ρ H vs ds) : RpL K ρ' H vs ds := by
  have q := RpL.low ds vs l r
  rw [List.take_zero] at q
  exact RpL.up (ρ := []) (fun _ _ h => by simp at h) (Gr.refl H) ds vs q
theorem StR.nil {s : Sto} (st : StR K ρ H s) : StR K [] H [] := ⟨rfl, List.nodup_nil, st.tb, fun m a o e1 e2 => by simp at e1⟩
theorem Go.frame {s : Sto} (st : StR K ρ H s) (g : Go [] H ρ' H') (tb : TbOk H') : Go ρ H ρ H' ∧ StR K ρ H' s := by
  refine ⟨⟨Le.refl _, g.g, fun a o e na nt => ⟨(g.f a o e (by simp) nt).1, na⟩⟩, st.len, st.nd, tb, fun m a o e1 e2 => ?_⟩
  have q := st.ob m a o e1 e2
  cases o with
  | lst ds =>
    obtain ⟨xs, h1, h2⟩ := q
    exact ⟨xs, (g.f a _ h1 (by simp) (fun ps z => by cases z)).1, RpL.up (Le.refl _) g.g _ _ h2⟩
theorem callF_ok {f : List AV → Sto → Rs AV} {s : Sto} {vs : List V} {ds : List AV} {Q : VK} (st : StR K ρ H s) (r : RpL K ρ H vs ds) (o : Out K xc E ρ H (Rp K) (callF f ds s) Q) : spI K xc f vs H Q E := by
  unfold callF at o
  split at o
  · rename_i hl
    split at o
    · rename_i v s0 e
      split at o
      · rename_i hv
        refine ⟨[], [], ds, st.nil, RpL.any hl r, ?_⟩
        rw [e]
        intro ρ1 H1 b g1 st1 rb
        obtain ⟨g2, st2⟩ := Go.frame st g1 st1.tb
        exact o ρ H1 b g2 st2 (Rp.any hv rb)
      · exact ⟨ρ, s, ds, st, r, o⟩
    · rename_i x s0 e
      split at o
      · rename_i hv
        refine ⟨[], [], ds, st.nil, RpL.any hl r, ?_⟩
        rw [e]
        intro ρ1 H1 cls d g1 st1 rb
        obtain ⟨g2, st2⟩ := Go.frame st g1 st1.tb
        refine o ρ H1 cls d g2 st2 ?_
        obtain ⟨C, fs, z1, z2, z3⟩ := rb
        refine ⟨C, fs, z1, z2, z3.imp id fun ⟨dd, us, y1, y2, y3, y4⟩ => ⟨dd, us, y1, y2, RpL.any hv y3, y4⟩⟩
      · exact ⟨ρ, s, ds, st, r, o⟩
    · exact ⟨ρ, s, ds, st, r, o⟩
  · exact ⟨ρ, s, ds, st, r, o⟩
end
/-! ### truth -/
theorem fits_line {n : Nat} (h : n ≤ LINE) : n ≤ sizeLine := by
  rw [sizeLine_eq]
  exact h
theorem truth_ok {K : PySem.W.Frag} {ρ : List Addr} {H : Hp} {s : Sto} (st : StR K ρ H s) {v : V} {d : AV} {b : Bool} (r : Rp K ρ H v d) (h : truth s d = some b) : TruV K v H b := by
  have seq : ∀ ds, items s d = some ds → b = !ds.isEmpty → TruV K v H b := fun ds e q => by
    obtain ⟨a, xs, rfl, hs, rx⟩ := items_sq st r e
    have em : xs.isEmpty = ds.isEmpty := by
      have l := rx.len
      cases xs <;> cases ds <;> simp_all
    rcases hs with hs | hs
    · exact Or.inl ⟨xs, hs, by rw [em]; exact q⟩
    · exact Or.inr (Or.inl ⟨xs, hs, by rw [em]; exact q⟩)
  have seq2 : (items s d).map (fun xs => !xs.isEmpty) = some b → TruV K v H b := fun e => by
    cases q : items s d with
    | none => rw [q] at e; cases e
    | some ds =>
      rw [q] at e
      exact seq ds q (Option.some.inj e).symm
  cases d with
  | non => cases r; cases h; rfl
  | bl b => cases r; cases h; rfl
  | int i => cases r; cases h; rfl
  | str y =>
    cases r
    have h2 : (if y.length ≤ LINE then some ((y.length : Int) != 0) else none) = some b := h
    by_cases hl : y.length ≤ LINE
    · rw [if_pos hl] at h2
      exact ⟨fits_line hl, (Option.some.inj h2).symm⟩
    · rw [if_neg hl] at h2
      cases h2
  | tup xs => exact seq2 h
  | lst xs => exact seq2 h
  | ref n => exact seq2 h
end
end Ip

set_option Elab.async false
set_option linter.all false
set_option maxRecDepth 100000
set_option maxHeartbeats 2000000
namespace Ip
open PySem PySem.Spec PyProof.Rows L2
variable [Tb]
section
variable {w : Wd} {E : XK} {X : Cx} {K : PySem.W.Frag} {xc : List (Addr × List Str)} {ρ : List Addr} {H : Hp} {s : Sto}

theorem optAll_get {α β : Type} {f : α → Option β} : ∀ {xs : List α} {ys : List β}, optAll f xs = some ys → ∀ (P : α → β → Prop), (∀ x y, x ∈ xs → f x = some y → P x y) → Paired P xs ys
  | [], ys, h, P, _ => by cases h; exact .nil
  | x :: r, ys, h, P, hp => by
    unfold optAll at h
    cases e1 : f x with
    | none => rw [e1] at h; cases h
    | some y =>
      rw [e1] at h
      cases e2 : optAll f r with
      | none => rw [e2] at h; cases h
      | some zs =>
        rw [e2] at h
        cases h
        exact .cons (hp x y List.mem_cons_self e1) (optAll_get e2 P fun a b ha hb => hp a b (List.mem_cons_of_mem _ ha) hb)
theorem dp_all {n : Nat} (ih : ∀ (d : AV) (v : V) (e : PyData), Rp K ρ H v d → d.data s n = some e → Dp K H v e) : ∀ (ds : List AV) (vs : List V) (es : List PyData), RpL K ρ H vs ds → optAll (AV.data s n) ds = some es → DpAll K H vs es
  | [], _, _, r, h => by cases r; cases h; exact .nil
  | d :: ds, _, es, r, h => by
    cases r with
    | cons a b =>
      unfold optAll at h
      cases e1 : AV.data s n d with
      | none => rw [e1] at h; cases h
      | some y =>
        rw [e1] at h
        cases e2 : optAll (AV.data s n) ds with
        | none => rw [e2] at h; cases h
        | some zs =>
          rw [e2] at h
          cases h
          exact .cons (ih _ _ _ a e1) (dp_all ih ds _ zs b e2)
/-- data, over the heap -/
theorem data_dp (st : StR K ρ H s) : ∀ (n : Nat) (d : AV) (v : V) (e : PyData), Rp K ρ H v d → d.data s n = some e → Dp K H v e
  | 0, _, _, _, _, h => by cases h
  | n + 1, d, v, e, r, h => by
    have ih := data_dp st n
    cases r with
    | non => cases h; exact .non
    | bl b => cases h; exact .bl b
    | int i => cases h; exact .int i
    | str x => cases h; exact .str x
    | @tup a xs ds q1 q2 =>
      have h2 : (optAll (AV.data s n) ds).map PyData.tuple = some e := h
      cases q : optAll (AV.data s n) ds with
      | none => rw [q] at h2; cases h2
      | some es =>
        rw [q] at h2
        cases h2
        exact .tup q1 (dp_all ih _ _ _ q2 q)
    | @lst a xs ds q1 q2 =>
      have h2 : (optAll (AV.data s n) ds).map PyData.list = some e := h
      cases q : optAll (AV.data s n) ds with
      | none => rw [q] at h2; cases h2
      | some es =>
        rw [q] at h2
        cases h2
        exact .lst q1.sq (dp_all ih _ _ _ q2 q)
    | @ref a k q1 =>
      have h2 : (match s[k]? with
        | some (.lst xs) => (optAll (AV.data s n) xs).map PyData.list
        | none => none) = some e := h
      cases hs : s[k]? with
      | none => rw [hs] at h2; cases h2
      | some o =>
        cases o with
        | lst ds =>
          rw [hs] at h2
          obtain ⟨xs, h3, h4⟩ := st.at q1 hs
          have h5 : (optAll (AV.data s n) ds).map PyData.list = some e := h2
          cases q : optAll (AV.data s n) ds with
          | none => rw [q] at h5; cases h5
          | some es =>
            rw [q] at h5
            cases h5
            exact .lst (Or.inl (Or.inl h3)) (dp_all ih _ _ _ h4 q)
theorem scalA_ok {x y : V} {dx dy : AV} {b : Bool} (rx : Rp K ρ H x dx) (ry : Rp K ρ H y dy) (h : scalA dx dy = some b) : scal x y = true ∧ decide (x = y) = b := by
  cases dx <;> cases dy <;> first
    | (cases h; done)
    | (cases rx; cases ry; cases h; exact ⟨rfl, by decide⟩)
    | (cases rx; cases ry; cases h; refine ⟨rfl, ?_⟩; first | exact dec_int | exact dec_bl | exact dec_str | (refine decide_eq_false (fun z => ?_); cases z))

/-! ### operators -/
def rBin (K : PySem.W.Frag) (xc : List (Addr × List Str)) (E : XK) (op : BO) : L2.R2 := fun x y H Q => ∃ ρ s dx dy, StR K ρ H s ∧ Rp K ρ H x dx ∧ Rp K ρ H y dy ∧ Out K xc E ρ H (Rp K) (opBin op dx dy s) Q
theorem bin_ok {op : BO} {o : Operator} (hb : boB op o = true) : OpR X (binaryOp o) (rBin X.K xc E op) := by
  intro pins s σ H x y v u Q I rx ry h
  obtain ⟨ρ, t, dx, dy, st, r1, r2, out⟩ := h
  have no : opBin op dx dy t = .bad → False := fun e => by rw [e] at out; exact out
  cases op <;> cases o <;> first | (cases hb; done) | skip
  · -- add
    cases dx <;> cases dy <;> first | exact (no rfl).elim | skip
    · cases r1; cases r2
      exact op_add pins s σ H _ _ v u Q I rx ry ⟨_, _, rfl, rfl, out.now st (.int _)⟩
    · rename_i a b
      have e : opBin .add (.str a) (.str b) t = if a.length + b.length ≤ LINE then .ok (.str (a ++ b)) t else .bad := rfl
      rw [e] at out
      by_cases hl : a.length + b.length ≤ LINE
      · rw [if_pos hl] at out
        cases r1; cases r2
        exact op_add_str pins s σ H _ _ v u Q I rx ry ⟨_, _, rfl, rfl, fits_line hl, out.now st (.str _)⟩
      · rw [if_neg hl] at out
        exact out.elim
    · rename_i as bs
      have e : opBin .add (.tup as) (.tup bs) t = if as.isEmpty = false ∧ as.length + bs.length ≤ LINE then .ok (.tup (as ++ bs)) t else .bad := rfl
      rw [e] at out
      by_cases hl : as.isEmpty = false ∧ as.length + bs.length ≤ LINE
      · rw [if_pos hl] at out
        cases r1 with
        | tup p1 q1 =>
          cases r2 with
          | tup p2 q2 =>
            rename_i a1 xs1 a2 xs2
            refine op_catT pins s σ H _ _ v u Q I rx ry ⟨a1, a2, xs1, xs2, rfl, rfl, p1, p2, ?_, ?_, fun e2 => ?_, fun e2 p hp => ?_⟩
            · intro z
              have l := q1.len
              rw [z] at l
              cases as with
              | nil => exact absurd hl.1 (by simp)
              | cons _ _ => simp at l
            · rw [q1.len, q2.len]
              exact fits_line hl.2
            · have l := q2.len
              rw [e2] at l
              cases bs with
              | cons _ _ => simp at l
              | nil =>
                rw [List.append_nil] at out
                exact out.now st (.tup p1 q1)
            · have g : Gr H (L2.upd H p (.tup (xs1 ++ xs2))) := Gr.new hp
              refine out _ _ _ (Go.fresh hp) ⟨st.len, st.nd, st.tb.upd (fun ps z => by rw [hp] at z; cases z), fun n a o h1 h2 => ?_⟩ (.tup (Or.inl (Or.inl upd_same)) ((RpL.up (Le.refl _) g _ _ q1).app (RpL.up (Le.refl _) g _ _ q2)))
              have hob := st.ob n a o h1 h2
              cases o with
              | lst es =>
                obtain ⟨ys, e5, q⟩ := hob
                exact ⟨ys, by rw [upd_ne (ne_of_none e5 hp)]; exact e5, RpL.up (Le.refl _) g _ _ q⟩
      · rw [if_neg hl] at out
        exact out.elim
    · rename_i m n
      have e : opBin .add (.ref m) (.ref n) t = (match t[m]?, t[n]? with
        | some (.lst xs), some (.lst ys) => if xs.length + ys.length ≤ LINE then .ok (.ref t.length) (t ++ [.lst (xs ++ ys)]) else .bad
        | _, _ => .bad) := rfl
      rw [e] at out
      cases hm : t[m]? with
      | none => rw [hm] at out; exact out.elim
      | some om =>
        cases hn : t[n]? with
        | none =>
          rw [hm, hn] at out
          cases om
          exact out.elim
        | some on =>
          rw [hm, hn] at out
          cases om with
          | lst as =>
            cases on with
            | lst bs =>
              have out2 : Out X.K xc E ρ H (Rp X.K) (if as.length + bs.length ≤ LINE then .ok (.ref t.length) (t ++ [.lst (as ++ bs)]) else .bad) Q := out
              by_cases hl : as.length + bs.length ≤ LINE
              · rw [if_pos hl] at out2
                cases r1 with
                | ref p1 =>
                  cases r2 with
                  | ref p2 =>
                    obtain ⟨xs, h1, q1⟩ := st.at p1 hm
                    obtain ⟨ys, h2, q2⟩ := st.at p2 hn
                    exact op_cat pins s σ H _ _ v u Q I rx ry ⟨_, _, xs, ys, rfl, rfl, h1, h2, by rw [q1.len, q2.len]; exact fits_line hl, fun p hp => out2.new st (q1.app q2) hp⟩
              · rw [if_neg hl] at out2
                exact out2.elim
  · cases dx <;> cases dy <;> first | exact (no rfl).elim | skip
    cases r1; cases r2
    exact op_sub pins s σ H _ _ v u Q I rx ry ⟨_, _, rfl, rfl, out.now st (.int _)⟩
  · cases dx <;> cases dy <;> first | exact (no rfl).elim | skip
    rename_i i j
    have e : opBin .mul (.int i) (.int j) t = if (-18446744073709551616 < i ∧ i < 18446744073709551616) ∨ (-18446744073709551616 < j ∧ j < 18446744073709551616) then .ok (.int (i * j)) t else .bad := rfl
    rw [e] at out
    split at out
    · rename_i hc
      cases r1; cases r2
      exact op_mul pins s σ H _ _ v u Q I rx ry ⟨_, _, rfl, rfl, hc, out.now st (.int _)⟩
    · exact out.elim
  · cases dx <;> cases dy <;> first | exact (no rfl).elim | skip
    rename_i i j
    have e : opBin .fdiv (.int i) (.int j) t = if 0 < j ∧ j < 1073741824 then .ok (.int (i / j)) t else .bad := rfl
    rw [e] at out
    split at out
    · rename_i hc
      cases r1; cases r2
      exact op_fdiv pins s σ H _ _ v u Q I rx ry ⟨_, _, rfl, rfl, hc, out.now st (.int _)⟩
    · exact out.elim
  · cases dx <;> cases dy <;> first | exact (no rfl).elim | skip
    rename_i i j
    have e : opBin .mod (.int i) (.int j) t = if 0 < j then .ok (.int (i % j)) t else .bad := rfl
    rw [e] at out
    split at out
    · rename_i hc
      cases r1; cases r2
      exact op_mod pins s σ H _ _ v u Q I rx ry ⟨_, _, rfl, rfl, hc, out.now st (.int _)⟩
    · exact out.elim
  · cases dx <;> cases dy <;> first | exact (no rfl).elim | skip
    rename_i i j
    have e : opBin .pow (.int i) (.int j) t = if 0 ≤ j ∧ j ≤ 1000000 ∧ i.natAbs < 18446744073709551616 then .ok (.int (i ^ j.toNat)) t else .bad := rfl
    rw [e] at out
    split at out
    · rename_i hc
      cases r1; cases r2
      exact op_pow pins s σ H _ _ v u Q I rx ry ⟨_, _, rfl, rfl, hc, out.now st (.int _)⟩
    · exact out.elim

/-! ### comparisons -/
def rCmp (K : PySem.W.Frag) (op : CO) : L2.R2 := fun x y H Q => ∃ ρ s dx dy b, StR K ρ H s ∧ Rp K ρ H x dx ∧ Rp K ρ H y dy ∧ opCmp op dx dy s = some b ∧ Q (.bl b) H
theorem eqD_ok (hu : X.A.units + 64 < cLine) {pins : List (Addr × Obj)} {sh : Shared} {σ : L2.St} {x y : V} {v u : Value} {Q : VK} {dx dy : AV} {b : Bool} (st : StR X.K ρ H s) (r1 : Rp X.K ρ H x dx) (r2 : Rp X.K ρ H y dy) (h : eqD dx dy s = some b)
    (I : Inv X pins σ H sh) (rx : RelV x v) (ry : RelV y u) : (Q (.bl b) H → wpAny (model X.prog X.w) X.A (compareOp .Eq v u) (EP X pins σ Q) X.xe sh) ∧ (Q (.bl (!b)) H → wpAny (model X.prog X.w) X.A (compareOp .NotEq v u) (EP X pins σ Q) X.xe sh) := by
  unfold eqD at h
  cases e : scalA dx dy with
  | some c =>
    rw [e] at h
    cases h
    obtain ⟨h1, h2⟩ := scalA_ok r1 r2 e
    exact ⟨fun q => op_eq pins sh σ H x y v u Q I rx ry ⟨h1, by rw [h2]; exact q⟩, fun q => op_ne pins sh σ H x y v u Q I rx ry ⟨h1, by rw [h2]; exact q⟩⟩
  | none =>
    rw [e] at h
    cases e1 : dx.data s 60 with
    | none => rw [e1] at h; cases h
    | some d1 =>
      cases e2 : dy.data s 60 with
      | none => rw [e1, e2] at h; cases h
      | some d2 =>
        rw [e1, e2] at h
        have h2 : (if (SeqAt.shaped d1 && SeqAt.shaped d2) = true then some (PyData.eqv d1 d2) else none) = some b := h
        split at h2
        · rename_i hs
          rw [Bool.and_eq_true] at hs
          cases h2
          have p1 := data_dp st 60 _ _ _ r1 e1
          have p2 := data_dp st 60 _ _ _ r2 e2
          exact ⟨fun q => op_eqD hu pins sh σ H x y v u Q I rx ry ⟨d1, d2, p1, p2, hs.1, hs.2, q⟩, fun q => op_neD hu pins sh σ H x y v u Q I rx ry ⟨d1, d2, p1, p2, hs.1, hs.2, q⟩⟩
        · cases h2
theorem flat_ok {v : V} {d : AV} (r : Rp K ρ H v d) (h : flatA d = true) : flatV v = true := by
  cases r <;> first | rfl | cases h
theorem flat_all : ∀ {vs : List V} {ds : List AV}, RpL K ρ H vs ds → ds.all flatA = true → vs.all flatV = true
  | _, [], r, _ => by cases r; rfl
  | _, d :: ds, r, h => by
    cases r with
    | cons a b =>
      rw [List.all_cons, Bool.and_eq_true] at h ⊢
      exact ⟨flat_ok a h.1, flat_all b h.2⟩
theorem eqA_ok {x y : V} {dx dy : AV} (r1 : Rp K ρ H x dx) (r2 : Rp K ρ H y dy) (h1 : flatA dx = true) (h2 : flatA dy = true) : eqV x y = eqA dx dy := by
  cases r1 <;> first | (cases h1; done) | (cases r2 <;> first | (cases h2; done) | rfl)
theorem any_eqA {x : V} {dx : AV} (r1 : Rp K ρ H x dx) (h1 : flatA dx = true) : ∀ {vs : List V} {ds : List AV}, RpL K ρ H vs ds → ds.all flatA = true → inV x vs = ds.any fun z => eqA z dx
  | _, [], r, _ => by cases r; rfl
  | _, d :: ds, r, h => by
    cases r with
    | cons a b =>
      rw [List.all_cons, Bool.and_eq_true] at h
      show (eqV _ x || inV x _) = _
      rw [eqA_ok a r1 h.1 h1, any_eqA r1 h1 b h.2, List.any_cons]
theorem inA_ok {pins : List (Addr × Obj)} {sh : Shared} {σ : L2.St} {x y : V} {v u : Value} {Q : VK} {dx dy : AV} {b : Bool} (st : StR X.K ρ H s) (r1 : Rp X.K ρ H x dx) (r2 : Rp X.K ρ H y dy) (h : inA dx dy s = some b)
    (I : Inv X pins σ H sh) (rx : RelV x v) (ry : RelV y u) : (Q (.bl b) H → wpAny (model X.prog X.w) X.A (compareOp .In v u) (EP X pins σ Q) X.xe sh) ∧ (Q (.bl (!b)) H → wpAny (model X.prog X.w) X.A (compareOp .NotIn v u) (EP X pins σ Q) X.xe sh) := by
  have seq : (match items s dy with
      | some xs => if (flatA dx && xs.all flatA) = true then some (xs.any fun z => eqA z dx) else none
      | none => none) = some b → (Q (.bl b) H → wpAny (model X.prog X.w) X.A (compareOp .In v u) (EP X pins σ Q) X.xe sh) ∧ (Q (.bl (!b)) H → wpAny (model X.prog X.w) X.A (compareOp .NotIn v u) (EP X pins σ Q) X.xe sh) := fun h => by
    cases e : items s dy with
    | none => rw [e] at h; cases h
    | some ds =>
      rw [e] at h
      have h2 : (if (flatA dx && ds.all flatA) = true then some (ds.any fun z => eqA z dx) else none) = some b := h
      split at h2
      · rename_i hf
        rw [Bool.and_eq_true] at hf
        cases h2
        obtain ⟨a, xs, rfl, hq, rl⟩ := items_sq st r2 e
        have ein := any_eqA r1 hf.1 rl hf.2
        refine ⟨fun q => op_in_seq pins sh σ H x _ v u Q I rx ry ⟨a, xs, rfl, hq, flat_ok r1 hf.1, flat_all rl hf.2, ?_⟩, fun q => op_notIn_seq pins sh σ H x _ v u Q I rx ry ⟨a, xs, rfl, hq, flat_ok r1 hf.1, flat_all rl hf.2, ?_⟩⟩
        · show Q (.bl (if false = true then !inV x xs else inV x xs)) H
          rw [ein]
          exact q
        · show Q (.bl (if true = true then !inV x xs else inV x xs)) H
          rw [ein]
          exact q
      · cases h2
  cases dy with
  | str z =>
    cases r2
    cases dx with
    | str a =>
      cases r1
      obtain ⟨⟨l⟩⟩ := a
      match l, h with
      | [c], h =>
        have h2 : some (decide (c ∈ z.cps.toList)) = some b := h
        cases h2
        exact ⟨fun q => op_in_sign pins sh σ H _ _ v u Q I rx ry ⟨c, z, rfl, rfl, q⟩, fun q => op_notIn_sign pins sh σ H _ _ v u Q I rx ry ⟨c, z, rfl, rfl, q⟩⟩
      | [], h => cases h
      | _ :: _ :: _, h => cases h
    | _ => cases h
  | tup ds => exact seq h
  | lst ds => exact seq h
  | ref n => exact seq h
  | non => exact seq h
  | bl _ => exact seq h
  | int _ => exact seq h
theorem cmp_ok (hu : X.A.units + 64 < cLine) {op : CO} {o : CmpOp} (hc : coB op o = true) : OpR X (compareOp o) (rCmp X.K op) := by
  intro pins sh σ H x y v u Q I rx ry h
  obtain ⟨ρ, s, dx, dy, b, st, r1, r2, hb, q⟩ := h
  cases op <;> cases o <;> first | (cases hc; done) | skip
  · exact (eqD_ok hu st r1 r2 hb I rx ry).1 q
  · have h2 : (eqD dx dy s).map (!·) = some b := hb
    cases e : eqD dx dy s with
    | none => rw [e] at h2; cases h2
    | some c =>
      rw [e] at h2
      cases h2
      exact (eqD_ok hu st r1 r2 e I rx ry).2 q
  · cases dx <;> cases dy <;> first | (cases hb; done) | skip
    · cases r1; cases r2; cases hb
      exact op_lt pins sh σ H _ _ v u Q I rx ry ⟨_, _, rfl, rfl, q⟩
    · cases r1; cases r2; cases hb
      exact op_lt_str pins sh σ H _ _ v u Q I rx ry ⟨_, _, rfl, rfl, q⟩
  · cases dx <;> cases dy <;> first | (cases hb; done) | skip
    · cases r1; cases r2; cases hb
      exact op_le pins sh σ H _ _ v u Q I rx ry ⟨_, _, rfl, rfl, q⟩
    · cases r1; cases r2; cases hb
      exact op_le_str pins sh σ H _ _ v u Q I rx ry ⟨_, _, rfl, rfl, q⟩
  · cases dx <;> cases dy <;> first | (cases hb; done) | skip
    · cases r1; cases r2; cases hb
      exact op_gt pins sh σ H _ _ v u Q I rx ry ⟨_, _, rfl, rfl, q⟩
    · cases r1; cases r2; cases hb
      exact op_gt_str pins sh σ H _ _ v u Q I rx ry ⟨_, _, rfl, rfl, q⟩
  · cases dx <;> cases dy <;> first | (cases hb; done) | skip
    · cases r1; cases r2; cases hb
      exact op_ge pins sh σ H _ _ v u Q I rx ry ⟨_, _, rfl, rfl, q⟩
    · cases r1; cases r2; cases hb
      exact op_ge_str pins sh σ H _ _ v u Q I rx ry ⟨_, _, rfl, rfl, q⟩
  · cases dy <;> first | (cases hb; done) | skip
    cases r2
    refine op_isN pins sh σ H _ _ v u Q I rx ry ⟨rfl, ?_⟩
    have e : decide (x = V.non) = b := by
      cases r1 <;> cases hb <;> first | rfl | (exact decide_eq_false fun z => nomatch z)
    rw [e]
    exact q
  · cases dy <;> first | (cases hb; done) | skip
    cases r2
    refine op_notN pins sh σ H _ _ v u Q I rx ry ⟨rfl, ?_⟩
    have e : (!decide (x = V.non)) = b := by
      cases r1 <;> cases hb <;> first | rfl | (rw [decide_eq_false fun z => nomatch z]; rfl)
    rw [e]
    exact q
  · cases dx <;> cases dy <;> first | (cases hb; done) | skip
    cases r1; cases r2; cases hb
    exact op_isBl pins sh σ H _ _ v u Q I rx ry ⟨_, _, rfl, rfl, q⟩
  · cases dx <;> cases dy <;> first | (cases hb; done) | skip
    cases r1; cases r2; cases hb
    exact op_notBl pins sh σ H _ _ v u Q I rx ry ⟨_, _, rfl, rfl, q⟩
  · exact (inA_ok st r1 r2 hb I rx ry).1 q
  · have h2 : (inA dx dy s).map (!·) = some b := hb
    cases e : inA dx dy s with
    | none => rw [e] at h2; cases h2
    | some c =>
      rw [e] at h2
      cases h2
      exact (inA_ok st r1 r2 e I rx ry).2 q
end
end Ip

set_option Elab.async false
set_option linter.all false
set_option maxRecDepth 100000
set_option maxHeartbeats 2000000
namespace Ip
open PySem PySem.Spec PyProof.Rows L2
variable [Tb]
section
variable {w : Wd} {E : XK} {X : Cx} {K : PySem.W.Frag} {xc : List (Addr × List Str)} {ρ : List Addr} {H : Hp} {s : Sto}

/-! ### subscripts -/
theorem atI_ok {vs : List V} {ds : List AV} {i : Int} {d : AV} (r : RpL K ρ H vs ds) (h : atI ds i = some d) : ∃ v, atI vs i = some v ∧ Rp K ρ H v d := by
  unfold atI at h ⊢
  rw [r.len]
  cases e : ixN ds.length i with
  | none => rw [e] at h; cases h
  | some j =>
    rw [e] at h
    exact r.get h
def rIxI (K : PySem.W.Frag) : L2.R2 := fun x y H Q => ∃ ρ s dx dy d, StR K ρ H s ∧ Rp K ρ H x dx ∧ Rp K ρ H y dy ∧ opIdx dx dy s = some d ∧ ∀ v, Rp K ρ H v d → Q v H
theorem ix_ok : IxR X (rIxI X.K) := by
  intro value slice pins sh σ H x y v u Q I rx ry h e
  obtain ⟨ρ, s, dx, dy, d, st, r1, r2, ho, q⟩ := h
  cases dy <;> first | (cases ho; done) | skip
  rename_i i
  cases r2
  have seq : (match items s dx with
      | some xs => atI xs i
      | none => none) = some d → wpAny (model X.prog X.w) X.A (PyProof.Rows.subscriptTail value slice v u) (EP X pins σ Q) X.xe sh := fun h2 => by
    cases e1 : items s dx with
    | none => rw [e1] at h2; cases h2
    | some ds =>
      rw [e1] at h2
      obtain ⟨a, xs, rfl, hq, rl⟩ := items_sq st r1 e1
      obtain ⟨z, hz, rz⟩ := atI_ok rl h2
      rcases hq with hq | hq
      · exact ix_seq value slice pins sh σ H _ _ v u Q I rx ry (Or.inl ⟨a, xs, i, z, rfl, rfl, hq, hz, q z rz⟩) e
      · exact ix_seq value slice pins sh σ H _ _ v u Q I rx ry (Or.inr (Or.inl ⟨a, xs, i, z, rfl, rfl, hq, hz, q z rz⟩)) e
  cases dx with
  | str z =>
    have h2 : (if z.length ≤ LINE then (atI z.cps.toList i).map fun c => AV.str ⟨⟨[c]⟩⟩ else none) = some d := ho
    split at h2
    · rename_i hl
      cases e1 : atI z.cps.toList i with
      | none => rw [e1] at h2; cases h2
      | some c =>
        rw [e1] at h2
        cases h2
        cases r1
        exact ix_str value slice pins sh σ H _ _ v u Q I rx ry ⟨z, i, c, rfl, rfl, fits_line hl, e1, q _ (.str _)⟩ e
    · cases h2
  | tup xs => exact seq ho
  | lst xs => exact seq ho
  | ref n => exact seq ho
  | non => exact seq ho
  | bl _ => exact seq ho
  | int _ => exact seq ho
def rSlI (K : PySem.W.Frag) (xc : List (Addr × List Str)) (E : XK) : V → Option Int → Option Int → Hp → VK → Prop := fun x lo hi H Q => ∃ ρ s dx, StR K ρ H s ∧ Rp K ρ H x dx ∧ Out K xc E ρ H (Rp K) (opSl dx lo hi s) Q
theorem sl_ok : L2.SlR X (rSlI X.K xc E) := by
  intro pins sh σ H x v vl vu lo hi sl Q I rx hs p1 p2 h
  obtain ⟨ρ, s, dx, st, r1, out⟩ := h
  have no : opSl dx lo hi s = .bad → False := fun e => by rw [e] at out; exact out
  cases dx with
  | str z =>
    have e : opSl (.str z) lo hi s = if z.length ≤ LINE then .ok (.str (cutS z lo hi)) s else .bad := rfl
    rw [e] at out
    split at out
    · rename_i hl
      cases r1
      exact sl_str pins sh σ H _ v vl vu lo hi sl Q I rx hs p1 p2 ⟨z, rfl, fits_line hl, out.now st (.str _)⟩
    · exact out.elim
  | ref k =>
    have e : opSl (.ref k) lo hi s = (match s[k]? with
      | some (.lst ds) => .ok (.ref s.length) (s ++ [.lst ((ds.drop (HT.sIx ds.length 0 lo)).take (HT.sIx ds.length ds.length hi - HT.sIx ds.length 0 lo))])
      | none => .bad) := rfl
    rw [e] at out
    cases hk : s[k]? with
    | none => rw [hk] at out; exact out.elim
    | some o =>
      cases o with
      | lst ds =>
        rw [hk] at out
        cases r1 with
        | ref q1 =>
          obtain ⟨xs, h1, h2⟩ := st.at q1 hk
          refine sl_list pins sh σ H _ v vl vu lo hi sl Q I rx hs p1 p2 ⟨_, xs, rfl, Or.inl (Or.inl h1), fun p hp => ?_⟩
          refine Out.new out st ?_ hp
          unfold cutV
          rw [h2.len]
          exact (h2.drop _).take _
  | non => exact (no rfl).elim
  | bl _ => exact (no rfl).elim
  | int _ => exact (no rfl).elim
  | tup _ => exact (no rfl).elim
  | lst _ => exact (no rfl).elim

/-! ### built-ins -/
def rBi (K : PySem.W.Frag) (xc : List (Addr × List Str)) (E : XK) (b : BI) : List V → Hp → VK → Prop := fun vs H Q => ∃ ρ s ds, StR K ρ H s ∧ RpL K ρ H vs ds ∧ Out K xc E ρ H (Rp K) (opBi b ds s) Q
theorem rpl1 {vs : List V} {d : AV} (r : RpL K ρ H vs [d]) : ∃ v, vs = [v] ∧ Rp K ρ H v d := by
  cases r with
  | cons a b => cases b; exact ⟨_, rfl, a⟩
theorem one_arg {b : BI} {ds : List AV} {Q : VK} (out : Out K xc E ρ H (Rp K) (opBi b ds s) Q) : ∃ d, ds = [d] := by
  match ds, out with
  | [d], _ => exact ⟨d, rfl⟩
  | [], out => cases b <;> exact False.elim out
  | a :: b2 :: r, out => cases b <;> cases a <;> exact False.elim out
theorem len_ok : CallR X (.builtin "len") (rBi X.K xc E .len) := by
  intro pins sh σ H xs us Q I r h
  obtain ⟨ρ, s, ds, st, rl, out⟩ := h
  obtain ⟨d, rfl⟩ := one_arg out
  obtain ⟨v, rfl, rv⟩ := rpl1 rl
  have seq : ∀ (hd : ∀ z, d ≠ .str z), wpAny (model X.prog X.w) X.A (call (.builtin "len") us) (EP X pins σ Q) X.xe sh := fun hd => by
    have e : opBi .len [d] s = (match items s d with
      | some ys => .ok (.int ys.length) s
      | none => .bad) := by
      cases d <;> first | rfl | exact absurd rfl (hd _)
    rw [e] at out
    cases q : items s d with
    | none => rw [q] at out; exact out.elim
    | some ys =>
      rw [q] at out
      obtain ⟨a, zs, rfl, hq, r2⟩ := items_sq st rv q
      refine call_len_seq pins sh σ H _ us Q I r ⟨a, zs, rfl, hq, ?_⟩
      rw [r2.len]
      exact Out.now out st (.int _)
  cases d with
  | str z =>
    have e : opBi .len [.str z] s = if z.length ≤ LINE then .ok (.int z.length) s else .bad := rfl
    rw [e] at out
    split at out
    · rename_i hl
      cases rv
      exact call_len_str pins sh σ H _ us Q I r ⟨z, rfl, fits_line hl, out.now st (.int _)⟩
    · exact out.elim
  | _ => exact seq fun z e => nomatch e
theorem int_ok : CallR X (.type "int") (rBi X.K xc E .int) := by
  intro pins sh σ H xs us Q I r h
  obtain ⟨ρ, s, ds, st, rl, out⟩ := h
  obtain ⟨d, rfl⟩ := one_arg out
  obtain ⟨v, rfl, rv⟩ := rpl1 rl
  cases d with
  | int i =>
    cases rv
    exact call_int1 pins sh σ H _ us Q I r (Or.inl ⟨i, rfl, Out.now (a := AV.int i) (s := s) out st (.int _)⟩)
  | bl k =>
    cases rv
    exact call_int1 pins sh σ H _ us Q I r (Or.inr ⟨k, rfl, Out.now (a := AV.int (if k then 1 else 0)) (s := s) out st (.int _)⟩)
  | str a =>
    have e : opBi .int [.str a] s = if a.length ≤ 640 then (match PySem.intText? a with
      | some n => .ok (.int n) s
      | none => .bad) else .bad := rfl
    rw [e] at out
    split at out
    · rename_i hl
      cases q : PySem.intText? a with
      | none => rw [q] at out; exact out.elim
      | some n =>
        rw [q] at out
        cases rv
        exact call_int_str pins sh σ H _ us Q I r ⟨a, n, rfl, q, hl, Out.now (a := AV.int n) (s := s) out st (.int _)⟩
    · exact out.elim
  | _ => exact False.elim out
theorem str_ok : CallR X (.type "str") (rBi X.K xc E .str) := by
  intro pins sh σ H xs us Q I r h
  obtain ⟨ρ, s, ds, st, rl, out⟩ := h
  obtain ⟨d, rfl⟩ := one_arg out
  obtain ⟨v, rfl, rv⟩ := rpl1 rl
  cases d with
  | int i =>
    have e : opBi .str [.int i] s = if i.natAbs.log2 < 1920 then .ok (.str (toString i)) s else .bad := rfl
    rw [e] at out
    split at out
    · rename_i hl
      cases rv
      exact call_str_int pins sh σ H _ us Q I r ⟨i, rfl, hl, out.now st (.str _)⟩
    · exact out.elim
  | str a =>
    cases rv
    exact SkE.call_str_str pins sh σ H _ us Q I r ⟨a, rfl, Out.now (a := AV.str a) (s := s) out st (.str _)⟩
  | _ => exact False.elim out
theorem list_ok : CallR X (.type "list") (rBi X.K xc E .list) := by
  intro pins sh σ H xs us Q I r h
  obtain ⟨ρ, s, ds, st, rl, out⟩ := h
  obtain ⟨d, rfl⟩ := one_arg out
  obtain ⟨v, rfl, rv⟩ := rpl1 rl
  have e : opBi .list [d] s = (match items s d with
    | some ys => .ok (.ref s.length) (s ++ [.lst ys])
    | none => .bad) := by cases d <;> rfl
  rw [e] at out
  cases q : items s d with
  | none => rw [q] at out; exact out.elim
  | some ys =>
    rw [q] at out
    obtain ⟨a, zs, rfl, hq, r2⟩ := items_sq st rv q
    exact call_list_of pins sh σ H _ us Q I r ⟨a, zs, rfl, hq, fun p hp => Out.new out st r2 hp⟩
theorem StR.gr {H' : Hp} (h : StR K ρ H s) (g : Gr H H') (hl : ∀ a xs, H a = some (.lst xs) → H' a = some (.lst xs)) (ht : TbOk H') : StR K ρ H' s := ⟨h.len, h.nd, ht, fun n a o e1 e2 => by
  have q := h.ob n a o e1 e2
  cases o with
  | lst ds =>
    obtain ⟨xs, h1, h2⟩ := q
    exact ⟨xs, hl _ _ h1, RpL.up (Le.refl _) g _ _ h2⟩⟩
theorem StR.fresh {p : Addr} {o : HO} (h : StR K ρ H s) (hp : H p = none) : StR K ρ (L2.upd H p o) s := h.gr (Gr.new hp) (fun a xs e => by
  rw [upd_ne (ne_of_none e hp)]
  exact e) (h.tb.upd fun ps z => by rw [hp] at z; cases z)
theorem tuple_ok : CallR X (.type "tuple") (rBi X.K xc E .tuple) := by
  intro pins sh σ H xs us Q I r h
  obtain ⟨ρ, s, ds, st, rl, out⟩ := h
  obtain ⟨d, rfl⟩ := one_arg out
  obtain ⟨v, rfl, rv⟩ := rpl1 rl
  have seq : opBi .tuple [d] s = (match items s d with
    | some ys => .ok (.tup ys) s
    | none => .bad) := by cases d <;> rfl
  rw [seq] at out
  cases q : items s d with
  | none => rw [q] at out; exact out.elim
  | some ys =>
    rw [q] at out
    have mk : ∀ a zs, RpL X.K ρ H zs ys → (SqL X.K H a zs) → ∀ l, H l = none → Q (.ref l) (L2.upd H l (.tup zs)) := fun a zs r2 _ l hl => by
      have g : Gr H (L2.upd H l (.tup zs)) := Gr.new hl
      exact out _ _ _ (Go.fresh hl) (st.fresh hl) (.tup (Or.inl (Or.inl upd_same)) (RpL.up (Le.refl _) g _ _ r2))
    cases rv with
    | tup p1 p2 =>
      cases q
      exact call_tuple_of pins sh σ H _ us Q I r ⟨_, _, rfl, Or.inr ⟨p1, Out.now out st (.tup p1 p2)⟩⟩
    | lst p1 p2 =>
      cases q
      exact call_tuple_of pins sh σ H _ us Q I r ⟨_, _, rfl, Or.inl ⟨p1.sq, mk _ _ p2 p1.sq⟩⟩
    | @ref a n p1 =>
      have q2 : (match s[n]? with
        | some (.lst xs) => some xs
        | none => none) = some ys := q
      cases hs : s[n]? with
      | none => rw [hs] at q2; cases q2
      | some o =>
        cases o with
        | lst zs =>
          rw [hs] at q2
          cases q2
          obtain ⟨ws, h1, h2⟩ := st.at p1 hs
          exact call_tuple_of pins sh σ H _ us Q I r ⟨_, ws, rfl, Or.inl ⟨Or.inl (Or.inl h1), mk _ _ h2 (Or.inl (Or.inl h1))⟩⟩
    | non => cases q
    | bl _ => cases q
    | int _ => cases q
    | str _ => cases q
theorem repr_ok (hg : X.A.guards = some []) (hu : X.A.units + 100 < cLine) : CallR X (.builtin "repr") (rBi X.K xc E .repr) := by
  intro pins sh σ H xs us Q I r h
  obtain ⟨ρ, s, ds, st, rl, out⟩ := h
  obtain ⟨d, rfl⟩ := one_arg out
  obtain ⟨v, rfl, rv⟩ := rpl1 rl
  have e : opBi .repr [d] s = (match d.data s 60 with
    | some e => if (e.showable && !e.hasDict && decide (e.shown.length ≤ LINE) && decide (e.depth ≤ 60)) = true then .ok (.str e.shown) s else .bad
    | none => .bad) := by cases d <;> rfl
  rw [e] at out
  cases q : d.data s 60 with
  | none => rw [q] at out; exact out.elim
  | some dt =>
    rw [q] at out
    have out2 : Out X.K xc E ρ H (Rp X.K) (if (dt.showable && !dt.hasDict && decide (dt.shown.length ≤ LINE) && decide (dt.depth ≤ 60)) = true then .ok (.str dt.shown) s else .bad) Q := out
    split at out2
    · rename_i hc
      simp only [Bool.and_eq_true, decide_eq_true_eq, Bool.not_eq_true'] at hc
      obtain ⟨⟨⟨c1, c2⟩, c3⟩, c4⟩ := hc
      have fin : Q (.str dt.shown) H := Out.now out2 st (.str _)
      have hd := data_dp st 60 _ _ _ rv q
      obtain ⟨u, rfl, ru⟩ := vals1 r
      obtain ⟨as, rd⟩ := Dp.reads I _ _ _ hd ru
      have hsz := fits_line c3
      cases hd with
      | non =>
        cases ru
        exact PySem.P.repr_of_none ⟨.str _, H, I.tok _, ⟨_, rfl⟩, fin⟩
      | bl b =>
        cases ru
        exact PySem.P.repr_of_bool ⟨.str _, H, I.tok _, ⟨_, rfl⟩, fin⟩
      | int i =>
        obtain ⟨t, rfl⟩ := ru
        exact PySem.P.repr_of_int (of_decide_eq_true c1) ⟨.str _, H, I.tok _, ⟨_, rfl⟩, fin⟩
      | str x =>
        obtain ⟨t, rfl⟩ := ru
        exact PySem.P.repr_of_str ⟨.str _, H, I.tok _, ⟨_, rfl⟩, fin⟩ hsz
      | lst h1 h2 =>
        cases ru
        exact repr_of_reads' rd c1 (fun z => by rw [c2] at z; cases z) hg (by omega) (fun b o e => e) (fun h' u tk hk => ⟨.str _, H, I.kept hk, ⟨_, rfl⟩, fin⟩) hsz
      | tup h1 h2 =>
        cases ru
        exact repr_of_reads' rd c1 (fun z => by rw [c2] at z; cases z) hg (by omega) (fun b o e => e) (fun h' u tk hk => ⟨.str _, H, I.kept hk, ⟨_, rfl⟩, fin⟩) hsz
    · exact out2.elim

/-! ### isinstance -/
def tyS : TY → String
  | .int => "int" | .str => "str" | .bool => "bool" | .list => "list" | .tuple => "tuple"
theorem isT_ok (st : StR K ρ H s) {v : V} {d : AV} {t : TY} {b : Bool} (r : Rp K ρ H v d) (h : isT s d t = some b) : ∃ T, TyX K H v T ∧ PySem.W.kitOne K T (.type (tyS t)) = some b := by
  have tupT : ∀ a xs, SqT K H a xs → TyX K H (.ref a) (.type "tuple") := fun a xs h => by
    rcases h with (h | ⟨o, h⟩) | ⟨o, its, n, h, c, _⟩
    · exact .base (.tup h)
    · exact .fTuple h
    · exact .kTuple h c
  cases r with
  | non => exact ⟨_, .base .non, by cases h; cases t <;> exact kit_ty (by decide +kernel)⟩
  | bl x => exact ⟨_, .base (.bl x), by cases h; cases t <;> exact kit_ty (by decide +kernel)⟩
  | int x => exact ⟨_, .base (.int x), by cases h; cases t <;> exact kit_ty (by decide +kernel)⟩
  | str x => exact ⟨_, .base (.str x), by cases h; cases t <;> exact kit_ty (by decide +kernel)⟩
  | tup p _ => exact ⟨_, tupT _ _ p, by cases h; cases t <;> exact kit_ty (by decide +kernel)⟩
  | lst p _ =>
    refine ⟨.type "list", ?_, by cases h; cases t <;> exact kit_ty (by decide +kernel)⟩
    cases p with
    | frz e => exact .base (.frz e)
    | kk lk c _ _ _ _ => exact .kList lk c
  | @ref a n p =>
    have h2 : (match s[n]? with
      | some (.lst _) => some (t == .list)
      | none => none) = some b := h
    cases hs : s[n]? with
    | none => rw [hs] at h2; cases h2
    | some o =>
      cases o with
      | lst ds =>
        rw [hs] at h2
        obtain ⟨xs, h3, _⟩ := st.at p hs
        exact ⟨_, .base (.lst h3), by cases h2; cases t <;> exact kit_ty (by decide +kernel)⟩

/-! ### methods -/
def rMe (K : PySem.W.Frag) (xc : List (Addr × List Str)) (E : XK) (m : ME) : V → List V → Hp → VK → Prop := fun x vs H Q => ∃ ρ s d ds, StR K ρ H s ∧ Rp K ρ H x d ∧ RpL K ρ H vs ds ∧ Out K xc E ρ H (Rp K) (opMe m d ds s) Q
theorem append_ok : MtR X "list.append" (rMe X.K xc E .append) := by
  intro pins sh σ H x vs v us Q I rx rv h
  obtain ⟨ρ, s, d, ds, st, r1, r2, out⟩ := h
  have no : opMe .append d ds s = .bad → False := fun e => by rw [e] at out; exact out
  cases d with
  | ref k =>
    match ds, r2, out with
    | [y], r2, out =>
      obtain ⟨z, rfl, rz⟩ := rpl1 r2
      have e : opMe .append (.ref k) [y] s = (match s[k]? with
        | some (.lst ys) => if ys.length < LINE then .ok .non (s.set k (.lst (ys ++ [y]))) else .bad
        | none => .bad) := rfl
      rw [e] at out
      cases hk : s[k]? with
      | none => rw [hk] at out; exact out.elim
      | some o =>
        cases o with
        | lst ys =>
          rw [hk] at out
          have out2 : Out X.K xc E ρ H (Rp X.K) (if ys.length < LINE then .ok .non (s.set k (.lst (ys ++ [y]))) else .bad) Q := out
          split at out2
          · rename_i hl
            cases r1 with
            | ref p =>
              obtain ⟨xs, h1, h2⟩ := st.at p hk
              have hl2 : xs.length < sizeLine := by
                rw [h2.len, sizeLine_eq]
                exact hl
              exact mt_append pins sh σ H _ _ v us Q I rx rv ⟨_, xs, z, rfl, rfl, h1, hl2, out2 _ _ _ (Go.put p h1) (st.put p h1 (h2.app (.cons rz .nil))) .non⟩
          · exact out2.elim
    | [], _, out => exact False.elim out
    | _ :: _ :: _, _, out => exact False.elim out
  | _ => exact (no (by first | rfl | (cases ds <;> rfl))).elim
theorem strs_of {ys : List V} {ds : List AV} {zs : List Str} : RpL K ρ H ys ds → optAll asStr ds = some zs → ys = zs.map V.str := fun r h => by
  induction ds generalizing ys zs with
  | nil => cases r; cases h; rfl
  | cons d ds ih =>
    cases r with
    | cons a b =>
      unfold optAll at h
      cases e1 : asStr d with
      | none => rw [e1] at h; cases h
      | some y =>
        rw [e1] at h
        cases e2 : optAll asStr ds with
        | none => rw [e2] at h; cases h
        | some ws =>
          rw [e2] at h
          cases h
          rw [ih b e2]
          cases d <;> first | (cases e1; done) | skip
          cases e1
          cases a
          rfl
theorem rpl_strs : ∀ zs : List Str, RpL K ρ H (zs.map V.str) (zs.map AV.str)
  | [] => .nil
  | z :: zs => .cons (.str z) (rpl_strs zs)
theorem startswith_ok : MtR X "str.startswith" (rMe X.K xc E .startswith) := by
  intro pins sh σ H x vs v us Q I rx rv h
  obtain ⟨ρ, s, d, ds, st, r1, r2, out⟩ := h
  match d, ds, r1, r2, out with
  | .str a, [.str b], r1, r2, out =>
    obtain ⟨z, rfl, rz⟩ := rpl1 r2
    cases r1; cases rz
    exact mt_startswith pins sh σ H _ _ v us Q I rx rv ⟨a, b, rfl, rfl, Out.now (a := AV.bl (Txt.startswith a b)) (s := s) out st (.bl _)⟩
theorem endswith_ok : MtR X "str.endswith" (rMe X.K xc E .endswith) := by
  intro pins sh σ H x vs v us Q I rx rv h
  obtain ⟨ρ, s, d, ds, st, r1, r2, out⟩ := h
  match d, ds, r1, r2, out with
  | .str a, [.str b], r1, r2, out =>
    obtain ⟨z, rfl, rz⟩ := rpl1 r2
    cases r1; cases rz
    exact mt_endswith pins sh σ H _ _ v us Q I rx rv ⟨a, b, rfl, rfl, Out.now (a := AV.bl (Txt.endswith a b)) (s := s) out st (.bl _)⟩
theorem find_ok : MtR X "str.find" (rMe X.K xc E .find) := by
  intro pins sh σ H x vs v us Q I rx rv h
  obtain ⟨ρ, s, d, ds, st, r1, r2, out⟩ := h
  match d, ds, r1, r2, out with
  | .str a, [.str b], r1, r2, out =>
    obtain ⟨z, rfl, rz⟩ := rpl1 r2
    cases r1; cases rz
    exact mt_find pins sh σ H _ _ v us Q I rx rv ⟨a, b, rfl, rfl, Out.now (a := AV.int (Txt.find a b)) (s := s) out st (.int _)⟩
theorem split_ok : MtR X "str.split" (rMe X.K xc E .split) := by
  intro pins sh σ H x vs v us Q I rx rv h
  obtain ⟨ρ, s, d, ds, st, r1, r2, out⟩ := h
  match d, ds, r1, r2, out with
  | .str a, [.str b], r1, r2, out =>
    have out2 : Out X.K xc E ρ H (Rp X.K) (if (b.length == 0) = false ∧ a.length + 2 ≤ LINE then .ok (.ref s.length) (s ++ [.lst ((Txt.split a b).map .str)]) else .bad) Q := out
    split at out2
    · rename_i hc
      obtain ⟨z, rfl, rz⟩ := rpl1 r2
      cases r1; cases rz
      exact mt_split pins sh σ H _ _ v us Q I rx rv ⟨a, b, rfl, rfl, hc.1, fits_line hc.2, fun p hp => Out.new out2 st (rpl_strs _) hp⟩
    · exact out2.elim
theorem join_ok : MtR X "str.join" (rMe X.K xc E .join) := by
  intro pins sh σ H x vs v us Q I rx rv h
  obtain ⟨ρ, s, d, ds, st, r1, r2, out⟩ := h
  match d, ds, r1, r2, out with
  | .str a, [e], r1, r2, out =>
    have out2 : Out X.K xc E ρ H (Rp X.K) (match items s e with
      | some ys => (match optAll asStr ys with
        | some zs => if (zs.map (·.length)).sum + zs.length * a.length ≤ LINE then .ok (.str (Txt.join a zs)) s else .bad
        | none => .bad)
      | none => .bad) Q := out
    obtain ⟨z, rfl, rz⟩ := rpl1 r2
    cases q : items s e with
    | none => rw [q] at out2; exact out2.elim
    | some ys =>
      rw [q] at out2
      cases q2 : optAll asStr ys with
      | none => simp only [q2] at out2; exact out2.elim
      | some zs =>
        simp only [q2] at out2
        split at out2
        · rename_i hl
          obtain ⟨p, xs, rfl, hq, rl⟩ := items_sq st rz q
          have ex := strs_of rl q2
          subst ex
          cases r1
          exact mt_join pins sh σ H _ _ v us Q I rx rv ⟨a, p, zs, rfl, rfl, hq, hl, Out.now out2 st (.str _)⟩
        · exact out2.elim
end
end Ip

set_option Elab.async false
set_option linter.all false
set_option maxRecDepth 100000
set_option maxHeartbeats 4000000
namespace Ip
open PySem PySem.Spec PyProof.Rows L2
variable [Tb]
section
variable {w : Wd} {T : Nat → Nat → List AV → Sto → Rs AV} {k g n : Nat} {E : XK} {X : Cx}

theorem vis_of {sc : Scope} {x : Str} (h : visB sc x = true) : Vis sc x ∧ (x == ("__debug__" : Str)) = false ∧ (x == ("__classdict__" : Str)) = false ∧ x ≠ "__name__" := by
  unfold visB dunder at h
  rw [Bool.and_eq_true] at h
  obtain ⟨h1, h2⟩ := h
  simp only [Bool.not_eq_true', Bool.or_eq_false_iff] at h2
  refine ⟨?_, h2.1.1, h2.1.2, fun e => by rw [e] at h2; simp at h2⟩
  split at h1
  · exact Or.inl (by assumption)
  · exact Or.inr (Or.inl (by assumption))
  · exact Or.inr (Or.inr (by assumption))
  · cases h1
theorem gl_of {x : Str} (h : glB X.env.scope x = true) : Gl X x ∧ (x == ("__debug__" : Str)) = false ∧ x ≠ "__name__" := by
  unfold glB dunder at h
  rw [Bool.and_eq_true] at h
  obtain ⟨h1, h2⟩ := h
  simp only [Bool.not_eq_true', Bool.or_eq_false_iff] at h2
  refine ⟨?_, h2.1.1, fun e => by rw [e] at h2; simp at h2⟩
  split at h1
  · assumption
  · cases h1
theorem cmp_mark {N fn cn : List Str} {sc : Scope} {ir : IE} {e : Expr} {op : CmpOp} (h : mt N fn cn n sc ir e = true) : behindInMarks op e = false := by
  cases n with
  | zero => rw [mt] at h; cases h
  | succ n => cases e <;> first | rfl | (unfold mt at h; cases h)
theorem plain_ix {N fn cn : List Str} {sc : Scope} {ir : IE} {e : Expr} (h : mt N fn cn n sc ir e = true) : PlainIx e := by
  cases n with
  | zero => rw [mt] at h; cases h
  | succ n => cases e <;> first | (exact fun _ _ => rfl) | (unfold mt at h; cases h)
theorem attr_base {o : Expr} {m : Str} {env : Env} (h : bare o = false) : attributeBase o m env (eval o env) = eval o env := by
  unfold attributeBase
  split
  · rename_i id _ pos
    cases h
  · rfl
theorem base_of {o : Expr} {m : Str} {env : Env} (h : bare o = false) : attributeBase o m env (eval o env) = eval o env := attr_base h

/-- a step with two operands -/
theorem two_ok {a b : Slots → Sto → Rs AV} {f : AV → AV → Sto → Rs AV} {σ : L2.St} {H : Hp} {Q : VK} {r : L2.R2} (h : tI w X.K E (fun σ s => (a σ s).bd fun x s => (b σ s).bd fun y s => f x y s) σ H Q)
    (hr : ∀ ρ s x y v u H, StR X.K ρ H s → Rp X.K ρ H v x → Rp X.K ρ H u y → Out X.K w.xc E ρ H (Rp X.K) (f x y s) Q → r v u H Q) : tOp r (tI w X.K E a) (tI w X.K E b) σ H Q := by
  obtain ⟨ρ, sl, s, st, sr, o⟩ := h
  refine ⟨ρ, sl, s, st, sr, Out.bd o ?_⟩
  intro x s1 ρ1 H1 v _ g1 st1 r1 o1
  refine ⟨ρ1, sl, s1, st1, sr.go g1, Out.bd o1 ?_⟩
  intro y s2 ρ2 H2 u _ g2 st2 r2 o2
  exact hr ρ2 s2 x y v u H2 st2 (r1.go g2) r2 o2
/-- a step with one -/
theorem one_ok {a : Slots → Sto → Rs AV} {f : AV → Sto → Rs AV} {σ : L2.St} {H : Hp} {Q : VK} {r : V → Hp → Prop} (h : tI w X.K E (fun σ s => (a σ s).bd fun x s => f x s) σ H Q)
    (hr : ∀ ρ s x v H, StR X.K ρ H s → Rp X.K ρ H v x → Out X.K w.xc E ρ H (Rp X.K) (f x s) Q → r v H) : tI w X.K E a σ H r := by
  obtain ⟨ρ, sl, s, st, sr, o⟩ := h
  refine ⟨ρ, sl, s, st, sr, Out.bd o ?_⟩
  intro x s1 ρ1 H1 v _ g1 st1 r1 o1
  exact hr ρ1 s1 x v H1 st1 r1 o1
/-- as a test -/
abbrev tTr (w : Wd) (K : PySem.W.Frag) (E : XK) (ev : Slots → Sto → Rs AV) : TT := tIt w K E fun σ s => (ev σ s).bd fun x s => opt (truth s x) s

theorem one_t {a : Slots → Sto → Rs AV} {f : AV → Sto → Rs Bool} {σ : L2.St} {H : Hp} {Q : Bool → Hp → Prop} {r : V → Hp → Prop} (h : tIt w X.K E (fun σ s => (a σ s).bd fun x s => f x s) σ H Q)
    (hr : ∀ ρ s x v H, StR X.K ρ H s → Rp X.K ρ H v x → Out X.K w.xc E ρ H EqB (f x s) Q → r v H) : tI w X.K E a σ H r := by
  obtain ⟨ρ, sl, s, st, sr, o⟩ := h
  refine ⟨ρ, sl, s, st, sr, Out.bd o ?_⟩
  intro x s1 ρ1 H1 v _ g1 st1 r1 o1
  exact hr ρ1 s1 x v H1 st1 r1 o1
/-- the test by its value -/
theorem pt_plain {e : Expr} {ev : Slots → Sto → Rs AV} (h : PE X e (tI w X.K E ev)) (he : ∀ whole, isTrue e X.env whole = (do let v ← whole; standAt e.pos; holding [v] (truthy v))) : PT X e (tTr w X.K E ev) := by
  refine PT.of (pt_truth h he) ?_
  intro σ H Q hq
  refine one_t hq ?_
  intro ρ s x v H st r o
  obtain ⟨b, hb, o⟩ := Out.opt o
  exact ⟨b, truth_ok st r hb, Out.now o st rfl⟩
end
end Ip

set_option Elab.async false
set_option linter.all false
set_option maxRecDepth 100000
set_option maxHeartbeats 4000000
namespace Ip
open PySem PySem.Spec PyProof.Rows L2
variable [Tb]
section
variable {w : Wd} {T : Nat → Nat → List AV → Sto → Rs AV} {k g n : Nat} {E : XK} {X : Cx}
abbrev ev (T : Nat → Nat → List AV → Sto → Rs AV) (w : Wd) (g n : Nat) (ir : IE) : Slots → Sto → Rs AV := evI (fun g => T (4 * g)) w.C g n ir
def SnE (w : Wd) (T : Nat → Nat → List AV → Sto → Rs AV) (k n : Nat) : Prop := ∀ (g : Nat) (E : XK) (X : Cx), Gd w T k g E X → ∀ (ir : IE) (e : Expr), mt w.N w.fn w.cn n X.env.scope ir e = true → PE X e (tI w X.K E (ev T w g n ir))
def TnE (w : Wd) (T : Nat → Nat → List AV → Sto → Rs AV) (k n : Nat) : Prop := ∀ (g : Nat) (E : XK) (X : Cx), Gd w T k g E X → ∀ (ir : IE) (e : Expr), mt w.N w.fn w.cn n X.env.scope ir e = true →
  PT X e (tTr w X.K E (ev T w g n ir)) ∧ ∀ op vs pos, e = .BoolOp op vs pos → PW X e (tTr w X.K E (ev T w g n ir))

/-! ### and, or -/
theorem and_ok {a b : Slots → Sto → Rs AV} {σ : L2.St} {H : Hp} {Q : VK} (h : tI w X.K E (fun σ s => (a σ s).bd fun x s => (opt (truth s x) s).bd fun k s => if k then b σ s else .ok x s) σ H Q) :
    tAndT X.K (tI w X.K E a) (tI w X.K E b) σ H Q := by
  obtain ⟨ρ, sl, s, st, sr, o⟩ := h
  refine ⟨ρ, sl, s, st, sr, Out.bd o ?_⟩
  intro x s1 ρ1 H1 v _ g1 st1 r1 o1
  cases e : truth s1 x with
  | none => rw [e] at o1; exact o1.elim
  | some c =>
    rw [e] at o1
    refine ⟨c, truth_ok st1 r1 e, ?_⟩
    cases c with
    | true => exact ⟨ρ1, sl, s1, st1, sr.go g1, o1⟩
    | false => exact Out.now (a := x) (s := s1) o1 st1 r1
theorem or_ok {a b : Slots → Sto → Rs AV} {σ : L2.St} {H : Hp} {Q : VK} (h : tI w X.K E (fun σ s => (a σ s).bd fun x s => (opt (truth s x) s).bd fun k s => if k then .ok x s else b σ s) σ H Q) :
    tOrT X.K (tI w X.K E a) (tI w X.K E b) σ H Q := by
  obtain ⟨ρ, sl, s, st, sr, o⟩ := h
  refine ⟨ρ, sl, s, st, sr, Out.bd o ?_⟩
  intro x s1 ρ1 H1 v _ g1 st1 r1 o1
  cases e : truth s1 x with
  | none => rw [e] at o1; exact o1.elim
  | some c =>
    rw [e] at o1
    refine ⟨c, truth_ok st1 r1 e, ?_⟩
    cases c with
    | true => exact Out.now (a := x) (s := s1) o1 st1 r1
    | false => exact ⟨ρ1, sl, s1, st1, sr.go g1, o1⟩
/-! ### .. as tests -/
theorem tand_ok {a b : Slots → Sto → Rs AV} {σ : L2.St} {H : Hp} {Q : Bool → Hp → Prop} (h : tTr w X.K E (fun σ s => (a σ s).bd fun x s => (opt (truth s x) s).bd fun k s => if k then b σ s else .ok x s) σ H Q) :
    tAnd (tTr w X.K E a) (tTr w X.K E b) σ H Q := by
  obtain ⟨ρ, sl, s, st, sr, o⟩ := h
  refine ⟨ρ, sl, s, st, sr, ?_⟩
  cases ea : a sl s with
  | bad => simp only [ea, Rs.bd] at o; exact False.elim o
  | exc x s1 => simp only [ea, Rs.bd] at o ⊢; exact o
  | ok x s1 =>
    simp only [ea, Rs.bd] at o ⊢
    cases e : truth s1 x with
    | none => simp only [e, opt, Rs.bd] at o; exact False.elim o
    | some c =>
      simp only [e, opt, Rs.bd] at o ⊢
      intro ρ' H' b' g st' eb
      cases eb
      cases c with
      | true => exact ⟨ρ', sl, s1, st', sr.go g, Out.up o g⟩
      | false =>
        simp only [Bool.false_eq_true, if_false, e, opt] at o
        exact o ρ' H' false g st' rfl
theorem tor_ok {a b : Slots → Sto → Rs AV} {σ : L2.St} {H : Hp} {Q : Bool → Hp → Prop} (h : tTr w X.K E (fun σ s => (a σ s).bd fun x s => (opt (truth s x) s).bd fun k s => if k then .ok x s else b σ s) σ H Q) :
    tOr (tTr w X.K E a) (tTr w X.K E b) σ H Q := by
  obtain ⟨ρ, sl, s, st, sr, o⟩ := h
  refine ⟨ρ, sl, s, st, sr, ?_⟩
  cases ea : a sl s with
  | bad => simp only [ea, Rs.bd] at o; exact False.elim o
  | exc x s1 => simp only [ea, Rs.bd] at o ⊢; exact o
  | ok x s1 =>
    simp only [ea, Rs.bd] at o ⊢
    cases e : truth s1 x with
    | none => simp only [e, opt, Rs.bd] at o; exact False.elim o
    | some c =>
      simp only [e, opt, Rs.bd] at o ⊢
      intro ρ' H' b' g st' eb
      cases eb
      cases c with
      | true =>
        simp only [if_true, e, opt] at o
        exact o ρ' H' true g st' rfl
      | false => exact ⟨ρ', sl, s1, st', sr.go g, Out.up o g⟩
theorem pt_ife {c a b : Expr} {pos : Pos} {tc ta tb : TT} (hc : PT X c tc) (ha : PT X a ta) (hb : PT X b tb) : PT X (.IfExp c a b pos) (fun σ H Q => tc σ H fun k H1 => if k = true then ta σ H1 Q else tb σ H1 Q) := by
  constructor
  intro pins s σ H Q I h
  show wpAny _ _ (isTrue c X.env (eval c X.env) >>= _) _ _ s
  refine wpAny_bind (thn (hc.run pins s σ H _ I h) ?_)
  rintro k s1 ⟨H1, I1, q1⟩
  cases k with
  | true => exact ha.run pins s1 σ H1 Q I1 q1
  | false => exact hb.run pins s1 σ H1 Q I1 q1
theorem ife_ok {c a b : Slots → Sto → Rs AV} {σ : L2.St} {H : Hp} {Q : VK} (h : tI w X.K E (fun σ s => (c σ s).bd fun x s => (opt (truth s x) s).bd fun k s => if k then a σ s else b σ s) σ H Q) :
    tIf (tTr w X.K E c) (tI w X.K E a) (tI w X.K E b) σ H Q := by
  obtain ⟨ρ, sl, s, st, sr, o⟩ := h
  refine ⟨ρ, sl, s, st, sr, ?_⟩
  cases ea : c sl s with
  | bad => simp only [ea, Rs.bd] at o; exact False.elim o
  | exc x s1 => simp only [ea, Rs.bd] at o ⊢; exact o
  | ok x s1 =>
    simp only [ea, Rs.bd] at o ⊢
    cases e : truth s1 x with
    | none => simp only [e, opt, Rs.bd] at o; exact False.elim o
    | some c =>
      simp only [e, opt, Rs.bd] at o ⊢
      intro ρ' H' b' g st' eb
      cases eb
      cases c with
      | true => exact ⟨ρ', sl, s1, st', sr.go g, Out.up o g⟩
      | false => exact ⟨ρ', sl, s1, st', sr.go g, Out.up o g⟩
theorem tife_ok {c a b : Slots → Sto → Rs AV} {σ : L2.St} {H : Hp} {Q : Bool → Hp → Prop} (h : tTr w X.K E (fun σ s => (c σ s).bd fun x s => (opt (truth s x) s).bd fun k s => if k then a σ s else b σ s) σ H Q) :
    tTr w X.K E c σ H fun k H1 => if k = true then tTr w X.K E a σ H1 Q else tTr w X.K E b σ H1 Q := by
  obtain ⟨ρ, sl, s, st, sr, o⟩ := h
  refine ⟨ρ, sl, s, st, sr, ?_⟩
  cases ea : c sl s with
  | bad => simp only [ea, Rs.bd] at o; exact False.elim o
  | exc x s1 => simp only [ea, Rs.bd] at o ⊢; exact o
  | ok x s1 =>
    simp only [ea, Rs.bd] at o ⊢
    cases e : truth s1 x with
    | none => simp only [e, opt, Rs.bd] at o; exact False.elim o
    | some c =>
      simp only [e, opt, Rs.bd] at o ⊢
      intro ρ' H' b' g st' eb
      cases eb
      cases c with
      | true => exact ⟨ρ', sl, s1, st', sr.go g, Out.up o g⟩
      | false => exact ⟨ρ', sl, s1, st', sr.go g, Out.up o g⟩
theorem chain_ok {o p : CO} {a b c : Slots → Sto → Rs AV} {σ : L2.St} {H : Hp} {Q : VK} (h : tI w X.K E (fun σ s => (a σ s).bd fun x s => (b σ s).bd fun y s => (opt (opCmp o x y s) s).bd fun k s =>
      if k then (c σ s).bd fun z s => opt ((opCmp p y z s).map .bl) s else .ok (.bl false) s) σ H Q) :
    tChain (rCmp X.K o) (rCmp X.K p) (tI w X.K E a) (tI w X.K E b) (tI w X.K E c) σ H Q := by
  obtain ⟨ρ, sl, s, st, sr, o1⟩ := h
  refine ⟨ρ, sl, s, st, sr, Out.bd o1 ?_⟩
  intro x s1 ρ1 H1 v _ g1 st1 r1 o2
  refine ⟨ρ1, sl, s1, st1, sr.go g1, Out.bd o2 ?_⟩
  intro y s2 ρ2 H2 u _ g2 st2 r2 o3
  cases e : opCmp o x y s2 with
  | none => rw [e] at o3; exact o3.elim
  | some k =>
    rw [e] at o3
    refine ⟨ρ2, s2, x, y, k, st2, r1.go g2, r2, e, k, rfl, ?_⟩
    cases k with
    | false => exact Out.now (a := AV.bl false) (s := s2) o3 st2 (.bl _)
    | true =>
      have o4 : Out X.K w.xc E ρ2 H2 (Rp X.K) ((c sl s2).bd fun z s => opt ((opCmp p y z s).map .bl) s) Q := o3
      refine ⟨ρ2, sl, s2, st2, (sr.go g1).go g2, Out.bd o4 ?_⟩
      intro z s3 ρ3 H3 t _ g3 st3 r3 o5
      cases e2 : opCmp p y z s3 with
      | none => rw [e2] at o5; exact o5.elim
      | some b =>
        rw [e2] at o5
        exact ⟨ρ3, s3, y, z, b, st3, r2.go g3, r3, e2, Out.now (a := AV.bl b) (s := s3) o5 st3 (.bl _)⟩
end
end Ip

set_option Elab.async false
set_option linter.all false
set_option maxRecDepth 100000
set_option maxHeartbeats 4000000
namespace Ip
open PySem PySem.Spec PyProof.Rows L2
variable [Tb]
section
variable {w : Wd} {T : Nat → Nat → List AV → Sto → Rs AV} {k g n : Nat} {E : XK} {X : Cx}
theorem b2 {a b : Bool} (h : (a && b) = true) : a = true ∧ b = true := Bool.and_eq_true_iff.mp h
theorem in_bl {x : Str} (h : x ∈ bltins) (G : Gd w T k g E X) : X.mg x = none := G.bi x h

/-- what is shown apart -/
structure More (w : Wd) (T : Nat → Nat → List AV → Sto → Rs AV) (k n : Nat) : Prop where
  lc : ∀ (g : Nat) (E : XK) (X : Cx), Gd w T k g E X → ∀ own elt t wk it cs el tg src ifs scope pos, mt w.N w.fn w.cn (n + 1) X.env.scope (.lc own elt t wk it cs) (.ListComp el [⟨tg, src, ifs, 0⟩] scope pos) = true →
    PE X (.ListComp el [⟨tg, src, ifs, 0⟩] scope pos) (tI w X.K E (ev T w g (n + 1) (.lc own elt t wk it cs)))
  qu : ∀ (g : Nat) (E : XK) (X : Cx), Gd w T k g E X → ∀ al i elt it x p1 xs p2, mt w.N w.fn w.cn (n + 1) X.env.scope (.quant al i elt it) (.Call (.Name x p1) xs [] p2) = true →
    PE X (.Call (.Name x p1) xs [] p2) (tI w X.K E (ev T w g (n + 1) (.quant al i elt it)))
  ss : ∀ (g : Nat) (E : XK) (X : Cx), Gd w T k g E X → ∀ a x p1 xs p2, mt w.N w.fn w.cn (n + 1) X.env.scope (.bi .sortedSet [a]) (.Call (.Name x p1) xs [] p2) = true →
    PE X (.Call (.Name x p1) xs [] p2) (tI w X.K E (ev T w g (n + 1) (.bi .sortedSet [a])))

theorem part_ok {m : Nat} {sc : Scope} {e : Slots → Sto → Rs AV} (S : SnE w T k m) (G : Gd w T k g E X) : ∀ (l : Option IE) (lo : Option Expr), mt.mtO w.N w.fn w.cn m X.env.scope l lo = true →
    PO X lo (fun σ H Q => ∃ ρ sl s, StR X.K ρ H s ∧ SlR X.K ρ H σ sl ∧ Out X.K w.xc E ρ H (fun _ _ b a => b = a) (evI.part (ev T w g m) l sl s) Q)
  | none, none, _ => ⟨by
    have p := (po_none (X := X)).run
    intro pins s σ H Q I h
    obtain ⟨ρ, sl, s2, st, sr, o⟩ := h
    exact p pins s σ H Q I (Out.now (a := (none : Option Int)) (s := s2) o st rfl)⟩
  | some a, some x, h => ⟨by
    have p := (po_some (S g E X G a x (by rw [mt.mtO] at h; exact h))).run
    intro pins s σ H Q I hq
    refine p pins s σ H Q I ?_
    obtain ⟨ρ, sl, s2, st, sr, o⟩ := hq
    refine ⟨ρ, sl, s2, st, sr, Out.bd o ?_⟩
    intro y s3 ρ1 H1 v _ g1 st1 r1 o1
    cases y with
    | int i =>
      cases r1
      exact ⟨i, rfl, Out.now (a := some i) (s := s3) o1 st1 rfl⟩
    | _ => exact False.elim o1⟩
  | none, some _, h => by simp [mt.mtO, mtO'] at h
  | some _, none, h => by simp [mt.mtO, mtO'] at h

theorem Out.imp {α β : Type} {K : PySem.W.Frag} {xc : List (Addr × List Str)} {ρ : List Addr} {H : Hp} {R : List Addr → Hp → β → α → Prop} {r : Rs α} {Q Q' : β → Hp → Prop} (h : Out K xc E ρ H R r Q) (hq : ∀ b H, Q b H → Q' b H) : Out K xc E ρ H R r Q' := by
  cases r with
  | ok a s => exact fun ρ' H' b g st rb => hq _ _ (h ρ' H' b g st rb)
  | exc x s => exact h
  | bad => exact h
def meTy : ME → String
  | .append => "list"
  | _ => "str"
theorem meT_ok {K : PySem.W.Frag} {ρ : List Addr} {H : Hp} {s : Sto} {d : AV} {x : V} {m : ME} (st : StR K ρ H s) (r : Rp K ρ H x d) (h : meT m d s = true) : tyV K (meTy m) x H := by
  cases m <;> cases d <;> first | (cases h; done) | (cases r; exact rfl) | skip
  rename_i k
  have h2 : (match s[k]? with
    | some (.lst _) => true
    | none => false) = true := h
  cases e : s[k]? with
  | none => rw [e] at h2; cases h2
  | some o =>
    cases o with
    | lst ds =>
      cases r with
      | ref p =>
        obtain ⟨xs, q, _⟩ := st.at p e
        exact Or.inl ⟨rfl, xs, Or.inl (Or.inl q)⟩
theorem nostar {pos : Pos} {env : Env} {N fn cn : List Str} {sc : Scope} : ∀ {irs : List IE} {es : List Expr}, all2 (mt N fn cn n sc) irs es = true → (backTo pos (starEach es env)).all (fun x => !x.1) = true
  | [], [], _ => rfl
  | ir :: irs, e :: es, h => by
    obtain ⟨h1, h2⟩ := b2 h
    rw [star_plain h1]
    exact Bool.and_eq_true_iff.mpr ⟨rfl, nostar h2⟩
theorem args_form {pos : Pos} {env : Env} {N fn cn : List Str} {sc : Scope} {irs : List IE} {es : List Expr} (h : all2 (mt N fn cn n sc) irs es = true) (hl : es.length < 20) :
    (((backTo pos (starEach es env)).all fun x => !x.1) && ((backToKw pos (keywordEach [] env)).all fun x => x.1.isSome) && decide ((es.length + ([] : List Keyword).length + if ([] : List Keyword).isEmpty = true then 0 else 1) < 30)) = true := by
  rw [nostar h]
  simp [backToKw, keywordEach]
  omega
set_option maxHeartbeats 16000000 in
theorem sn_step (S : SnE w T k n) (Tn : TnE w T k n) (M : More w T k n) : SnE w T k (n + 1) := by
  intro g E X G ir e h
  have PAs : ∀ irs es, all2 (mt w.N w.fn w.cn n X.env.scope) irs es = true → PA X es (tIs w X.K E (evs (ev T w g n) irs)) := fun irs es q => pa_all (fun ir e q => S g E X G ir e q) irs es q
  have rm := G.rg.rm
  have hu : X.A.units + 100 < cLine := by have := rm.u; have := rm.le; omega
  have h0 := h
  unfold mt at h
  split at h
  · -- and, or of two
    rename_i op x y pos
    split at h
    · rename_i a b
      obtain ⟨h1, h2⟩ := b2 h
      exact PE.of (pe_andT (S g E X G _ _ h1) (pe_one (S g E X G _ _ h2))) fun σ H Q hq => and_ok hq
    · rename_i a b
      obtain ⟨h1, h2⟩ := b2 h
      exact PE.of (pe_orT (S g E X G _ _ h1) (pe_one (S g E X G _ _ h2))) fun σ H Q hq => or_ok hq
    · cases h
  · rename_i op x y z rest pos
    split at h
    · rename_i a b
      obtain ⟨h1, h2⟩ := b2 h
      exact PE.of (pe_andT (S g E X G _ _ h1) (S g E X G _ _ h2)) fun σ H Q hq => and_ok hq
    · rename_i a b
      obtain ⟨h1, h2⟩ := b2 h
      exact PE.of (pe_orT (S g E X G _ _ h1) (S g E X G _ _ h2)) fun σ H Q hq => or_ok hq
    · cases h
  · -- a name
    rename_i x pos
    split at h
    · rename_i i
      obtain ⟨h1, h2⟩ := b2 h
      obtain ⟨v1, v2, v3, v4⟩ := vis_of h2
      refine PE.of (pe_var (i := i) (by rw [G.N]; exact of_decide_eq_true h1) v1 v2 v3) ?_
      rintro σ H Q ⟨ρ, sl, s, st, sr, o⟩
      have o2 : Out X.K w.xc E ρ H (Rp X.K) (match sl[i]? with
        | some (some d) => .ok d s
        | _ => .bad) Q := o
      split at o2
      · rename_i d e2
        obtain ⟨v, h3, h4⟩ := sr.get i d e2
        exact ⟨v, h3, Out.now o2 st h4⟩
      · exact o2.elim
    · rename_i i
      obtain ⟨h1, h2⟩ := b2 h
      obtain ⟨v1, v2, v3⟩ := gl_of h2
      constructor
      rintro pins s σ H Q I ⟨ρ, sl, s2, st, sr, o⟩
      have o2 : Out X.K w.xc E ρ H (Rp X.K) (opt w.C[i]? s2) Q := o
      obtain ⟨d, e2, o3⟩ := Out.opt o2
      obtain ⟨u, v, m1, m2, m3⟩ := G.cn i x d (of_decide_eq_true h1) e2
      exact (pe_glob v1 m1 m2 v2).run pins s σ H Q I (Out.now o3 st (m3 ρ H))
    · cases h
  · -- a constant
    rename_i c j pos
    split at h
    · rename_i d
      cases d with
      | non =>
        cases c <;> first | (cases h; done) | skip
        exact PE.of pe_non fun σ H Q ⟨ρ, sl, s, st, sr, o⟩ => Out.now (a := AV.non) (s := s) o st .non
      | bl b =>
        cases c <;> first | (cases h; done) | skip
        rename_i b'
        have e2 : b = b' := by simpa [litB] using h
        subst e2
        exact PE.of pe_bl fun σ H Q ⟨ρ, sl, s, st, sr, o⟩ => Out.now (a := AV.bl b) (s := s) o st (.bl _)
      | int i =>
        cases c <;> first | (cases h; done) | skip
        rename_i i'
        have e2 : i = i' := by simpa [litB] using h
        subst e2
        exact PE.of pe_int fun σ H Q ⟨ρ, sl, s, st, sr, o⟩ => Out.now (a := AV.int i) (s := s) o st (.int _)
      | str a =>
        cases c <;> first | (cases h; done) | skip
        rename_i a'
        have e2 : a = a' := by simpa [litB] using h
        subst e2
        exact PE.of pe_str fun σ H Q ⟨ρ, sl, s, st, sr, o⟩ => Out.now (a := AV.str a) (s := s) o st (.str _)
      | tup _ => cases c <;> cases h
      | lst _ => cases c <;> cases h
      | ref _ => cases c <;> cases h
    · cases h
  · -- a tuple
    rename_i xs j pos
    split at h
    · rename_i es
      refine PE.of (pe_tup (PAs es xs h)) ?_
      rintro σ H Q ⟨ρ, sl, s, st, sr, o⟩
      refine ⟨ρ, sl, s, st, sr, Out.bd o ?_⟩
      intro ds s1 ρ1 H1 vs _ g1 st1 r1 o1
      split at o1
      · rename_i hl
        refine ⟨by rw [r1.len]; exact fits_line hl, fun p hp => ?_⟩
        exact o1 _ _ _ (Go.fresh hp) (st1.fresh hp) (.tup (Or.inl (Or.inl upd_same)) (r1.go (Go.fresh hp)))
      · exact o1.elim
    · cases h
  · rename_i xs pos
    split at h
    · rename_i es
      refine PE.of (pe_lst (PAs es xs h)) ?_
      rintro σ H Q ⟨ρ, sl, s, st, sr, o⟩
      refine ⟨ρ, sl, s, st, sr, Out.bd o ?_⟩
      intro ds s1 ρ1 H1 vs _ g1 st1 r1 o1
      split at o1
      · rename_i hl
        exact ⟨by rw [r1.len]; exact fits_line hl, fun p hp => Out.new o1 st1 r1 hp⟩
      · exact o1.elim
    · cases h
  · rename_i x op y pos
    split at h
    · rename_i o a b
      obtain ⟨h1, h2⟩ := b2 h
      obtain ⟨h3, h4⟩ := b2 h1
      exact PE.of (pe_op (bin_ok (xc := w.xc) (E := E) h3) (S g E X G _ _ h4) (S g E X G _ _ h2)) fun σ H Q hq => two_ok hq fun ρ s x y v u H st r1 r2 o => ⟨ρ, s, x, y, st, r1, r2, o⟩
    · cases h
  · rename_i op x pos
    split at h
    · rename_i a
      refine PE.of (pe_un un_neg (S g E X G _ _ h)) fun σ H Q hq => one_ok hq ?_
      intro ρ s x v H st r o
      cases x with
      | int i =>
        cases r
        exact ⟨i, rfl, Out.now (a := AV.int (-i)) (s := s) o st (.int _)⟩
      | _ => exact False.elim o
    · rename_i a
      refine PE.of (pe_notT (S g E X G _ _ h)) fun σ H Q hq => one_ok hq ?_
      intro ρ s x v H st r o
      cases e : truth s x with
      | none => rw [e] at o; exact o.elim
      | some c =>
        rw [e] at o
        exact ⟨c, truth_ok st r e, Out.now (a := AV.bl (!c)) (s := s) o st (.bl _)⟩
    · cases h
  · rename_i x op y pos
    split at h
    · rename_i o a b
      obtain ⟨h1, h2⟩ := b2 h
      obtain ⟨h3, h4⟩ := b2 h1
      refine PE.of (pe_cmpR (cmp_ok (by omega) h3) (S g E X G _ _ h4) (S g E X G _ _ h2) (cmp_mark h2)) fun σ H Q hq => two_ok hq ?_
      intro ρ s x y v u H st r1 r2 o2
      cases e : opCmp o x y s with
      | none => rw [e] at o2; exact o2.elim
      | some c =>
        rw [e] at o2
        exact ⟨ρ, s, x, y, c, st, r1, r2, e, Out.now (a := AV.bl c) (s := s) o2 st (.bl _)⟩
    · cases h
  · rename_i x op op' y z pos
    split at h
    · rename_i o p a b c
      obtain ⟨h1, h2⟩ := b2 h
      obtain ⟨h1, h3⟩ := b2 h1
      obtain ⟨h1, h4⟩ := b2 h1
      obtain ⟨h5, h6⟩ := b2 h1
      exact PE.of (pe_chain (cmp_ok (by omega) h5) (cmp_ok (by omega) h6) (S g E X G _ _ h4) (S g E X G _ _ h3) (S g E X G _ _ h2) (cmp_mark h2)) fun σ H Q hq => chain_ok hq
    · cases h
  · rename_i c x y pos
    split at h
    · rename_i d a b
      obtain ⟨h1, h2⟩ := b2 h
      obtain ⟨h3, h4⟩ := b2 h1
      exact PE.of (pe_ifExp (Tn g E X G _ _ h3).1 (S g E X G _ _ h4) (S g E X G _ _ h2)) fun σ H Q hq => ife_ok hq
    · cases h
  · rename_i x lo hi p2 pos
    split at h
    · rename_i a l hh
      obtain ⟨h1, h2⟩ := b2 h
      obtain ⟨h3, h4⟩ := b2 h1
      refine PE.of (pe_slice (sl_ok (xc := w.xc) (E := E)) (S g E X G _ _ h3) (part_ok (sc := X.env.scope) (e := fun _ _ => .bad) S G l lo h4) (part_ok (sc := X.env.scope) (e := fun _ _ => .bad) S G hh hi h2)) ?_
      rintro σ H Q ⟨ρ, sl, s, st, sr, o⟩
      refine ⟨ρ, sl, s, st, sr, Out.bd o ?_⟩
      intro d s1 ρ1 H1 v _ g1 st1 r1 o1
      refine ⟨ρ1, sl, s1, st1, sr.go g1, Out.bd o1 ?_⟩
      intro lv s2 ρ2 H2 lb _ g2 st2 r2 o2
      subst r2
      refine ⟨ρ2, sl, s2, st2, (sr.go g1).go g2, Out.bd o2 ?_⟩
      intro hv s3 ρ3 H3 hb _ g3 st3 r3 o3
      subst r3
      exact ⟨ρ3, s3, d, st3, (r1.go g2).go g3, o3⟩
    · cases h
  · rename_i x y pos _
    split at h
    · rename_i a i
      obtain ⟨h1, h2⟩ := b2 h
      refine PE.of (pe_ix ix_ok (S g E X G _ _ h1) (S g E X G _ _ h2) (plain_ix h2)) fun σ H Q hq => two_ok hq ?_
      intro ρ s x y v u H st r1 r2 o2
      obtain ⟨d, e2, o3⟩ := Out.opt o2
      exact ⟨ρ, s, x, y, d, st, r1, r2, e2, fun v' rv => Out.now o3 st rv⟩
    · cases h
  · rename_i x p1 xs pos
    split at h
    · -- a def
      rename_i f es
      obtain ⟨h1, h2⟩ := b2 h
      obtain ⟨h3, h4⟩ := b2 h1
      obtain ⟨v1, v2, v3⟩ := gl_of h4
      obtain ⟨a, fd, ps, m1, m2, m3, F⟩ := G.fn (4 * g) f x (of_decide_eq_true h3)
      have fin : ∀ σ H Q, tI w X.K E (ev T w g (n + 1) (.call f es)) σ H Q → tIs w X.K E (evs (ev T w g n) es) σ H fun vs H1 => spI X.K w.xc (T (4 * g) f) vs H1 Q E := by
        rintro σ H Q ⟨ρ, sl, s, st, sr, o⟩
        refine ⟨ρ, sl, s, st, sr, Out.bd o ?_⟩
        intro ds s1 ρ1 H1 vs _ g1 st1 r1 o1
        exact callF_ok st1 r1 o1
      cases xs with
      | nil =>
        cases es with
        | cons _ _ => cases h2
        | nil =>
          refine PE.of (pe_callG0 F rm v1 m1 m2 m3 G.ps v2) ?_
          intro σ H Q hq
          obtain ⟨ρ, sl, s, st, sr, o⟩ := hq
          exact callF_ok st .nil o
      | cons y ys =>
        cases es with
        | nil => cases h2
        | cons e0 es0 =>
          obtain ⟨h5, h6⟩ := b2 h2
          exact PE.of (pe_callG F rm v1 m1 m2 m3 G.ps (PAs (e0 :: es0) (y :: ys) h2) v2 (star_plain h5) (args_plain h6)) fin
    · exact M.ss g E X G _ _ _ _ _ h0
    · rename_i b es hns
      obtain ⟨h1, h2⟩ := b2 h
      obtain ⟨h1, h3⟩ := b2 h1
      obtain ⟨h1, h4⟩ := b2 h1
      obtain ⟨h5, h6⟩ := b2 h1
      obtain ⟨v1, v2, v3⟩ := gl_of h4
      have e6 : x = biN b := of_decide_eq_true h6
      subst e6
      have fin : ∀ σ H Q, tI w X.K E (ev T w g (n + 1) (.bi b es)) σ H Q → tCB (rBi X.K w.xc E b) (tIs w X.K E (evs (ev T w g n) es)) σ H Q := by
        rintro σ H Q ⟨ρ, sl, s, st, sr, o⟩
        refine ⟨ρ, sl, s, st, sr, Out.bd o ?_⟩
        intro ds s1 ρ1 H1 vs _ g1 st1 r1 o1
        exact ⟨ρ1, s1, ds, st1, r1, o1⟩
      cases xs with
      | nil => cases h3
      | cons y ys =>
        cases es with
        | nil => cases h2
        | cons e0 es0 =>
          obtain ⟨h7, h8⟩ := b2 h2
          cases b with
          | len => exact PE.of (pe_callB len_ok v1 (G.bi _ (by decide)) (by decide +kernel) (PAs (e0 :: es0) (y :: ys) h2) v3 v2 (star_plain h7) (args_plain h8)) fin
          | repr => exact PE.of (pe_callB (repr_ok rm.g hu) v1 (G.bi _ (by decide)) (by decide +kernel) (PAs (e0 :: es0) (y :: ys) h2) v3 v2 (star_plain h7) (args_plain h8)) fin
          | int => exact PE.of (pe_callTy int_ok v1 (G.bi _ (by decide)) (by decide +kernel) (PAs (e0 :: es0) (y :: ys) h2) v3 v2 (star_plain h7) (args_plain h8)) fin
          | str => exact PE.of (pe_callTy str_ok v1 (G.bi _ (by decide)) (by decide +kernel) (PAs (e0 :: es0) (y :: ys) h2) v3 v2 (star_plain h7) (args_plain h8)) fin
          | list => exact PE.of (pe_callTy list_ok v1 (G.bi _ (by decide)) (by decide +kernel) (PAs (e0 :: es0) (y :: ys) h2) v3 v2 (star_plain h7) (args_plain h8)) fin
          | tuple => exact PE.of (pe_callTy tuple_ok v1 (G.bi _ (by decide)) (by decide +kernel) (PAs (e0 :: es0) (y :: ys) h2) v3 v2 (star_plain h7) (args_plain h8)) fin
          | sortedSet => cases h5
    · -- isinstance
      rename_i a t
      split at h
      · rename_i y z p3
        obtain ⟨h1, h2⟩ := b2 h
        obtain ⟨h1, h3⟩ := b2 h1
        obtain ⟨h1, h4⟩ := b2 h1
        obtain ⟨h5, h6⟩ := b2 h1
        obtain ⟨v1, v2, v3⟩ := gl_of h6
        obtain ⟨u1, u2, u3⟩ := gl_of h3
        have e5 : x = "isinstance" := of_decide_eq_true h5
        have e4 : z = tyN t := of_decide_eq_true h4
        subst e5
        subst e4
        have pT : PE X (.Name (tyN t) p3) (tC (.ty (tyS t))) := by
          refine pe_bltn (u := .type (tyS t)) u1 (G.bi _ (by cases t <;> decide)) (by cases t <;> decide +kernel) rfl u3 u2
        refine PE.of (pe_callB call_isi v1 (G.bi _ (by decide)) (by decide +kernel) (pa_cons (S g E X G _ _ h2) (pa_cons pT pa_nil (by rfl)) (star_plain h2)) v3 v2 (star_plain h2) (by rfl)) ?_
        intro σ H Q hq
        refine one_ok hq ?_
        intro ρ s d v H st r o
        cases e : isT s d t with
        | none => rw [e] at o; exact o.elim
        | some c =>
          rw [e] at o
          obtain ⟨T0, q1, q2⟩ := isT_ok st r e
          exact ⟨v, .ty (tyS t), T0, .type (tyS t), c, rfl, .ty _, q1, q2, Out.now (a := AV.bl c) (s := s) o st (.bl _)⟩
      · cases h
    · exact M.qu g E X G _ _ _ _ _ _ _ _ h0
    · cases h
  · -- a method
    rename_i o m apos xs cpos
    split at h
    · rename_i kk a es
      obtain ⟨h1, h2⟩ := b2 h
      obtain ⟨h1, h3⟩ := b2 h1
      obtain ⟨h1, h4⟩ := b2 h1
      obtain ⟨h1, h5⟩ := b2 h1
      obtain ⟨h1, h6⟩ := b2 h1
      obtain ⟨h7, h8⟩ := b2 h1
      have e7 : m = meN kk := of_decide_eq_true h7
      subst e7
      have hb : bare o = false := by simpa using h6
      have fin : ∀ σ H Q, tI w X.K E (ev T w g (n + 1) (.me kk a es)) σ H Q → tI w X.K E (ev T w g n a) σ H fun x H1 => (∃ ρ s d, StR X.K ρ H1 s ∧ Rp X.K ρ H1 x d ∧ meT kk d s = true) ∧ tIs w X.K E (evs (ev T w g n) es) σ H1 fun vs H2 => rMe X.K w.xc E kk x vs H2 Q := by
        rintro σ H Q ⟨ρ, sl, s, st, sr, o⟩
        refine ⟨ρ, sl, s, st, sr, Out.bd o ?_⟩
        intro d s1 ρ1 H1 v _ g1 st1 r1 o1
        split at o1
        · rename_i hm
          refine ⟨⟨ρ1, s1, d, st1, r1, hm⟩, ρ1, sl, s1, st1, sr.go g1, Out.bd o1 ?_⟩
          intro ds s2 ρ2 H2 vs _ g2 st2 r2 o2
          exact ⟨ρ2, s2, d, ds, st2, r1.go g2, r2, o2⟩
        · exact o1.elim
      have fin2 : ∀ σ H Q, tI w X.K E (ev T w g (n + 1) (.me kk a es)) σ H Q → tBM X.K (meTy kk) (rMe X.K w.xc E kk) (tI w X.K E (ev T w g n a)) (tIs w X.K E (evs (ev T w g n) es)) σ H Q := by
        intro σ H Q hq
        obtain ⟨ρ, sl, s, st, sr, o⟩ := fin σ H Q hq
        refine ⟨ρ, sl, s, st, sr, Out.imp o ?_⟩
        rintro x H1 ⟨⟨ρ2, s2, d, st2, r2, hm⟩, hq2⟩
        exact ⟨meT_ok st2 r2 hm, hq2⟩
      cases xs with
      | nil => cases h5
      | cons y ys =>
        cases es with
        | nil => cases h2
        | cons e0 es0 =>
          obtain ⟨p7, p8⟩ := b2 h2
          have hsz := args_form (pos := cpos) (env := X.env) h2 (of_decide_eq_true h4)
          have hsx := S g E X G _ _ h3
          have hax := PAs (e0 :: es0) (y :: ys) h2
          cases kk with
          | append => exact PE.of (pe_bm PySem.F.plainAttrs_list PySem.F.slot_list_append PySem.F.type_list_append append_ok hsx hax (base_of hb) hsz h8 (star_plain p7) (args_plain p8)) fin2
          | startswith => exact PE.of (pe_bm PySem.F.plainAttrs_str PySem.F.slot_str_startswith PySem.F.type_str_startswith startswith_ok hsx hax (base_of hb) hsz h8 (star_plain p7) (args_plain p8)) fin2
          | endswith => exact PE.of (pe_bm PySem.F.plainAttrs_str PySem.F.slot_str_endswith PySem.F.type_str_endswith endswith_ok hsx hax (base_of hb) hsz h8 (star_plain p7) (args_plain p8)) fin2
          | split => exact PE.of (pe_bm PySem.F.plainAttrs_str PySem.F.slot_str_split PySem.F.type_str_split split_ok hsx hax (base_of hb) hsz h8 (star_plain p7) (args_plain p8)) fin2
          | join => exact PE.of (pe_bm PySem.F.plainAttrs_str PySem.F.slot_str_join PySem.F.type_str_join join_ok hsx hax (base_of hb) hsz h8 (star_plain p7) (args_plain p8)) fin2
          | find => exact PE.of (pe_bm PySem.F.plainAttrs_str PySem.F.slot_str_find PySem.F.type_str_find find_ok hsx hax (base_of hb) hsz h8 (star_plain p7) (args_plain p8)) fin2
    · cases h
  · rename_i el tg src ifs scope pos
    split at h
    · exact M.lc g E X G _ _ _ _ _ _ _ _ _ _ _ _ h0
    · cases h
  · cases h
end
end Ip

set_option Elab.async false
set_option linter.all false
set_option maxRecDepth 100000
set_option maxHeartbeats 4000000
namespace Ip
open PySem PySem.Spec PyProof.Rows L2
variable [Tb]
section
variable {w : Wd} {T : Nat → Nat → List AV → Sto → Rs AV} {k g n : Nat} {E : XK} {X : Cx}
theorem tt_cmp {o : CO} {a b : Slots → Sto → Rs AV} {σ : L2.St} {H : Hp} {Q : Bool → Hp → Prop} (h : tTr w X.K E (fun σ s => (a σ s).bd fun x s => (b σ s).bd fun y s => opt ((opCmp o x y s).map .bl) s) σ H Q) :
    tTest (tOp (rCmp X.K o) (tI w X.K E a) (tI w X.K E b)) σ H Q := by
  obtain ⟨ρ, sl, s, st, sr, o1⟩ := h
  refine ⟨ρ, sl, s, st, sr, ?_⟩
  cases ea : a sl s with
  | bad => simp only [ea, Rs.bd] at o1; exact False.elim o1
  | exc x s1 => simp only [ea, Rs.bd] at o1 ⊢; exact o1
  | ok x s1 =>
    simp only [ea, Rs.bd] at o1
    intro ρ1 H1 v g1 st1 r1
    refine ⟨ρ1, sl, s1, st1, sr.go g1, ?_⟩
    cases eb : b sl s1 with
    | bad => simp only [eb, Rs.bd] at o1; exact False.elim o1
    | exc y s2 => simp only [eb, Rs.bd] at o1; exact Out.up (r := Rs.exc y s2) (α := Bool) (R := EqB) (Q := Q) o1 g1
    | ok y s2 =>
      simp only [eb, Rs.bd] at o1
      intro ρ2 H2 u g2 st2 r2
      cases ec : opCmp o x y s2 with
      | none => simp only [ec, Option.map, opt, Rs.bd] at o1; exact False.elim o1
      | some c =>
        simp only [ec, Option.map, opt, Rs.bd, truth] at o1
        refine ⟨ρ2, s2, x, y, c, st2, r1.go g2, r2, ec, c, rfl, ?_⟩
        exact o1 ρ2 H2 c (g1.trans g2) st2 rfl
theorem tt_not {a : Slots → Sto → Rs AV} {σ : L2.St} {H : Hp} {Q : Bool → Hp → Prop} (h : tTr w X.K E (fun σ s => (a σ s).bd fun x s => opt ((truth s x).map fun b => .bl (!b)) s) σ H Q) :
    tNot (tTr w X.K E a) σ H Q := by
  obtain ⟨ρ, sl, s, st, sr, o1⟩ := h
  refine ⟨ρ, sl, s, st, sr, ?_⟩
  cases ea : a sl s with
  | bad => simp only [ea, Rs.bd] at o1; exact False.elim o1
  | exc x s1 => simp only [ea, Rs.bd] at o1 ⊢; exact o1
  | ok x s1 =>
    simp only [ea, Rs.bd] at o1 ⊢
    cases ec : truth s1 x with
    | none => simp only [ec, Option.map, opt, Rs.bd] at o1; exact False.elim o1
    | some c =>
      simp only [ec, Option.map, opt, Rs.bd] at o1 ⊢
      have o2 : Out X.K w.xc E ρ H EqB (.ok (!c) s1) Q := o1
      intro ρ' H' b g' st' eb
      cases eb
      exact o2 ρ' H' (!c) g' st' rfl
theorem tt_chain {o p : CO} {a b c : Slots → Sto → Rs AV} {σ : L2.St} {H : Hp} {Q : Bool → Hp → Prop} (h : tTr w X.K E (fun σ s => (a σ s).bd fun x s => (b σ s).bd fun y s => (opt (opCmp o x y s) s).bd fun k s =>
      if k then (c σ s).bd fun z s => opt ((opCmp p y z s).map .bl) s else .ok (.bl false) s) σ H Q) :
    tTest (tChain (rCmp X.K o) (rCmp X.K p) (tI w X.K E a) (tI w X.K E b) (tI w X.K E c)) σ H Q := by
  obtain ⟨ρ, sl, s, st, sr, o1⟩ := h
  refine ⟨ρ, sl, s, st, sr, ?_⟩
  cases ea : a sl s with
  | bad => simp only [ea, Rs.bd] at o1; exact False.elim o1
  | exc x s1 => simp only [ea, Rs.bd] at o1 ⊢; exact o1
  | ok x s1 =>
    simp only [ea, Rs.bd] at o1
    intro ρ1 H1 v g1 st1 r1
    refine ⟨ρ1, sl, s1, st1, sr.go g1, ?_⟩
    cases eb : b sl s1 with
    | bad => simp only [eb, Rs.bd] at o1; exact False.elim o1
    | exc y s2 => simp only [eb, Rs.bd] at o1; exact Out.up (r := Rs.exc y s2) (α := Bool) (R := EqB) (Q := Q) o1 g1
    | ok y s2 =>
      simp only [eb, Rs.bd] at o1
      intro ρ2 H2 u g2 st2 r2
      cases ec : opCmp o x y s2 with
      | none => simp only [ec, opt, Rs.bd] at o1; exact False.elim o1
      | some d =>
        simp only [ec, opt, Rs.bd] at o1
        refine ⟨ρ2, s2, x, y, d, st2, r1.go g2, r2, ec, d, rfl, ?_⟩
        cases d with
        | false =>
          simp only [Bool.false_eq_true, if_false, truth, opt] at o1
          exact ⟨false, rfl, o1 ρ2 H2 false (g1.trans g2) st2 rfl⟩
        | true =>
          simp only [if_true] at o1
          refine ⟨ρ2, sl, s2, st2, (sr.go g1).go g2, ?_⟩
          cases ed : c sl s2 with
          | bad => simp only [ed, Rs.bd] at o1; exact False.elim o1
          | exc z s3 => simp only [ed, Rs.bd] at o1; exact Out.up (r := Rs.exc z s3) (α := Bool) (R := EqB) (Q := Q) o1 (g1.trans g2)
          | ok z s3 =>
            simp only [ed, Rs.bd] at o1
            intro ρ3 H3 t g3 st3 r3
            cases ef : opCmp p y z s3 with
            | none => simp only [ef, Option.map, opt, Rs.bd] at o1; exact False.elim o1
            | some q =>
              simp only [ef, Option.map, opt, Rs.bd, truth] at o1
              exact ⟨ρ3, s3, y, z, q, st3, r2.go g3, r3, ef, q, rfl, o1 ρ3 H3 q ((g1.trans g2).trans g3) st3 rfl⟩

set_option maxHeartbeats 16000000 in
theorem tn_step (S1 : SnE w T k (n + 1)) (S : SnE w T k n) (Tn : TnE w T k n) : TnE w T k (n + 1) := by
  intro g E X G ir e h
  have plain : (∀ whole, isTrue e X.env whole = (do let v ← whole; standAt e.pos; holding [v] (truthy v))) → (∀ op vs pos, e ≠ .BoolOp op vs pos) →
      PT X e (tTr w X.K E (ev T w g (n + 1) ir)) ∧ ∀ op vs pos, e = .BoolOp op vs pos → PW X e (tTr w X.K E (ev T w g (n + 1) ir)) := fun he hn =>
    ⟨pt_plain (S1 g E X G ir e h) he, fun op vs pos q => absurd q (hn op vs pos)⟩
  have rm := G.rg.rm
  have hu : X.A.units + 100 < cLine := by have := rm.u; have := rm.le; omega
  have h0 := h
  unfold mt at h
  split at h
  · rename_i op x y pos
    have pw : PW X (.BoolOp op [x, y] pos) (tTr w X.K E (ev T w g (n + 1) ir)) := by
      split at h
      · rename_i a b
        obtain ⟨h1, h2⟩ := b2 h
        exact PW.of (pw_and (Tn g E X G _ _ h1).1 (pw_and1 (Tn g E X G _ _ h2).1)) fun σ H Q hq => tand_ok hq
      · rename_i a b
        obtain ⟨h1, h2⟩ := b2 h
        exact PW.of (pw_or (Tn g E X G _ _ h1).1 (pw_or1 (Tn g E X G _ _ h2).1)) fun σ H Q hq => tor_ok hq
      · cases h
    exact ⟨pw.pt, fun _ _ _ _ => pw⟩
  · rename_i op x y z rest pos
    have pw : PW X (.BoolOp op (x :: y :: z :: rest) pos) (tTr w X.K E (ev T w g (n + 1) ir)) := by
      split at h
      · rename_i a b
        obtain ⟨h1, h2⟩ := b2 h
        exact PW.of (pw_and (Tn g E X G _ _ h1).1 ((Tn g E X G _ _ h2).2 _ _ _ rfl)) fun σ H Q hq => tand_ok hq
      · rename_i a b
        obtain ⟨h1, h2⟩ := b2 h
        exact PW.of (pw_or (Tn g E X G _ _ h1).1 ((Tn g E X G _ _ h2).2 _ _ _ rfl)) fun σ H Q hq => tor_ok hq
      · cases h
    exact ⟨pw.pt, fun _ _ _ _ => pw⟩
  · exact plain (fun _ => rfl) fun _ _ _ z => nomatch z
  · exact plain (fun _ => rfl) fun _ _ _ z => nomatch z
  · exact plain (fun _ => rfl) fun _ _ _ z => nomatch z
  · exact plain (fun _ => rfl) fun _ _ _ z => nomatch z
  · exact plain (fun _ => rfl) fun _ _ _ z => nomatch z
  · rename_i op x pos
    split at h
    · exact plain (fun _ => rfl) fun _ _ _ z => nomatch z
    · rename_i a
      exact ⟨PT.of (pt_not (Tn g E X G _ _ h).1) fun σ H Q hq => tt_not hq, fun _ _ _ z => nomatch z⟩
    · cases h
  · rename_i x op y pos
    split at h
    · rename_i o a b
      obtain ⟨h1, h2⟩ := b2 h
      obtain ⟨h3, h4⟩ := b2 h1
      exact ⟨PT.of (pt_cmpR (cmp_ok (by omega) h3) (S g E X G _ _ h4) (S g E X G _ _ h2) (cmp_mark h2)) fun σ H Q hq => tt_cmp hq, fun _ _ _ z => nomatch z⟩
    · cases h
  · rename_i x op op' y z pos
    split at h
    · rename_i o p a b c
      obtain ⟨h1, h2⟩ := b2 h
      obtain ⟨h1, h3⟩ := b2 h1
      obtain ⟨h1, h4⟩ := b2 h1
      obtain ⟨h5, h6⟩ := b2 h1
      exact ⟨PT.of (pt_chain (cmp_ok (by omega) h5) (cmp_ok (by omega) h6) (S g E X G _ _ h4) (S g E X G _ _ h3) (S g E X G _ _ h2) (cmp_mark h2)) fun σ H Q hq => tt_chain hq, fun _ _ _ z => nomatch z⟩
    · cases h
  · rename_i c x y pos
    split at h
    · rename_i d a b
      obtain ⟨h1, h2⟩ := b2 h
      obtain ⟨h3, h4⟩ := b2 h1
      exact ⟨PT.of (pt_ife (Tn g E X G _ _ h3).1 (Tn g E X G _ _ h4).1 (Tn g E X G _ _ h2).1) fun σ H Q hq => tife_ok hq, fun _ _ _ z => nomatch z⟩
    · cases h
  · exact plain (fun _ => rfl) fun _ _ _ z => nomatch z
  · exact plain (fun _ => rfl) fun _ _ _ z => nomatch z
  · exact plain (fun _ => rfl) fun _ _ _ z => nomatch z
  · exact plain (fun _ => rfl) fun _ _ _ z => nomatch z
  · exact plain (fun _ => rfl) fun _ _ _ z => nomatch z
  · cases h
end
end Ip

set_option Elab.async false
set_option linter.all false
set_option maxRecDepth 100000
set_option maxHeartbeats 4000000
namespace Ip
open PySem PySem.Spec PyProof.Rows L2
variable [Tb]
section
variable {w : Wd} {T : Nat → Nat → List AV → Sto → Rs AV} {k g n : Nat} {E : XK} {X : Cx} {K : PySem.W.Frag}
/-- a walk over a list, a tuple or a text -/
theorem pi_seq {tg l : Expr} {tl : TE} (hl : PE X l tl) : PI X tg l (fun σ H R => tl σ H fun x H1 => (∃ a xs, x = .ref a ∧ SqL X.K H1 a xs ∧ R (Itl X.K a) H1) ∨ (∃ a xs, x = .ref a ∧ SqT X.K H1 a xs ∧ R (Itt X.K a) H1) ∨ ∃ z, x = .str z ∧ R (Its z) H1) := by
  constructor
  intro pins s σ H R I h
  refine thn (hl.run pins s σ H _ I h) ?_
  rintro v s1 ⟨x, H1, I1, r1, q⟩
  rcases q with ⟨a, xs, rfl, hq, q⟩ | ⟨a, xs, rfl, hq, q⟩ | ⟨z, rfl, q⟩
  · cases r1
    obtain ⟨its, rv, p, hz⟩ := I1.list hq
    exact wpAny_pyIter_list p.isList (pi_one (tk := s1.toks) I1 _ (turn_list a _) ⟨_, Heap.get?_push_size _ rfl, rfl, rfl⟩ q)
  · cases r1
    obtain ⟨its, rv, p, hz⟩ := I1.tuple hq
    exact wpAny_pyIter_tuple (show s1.heap.IsTuple a its.toArray from p) (pi_one (tk := s1.toks) I1 _ (turn_tuple a _) ⟨_, Heap.get?_push_size _ rfl, rfl, rfl⟩ q)
  · obtain ⟨t, rfl⟩ := r1
    cases ha : z.cps.all (· < 128) with
    | false => exact wpAny_pyIter_wide ha (pi_one (tk := s1.toks) I1 _ (turn_str _ z t "str_iterator" (Or.inr rfl)) ⟨_, Heap.get?_push_size _ rfl, rfl, rfl⟩ q)
    | true => exact wpAny_pyIter_ascii ha (pi_one (tk := s1.toks) I1 _ (turn_str _ z t "str_ascii_iterator" (Or.inl rfl)) ⟨_, Heap.get?_push_size _ rfl, rfl, rfl⟩ q)

mutual
theorem sameA_eq : ∀ a b : AV, sameA a b = true → a = b
  | .non, b, h => by cases b <;> first | rfl | cases h
  | .bl x, b, h => by cases b <;> first | (exact congrArg AV.bl (by simpa [sameA] using h)) | cases h
  | .int x, b, h => by cases b <;> first | (exact congrArg AV.int (by simpa [sameA] using h)) | cases h
  | .str x, b, h => by cases b <;> first | (exact congrArg AV.str (by simpa [sameA] using h)) | cases h
  | .tup x, b, h => by
    cases b <;> first | (cases h; done) | skip
    rename_i y
    exact congrArg AV.tup (sameL_eq x y (by simpa [sameA] using h))
  | .lst x, b, h => by
    cases b <;> first | (cases h; done) | skip
    rename_i y
    exact congrArg AV.lst (sameL_eq x y (by simpa [sameA] using h))
  | .ref x, b, h => by cases b <;> first | (exact congrArg AV.ref (by simpa [sameA] using h)) | cases h
theorem sameL_eq : ∀ a b : List AV, sameL a b = true → a = b
  | [], [], _ => rfl
  | x :: r, y :: t, h => by
    have h2 : (sameA x y && sameL r t) = true := by simpa [sameL] using h
    obtain ⟨h3, h4⟩ := b2 h2
    rw [sameA_eq x y h3, sameL_eq r t h4]
  | [], _ :: _, h => by simp [sameL] at h
  | _ :: _, [], h => by simp [sameL] at h
end
/-- the iterator J goes over ys, as long as its source stands -/
def WalkOk (K : PySem.W.Frag) (ρ : List Addr) (H : Hp) (wk : IW) (xs ys : List AV) (J : It) : Prop := ∀ (i : Nat) (ρ' : List Addr) (H' : Hp) (s' : Sto), Go ρ H ρ' H' → StR K ρ' H' s' → stands wk xs ys s' = true →
  (∀ d, ys[i]? = some d → J.go i H' ∧ ∀ x H3, J.yld i H' x H3 → H3 = H' ∧ Rp K ρ' H' x d) ∧ (ys.length ≤ i → J.stop i H')
theorem WalkOk.up {ρ ρ1 : List Addr} {H H1 : Hp} {wk : IW} {xs ys : List AV} {J : It} (h : WalkOk K ρ H wk xs ys J) (g : Go ρ H ρ1 H1) : WalkOk K ρ1 H1 wk xs ys J := fun i ρ' H' s' g2 => h i ρ' H' s' (g.trans g2)
theorem walk_list {ρ : List Addr} {H : Hp} {wk : IW} {xs ys : List AV} {a : Addr} (h : ∀ (ρ' : List Addr) (H' : Hp) (s' : Sto), Go ρ H ρ' H' → StR K ρ' H' s' → stands wk xs ys s' = true → ∃ vs, SqL K H' a vs ∧ RpL K ρ' H' vs ys) :
    WalkOk K ρ H wk xs ys (Itl K a) := fun i ρ' H' s' g st hs => by
  obtain ⟨vs, h1, h2⟩ := h ρ' H' s' g st hs
  refine ⟨fun d hd => ?_, fun hl => ⟨vs, h1, by rw [h2.len]; exact hl⟩⟩
  obtain ⟨v, hv, rv⟩ := h2.get hd
  refine ⟨⟨vs, v, h1, hv⟩, fun x H3 ⟨e, q⟩ => ⟨e, ?_⟩⟩
  have z := q vs h1
  rw [hv] at z
  cases z
  exact rv
theorem walk_tup {ρ : List Addr} {H : Hp} {wk : IW} {xs ys : List AV} {a : Addr} {vs : List V} (h1 : SqT K H a vs) (h2 : RpL K ρ H vs ys) : WalkOk K ρ H wk xs ys (Itt K a) := fun i ρ' H' s' g st hs => by
  have h3 := sqt_gr g.g h1
  have h4 := h2.go g
  refine ⟨fun d hd => ?_, fun hl => ⟨vs, h3, by rw [h4.len]; exact hl⟩⟩
  obtain ⟨v, hv, rv⟩ := h4.get hd
  refine ⟨⟨vs, v, h3, hv⟩, fun x H3 ⟨e, q⟩ => ⟨e, ?_⟩⟩
  have z := q vs h3
  rw [hv] at z
  cases z
  exact rv
theorem walk_str {ρ : List Addr} {H : Hp} {wk : IW} {xs : List AV} (z : Str) : WalkOk K ρ H wk xs (z.cps.toList.map fun c => AV.str ⟨⟨[c]⟩⟩) (Its z) := fun i ρ' H' s' g st hs => by
  have sz : z.cps.size = z.cps.toList.length := by simp
  refine ⟨fun d hd => ?_, fun hl => ?_⟩
  · rw [List.getElem?_map] at hd
    cases e : z.cps.toList[i]? with
    | none => rw [e] at hd; cases hd
    | some c =>
      rw [e] at hd
      cases hd
      have hi : i < z.cps.size := by rw [sz]; exact (List.getElem?_eq_some_iff.mp e).1
      refine ⟨hi, fun x H3 ⟨e1, c', e2, e3⟩ => ⟨e1, ?_⟩⟩
      rw [← Array.getElem?_toList, e] at e2
      cases e2
      rw [e3]
      exact .str _
  · show z.cps.size ≤ i
    rw [sz]
    simpa using hl
theorem walk_rng {ρ : List Addr} {H : Hp} {wk : IW} {xs : List AV} (lo : Int) (m : Nat) : WalkOk K ρ H wk xs ((List.range m).map fun (k : Nat) => AV.int (lo + (k : Int))) (Itr lo m) := fun i ρ' H' s' g st hs => by
  refine ⟨fun d hd => ?_, fun hl => ?_⟩
  · rw [List.getElem?_map] at hd
    by_cases hi : i < m
    · rw [List.getElem?_range hi] at hd
      cases hd
      exact ⟨hi, fun x H3 ⟨e1, e2⟩ => ⟨e1, by rw [e2]; exact .int _⟩⟩
    · rw [List.getElem?_eq_none (by simpa using hi)] at hd
      cases hd
  · show m ≤ i
    simpa using hl
/-- what a for goes over -/
def wkE (wk : IW) (e : Slots → Sto → Rs (List AV)) : Slots → Sto → Rs (List AV × List AV) := fun σ s => (e σ s).bd fun xs s => (opt (walk wk xs s) s).bd fun ys s => .ok (xs, ys) s
def tW (w : Wd) (K : PySem.W.Frag) (E : XK) (wk : IW) (e : Slots → Sto → Rs (List AV)) : TI := fun σ H R => ∃ ρ sl s, StR K ρ H s ∧ SlR K ρ H σ sl ∧ Out K w.xc E ρ H (fun ρ' H' (J : It) (a : List AV × List AV) => WalkOk K ρ' H' wk a.1 a.2 J) (wkE wk e sl s) R
theorem PI.of {tg iter : Expr} {t t' : TI} (h : PI X tg iter t) (ht : ∀ σ H Q, t' σ H Q → t σ H Q) : PI X tg iter t' := ⟨fun pins s σ H Q I q => h.run pins s σ H Q I (ht σ H Q q)⟩
theorem walk_r2 {ds ys : List AV} {s : Sto} (h : walk .range2 ds s = some ys) : ∃ i j, ds = [.int i, .int j] ∧ ((-4611686018427387904 ≤ i ∧ i < 4611686018427387904) ∧ -4611686018427387904 ≤ j ∧ j < 4611686018427387904) ∧ ys = (List.range (j - i).toNat).map fun (k : Nat) => AV.int (i + (k : Int)) := by
  unfold walk at h
  split at h <;> first | (rename_i hh _; cases hh; done) | (rename_i hh; cases hh; done) | skip
  · split at h
    · rename_i hc
      cases h
      exact ⟨_, _, rfl, hc, rfl⟩
    · cases h
  · cases h
theorem pi_walk (S : SnE w T k n) (G : Gd w T k g E X) {wk : IW} {it : List IE} {tg src : Expr} (h : mt.mtW w.N w.fn w.cn n X.env.scope wk it src = true) : PI X tg src (tW w X.K E wk (evs (ev T w g n) it)) := by
  have PAs : ∀ irs es, all2 (mt w.N w.fn w.cn n X.env.scope) irs es = true → PA X es (tIs w X.K E (evs (ev T w g n) irs)) := fun irs es q => pa_all (fun ir e q => S g E X G ir e q) irs es q
  cases wk with
  | range1 =>
    unfold mt.mtW mtW' at h
    dsimp only at h
    split at h
    · rename_i x p1 y p2
      obtain ⟨h1, h2⟩ := b2 h
      obtain ⟨h3, h4⟩ := b2 h1
      have e3 : x = "range" := of_decide_eq_true h3
      subst e3
      have hs : starEach [y] X.env = [(false, eval y X.env)] := by
        cases it with
        | nil => cases h2
        | cons a r => exact star_plain (b2 h2).1
      refine PI.of (pi_range1 (gl_of h4).1 (G.bi _ (by decide)) (PAs it [y] h2) hs) ?_
      rintro σ H R ⟨ρ, sl, s, st, sr, o⟩
      refine ⟨ρ, sl, s, st, sr, Out.bd o ?_⟩
      intro ds s1 ρ1 H1 vs _ g1 st1 r1 o1
      match ds, r1, o1 with
      | [.int j], r1, o1 =>
        obtain ⟨v, rfl, rv⟩ := rpl1 r1
        cases rv
        have o2 : Out X.K w.xc E ρ1 H1 (fun ρ' H' (J : It) (a : List AV × List AV) => WalkOk X.K ρ' H' .range1 a.1 a.2 J) ((opt (if -4611686018427387904 ≤ j ∧ j < 4611686018427387904 then some ((List.range j.toNat).map fun (k : Nat) => AV.int k) else none) s1).bd fun ys s => .ok ([.int j], ys) s) R := o1
        by_cases hc : -4611686018427387904 ≤ j ∧ j < 4611686018427387904
        · rw [if_pos hc] at o2
          refine ⟨j, rfl, hc.1, hc.2, ?_⟩
          refine Out.now (a := ([AV.int j], (List.range j.toNat).map fun (k : Nat) => AV.int k)) (s := s1) o2 st1 ?_
          have z := walk_rng (K := X.K) (ρ := ρ1) (H := H1) (wk := .range1) (xs := [.int j]) 0 j.toNat
          simpa using z
        · rw [if_neg hc] at o2
          exact o2.elim
      | [], _, o1 => exact False.elim o1
      | [.non], _, o1 => exact False.elim o1
      | [.bl _], _, o1 => exact False.elim o1
      | [.str _], _, o1 => exact False.elim o1
      | [.tup _], _, o1 => exact False.elim o1
      | [.lst _], _, o1 => exact False.elim o1
      | [.ref _], _, o1 => exact False.elim o1
      | a :: _ :: _, _, o1 => cases a <;> exact False.elim o1
    · cases h
  | range2 =>
    unfold mt.mtW mtW' at h
    dsimp only at h
    split at h
    · rename_i x p1 y z p2
      obtain ⟨h1, h2⟩ := b2 h
      obtain ⟨h3, h4⟩ := b2 h1
      have e3 : x = "range" := of_decide_eq_true h3
      subst e3
      have hs : starEach [y, z] X.env = [(false, eval y X.env), (false, eval z X.env)] ∧ starEach [z] X.env = [(false, eval z X.env)] := by
        match it, h2 with
        | [a, b], h2 =>
          obtain ⟨q1, q2⟩ := b2 h2
          obtain ⟨q3, _⟩ := b2 q2
          have e1 := star_plain (es := [z]) (env := X.env) q1
          have e2 := star_plain (es := []) (env := X.env) q3
          exact ⟨by rw [e1, e2]; rfl, by rw [e2]; rfl⟩
        | [], h2 => cases h2
        | [a], h2 =>
          obtain ⟨_, q⟩ := b2 h2
          cases q
        | a :: b :: c :: r, h2 =>
          obtain ⟨_, q⟩ := b2 h2
          obtain ⟨_, q⟩ := b2 q
          cases q
      refine PI.of (pi_range2 (gl_of h4).1 (G.bi _ (by decide)) (PAs it [y, z] h2) hs.1 hs.2) ?_
      rintro σ H R ⟨ρ, sl, s, st, sr, o⟩
      refine ⟨ρ, sl, s, st, sr, Out.bd o ?_⟩
      intro ds s1 ρ1 H1 vs _ g1 st1 r1 o1
      cases e : walk .range2 ds s1 with
      | none => rw [e] at o1; exact o1.elim
      | some ys =>
        rw [e] at o1
        obtain ⟨i, j, rfl, hc, rfl⟩ := walk_r2 e
        cases r1 with
        | cons ra rb =>
          obtain ⟨v, rfl, rv⟩ := rpl1 rb
          cases ra
          cases rv
          refine ⟨i, j, rfl, ⟨hc.1.1, hc.1.2, hc.2.1, hc.2.2⟩, ?_⟩
          exact Out.now (a := ([AV.int i, AV.int j], (List.range (j - i).toNat).map fun (k : Nat) => AV.int (i + (k : Int)))) (s := s1) o1 st1 (walk_rng i (j - i).toNat)
    · cases h
  | seq =>
    have h2 : all2 (mt w.N w.fn w.cn n X.env.scope) it [src] = true := by
      unfold mt.mtW mtW' at h
      dsimp only at h
      exact h
    match it, h2 with
    | [a], h2 =>
      obtain ⟨q1, _⟩ := b2 h2
      refine PI.of (pi_seq (S g E X G a src q1)) ?_
      rintro σ H R ⟨ρ, sl, s, st, sr, o⟩
      refine ⟨ρ, sl, s, st, sr, ?_⟩
      have o1 : Out X.K w.xc E ρ H (fun ρ' H' (J : It) (a : List AV × List AV) => WalkOk X.K ρ' H' .seq a.1 a.2 J) ((ev T w g n a sl s).bd fun d s => (opt (walk .seq [d] s) s).bd fun ys s => .ok ([d], ys) s) R := by
        have e : wkE .seq (evs (ev T w g n) [a]) sl s = (ev T w g n a sl s).bd fun d s => (opt (walk .seq [d] s) s).bd fun ys s => .ok ([d], ys) s := by
          unfold wkE evs evs
          cases ev T w g n a sl s <;> rfl
        rw [← e]
        exact o
      refine Out.bd o1 ?_
      intro d s1 ρ1 H1 v _ g1 st1 r1 o2
      cases e : walk .seq [d] s1 with
      | none => rw [e] at o2; exact o2.elim
      | some ys =>
        rw [e] at o2
        have fin : ∀ J, WalkOk X.K ρ1 H1 .seq [d] ys J → R J H1 := fun J hJ => Out.now (a := ([d], ys)) (s := s1) o2 st1 hJ
        cases r1 with
        | str z =>
          have e2 : some (z.cps.toList.map fun c => AV.str ⟨⟨[c]⟩⟩) = some ys := e
          cases e2
          exact Or.inr (Or.inr ⟨z, rfl, fin _ (walk_str z)⟩)
        | @tup a xs ds p q =>
          have e2 : some ds = some ys := e
          cases e2
          exact Or.inr (Or.inl ⟨a, xs, rfl, p, fin _ (walk_tup p q)⟩)
        | @lst a xs ds p q =>
          have e2 : some ds = some ys := e
          cases e2
          exact Or.inl ⟨a, xs, rfl, p.sq, fin _ (walk_list fun ρ' H' s' g2 _ _ => ⟨xs, (p.gr g2.g).sq, q.go g2⟩)⟩
        | @ref a m p =>
          have e2 : (match s1[m]? with
            | some (.lst xs) => some xs
            | none => none) = some ys := e
          cases hs : s1[m]? with
          | none => rw [hs] at e2; cases e2
          | some ob =>
            cases ob with
            | lst zs =>
              rw [hs] at e2
              cases e2
              obtain ⟨xs, q1, q2⟩ := st1.at p hs
              refine Or.inl ⟨a, xs, rfl, Or.inl (Or.inl q1), fin _ (walk_list fun ρ' H' s' g2 st' hst => ?_)⟩
              have h3 : (match s'[m]? with
                | some (.lst ws) => sameL ws ys
                | none => false) = true := hst
              cases hs' : s'[m]? with
              | none => rw [hs'] at h3; cases h3
              | some ob' =>
                cases ob' with
                | lst ws =>
                  rw [hs'] at h3
                  have h4 := sameL_eq _ _ h3
                  rw [h4] at hs'
                  obtain ⟨us, q3, q4⟩ := st'.at (g2.le _ _ p) hs'
                  exact ⟨us, Or.inl (Or.inl q3), q4⟩
        | non => cases e
        | bl _ => cases e
        | int _ => cases e
    | [], h2 => cases h2
    | a :: b :: r, h2 =>
      obtain ⟨_, q⟩ := b2 h2
      cases q
  | signs =>
    unfold mt.mtW mtW' at h
    dsimp only at h
    cases h
end
end Ip

set_option Elab.async false
set_option linter.all false
set_option maxRecDepth 100000
set_option maxHeartbeats 4000000
namespace Ip
open PySem PySem.Spec PyProof.Rows L2
variable [Tb]
section
variable {w : Wd} {T : Nat → Nat → List AV → Sto → Rs AV} {k g n : Nat} {E : XK} {X : Cx} {K : PySem.W.Frag}
/-! ### targets -/
/-- but for the slots is -/
def ButS (is : List Nat) (σ σ' : L2.St) : Prop := ∀ vs : List Nat, (∀ i ∈ is, i ∈ vs) → L2.wipe σ' vs = L2.wipe σ vs
theorem wipe_none (σ : L2.St) : ∀ (vs : List Nat) (i : Nat), i ∈ vs → (L2.wipe σ vs).set i none = L2.wipe σ vs
  | v :: vs, i, h => by
    show ((L2.wipe σ vs).set v none).set i none = (L2.wipe σ vs).set v none
    by_cases e : i = v
    · subst e
      rw [List.set_set]
    · have h2 : i ∈ vs := by
        rcases List.mem_cons.mp h with z | z
        · exact absurd z e
        · exact z
      rw [List.set_comm _ _ (fun z => e z.symm), wipe_none σ vs i h2]
theorem wipe_set (σ : L2.St) (o : Option V) : ∀ (vs : List Nat) (i : Nat), i ∈ vs → L2.wipe (σ.set i o) vs = L2.wipe σ vs
  | v :: vs, i, h => by
    show (L2.wipe (σ.set i o) vs).set v none = (L2.wipe σ vs).set v none
    by_cases h2 : i ∈ vs
    · rw [wipe_set σ o vs i h2]
    · have e : i = v := by
        rcases List.mem_cons.mp h with z | z
        · exact z
        · exact absurd z h2
      subst e
      have com : ∀ ws : List Nat, i ∉ ws → L2.wipe (σ.set i o) ws = (L2.wipe σ ws).set i o := by
        intro ws
        induction ws with
        | nil => intro _; rfl
        | cons a r ih =>
          intro hn
          show (L2.wipe (σ.set i o) r).set a none = ((L2.wipe σ r).set a none).set i o
          rw [ih (fun z => hn (List.mem_cons_of_mem _ z)), List.set_comm _ _ (fun z => hn (by rw [z]; exact List.mem_cons_self))]
      rw [com vs h2, List.set_set]
theorem wipe_wipe (σ : L2.St) : ∀ vs ws : List Nat, (∀ i ∈ ws, i ∈ vs) → L2.wipe (L2.wipe σ ws) vs = L2.wipe σ vs
  | vs, [], _ => rfl
  | vs, a :: ws, h => by
    show L2.wipe ((L2.wipe σ ws).set a none) vs = L2.wipe σ vs
    rw [wipe_set _ _ vs a (h a List.mem_cons_self), wipe_wipe σ vs ws fun i hi => h i (List.mem_cons_of_mem _ hi)]
def tG (K : PySem.W.Frag) (t : IT) : TG := fun v σ H Q => ∃ ρ sl s d sl2, StR K ρ H s ∧ SlR K ρ H σ sl ∧ Rp K ρ H v d ∧ asT s t d sl = some sl2 ∧ ∀ σ', SlR K ρ H σ' sl2 → ButS (tsl t) σ σ' → Q σ' H
def tGs (K : PySem.W.Frag) (ts : List IT) : TGs := fun vs σ H Q => ∃ ρ sl s ds sl2, StR K ρ H s ∧ SlR K ρ H σ sl ∧ RpL K ρ H vs ds ∧ asTs s ts ds sl = some sl2 ∧ ∀ σ', SlR K ρ H σ' sl2 → ButS (tsl.go ts) σ σ' → Q σ' H
theorem PG.of {e : Expr} {t t' : TG} (h : PG X e t) (ht : ∀ v σ H Q, t' v σ H Q → t v σ H Q) : PG X e t' := ⟨fun pins s σ H v u Q I r q => h.run pins s σ H v u Q I r (ht v σ H Q q)⟩
theorem PGs.of {e : List Expr} {t t' : TGs} (h : PGs X e t) (ht : ∀ v σ H Q, t' v σ H Q → t v σ H Q) : PGs X e t' := ⟨fun pins s σ H v u Q I r q => h.run pins s σ H v u Q I r (ht v σ H Q q)⟩
theorem PG.or {e : Expr} {t t' : TG} (h : PG X e t) (h' : PG X e t') : PG X e (fun v σ H Q => t v σ H Q ∨ t' v σ H Q) := ⟨fun pins s σ H v u Q I r q => q.elim (h.run pins s σ H v u Q I r) (h'.run pins s σ H v u Q I r)⟩
theorem asg_plain {N : List Str} {sc osc : Scope} {t : IT} {e : Expr} {es : List Expr} {env : Env} (h : mtT N sc osc t e = true) : assignEach (e :: es) env = (false, assign e env) :: assignEach es env := by
  cases t <;> cases e <;> first | rfl | (simp [mtT] at h)
theorem asg_len {N : List Str} {sc osc : Scope} {env : Env} : ∀ {ts : List IT} {es : List Expr}, mtTs N sc osc ts es = true → (assignEach es env).length = ts.length ∧ (assignEach es env).findIdx? (·.1) = none
  | [], [], _ => ⟨rfl, rfl⟩
  | t :: ts, e :: es, h => by
    have h2 : (mtT N sc osc t e && mtTs N sc osc ts es) = true := by simpa [mtTs] using h
    obtain ⟨h3, h4⟩ := b2 h2
    obtain ⟨q1, q2⟩ := asg_len (env := env) h4
    rw [asg_plain h3]
    refine ⟨by simp [q1], ?_⟩
    rw [List.findIdx?_cons, q2]
    rfl
  | [], _ :: _, h => by simp [mtTs] at h
  | _ :: _, [], h => by simp [mtTs] at h
mutual
theorem pg_ok (hN : X.N.Nodup) (hc : X.calm = true) {osc : Scope} (own : ∀ x, osc.names.lookup x = some .cell → X.fn x = true) : ∀ (t : IT) (e : Expr), mtT X.N X.env.scope osc t e = true → PG X e (tG X.K t)
  | .nm i, e, h => by
    cases e with
    | Name x pos =>
      have h2 : (decide (X.N[i]? = some x) && decide (X.env.scope.names.lookup x = osc.names.lookup x) && (decide (osc.names.lookup x = some .local) || decide (osc.names.lookup x = some .cell)) && !dunder x) = true := by simpa only [mtT] using h
      obtain ⟨h3, _⟩ := b2 h2
      obtain ⟨h3, h5⟩ := b2 h3
      obtain ⟨h4, h8⟩ := b2 h3
      have h9 : X.env.scope.names.lookup x = osc.names.lookup x := of_decide_eq_true h8
      have h6 : X.env.scope.names.lookup x = some .local ∨ X.env.scope.names.lookup x = some .cell := by
        rw [h9]
        rcases Bool.or_eq_true_iff.mp h5 with q | q
        · exact Or.inl (of_decide_eq_true q)
        · exact Or.inr (of_decide_eq_true q)
      have h7 : X.fn x = true ∨ X.env.scope.names.lookup x = some .local := by
        rw [h9]
        rcases Bool.or_eq_true_iff.mp h5 with q | q
        · exact Or.inr (of_decide_eq_true q)
        · exact Or.inl (own x (of_decide_eq_true q))
      refine PG.of (pg_name (i := i) hN (of_decide_eq_true h4) h6 h7) ?_
      rintro v σ H Q ⟨ρ, sl, s, d, sl2, st, sr, r, ha, q⟩
      have ha2 : (if i < sl.length then some (sl.set i (some d)) else none) = some sl2 := by simpa only [asT] using ha
      split at ha2
      · cases ha2
        exact q _ (sr.set r i) fun vs hv => wipe_set _ _ vs i (hv i (by simp [tsl]))
      · cases ha2
    | _ => simp [mtT] at h
  | .tp ts, e, h => by
    cases e with
    | Tuple es j pos =>
      have h2 : mtTs X.N X.env.scope osc ts es = true := by simpa only [mtT] using h
      obtain ⟨q1, q2⟩ := asg_len (env := X.env) h2
      have P := pgs_ok hN hc own ts es h2
      refine PG.of (PG.or (pg_tup hc P q1 q2) (pg_unl hc P q1 q2)) ?_
      rintro v σ H Q ⟨ρ, sl, s, d, sl2, st, sr, r, ha, q⟩
      simp only [asT] at ha
      split at ha
      · rename_i ds e
        obtain ⟨a, xs, rfl, hq, rl⟩ := items_sq st r e
        have hl : xs.length = ts.length := by
          rw [rl.len]
          exact asTs_len _ _ _ _ ha
        rcases hq with hq | hq
        · exact Or.inr ⟨a, xs, rfl, hq, hl, ρ, sl, s, ds, sl2, st, sr, rl, ha, q⟩
        · exact Or.inl ⟨a, xs, rfl, hq, hl, ρ, sl, s, ds, sl2, st, sr, rl, ha, q⟩
      · cases ha
    | _ => simp [mtT] at h
theorem pgs_ok (hN : X.N.Nodup) (hc : X.calm = true) {osc : Scope} (own : ∀ x, osc.names.lookup x = some .cell → X.fn x = true) : ∀ (ts : List IT) (es : List Expr), mtTs X.N X.env.scope osc ts es = true → PGs X es (tGs X.K ts)
  | [], [], _ => PGs.of pgs_nil fun vs σ H Q ⟨ρ, sl, s, ds, sl2, st, sr, r, ha, q⟩ => by
    cases ds with
    | nil =>
      cases r
      have e : some sl = some sl2 := by simpa only [asTs] using ha
      cases e
      exact ⟨rfl, q _ sr fun _ _ => rfl⟩
    | cons _ _ => simp [asTs] at ha
  | t :: ts, e :: es, h => by
    have h2 : (mtT X.N X.env.scope osc t e && mtTs X.N X.env.scope osc ts es) = true := by simpa only [mtTs] using h
    obtain ⟨h3, h4⟩ := b2 h2
    refine PGs.of (pgs_cons (pg_ok hN hc own t e h3) (pgs_ok hN hc own ts es h4) (by rw [asg_plain h3]; rfl)) ?_
    rintro vs σ H Q ⟨ρ, sl, s, ds, sl2, st, sr, r, ha, q⟩
    cases ds with
    | nil => simp [asTs] at ha
    | cons d ds =>
      cases r with
      | cons ra rb =>
        simp only [asTs] at ha
        split at ha
        · rename_i sl1 e
          exact ⟨_, _, rfl, ρ, sl, s, d, sl1, st, sr, ra, e, fun σ' sr' b1 => ⟨ρ, sl1, s, ds, sl2, st, sr', rb, ha, fun σ2 sr2 b2 => q σ2 sr2 fun vs hv => by
            rw [b2 vs fun i hi => hv i (by show i ∈ tsl t ++ tsl.go ts; exact List.mem_append_right _ hi), b1 vs fun i hi => hv i (by show i ∈ tsl t ++ tsl.go ts; exact List.mem_append_left _ hi)]⟩⟩
        · cases ha
  | [], _ :: _, h => by simp [mtTs] at h
  | _ :: _, [], h => by simp [mtTs] at h
theorem asTs_len : ∀ (s : Sto) (ts : List IT) (ds : List AV) (sl : Slots) {sl2 : Slots}, asTs s ts ds sl = some sl2 → ds.length = ts.length
  | s, [], [], _, _, _ => rfl
  | s, t :: ts, d :: ds, sl, sl2, h => by
    simp only [asTs] at h
    split at h
    · rename_i sl1 e
      simp [asTs_len s ts ds sl1 h]
    · cases h
  | s, [], _ :: _, _, _, h => by simp [asTs] at h
  | s, _ :: _, [], _, _, h => by simp [asTs] at h
end
end
end Ip

set_option Elab.async false
set_option linter.all false
set_option maxRecDepth 100000
set_option maxHeartbeats 4000000
namespace Ip
open PySem PySem.Spec PyProof.Rows L2
variable [Tb]
section
variable {w : Wd} {T : Nat → Nat → List AV → Sto → Rs AV} {k g n : Nat} {E : XK} {X : Cx} {K : PySem.W.Frag} {xc : List (Addr × List Str)}
theorem Rs.assoc {α β γ : Type} (r : Rs α) (f : α → Sto → Rs β) (h : β → Sto → Rs γ) : (r.bd f).bd h = r.bd fun a s => (f a s).bd h := by
  cases r <;> rfl
theorem Out.bdX {ρ ρ0 : List Addr} {H H0 : Hp} {α β γ δ : Type} {R : List Addr → Hp → β → α → Prop} {R2 : List Addr → Hp → δ → γ → Prop} {r : Rs α} {f : α → Sto → Rs γ} {Q : δ → Hp → Prop} {Q' : β → Hp → Prop} (h : Out K xc E ρ H R2 ((noX r).bd f) Q)
    (hk : ∀ a s ρ1 H1 b, r = .ok a s → Go ρ0 H0 ρ1 H1 → StR K ρ1 H1 s → R ρ1 H1 b a → Out K xc E ρ H R2 (f a s) Q → Q' b H1) : Out K xc E0 ρ0 H0 R r Q' := by
  cases r with
  | ok a s => exact fun ρ' H' b g st rb => hk a s ρ' H' b rfl g st rb h
  | exc x s => exact False.elim h
  | bad => exact False.elim h
mutual
theorem sameA_refl : ∀ a : AV, sameA a a = true
  | .non => rfl
  | .bl x => by simp [sameA]
  | .int x => by simp [sameA]
  | .str x => by simp [sameA]
  | .tup x => by simp [sameA, sameL_refl x]
  | .lst x => by simp [sameA, sameL_refl x]
  | .ref x => by simp [sameA]
theorem sameL_refl : ∀ a : List AV, sameL a a = true
  | [] => by simp [sameL]
  | x :: r => by simp [sameL, sameA_refl x, sameL_refl r]
end
theorem stands_now {wk : IW} {xs ys : List AV} {s : Sto} (h : walk wk xs s = some ys) : stands wk xs ys s = true := by
  unfold stands
  split
  · rename_i m
    have h2 : (match s[m]? with
      | some (.lst xs) => some xs
      | none => none) = some ys := h
    cases e : s[m]? with
    | none => rw [e] at h2; cases h2
    | some o =>
      cases o with
      | lst zs =>
        rw [e] at h2
        cases h2
        exact sameL_refl ys
  · rfl
section
variable {ρ ρ1 : List Addr} {H H1 : Hp} {s : Sto} {D : Addr}
theorem StR.notin (h : StR K ρ H s) {p : Addr} (hp : ∀ xs, H p ≠ some (.lst xs)) : p ∉ ρ := fun hm => by
  obtain ⟨m, hn⟩ := List.getElem?_of_mem hm
  have hl : m < s.length := by rw [h.len]; exact (List.getElem?_eq_some_iff.mp hn).1
  have hob := h.ob m p s[m] hn (List.getElem?_eq_getElem hl)
  cases hso : s[m] with
  | lst ds =>
    rw [hso] at hob
    obtain ⟨ys, e, _⟩ := hob
    exact hp ys e
theorem StR.other (h : StR K ρ H s) (hD : D ∉ ρ) {xs ys : List V} (hl : H D = some (.lst xs)) : StR K ρ (L2.upd H D (.lst ys)) s := ⟨h.len, h.nd, h.tb.upd (fun ps z => by rw [hl] at z; cases z), fun m a o e1 e2 => by
  have q := h.ob m a o e1 e2
  cases o with
  | lst ds =>
    obtain ⟨zs, h1, h2⟩ := q
    exact ⟨zs, by rw [upd_ne (fun z => hD (by rw [← z]; exact List.mem_of_getElem? e1))]; exact h1, RpL.up (Le.refl _) (Gr.mut hl) _ _ h2⟩⟩
theorem Go.other (g : Go ρ H ρ1 H1) (hD : H D = none) {xs : List V} {o : HO} (hl : H1 D = some (.lst xs)) : Go ρ H ρ1 (L2.upd H1 D o) := ⟨g.le, g.g.trans (Gr.mut hl), fun a u e na nt => by
  obtain ⟨h1, h2⟩ := g.f a u e na nt
  exact ⟨by rw [upd_ne (ne_of_none e hD)]; exact h1, h2⟩⟩
theorem Go.adopt (g : Go ρ H ρ1 H1) (hD : H D = none) : Go ρ H (ρ1 ++ [D]) H1 := ⟨g.le.trans (Le.app _ _), g.g, fun a u e na nt => by
  obtain ⟨h1, h2⟩ := g.f a u e na nt
  refine ⟨h1, fun z => ?_⟩
  rw [List.mem_append, List.mem_singleton] at z
  rcases z with z | z
  · exact h2 z
  · exact ne_of_none e hD z⟩
theorem StR.adopt (h : StR K ρ H s) (hD : D ∉ ρ) {xs : List V} {ds : List AV} (hl : H D = some (.lst xs)) (r : RpL K ρ H xs ds) : StR K (ρ ++ [D]) H (s ++ [.lst ds]) ∧ Rp K (ρ ++ [D]) H (.ref D) (.ref s.length) := by
  have at_ : (ρ ++ [D])[ρ.length]? = some D := by simp
  refine ⟨⟨by simp [h.len], ?_, h.tb, fun m a o e1 e2 => ?_⟩, .ref (by rw [h.len]; exact at_)⟩
  · rw [List.nodup_append]
    refine ⟨h.nd, by simp, fun a ha b hb z => ?_⟩
    rw [List.mem_singleton] at hb
    subst hb
    subst z
    exact hD ha
  · by_cases hn : m < ρ.length
    · rw [List.getElem?_append_left hn] at e1
      rw [List.getElem?_append_left (by rw [h.len]; exact hn)] at e2
      have hob := h.ob m a o e1 e2
      cases o with
      | lst es =>
        obtain ⟨ys, e, q⟩ := hob
        exact ⟨ys, e, RpL.up (Le.app _ _) (Gr.refl _) _ _ q⟩
    · have hn2 : m = ρ.length := by
        have := (List.getElem?_eq_some_iff.mp e1).1
        simp at this
        omega
      subst hn2
      rw [at_] at e1
      cases e1
      have e3 : (s ++ [AO.lst ds])[ρ.length]? = some (.lst ds) := by rw [← h.len]; simp
      rw [e3] at e2
      cases e2
      exact ⟨xs, hl, RpL.up (Le.app _ _) (Gr.refl _) _ _ r⟩
end
theorem Gd.blk (G : Gd w T k g E X) (s : Shared) (H : Hp) (sc : Scope) (C : Addr) (cl : List (Str × Addr)) (fp : List Addr) : Gd w T k g E0 (X.blk s H sc (compEnvC sc cl C X.env) fp) where
  N := G.N
  nd := G.nd
  calm := G.calm
  rg := G.rg
  fn := G.fn
  cn := G.cn
  bi := G.bi
  ps := passL
  cd := G.cd
theorem fold_plain {wk : IW} {it : List IE} {src : Expr} {sc : Scope} {N fn cn : List Str} {env : Env} (h : mt.mtW N fn cn n sc wk it src = true) : ∀ x, foldedSetIterable src env x = pure x := by
  intro x
  cases src <;> first
    | rfl
    | (exfalso
       unfold mt.mtW mtW' at h
       cases wk with
       | range1 => cases h
       | range2 => cases h
       | signs => cases h
       | seq =>
         match it, h with
         | [a], h =>
           obtain ⟨q, _⟩ := b2 h
           cases n with
           | zero => rw [mt] at q; cases q
           | succ n => unfold mt at q; cases q
         | [], h => cases h
         | _ :: _ :: _, h =>
           obtain ⟨_, q⟩ := b2 h
           cases q)
/-- a comprehension's reading -/
theorem lc_read (own : List (Str × Nat)) (elt : IE) (t : IT) (wk : IW) (it cs : List IE) (hown : ∀ i ∈ tsl t, i ∈ own.map (·.2)) {tt : TT} (htt : tt = tIt w X.K E0 (tests (ev T w g n) cs)) {σ : L2.St} {H : Hp} {Q : VK} (h : tI w X.K E (ev T w g (n + 1) (.lc own elt t wk it cs)) σ H Q) :
    tLc (tW w X.K E wk (evs (ev T w g n) it)) (tG X.K t) tt (tI w X.K E0 (ev T w g n elt)) (own.map (·.2)) σ H Q := by
  subst htt
  obtain ⟨ρ, sl, s, st, sr, o⟩ := h
  refine ⟨ρ, sl, s, st, sr, ?_⟩
  have e0 : ev T w g (n + 1) (.lc own elt t wk it cs) sl s = (wkE wk (evs (ev T w g n) it) sl s).bd fun a s =>
      (lcLoop (ev T w g n) (own.map (·.2)) elt t wk a.1 a.2 cs sl a.2 [] s).bd fun zs s => .ok (.ref s.length) (s ++ [.lst zs]) := by
    unfold wkE
    rw [Rs.assoc]
    show (evs (ev T w g n) it sl s).bd _ = _
    congr 1
    funext xs s1
    rw [Rs.assoc]
    rfl
  rw [e0] at o
  refine Out.bd o ?_
  rintro ⟨xs, ys⟩ s1 ρ1 H1 J hwk g1 st1 hJ o1
  have hst1 : stands wk xs ys s1 = true := by
    unfold wkE at hwk
    cases q : evs (ev T w g n) it sl s with
    | bad => rw [q] at hwk; cases hwk
    | exc _ _ => rw [q] at hwk; cases hwk
    | ok xs0 s0 =>
      rw [q] at hwk
      have hwk2 : ((opt (walk wk xs0 s0) s0).bd fun ys s => Rs.ok (xs0, ys) s) = .ok (xs, ys) s1 := hwk
      cases q2 : walk wk xs0 s0 with
      | none => rw [q2] at hwk2; cases hwk2
      | some ys0 =>
        rw [q2] at hwk2
        cases hwk2
        exact stands_now q2
  intro D hD
  have sr1 := sr.go g1
  have hD1 : D ∉ ρ1 := st1.notin fun xs z => by rw [hD] at z; cases z
  refine ⟨fun i m H' => m = ys.length - i ∧ i ≤ ys.length ∧ ∃ ρ' s' acc vs, Go ρ1 H1 ρ' H' ∧ StR X.K ρ' H' s' ∧ stands wk xs ys s' = true ∧ D ∉ ρ' ∧ H' D = some (.lst vs) ∧ RpL X.K ρ' H' vs acc ∧
      Out X.K w.xc E ρ1 H1 (Rp X.K) ((lcLoop (ev T w g n) (own.map (·.2)) elt t wk xs ys cs sl (ys.drop i) acc s').bd fun (zs : List AV) (s : Sto) => Rs.ok (AV.ref s.length) (s ++ [AO.lst zs])) Q,
    ⟨ys.length, by omega, Nat.zero_le _, ρ1, s1, [], [], Go.fresh hD, st1.fresh hD, hst1, hD1, upd_same, .nil, o1⟩, ?_⟩
  rintro i m H' ⟨rfl, hi, ρ', s', acc, vs, g', st', hs', hD', hv, rv, o'⟩
  obtain ⟨w1, w2⟩ := hJ i ρ' H' s' g' st' hs'
  by_cases hlt : i < ys.length
  · refine Or.inr ⟨(w1 ys[i] (List.getElem?_eq_getElem hlt)).1, _, fun H'' z => ⟨ys.length - (i + 1), by omega, z⟩, ?_⟩
    intro x H3 hy
    obtain ⟨e3, rx⟩ := (w1 ys[i] (List.getElem?_eq_getElem hlt)).2 x H3 hy
    subst e3
    rw [List.drop_eq_getElem_cons hlt] at o'
    simp only [lcLoop] at o'
    cases ea : asT s' t ys[i] (wipeA sl (own.map (·.2))) with
    | none => simp only [ea] at o'; exact False.elim o'
    | some sl2 =>
      simp only [ea] at o'
      refine ⟨ρ', wipeA sl (own.map (·.2)), s', ys[i], sl2, st', (sr1.go g').wipe _, rx, ea, ?_⟩
      intro σ2 sr2 bs
      refine ⟨by rw [bs _ hown, wipe_wipe _ _ _ fun i hi => hi], ?_⟩
      rw [Rs.assoc] at o'
      refine ⟨ρ', sl2, s', st', sr2, Out.bdX o' ?_⟩
      intro b s2 ρ2 H2 b' _ g2 st2 eb o2
      cases eb
      obtain ⟨hv2, hD2⟩ := g2.f D _ hv hD' (fun ps z => by cases z)
      cases b with
      | true =>
        rw [if_pos rfl]
        rw [Rs.assoc] at o2
        refine ⟨ρ2, sl2, s2, st2, sr2.go g2, Out.bdX o2 ?_⟩
        intro y s3 ρ3 H4 v _ g3 st3 ry o3
        obtain ⟨hv3, hD3⟩ := g3.f D _ hv2 hD2 (fun ps z => by cases z)
        have rv3 := (rv.go g2).go g3
        split at o3
        · rename_i hl
          split at o3
          · rename_i hst
            refine ⟨vs, hv3, by rw [rv3.len, sizeLine_eq]; exact hl, rfl, hlt, ρ3, s3, acc ++ [y], vs ++ [v], ((g'.trans g2).trans g3).other hD hv3, st3.other hD3 hv3, hst, hD3, upd_same, ?_, o3⟩
            exact RpL.up (Le.refl _) (Gr.mut hv3) _ _ (rv3.app (.cons ry .nil))
          · exact False.elim o3
        · exact False.elim o3
      | false =>
        rw [if_neg Bool.false_ne_true]
        have o3 : Out X.K w.xc E ρ1 H1 (Rp X.K) ((if stands wk xs ys s2 = true then lcLoop (ev T w g n) (own.map (·.2)) elt t wk xs ys cs sl (ys.drop (i + 1)) acc s2 else .bad).bd fun zs s => .ok (.ref s.length) (s ++ [.lst zs])) Q := o2
        split at o3
        · rename_i hst
          exact ⟨rfl, hlt, ρ2, s2, acc, vs, g'.trans g2, st2, hst, hD2, hv2, rv.go g2, o3⟩
        · exact False.elim o3
  · have e : i = ys.length := by omega
    subst e
    refine Or.inl ⟨w2 (Nat.le_refl _), ?_⟩
    rw [List.drop_length] at o'
    have o2 : Out X.K w.xc E ρ1 H1 (Rp X.K) (.ok (.ref s'.length) (s' ++ [.lst acc])) Q := o'
    obtain ⟨a1, a2⟩ := st'.adopt hD' hv rv
    exact o2 _ _ _ (g'.adopt hD) a1 a2
theorem pts_ok (Tn : TnE w T k n) (G : Gd w T k g E X) : ∀ (cs : List IE) (ifs : List Expr), cs.length ≤ 1 → all2 (mt w.N w.fn w.cn n X.env.scope) cs ifs = true → PTs X ifs (tIt w X.K E (tests (ev T w g n) cs))
  | [], [], _, _ => ⟨by
    have p := (pts_nil (X := X)).run
    rintro pins s σ H Q I ⟨ρ, sl, s2, st, sr, o⟩
    exact p pins s σ H Q I (Out.now (a := true) (s := s2) o st rfl)⟩
  | [c], [x], _, h => ⟨by
    obtain ⟨q, _⟩ := b2 h
    exact (pts_one (Tn g E X G c x q).1).run⟩
  | c :: d :: r, _, hl, _ => by simp at hl
  | [], _ :: _, _, h => by cases h
  | [_], [], _, h => by cases h
  | [_], _ :: _ :: _, _, h => by
    obtain ⟨_, q⟩ := b2 h
    cases q
theorem lc_parts {own : List (Str × Nat)} {elt : IE} {t : IT} {wk : IW} {it cs : List IE} {el tg src : Expr} {ifs : List Expr} {sc : Scope} {pos : Pos} {N fn cn : List Str} {s0 : Scope} (h : mt N fn cn (n + 1) s0 (.lc own elt t wk it cs) (.ListComp el [⟨tg, src, ifs, 0⟩] sc pos) = true) :
    (∀ i ∈ tsl t, i ∈ own.map (·.2)) ∧ blkC N s0 sc own = true ∧ mtT N (relab s0 sc) sc t tg = true ∧ mt.mtW N fn cn n s0 wk it src = true ∧ cs.length ≤ 1 ∧ all2 (mt N fn cn n (relab s0 sc)) cs ifs = true ∧ mt N fn cn n (relab s0 sc) elt el = true := by
  unfold mt at h
  obtain ⟨h, h1⟩ := b2 h
  obtain ⟨h, h2⟩ := b2 h
  obtain ⟨h, h3⟩ := b2 h
  obtain ⟨h, h4⟩ := b2 h
  obtain ⟨h, h5⟩ := b2 h
  obtain ⟨h7, h6⟩ := b2 h
  refine ⟨fun i hi => of_decide_eq_true (List.all_eq_true.mp h7 i hi), h6, h5, h4, of_decide_eq_true h3, h2, h1⟩
theorem lc_ok (S : SnE w T k n) (Tn : TnE w T k n) : ∀ (g : Nat) (E : XK) (X : Cx), Gd w T k g E X → ∀ own elt t wk it cs el tg src ifs scope pos, mt w.N w.fn w.cn (n + 1) X.env.scope (.lc own elt t wk it cs) (.ListComp el [⟨tg, src, ifs, 0⟩] scope pos) = true →
    PE X (.ListComp el [⟨tg, src, ifs, 0⟩] scope pos) (tI w X.K E (ev T w g (n + 1) (.lc own elt t wk it cs))) := by
  intro g E X G own elt t wk it cs el tg src ifs sc pos h
  obtain ⟨h1, h2, h3, h4, h5, h6, h7⟩ := lc_parts h
  refine PE.of (pe_lc (own := own) G.calm G.nd (pi_walk S G h4) (blkOk_by (by rw [G.N]; exact h2)) (g := tG X.K t) (tt := tIt w X.K E0 (tests (ev T w g n) cs)) (te := tI w X.K E0 (ev T w g n elt)) (fun s H C cl fp => ?_) (fun s H C cl fp => ?_) (fun s H C cl fp => ?_) (fold_plain h4)) fun σ H Q hq => lc_read own elt t wk it cs h1 rfl hq
  · have G2 := G.blk s H sc C cl fp
    refine pg_ok G2.nd G2.calm (osc := sc) (fun x hx => ?_) t tg ?_
    · show ((sc.names.lookup x) == some .cell) = true
      rw [hx]
      rfl
    · show mtT X.N (relab X.env.scope sc) sc t tg = true
      rw [G.N]
      exact h3
  · exact pts_ok Tn (G.blk s H sc C cl fp) cs ifs h5 h6
  · exact S g E0 _ (G.blk s H sc C cl fp) elt el h7
end
end Ip

set_option Elab.async false
set_option linter.all false
set_option maxRecDepth 100000
set_option maxHeartbeats 4000000
namespace Ip
open PySem PySem.Spec PyProof.Rows L2
variable [Tb]
/-! ### statements: which tree -/
def isTupE : Expr → Bool
  | .Tuple _ _ _ => true
  | .List _ _ => true
  | _ => false
def isCompE : Expr → Bool
  | .ListComp _ _ _ _ => true
  | .SetComp _ _ _ _ => true
  | .DictComp _ _ _ _ _ => true
  | _ => false
/-- is the comprehension's value stored in its own frame -/
def swB (sc : Scope) (v : Expr) (t : Expr) : Bool := match v, t with
  | .ListComp _ _ s _, .Name t pos => (sc.kind == .function) && (sc.names.lookup t == some .local) && (pos.line == v.pos.line) && !(s.names.any fun (n, k) => n == t && (k == .local || k == .cell))
  | _, _ => false
section
variable (N fn cn : List Str)
def mtS : Nat → Scope → IS → Stmt → Bool
  | 0, _, _, _ => false
  | n + 1, sc, st, e => match e with
    | .Expr x _ => (match st with
      | .ex a => mt N fn cn n sc a x && !isCompE x
      | _ => false)
    | .Return (some x) _ => (match st with
      | .ret a => mt N fn cn n sc a x
      | _ => false)
    | .Return none _ => (match st with
      | .retN => true
      | _ => false)
    | .Assign [.Subscript o i _] v _ => (match st with
      | .put a b c => mt N fn cn n sc a o && mt N fn cn n sc b i && mt N fn cn n sc c v && !isCompE v
      | _ => false)
    | .Assign [t] v _ => (match st with
      | .asg it a => mtT N sc sc it t && mt N fn cn n sc a v && !(isTupE t && isTupE v)
      | _ => false)
    | .AugAssign (.Name x _) op v _ => (match st with
      | .aug i .add a => decide (op = .Add) && mtT N sc sc (.nm i) (.Name x ⟨0, 0, 0, 0⟩) && mt N fn cn n sc a v
      | .aug i .sub a => decide (op = .Sub) && mtT N sc sc (.nm i) (.Name x ⟨0, 0, 0, 0⟩) && mt N fn cn n sc a v
      | _ => false)
    | .If c a b _ => (match st with
      | .ifs d x y => mt N fn cn n sc d c && all2 (mtS n sc) x a && all2 (mtS n sc) y b
      | _ => false)
    | .For t src body [] _ => (match st with
      | .for_ it w l x => mtT N sc sc it t && mt.mtW N fn cn n sc w l src && all2 (mtS n sc) x body
      | _ => false)
    | .While c body [] _ => (match st with
      | .while_ d x => mt N fn cn n sc d c && all2 (mtS n sc) x body
      | _ => false)
    | .Pass _ => (match st with
      | .pass => true
      | _ => false)
    | .Break _ => (match st with
      | .brk => true
      | _ => false)
    | .Continue _ => (match st with
      | .cont => true
      | _ => false)
    | _ => false
end
/-- the ends of a statement -/
inductive FB where
  | nx (σ : L2.St) | rt (v : V) | bk (σ : L2.St) | ct (σ : L2.St)
def RF (K : PySem.W.Frag) (ρ : List Addr) (H : Hp) : FB → Fl → Prop
  | .nx σ, .nx sl => SlR K ρ H σ sl
  | .rt v, .rt d => Rp K ρ H v d
  | .bk σ, .bk sl => SlR K ρ H σ sl
  | .ct σ, .ct sl => SlR K ρ H σ sl
  | _, _ => False
def QF (D : Ends) : FB → Hp → Prop
  | .nx σ, H => D.nx σ H
  | .rt v, H => D.rt v H
  | .bk σ, H => D.bk σ H
  | .ct σ, H => D.ct σ H
section
variable {w : Wd} {T : Nat → Nat → List AV → Sto → Rs AV} {k n : Nat} {E : XK} {X : Cx} {K : PySem.W.Frag} {xc : List (Addr × List Str)}
def tS (w : Wd) (K : PySem.W.Frag) (E : XK) (ex : Slots → Sto → Rs Fl) : TS := fun D σ H => ∃ ρ sl s, StR K ρ H s ∧ SlR K ρ H σ sl ∧ Out K w.xc E ρ H (RF K) (ex sl s) (QF D)
abbrev exN (T : Nat → Nat → List AV → Sto → Rs AV) (w : Wd) (n : Nat) (st : IS) : Slots → Sto → Rs Fl := exI (fun g => T (4 * g)) w.C n st
theorem PS.of {e : Stmt} {t t' : TS} (h : PS X e t) (ht : ∀ D σ H, t' D σ H → t D σ H) : PS X e t' := ⟨fun pins s σ H D I q => h.run pins s σ H D I (ht D σ H q)⟩
theorem PSs.of {e : List Stmt} {t t' : TS} (h : PSs X e t) (ht : ∀ D σ H, t' D σ H → t D σ H) : PSs X e t' := ⟨fun pins s σ H D I q => h.run pins s σ H D I (ht D σ H q)⟩
/-- what a body's context has besides -/
structure Gs (w : Wd) (T : Nat → Nat → List AV → Sto → Rs AV) (k : Nat) (E : XK) (X : Cx) : Prop where
  G : Gd w T k 0 E X
  own : ∀ x, X.env.scope.names.lookup x = some .cell → X.fn x = true
  po : PassesOwn (model X.prog X.w) X.A X.env X.xe
theorem one_s {a : Slots → Sto → Rs AV} {f : Slots → AV → Sto → Rs Fl} {σ : L2.St} {H : Hp} {D : Ends} {r : V → Hp → Prop} (h : tS w X.K E (fun σ s => (a σ s).bd fun x s => f σ x s) D σ H)
    (hr : ∀ ρ s x v H sl, StR X.K ρ H s → SlR X.K ρ H σ sl → Rp X.K ρ H v x → Out X.K w.xc E ρ H (RF X.K) (f sl x s) (QF D) → r v H) : tI w X.K E a σ H r := by
  obtain ⟨ρ, sl, s, st, sr, o⟩ := h
  refine ⟨ρ, sl, s, st, sr, Out.bd o ?_⟩
  intro x s1 ρ1 H1 v _ g1 st1 r1 o1
  exact hr ρ1 s1 x v H1 sl st1 (sr.go g1) r1 o1
theorem QF.nx_now {ρ : List Addr} {H : Hp} {sl : Slots} {s : Sto} {D : Ends} {σ : L2.St} (o : Out K xc E ρ H (RF K) (.ok (.nx sl) s) (QF D)) (st : StR K ρ H s) (sr : SlR K ρ H σ sl) : D.nx σ H := Out.now (b := FB.nx σ) o st sr
theorem QF.rt_now {ρ : List Addr} {H : Hp} {d : AV} {s : Sto} {D : Ends} {v : V} (o : Out K xc E ρ H (RF K) (.ok (.rt d) s) (QF D)) (st : StR K ρ H s) (r : Rp K ρ H v d) : D.rt v H := Out.now (b := FB.rt v) o st r
/-- a list of statements -/
theorem pss_all {ex : IS → Slots → Sto → Rs Fl} {m : IS → Stmt → Bool} (ih : ∀ st e, m st e = true → PS X e (tS w X.K E (ex st))) : ∀ (sts : List IS) (es : List Stmt), all2 m sts es = true → PSs X es (tS w X.K E (exs ex sts))
  | [], [], _ => PSs.of pss_nil fun D σ H ⟨ρ, sl, s, st, sr, o⟩ => QF.nx_now o st sr
  | [st], [e], h => pss_one (ih st e (b2 h).1)
  | st :: st2 :: r, e :: e2 :: t, h => by
    obtain ⟨h1, h2⟩ := b2 h
    refine PSs.of (pss_cons (ih st e h1) (pss_all ih (st2 :: r) (e2 :: t) h2)) ?_
    rintro D σ H ⟨ρ, sl, s, s0, sr, o⟩
    refine ⟨ρ, sl, s, s0, sr, ?_⟩
    have e0 : exs ex (st :: st2 :: r) sl s = (ex st sl s).bd fun f s => match f with
      | .nx σ => exs ex (st2 :: r) σ s
      | f => .ok f s := rfl
    rw [e0] at o
    refine Out.bd o ?_
    intro f s1 ρ1 H1 b _ g1 st1 rb o1
    cases f with
    | nx sl1 =>
      cases b with
      | nx σ1 => exact ⟨ρ1, sl1, s1, st1, rb, o1⟩
      | _ => exact False.elim rb
    | rt d =>
      cases b with
      | rt v => exact QF.rt_now (D := D) (s := s1) o1 st1 rb
      | _ => exact False.elim rb
    | bk sl1 =>
      cases b with
      | bk σ1 => exact Out.now (Q := QF D) (b := FB.bk σ1) (a := Fl.bk sl1) (s := s1) o1 st1 rb
      | _ => exact False.elim rb
    | ct sl1 =>
      cases b with
      | ct σ1 => exact Out.now (Q := QF D) (b := FB.ct σ1) (a := Fl.ct sl1) (s := s1) o1 st1 rb
      | _ => exact False.elim rb
  | [], _ :: _, h => by cases h
  | _ :: _, [], h => by cases h
  | [_], _ :: _ :: _, h => by
    obtain ⟨_, q⟩ := b2 h
    cases q
  | _ :: _ :: _, [_], h => by
    obtain ⟨_, q⟩ := b2 h
    cases q
/-! ### loops -/
theorem for_read {ex : Slots → Sto → Rs Fl} {t : IT} {wk : IW} {src : Slots → Sto → Rs (List AV)} {σ : L2.St} {H : Hp} {D : Ends}
    (h : tS w X.K E (fun σ s => (src σ s).bd fun xs s => (opt (walk wk xs s) s).bd fun ys s => forLoop ex t wk xs ys ys σ s) D σ H) : tFor (tW w X.K E wk src) (tG X.K t) (tS w X.K E ex) D σ H := by
  obtain ⟨ρ, sl, s, st, sr, o⟩ := h
  refine ⟨ρ, sl, s, st, sr, ?_⟩
  have e0 : ((src sl s).bd fun xs s => (opt (walk wk xs s) s).bd fun ys s => forLoop ex t wk xs ys ys sl s) = (wkE wk src sl s).bd fun a s => forLoop ex t wk a.1 a.2 a.2 sl s := by
    unfold wkE
    rw [Rs.assoc]
    congr 1
    funext xs s1
    rw [Rs.assoc]
    rfl
  have o0 : Out X.K w.xc E ρ H (RF X.K) ((wkE wk src sl s).bd fun a s => forLoop ex t wk a.1 a.2 a.2 sl s) (QF D) := by
    rw [← e0]
    exact o
  refine Out.bd o0 ?_
  rintro ⟨xs, ys⟩ s1 ρ1 H1 J hwk g1 st1 hJ o1
  have hst1 : stands wk xs ys s1 = true := by
    unfold wkE at hwk
    cases q : src sl s with
    | bad => rw [q] at hwk; cases hwk
    | exc _ _ => rw [q] at hwk; cases hwk
    | ok xs0 s0 =>
      rw [q] at hwk
      have hwk2 : ((opt (walk wk xs0 s0) s0).bd fun ys s => Rs.ok (xs0, ys) s) = .ok (xs, ys) s1 := hwk
      cases q2 : walk wk xs0 s0 with
      | none => rw [q2] at hwk2; cases hwk2
      | some ys0 =>
        rw [q2] at hwk2
        cases hwk2
        exact stands_now q2
  refine ⟨fun i m σ' H' => m = ys.length - i ∧ i ≤ ys.length ∧ ∃ ρ' sl' s', Go ρ1 H1 ρ' H' ∧ StR X.K ρ' H' s' ∧ SlR X.K ρ' H' σ' sl' ∧ stands wk xs ys s' = true ∧ Out X.K w.xc E ρ' H' (RF X.K) (forLoop ex t wk xs ys (ys.drop i) sl' s') (QF D),
    ⟨ys.length, by omega, Nat.zero_le _, ρ1, sl, s1, Go.refl _ _, st1, sr.go g1, hst1, o1⟩, ?_⟩
  rintro i m σ' H' ⟨rfl, hi, ρ', sl', s', g', st', sr', hs', o'⟩
  obtain ⟨w1, w2⟩ := hJ i ρ' H' s' g' st' hs'
  by_cases hlt : i < ys.length
  · refine Or.inr ⟨(w1 ys[i] (List.getElem?_eq_getElem hlt)).1, _, fun σ2 H2 z => ⟨ys.length - (i + 1), by omega, z⟩, ?_⟩
    intro x H3 hy
    obtain ⟨e3, rx⟩ := (w1 ys[i] (List.getElem?_eq_getElem hlt)).2 x H3 hy
    subst e3
    rw [List.drop_eq_getElem_cons hlt] at o'
    simp only [forLoop] at o'
    cases ea : asT s' t ys[i] sl' with
    | none => simp only [ea] at o'; exact False.elim o'
    | some sl2 =>
      simp only [ea] at o'
      refine ⟨ρ', sl', s', ys[i], sl2, st', sr', rx, ea, ?_⟩
      intro σ2 sr2 _
      refine ⟨ρ', sl2, s', st', sr2, Out.bd o' ?_⟩
      intro f s2 ρ2 H2 b _ g2 st2 rb o2
      have go_on : ∀ σ3 sl3, SlR X.K ρ2 H2 σ3 sl3 → Out X.K w.xc E ρ2 H2 (RF X.K) (if stands wk xs ys s2 = true then forLoop ex t wk xs ys (ys.drop (i + 1)) sl3 s2 else .bad) (QF D) →
          (ys.length - (i + 1) = ys.length - (i + 1) ∧ i + 1 ≤ ys.length ∧ ∃ ρ' sl' s', Go ρ1 H1 ρ' H2 ∧ StR X.K ρ' H2 s' ∧ SlR X.K ρ' H2 σ3 sl' ∧ stands wk xs ys s' = true ∧ Out X.K w.xc E ρ' H2 (RF X.K) (forLoop ex t wk xs ys (ys.drop (i + 1)) sl' s') (QF D)) := by
        intro σ3 sl3 sr3 o3
        split at o3
        · rename_i hst
          exact ⟨rfl, hlt, ρ2, sl3, s2, g'.trans g2, st2, sr3, hst, o3⟩
        · exact False.elim o3
      cases f with
      | nx sl3 =>
        cases b with
        | nx σ3 => exact go_on σ3 sl3 rb o2
        | _ => exact False.elim rb
      | ct sl3 =>
        cases b with
        | ct σ3 => exact go_on σ3 sl3 rb o2
        | _ => exact False.elim rb
      | bk sl3 =>
        cases b with
        | bk σ3 => exact QF.nx_now (D := D) (s := s2) (sl := sl3) o2 st2 rb
        | _ => exact False.elim rb
      | rt d =>
        cases b with
        | rt v => exact QF.rt_now (D := D) (s := s2) o2 st2 rb
        | _ => exact False.elim rb
  · have e : i = ys.length := by omega
    subst e
    refine Or.inl ⟨w2 (Nat.le_refl _), ?_⟩
    rw [List.drop_length] at o'
    exact QF.nx_now (s := s') (sl := sl') o' st' sr'
theorem while_read {ex : Slots → Sto → Rs Fl} {test : Slots → Sto → Rs Bool} {m0 : Nat} {σ : L2.St} {H : Hp} {D : Ends} (h : tS w X.K E (whileLoop test ex m0) D σ H) : tWhile (tIt w X.K E test) (tS w X.K E ex) D σ H := by
  refine ⟨fun m σ H => tS w X.K E (whileLoop test ex m) D σ H, ⟨m0, h⟩, ?_⟩
  rintro m σ H ⟨ρ, sl, s, st, sr, o⟩
  cases m with
  | zero => exact False.elim o
  | succ m =>
    simp only [whileLoop] at o
    refine ⟨ρ, sl, s, st, sr, Out.bd o ?_⟩
    intro b s1 ρ1 H1 b' _ g1 st1 eb o1
    cases eb
    have sr1 := sr.go g1
    cases b with
    | false => exact QF.nx_now (s := s1) (sl := sl) o1 st1 sr1
    | true =>
      rw [if_pos rfl]
      refine ⟨fun σ' H' => tS w X.K E (whileLoop test ex m) D σ' H', fun σ' H' z => ⟨m, Nat.lt_succ_self m, z⟩, ?_⟩
      rw [if_pos rfl] at o1
      refine ⟨ρ1, sl, s1, st1, sr1, Out.bd o1 ?_⟩
      intro f s2 ρ2 H2 b _ g2 st2 rb o2
      cases f with
      | nx sl3 =>
        cases b with
        | nx σ3 => exact ⟨ρ2, sl3, s2, st2, rb, o2⟩
        | _ => exact False.elim rb
      | ct sl3 =>
        cases b with
        | ct σ3 => exact ⟨ρ2, sl3, s2, st2, rb, o2⟩
        | _ => exact False.elim rb
      | bk sl3 =>
        cases b with
        | bk σ3 => exact QF.nx_now (D := D) (s := s2) (sl := sl3) o2 st2 rb
        | _ => exact False.elim rb
      | rt d =>
        cases b with
        | rt v => exact QF.rt_now (D := D) (s := s2) o2 st2 rb
        | _ => exact False.elim rb
end
end Ip

set_option Elab.async false
set_option linter.all false
set_option maxRecDepth 100000
set_option maxHeartbeats 8000000
namespace Ip
open PySem PySem.Spec PyProof.Rows L2
variable [Tb]
section
variable {w : Wd} {T : Nat → Nat → List AV → Sto → Rs AV} {k n : Nat} {E : XK} {X : Cx}
theorem sw_none {v : Expr} {line : Nat} {env : Env} (h : isCompE v = false) : swapsWith v none line env = pure false := by
  cases v <;> first | rfl | cases h
theorem sw_sub {v o i : Expr} {p : Pos} {line : Nat} {env : Env} (h : isCompE v = false) : swapsWithSole [.Subscript o i p] v line env = pure false := by
  cases v <;> first | rfl | cases h
theorem sw_any {v t : Expr} {line : Nat} {env : Env} {N fn cn : List Str} {m : Nat} {sc osc : Scope} {ir : IE} {it : IT} (hv : mt N fn cn m sc ir v = true) (ht : mtT N sc osc it t = true) (hk : env.blockKind = env.scope.kind) : swapsWithSole [t] v line env = pure (swB env.scope v t) := by
  cases m with
  | zero => rw [mt] at hv; cases hv
  | succ m =>
    cases v <;> first
      | (unfold mt at hv; cases hv; done)
      | (cases it <;> cases t <;> first | rfl | (simp [mtT] at ht; done) | skip)
    rename_i el gens s p i x px
    show (pure ((env.blockKind == .function) && (env.kindOf x == some .local) && (px.line == (Expr.ListComp el gens s p).pos.line) && !(s.names.any fun (n, k) => n == x && (k == .local || k == .cell))) : Sem Bool) = _
    rw [hk]
    rfl
theorem mt_lc {N fn cn : List Str} {m : Nat} {sc s : Scope} {ir : IE} {el : Expr} {gens : List Comprehension} {p : Pos} (h : mt N fn cn (m + 1) sc ir (.ListComp el gens s p) = true) :
    ∃ own elt t wk it cs tg src ifs, ir = .lc own elt t wk it cs ∧ gens = [⟨tg, src, ifs, 0⟩] := by
  unfold mt at h
  split at h <;> first | (rename_i hh _; cases hh; done) | (rename_i hh; cases hh; done) | skip
  · rename_i el2 tg src ifs s2 p2 hh
    cases hh
    split at h
    · exact ⟨_, _, _, _, _, _, _, _, _, rfl, rfl⟩
    · cases h
  · cases h
/-- x += e, x -= e -/
def augF (op : BO) (i : Nat) (a : Slots → Sto → Rs AV) : Slots → Sto → Rs Fl := fun σ s => match σ[i]? with
  | some (some (.int b)) => (a σ s).bd fun y s => (match op, y with
    | .add, .int c => .ok (.nx (σ.set i (some (.int (b + c))))) s
    | .sub, .int c => .ok (.nx (σ.set i (some (.int (b - c))))) s
    | _, _ => .bad)
  | _ => .bad
theorem ss_none {v t : Expr} {env : Env} (h : (isTupE t && isTupE v) = false) : swappedStores [t] v env = pure none := by
  cases t <;> cases v <;> first | rfl | cases h
theorem mt_not_list {N fn cn : List Str} {m : Nat} {sc : Scope} {ir : IE} {v : Expr} (h : mt N fn cn m sc ir v = true) (h2 : isCompE v = true) : ∃ el gens s p, v = .ListComp el gens s p := by
  cases m with
  | zero => rw [mt] at h; cases h
  | succ m => cases v <;> first | (cases h2; done) | exact ⟨_, _, _, _, rfl⟩ | (unfold mt at h; cases h)

theorem ss_sub {v o i : Expr} {p : Pos} {env : Env} : swappedStores [.Subscript o i p] v env = pure none := by
  cases v <;> rfl
theorem asg_read {a : Slots → Sto → Rs AV} {t : IT} {σ : L2.St} {H : Hp} {D : Ends} (h : tS w X.K E (fun σ s => (a σ s).bd fun x s => (opt (asT s t x σ) s).bd fun σ s => .ok (.nx σ) s) D σ H) : tAsg (tI w X.K E a) (tG X.K t) D σ H := by
  refine one_s h ?_
  intro ρ s x v H sl st sr r o
  cases e : asT s t x sl with
  | none => rw [e] at o; exact o.elim
  | some sl2 =>
    rw [e] at o
    exact ⟨ρ, sl, s, x, sl2, st, sr, r, e, fun σ' sr' _ => QF.nx_now (sl := sl2) (s := s) o st sr'⟩
theorem aug_read {a : Slots → Sto → Rs AV} {i : Nat} {op : BO} {f : Int → Int → Int} {σ : L2.St} {H : Hp} {D : Ends} (hf : (op = .add ∧ f = fun i j => i + j) ∨ (op = .sub ∧ f = fun i j => i - j))
    (h : tS w X.K E (augF op i a) D σ H) : tAug i (tI w X.K E a) (ipI f) D σ H := by
  obtain ⟨ρ, sl, s, st, sr, o'⟩ := h
  unfold augF at o'
  split at o'
  · rename_i b e
    obtain ⟨v, h1, h2⟩ := sr.get i _ e
    cases h2
    refine ⟨_, h1, ρ, sl, s, st, sr, Out.bd o' ?_⟩
    intro y s1 ρ1 H1 v _ g1 st1 r1 o1
    rcases hf with ⟨rfl, rfl⟩ | ⟨rfl, rfl⟩
    · cases y with
      | int c =>
        cases r1
        exact ⟨b, c, rfl, rfl, QF.nx_now (sl := sl.set i (some (.int (b + c)))) (s := s1) o1 st1 ((sr.go g1).set (.int _) i)⟩
      | _ => exact False.elim o1
    · cases y with
      | int c =>
        cases r1
        exact ⟨b, c, rfl, rfl, QF.nx_now (sl := sl.set i (some (.int (b - c)))) (s := s1) o1 st1 ((sr.go g1).set (.int _) i)⟩
      | _ => exact False.elim o1
  · exact False.elim o'
theorem loc_of {N : List Str} {sc : Scope} {i : Nat} {x : Str} {p : Pos} (h : mtT N sc sc (.nm i) (.Name x p) = true) : N[i]? = some x ∧ Loc sc x := by
  have h2 : (decide (N[i]? = some x) && decide (sc.names.lookup x = sc.names.lookup x) && (decide (sc.names.lookup x = some .local) || decide (sc.names.lookup x = some .cell)) && !dunder x) = true := by simpa only [mtT] using h
  obtain ⟨h3, _⟩ := b2 h2
  obtain ⟨h3, h5⟩ := b2 h3
  obtain ⟨h4, _⟩ := b2 h3
  refine ⟨of_decide_eq_true h4, ?_⟩
  rcases Bool.or_eq_true_iff.mp h5 with q | q
  · exact Or.inl (of_decide_eq_true q)
  · exact Or.inr (of_decide_eq_true q)
theorem sw_shape {sc : Scope} {v t : Expr} (h : swB sc v t = true) : ∃ el gens s p x px, v = .ListComp el gens s p ∧ t = .Name x px ∧ sc.names.lookup x = some .local := by
  cases v <;> first | (cases h; done) | skip
  cases t <;> first | (cases h; done) | skip
  refine ⟨_, _, _, _, _, _, rfl, rfl, ?_⟩
  unfold swB at h
  obtain ⟨h, _⟩ := b2 h
  obtain ⟨h, _⟩ := b2 h
  obtain ⟨_, h⟩ := b2 h
  exact eq_of_beq h
theorem assign_sub {o i : Expr} {p : Pos} {env : Env} {N fn cn : List Str} {m : Nat} {sc : Scope} {ir : IE} (h : mt N fn cn m sc ir i = true) (v : Value) : assign (.Subscript o i p) env v = (do
      let ov ← holding [v] (eval o env)
      let iv ← holding [v, ov] (eval i env)
      standAt p
      holding [v, ov, iv] (setItem ov iv v)
      release [v, ov, iv] []) := by
  cases m with
  | zero => rw [mt] at h; cases h
  | succ m => cases i <;> first | rfl | (unfold mt at h; cases h)
def SnS (w : Wd) (T : Nat → Nat → List AV → Sto → Rs AV) (k n : Nat) : Prop := ∀ (E : XK) (X : Cx), Gs w T k E X → X.env.blockKind = X.env.scope.kind → ∀ (st : IS) (e : Stmt), mtS w.N w.fn w.cn n X.env.scope st e = true → PS X e (tS w X.K E (exN T w n st))

theorem put_case (S : SnE w T k n) (G : Gd w T k 0 E X) {o i v : Expr} {p pos : Pos} {a b c : IE} (h : (mt w.N w.fn w.cn n X.env.scope a o && mt w.N w.fn w.cn n X.env.scope b i && mt w.N w.fn w.cn n X.env.scope c v && !isCompE v) = true) :
    PS X (.Assign [.Subscript o i p] v pos) (tS w X.K E (exN T w (n + 1) (.put a b c))) := by
  obtain ⟨h, h4⟩ := b2 h
  obtain ⟨h, h3⟩ := b2 h
  obtain ⟨h1, h2⟩ := b2 h
  refine PS.of (ps_asg (S 0 E X G c v h3) (pg_sub (S 0 E X G a o h1) (S 0 E X G b i h2) set_list (assign_sub h2)) (sw_sub (by simpa using h4)) ss_sub (by rfl)) ?_
  rintro D σ H ⟨ρ, sl, s, st, sr, o1⟩
  refine ⟨ρ, sl, s, st, sr, Out.bd o1 ?_⟩
  intro x s1 ρ1 H1 u _ g1 st1 r1 o2
  refine ⟨ρ1, sl, s1, st1, sr.go g1, Out.bd o2 ?_⟩
  intro y s2 ρ2 H2 u2 _ g2 st2 r2 o3
  refine ⟨ρ2, sl, s2, st2, (sr.go g1).go g2, Out.bd o3 ?_⟩
  intro z s3 ρ3 H3 u3 _ g3 st3 r3 o4
  have ry := r2.go g3
  have rx := (r1.go g2).go g3
  have sr3 := ((sr.go g1).go g2).go g3
  split at o4
  · rename_i kk j _ _
    cases r3
    cases ry with
    | @ref pp _ q =>
      split at o4
      · rename_i ds hk
        split at o4
        · rename_i m hm
          obtain ⟨ys, p1, p2⟩ := st3.at q hk
          refine ⟨pp, ys, j, m, rfl, rfl, p1, by rw [p2.len]; exact hm, ?_⟩
          have gg := Go.put (ρ := ρ3) (o := .lst (ys.set m u)) q p1
          have o5 := Out.up o4 gg
          exact QF.nx_now o5 (st3.put q p1 (p2.set m rx)) (sr3.go gg)
        · exact False.elim o4
      · exact False.elim o4
  · exact False.elim o4

theorem asg_case (S : SnE w T k n) (Tn : TnE w T k n) (GS : Gs w T k E X) (hbk : X.env.blockKind = X.env.scope.kind) (hlc : ∀ m, n = m + 1 → SnE w T k m ∧ TnE w T k m) {t v : Expr} {pos : Pos} {it : IT} {a : IE}
    (h : (mtT w.N X.env.scope X.env.scope it t && mt w.N w.fn w.cn n X.env.scope a v && !(isTupE t && isTupE v)) = true) : PS X (.Assign [t] v pos) (tS w X.K E (exN T w (n + 1) (.asg it a))) := by
  have G := GS.G
  obtain ⟨h, h3⟩ := b2 h
  obtain ⟨h1, h2⟩ := b2 h
  have PGt := pg_ok G.nd G.calm (osc := X.env.scope) GS.own it t (by rw [G.N]; exact h1)
  have hsw := sw_any (line := pos.line) (env := X.env) h2 h1 hbk
  by_cases hb : swB X.env.scope v t = true
  · -- stored in the comprehension's frame
    obtain ⟨el, gens, sc, p0, y, py, rfl, rfl, hloc⟩ := sw_shape hb
    cases n with
    | zero => rw [mt] at h2; cases h2
    | succ m =>
      obtain ⟨S0, T0⟩ := hlc m rfl
      obtain ⟨own, elt, it', wk, its, cs, tg, src, ifs, rfl, rfl⟩ := mt_lc h2
      obtain ⟨q1, q2, q3, q4, q5, q6, q7⟩ := lc_parts h2
      rw [hb] at hsw
      cases it with
      | tp ts => simp [mtT] at h1
      | nm i =>
        obtain ⟨l1, l2⟩ := loc_of h1
        refine PS.of (ps_setLc (i := i) (own := own) G.calm G.nd (by rw [G.N]; exact l1) hloc hsw (pi_walk S0 G q4) (blkOk_by (by rw [G.N]; exact q2)) (g := tG X.K it') (tt := tIt w X.K E0 (tests (ev T w 0 m) cs)) (te := tI w X.K E0 (ev T w 0 m elt)) (fun s H C cl fp => ?_) (fun s H C cl fp => ?_) (fun s H C cl fp => ?_) (fold_plain q4)) ?_
        · have G2 := G.blk s H sc C cl fp
          refine pg_ok G2.nd G2.calm (osc := sc) (fun x hx => ?_) it' tg ?_
          · show ((sc.names.lookup x) == some .cell) = true
            rw [hx]
            rfl
          · show mtT X.N (relab X.env.scope sc) sc it' tg = true
            rw [G.N]
            exact q3
        · exact pts_ok T0 (G.blk s H sc C cl fp) cs ifs q5 q6
        · exact S0 0 E0 _ (G.blk s H sc C cl fp) elt el q7
        · intro D σ H hq
          refine lc_read own elt it' wk its cs q1 rfl ?_
          refine one_s hq ?_
          intro ρ s x v H sl st sr r o
          have ea : asT s (.nm i) x sl = if i < sl.length then some (sl.set i (some x)) else none := by simp only [asT]
          rw [ea] at o
          split at o
          · exact QF.nx_now (sl := sl.set i (some x)) (s := s) o st (sr.set r i)
          · exact False.elim o
  · have hb' : swB X.env.scope v t = false := by simpa using hb
    rw [hb'] at hsw
    refine PS.of (ps_asg (S 0 E X G a v h2) PGt hsw (ss_none (by rw [Bool.not_eq_true'] at h3; exact h3)) (by rw [asg_plain h1]; rfl)) ?_
    intro D σ H hq
    exact asg_read hq

theorem expr_case (S : SnE w T k n) (G : Gd w T k 0 E X) {x : Expr} {pos : Pos} {a : IE} (h : (mt w.N w.fn w.cn n X.env.scope a x && !isCompE x) = true) : PS X (.Expr x pos) (tS w X.K E (exN T w (n + 1) (.ex a))) := by
  obtain ⟨h1, h2⟩ := b2 h
  refine PS.of (ps_expr (S 0 E X G a x h1) (sw_none (by simpa using h2))) ?_
  intro D σ H hq
  exact one_s hq fun ρ s x v H sl st sr r o => QF.nx_now (sl := sl) (s := s) o st sr
theorem own_of (GS : Gs w T k E X) {i : Nat} {x : Str} (q : Loc X.env.scope x) : X.fn x = true ∨ X.env.scope.names.lookup x = some .local := by
  rcases q with q | q
  · exact Or.inr q
  · exact Or.inl (GS.own _ q)
theorem aug_case_add (S : SnE w T k n) (GS : Gs w T k E X) {x : Str} {px pos : Pos} {v : Expr} {op : Operator} {i : Nat} {a : IE}
    (h : (decide (op = .Add) && mtT w.N X.env.scope X.env.scope (.nm i) (.Name x ⟨0, 0, 0, 0⟩) && mt w.N w.fn w.cn n X.env.scope a v) = true) : PS X (.AugAssign (.Name x px) op v pos) (tS w X.K E (exN T w (n + 1) (.aug i .add a))) := by
  have G := GS.G
  obtain ⟨h, h3⟩ := b2 h
  obtain ⟨h1, h2⟩ := b2 h
  have e1 : op = .Add := of_decide_eq_true h1
  subst e1
  obtain ⟨l1, l2⟩ := loc_of h2
  exact PS.of (ps_aug G.nd (by rw [G.N]; exact l1) l2 (S 0 E X G a v h3) ip_add (own_of (i := i) GS l2)) fun D σ H hq => aug_read (Or.inl ⟨rfl, rfl⟩) hq
theorem aug_case_sub (S : SnE w T k n) (GS : Gs w T k E X) {x : Str} {px pos : Pos} {v : Expr} {op : Operator} {i : Nat} {a : IE}
    (h : (decide (op = .Sub) && mtT w.N X.env.scope X.env.scope (.nm i) (.Name x ⟨0, 0, 0, 0⟩) && mt w.N w.fn w.cn n X.env.scope a v) = true) : PS X (.AugAssign (.Name x px) op v pos) (tS w X.K E (exN T w (n + 1) (.aug i .sub a))) := by
  have G := GS.G
  obtain ⟨h, h3⟩ := b2 h
  obtain ⟨h1, h2⟩ := b2 h
  have e1 : op = .Sub := of_decide_eq_true h1
  subst e1
  obtain ⟨l1, l2⟩ := loc_of h2
  exact PS.of (ps_aug G.nd (by rw [G.N]; exact l1) l2 (S 0 E X G a v h3) ip_sub (own_of (i := i) GS l2)) fun D σ H hq => aug_read (Or.inr ⟨rfl, rfl⟩) hq
abbrev Body (w : Wd) (T : Nat → Nat → List AV → Sto → Rs AV) (n : Nat) (E : XK) (X : Cx) : Prop := ∀ sts es, all2 (mtS w.N w.fn w.cn n X.env.scope) sts es = true → PSs X es (tS w X.K E (exs (exN T w n) sts))
theorem if_case (Tn : TnE w T k n) (G : Gd w T k 0 E X) (body : Body w T n E X) {c : Expr} {a b : List Stmt} {pos : Pos} {d : IE} {x y : List IS}
    (h : (mt w.N w.fn w.cn n X.env.scope d c && all2 (mtS w.N w.fn w.cn n X.env.scope) x a && all2 (mtS w.N w.fn w.cn n X.env.scope) y b) = true) : PS X (.If c a b pos) (tS w X.K E (exN T w (n + 1) (.ifs d x y))) := by
  obtain ⟨h, h3⟩ := b2 h
  obtain ⟨h1, h2⟩ := b2 h
  refine PS.of (ps_if (Tn 0 E X G d c h1).1 (body x a h2) (body y b h3)) ?_
  rintro D σ H ⟨ρ, sl, s, st, sr, o⟩
  have o0 : Out X.K w.xc E ρ H (RF X.K) (((ev T w 0 n d sl s).bd fun x s => opt (truth s x) s).bd fun k s => if k then exs (exN T w n) x sl s else exs (exN T w n) y sl s) (QF D) := by
    rw [Rs.assoc]
    exact o
  refine ⟨ρ, sl, s, st, sr, Out.bd o0 ?_⟩
  intro b1 s1 ρ1 H1 b' _ g1 st1 eb o1
  cases eb
  cases b1 with
  | true => exact ⟨ρ1, sl, s1, st1, sr.go g1, o1⟩
  | false => exact ⟨ρ1, sl, s1, st1, sr.go g1, o1⟩
theorem for_case (S : SnE w T k n) (GS : Gs w T k E X) (body : Body w T n E X) {t src : Expr} {bd : List Stmt} {pos : Pos} {it : IT} {wk : IW} {l : List IE} {x : List IS}
    (h : (mtT w.N X.env.scope X.env.scope it t && mt.mtW w.N w.fn w.cn n X.env.scope wk l src && all2 (mtS w.N w.fn w.cn n X.env.scope) x bd) = true) : PS X (.For t src bd [] pos) (tS w X.K E (exN T w (n + 1) (.for_ it wk l x))) := by
  have G := GS.G
  obtain ⟨h, h3⟩ := b2 h
  obtain ⟨h1, h2⟩ := b2 h
  exact PS.of (ps_for GS.po G.calm (pi_walk S G h2) (pg_ok G.nd G.calm (osc := X.env.scope) GS.own it t (by rw [G.N]; exact h1)) (body x bd h3) (fold_plain h2)) fun D σ H hq => for_read hq
theorem ex_while {F : Nat → Nat → List AV → Sto → Rs AV} {C : List AV} {c : IE} {body : List IS} : exI F C (n + 1) (.while_ c body) = whileLoop (fun σ s => (evI F C 0 n c σ s).bd fun x s => opt (truth s x) s) (exs (exI F C n) body) MANY := by
  funext σ s
  simp only [exI]
theorem while_case (Tn : TnE w T k n) (GS : Gs w T k E X) (body : Body w T n E X) {c : Expr} {bd : List Stmt} {pos : Pos} {d : IE} {x : List IS}
    (h : (mt w.N w.fn w.cn n X.env.scope d c && all2 (mtS w.N w.fn w.cn n X.env.scope) x bd) = true) : PS X (.While c bd [] pos) (tS w X.K E (exN T w (n + 1) (.while_ d x))) := by
  have G := GS.G
  obtain ⟨h1, h2⟩ := b2 h
  unfold exN
  rw [ex_while]
  generalize MANY = m0
  exact PS.of (ps_while GS.po (Tn 0 E X G d c h1).1 (body x bd h2)) fun D σ H hq => while_read hq
theorem retN_case : PS X (.Return none pos) (tS w X.K E (exN T w (n + 1) .retN)) := by
  refine PS.of ps_retN ?_
  rintro D σ H ⟨ρ, sl, s, st, sr, o⟩
  exact QF.rt_now (D := D) (d := .non) (s := s) o st .non
theorem ret_case (S : SnE w T k n) (G : Gd w T k 0 E X) {x : Expr} {pos : Pos} {a : IE} (h : mt w.N w.fn w.cn n X.env.scope a x = true) : PS X (.Return (some x) pos) (tS w X.K E (exN T w (n + 1) (.ret a))) := by
  refine PS.of (ps_ret (S 0 E X G a x h)) ?_
  intro D σ H hq
  exact one_s hq fun ρ s x v H sl st sr r o => QF.rt_now (D := D) (s := s) o st r
theorem pass_case {pos : Pos} : PS X (.Pass pos) (tS w X.K E (exN T w (n + 1) .pass)) := PS.of ps_pass fun D σ H ⟨ρ, sl, s, st, sr, o⟩ => QF.nx_now (sl := sl) (s := s) o st sr
theorem brk_case {pos : Pos} : PS X (.Break pos) (tS w X.K E (exN T w (n + 1) .brk)) := PS.of ps_break fun D σ H ⟨ρ, sl, s, st, sr, o⟩ => Out.now (Q := QF D) (b := FB.bk σ) (a := Fl.bk sl) (s := s) o st sr
theorem cont_case {pos : Pos} : PS X (.Continue pos) (tS w X.K E (exN T w (n + 1) .cont)) := PS.of ps_continue fun D σ H ⟨ρ, sl, s, st, sr, o⟩ => Out.now (Q := QF D) (b := FB.ct σ) (a := Fl.ct sl) (s := s) o st sr
theorem ss_step (S : SnE w T k n) (Tn : TnE w T k n) (SS : SnS w T k n) (hlc : ∀ m, n = m + 1 → SnE w T k m ∧ TnE w T k m) : SnS w T k (n + 1) := by
  intro E X GS hbk st e h
  have G := GS.G
  have body : Body w T n E X := fun sts es q => pss_all (fun st e q => SS E X GS hbk st e q) sts es q
  unfold mtS at h
  split at h
  · split at h
    · exact expr_case S G h
    · cases h
  · split at h
    · exact ret_case S G h
    · cases h
  · split at h
    · exact retN_case
    · cases h
  · split at h
    · exact put_case S G h
    · cases h
  · split at h
    · exact asg_case S Tn GS hbk hlc h
    · cases h
  · split at h
    · exact aug_case_add S GS h
    · exact aug_case_sub S GS h
    · cases h
  · split at h
    · exact if_case Tn G body h
    · cases h
  · split at h
    · exact for_case S GS body h
    · cases h
  · split at h
    · exact while_case Tn GS body h
    · cases h
  · split at h
    · exact pass_case
    · cases h
  · split at h
    · exact brk_case
    · cases h
  · split at h
    · exact cont_case
    · cases h
  · cases h
end
end Ip

set_option Elab.async false
set_option linter.all false
set_option maxRecDepth 100000
set_option maxHeartbeats 4000000
namespace Ip
open PySem PySem.Spec PyProof.Rows L2
variable [Tb]
/-! ### a generator expression's frame -/
theorem over_comp {A : Around} {elt tg iter : Expr} {ifs : List Expr} {scope : Scope} {pos : Pos} {it acc : Value} {env : Env} :
    A.over (.compLoop (.GeneratorExp elt [⟨tg, iter, ifs, 0⟩] scope pos) 0 it acc env) [] = ⟨A.handled, A.depth + 1, pushEnvs [env] A.frames, A.guards, A.units + 3⟩ := by
  first
    | rfl
    | simp [Around.over, marksOver, frameCount, unitsOf, envsOf, guardsOf, pushEnvs, pushGuards, Code.envs, Code.env?, Code.isFrame, Code.guards, Code.isGuard, Code.weight, Code.frames, Code.isCreation, Code.isCaller, Code.cUnits]
def gcx (X : Cx) (A : Around) (st : List Env) (cenv : Env) (s2 : Shared) (H2 : Hp) (fp : List Addr) : Cx :=
  { X with A := A, s_0 := s2, H_0 := H2, env := cenv, outer := X.stack, stack := st, ex := fp, fn := fun _ => false, calm := true, pn := [], xe := fun _ _ => False }
abbrev gEnv (X : Cx) (scope : Scope) (C : Addr) (code : Value) : Env := genEnv scope (cloFrom X.env.cells scope.names []) C code builtinsNs X.env
structure GenD (X : Cx) (scope : Scope) (z : Str) : Prop where
  kind : scope.kind = .function
  co : scope.isCoroutine = false
  cell : ∀ y ∈ scope.names, y.2 ≠ .cell
  free : ∀ y ∈ scope.names, y.2 = .free → X.env.kindOf y.1 = some .cell ∨ X.env.kindOf y.1 = some .free
  loc : ∀ y ∈ scope.names, y.2 = .local → y.1 = z ∨ y.1 = (".0" : Str)
  dot : scope.names.lookup (".0" : Str) = some NameKind.local
  own : scope.names.lookup z = some .local
  nd : (".0" : Str) ∉ X.N
  db : dunder z = false
theorem genD_of {X : Cx} {scope : Scope} {z : Str} (h : genC X.N X.env.scope scope z = true) : GenD X scope z := by
  unfold genC at h
  obtain ⟨h, h7⟩ := b2 h
  obtain ⟨h, h6⟩ := b2 h
  obtain ⟨h, h5⟩ := b2 h
  obtain ⟨h, h4⟩ := b2 h
  obtain ⟨h, h3⟩ := b2 h
  obtain ⟨h1, h2⟩ := b2 h
  have all := List.all_eq_true.mp h3
  refine ⟨of_decide_eq_true h1, by simpa using h2, fun y hy z => ?_, fun y hy z => ?_, fun y hy z => ?_, of_decide_eq_true h4, of_decide_eq_true h5, of_decide_eq_true h7, by simpa using h6⟩
  · have q := all y hy
    rw [z] at q
    cases q
  · have q := all y hy
    rw [z] at q
    rcases Bool.or_eq_true_iff.mp q with q | q
    · exact Or.inl (of_decide_eq_true q)
    · exact Or.inr (of_decide_eq_true q)
  · have q := all y hy
    rw [z] at q
    rcases Bool.or_eq_true_iff.mp q with q | q
    · exact Or.inl (of_decide_eq_true q)
    · exact Or.inr (of_decide_eq_true q)
section
variable {X : Cx} {pins : List (Addr × Obj)} {σ : L2.St} {H2 : Hp} {s2 : Shared} {scope : Scope} {z : Str} {fp : List Addr} {C : Addr} {code : Value} {A : Around}
theorem GenD.caps (D : GenD X scope z) (I : Inv X pins σ H2 s2) : ∀ y ∈ scope.names, y.2 = .free → ∃ c, X.env.cells.lookup y.1 = some c := fun y hy e => I.ok.has _ (D.free y hy e)
theorem gcx_ok (D : GenD X scope z) (I : Inv X pins σ H2 s2) (hf : ∀ b ∈ fp, FpOk X pins H2 b ∧ b < s2.heap.objs.size) (hC : s2.heap.objs.size ≤ C) (ha : A.handled = none) (hfr : A.frames = some (gEnv X scope C code :: X.stack)) :
    (gcx X A (gEnv X scope C code :: X.stack) (gEnv X scope C code) s2 H2 fp).Ok where
  mod := I.ok.mod
  kind := D.kind
  glob := I.ok.glob
  blt := rfl
  above := hC
  inj := fun x y c h1 h2 => I.ok.inj x y c (NdefX.clo_cm (D.caps I) h1) (NdefX.clo_cm (D.caps I) h2)
  has := fun x h => by
    have h2 : scope.names.lookup x = some .cell ∨ scope.names.lookup x = some .free := h
    rcases h2 with h2 | h2
    · exact absurd rfl (D.cell _ (PySem.mem_of_lookup h2))
    · have hm := PySem.mem_of_lookup h2
      obtain ⟨c, hc⟩ := D.caps I _ hm rfl
      exact ⟨c, NdefX.clo_has (D.caps I) hm hc⟩
  cab := fun x c h => by cases h
  hd := fun _ => ha
  frames := hfr
  stk := Or.inr ⟨rfl, rfl⟩
  exf := fun b hb => ⟨Nat.ne_of_lt (Nat.lt_of_lt_of_le (hf b hb).2 hC), fun x c h => (hf b hb).1.2.2.2.2.1 x c (NdefX.clo_cm (D.caps I) h)⟩
  bs := I.bs
  bsz := Nat.le_trans I.ok.bsz I.sz
  noex := fun b o e hb => by
    rcases (hf b hb).1.2.2.2.1 with q | q
    · exact I.ok.noex b o e q
    · exact absurd (Nat.lt_of_lt_of_le (Heap.lt_size e) (Nat.le_trans I.ok.bsz q)) (Nat.lt_irrefl _)
  exfs := fun b hb hm => by
    have h := (hf b hb).1
    rcases List.mem_cons.mp (I.stkSub b hm) with q | q
    · exact h.2.1 q
    · exact h.2.2.1 q
  funs := I.stack
  frf := I.stkFree
/-- back in the frame around -/
theorem gcx_back {st : List Env} {P : List (Addr × Obj)} {σ' : L2.St} {H : Hp} {s : Shared} {cenv : Env} (I : Inv X pins σ H2 s2) (hf : ∀ b ∈ fp, FpOk X pins H2 b ∧ b < s2.heap.objs.size) (J : Inv (gcx X A st cenv s2 H2 fp) P σ' H s) : Inv X pins σ H s :=
  I.call' J.os J.base J.hok J.bare fun b hb => ⟨(hf b hb).1.2.2.2.1, (hf b hb).1.2.1, (hf b hb).1.2.2.2.2.1, (hf b hb).1.2.2.2.2.2⟩
/-- the frame's beginning -/
theorem gcx_start {it : Value} {h3 h5 : Heap} {g' : Array GenState} {d' : Drawn} {t' : Nat} {H3 : Hp} {a : Addr} {go : Obj} {i : Nat} (D : GenD X scope z) (I : Inv X pins σ H2 s2) (hf : ∀ b ∈ fp, FpOk X pins H2 b ∧ b < s2.heap.objs.size) (hC : s2.heap.objs.size ≤ C) (ha : A.handled = none)
    (hfr : A.frames = some (gEnv X scope C code :: X.stack)) (hN : X.N[i]? = some z) (nd : X.N.Nodup)
    (J : Inv X pins σ H3 { s2 with heap := h3, gens := g', drawn := d', toks := t' }) (u : Un (frs X.stack) fp H2 H3 s2.heap h3) (hk : ∀ b o, h3.get? b = some o → h5.get? b = some o) (hCs : C = h3.objs.size)
    (hns : h5.Ns C (fun y => if y = (".0" : Str) then some it else none)) (hga : h5.get? a = some go) (haC : C < a) (hgo : ∀ v, go.data ≠ .cell v) :
    Inv (gcx X A (gEnv X scope C code :: X.stack) (gEnv X scope C code) s2 H2 fp) [(a, go)] (σ.set i none) H3 { s2 with heap := h5, gens := g', drawn := d', toks := t' } := by
  have hCf : H3 C = none := J.hok.fresh (Nat.le_of_eq hCs.symm)
  have hsa : h3.objs.size ≤ a := Nat.le_of_lt (by rw [← hCs]; exact haC)
  have haf : H3 a = none := J.hok.fresh hsa
  refine ⟨gcx_ok D I hf hC ha hfr, rfl, J.bare, u.trans (Un.kept hk), ⟨_, hns, fun j y v h1 h2 h3v => ?_⟩, fun x c h => ?_, hCf, fun x c h => J.freeC x c (NdefX.clo_cm (D.caps I) h), fun p hp => ?_, J.hok.kept hk, ?_⟩
  · have hne : j ≠ i := fun e => by
      subst e
      have h2' : (σ.set j none)[j]? = some (some v) := h2
      by_cases hj : j < σ.length
      · rw [List.getElem?_set_self hj] at h2'
        cases h2'
      · rw [List.getElem?_eq_none (by simpa using hj)] at h2'
        cases h2'
    have h2' : (σ.set i none)[j]? = some (some v) := h2
    rw [List.getElem?_set_ne (fun e => hne e.symm)] at h2'
    have hv : scope.names.lookup y = some .local ∨ scope.names.lookup y = some .cell ∨ scope.names.lookup y = some .free := h3v
    rcases hv with q | q | q
    · rcases D.loc _ (PySem.mem_of_lookup q) rfl with e | e
      · exfalso
        have e' : y = z := e
        subst e'
        have h1' : X.N[j]? = some y := h1
        have l1 := (List.getElem?_eq_some_iff.mp hN).1
        have l2 := (List.getElem?_eq_some_iff.mp h1').1
        have e3 : X.N[i] = X.N[j] := by rw [(List.getElem?_eq_some_iff.mp hN).2, (List.getElem?_eq_some_iff.mp h1').2]
        exact hne ((List.getElem_inj nd).mp e3).symm
      · exact absurd (by have e' : y = (".0" : Str) := e; rw [← e']; exact List.mem_of_getElem? h1) D.nd
    · exact absurd rfl (D.cell _ (PySem.mem_of_lookup q))
    · have hm := PySem.mem_of_lookup q
      obtain ⟨m, _, hl⟩ := J.loc
      have kf := D.free _ hm rfl
      have vis : Vis X.env.scope y := by
        rcases kf with k | k
        · exact Or.inr (Or.inl k)
        · exact Or.inr (Or.inr k)
      obtain ⟨uu, r, lk⟩ := hl j y v h1 h2' vis
      refine ⟨uu, r, Or.inr ⟨Or.inr q, ?_⟩⟩
      rcases lk with ⟨k, _⟩ | ⟨_, c, hc, o, ho, hd⟩
      · have k' : X.env.kindOf y = some .local := k
        rcases kf with k2 | k2
        · rw [k'] at k2; cases k2
        · rw [k'] at k2; cases k2
      · exact ⟨c, NdefX.clo_has (D.caps I) hm hc, o, hk _ _ ho, hd⟩
  · obtain ⟨v, o, ho, hd⟩ := J.cell x c (NdefX.clo_cm (D.caps I) h)
    exact ⟨v, o, hk _ _ ho, hd⟩
  · have hp' : p = (a, go) := by simpa [gcx] using hp
    subst hp'
    refine ⟨hga, haf, Nat.ne_of_gt haC, fun hm => ?_, hgo⟩
    have hm' : a ∈ frs X.stack := hm
    rcases List.mem_cons.mp (J.stkSub a hm') with q | q
    · have l1 : X.env.locals < h3.objs.size := J.lt
      rw [← q] at l1
      exact absurd (Nat.lt_of_lt_of_le l1 hsa) (Nat.lt_irrefl _)
    · exact J.nofs (a := a) hsa q
  · show (σ.set i none).length = X.N.length
    rw [List.length_set]
    exact J.len
end
end Ip

set_option Elab.async false
set_option linter.all false
set_option maxRecDepth 100000
set_option maxHeartbeats 4000000
namespace Ip
open PySem PySem.Spec PyProof.Rows L2
variable [Tb]
/-! ### a generator expression's turns -/
section
variable (K : PySem.W.Frag) (xc : List (Addr × List Str)) (E : XK) (X' : Cx) (P : List (Addr × Obj)) (ev : IE → Slots → Sto → Rs AV) (all : Bool) (own : Nat) (elt : IE) (xs ys : List AV) (sl0 : Slots) (Jt : It) (fp : List Addr) (tn : Nat → Heap → Prop) (gi : Nat) (Q : V → Hp → Prop)
/-- ahead of the i-th turn -/
def GJ (i : Nat) (s : Shared) : Prop := ∃ ρ H sto σ' sl, Inv X' P σ' H s ∧ StR K ρ H sto ∧ SlR K ρ H σ' sl ∧ (∀ d, sl.set own (some d) = sl0.set own (some d)) ∧ sl.length = sl0.length ∧ stands .seq xs ys sto = true ∧ WalkOk K ρ H .seq xs ys Jt ∧ tn i s.heap ∧
  (∀ b ∈ fp, H b = none) ∧ Out K xc E ρ H (Rp K) (qLoop ev all own elt xs ys sl0 (ys.drop i) sto) Q
/-- it ends, or the asker does -/
def GE (b : Bool) (s : Shared) : Prop := ∃ σ' H, Inv X' P σ' H s ∧ Q (.bl b) H
def GYq : Protocol := fun m s₀ v s kap => gi < s.gens.size ∧ ∃ b : Bool, v = .bool b ∧ (b = all → GJ K xc E X' P ev all own elt xs ys sl0 Jt fp tn Q (ys.length - m) s ∧ ∀ s'', gi < s''.gens.size → GJ K xc E X' P ev all own elt xs ys sl0 Jt fp tn Q (ys.length - m) s'' → kap (.send .none) s'') ∧ (b ≠ all → GE X' P Q b s)
def GRq : Nat → Shared → Shared → Prop := fun _ _ s => gi < s.gens.size ∧ GE X' P Q all s
end
section
variable {K : PySem.W.Frag} {xc : List (Addr × List Str)} {E : XK} {X' : Cx} {P : List (Addr × Obj)} {ev : IE → Slots → Sto → Rs AV} {all : Bool} {own : Nat} {elt : IE} {xs ys : List AV} {sl0 : Slots} {Jt : It} {fp : List Addr} {tn : Nat → Heap → Prop} {gi : Nat} {Q : V → Hp → Prop}
/-- nothing but the table of generators and the tokens changes -/
theorem GJ.gens {i : Nat} {s : Shared} {g : Array GenState} {t : Nat} (h : GJ K xc E X' P ev all own elt xs ys sl0 Jt fp tn Q i s) (hg : AllBare g) : GJ K xc E X' P ev all own elt xs ys sl0 Jt fp tn Q i { s with gens := g, toks := t } := by
  obtain ⟨ρ, H, sto, σ', sl, I, r⟩ := h
  refine ⟨ρ, H, sto, σ', sl, ?_, r⟩
  exact ⟨I.ok, I.os, hg, I.base, I.loc, I.cell, I.free, I.freeC, I.pin, I.hok, I.len⟩
theorem GE.gens {b : Bool} {s : Shared} {g : Array GenState} {t : Nat} (h : GE X' P Q b s) (hg : AllBare g) : GE X' P Q b { s with gens := g, toks := t } := by
  obtain ⟨σ', H, I, q⟩ := h
  exact ⟨σ', H, ⟨I.ok, I.os, hg, I.base, I.loc, I.cell, I.free, I.freeC, I.pin, I.hok, I.len⟩, q⟩
theorem wpAny_gs {α : Type} {M : Model} {A : Around} {s : Shared} {t : Sem α} {Q : α → Shared → Prop} {E : Value → Shared → Prop} {n : Nat} (hn : n < s.gens.size)
    (h : wpAny M A t (fun a s' => n < s'.gens.size → Q a s') (fun e s' => E e s') s) : wpAny M A t Q E s :=
  GenW.wpAny_gsz (n := n + 1) hn (wpAny_mono h (fun a s' q => q) fun e s' q _ => q)

theorem gen_loop {el src : Expr} {z : Str} {px : Pos} {scope : Scope} {pos : Pos} {it : Addr} {A : Around} (hT : Turn X'.prog X'.w K (.Name z px) Jt fp it tn) (hK : X'.K = K) (hcalm : X'.calm = true)
    (hA : X'.A = A.over (.compLoop (.GeneratorExp el [⟨.Name z px, src, [], 0⟩] scope pos) 0 (.ref it) .none X'.env) []) (hco : X'.env.scope.isCoroutine = false) (hxe : ∀ e s, ¬ X'.xe e s)
    (hfp : ∀ (H : Hp), (∀ b ∈ fp, H b = none) → ∀ b ∈ fp, FpOk X' P H b) (N : List Str) (w : Wd) (hw : w.xc = xc)
    (PEl : PE X' el (tI w K E0 (ev elt))) (PGt : PG X' (.Name z px) (tG K (.nm own))) :
    ∀ k i s₀ s, ys.length - i = k → i ≤ ys.length → gi < s.gens.size → GJ K xc E X' P ev all own elt xs ys sl0 Jt fp tn Q i s →
      Seg (model X'.prog X'.w) A (fun n s₀ r s₁ => r = .ok .next ∧ GRq X' P all gi Q n s₀ s₁) (GYq K xc E X' P ev all own elt xs ys sl0 Jt fp tn gi Q) (ys.length - i) s₀
        (.compLoop (.GeneratorExp el [⟨.Name z px, src, [], 0⟩] scope pos) 0 (.ref it) .none X'.env)
        ((model X'.prog X'.w).den (.compLoop (.GeneratorExp el [⟨.Name z px, src, [], 0⟩] scope pos) 0 (.ref it) .none X'.env)) [] s := by
  intro k
  induction k with
  | zero =>
    intro i s₀ s hk hi hgi hj
    obtain ⟨ρ, H, sto, σ', sl, I, st, sr, hsl, hll, hst, hwk, htn, hfn, o⟩ := hj
    have hin : i = ys.length := by omega
    have hstop : Jt.stop i H := (hwk i ρ H sto (Go.refl _ _) st hst).2 (by omega)
    have hd : ys.drop i = [] := by rw [hin]; simp
    rw [hd] at o
    show Seg _ A _ _ _ s₀ _ ((compTurn (.GeneratorExp el [⟨.Name z px, src, [], 0⟩] scope pos) 0 (.ref it) .none X'.env).onRaise (leaving X'.env)) [] s
    rw [compTurn_gen, Sem.onRaise_eq_wrap]
    refine seg_bind_wrap (wpAny_standAt ?_)
    refine seg_bind_wrap ?_
    rw [← hA]
    refine wpAny_gs hgi (wpAny_mono (hT.done X' rfl rfl hK hcalm i P s σ' H _ I (hfp H hfn) htn hstop) (fun r s1 h1 g1 => ?_) fun _ _ e => e)
    obtain ⟨rfl, I1⟩ := h1
    exact seg_end (.ok .next) ⟨rfl, g1, σ', H, I1, Out.now o st (.bl _)⟩
  | succ k ih =>
    intro i s₀ s hk hi hgi hj
    obtain ⟨ρ, H, sto, σ', sl, I, st, sr, hsl, hll, hst, hwk, htn, hfn, o⟩ := hj
    have hlt : i < ys.length := by omega
    obtain ⟨hgo, hyl⟩ := (hwk i ρ H sto (Go.refl _ _) st hst).1 ys[i] (List.getElem?_eq_getElem hlt)
    rw [List.drop_eq_getElem_cons hlt] at o
    simp only [qLoop] at o
    show Seg _ A _ _ _ s₀ _ ((compTurn (.GeneratorExp el [⟨.Name z px, src, [], 0⟩] scope pos) 0 (.ref it) .none X'.env).onRaise (leaving X'.env)) [] s
    rw [compTurn_gen, Sem.onRaise_eq_wrap]
    refine seg_bind_wrap (wpAny_standAt ?_)
    refine seg_bind_wrap ?_
    rw [← hA]
    refine wpAny_gs hgi (wpAny_mono (hT.item X' rfl rfl hK hcalm i P s σ' H _ I (hfp H hfn) htn hgo) (fun r s1 h1 g1 => ?_) fun _ _ e => e)
    obtain ⟨u, rfl, h1⟩ := h1
    refine seg_bind_wrap ?_
    rw [← hA]
    refine wpAny_gs g1 (wpAny_mono h1 (fun _ s2 h2 g2 => ?_) fun _ _ e => e)
    obtain ⟨x, H2, I2, r2, y2, tn2, fn2⟩ := h2
    obtain ⟨e2, rx⟩ := hyl x H2 y2
    subst e2
    have I2' := I2.pinned (hfp _ fn2) (hT.obj _ _ tn2)
    cases ea : asT sto (.nm own) ys[i] sl0 with
    | none =>
      simp only [ea] at o
      exact o.elim
    | some sl2 =>
    simp only [ea] at o
    have ea1 : (if own < sl0.length then some (sl0.set own (some ys[i])) else none) = some sl2 := by simpa only [asT] using ea
    have ea2 : asT sto (.nm own) ys[i] sl = some sl2 := by
      simp only [asT]
      rw [hll, hsl]
      exact ea1
    have esl2 : sl2 = sl0.set own (some ys[i]) := by
      split at ea1
      · exact (Option.some.inj ea1).symm
      · cases ea1
    refine seg_bind_wrap ?_
    rw [← hA]
    refine wpAny_gs g2 (wpAny_mono (PGt.run _ s2 σ' H2 x u (fun σ'' H'' => H'' = H2 ∧ SlR K ρ H2 σ'' sl2) I2' r2 ⟨ρ, sl, sto, ys[i], sl2, st, sr, rx, ea2, fun σ'' sr2 _ => ⟨rfl, sr2⟩⟩) (fun _ s3 h3 g3 => ?_) fun e s e3 => absurd e3 (hxe e s))
    obtain ⟨σ3, H4, I3, rfl, sr3⟩ := h3
    simp only [List.forIn_nil]
    refine seg_bind_wrap (wpAny_pure ?_)
    simp only [if_true]
    have hy : ∀ v, yieldOut X'.env v = yieldValue v := fun v => by simp only [yieldOut, hco, Bool.false_eq_true, if_false]
    simp only [hy]
    rw [Sem.bind_eq_wrap', Sem.bind_eq_wrap', Sem.wrap_wrap, Sem.wrap_wrap]
    refine seg_wrap ?_
    rw [← hA]
    have I3' := I3
    refine wpAny_gs g3 (wpAny_mono (PEl.run _ s3 σ3 H4 (fun v H5 => ∃ ρ5 sto5 y, v = .bl y ∧ Go ρ H4 ρ5 H5 ∧ StR K ρ5 H5 sto5 ∧ (if y == all then Out K xc E ρ5 H5 (Rp K) (if stands .seq xs ys sto5 then qLoop ev all own elt xs ys sl0 (ys.drop (i + 1)) sto5 else .bad) Q else Out K xc E ρ5 H5 (Rp K) (.ok (.bl y) sto5) Q)) I3 ?_) (fun v s4 h4 g4 => ?_) fun e s e3 => absurd e3 (hxe e s))
    · refine ⟨ρ, sl2, sto, st, sr3, ?_⟩
      rw [hw]
      refine Out.bdX o ?_
      intro a s5 ρ5 H5 b _ g5 st5 r5 o5
      cases a with
      | bl y =>
        cases r5
        refine ⟨ρ5, s5, y, rfl, g5, st5, ?_⟩
        have o6 : Out K xc E ρ H4 (Rp K) (if (y == all) = true then (if stands .seq xs ys s5 = true then qLoop ev all own elt xs ys sl0 (ys.drop (i + 1)) s5 else .bad) else .ok (.bl y) s5) Q := o5
        by_cases hy2 : (y == all) = true
        · rw [if_pos hy2] at o6 ⊢
          exact Out.up o6 g5
        · rw [if_neg hy2] at o6 ⊢
          exact Out.up o6 g5
      | _ => exact o5.elim
    obtain ⟨x5, H5, I5, r5, ρ5, sto5, y, rfl, g5, st5, o5⟩ := h4
    cases r5
    have hm : ys.length - i = (ys.length - (i + 1)) + 1 := by omega
    rw [hm]
    have hidx : ys.length - (ys.length - (i + 1)) = i + 1 := by omega
    have I6 := I5.unpinned
    refine seg_at (seg_yield rfl rfl rfl ⟨g4, y, rfl, fun hyA => ?_, fun hyA => ?_⟩)
    · rw [hidx]
      have hy2 : (y == all) = true := by rw [hyA]; simp
      rw [if_pos hy2] at o5
      split at o5
      · rename_i hst5
        refine ⟨⟨ρ5, H5, sto5, σ3, sl2, I6, st5, sr3.go g5, fun d => by rw [esl2, List.set_set], by rw [esl2, List.length_set], hst5, hwk.up g5, hT.keep _ _ _ tn2 fun b hb ob e => ?_, fun b hb => ?_, o5⟩, fun s'' g'' hj'' => ?_⟩
        · exact (I5.pin (b, ob) (List.mem_append_right _ (List.mem_append_right _ (mem_pinsAt hb e)))).1
        · obtain ⟨ob, e, d⟩ := hT.obj _ _ tn2 b hb
          exact (I5.pin (b, ob) (List.mem_append_right _ (List.mem_append_right _ (mem_pinsAt hb e)))).2.1
        · exact seg_again rfl (ih (i + 1) s'' s'' (by omega) (by omega) g'' hj'')
      · exact o5.elim
    · have hy2 : ¬ (y == all) = true := by simpa using hyA
      rw [if_neg hy2] at o5
      exact ⟨σ3, H5, I6, Out.now o5 st5 (.bl _)⟩
end
end Ip

set_option Elab.async false
set_option linter.all false
set_option maxRecDepth 100000
set_option maxHeartbeats 4000000
namespace Ip
open PySem PySem.Spec PyProof.Rows L2
variable [Tb]
/-! ### all, any of a generator expression -/
section
variable {K : PySem.W.Frag} {xc : List (Addr × List Str)} {E : XK} {X' : Cx} {P : List (Addr × Obj)} {ev : IE → Slots → Sto → Rs AV} {all : Bool} {own : Nat} {elt : IE} {xs ys : List AV} {sl0 : Slots} {Jt : It} {fp : List Addr} {tn : Nat → Heap → Prop} {gi : Nat} {Q : V → Hp → Prop}
theorem gen_start {el src : Expr} {z : Str} {px : Pos} {scope : Scope} {pos : Pos} {it : Addr} {A : Around} (hT : Turn X'.prog X'.w K (.Name z px) Jt fp it tn) (hK : X'.K = K) (hcalm : X'.calm = true)
    (hA : X'.A = A.over (.compLoop (.GeneratorExp el [⟨.Name z px, src, [], 0⟩] scope pos) 0 (.ref it) .none X'.env) []) (hco : X'.env.scope.isCoroutine = false) (hxe : ∀ e s, ¬ X'.xe e s)
    (hfp : ∀ (H : Hp), (∀ b ∈ fp, H b = none) → ∀ b ∈ fp, FpOk X' P H b) (w : Wd) (hw : w.xc = xc)
    (PEl : PE X' el (tI w K E0 (ev elt))) (PGt : PG X' (.Name z px) (tG K (.nm own))) :
    ∀ s, gi < s.gens.size → GJ K xc E X' P ev all own elt xs ys sl0 Jt fp tn Q 0 s → (GenState.fresh (.compStart (.GeneratorExp el [⟨.Name z px, src, [], 0⟩] scope pos) 0 (.ref it) .none X'.env)).Goes (model X'.prog X'.w) A
      (fun n s₀ r s₁ => r = .ok .next ∧ GRq X' P all gi Q n s₀ s₁) (GYq K xc E X' P ev all own elt xs ys sl0 Jt fp tn gi Q) (ys.length - 0) (.send .none) s := by
  intro s hg hj
  refine ⟨rfl, ?_⟩
  have loop := gen_loop (el := el) (src := src) (scope := scope) (pos := pos) hT hK hcalm hA hco hxe hfp [] w hw PEl PGt ys.length 0 s s (Nat.sub_zero _) (Nat.zero_le _) hg hj
  obtain ⟨ρ, H, sto, σ', sl, I, st, sr, hsl, hll, hst, hwk, htn, hfn, o⟩ := id hj
  show Seg _ A _ _ _ s _ ((compStart (.GeneratorExp el [⟨.Name z px, src, [], 0⟩] scope pos) 0 (.ref it) .none X'.env).onRaise (leaving X'.env)) [] s
  unfold compStart
  rw [Sem.onRaise_eq_wrap]
  show Seg _ A _ _ _ s _ ((ask >>= _).wrap _ _ _ _) [] s
  refine seg_bind_wrap (wpAny_askSetting ?_)
  split
  · exact seg_again rfl loop
  · first
      | exact seg_bind_wrap (wpAny_rule (seg_bind_wrap (wpAny_standAt (seg_bind_wrap (hT.self _ 0 s _ _ htn (seg_again rfl loop))))))
      | (refine seg_bind_wrap (wpAny_rule ?_); show Seg _ A _ _ _ s _ ((standAt src.pos >>= _).wrap _ _ _ _) [] s; exact seg_bind_wrap (wpAny_standAt (seg_bind_wrap (hT.self _ 0 s _ _ htn (seg_again rfl loop)))))
variable (K xc E X' P ev all own elt xs ys sl0 Jt fp tn gi Q) in
/-- the generator, ahead of the i-th turn -/
def GSt (A : Around) (i : Nat) (s : Shared) : Prop := gi < s.gens.size ∧ GJ K xc E X' P ev all own elt xs ys sl0 Jt fp tn Q i s ∧ ∃ gs, s.gens[gi]? = some gs ∧ ∀ s'', gi < s''.gens.size → GJ K xc E X' P ev all own elt xs ys sl0 Jt fp tn Q i s'' →
  gs.Goes (model X'.prog X'.w) A (fun n s₀ r s₁ => r = .ok .next ∧ GRq X' P all gi Q n s₀ s₁) (GYq K xc E X' P ev all own elt xs ys sl0 Jt fp tn gi Q) (ys.length - i) (.send .none) s''
theorem gen_next {A : Around} {a i : Nat} {s : Shared} {Er : Value → Shared → Prop} {R : Option Value → Shared → Prop} (hh : A.handled = none) (hroom : A.depth < recursionLimit) (hgen : ∀ σ H s, Inv X' P σ H s → s.heap.IsGen a gi)
    (h : GSt K xc E X' P ev all own elt xs ys sl0 Jt fp tn gi Q A.in1 i s) (hi : i ≤ ys.length)
    (hY : ∀ s', i < ys.length → GSt K xc E X' P ev all own elt xs ys sl0 Jt fp tn gi Q A.in1 (i + 1) s' → R (some (.bool all)) s')
    (hB : ∀ b s', b ≠ all → GE X' P Q b s' → R (some (.bool b)) s') (hE : ∀ s', GE X' P Q all s' → R none s') :
    wpAny (model X'.prog X'.w) A (pyNext (.ref a)) R Er s := by
  obtain ⟨hg, hj, gs, hgs, hgo⟩ := h
  obtain ⟨ρ, H, sto, σ', sl, I, hr⟩ := id hj
  have bare := I.bare
  have hg2 : gi < (s.setGen gi .running).gens.size := by
    rw [GenW.setGen_size]
    exact hg
  refine wpAny_pyNext_genexpQ (P := GRq X' P all gi Q) hh I.nolimit hroom (hgen _ _ _ I) hgs (hgo (s.setGen gi .running) hg2 (hj.gens (t := s.toks) (allBare_setGen (x := .running) bare rfl))) (fun v s₁ gs' hb hv => ?_) (fun s₁ hp h' hk => ?_)
  · obtain ⟨g1, b, rfl, ha, hn⟩ := hv
    by_cases e : b = all
    · subst e
      obtain ⟨hj1, hk1⟩ := ha rfl
      cases hn2 : ys.length - i with
      | zero =>
        rw [hn2] at hj1 hk1
        exact (hk1 s₁ g1 hj1).elim
      | succ m =>
        rw [hn2] at hj1 hk1
        have hi1 : ys.length - m = i + 1 := by omega
        have hm1 : ys.length - (i + 1) = m := by omega
        have e1 : m + 1 - 1 = m := rfl
        rw [e1, hi1] at hj1 hk1
        obtain ⟨_, _, _, _, _, I1, _⟩ := id hj1
        refine hY _ (by omega) ⟨by rw [GenW.setGen_size]; exact g1, hj1.gens (t := s₁.toks) (allBare_setGen I1.bare hb), gs', setGen_at g1, fun s'' g'' j'' => ?_⟩
        rw [hm1]
        exact hk1 s'' g'' j''
    · obtain ⟨σ1, H1, I1, q⟩ := hn e
      exact hB b _ e (GE.gens (t := s₁.toks) ⟨σ1, H1, I1, q⟩ (allBare_setGen I1.bare hb))
  · obtain ⟨g1, σ1, H1, I1, q⟩ := hp
    obtain ⟨σ2, H2, I2, q2⟩ := GE.gens (t := s₁.toks) (b := all) ⟨σ1, H1, I1, q⟩ (allBare_setGen (x := .finished) I1.bare rfl)
    exact hE _ ⟨σ2, H2, I2.kept hk, q2⟩
theorem all_loop {A : Around} {a : Nat} {R : Result → Shared → Prop} (hh : A.handled = none) (hroom : A.depth < recursionLimit) (hgen : ∀ σ H s, Inv X' P σ H s → s.heap.IsGen a gi) (hR : ∀ b s', GE X' P Q b s' → R (.ok (.ret (.bool b))) s') :
    ∀ k i s, ys.length - i = k → i ≤ ys.length → GSt K xc E X' P ev true own elt xs ys sl0 Jt fp tn gi Q A.in1.in1 i s → codeAny (model X'.prog X'.w) A (.builtin "all.loop" ⟨[.ref a], []⟩) R s := by
  intro k
  induction k with
  | zero =>
    intro i s hk hi h
    refine codeAny_builtin F.entry_all_loop ?_
    rw [Around.under_plainId F.plain_all_loop _]
    show wpAny _ A.in1 (pyNext (.ref a) >>= _) _ _ s
    refine wpAny_bind (gen_next (A := A.in1) hh hroom hgen h hi (fun s' hlt _ => absurd hlt (by omega)) (fun b s' hb g => ?_) (fun s' g => ?_))
    · cases b with
      | true => exact absurd rfl hb
      | false =>
        refine wpAny_bind (wpAny_holding (wpAny_truthy_bool ?_))
        refine wpAny_bind (wpAny_letGo ?_)
        simp only [Bool.false_eq_true, if_false]
        exact wpAny_bind (wpAny_rule (wpAny_pure (hR false s' g)))
    · exact wpAny_bind (wpAny_rule (wpAny_pure (hR true s' g)))
  | succ k ih =>
    intro i s hk hi h
    refine codeAny_builtin F.entry_all_loop ?_
    rw [Around.under_plainId F.plain_all_loop _]
    show wpAny _ A.in1 (pyNext (.ref a) >>= _) _ _ s
    refine wpAny_bind (gen_next (A := A.in1) hh hroom hgen h hi (fun s' hlt g => ?_) (fun b s' hb g => ?_) (fun s' g => ?_))
    · refine wpAny_bind (wpAny_holding (wpAny_truthy_bool ?_))
      refine wpAny_bind (wpAny_letGo ?_)
      simp only [if_true]
      exact wpAny_pure ⟨plainId_quiet F.plain_all_loop _, ih (i + 1) s' (by omega) hlt g⟩
    · cases b with
      | true => exact absurd rfl hb
      | false =>
        refine wpAny_bind (wpAny_holding (wpAny_truthy_bool ?_))
        refine wpAny_bind (wpAny_letGo ?_)
        simp only [Bool.false_eq_true, if_false]
        exact wpAny_bind (wpAny_rule (wpAny_pure (hR false s' g)))
    · exact wpAny_bind (wpAny_rule (wpAny_pure (hR true s' g)))
theorem any_loop {A : Around} {a : Nat} {R : Result → Shared → Prop} (hh : A.handled = none) (hroom : A.depth < recursionLimit) (hgen : ∀ σ H s, Inv X' P σ H s → s.heap.IsGen a gi) (hR : ∀ b s', GE X' P Q b s' → R (.ok (.ret (.bool b))) s') :
    ∀ k i s, ys.length - i = k → i ≤ ys.length → GSt K xc E X' P ev false own elt xs ys sl0 Jt fp tn gi Q A.in1.in1 i s → codeAny (model X'.prog X'.w) A (.builtin "any.loop" ⟨[.ref a], []⟩) R s := by
  intro k
  induction k with
  | zero =>
    intro i s hk hi h
    refine codeAny_builtin F.entry_any_loop ?_
    rw [Around.under_plainId F.plain_any_loop _]
    show wpAny _ A.in1 (pyNext (.ref a) >>= _) _ _ s
    refine wpAny_bind (gen_next (A := A.in1) hh hroom hgen h hi (fun s' hlt _ => absurd hlt (by omega)) (fun b s' hb g => ?_) (fun s' g => ?_))
    · cases b with
      | false => exact absurd rfl hb
      | true =>
        refine wpAny_bind (wpAny_holding (wpAny_truthy_bool ?_))
        refine wpAny_bind (wpAny_letGo ?_)
        simp only [if_true]
        exact wpAny_bind (wpAny_rule (wpAny_pure (hR true s' g)))
    · exact wpAny_bind (wpAny_rule (wpAny_pure (hR false s' g)))
  | succ k ih =>
    intro i s hk hi h
    refine codeAny_builtin F.entry_any_loop ?_
    rw [Around.under_plainId F.plain_any_loop _]
    show wpAny _ A.in1 (pyNext (.ref a) >>= _) _ _ s
    refine wpAny_bind (gen_next (A := A.in1) hh hroom hgen h hi (fun s' hlt g => ?_) (fun b s' hb g => ?_) (fun s' g => ?_))
    · refine wpAny_bind (wpAny_holding (wpAny_truthy_bool ?_))
      refine wpAny_bind (wpAny_letGo ?_)
      simp only [Bool.false_eq_true, if_false]
      exact wpAny_pure ⟨plainId_quiet F.plain_any_loop _, ih (i + 1) s' (by omega) hlt g⟩
    · cases b with
      | false => exact absurd rfl hb
      | true =>
        refine wpAny_bind (wpAny_holding (wpAny_truthy_bool ?_))
        refine wpAny_bind (wpAny_letGo ?_)
        simp only [if_true]
        exact wpAny_bind (wpAny_rule (wpAny_pure (hR true s' g)))
    · exact wpAny_bind (wpAny_rule (wpAny_pure (hR false s' g)))
end
end Ip

set_option Elab.async false
set_option linter.all false
set_option maxRecDepth 100000
set_option maxHeartbeats 4000000
namespace Ip
open PySem PySem.Spec PyProof.Rows L2
variable [Tb]
section
variable {K : PySem.W.Frag} {xc : List (Addr × List Str)} {E : XK} {ρ : List Addr} {H H' : Hp} {s : Sto} {P : Addr} {ps more : Array Value}
/-! ### the table has grown -/
theorem Gr.tbl (h : H P = some (.tbl ps)) {o : HO} : Gr H (upd H P o) :=
  ⟨fun a ys e => by rw [upd_ne (ne_of e h (by intro z; cases z))]; exact e, fun a b u e => by rw [upd_ne (ne_of e h (by intro z; cases z))]; exact e⟩
theorem Go.tbl (h : H P = some (.tbl ps)) {ps' : Array Value} : Go ρ H ρ (upd H P (.tbl ps')) := ⟨Le.refl _, Gr.tbl h, fun a u e n nt => ⟨by
  rw [upd_ne (fun z => nt ps (by rw [z, h] at e; exact (Option.some.inj e).symm))]
  exact e, n⟩⟩
theorem StR.tbl (st : StR K ρ H s) (h : H P = some (.tbl ps)) {ps' : Array Value} (t : TriplesOk ps'.toList) : StR K ρ (upd H P (.tbl ps')) s := st.gr (Gr.tbl h) (fun a xs e => by
  rw [upd_ne (ne_of e h (by intro z; cases z))]
  exact e) (st.tb.tbd (P := P) ⟨⟨ps', upd_same, t⟩, fun b hb => upd_ne hb⟩)
theorem un_tbl {fs ex : List Addr} {h h' : Heap} (hP : H P = some (.tbl ps)) (k : ∀ b o, b ≠ P → h.get? b = some o → h'.get? b = some o) (hm : ∃ o, h'.get? P = some o) : Un fs ex H (upd H P (.tbl (ps ++ more))) h h' where
  keep := fun b o e n _ _ => k b o (fun z => by rw [z, hP] at n; cases n) e
  slot := fun b o e n _ _ => ⟨o.slots, k b o (fun z => by rw [z, hP] at n; cases n) e⟩
  free := fun b o e n _ => by
    rw [upd_ne (fun z => by rw [z, hP] at n; cases n)]
    exact n
  there := fun b o e _ => by
    by_cases hb : b = P
    · rw [hb]
      exact hm
    · exact ⟨o, k b o hb e⟩
  tups := fun b xs e => by rw [upd_ne (ne_of e hP (by intro z; cases z))]; exact e
  frzs := fun b o u e => by rw [upd_ne (ne_of e hP (by intro z; cases z))]; exact e
  tbls := fun b qs e => by
    by_cases hb : b = P
    · rw [hb, hP] at e
      cases e
      rw [hb, upd_same]
      exact ⟨more, rfl⟩
    · rw [upd_ne hb, e]
      exact ⟨#[], by simp⟩
end
section
variable {w : Wd} {T : Nat → Nat → List AV → Sto → Rs AV} {k g n : Nat} {E : XK} {X : Cx}
theorem Rg.gen {A : Around} (r : Rg k 0 A) {elt tg iter : Expr} {ifs : List Expr} {scope : Scope} {pos : Pos} {it acc : Value} {env : Env} : Rg k 1 (A.in1.in1.over (.compLoop (.GeneratorExp elt [⟨tg, iter, ifs, 0⟩] scope pos) 0 it acc env) []) := by
  rw [over_comp]
  have h1 := r.rm.d
  have h2 := r.rm.u
  refine ⟨r.rm.h, r.rm.g, by decide, ?_, ?_⟩
  · show A.depth + 1 + k + 100 < recursionLimit + 4 * 1
    omega
  · show A.units + 1 + 1 + 3 + 4 * k + 700 < cLine + 2 * (4 * 1)
    omega
theorem Gd.gen (G : Gd w T k 0 E X) {A : Around} {st : List Env} {cenv : Env} {s2 : Shared} {H2 : Hp} {fp : List Addr} (r : Rg k 1 A) : Gd w T k 1 E0 (gcx X A st cenv s2 H2 fp) where
  N := G.N
  nd := G.nd
  calm := rfl
  rg := r
  fn := G.fn
  cn := G.cn
  bi := G.bi
  ps := passL
  cd := fun h => by cases h
/-- the generator is made -/
def Rdy (X : Cx) (pins : List (Addr × Obj)) (σ : L2.St) (Q : V → Hp → Prop) (all : Bool) (A : Around) (a : Addr) (s : Shared) : Prop :=
  ∃ (K : PySem.W.Frag) (xc : List (Addr × List Str)) (E : XK) (X' : Cx) (P : List (Addr × Obj)) (ev : IE → Slots → Sto → Rs AV) (own : Nat) (elt : IE) (xs ys : List AV) (sl0 : Slots) (Jt : It) (fp : List Addr) (tn : Nat → Heap → Prop) (gi : Nat),
    X'.prog = X.prog ∧ X'.w = X.w ∧ (∀ σ H s, Inv X' P σ H s → s.heap.IsGen a gi) ∧ (∀ b s', GE X' P Q b s' → ∃ H', Inv X pins σ H' s' ∧ Q (.bl b) H') ∧ GSt K xc E X' P ev all own elt xs ys sl0 Jt fp tn gi Q A 0 s
theorem call_all {pins : List (Addr × Obj)} {σ : L2.St} {Q : V → Hp → Prop} {a : Addr} {s : Shared} (hh : X.A.handled = none) (hroom : X.A.depth < recursionLimit) (h : Rdy X pins σ Q true X.A.in1.in1 a s) :
    wpAny (model X.prog X.w) X.A (call (.builtin "all") [.ref a]) (EP X pins σ Q) X.xe s := by
  obtain ⟨K, xc, E, X', P, ev, own, elt, xs, ys, sl0, Jt, fp, tn, gi, e1, e2, hgen, hback, hst⟩ := h
  rw [← e1, ← e2]
  refine call_function_tree F.kind_all F.plain_all F.entry_all (F.args_all1 _) ?_
  unfold Builtin.«all»
  refine wpAny_bind (m := oneArg "all" _) (wpAny_pure ?_)
  obtain ⟨_, _, _, _, _, I1, _⟩ := id hst.2.1
  refine wpAny_bind (wpAny_pyIter_gen (hgen _ _ _ I1) ?_)
  refine wpAny_pure ⟨plainId_quiet F.plain_all_loop _, all_loop (A := X.A) hh hroom hgen (fun b s' g => ?_) ys.length 0 s (Nat.sub_zero _) (Nat.zero_le _) hst⟩
  obtain ⟨H', I', q⟩ := hback b s' g
  exact ⟨.bl b, H', I', rfl, q⟩
theorem call_any {pins : List (Addr × Obj)} {σ : L2.St} {Q : V → Hp → Prop} {a : Addr} {s : Shared} (hh : X.A.handled = none) (hroom : X.A.depth < recursionLimit) (h : Rdy X pins σ Q false X.A.in1.in1 a s) :
    wpAny (model X.prog X.w) X.A (call (.builtin "any") [.ref a]) (EP X pins σ Q) X.xe s := by
  obtain ⟨K, xc, E, X', P, ev, own, elt, xs, ys, sl0, Jt, fp, tn, gi, e1, e2, hgen, hback, hst⟩ := h
  rw [← e1, ← e2]
  refine call_function_tree F.kind_any F.plain_any F.entry_any (F.args_any1 _) ?_
  unfold Builtin.«any»
  refine wpAny_bind (m := oneArg "any" _) (wpAny_pure ?_)
  obtain ⟨_, _, _, _, _, I1, _⟩ := id hst.2.1
  refine wpAny_bind (wpAny_pyIter_gen (hgen _ _ _ I1) ?_)
  refine wpAny_pure ⟨plainId_quiet F.plain_any_loop _, any_loop (A := X.A) hh hroom hgen (fun b s' g => ?_) ys.length 0 s (Nat.sub_zero _) (Nat.zero_le _) hst⟩
  obtain ⟨H', I', q⟩ := hback b s' g
  exact ⟨.bl b, H', I', rfl, q⟩
end
end Ip

set_option Elab.async false
set_option linter.all false
set_option maxRecDepth 100000
set_option maxHeartbeats 8000000
namespace Ip
open PySem PySem.Spec PyProof.Rows L2
variable [Tb]
section
variable {w : Wd} {T : Nat → Nat → List AV → Sto → Rs AV} {k g n : Nat} {E : XK} {X : Cx}
theorem stands_wk {wk : IW} {src : Slots → Sto → Rs (List AV)} {sl : Slots} {s s1 : Sto} {xs ys : List AV} (hwk : wkE wk src sl s = .ok (xs, ys) s1) : stands wk xs ys s1 = true := by
  unfold wkE at hwk
  cases q : src sl s with
  | bad => rw [q] at hwk; cases hwk
  | exc _ _ => rw [q] at hwk; cases hwk
  | ok xs0 s0 =>
    rw [q] at hwk
    have hwk2 : ((opt (walk wk xs0 s0) s0).bd fun ys s => Rs.ok (xs0, ys) s) = .ok (xs, ys) s1 := hwk
    cases q2 : walk wk xs0 s0 with
    | none => rw [q2] at hwk2; cases hwk2
    | some ys0 =>
      rw [q2] at hwk2
      cases hwk2
      exact stands_now q2
/-- what is wanted once the walk has come -/
def RW2 (w : Wd) (K : PySem.W.Frag) (E : XK) (ev : IE → Slots → Sto → Rs AV) (all : Bool) (own : Nat) (elt : IE) (σ : L2.St) (Q : V → Hp → Prop) (Jt : It) (H2 : Hp) : Prop :=
  ∃ ρ2 sl sto2 xs ys, StR K ρ2 H2 sto2 ∧ SlR K ρ2 H2 σ sl ∧ WalkOk K ρ2 H2 .seq xs ys Jt ∧ stands .seq xs ys sto2 = true ∧ Out K w.xc E ρ2 H2 (Rp K) (qLoop ev all own elt xs ys sl ys sto2) Q
theorem quant_read {K : PySem.W.Frag} {src : Slots → Sto → Rs (List AV)} {ev : IE → Slots → Sto → Rs AV} {all : Bool} {own : Nat} {elt : IE} {σ : L2.St} {H : Hp} {Q : V → Hp → Prop}
    (h : tI w K E (fun σ s => (src σ s).bd fun xs s => (opt (walk .seq xs s) s).bd fun ys s => qLoop ev all own elt xs ys σ ys s) σ H Q) : tW w K E .seq src σ H (RW2 w K E ev all own elt σ Q) := by
  obtain ⟨ρ, sl, s, st, sr, o⟩ := h
  refine ⟨ρ, sl, s, st, sr, ?_⟩
  have e0 : ((src sl s).bd fun xs s => (opt (walk .seq xs s) s).bd fun ys s => qLoop ev all own elt xs ys sl ys s) = (wkE .seq src sl s).bd fun a s => qLoop ev all own elt a.1 a.2 sl a.2 s := by
    unfold wkE
    rw [Rs.assoc]
    congr 1
    funext xs s1
    rw [Rs.assoc]
    rfl
  have o0 : Out K w.xc E ρ H (Rp K) ((wkE .seq src sl s).bd fun a s => qLoop ev all own elt a.1 a.2 sl a.2 s) Q := by
    rw [← e0]
    exact o
  refine Out.bd o0 ?_
  rintro ⟨xs, ys⟩ s1 ρ1 H1 J hwk g1 st1 hJ o1
  exact ⟨ρ1, sl, s1, xs, ys, st1, sr.go g1, hJ, stands_wk hwk, o1⟩

theorem gen_arg (S : SnE w T k n) (G : Gd w T k 0 E X) {el src : Expr} {z : Str} {px gpos : Pos} {scope : Scope} {all : Bool} {i : Nat} {elt it : IE} {pins : List (Addr × Obj)} {σ : L2.St} {H : Hp} {s : Shared} {Q : V → Hp → Prop} {Q' : Value → Shared → Prop}
    (hz : X.N[i]? = some z) (hgen : genC X.N X.env.scope scope z = true) (hl : isListE src = false) (hsrc : mt w.N w.fn w.cn n X.env.scope it src = true) (hel : mt w.N w.fn w.cn n scope elt el = true)
    (I : Inv X pins σ H s) (h : tI w X.K E (fun σ s => (evs (ev T w 0 n) [it] σ s).bd fun xs s => (opt (walk .seq xs s) s).bd fun ys s => qLoop (ev T w 1 n) all i elt xs ys σ ys s) σ H Q)
    (hQ : ∀ a s', Rdy X pins σ Q all X.A.in1.in1 a s' → Q' (.ref a) s') : wpAny (model X.prog X.w) X.A (eval (.GeneratorExp el [⟨.Name z px, src, [], 0⟩] scope gpos) X.env) Q' X.xe s := by
  have D := genD_of hgen
  obtain ⟨c, P, hcode, TB, hP⟩ := G.cd rfl
  have hwt : mt.mtW w.N w.fn w.cn n X.env.scope .seq [it] src = true := by
    unfold mt.mtW mtW'
    show (mt w.N w.fn w.cn n X.env.scope it src && true) = true
    rw [hsrc]
    rfl
  have hsf : ∀ x, genFold src X.env x = pure x := fun x => by
    have q := fold_plain (env := X.env) hwt x
    cases src <;> first | exact q | (cases hl; done)
  have hroom : X.A.depth < recursionLimit := by
    have := G.rg.rm.d; have := G.rg.rm.le
    omega
  refine wpAny_GeneratorExp_make D.co (closure_ok (D.caps I)) D.cell D.dot D.kind hroom ?_ hsf
  refine thn ((pi_walk S G (tg := .Name z px) hwt).run pins s σ H _ I (quant_read h)) fun xv s1 h1 => thn h1 fun itv s2 h2 => ?_
  obtain ⟨ia, fp, tn, Jt, H2, rfl, I2, hT, tn2, f2, ρ2, sl, sto2, xs, ys, st2, sr2, wk2, hst2, o2⟩ := h2
  refine ⟨I2.nolimit, ?_⟩
  obtain ⟨ps, hHP, ht⟩ := st2.tb P hP
  have hPs : s2.heap.get? P = some { cls := .none, data := .fields ps } := I2.hok P _ hHP
  have hf : ∀ b ∈ fp, FpOk X pins H2 b ∧ b < s2.heap.objs.size := fun b hb => by
    obtain ⟨o, e, _⟩ := hT.obj _ _ tn2 b hb
    exact ⟨f2 b hb, Heap.lt_size e⟩
  have cd : PySem.W.CodeHd s2.heap c P := TB.code.keeps fun b u e => I2.bk b u e
  have cont : ∀ (code : Value) (h3 : Heap) (tk : Nat) (ps' : Array Value), Heap.ExtBut P s2.heap h3 → s2.heap.objs.size ≤ h3.objs.size → h3.get? P = some { cls := .none, data := .fields ps' } → (∃ more, ps' = ps ++ more) → TriplesOk ps'.toList →
      wpAny (model X.prog X.w) X.A (builtinsFor X.env.globals X.env.builtins) (fun bi s₄ => ∀ h' : Heap, h'.Ns s₄.heap.objs.size (fun y => if y = (".0" : Str) then some (Value.ref ia) else none) → Heap.SameBut s₄.heap.objs.size (s₄.heap.push { cls := .type "frame", data := .dict #[] }) h' →
        Q' (.ref h'.objs.size) { s₄ with
          gens := s₄.gens.push (.fresh (.compStart (.GeneratorExp el [⟨.Name z px, src, [], 0⟩] scope gpos) 0 (.ref ia) .none (genEnv scope (cloFrom X.env.cells scope.names []) s₄.heap.objs.size code bi X.env))),
          toks := s₄.toks + 1 + 1 + 1,
          heap := h'.push { cls := .type "generator", data := .fields #[.int s₄.gens.size 0, .str "<genexpr>" (s₄.toks + 1), .str (X.env.qual ++ "<genexpr>") (s₄.toks + 1 + 1)] } }) X.xe { s2 with heap := h3, toks := tk } := by
    intro code h3 tk ps' hx hsz hP3 hmore ht3
    obtain ⟨more, em⟩ := hmore
    subst em
    obtain ⟨bm, ob, e1, e2, e3, e4, e5, e6, e7, e8⟩ := TB.bm
    have keep3 : ∀ b u, b ≠ P → s2.heap.get? b = some u → h3.get? b = some u := fun b u hb e => hx b u hb e
    refine wpAny_builtinsFor (m := X.mg) (by rw [I2.ok.glob]; exact (I2.mod.glob.keeps I2.bk).extBut hx TB.gP) e1 e2 (keep3 _ _ e4 (I2.bk _ _ e5)) e6 e7 e8 ?_
    intro h' hns hsb
    have hs' : h'.objs.size = h3.objs.size + 1 := by rw [hsb.1, Heap.size_push]
    have keep' : ∀ b o, h3.get? b = some o → h'.get? b = some o := fun b o e => hsb.extBut b o (Nat.ne_of_lt (Heap.lt_size e)) (Heap.get?_push_of_some _ e)
    have J := GxR.inv_tab (more := more) (h' := h3) (g' := s2.gens.push (.fresh (.compStart (.GeneratorExp el [⟨.Name z px, src, [], 0⟩] scope gpos) 0 (.ref ia) .none (gEnv X scope h3.objs.size code)))) (d' := s2.drawn) (t' := tk + 1 + 1 + 1) I2 hHP keep3 hP3 (I2.bare.push rfl)
    have u : Un (frs X.stack) fp H2 (upd H2 P (.tbl (ps ++ more))) s2.heap h3 := un_tbl hHP keep3 ⟨_, hP3⟩
    have r1 : Rg k 1 (X.A.in1.in1.over (.compLoop (.GeneratorExp el [⟨.Name z px, src, [], 0⟩] scope gpos) 0 (.ref ia) .none (gEnv X scope h3.objs.size code)) []) := G.rg.gen
    have hfr : (X.A.in1.in1.over (.compLoop (.GeneratorExp el [⟨.Name z px, src, [], 0⟩] scope gpos) 0 (.ref ia) .none (gEnv X scope h3.objs.size code)) []).frames = some (gEnv X scope h3.objs.size code :: X.stack) := by
      rw [over_comp]
      show pushEnvs [gEnv X scope h3.objs.size code] X.A.frames = _
      rw [I2.ok.frames]
      rfl
    have IX := gcx_start (h5 := h'.push { cls := .type "generator", data := .fields #[.int s2.gens.size 0, .str "<genexpr>" (tk + 1), .str (X.env.qual ++ "<genexpr>") (tk + 1 + 1)] }) (a := h'.objs.size) (it := .ref ia) D I2 hf hsz r1.rm.h hfr hz G.nd J u
      (fun b o e => Heap.get?_push_of_some _ (keep' b o e)) rfl (hns.push _) (Heap.get?_push_size _ rfl) (by rw [hs']; exact Nat.lt_succ_self _) (fun v e => by cases e)
    have gT : Go ρ2 H2 ρ2 (upd H2 P (.tbl (ps ++ more))) := Go.tbl hHP
    have hfpX : ∀ (H : Hp), (∀ b ∈ fp, H b = none) → ∀ b ∈ fp, FpOk (gcx X (X.A.in1.in1.over (.compLoop (.GeneratorExp el [⟨.Name z px, src, [], 0⟩] scope gpos) 0 (.ref ia) .none (gEnv X scope h3.objs.size code)) []) (gEnv X scope h3.objs.size code :: X.stack) (gEnv X scope h3.objs.size code) s2 H2 fp)
        [(h'.objs.size, { cls := .type "generator", data := .fields #[.int s2.gens.size 0, .str "<genexpr>" (tk + 1), .str (X.env.qual ++ "<genexpr>") (tk + 1 + 1)] })] H b := fun H hn b hb => by
      refine ⟨hn b hb, (IX.ok.exf b hb).1, IX.ok.exfs b hb, Or.inl hb, (IX.ok.exf b hb).2, fun p hp => ?_⟩
      have hp' : p = _ := List.mem_singleton.mp hp
      subst hp'
      intro e
      have l1 := (hf b hb).2
      rw [← e] at l1
      have l2 : h'.objs.size < s2.heap.objs.size := l1
      omega
    refine hQ _ _ ⟨X.K, w.xc, E, (gcx X (X.A.in1.in1.over (.compLoop (.GeneratorExp el [⟨.Name z px, src, [], 0⟩] scope gpos) 0 (.ref ia) .none (gEnv X scope h3.objs.size code)) []) (gEnv X scope h3.objs.size code :: X.stack) (gEnv X scope h3.objs.size code) s2 H2 fp), _, ev T w 1 n, i, elt, xs, ys, sl, Jt, fp, tn, s2.gens.size, rfl, rfl, fun σ1 H1 s1 I1 => ?_, fun b s' hge => ?_, ?_, ⟨ρ2, _, sto2, σ.set i none, sl.set i none, IX, st2.tbl hHP ht3, (sr2.go gT).unset i, fun d => by rw [List.set_set], by rw [List.length_set], hst2, wk2.up gT, ?_, ?_, ?_⟩, .fresh (.compStart (.GeneratorExp el [⟨.Name z px, src, [], 0⟩] scope gpos) 0 (.ref ia) .none (gEnv X scope h3.objs.size code)), ?_, ?_⟩
    · obtain ⟨p1, _⟩ := I1.pin (h'.objs.size, { cls := .type "generator", data := .fields #[.int s2.gens.size 0, .str "<genexpr>" (tk + 1), .str (X.env.qual ++ "<genexpr>") (tk + 1 + 1)] }) (List.mem_singleton.mpr rfl)
      exact ⟨_, _, _, p1, rfl, rfl, rfl⟩
    · obtain ⟨σ1, H1, I1, q1⟩ := hge
      exact ⟨H1, gcx_back I2 hf I1, q1⟩
    · show s2.gens.size < (s2.gens.push _).size
      rw [Array.size_push]
      exact Nat.lt_succ_self _
    · refine hT.keep 0 s2.heap _ tn2 fun b hb o e => Heap.get?_push_of_some _ (keep' b o (keep3 b o (fun e2 => ?_) e))
      have q := (f2 b hb).1
      rw [e2, hHP] at q
      cases q
    · intro b hb
      have q := (f2 b hb).1
      rw [upd_ne (fun e2 => by rw [e2, hHP] at q; cases q)]
      exact q
    · rw [List.drop_zero]
      exact Out.up o2 gT
    · exact Array.getElem?_push_size ..
    · refine gen_start (scope := scope) (pos := gpos) (w := w) hT rfl rfl rfl D.co (fun e s hx => hx) hfpX rfl (S 1 E0 _ (G.gen r1) elt el hel) ?_
      refine pg_ok (X := gcx X _ _ _ _ _ _) G.nd rfl (osc := scope) (fun x hx => absurd rfl (D.cell _ (PySem.mem_of_lookup hx))) (.nm i) (.Name z px) ?_
      show (decide (X.N[i]? = some z) && decide (scope.names.lookup z = scope.names.lookup z) && (decide (scope.names.lookup z = some .local) || decide (scope.names.lookup z = some .cell)) && !dunder z) = true
      rw [D.own, hz, D.db]
      simp
  cases hcf : codeAmong gpos ps.toList with
  | none =>
    refine wpAny_genexprCodeX hcode (cd.code hPs ht) (cd.tab hPs) hcf fun c' h' tk hx hge hlt hco' _ htab' _ => ?_
    obtain ⟨o1, vs, f1, tf, fl, tg, inF, tx, tt, op, _, _, _, _, _, _, _, _, _, htr, _⟩ := hco'
    exact cont _ h' tk _ hx (Nat.le_trans hge (Nat.le_of_lt hlt)) htab'.2 ⟨_, rfl⟩ htr
  | some cv =>
    refine wpAny_genexprCode_hit hcode (cd.code hPs ht) hcf ?_
    exact cont cv s2.heap s2.toks ps (Heap.ExtBut.refl _ _) (Nat.le_refl _) hPs ⟨#[], by simp⟩ ht
end
end Ip
namespace Ip
open PySem PySem.Spec PyProof.Rows L2
variable [Tb]
section
variable {w : Wd} {T : Nat → Nat → List AV → Sto → Rs AV} {k g n : Nat} {E : XK} {X : Cx}
theorem qu_ok (S : SnE w T k n) : ∀ (g : Nat) (E : XK) (X : Cx), Gd w T k g E X → ∀ al i elt it x p1 xs p2, mt w.N w.fn w.cn (n + 1) X.env.scope (.quant al i elt it) (.Call (.Name x p1) xs [] p2) = true →
    PE X (.Call (.Name x p1) xs [] p2) (tI w X.K E (ev T w g (n + 1) (.quant al i elt it))) := by
  intro g E X G al i elt it x p1 xs p2 h
  by_cases hg : g = 0
  · subst hg
    unfold mt at h
    dsimp only at h
    split at h
    · rename_i el z px src scope gpos
      obtain ⟨h2, h9⟩ := b2 h
      obtain ⟨h2, h8⟩ := b2 h2
      obtain ⟨h2, h7⟩ := b2 h2
      obtain ⟨h2, h6⟩ := b2 h2
      obtain ⟨h2, h5⟩ := b2 h2
      obtain ⟨h3, h4⟩ := b2 h2
      obtain ⟨v1, v2, v3⟩ := gl_of h4
      have hroom : X.A.depth < recursionLimit := by
        have := G.rg.rm.d; have := G.rg.rm.le
        omega
      refine ⟨fun pins s σ H Q I hq => ?_⟩
      have hq2 : tI w X.K E (fun σ s => (evs (ev T w 0 n) [it] σ s).bd fun xs s => (opt (walk .seq xs s) s).bd fun ys s => qLoop (ev T w 1 n) al i elt xs ys σ ys s) σ H Q := hq
      cases al with
      | true =>
        have e : x = "all" := of_decide_eq_true h3
        subst e
        refine wpAny_Call_Name_kw (ld_blt I v1 (G.bi _ (by decide)) (by rfl) ?_)
        refine PyProof.Rows.callWith_builtin1 ?_ (by rfl) (by rfl)
        show wpAny _ _ (spliced ((false, eval (.GeneratorExp el [⟨.Name z px, src, [], 0⟩] scope gpos) X.env) :: backTo p2 (starEach [] X.env))) _ _ s
        refine Calls.spliced_cons (gen_arg S G (by rw [G.N]; exact of_decide_eq_true h5) (by rw [G.N]; exact h6) (by simpa using h7) h8 h9 I hq2 fun a s5 hr => ?_)
        exact Calls.spliced_nil (call_all G.rg.rm.h hroom hr)
      | false =>
        have e : x = "any" := of_decide_eq_true h3
        subst e
        refine wpAny_Call_Name_kw (ld_blt I v1 (G.bi _ (by decide)) (by rfl) ?_)
        refine PyProof.Rows.callWith_builtin1 ?_ (by rfl) (by rfl)
        show wpAny _ _ (spliced ((false, eval (.GeneratorExp el [⟨.Name z px, src, [], 0⟩] scope gpos) X.env) :: backTo p2 (starEach [] X.env))) _ _ s
        refine Calls.spliced_cons (gen_arg S G (by rw [G.N]; exact of_decide_eq_true h5) (by rw [G.N]; exact h6) (by simpa using h7) h8 h9 I hq2 fun a s5 hr => ?_)
        exact Calls.spliced_nil (call_any G.rg.rm.h hroom hr)
    · cases h
  · refine PE.no fun σ s => ?_
    simp only [ev, evI]
    rw [if_neg hg]
end
end Ip

set_option Elab.async false
set_option linter.all false
set_option maxRecDepth 100000
set_option maxHeartbeats 4000000
namespace Ip
open PySem PySem.Spec PyProof.Rows L2
variable [Tb]
section
variable {w : Wd} {T : Nat → Nat → List AV → Sto → Rs AV} {k n : Nat}
def SsE (w : Wd) (T : Nat → Nat → List AV → Sto → Rs AV) (k n : Nat) : Prop := ∀ (g : Nat) (E : XK) (X : Cx), Gd w T k g E X → ∀ a x p1 xs p2, mt w.N w.fn w.cn (n + 1) X.env.scope (.bi .sortedSet [a]) (.Call (.Name x p1) xs [] p2) = true →
    PE X (.Call (.Name x p1) xs [] p2) (tI w X.K E (ev T w g (n + 1) (.bi .sortedSet [a])))
theorem all_n (hss : ∀ n, SnE w T k n → SsE w T k n) : ∀ n, SnE w T k n ∧ TnE w T k n ∧ SnS w T k n ∧ ∀ m, n = m + 1 → SnE w T k m ∧ TnE w T k m := by
  intro n
  induction n with
  | zero =>
    refine ⟨fun g E X G ir e h => ?_, fun g E X G ir e h => ?_, fun E X GS hb st e h => ?_, fun m h => by cases h⟩
    · rw [mt] at h
      cases h
    · rw [mt] at h
      cases h
    · rw [mtS] at h
      cases h
  | succ n ih =>
    obtain ⟨S, Tn, SS, hlc⟩ := ih
    have S1 : SnE w T k (n + 1) := sn_step S Tn ⟨lc_ok S Tn, qu_ok S, hss n S⟩
    refine ⟨S1, tn_step S1 S Tn, ss_step S Tn SS hlc, fun m h => ?_⟩
    cases h
    exact ⟨S, Tn⟩
end
/-! ### what was made and is held by nobody is let go -/
section
variable {K : PySem.W.Frag} {xc : List (Addr × List Str)} {E : XK} {ρ ρ' : List Addr} {H H' : Hp} {n : Nat}
theorem letGo_ok {s' : Sto} {d : AV} {v : V} (hn : n = ρ.length) (g : Go ρ H ρ' H') (st : StR K ρ' H' s') (r : Rp K ρ' H' v d) : ∃ ρ2, Go ρ H ρ2 H' ∧ StR K ρ2 H' (letGo n d s') ∧ Rp K ρ2 H' v d := by
  unfold letGo
  split
  · rename_i h
    rw [Bool.and_eq_true] at h
    obtain ⟨h1, h2⟩ := h
    refine ⟨ρ'.take n, ⟨fun j a e => ?_, g.g, fun a o e na nt => ?_⟩, ⟨?_, ?_, st.tb, fun j a o e1 e2 => ?_⟩, Rp.low d v h1 r⟩
    · have hj : j < n := by rw [hn]; exact (List.getElem?_eq_some_iff.mp e).1
      rw [List.getElem?_take_of_lt hj]
      exact g.le j a e
    · obtain ⟨q1, q2⟩ := g.f a o e na nt
      exact ⟨q1, fun z => q2 (List.mem_of_mem_take z)⟩
    · rw [List.length_take, List.length_take, st.len]
    · exact st.nd.sublist (List.take_sublist _ _)
    · have hj : j < n := by
        have := (List.getElem?_eq_some_iff.mp e1).1
        rw [List.length_take] at this
        omega
      have hmem : o ∈ s'.take n := List.mem_of_getElem? e2
      rw [List.getElem?_take_of_lt hj] at e1 e2
      have q := st.ob j a o e1 e2
      have lo := List.all_eq_true.mp h2 o hmem
      cases o with
      | lst ds =>
        obtain ⟨xs, p1, p2⟩ := q
        exact ⟨xs, p1, RpL.low ds xs (by simpa only [lowO] using lo) p2⟩
  · exact ⟨ρ', g, st, r⟩
theorem Out.bd0 {α β γ δ : Type} {R : List Addr → Hp → β → α → Prop} {R2 : List Addr → Hp → δ → γ → Prop} {r : Rs α} {f : α → Sto → Rs γ} {Q : δ → Hp → Prop} {Q' : β → Hp → Prop} (h : Out K xc E ρ H R2 (r.bd f) Q)
    (hk : ∀ a s ρ1 H1 b, r = .ok a s → Go ρ H ρ1 H1 → StR K ρ1 H1 s → R ρ1 H1 b a → Out K xc E ρ H R2 (f a s) Q → Q' b H1) : Out K xc E ρ H R r Q' := by
  cases r with
  | ok a s => exact fun ρ' H' b g st rb => hk a s ρ' H' b rfl g st rb h
  | exc x s => exact h
  | bad => exact h.elim
theorem slr_start {N : List Str} {vs : List V} {ds : List AV} (r : RpL K ρ H vs ds) (hl : ds.length ≤ N.length) : SlR K ρ H (L2.start N vs) (ds.map some ++ List.replicate (N.length - ds.length) none) := by
  have l := r.len
  refine ⟨by unfold L2.start; simp [l], fun i d e => ?_⟩
  unfold L2.start
  by_cases hi : i < ds.length
  · rw [List.getElem?_append_left (by simpa using hi), List.getElem?_map] at e
    cases q : ds[i]? with
    | none => rw [q] at e; cases e
    | some d2 =>
      rw [q] at e
      cases e
      obtain ⟨v, h1, h2⟩ := r.get q
      refine ⟨v, ?_, h2⟩
      rw [List.getElem?_append_left (by simpa [l] using hi), List.getElem?_map, h1]
      rfl
  · rw [List.getElem?_append_right (by simpa using hi)] at e
    rw [List.getElem?_replicate] at e
    split at e <;> cases e
end
/-! ### a def -/
theorem def_ok {P : Program} {W : World} {K : PySem.W.Frag} {mg : Str → Option Value} {base : Heap} {w : Wd} {ds : List Df} {k fi : Nat} {f : Addr} {x qual : Str} {params : Arguments} {body : List Stmt} {scope : Scope} {fd : FuncData} {ps : List Str} {d : Df} {c tP : Addr}
    (F : FunD K x qual params body scope [] [] f fd) (S : FnScope w.N ps scope) (hd : ds[fi]? = some d) (hps : d.pars = ps.length) (hnm : d.names = w.N.length) (hle : ps.length ≤ w.N.length)
    (hm : all2 (mtS w.N w.fn w.cn 100 scope) d.body body = true)
    (hss : ∀ n, SnE w (tab w.C ds k) k n → SsE w (tab w.C ds k) k n)
    (fn : ∀ (dd f : Nat) (x : Str), w.fn[f]? = some x → ∃ a fd ps, mg x = some (.ref a) ∧ PySem.W.keepIn K (.ref a) = true ∧ Binds K fd ps [] ∧ FnG P W K mg base k dd a fd ps (spI K w.xc (tab w.C ds k dd f)))
    (cn : ∀ (i : Nat) (x : Str) (d : AV), w.cn[i]? = some x → w.C[i]? = some d → ∃ u v, mg x = some u ∧ RelV v u ∧ ∀ ρ H, Rp K ρ H v d)
    (bi : ∀ x ∈ bltins, mg x = none) (hcd : fd.code = .ref c) (TB : GxR.TabB base mg c tP) (hP : tP ∈ Tb.l) :
    FnG P W K mg base (k + 1) 0 f fd ps (spI K w.xc (tab w.C ds (k + 1) 0 fi)) := by
  obtain ⟨oc, od, dV, kV, doc, pm, an, cdv, ct, osl, e, lk, hci, _, _⟩ := F.ex
  subst e
  have tb : tab w.C ds (k + 1) 0 fi = runD (fun g => tab w.C ds k (4 * g)) w.C d := by
    funext xs s
    simp only [tab, hd]
  rw [tb]
  refine fnG_of lk hci S (fun vs H Q E h => ?_) (fun A outer s H vs Q E hr h => ?_)
  · obtain ⟨ρ, s, as, st, rl, o⟩ := h
    unfold runD at o
    split at o
    · rename_i hl
      rw [rl.len, hl, hps]
    · exact o.elim
  · obtain ⟨ρ, s0, as, st, rl, o⟩ := h
    unfold runD at o
    split at o
    · rename_i hl
      have hcd2 : cdv = .ref c := hcd
      have G : Gd w (tab w.C ds k) k 0 E (cxOf (L2.CX P W) P W K mg base w.N qual scope f cdv A outer s H E) := {
        N := rfl
        nd := S.nd
        calm := rfl
        rg := ⟨hr⟩
        fn := fn
        cn := cn
        bi := bi
        ps := passes_call (takes_of rfl rfl rfl rfl) (fun _ _ _ _ h => h)
        cd := fun _ => ⟨c, tP, hcd2, TB, hP⟩ }
      have GS : Gs w (tab w.C ds k) k E (cxOf (L2.CX P W) P W K mg base w.N qual scope f cdv A outer s H E) := ⟨G, fun _ _ => rfl, passes_of rfl⟩
      have SS := (all_n hss 100).2.2.1
      refine ⟨_, pss_all (fun st e q => SS E _ GS (by show (if scope.kind.isAnnotationScope then ScopeKind.function else scope.kind) = scope.kind; rw [S.kind]; rfl) st e q) d.body body hm, ρ, as.map some ++ List.replicate (d.names - d.pars) none, s0, st, ?_, ?_⟩
      · rw [hnm, ← hl]
        exact slr_start rl (by rw [hl, hps]; exact hle)
      · refine Out.bd0 o ?_
        intro fl s1 ρ1 H1 b _ g1 st1 rb o1
        cases fl with
        | nx sl1 =>
          cases b with
          | nx σ1 =>
            obtain ⟨ρ2, g2, st2, r2⟩ := letGo_ok (v := .non) (d := .non) (n := s0.length) st.len g1 st1 .non
            exact o1 ρ2 H1 .non g2 st2 r2
          | _ => exact rb.elim
        | rt dv =>
          cases b with
          | rt v =>
            obtain ⟨ρ2, g2, st2, r2⟩ := letGo_ok (n := s0.length) st.len g1 st1 rb
            exact o1 ρ2 H1 v g2 st2 r2
          | _ => exact rb.elim
        | bk _ => exact o1.elim
        | ct _ => exact o1.elim
    · exact o.elim
end Ip

set_option Elab.async false
set_option linter.all false
set_option maxRecDepth 100000
set_option maxHeartbeats 4000000
namespace Ip
open PySem PySem.Spec PyProof.Rows L2 PySem.Froz
/-! ### sets of texts -/
/-- the set of the texts l at a; its table rises and can be walked -/
def SetS (P : Program) (w : World) (h : Heap) (a : Addr) (l : List Str) : Prop := ∃ D : SD, h.get? a = some (sObj "set" D) ∧ TxOk P w D l ∧ Ris D.2.2.place.toList ∧ (w.params.followText "set-order" = true ∨ D.2.2.led = true) ∧ l.Nodup
section
variable {P : Program} {w : World} {A : Around} {E : Value → Shared → Prop} {s : Shared} {a : Addr}
theorem SetS.move {h h' : Heap} {l : List Str} (R : SetS P w h a l) (k : ∀ o, h.get? a = some o → h'.get? a = some o) : SetS P w h' a l := by
  obtain ⟨D, e, r⟩ := R
  exact ⟨D, k _ e, r⟩
theorem ris_tail {ep : Nat} {es1 : Array (Int × Value)} {t2 : SetTable} {wd : Bool} (r : Ris t2.place.toList) : Ris (tailTx ep es1 t2 wd).2.2.place.toList := by
  unfold tailTx
  split
  · exact relayAll_ris t2 es1 _
  · exact r
theorem led_tail {ep : Nat} {es1 : Array (Int × Value)} {t2 : SetTable} {wd : Bool} : (tailTx ep es1 t2 wd).2.2.led = t2.led := by
  unfold tailTx
  split
  · exact relayAll_led t2 es1 _
  · rfl
theorem ris_add {h : Int} {v : Value} {D : SD} (r : Ris D.2.2.place.toList) : Ris (addTx h v D).2.2.place.toList := by
  unfold addTx
  refine ris_tail ?_
  split
  · exact layNew_ris D.2.2 D.1 h v r
  · exact layNew_ris D.2.2 D.1 h v r
theorem led_add {h : Int} {v : Value} {D : SD} : (addTx h v D).2.2.led = D.2.2.led := by
  unfold addTx
  rw [led_tail]
  split
  · exact layNew_led D.2.2 D.1 h v
  · exact layNew_led D.2.2 D.1 h v
/-- one more, or the same -/
def insT (k : Str) (l : List Str) : List Str := if k ∈ l then l else k :: l
theorem setS_add {l : List Str} {k : Str} {u : Tok} {Q : Bool → Shared → Prop} (R : SetS P w s.heap a l) (room : l.length + 1 < scanBound)
    (hQ : ∀ (b : Bool) (h' : Heap), Heap.SameBut a s.heap h' → SetS P w h' a (insT k l) → Q b { s with heap := h' }) : wpAny (model P w) A (setAddHashed a (.str k u) (hashStr w k)) Q E s := by
  obtain ⟨D, ho, F, r, hl, nd⟩ := R
  by_cases hk : k ∈ l
  · obtain ⟨es, ep, t⟩ := D
    have hd : (sObj "set" (es, ep, t)).data = .set es ep t := rfl
    have sz : es.size = l.length := F.sz
    obtain ⟨e, he, q⟩ := (F.mem k).mp hk
    unfold setAddHashed setAddHashedIn
    refine wpAny_holding (wpAny_bind (wpAny_setState_of ho hd F.fit ?_))
    dsimp only
    rw [byScan_of rfl (by rw [sz]; omega) F.el]
    simp only [↓reduceIte]
    unfold setAddByScan
    refine wpAny_bind ?_
    refine wpAny_bind (wpAny_rule ?_)
    refine wpAny_bind (wpAny_setScan_of (knd := strKind P w) (k := k) (is_str k u) ho hd F.fit F.el ?_)
    cases hfi : List.findIdx? (fun e => (strKind P w).is k e.2) es.toList with
    | some j =>
      dsimp only
      refine wpAny_pure (wpAny_pure ?_)
      exact hQ _ s.heap (Heap.SameBut.refl a s.heap) ⟨(es, ep, t), ho, by unfold insT; rw [if_pos hk]; exact F, r, hl, by unfold insT; rw [if_pos hk]; exact nd⟩
    | none =>
      have c := List.findIdx?_eq_none_iff.mp hfi e he
      rw [q] at c
      cases c
  · refine add_x ho F hk room (hQ _ _ (Heap.SameBut.update s.heap a _) ⟨_, get_upd _ ho rfl, ?_, ris_add r, hl.imp id fun z => by rw [led_add]; exact z, ?_⟩)
    · unfold insT
      rw [if_neg hk]
      exact add_ok u F
    · unfold insT
      rw [if_neg hk]
      exact List.nodup_cons.mpr ⟨hk, nd⟩
theorem setS_new {h : Heap} (ho : h.get? a = some { cls := .type "set", dict := none, data := .set #[] 0 (.fresh 0 0 (!w.params.followText "set-order")) }) : SetS P w h a [] :=
  ⟨(#[], 0, .fresh 0 0 (!w.params.followText "set-order")), ho, TxOk.nil rfl, List.Pairwise.nil, by
    show _ ∨ (!w.params.followText "set-order") = true
    cases w.params.followText "set-order"
    · exact Or.inr rfl
    · exact Or.inl rfl, List.nodup_nil⟩
/-- all of xs, one behind another -/
def insTs (xs : List Str) (l : List Str) : List Str := xs.foldl (fun l k => insT k l) l
theorem insT_len (k : Str) (l : List Str) : (insT k l).length ≤ l.length + 1 := by
  unfold insT
  split
  · omega
  · simp
theorem insT_mem (k j : Str) (l : List Str) : j ∈ insT k l ↔ j = k ∨ j ∈ l := by
  unfold insT
  by_cases hk : k ∈ l
  · rw [if_pos hk]
    exact ⟨Or.inr, fun h => h.elim (fun e => by rw [e]; exact hk) id⟩
  · rw [if_neg hk, List.mem_cons]
theorem insTs_mem (j : Str) : ∀ (xs l : List Str), j ∈ insTs xs l ↔ j ∈ xs ∨ j ∈ l
  | [], l => by simp [insTs]
  | k :: r, l => by
    show j ∈ insTs r (insT k l) ↔ _
    rw [insTs_mem j r, insT_mem, List.mem_cons]
    exact ⟨fun h => by rcases h with h | h | h <;> simp [h], fun h => by rcases h with (h | h) | h <;> simp [h]⟩
theorem upd_strs {I : Addr} {fp wr : List Addr} {G : Array GenState → Array GenState → Prop} {n : Nat} {Pv : Nat → Value → Prop} {St : Nat → Shared → Prop} {R : Result → Shared → Prop}
    (W : WalksS P w A.in1 I fp wr G n Pv St) (S : Addr) (hSf : S ∉ fp) (xs : List Str) (hn : n = xs.length) (hb : xs.length + 1 < scanBound) (hval : ∀ i v, Pv i v → ∃ k t, xs[i]? = some k ∧ v = .str k t) :
    ∀ (k i : Nat) (s : Shared) (l : List Str), n - i = k → i ≤ n → St i s → l.length ≤ i → SetS P w s.heap S l →
      (∀ s', Moved (S :: wr) G s s' → SetS P w s'.heap S (insTs (xs.drop i) l) → R (.ok (.ret .none)) s') → codeAny (model P w) A (.builtin "set.update.loop" ⟨[.ref S, .ref I], []⟩) R s := by
  have out : S ∉ wr := fun h => hSf (W.sub _ h)
  intro k
  induction k with
  | zero =>
    intro i s l hk' hi hst hc hS hR
    have hin : i = n := by omega
    subst hin
    refine codeAny_builtin F.entry_set_update_loop ?_
    rw [Around.under_plainId F.plain_set_update_loop _]
    show wpAny _ A.in1 (pyNext (.ref I) >>= _) _ _ s
    refine wpAny_bind (W.done s _ _ hst fun s' hm => ?_)
    show wpAny _ A.in1 (ret Value.none) _ _ s'
    refine wpAny_pure (hR s' (hm.mono fun b hb => List.mem_cons_of_mem _ hb) ?_)
    rw [List.drop_of_length_le (by omega)]
    exact hS.move fun o e => hm.heap S o out e
  | succ k ih =>
    intro i s l hk' hi hst hc hS hR
    have hlt : i < n := by omega
    refine codeAny_builtin F.entry_set_update_loop ?_
    rw [Around.under_plainId F.plain_set_update_loop _]
    show wpAny _ A.in1 (pyNext (.ref I) >>= _) _ _ s
    refine wpAny_bind (W.item i s _ _ hlt hst fun v s' hP hst' hm => ?_)
    obtain ⟨z, t, hz, rfl⟩ := hval i v hP
    show wpAny _ A.in1 (holding [Value.str z t] (setAdd S (.str z t)) >>= _) _ _ s'
    refine wpAny_bind (wpAny_holding ?_)
    unfold setAdd
    refine wpAny_holding ?_
    refine wpAny_bind ((strKind P w).pyHash (k := z) (is_str z t) ?_)
    refine setS_add (s := { s' with toks := s'.toks + 1 }) (l := l) (hS.move fun o e => hm.heap S o out e) (by omega) fun b h' hsb hS2 => ?_
    have keepI : ∀ b ∈ fp, ∀ o, s'.heap.get? b = some o → h'.get? b = some o := fun b hb o e => by
      rw [hsb.2 b (fun z : b = S => hSf (by rw [← z]; exact hb))]
      exact e
    refine wpAny_pure ⟨plainId_quiet F.plain_set_update_loop _, ih (i + 1) _ (insT z l) (by omega) hlt (W.frame _ s' _ _ hst' (Nat.le_succ _) keepI) (by have := insT_len z l; omega) hS2 fun s'' hm'' hS'' => ?_⟩
    refine hR s'' (Moved.trans W.gtrans ((hm.mono fun b hb => List.mem_cons_of_mem _ hb).then_heap (Nat.le_succ _) fun b o hb e => ?_) hm'') ?_
    · rw [hsb.2 b (fun z : b = S => hb (by rw [z]; exact List.mem_cons_self))]
      exact e
    · rw [List.drop_eq_getElem_cons (by omega)]
      have ez : xs[i]'(by omega) = z := by
        have h2 := List.getElem?_eq_some_iff.mp hz
        exact h2.2
      rw [ez]
      exact hS''
end
end Ip

set_option Elab.async false
set_option linter.all false
set_option maxRecDepth 100000
set_option maxHeartbeats 4000000
namespace Ip
open PySem PySem.Spec PyProof.Rows L2 PySem.Froz
section
variable {P : Program} {w : World} {A : Around} {E : Value → Shared → Prop} {s : Shared} {a : Addr}
set_option quotPrecheck false
theorem call_set_tupT {l : Addr} {its : Array Value} (xs : List Str) {Q : Value → Shared → Prop} (hh : A.handled = none) (hl : s.heap.IsTuple l its) (hit : StrsAre its.toList xs) (hb : xs.length + 1 < scanBound)
    (h : ∀ (h' : Heap) (tk : Nat), SetS P w h' s.heap.objs.size (insTs xs []) → (∀ b o, s.heap.get? b = some o → h'.get? b = some o) → Q (.ref s.heap.objs.size) { s with heap := h', toks := tk }) :
    wpAny (model P w) A (call (.type "set") [.ref l]) Q E s := by
  have isz : its.size = xs.length := by
    rw [← Array.length_toList]
    exact hit.length
  obtain ⟨c, tl, hmro⟩ := F.called_set.mro
  have q1 := F.called_set.made
  have q2 := F.called_set.sub
  refine wpAny_call (codeAny_of_tree ?_)
  show wpAny _ _ (callAny (.type "set") _) _ _ _
  refine wpAny_pure ⟨Code.quiet_builtin _ (by decide +kernel), codeAny_builtin F.entry_type_call ?_⟩
  rw [Around.under_plain (weight_type_call_type "set" [.ref l] []) rfl]
  have q3 := F.called_set.notType
  have q4 := F.called_set.canCreate
  have q5 := F.typeCall_set_1 (.ref l)
  repeat (any_goals (first | assumption | wp_step))
  refine codeAny_mono (code_set_led1 (.ref l) (E := E) (Q₁ := fun v s₁ => v = .ref s.heap.objs.size ∧ s₁ = { s with heap := (s.heap.push ({ cls := .type "set", dict := none, data := .set #[] 0 (.fresh 0 0 (!w.params.followText "set-order")) } : Obj)) }) ⟨rfl, rfl⟩) fun r s₁ hr => ?_
  cases r with
  | error e => exact hr
  | ok fl =>
    cases fl with
    | ret v =>
      obtain ⟨rfl, rfl⟩ := hr
      have hS : ((s.heap.push ({ cls := .type "set", dict := none, data := .set #[] 0 (.fresh 0 0 (!w.params.followText "set-order")) } : Obj))).get? s.heap.objs.size = some ({ cls := .type "set", dict := none, data := .set #[] 0 (.fresh 0 0 (!w.params.followText "set-order")) } : Obj) := Heap.get?_push_size _ rfl
      have hT : Shared.TypeIs { s with heap := (s.heap.push ({ cls := .type "set", dict := none, data := .set #[] 0 (.fresh 0 0 (!w.params.followText "set-order")) } : Obj)) } (.ref s.heap.objs.size) "set" := ⟨_, hS, rfl⟩
      have q6 := F.called_set.init.lookup
      have q7 := F.called_set.init.bind (.ref s.heap.objs.size)
      repeat (any_goals (first | assumption | wp_step))
      refine codeAny_mono (codeAny_call_builtin (R := wants (fun r s₂ => r = .none ∧ ∃ h' tk, s₂ = { s with heap := h', toks := tk } ∧ SetS P w h' s.heap.objs.size (insTs xs []) ∧
          (∀ b o, s.heap.get? b = some o → h'.get? b = some o)) E) F.called_set.init.plain F.entry_set_init (check_set_init_1 hT ?_)) fun r₂ s₂ hr₂ => ?_
      · obtain ⟨⟨oc, od, dt, sl⟩, hol, hcl, nl, hdl⟩ := hl
        simp only at hcl hdl
        subst hcl; subst hdl
        have hol' : ((s.heap.push ({ cls := .type "set", dict := none, data := .set #[] 0 (.fresh 0 0 (!w.params.followText "set-order")) } : Obj))).get? l = some { cls := .type "tuple", dict := od, data := .seq its nl, slots := sl } := Heap.get?_push_of_some _ hol
        have z1 := F.sub_tuple_set
        have z2 := F.sub_tuple_frozenset
        have z3 : (Value.type "tuple" == Value.type "dict") = false := by decide
        have hl1 : ((s.heap.push ({ cls := .type "set", dict := none, data := .set #[] 0 (.fresh 0 0 (!w.params.followText "set-order")) } : Obj))).IsTuple l its := ⟨_, hol', rfl, nl, rfl⟩
        unfold Builtin.«set.__init__» noKeywords Builtin.Frozenset.updateFrom
        generalize hPI : pyIter = PI
        wp_walk
        subst hPI
        refine wpAny_pyIter_tuple hl1 ?_
        refine wpAny_bind (wpAny_runValue ?_)
        have hlS : l < s.heap.objs.size := Heap.lt_size hol
        have h3 : A.in1.in1.in1.handled = none := by simp [hh]
        have sz1 : ((s.heap.push ({ cls := .type "set", dict := none, data := .set #[] 0 (.fresh 0 0 (!w.params.followText "set-order")) } : Obj))).objs.size = s.heap.objs.size + 1 := Heap.size_push ..
        have neI : l ≠ ((s.heap.push ({ cls := .type "set", dict := none, data := .set #[] 0 (.fresh 0 0 (!w.params.followText "set-order")) } : Obj))).objs.size := by
          rw [sz1]; exact Nat.ne_of_lt (Nat.lt_succ_of_lt hlS)
        have nS : s.heap.objs.size ∉ [((s.heap.push ({ cls := .type "set", dict := none, data := .set #[] 0 (.fresh 0 0 (!w.params.followText "set-order")) } : Obj))).objs.size, l] := by
          rw [sz1]
          intro z
          rcases List.mem_cons.mp z with z | z
          · exact absurd z (Nat.ne_of_lt (Nat.lt_succ_self _))
          · exact absurd (List.mem_singleton.mp z) (Nat.ne_of_gt hlS)
        have val : ∀ (i : Nat) (v : Value), its[i]? = some v → ∃ k t, xs[i]? = some k ∧ v = .str k t := fun i v hv => by
          have hi : i < xs.length := by rw [← isz]; exact (Array.getElem?_eq_some_iff.mp hv).1
          obtain ⟨t, e⟩ := SS.strs_at hit i v (by rw [Array.getElem?_toList]; exact hv)
          refine ⟨xs[i], t, List.getElem?_eq_getElem hi, ?_⟩
          rw [e, List.getD_eq_getElem?_getD, List.getElem?_eq_getElem hi]
          rfl
        refine upd_strs ((Walks.tuple h3 _ l neI its).toS) s.heap.objs.size nS xs isz hb val (its.size - 0) 0 _ [] (by omega) (Nat.zero_le _) ⟨⟨_, Heap.get?_push_size _ rfl, rfl, rfl⟩, (hl1.push _)⟩ (Nat.zero_le _) ?s0 ?s1
        case s0 => exact setS_new (Heap.get?_push_of_some _ hS)
        case s1 =>
          intro s' hm hS'
          obtain ⟨h', g2, d', tk', os'⟩ := s'
          obtain rfl : g2 = s.gens := hm.gens
          obtain rfl : d' = s.drawn := hm.drawn
          obtain rfl : os' = s.os := hm.os
          show wpAny _ _ _ _ _ _
          refine wpAny_pure ?_
          show wpAny _ _ (ret Value.none) _ _ _
          refine wpAny_pure ⟨rfl, h', tk', rfl, hS', fun b o e => ?_⟩
          have b0 : b < s.heap.objs.size := Heap.lt_size e
          refine hm.heap b o (fun z => ?_) (Heap.get?_push_of_some _ (Heap.get?_push_of_some _ e))
          rcases List.mem_cons.mp z with z | z
          · exact absurd z (Nat.ne_of_lt b0)
          · rw [List.mem_singleton, sz1] at z
            exact absurd z (Nat.ne_of_lt (Nat.lt_succ_of_lt b0))
      · cases r₂ with
        | error e => exact hr₂
        | ok fl₂ =>
          cases fl₂ with
          | ret r =>
            obtain ⟨rfl, h', tk, rfl, hS', hk'⟩ := hr₂
            repeat (any_goals (first | assumption | wp_step))
            exact h _ _ hS' hk'
          | _ => exact hr₂.elim
    | _ => exact hr.elim
end
end Ip

set_option Elab.async false
set_option linter.all false
set_option maxRecDepth 100000
set_option maxHeartbeats 4000000
namespace Ip
open PySem PySem.Spec PyProof.Rows L2 PySem.Froz
theorem perm_sub : ∀ (l m : List Str), l.Nodup → (∀ x ∈ l, x ∈ m) → m.length = l.length → m.Perm l
  | [], m, _, _, h => by
    have e : m = [] := List.length_eq_zero_iff.mp h
    rw [e]
  | x :: r, m, nd, sub, h => by
    obtain ⟨n1, n2⟩ := List.nodup_cons.mp nd
    have hx := sub x List.mem_cons_self
    have p := List.perm_cons_erase hx
    refine p.trans (List.Perm.cons x (perm_sub r (m.erase x) n2 (fun y hy => ?_) ?_))
    · have ne : y ≠ x := fun z => n1 (by rw [← z]; exact hy)
      exact (List.mem_erase_of_ne ne).mpr (sub y (List.mem_cons_of_mem _ hy))
    · rw [List.length_erase_of_mem hx, h]
      rfl
section
variable {P : Program} {w : World} {A : Around} {E : Value → Shared → Prop} {s : Shared} {a : Addr}
/-- the texts that values are -/
def txOf (v : Value) : Str := match v with
  | .str x _ => x
  | _ => Str.empty
theorem el_txt {D : SD} {l : List Str} (F : TxOk P w D l) (nd : l.Nodup) : (∀ e ∈ D.1.toList, ∃ t, e.2 = Value.str (txOf e.2) t) ∧ (D.1.toList.map fun e => txOf e.2).Perm l := by
  have h1 : ∀ e ∈ D.1.toList, ∃ k t, e.2 = Value.str k t := fun e he => by
    obtain ⟨⟨k, hk, _⟩, _⟩ := F.el e he
    cases q : e.2 with
    | str x t => exact ⟨x, t, rfl⟩
    | _ =>
      rw [q] at hk
      cases hk
  have h2 : ∀ e ∈ D.1.toList, ∃ t, e.2 = Value.str (txOf e.2) t := fun e he => by
    obtain ⟨k, t, q⟩ := h1 e he
    exact ⟨t, by rw [q]; rfl⟩
  refine ⟨h2, ?_⟩
  have sub : l ⊆ D.1.toList.map fun e => txOf e.2 := fun k hk => by
    obtain ⟨e, he, q⟩ := (F.mem k).mp hk
    obtain ⟨t, e2⟩ := h2 e he
    rw [e2] at q
    have e3 : (txOf e.2 == k) = true := q
    exact List.mem_map.mpr ⟨e, he, eq_of_beq e3⟩
  have len : (D.1.toList.map fun e => txOf e.2).length = l.length := by rw [List.length_map, Array.length_toList]; exact F.sz
  exact perm_sub l _ nd sub len
theorem each_txt : ∀ {vs : List Value}, (∀ v ∈ vs, ∃ t, v = Value.str (txOf v) t) → PySem.W.EachIs (fun v (b : Str) => ∃ t, v = Value.str b t) vs (vs.map txOf)
  | [], _ => .nil
  | v :: r, h => .cons (h v List.mem_cons_self) (each_txt fun u hu => h u (List.mem_cons_of_mem _ hu))
def leS (x y : Str) : Bool := decide (x.cps.toList ≤ y.cps.toList)
/-- sorted(set of texts) -/
theorem sorted_setS {l : List Str} {Q : Value → Shared → Prop} (R : SetS P w s.heap a l) (hh : A.handled = none) (h64 : l.length < 64) (hu : A.units + 20 < cLine)
    (hQ : ∀ (s' : Shared) (p : Addr) (out : List Value) (c : Nat) (zs : List Str), (∀ b o, s.heap.get? b = some o → s'.heap.get? b = some o) → s'.gens = s.gens → s'.os = s.os → s.heap.objs.size ≤ p →
      s'.heap.get? p = some (seqObj "list" out.toArray c) → PySem.W.EachIs (fun v (b : Str) => ∃ t, v = Value.str b t) out (zs.mergeSort leS) → zs.Perm l → Q (.ref p) s') : wpAny (model P w) A (call (.builtin "sorted") [.ref a]) Q E s := by
  obtain ⟨D, ho, F', r, hl, nd⟩ := R
  obtain ⟨es, ep, t⟩ := D
  obtain ⟨t1, t2⟩ := el_txt F' nd
  have sz : es.size = l.length := F'.sz
  refine Calls.call_function_entry kind_sorted plain_sorted entry_sorted (args_sorted1 _) ?_
  unfold Builtin.«sorted»
  refine wpAny_bind (m := checkCount "sorted" 1 1 _) (wpAny_pure ?_)
  refine wpAny_bind (collect_set (A := A.in1) hh ⟨_, ho, rfl, rfl⟩ F'.fit (by rw [sz]; exact Nat.lt_trans h64 (by decide)) r hl fun s1 vs k1 hz g1 o1 pm => ?_)
  have txt : ∀ v ∈ vs, ∃ t, v = Value.str (txOf v) t := fun v hv => by
    obtain ⟨e, he, q⟩ := List.mem_map.mp (pm.mem_iff.mp hv)
    rw [← q]
    exact t1 e he
  have pz : (vs.map txOf).Perm l := by
    have q := pm.map txOf
    rw [List.map_map] at q
    exact q.trans t2
  have lv : vs.length < 64 := by
    have q := pz.length_eq
    rw [List.length_map] at q
    omega
  refine wpAny_bind (wpAny_newList ?_ (by rw [sizeLine_eq]; omega))
  have hoL : (s1.heap.push (seqObj "list" vs.toArray 0)).get? s1.heap.objs.size = some (seqObj "list" vs.toArray 0) := Heap.get?_push_size _ rfl
  refine wpAny_bind (wpAny_holding (PySem.W.list_sort_data (bs := vs.map txOf) (enc := fun b : Str => PyData.str b) hoL (each_txt txt) ((each_txt txt).mono fun v b ⟨t, q⟩ => ⟨[], by rw [q]; exact .str b t, by simp⟩) (PySem.W.AllAlike.of fun b b' => rfl) (PySem.W.Sortable.others fun b => ⟨fun z => (by cases z), fun xs z => (by cases z)⟩)
    (by rw [List.length_map, sizeLine_eq]; omega) (fun b _ => ?_) fun out hlen hout => ?_))
  · show A.in1.units + 1 + 0 < cLine
    show A.units + 1 + 1 + 0 < cLine
    omega
  · obtain ⟨c, hc⟩ := sortedHeap_at (vs := vs) (out := out.toArray) hoL
    have ed : PySem.W.dataLe false (fun b : Str => PyData.str b) = leS := PySem.W.dataLe_str (fun b : Str => b)
    rw [ed] at hout
    refine wpAny_pure ⟨_, rfl, hQ { s1 with heap := sortedHeap (s1.heap.push (seqObj "list" vs.toArray 0)) s1.heap.objs.size vs out.toArray } s1.heap.objs.size out c (vs.map txOf) (fun b u e => ?_) g1 o1 hz hc hout pz⟩
    have q := k1 b u e
    have lt := Heap.lt_size q
    show (sortedHeap (s1.heap.push (seqObj "list" vs.toArray 0)) s1.heap.objs.size vs out.toArray).get? b = some u
    rw [sortedHeap_old (Nat.ne_of_lt lt) (by rw [size_push']; exact Nat.lt_succ_of_lt lt)]
    exact Heap.get?_push_of_some _ q
end
end Ip

set_option Elab.async false
set_option linter.all false
set_option maxRecDepth 100000
namespace Ip
open PySem
/-! ### in order, each once: there is just one such list -/
abbrev ltS (x y : Str) : Prop := x.cps.toList < y.cps.toList
theorem str_ext {x y : Str} (h : x.cps.toList = y.cps.toList) : x = y := by
  cases x
  cases y
  have e := Array.toList_inj.mp h
  simp only at e
  rw [e]
theorem ltS_irr (x : Str) : ¬ ltS x x := List.lt_irrefl _
theorem ltS_tr {x y z : Str} (a : ltS x y) (b : ltS y z) : ltS x z := List.lt_trans a b
theorem ltS_tri (x y : Str) : ltS x y ∨ x = y ∨ ltS y x := by
  by_cases h1 : ltS x y
  · exact Or.inl h1
  · by_cases h2 : ltS y x
    · exact Or.inr (Or.inr h2)
    · exact Or.inr (Or.inl (str_ext (List.le_antisymm (List.not_lt.mp h2) (List.not_lt.mp h1))))
theorem one_list : ∀ l m : List Str, l.Pairwise ltS → m.Pairwise ltS → (∀ x, x ∈ l ↔ x ∈ m) → l = m
  | [], [], _, _, _ => rfl
  | [], y :: r, _, _, h => absurd ((h y).mpr List.mem_cons_self) (by simp)
  | x :: r, [], _, _, h => absurd ((h x).mp List.mem_cons_self) (by simp)
  | x :: r, y :: q, hl, hm, h => by
    obtain ⟨l1, l2⟩ := List.pairwise_cons.mp hl
    obtain ⟨m1, m2⟩ := List.pairwise_cons.mp hm
    have e : x = y := by
      rcases List.mem_cons.mp ((h x).mp List.mem_cons_self) with z | z
      · exact z
      · rcases List.mem_cons.mp ((h y).mpr List.mem_cons_self) with z2 | z2
        · exact z2.symm
        · exact absurd (ltS_tr (m1 x z) (l1 y z2)) (ltS_irr _)
    subst e
    rw [one_list r q l2 m2 fun z => ⟨fun hz => ?_, fun hz => ?_⟩]
    · rcases List.mem_cons.mp ((h z).mp (List.mem_cons_of_mem _ hz)) with e | e
      · exact absurd (by have q := l1 z hz; rw [← e] at q; exact q : ltS z z) (ltS_irr _)
      · exact e
    · rcases List.mem_cons.mp ((h z).mpr (List.mem_cons_of_mem _ hz)) with e | e
      · exact absurd (by have q := m1 z hz; rw [← e] at q; exact q : ltS z z) (ltS_irr _)
      · exact e
theorem insS_mem (x j : Str) : ∀ l : List Str, j ∈ insS x l ↔ j = x ∨ j ∈ l
  | [] => by simp [insS]
  | y :: r => by
    unfold insS
    split
    · simp
    · split
      · rw [List.mem_cons, insS_mem x j r, List.mem_cons]
        exact ⟨fun h => by rcases h with h | h | h <;> simp [h], fun h => by rcases h with h | h | h <;> simp [h]⟩
      · rename_i h1 h2
        have e : x = y := by
          rcases ltS_tri x y with z | z | z
          · exact absurd z h1
          · exact z
          · exact absurd z h2
        rw [e, List.mem_cons]
        exact ⟨Or.inr, fun h => h.elim Or.inl id⟩
theorem insS_pw (x : Str) : ∀ l : List Str, l.Pairwise ltS → (insS x l).Pairwise ltS
  | [], _ => by simp [insS]
  | y :: r, h => by
    obtain ⟨h1, h2⟩ := List.pairwise_cons.mp h
    unfold insS
    split
    · rename_i c
      exact List.pairwise_cons.mpr ⟨fun z hz => by
        rcases List.mem_cons.mp hz with e | e
        · rw [e]; exact c
        · exact ltS_tr c (h1 z e), h⟩
    · split
      · rename_i c
        refine List.pairwise_cons.mpr ⟨fun z hz => ?_, insS_pw x r h2⟩
        rcases (insS_mem x z r).mp hz with e | e
        · rw [e]; exact c
        · exact h1 z e
      · exact h
theorem sortS_mem (j : Str) : ∀ xs : List Str, j ∈ sortS xs ↔ j ∈ xs
  | [] => by simp [sortS]
  | x :: r => by
    show j ∈ insS x (sortS r) ↔ _
    rw [insS_mem, sortS_mem j r, List.mem_cons]
theorem sortS_pw : ∀ xs : List Str, (sortS xs).Pairwise ltS
  | [] => by simp [sortS]
  | x :: r => insS_pw x _ (sortS_pw r)
theorem pw_lt : ∀ l : List Str, l.Pairwise (fun x y => leS x y = true) → l.Nodup → l.Pairwise ltS
  | [], _, _ => List.Pairwise.nil
  | x :: r, h, nd => by
    obtain ⟨h1, h2⟩ := List.pairwise_cons.mp h
    obtain ⟨n1, n2⟩ := List.nodup_cons.mp nd
    refine List.pairwise_cons.mpr ⟨fun y hy => ?_, pw_lt r h2 n2⟩
    have le : x.cps.toList ≤ y.cps.toList := of_decide_eq_true (h1 y hy)
    rcases ltS_tri x y with z | z | z
    · exact z
    · exact absurd (by rw [z]; exact hy) n1
    · exact absurd z (List.not_lt.mpr le)
theorem merge_sortS {xs zs : List Str} (nd : zs.Nodup) (h : ∀ j, j ∈ zs ↔ j ∈ xs) : zs.mergeSort leS = sortS xs := by
  have pm := List.mergeSort_perm zs leS
  refine one_list _ _ (pw_lt _ ?_ (pm.nodup_iff.mpr nd)) (sortS_pw xs) fun x => by rw [pm.mem_iff, sortS_mem, h]
  refine List.pairwise_mergeSort (fun a b c h1 h2 => ?_) (fun a b => ?_) zs
  · exact decide_eq_true (List.le_trans (of_decide_eq_true h1) (of_decide_eq_true h2))
  · rcases List.le_total a.cps.toList b.cps.toList with z | z
    · exact Bool.or_eq_true_iff.mpr (Or.inl (decide_eq_true z))
    · exact Bool.or_eq_true_iff.mpr (Or.inr (decide_eq_true z))
theorem insTs_nodup : ∀ (xs l : List Str), l.Nodup → (insTs xs l).Nodup
  | [], _, h => h
  | k :: r, l, h => insTs_nodup r (insT k l) (by
    unfold insT
    split
    · exact h
    · rename_i z
      exact List.nodup_cons.mpr ⟨z, h⟩)
end Ip

set_option Elab.async false
set_option linter.all false
set_option maxRecDepth 100000
set_option maxHeartbeats 4000000
namespace Ip
open PySem PySem.Spec PyProof.Rows L2
variable [Tb]
/-! ### sorted(set(a tuple of texts)) -/
theorem insTs_len : ∀ (xs l : List Str), (insTs xs l).length ≤ xs.length + l.length
  | [], l => by simp [insTs]
  | k :: r, l => by
    have h1 := insTs_len r (insT k l)
    have h2 := insT_len k l
    show (insTs r (insT k l)).length ≤ (r.length + 1) + l.length
    omega
theorem vals_each : ∀ {out : List Value} {zs : List Str}, PySem.W.EachIs (fun v (b : Str) => ∃ t, v = Value.str b t) out zs → Vals (zs.map V.str) out
  | _, _, .nil => .nil
  | _, _, .cons ⟨t, e⟩ r => .cons ⟨t, e⟩ (vals_each r)
theorem strs_rpl {K : PySem.W.Frag} {ρ : List Addr} {H : Hp} : ∀ {ys : List AV} {vs : List V} {zs : List Str}, RpL K ρ H vs ys → optAll asStr ys = some zs → vs = zs.map V.str
  | [], _, zs, r, h => by
    cases r
    have e : zs = [] := by simpa [optAll] using h.symm
    rw [e]
    rfl
  | y :: ys, _, zs, r, h => by
    cases r with
    | cons a b =>
      cases y with
      | str x =>
        cases a
        cases q : optAll asStr ys with
        | none => simp [optAll, asStr, q] at h
        | some ws =>
          have e : x :: ws = zs := by simpa [optAll, asStr, q] using h
          rw [← e, strs_rpl b q]
          rfl
      | _ => simp [optAll, asStr] at h
theorem ss_ok {w : Wd} {T : Nat → Nat → List AV → Sto → Rs AV} {k n : Nat} (S : SnE w T k n) : SsE w T k n := by
  intro g E X G a x p1 xs p2 h
  unfold mt at h
  dsimp only at h
  split at h
  · rename_i z pz y pq
    obtain ⟨h, h5⟩ := b2 h
    obtain ⟨h, h4⟩ := b2 h
    obtain ⟨h, h3⟩ := b2 h
    obtain ⟨h1, h2⟩ := b2 h
    obtain ⟨v1, v2, v3⟩ := gl_of h3
    obtain ⟨u1, u2, u3⟩ := gl_of h4
    have e1 : x = "sorted" := of_decide_eq_true h1
    have e2 : z = "set" := of_decide_eq_true h2
    subst e1
    subst e2
    have hh : X.A.handled = none := G.rg.rm.h
    have hu : X.A.units + 100 < cLine := by have := G.rg.rm.u; have := G.rg.rm.le; omega
    constructor
    intro pins s σ H Q I hq
    have na : starEach [y] X.env = (false, eval y X.env) :: starEach [] X.env := star_plain h5
    have read : tI w X.K E (ev T w g n a) σ H (fun v H1 => ∃ ρ1 s1 d, StR X.K ρ1 H1 s1 ∧ Rp X.K ρ1 H1 v d ∧ Out X.K w.xc E ρ1 H1 (Rp X.K) (opBi .sortedSet [d] s1) Q) := by
      obtain ⟨ρ, sl, s0, st, sr, o⟩ := hq
      refine ⟨ρ, sl, s0, st, sr, ?_⟩
      have o2 : Out X.K w.xc E ρ H (Rp X.K) ((ev T w g n a sl s0).bd fun d s => opBi .sortedSet [d] s) Q := by
        have e : ev T w g (n + 1) (.bi .sortedSet [a]) sl s0 = (ev T w g n a sl s0).bd fun d s => opBi .sortedSet [d] s := by
          show (((ev T w g n a sl s0).bd fun x s => (Rs.ok ([] : List AV) s).bd fun xs s => .ok (x :: xs) s).bd fun ds s => opBi .sortedSet ds s) = _
          rw [Rs.assoc]
          rfl
        rw [← e]
        exact o
      refine Out.bd o2 ?_
      intro d s1 ρ1 H1 v _ g1 st1 r1 o1
      exact ⟨ρ1, s1, d, st1, r1, o1⟩
    refine Call_ (ld_blt (u := .builtin "sorted") I v1 (G.bi _ (by decide)) (by decide +kernel) ?_)
    refine PyProof.Rows.callWith_builtin1 (PyProof.Rows.args_cons ?_ rfl) rfl rfl
    refine Call_ (ld_blt (u := .type "set") I u1 (G.bi _ (by decide)) (by decide +kernel) ?_)
    refine PyProof.Rows.callWith_type1 (PyProof.Rows.args_cons (thn ((S g E X G a y h5).run pins s σ H _ I read) fun v s1 hv => PyProof.Rows.args_nil ?_) na) na rfl
    obtain ⟨v0, H1, I1, r1, ρ1, st0, d, st1, rd, o1⟩ := hv
    cases d with
    | tup ys =>
      cases rd with
      | @tup t vs _ hT hL =>
        cases r1
        cases hz : optAll asStr ys with
        | none =>
          have o2 : Out X.K w.xc E ρ1 H1 (Rp X.K) (match optAll asStr ys with
            | some zs => if zs.length < 64 then .ok (.ref st0.length) (st0 ++ [.lst ((sortS zs).map .str)]) else .bad
            | none => .bad) Q := o1
          rw [hz] at o2
          exact o2.elim
        | some zs =>
          have o2 : Out X.K w.xc E ρ1 H1 (Rp X.K) (match optAll asStr ys with
            | some zs => if zs.length < 64 then .ok (.ref st0.length) (st0 ++ [.lst ((sortS zs).map .str)]) else .bad
            | none => .bad) Q := o1
          rw [hz] at o2
          dsimp only at o2
          split at o2
          · rename_i h64
            have ev := strs_rpl hL hz
            subst ev
            obtain ⟨its, rv, pl, hsz⟩ := I1.tuple hT
            have hlen : (insTs zs []).length < 64 := Nat.lt_of_le_of_lt (insTs_len zs []) (by simpa using h64)
            refine call_set_tupT (s := s1) zs hh pl (by simpa using strsAre_of rv) (Nat.lt_trans (Nat.succ_lt_succ h64) (by decide)) fun h' tk R keep => ?_
            refine PyProof.Rows.args_nil ?_
            have I2 : Inv X pins σ H1 { s1 with heap := h', toks := tk } := I1.kept keep
            refine sorted_setS (s := { s1 with heap := h', toks := tk }) R hh hlen (by omega) fun s' p out c zs2 k2 g2 os2 hp hg hout pm => ?_
            have esort : zs2.mergeSort leS = sortS zs := merge_sortS (pm.nodup_iff.mpr (insTs_nodup zs [] List.nodup_nil)) fun j => by
              rw [pm.mem_iff, insTs_mem]
              simp
            rw [esort] at hout
            have rvals := vals_each hout
            have hn : H1 p = none := I2.hok.fresh hp
            have hl2 : ((sortS zs).map V.str).length ≤ sizeLine := by
              have q1 : (sortS zs).length = zs2.length := by
                rw [← esort, List.length_mergeSort]
              rw [List.length_map, q1, pm.length_eq, sizeLine_eq]
              omega
            have J : Inv X pins σ (upd H1 p (.lst ((sortS zs).map V.str))) s' := I2.call' (ch := []) os2 (Un.laid k2 hp hn) (I2.hok.laid k2 hp ⟨hl2, out, c, rvals, hg⟩) (by rw [g2]; exact I2.bare) (fun _ z => nomatch z)
            exact ⟨.ref p, _, J, rfl, Out.new o2 st1 (rpl_strs _) hn⟩
          · exact o2.elim
    | _ => exact o1.elim
  · cases h
end Ip

set_option Elab.async false
set_option linter.all false
set_option maxRecDepth 100000
set_option maxHeartbeats 4000000
namespace Ip
open PySem PySem.Spec PyProof.Rows L2
variable [Tb]
/-! ### all defs of a program -/
theorem tab_bad {C : List AV} {ds : List Df} : ∀ (k d f : Nat) (xs : List AV) (s : Sto), k ≤ d → tab C ds k d f xs s = .bad
  | 0, _, _, _, _, _ => rfl
  | k + 1, 0, _, _, _, h => absurd h (by omega)
  | k + 1, d + 1, f, xs, s, h => tab_bad k d f xs s (by omega)
theorem tab_sub {C : List AV} {ds : List Df} : ∀ (k d : Nat), d ≤ k → tab C ds k d = tab C ds (k - d) 0
  | k, 0, _ => rfl
  | k + 1, d + 1, h => by
    rw [show k + 1 - (d + 1) = k - d from by omega]
    exact tab_sub k d (by omega)
/-- a def: its statement, its names (the parameters first), the parameters, what it is in the small language -/
structure DI where
  st : Stmt
  x : Str
  N : List Str
  ps : List Str
  d : Df
/-- what is looked at once -/
def DI.good (fn cn : List Str) (q : DI) : Bool :=
  decide (q.d.pars = q.ps.length) && decide (q.d.names = q.N.length) && decide (q.ps.length ≤ q.N.length) && all2 (mtS q.N fn cn 100 (defScope q.st)) q.d.body (defBody q.st)
structure DI.At (P : Program) (W : World) (K : PySem.W.Frag) (mg : Str → Option Value) (base : Heap) (q : DI) (f : Addr) (fd : FuncData) (c tP : Addr) : Prop where
  gl : mg q.x = some (.ref f)
  F : FunD K q.x q.x (defArgs q.st) (defBody q.st) (defScope q.st) [] [] f fd
  B : Binds K fd q.ps []
  S : FnScope q.N q.ps (defScope q.st)
  cd : fd.code = .ref c
  TB : GxR.TabB base mg c tP
  tb : tP ∈ Tb.l
theorem prog_ok {P : Program} {W : World} {K : PySem.W.Frag} {mg : Str → Option Value} {base : Heap} {qs : List DI} {cn : List Str} {C : List AV} {xc : List (Addr × List Str)}
    (hq : ∀ q ∈ qs, (q.good (qs.map (·.x)) cn = true) ∧ ∃ f fd c tP, q.At P W K mg base f fd c tP)
    (hss : ∀ (N : List Str) (k n : Nat), SnE ⟨N, qs.map (·.x), cn, C, xc⟩ (tab C (qs.map (·.d)) k) k n → SsE ⟨N, qs.map (·.x), cn, C, xc⟩ (tab C (qs.map (·.d)) k) k n)
    (hc : ∀ (i : Nat) (x : Str) (d : AV), cn[i]? = some x → C[i]? = some d → ∃ u v, mg x = some u ∧ RelV v u ∧ ∀ ρ H, Rp K ρ H v d) (hb : ∀ x ∈ bltins, mg x = none) :
    ∀ (k i : Nat) (q : DI), qs[i]? = some q → ∀ f fd c tP, q.At P W K mg base f fd c tP → FnG P W K mg base k 0 f fd q.ps (spI K xc (tab C (qs.map (·.d)) k 0 i)) := by
  intro k
  induction k using Nat.strongRecOn with
  | _ k ih =>
    intro i q hi f fd c tP hat
    cases k with
    | zero =>
      exact ⟨fun vs H Q E h => by
        obtain ⟨ρ, s, ds, _, _, o⟩ := h
        exact o.elim, fun A outer s H args us vs Q E _ _ _ _ h => by
        obtain ⟨ρ, s, ds, _, _, o⟩ := h
        exact o.elim⟩
    | succ k =>
      obtain ⟨hg, _⟩ := hq q (List.mem_of_getElem? hi)
      unfold DI.good at hg
      obtain ⟨hg, g4⟩ := b2 hg
      obtain ⟨hg, g3⟩ := b2 hg
      obtain ⟨g1, g2⟩ := b2 hg
      refine def_ok (w := ⟨q.N, qs.map (·.x), cn, C, xc⟩) hat.F hat.S (d := q.d) (by rw [List.getElem?_map, hi]; rfl) (of_decide_eq_true g1) (of_decide_eq_true g2) (of_decide_eq_true g3) (by dsimp only; exact g4) (hss q.N k) ?_ hc hb hat.cd hat.TB hat.tb
      intro dd j x hx
      have hx' : (qs.map (·.x))[j]? = some x := hx
      rw [List.getElem?_map] at hx'
      cases e : qs[j]? with
      | none => rw [e] at hx'; cases hx'
      | some r =>
        rw [e] at hx'
        have ex : r.x = x := Option.some.inj hx'
        obtain ⟨_, f2, fd2, c2, tP2, at2⟩ := hq r (List.mem_of_getElem? e)
        refine ⟨f2, fd2, r.ps, by rw [← ex]; exact at2.gl, at2.F.kp, at2.B, ?_⟩
        show FnG P W K mg base k dd f2 fd2 r.ps (spI K xc (tab C (qs.map (·.d)) k dd j))
        by_cases hdd : dd ≤ k
        · have G0 := ih (k - dd) (by omega) j r e f2 fd2 c2 tP2 at2
          rw [tab_sub k dd hdd]
          exact ⟨G0.len, fun A outer s H args us vs Q E hr => G0.run A outer s H args us vs Q E (hr.sub hdd)⟩
        · have bad : ∀ xs s, tab C (qs.map (·.d)) k dd j xs s = .bad := fun xs s => tab_bad k dd j xs s (by omega)
          refine ⟨fun vs H Q E h => ?_, fun A outer s H args us vs Q E _ _ _ _ h => ?_⟩
          · obtain ⟨ρ, s, ds, _, _, o⟩ := h
            rw [bad] at o
            exact o.elim
          · obtain ⟨ρ, s, ds, _, _, o⟩ := h
            rw [bad] at o
            exact o.elim
end Ip

set_option Elab.async false
set_option linter.all false
set_option maxRecDepth 100000
set_option maxHeartbeats 4000000
namespace Ip
open PySem PySem.Spec PyProof.Rows L2
/-! ### the law's end -/
section
variable {P : Program} {W : World} {K : PySem.W.Frag} {mg mb : Str → Option Value} {cs : List (Addr × Addr)} {a : Addr} {s1 : Shared} {vs : List Value} {ns : List Int}
/-- what is tracked at the law's call: the tables, the script where it is none of K -/
def H0 (K : PySem.W.Frag) (cs : List (Addr × Addr)) (a : Addr) (vs : List Value) (ns : List Int) : Hp := fun b =>
  if b ∈ cs.map Prod.snd then some (.tbl #[]) else if b = a ∧ K.lookup a = none then some (.frz { cls := .type "list", data := .seq vs.toArray } (.lst (ns.map V.int))) else none
theorem H0_tab {b : Addr} (h : b ∈ cs.map Prod.snd) : H0 K cs a vs ns b = some (.tbl #[]) := if_pos h
theorem H0_cases (b : Addr) : (b ∈ cs.map Prod.snd ∧ H0 K cs a vs ns b = some (.tbl #[])) ∨ (b ∉ cs.map Prod.snd ∧ b = a ∧ K.lookup a = none ∧ H0 K cs a vs ns b = some (.frz { cls := .type "list", data := .seq vs.toArray } (.lst (ns.map V.int)))) ∨ (b ∉ cs.map Prod.snd ∧ ¬ (b = a ∧ K.lookup a = none) ∧ H0 K cs a vs ns b = none) := by
  by_cases h1 : b ∈ cs.map Prod.snd
  · exact Or.inl ⟨h1, if_pos h1⟩
  · by_cases h2 : b = a ∧ K.lookup a = none
    · exact Or.inr (Or.inl ⟨h1, h2.1, h2.2, by unfold H0; rw [if_neg h1, if_pos h2]⟩)
    · exact Or.inr (Or.inr ⟨h1, h2, by unfold H0; rw [if_neg h1, if_neg h2]⟩)
theorem law_run {k : Nat} {fa : Addr} {fd : FuncData} {x : Str} {sp : Sp} (inK : K.In s1.heap) (gl : s1.heap.Ns mainGlobals mg) (bl : s1.heap.Ns builtinsNs mb) (boot : ∀ x : Str, x ≠ "__name__" → mb x = bootBuiltins x) (lim : s1.heap.NoLimit) (nog : s1.gens = #[])
    (tE : ∀ p ∈ cs, s1.heap.get? p.2 = some { cls := .none, data := .fields #[] }) (tK : ∀ p ∈ cs, K.lookup p.2 = none) (tC : ∀ p ∈ cs, PySem.W.CodeHd s1.heap p.1 p.2)
    (bm : ∃ (m : Addr) (ob : Obj), mg "__builtins__" = some (.ref m) ∧ m ≠ builtinsNs ∧ s1.heap.get? m = some ob ∧ ob.cls = .type "module" ∧ ob.dict = some builtinsNs ∧ ob.data = .plain)
    (ha : s1.heap.get? a = some { cls := .type "list", data := .seq vs.toArray }) (hi : IntsAre vs ns) (hl : ns.length ≤ sizeLine) (hr : Rm k 0 callerA)
    (F : ∀ base : Heap, K.In base → base.Ns mainGlobals mg → (∀ p ∈ cs, GxR.TabB base mg p.1 p.2) → FnG P W K mg base k 0 fa fd [x] sp) (bnd : ∀ (s : Shared) (u : Value), BindsTo s fd ⟨[u], []⟩ [(x, u)])
    (hsp : ∀ H : Hp, (∀ p ∈ cs, H p.2 = some (.tbl #[])) → FzL K H a (ns.map V.int) → sp [.ref a] H (fun v _ => v = .bl true) E0) :
    codeAny (model P W) callerA (.call (.ref fa) ⟨[.ref a], []⟩) (fun r s' => r = .ok (.ret (.bool true)) ∧ OldK s1.heap s'.heap ∧ s'.os = s1.os ∧ AllBare s'.gens) s1 := by
  have rv := vals_ints hi
  have lv := hi.length
  have tE2 : ∀ b ∈ cs.map Prod.snd, s1.heap.get? b = some { cls := .none, data := .fields #[] } := fun b hb => by
    obtain ⟨p, hp, rfl⟩ := List.mem_map.mp hb
    exact tE p hp
  -- an object that is neither a list nor an empty table is not tracked
  have un : ∀ (b : Addr) (o : Obj), s1.heap.get? b = some o → (∀ vs n, o.data ≠ .seq vs n) → o.data ≠ .fields #[] → H0 K cs a vs ns b = none := fun b o e d1 d2 => by
    rcases H0_cases (K := K) (cs := cs) (a := a) (vs := vs) (ns := ns) b with ⟨q, _⟩ | ⟨_, q, _⟩ | ⟨_, _, q⟩
    · rw [tE2 b q] at e
      cases e
      exact absurd rfl d2
    · rw [q, ha] at e
      cases e
      exact absurd rfl (d1 _ _)
    · exact q
  have hid : ∀ (b : Addr) (o : Obj), s1.heap.get? b = some o → H0 K cs a vs ns b = none → (hidT s1.heap (H0 K cs a vs ns)).get? b = some o := fun b o e n => hidT_get e n
  have ns_ : ∀ (b : Addr) (m : Str → Option Value), s1.heap.Ns b m → (hidT s1.heap (H0 K cs a vs ns)).Ns b m := fun b m h => by
    obtain ⟨o, es, ep, e, d, r⟩ := h
    refine ⟨o, es, ep, hid b o e (un b o e (fun vs n z => ?_) fun z => ?_), d, r⟩
    · rw [d] at z; cases z
    · rw [d] at z; cases z
  have kB : K.In (hidT s1.heap (H0 K cs a vs ns)) := fun b o e => by
    refine hid b o (inK b o e) ?_
    rcases H0_cases (K := K) (cs := cs) (a := a) (vs := vs) (ns := ns) b with ⟨q, _⟩ | ⟨_, q, q2, _⟩ | ⟨_, _, q⟩
    · obtain ⟨p, hp, rfl⟩ := List.mem_map.mp q
      rw [tK p hp] at e
      cases e
    · rw [q, q2] at e
      cases e
    · exact q
  have md : Mod K mg (hidT s1.heap (H0 K cs a vs ns)) := ⟨kB, ns_ _ _ gl, ⟨mb, ns_ _ _ bl, boot⟩, by
    obtain ⟨mc, q1, q2⟩ := lim
    exact ⟨mc, ns_ _ _ q1, q2⟩⟩
  have tbs : ∀ p ∈ cs, GxR.TabB (hidT s1.heap (H0 K cs a vs ns)) mg p.1 p.2 := fun p hp => by
    have e0 := tE p hp
    refine ⟨?_, ?_, fun z => ?_⟩
    · obtain ⟨o, us, f1, f2, f3, f4, f5, f6, f7, q, r1, r2, r3, r⟩ := tC p hp
      refine ⟨o, us, f1, f2, f3, f4, f5, f6, f7, hid _ o q (un _ o q (fun vs n z => ?_) fun z => ?_), r1, r2, r3, r⟩
      · rw [r2] at z; cases z
      · rw [r2] at z
        cases z
        simp at r3
    · obtain ⟨m, ob, q1, q2, q3, q4, q5, q6⟩ := bm
      refine ⟨m, ob, q1, q2, fun z => ?_, fun z => ?_, hid _ ob q3 (un _ ob q3 (fun vs n z => ?_) fun z => ?_), q4, q5, q6⟩
      · obtain ⟨o, es, ep, e, hd, _⟩ := gl
        rw [z, e] at q3
        cases q3
        rw [hd] at q6
        cases q6
      · rw [z, e0] at q3
        cases q3
        cases q6
      · rw [q6] at z; cases z
      · rw [q6] at z; cases z
    · obtain ⟨o, es, ep, e, hd, _⟩ := gl
      rw [z, e0] at e
      cases e
      cases hd
  have ok : HOk P W (H0 K cs a vs ns) s1.heap := fun b o e => by
    rcases H0_cases (K := K) (cs := cs) (a := a) (vs := vs) (ns := ns) b with ⟨q, q2⟩ | ⟨_, q, _, q2⟩ | ⟨_, _, q2⟩
    · rw [q2] at e
      cases e
      exact tE2 b q
    · rw [q2] at e
      cases e
      rw [q]
      exact ⟨ha, by rw [List.length_map]; exact hl, vs, _, rv, ha⟩
    · rw [q2] at e
      cases e
  have e0 : Env0 P W K mg (hidT s1.heap (H0 K cs a vs ns)) callerA [] s1 (H0 K cs a vs ns) := {
    frames := rfl
    mod := md
    bs := fun b o e => of_hidT e
    bsz := Nat.le_of_eq (hidT_size _ _)
    funs := trivial
    frf := fun b hb => absurd (show b ∈ ([] : List Addr) from hb) (by simp)
    hok := ok
    bare := AllBare.of_eq nog }
  have fz : FzL K (H0 K cs a vs ns) a (ns.map V.int) := by
    cases hk : K.lookup a with
    | some o =>
      have e := inK a o hk
      rw [ha] at e
      cases e
      exact .kk hk rfl rfl rfl (by rw [List.size_toArray, lv]; exact hl) (by simpa using rv)
    | none =>
      rcases H0_cases (K := K) (cs := cs) (a := a) (vs := vs) (ns := ns) a with ⟨q, _⟩ | ⟨_, _, _, q2⟩ | ⟨_, q, _⟩
      · have e := tE2 a q
        rw [ha] at e
        cases e
      · exact .frz q2
      · exact absurd ⟨rfl, hk⟩ q
  refine codeAny_mono ((F _ kB (ns_ _ _ gl) tbs).run callerA [] s1 _ ⟨[.ref a], []⟩ [.ref a] [.ref a] _ _ hr e0 (bnd s1 (.ref a)) (.cons rfl .nil) (hsp _ (fun p hp => H0_tab (List.mem_map.mpr ⟨p, hp, rfl⟩)) fz)) ?_
  intro r s' h
  match r, h with
  | .error e, h =>
    obtain ⟨_, _, _, _, _, _, _, _, _, _, _, _, z⟩ := h
    exact z.elim
  | .ok (.ret u), h =>
    obtain ⟨v, H', os, bare, un', hok', r', q⟩ := h
    have qv : v = .bl true := q
    subst qv
    cases r'
    have stays : ∀ (b : Addr) (o : Obj), b ∉ cs.map Prod.snd → s1.heap.get? b = some o → s'.heap.get? b = some o := fun b o nb e => by
      rcases H0_cases (K := K) (cs := cs) (a := a) (vs := vs) (ns := ns) b with ⟨q, _⟩ | ⟨_, _, _, q2⟩ | ⟨_, _, q2⟩
      · exact absurd q nb
      · obtain ⟨z1, _⟩ := ok b _ q2
        obtain ⟨z2, _⟩ := hok' b _ (un'.frzs b _ _ q2)
        rw [e] at z1
        cases z1
        exact z2
      · exact un'.keep b o e q2 (fun z => by cases z) (fun z => by cases z)
    have grow : ∀ p ∈ cs, ∃ more : Array Value, s'.heap.get? p.2 = some { cls := .none, data := .fields more } := fun p hp => by
      obtain ⟨more, z⟩ := un'.tbls p.2 #[] (H0_tab (List.mem_map.mpr ⟨p, hp, rfl⟩))
      exact ⟨_, hok' p.2 _ z⟩
    refine ⟨rfl, ⟨fun b o e => ?_, fun b o e => ?_⟩, os, bare⟩
    · by_cases hb : b ∈ cs.map Prod.snd
      · obtain ⟨p, hp, rfl⟩ := List.mem_map.mp hb
        obtain ⟨more, m⟩ := grow p hp
        rw [tE p hp] at e
        cases e
        refine .inr (.inl ⟨((tC p hp).tab (tE p hp)).isCodeTable, rfl, #[], more, rfl, ?_⟩)
        rw [Array.empty_append]
        exact m
      · exact .inl (stays b o hb e)
    · by_cases hb : b ∈ cs.map Prod.snd
      · obtain ⟨p, hp, rfl⟩ := List.mem_map.mp hb
        obtain ⟨more, m⟩ := grow p hp
        exact ⟨_, m⟩
      · exact ⟨o, stays b o hb e⟩
end
end Ip

set_option Elab.async false
set_option linter.all false
set_option maxRecDepth 100000
set_option maxHeartbeats 4000000
namespace Ip
open PySem PySem.Spec PyProof.Rows L2
/-! ### the module's constants -/
mutual
def rpV (K : PySem.W.Frag) (u : Value) : AV → Bool
  | .non => (match u with
    | .none => true
    | _ => false)
  | .bl b => (match u with
    | .bool c => b == c
    | _ => false)
  | .int i => (match u with
    | .int j _ => decide (i = j)
    | _ => false)
  | .str x => (match u with
    | .str y _ => decide (x = y)
    | _ => false)
  | .tup ds => (match u with
    | .ref a => (match K.lookup a with
      | some ⟨.type c, _, .seq its _, _⟩ => decide (c = "tuple") && decide (its.size ≤ sizeLine) && rpVs K its.toList ds
      | _ => false)
    | _ => false)
  | .lst ds => (match u with
    | .ref a => (match K.lookup a with
      | some ⟨.type c, none, .seq its _, _⟩ => decide (c = "list") && decide (its.size ≤ sizeLine) && rpVs K its.toList ds
      | _ => false)
    | _ => false)
  | .ref _ => false
def rpVs (K : PySem.W.Frag) : List Value → List AV → Bool
  | [], [] => true
  | u :: us, d :: ds => rpV K u d && rpVs K us ds
  | _, _ => false
end
mutual
theorem rpV_ok {K : PySem.W.Frag} : ∀ (d : AV) (u : Value), rpV K u d = true → ∃ v, RelV v u ∧ ∀ ρ H, Rp K ρ H v d
  | .non, u, h => by
    cases u <;> first | exact ⟨.non, rfl, fun _ _ => .non⟩ | (simp [rpV] at h; done)
  | .bl b, u, h => by
    cases u <;> first | (simp [rpV] at h; done) | skip
    rename_i c
    have e : b = c := by simpa [rpV] using h
    subst e
    exact ⟨.bl b, rfl, fun _ _ => .bl b⟩
  | .int i, u, h => by
    cases u <;> first | (simp [rpV] at h; done) | skip
    rename_i j t
    have e : i = j := by simpa [rpV] using h
    subst e
    exact ⟨.int i, ⟨t, rfl⟩, fun _ _ => .int i⟩
  | .str x, u, h => by
    cases u <;> first | (simp [rpV] at h; done) | skip
    rename_i y t
    have e : x = y := by simpa [rpV] using h
    subst e
    exact ⟨.str x, ⟨t, rfl⟩, fun _ _ => .str x⟩
  | .tup ds, u, h => by
    cases u <;> first | (simp [rpV] at h; done) | skip
    rename_i a
    have h2 : (match K.lookup a with
      | some ⟨.type c, _, .seq its _, _⟩ => decide (c = "tuple") && decide (its.size ≤ sizeLine) && rpVs K its.toList ds
      | _ => false) = true := by simpa only [rpV] using h
    split at h2
    · rename_i c od its n sl e
      rw [Bool.and_eq_true, Bool.and_eq_true] at h2
      obtain ⟨⟨h3, h4⟩, h5⟩ := h2
      obtain ⟨vs, r, rp⟩ := rpVs_ok ds its.toList h5
      exact ⟨.ref a, rfl, fun ρ H => .tup (Or.inr ⟨_, its, n, e, congrArg Value.type (of_decide_eq_true h3), rfl, of_decide_eq_true h4, r⟩) (rp ρ H)⟩
    · cases h2
  | .lst ds, u, h => by
    cases u <;> first | (simp [rpV] at h; done) | skip
    rename_i a
    have h2 : (match K.lookup a with
      | some ⟨.type c, none, .seq its _, _⟩ => decide (c = "list") && decide (its.size ≤ sizeLine) && rpVs K its.toList ds
      | _ => false) = true := by simpa only [rpV] using h
    split at h2
    · rename_i c its n sl e
      rw [Bool.and_eq_true, Bool.and_eq_true] at h2
      obtain ⟨⟨h3, h4⟩, h5⟩ := h2
      obtain ⟨vs, r, rp⟩ := rpVs_ok ds its.toList h5
      exact ⟨.ref a, rfl, fun ρ H => .lst (.kk e (congrArg Value.type (of_decide_eq_true h3)) rfl rfl (of_decide_eq_true h4) r) (rp ρ H)⟩
    · cases h2
  | .ref _, u, h => by simp [rpV] at h
theorem rpVs_ok {K : PySem.W.Frag} : ∀ (ds : List AV) (us : List Value), rpVs K us ds = true → ∃ vs, Vals vs us ∧ ∀ ρ H, RpL K ρ H vs ds
  | [], us, h => by
    cases us with
    | nil => exact ⟨[], .nil, fun _ _ => .nil⟩
    | cons _ _ => simp [rpVs] at h
  | d :: ds, us, h => by
    cases us with
    | nil => simp [rpVs] at h
    | cons u us =>
      have h2 : (rpV K u d && rpVs K us ds) = true := by simpa only [rpVs] using h
      rw [Bool.and_eq_true] at h2
      obtain ⟨v, r, rp⟩ := rpV_ok d u h2.1
      obtain ⟨vs, rs, rps⟩ := rpVs_ok ds us h2.2
      exact ⟨v :: vs, .cons r rs, fun ρ H => .cons (rp ρ H) (rps ρ H)⟩
end
def conOk (K : PySem.W.Frag) : List Str → List AV → Bool
  | [], [] => true
  | x :: xs, d :: ds => (match PySem.W.nsIn K mainGlobals x with
    | some (some u) => rpV K u d
    | _ => false) && conOk K xs ds
  | _, _ => false
theorem conOk_at {K : PySem.W.Frag} {h : Heap} {mg : Str → Option Value} (X : K.In h) (G : h.Ns mainGlobals mg) : ∀ {cn : List Str} {C : List AV}, conOk K cn C = true → ∀ (i : Nat) (x : Str) (d : AV), cn[i]? = some x → C[i]? = some d → ∃ u v, mg x = some u ∧ RelV v u ∧ ∀ ρ H, Rp K ρ H v d
  | [], _, _, i, x, d, e, _ => by simp at e
  | y :: ys, [], hc, _, _, _, _, _ => by simp [conOk] at hc
  | y :: ys, d0 :: ds, hc, i, x, d, e1, e2 => by
    have hc2 : ((match PySem.W.nsIn K mainGlobals y with
      | some (some u) => rpV K u d0
      | _ => false) && conOk K ys ds) = true := by simpa only [conOk] using hc
    rw [Bool.and_eq_true] at hc2
    obtain ⟨h1, h2⟩ := hc2
    cases i with
    | zero =>
      simp at e1 e2
      subst e1 e2
      split at h1
      · rename_i u q
        obtain ⟨v, r, rp⟩ := rpV_ok _ u h1
        exact ⟨u, v, PySem.W.mg_of X G q, r, rp⟩
      · cases h1
    | succ i => exact conOk_at X G h2 i x d (by simpa using e1) (by simpa using e2)
/-! ### what the head tells -/
def DI.dd (q : DI) : He.DefD := ⟨(q.x, none), q.x, q.x, defArgs q.st, defBody q.st, defScope q.st, [], []⟩
/-- the defs' objects, the builtins' names, the constants, the tables -/
def hFa (qs : List DI) : List He.Fa := qs.map (fun q => He.Fa.glo q.x) ++ bltins.map He.Fa.free
end Ip

set_option Elab.async false
set_option linter.all false
set_option maxRecDepth 100000
set_option maxHeartbeats 4000000
namespace Ip
open PySem PySem.Spec PyProof.Rows L2
/-- the statement's parameters are just these names -/
def BindsAs (q : DI) : Prop := ∀ (kV doc pm : Value) (an : Option Addr) (cdv ct : Value) (us : List Value), us.length = q.ps.length → bindArgs (PySem.W.fnOf q.x q.x (defArgs q.st) (defBody q.st) (defScope q.st) .none kV doc pm an cdv ct) ⟨us, []⟩ = pure (q.ps.zip us)
def Says (qs : List DI) (cn : List Str) (C : List AV) (w : World) (h : Heap) : Prop := ∃ K : PySem.W.Frag, K.In h ∧ He.SaysX (hFa qs) (qs.map DI.dd) [] (qs.map fun q => (q.x, none)) (fun K => conOk K cn C) w h K
theorem law_walk {l : PySem.W.OpenLaw} {n k li : Nat} {q : Program} {loose : List Str} {XP : (Str → Option Value) → Heap → Prop} {YP : World → Heap → Prop} {d : DefRec} {qs : List DI} {ql : DI} {cn : List Str} {C : List AV} {x : Str}
    (hn : l.most = some n) (hn2 : n ≤ sizeLine) (hdf : d.params.defaults = []) (hr : Rm k 0 callerA) (hY : ∀ w h, YP w h → Says qs cn C w h) (hli : qs[li]? = some ql) (hnm : d.name = ql.x) (hps : ql.ps = [x])
    (good : ∀ q ∈ qs, q.good (qs.map (·.x)) cn = true ∧ FnScope q.N q.ps (defScope q.st) ∧ BindsAs q)
    (hss : ∀ [Tb] (N : List Str) (k n : Nat), SnE ⟨N, qs.map (·.x), cn, C, []⟩ (tab C (qs.map (·.d)) k) k n → SsE ⟨N, qs.map (·.x), cn, C, []⟩ (tab C (qs.map (·.d)) k) k n)
    (math : ∀ ns : List Int, ns.length ≤ n → (∀ z ∈ ns, Builtin.Int.intBits z ≤ 1048576) → ∃ s', tab C (qs.map (·.d)) k 0 li [.lst (ns.map AV.int)] [] = .ok (.bl true) s') :
    PySem.W.WalkO q loose XP YP l.row.toRowW d [] (fun f vs => PySem.call f vs) := by
  refine Att.attach_callB hn hdf fun w s₀ s₁ mg mb fa o pm cd doc a vs ns G Y ho hd hcd hmg hobj hints hlen hbits hg => ?_
  obtain ⟨K, KX, c⟩ := hY w _ Y
  letI tbI : Tb := ⟨(qs.map fun q => He.cT K (q.x, none)).map Prod.snd⟩
  have Gg := G.T.g
  have memP : ∀ q ∈ qs, He.cT K (q.x, none) ∈ qs.map fun q => He.cT K (q.x, none) := fun q hq => List.mem_map.mpr ⟨q, hq, rfl⟩
  have tfm : ∀ q ∈ qs, (q.x, (none : Option Str)) ∈ qs.map fun q => ((q.x, none) : He.Defn) := fun q hq => List.mem_map.mpr ⟨q, hq, rfl⟩
  have ofP : ∀ p ∈ qs.map fun q => He.cT K (q.x, none), ∃ q ∈ qs, p = He.cT K (q.x, none) := fun p hp => by
    obtain ⟨q, hq, e⟩ := List.mem_map.mp hp
    exact ⟨q, hq, e.symm⟩
  have glo : ∀ q ∈ qs, mg q.x = some (.ref (He.ga K q.x)) := fun q hq => He.glo_ok KX Gg (c.t.d.facts (f := .glo q.x) (List.mem_append_left _ (List.mem_map.mpr ⟨q, hq, rfl⟩)))
  have free : ∀ y ∈ bltins, mg y = none := fun y hy => He.free_ok KX Gg (c.t.d.facts (f := .free y) (List.mem_append_right _ (List.mem_map.mpr ⟨y, hy, rfl⟩)))
  have cons := conOk_at KX Gg c.more
  have defs : ∀ q ∈ qs, ∃ fd, FunD K q.x q.x (defArgs q.st) (defBody q.st) (defScope q.st) [] [] (He.ga K q.x) fd ∧ fd.code = .ref (He.cT K (q.x, none)).1 := fun q hq => by
    obtain ⟨fd, F⟩ := c.t.d.defs (d := q.dd) (List.mem_map.mpr ⟨q, hq, rfl⟩)
    refine ⟨fd, F, ?_⟩
    obtain ⟨oc, od, dV, kV, doc, pm, an, cdv, ct, osl, e, lk, hci, _, _⟩ := F.ex
    obtain ⟨c0, ec⟩ := He.codeIn_ref hci
    have e1 : fd.code = .ref c0 := by
      rw [e]
      exact ec
    have e2 : He.codeOf K (q.x, none) = c0 := He.codeOf_eq lk e1
    rw [e1]
    show Value.ref c0 = Value.ref (He.codeOf K (q.x, none))
    rw [e2]
  have at_ : ∀ base : Heap, (∀ p ∈ qs.map (fun q => He.cT K (q.x, none)), GxR.TabB base mg p.1 p.2) → ∀ q ∈ qs, ∃ fd, DI.At l.prog w K mg base q (He.ga K q.x) fd (He.cT K (q.x, none)).1 (He.cT K (q.x, none)).2 := fun base tb q hq => by
    obtain ⟨fd, F, ec⟩ := defs q hq
    obtain ⟨_, S, B⟩ := good q hq
    exact ⟨fd, glo q hq, F, FunD.bindsN F B, S, ec, tb _ (memP q hq), List.mem_map.mpr ⟨_, memP q hq, rfl⟩⟩
  have hql := List.mem_of_getElem? hli
  obtain ⟨fdl, Fl, ecl⟩ := defs ql hql
  have efa : fa = He.ga K ql.x := by
    have e := glo ql hql
    rw [← hnm, hmg] at e
    cases e
    rw [hnm]
  subst efa
  have main : ∀ base : Heap, K.In base → base.Ns mainGlobals mg → (∀ p ∈ qs.map (fun q => He.cT K (q.x, none)), GxR.TabB base mg p.1 p.2) → FnG l.prog w K mg base k 0 (He.ga K ql.x) fdl [x] (spI K [] (tab C (qs.map (·.d)) k 0 li)) := fun base kb nb tb => by
    have A := at_ base tb
    obtain ⟨fd2, At2⟩ := A ql hql
    have efd : fd2 = fdl := by
      obtain ⟨oc, od, dV, kV, doc, pm, an, cdv, ct, osl, e, lk, _⟩ := Fl.ex
      obtain ⟨oc2, od2, dV2, kV2, doc2, pm2, an2, cdv2, ct2, osl2, e2, lk2, _⟩ := At2.F.ex
      rw [lk] at lk2
      cases lk2
      rfl
    subst efd
    have R := prog_ok (P := l.prog) (W := w) (K := K) (mg := mg) (base := base) (qs := qs) (cn := cn) (C := C) (xc := []) (fun q hq => ⟨(good q hq).1, He.ga K q.x, by
      obtain ⟨fd, h⟩ := A q hq
      exact ⟨fd, _, _, h⟩⟩) hss cons free k li ql hli _ _ _ _ At2
    rw [hps] at R
    exact R
  have bnd : ∀ (s : Shared) (u : Value), BindsTo s fdl ⟨[u], []⟩ [(x, u)] := fun s u => by
    have h := FunD.bindsA Fl (good ql hql).2.2 s [u] (by rw [hps]; rfl)
    rw [hps] at h
    exact h
  refine law_run (cs := qs.map fun q => He.cT K (q.x, none)) KX Gg G.T.b G.T.builtins G.T.nolimit hg (fun p hp => ?_) (fun p hp => ?_) (fun p hp => ?_) G.T.bmain hobj hints (Nat.le_trans hlen hn2) hr main bnd (fun H hH hz => ?_)
  · obtain ⟨q, hq, rfl⟩ := ofP p hp
    exact c.empty _ (tfm q hq)
  · obtain ⟨q, hq, rfl⟩ := ofP p hp
    exact c.out _ (tfm q hq)
  · obtain ⟨q, hq, rfl⟩ := ofP p hp
    exact PySem.W.codeHd_of_K KX (c.hd _ (tfm q hq))
  · obtain ⟨s', e⟩ := math ns hlen hbits
    refine ⟨[], [], [.lst (ns.map AV.int)], ⟨rfl, List.nodup_nil, fun P hP => ?_, fun m a o e1 e2 => by simp at e1⟩, .cons (.lst hz ?_) .nil, ?_⟩
    · obtain ⟨p, hp, rfl⟩ := List.mem_map.mp hP
      exact ⟨#[], hH p hp, trivial⟩
    · have all : ∀ zs : List Int, RpL K [] H (zs.map V.int) (zs.map AV.int) := fun zs => by
        induction zs with
        | nil => exact .nil
        | cons z r ih => exact .cons (.int z) ih
      exact all ns
    · rw [e]
      intro ρ' H' b _ _ rb
      cases rb
      rfl
end Ip

set_option Elab.async false
set_option linter.all false
set_option maxRecDepth 100000
namespace Ip
open PySem PySem.Spec PyProof.Rows L2
def scB (q : DI) : Bool := decide ((defScope q.st).kind = .function) && !(defScope q.st).isCoroutine && !(defScope q.st).isGenerator && decide (q.N.Nodup) && decide (q.N.take q.ps.length = q.ps) &&
  (q.ps.all fun x => decide ((defScope q.st).names.lookup x = some .local) || decide ((defScope q.st).names.lookup x = some .cell)) && ((defScope q.st).names.all fun y => decide (y.2 ≠ .free))
theorem scB_ok {q : DI} (h : scB q = true) : FnScope q.N q.ps (defScope q.st) := by
  unfold scB at h
  obtain ⟨h, h7⟩ := He.ba h
  obtain ⟨h, h6⟩ := He.ba h
  obtain ⟨h, h5⟩ := He.ba h
  obtain ⟨h, h4⟩ := He.ba h
  obtain ⟨h, h3⟩ := He.ba h
  obtain ⟨h1, h2⟩ := He.ba h
  refine ⟨of_decide_eq_true h1, by simpa using h2, by simpa using h3, of_decide_eq_true h4, of_decide_eq_true h5, fun x hx => ?_, fun y hy => of_decide_eq_true (List.all_eq_true.mp h7 y hy)⟩
  rcases Bool.or_eq_true_iff.mp (List.all_eq_true.mp h6 x hx) with z | z
  · exact Or.inl (of_decide_eq_true z)
  · exact Or.inr (of_decide_eq_true z)
end Ip

set_option maxRecDepth 1000000
namespace K00
open PySem Ip
def cons : List AV := [(.str ⟨⟨[97, 98, 99, 100, 101, 102, 103, 104, 105, 106, 107, 108, 109, 110, 111, 112, 113, 114, 115, 116, 117, 118, 119, 120, 121, 122]⟩⟩), (.str ⟨⟨[48, 49, 50, 51, 52, 53, 54, 55, 56, 57]⟩⟩), (.tup [(.str ⟨⟨[105, 102]⟩⟩), (.str ⟨⟨[116, 104, 101, 110]⟩⟩), (.str ⟨⟨[101, 108, 115, 101]⟩⟩), (.str ⟨⟨[111, 114]⟩⟩), (.str ⟨⟨[97, 110, 100]⟩⟩), (.str ⟨⟨[110, 111, 116]⟩⟩), (.str ⟨⟨[121, 101, 115]⟩⟩), (.str ⟨⟨[110, 111]⟩⟩), (.str ⟨⟨[114, 111, 119]⟩⟩)]), (.int 6), (.int 100), (.int 9999)]
/-- is_name -/
def d0 : Df := ⟨2, 1,
    [(.ifs (.or_ (.nt (.isi (.slot 0) .str)) (.cmp .in_ (.slot 0) (.con 2))) [(.ret (.lit (.bl false)))] []),
      (.ifs (.or_ (.nt (.chain .le .le (.lit (.int 1)) (.bi .len [(.slot 0)]) (.con 3))) (.cmp .notin (.idx (.slot 0) (.lit (.int 0))) (.con 0))) [(.ret (.lit (.bl false)))] []),
      (.ret (.quant true 1 (.or_ (.cmp .in_ (.slot 1) (.con 0)) (.cmp .in_ (.slot 1) (.con 1))) (.slot 0)))]⟩
/-- is_numeral -/
def d1 : Df := ⟨2, 1,
    [(.ifs (.or_ (.cmp .eq (.slot 0) (.lit (.str ⟨⟨[]⟩⟩))) (.nt (.quant true 1 (.cmp .in_ (.slot 1) (.con 1)) (.slot 0)))) [(.ret (.lit (.bl false)))] []),
      (.ret (.or_ (.cmp .eq (.slot 0) (.lit (.str ⟨⟨[48]⟩⟩))) (.cmp .ne (.idx (.slot 0) (.lit (.int 0))) (.lit (.str ⟨⟨[48]⟩⟩)))))]⟩
/-- is_value -/
def d2 : Df := ⟨3, 1,
    [(.ifs (.or_ (.nt (.isi (.slot 0) .tuple)) (.cmp .ne (.bi .len [(.slot 0)]) (.lit (.int 2)))) [(.ret (.lit (.bl false)))] []),
      (.asg (.tp [(.nm 1), (.nm 2)]) (.slot 0)),
      (.ifs (.cmp .eq (.slot 1) (.lit (.str ⟨⟨[116, 114, 117, 116, 104]⟩⟩))) [(.ret (.isi (.slot 2) .bool))] []),
      (.ifs (.cmp .eq (.slot 1) (.lit (.str ⟨⟨[110, 117, 109, 98, 101, 114]⟩⟩))) [(.ret (.call 5 [(.slot 2)]))] []),
      (.ifs (.cmp .eq (.slot 1) (.lit (.str ⟨⟨[111, 112, 116, 105, 111, 110]⟩⟩))) [(.ret (.call 0 [(.slot 2)]))] []),
      (.ifs (.cmp .eq (.slot 1) (.lit (.str ⟨⟨[111, 112, 116, 105, 111, 110, 115]⟩⟩))) [(.ret (.an (.isi (.slot 2) .tuple) (.call 6 [(.slot 2)])))] []),
      (.ret (.an (.cmp .eq (.slot 1) (.lit (.str ⟨⟨[116, 101, 120, 116]⟩⟩))) (.isi (.slot 2) .str)))]⟩
/-- code_of -/
def d3 : Df := ⟨3, 1,
    [(.ifs (.cmp .isN (.slot 0) (.lit .non)) [(.ret (.lit (.str ⟨⟨[]⟩⟩)))] []),
      (.asg (.tp [(.nm 1), (.nm 2)]) (.slot 0)),
      (.ifs (.cmp .eq (.slot 1) (.lit (.str ⟨⟨[116, 114, 117, 116, 104]⟩⟩))) [(.ret (.ife (.slot 2) (.lit (.str ⟨⟨[121, 101, 115]⟩⟩)) (.lit (.str ⟨⟨[110, 111]⟩⟩))))] []),
      (.ifs (.cmp .eq (.slot 1) (.lit (.str ⟨⟨[110, 117, 109, 98, 101, 114]⟩⟩))) [(.ret (.bi .str [(.slot 2)]))] []),
      (.ifs (.cmp .eq (.slot 1) (.lit (.str ⟨⟨[111, 112, 116, 105, 111, 110]⟩⟩))) [(.ret (.bin .add (.lit (.str ⟨⟨[46]⟩⟩)) (.slot 2)))] []),
      (.ifs (.cmp .eq (.slot 1) (.lit (.str ⟨⟨[111, 112, 116, 105, 111, 110, 115]⟩⟩))) [(.ret (.bin .add (.bin .add (.lit (.str ⟨⟨[91]⟩⟩)) (.me .join (.lit (.str ⟨⟨[44]⟩⟩)) [(.slot 2)])) (.lit (.str ⟨⟨[93]⟩⟩))))] []),
      (.ret (.bin .add (.lit (.str ⟨⟨[34]⟩⟩)) (.slot 2)))]⟩
/-- value_of -/
def d4 : Df := ⟨1, 1,
    [(.ifs (.cmp .in_ (.slot 0) (.tup [(.lit (.str ⟨⟨[121, 101, 115]⟩⟩)), (.lit (.str ⟨⟨[110, 111]⟩⟩))])) [(.ret (.tup [(.lit (.str ⟨⟨[116, 114, 117, 116, 104]⟩⟩)), (.cmp .eq (.slot 0) (.lit (.str ⟨⟨[121, 101, 115]⟩⟩)))]))] []),
      (.ifs (.me .startswith (.slot 0) [(.lit (.str ⟨⟨[34]⟩⟩))]) [(.ret (.tup [(.lit (.str ⟨⟨[116, 101, 120, 116]⟩⟩)), (.sl (.slot 0) (some (.lit (.int 1))) none)]))] []),
      (.ifs (.me .startswith (.slot 0) [(.lit (.str ⟨⟨[46]⟩⟩))]) [(.ret (.ife (.call 0 [(.sl (.slot 0) (some (.lit (.int 1))) none)]) (.tup [(.lit (.str ⟨⟨[111, 112, 116, 105, 111, 110]⟩⟩)), (.sl (.slot 0) (some (.lit (.int 1))) none)]) (.lit .non)))] []),
      (.ifs (.an (.me .startswith (.slot 0) [(.lit (.str ⟨⟨[91]⟩⟩))]) (.me .endswith (.slot 0) [(.lit (.str ⟨⟨[93]⟩⟩))])) [(.ret (.call 7 [(.sl (.slot 0) (some (.lit (.int 1))) (some (.neg (.lit (.int 1)))))]))] []),
      (.ret (.call 8 [(.slot 0)]))]⟩
/-- _is_entry_number -/
def d5 : Df := ⟨1, 1,
    [(.ifs (.or_ (.nt (.isi (.slot 0) .int)) (.isi (.slot 0) .bool)) [(.ret (.lit (.bl false)))] []),
      (.ret (.chain .le .le (.neg (.con 5)) (.slot 0) (.con 5)))]⟩
/-- _are_options -/
def d6 : Df := ⟨2, 1,
    [(.ifs (.nt (.quant true 1 (.call 0 [(.slot 1)]) (.slot 0))) [(.ret (.lit (.bl false)))] []),
      (.ret (.cmp .eq (.bi .list [(.slot 0)]) (.bi .sortedSet [(.slot 0)])))]⟩
/-- _options_in -/
def d7 : Df := ⟨2, 1,
    [(.asg (.nm 1) (.ife (.slot 0) (.bi .tuple [(.me .split (.slot 0) [(.lit (.str ⟨⟨[44]⟩⟩))])]) (.tup []))),
      (.ret (.ife (.call 6 [(.slot 1)]) (.tup [(.lit (.str ⟨⟨[111, 112, 116, 105, 111, 110, 115]⟩⟩)), (.slot 1)]) (.lit .non)))]⟩
/-- _number_in -/
def d8 : Df := ⟨2, 1,
    [(.asg (.nm 1) (.ife (.me .startswith (.slot 0) [(.lit (.str ⟨⟨[45]⟩⟩))]) (.sl (.slot 0) (some (.lit (.int 1))) none) (.slot 0))),
      (.ifs (.or_ (.cmp .eq (.slot 0) (.lit (.str ⟨⟨[45, 48]⟩⟩))) (.or_ (.cmp .gt (.bi .len [(.slot 1)]) (.con 4)) (.nt (.call 1 [(.slot 1)])))) [(.ret (.lit .non))] []),
      (.ret (.tup [(.lit (.str ⟨⟨[110, 117, 109, 98, 101, 114]⟩⟩)), (.bi .int [(.slot 0)])]))]⟩
/-- _law_is_integer -/
def d9 : Df := ⟨1, 1,
    [(.ret (.an (.isi (.slot 0) .int) (.nt (.isi (.slot 0) .bool))))]⟩
/-- _law_cell -/
def d10 : Df := ⟨2, 2,
    [(.ifs (.cmp .lt (.slot 1) (.bi .len [(.slot 0)])) [(.ret (.idx (.slot 0) (.slot 1)))] []),
      (.ret (.lit (.int 0)))]⟩
/-- _law_list_is -/
def d11 : Df := ⟨2, 2,
    [(.ret (.an (.isi (.slot 0) .list) (.cmp .eq (.bi .repr [(.slot 0)]) (.bi .repr [(.bi .list [(.slot 1)])]))))]⟩
/-- _law_same -/
def d12 : Df := ⟨2, 2,
    [(.ret (.cmp .eq (.bi .repr [(.slot 0)]) (.bi .repr [(.slot 1)])))]⟩
/-- _law_digits -/
def d13 : Df := ⟨8, 3,
    [(.asg (.nm 3) (.lst [])),
      (.for_ (.nm 4) .range2 [(.slot 1), (.slot 2)] [(.asg (.nm 5) (.call 10 [(.slot 0), (.slot 4)])),
      (.ifs (.cmp .lt (.slot 5) (.lit (.int 0))) [(.asg (.nm 5) (.bin .sub (.lit (.int 1)) (.bin .mul (.lit (.int 2)) (.slot 5))))] []),
      (.ifs (.cmp .ge (.slot 5) (.bin .pow (.lit (.int 10)) (.lit (.int 18)))) [(.for_ (.nm 6) .range1 [(.lit (.int 60))] [(.ifs (.cmp .gt (.slot 5) (.lit (.int 0))) [(.ex (.me .append (.slot 3) [(.bin .mod (.bi .int [(.slot 5)]) (.lit (.int 1000)))])),
      (.asg (.nm 5) (.bin .fdiv (.slot 5) (.lit (.int 1000))))] [])])] [(.asg (.nm 7) (.bin .mod (.bi .int [(.bin .add (.bin .add (.bin .mul (.slot 5) (.lit (.int 48271))) (.bin .mul (.slot 4) (.lit (.int 69621)))) (.lit (.int 11)))]) (.lit (.int 2147483647)))),
      (.for_ (.nm 6) .range1 [(.lit (.int 12))] [(.asg (.nm 7) (.bin .mod (.bi .int [(.bin .add (.bin .add (.bin .mul (.slot 7) (.lit (.int 16807))) (.bin .mul (.lit (.int 7)) (.slot 6))) (.lit (.int 1)))]) (.lit (.int 2147483647)))),
      (.ex (.me .append (.slot 3) [(.bin .mod (.bi .int [(.bin .fdiv (.slot 7) (.lit (.int 997)))]) (.lit (.int 1000)))]))])])]),
      (.ret (.slot 3))]⟩
/-- _law_draw -/
def d14 : Df := ⟨3, 2,
    [(.asg (.nm 2) (.idx (.slot 0) (.lit (.int 1)))),
      (.put (.slot 0) (.lit (.int 1)) (.bin .add (.slot 2) (.lit (.int 1)))),
      (.ifs (.cmp .lt (.slot 2) (.bi .len [(.idx (.slot 0) (.lit (.int 0)))])) [(.ret (.bin .mod (.bi .int [(.idx (.idx (.slot 0) (.lit (.int 0))) (.slot 2))]) (.slot 1)))] []),
      (.ret (.bin .mod (.bi .int [(.bin .add (.bin .mul (.slot 2) (.lit (.int 7))) (.lit (.int 3)))]) (.slot 1)))]⟩
/-- _law_value -/
def d15 : Df := ⟨2, 1,
    [(.asg (.nm 1) (.call 14 [(.slot 0), (.lit (.int 6))])),
      (.ifs (.cmp .eq (.slot 1) (.lit (.int 0))) [(.ret (.tup [(.lit (.str ⟨⟨[116, 114, 117, 116, 104]⟩⟩)), (.cmp .eq (.call 14 [(.slot 0), (.lit (.int 2))]) (.lit (.int 1)))]))] []),
      (.ifs (.cmp .eq (.slot 1) (.lit (.int 1))) [(.ret (.tup [(.lit (.str ⟨⟨[110, 117, 109, 98, 101, 114]⟩⟩)), (.idx (.lst [(.lit (.int 0)), (.neg (.lit (.int 1))), (.lit (.int 9999)), (.neg (.lit (.int 9999))), (.bin .sub (.call 14 [(.slot 0), (.lit (.int 900))]) (.lit (.int 450))), (.lit (.int 123456))]) (.call 14 [(.slot 0), (.lit (.int 6))]))]))] []),
      (.ifs (.cmp .eq (.slot 1) (.lit (.int 2))) [(.ret (.tup [(.lit (.str ⟨⟨[111, 112, 116, 105, 111, 110]⟩⟩)), (.idx (.lst [(.lit (.str ⟨⟨[97]⟩⟩)), (.lit (.str ⟨⟨[98, 50]⟩⟩)), (.lit (.str ⟨⟨[121, 101, 115, 49]⟩⟩)), (.lit (.str ⟨⟨[120]⟩⟩))]) (.call 14 [(.slot 0), (.lit (.int 4))]))]))] []),
      (.ifs (.cmp .eq (.slot 1) (.lit (.int 3))) [(.ret (.tup [(.lit (.str ⟨⟨[111, 112, 116, 105, 111, 110, 115]⟩⟩)), (.idx (.lst [(.tup []), (.tup [(.lit (.str ⟨⟨[97]⟩⟩))]), (.tup [(.lit (.str ⟨⟨[97]⟩⟩)), (.lit (.str ⟨⟨[98]⟩⟩))]), (.tup [(.lit (.str ⟨⟨[98, 50]⟩⟩)), (.lit (.str ⟨⟨[99]⟩⟩)), (.lit (.str ⟨⟨[122, 122]⟩⟩))])]) (.call 14 [(.slot 0), (.lit (.int 4))]))]))] []),
      (.ret (.tup [(.lit (.str ⟨⟨[116, 101, 120, 116]⟩⟩)), (.idx (.lst [(.lit (.str ⟨⟨[]⟩⟩)), (.lit (.str ⟨⟨[121, 101, 115]⟩⟩)), (.lit (.str ⟨⟨[49, 50]⟩⟩)), (.lit (.str ⟨⟨[46, 97]⟩⟩)), (.lit (.str ⟨⟨[91, 97, 93]⟩⟩)), (.lit (.str ⟨⟨[97, 34, 98]⟩⟩)), (.lit (.str ⟨⟨[32]⟩⟩)), (.lit (.str ⟨⟨[10]⟩⟩)), (.lit (.str ⟨⟨[110, 111]⟩⟩))]) (.call 14 [(.slot 0), (.lit (.int 9))]))]))]⟩
/-- _law_code -/
def d16 : Df := ⟨1, 1,
    [(.ifs (.cmp .eq (.idx (.slot 0) (.lit (.int 0))) (.lit (.str ⟨⟨[116, 114, 117, 116, 104]⟩⟩))) [(.ret (.idx (.lst [(.lit (.str ⟨⟨[110, 111]⟩⟩)), (.lit (.str ⟨⟨[121, 101, 115]⟩⟩))]) (.bi .int [(.idx (.slot 0) (.lit (.int 1)))])))] []),
      (.ifs (.cmp .eq (.idx (.slot 0) (.lit (.int 0))) (.lit (.str ⟨⟨[110, 117, 109, 98, 101, 114]⟩⟩))) [(.ret (.bi .str [(.idx (.slot 0) (.lit (.int 1)))]))] []),
      (.ifs (.cmp .eq (.idx (.slot 0) (.lit (.int 0))) (.lit (.str ⟨⟨[111, 112, 116, 105, 111, 110]⟩⟩))) [(.ret (.bin .add (.lit (.str ⟨⟨[46]⟩⟩)) (.idx (.slot 0) (.lit (.int 1)))))] []),
      (.ifs (.cmp .eq (.idx (.slot 0) (.lit (.int 0))) (.lit (.str ⟨⟨[111, 112, 116, 105, 111, 110, 115]⟩⟩))) [(.ret (.bin .add (.bin .add (.lit (.str ⟨⟨[91]⟩⟩)) (.me .join (.lit (.str ⟨⟨[44]⟩⟩)) [(.idx (.slot 0) (.lit (.int 1)))])) (.lit (.str ⟨⟨[93]⟩⟩))))] []),
      (.ret (.bin .add (.lit (.str ⟨⟨[34]⟩⟩)) (.idx (.slot 0) (.lit (.int 1)))))]⟩
/-- law -/
def d17 : Df := ⟨13, 1,
    [(.asg (.nm 1) (.lst [(.call 13 [(.slot 0), (.lit (.int 0)), (.lit (.int 30))]), (.lit (.int 0))])),
      (.asg (.nm 2) (.lc [(⟨⟨[107]⟩⟩, 3)] (.call 15 [(.slot 1)]) (.nm 3) .range1 [(.lit (.int 8))] [])),
      (.for_ (.nm 4) .seq [(.slot 2)] [(.asg (.nm 5) (.call 16 [(.slot 4)])),
      (.ifs (.or_ (.cmp .ne (.call 3 [(.slot 4)]) (.slot 5)) (.nt (.call 12 [(.call 4 [(.slot 5)]), (.slot 4)]))) [(.ret (.lit (.bl false)))] []),
      (.asg (.nm 6) (.or_ (.cmp .ne (.idx (.slot 4) (.lit (.int 0))) (.lit (.str ⟨⟨[110, 117, 109, 98, 101, 114]⟩⟩))) (.chain .le .le (.neg (.lit (.int 9999))) (.idx (.slot 4) (.lit (.int 1))) (.lit (.int 9999))))),
      (.ifs (.cmp .ne (.call 2 [(.slot 4)]) (.slot 6)) [(.ret (.lit (.bl false)))] []),
      (.ifs (.cmp .gt (.bi .len [(.lc [(⟨⟨[111, 116, 104, 101, 114]⟩⟩, 7)] (.slot 7) (.nm 7) .seq [(.slot 2)] [(.cmp .ne (.cmp .eq (.call 16 [(.slot 7)]) (.slot 5)) (.cmp .eq (.slot 7) (.slot 4)))])]) (.lit (.int 0))) [(.ret (.lit (.bl false)))] [])]),
      (.asg (.nm 8) (.lst [(.lit (.str ⟨⟨[]⟩⟩)), (.lit (.str ⟨⟨[45, 48]⟩⟩)), (.lit (.str ⟨⟨[48, 49]⟩⟩)), (.lit (.str ⟨⟨[43, 49]⟩⟩)), (.lit (.str ⟨⟨[49, 46, 48]⟩⟩)), (.lit (.str ⟨⟨[89, 101, 115]⟩⟩)), (.lit (.str ⟨⟨[46]⟩⟩)), (.lit (.str ⟨⟨[46, 105, 102]⟩⟩)), (.lit (.str ⟨⟨[46, 116, 111, 111, 108, 111, 110, 103, 115]⟩⟩)), (.lit (.str ⟨⟨[91]⟩⟩)), (.lit (.str ⟨⟨[91, 97]⟩⟩)), (.lit (.str ⟨⟨[97, 93]⟩⟩)), (.lit (.str ⟨⟨[91, 98, 44, 97, 93]⟩⟩)), (.lit (.str ⟨⟨[91, 97, 44, 97, 93]⟩⟩)), (.lit (.str ⟨⟨[91, 97, 44, 32, 98, 93]⟩⟩)), (.lit (.str ⟨⟨[91, 44, 93]⟩⟩)), (.lit (.str ⟨⟨[91, 105, 102, 93]⟩⟩)), (.lit (.str ⟨⟨[97]⟩⟩)), (.lit (.str ⟨⟨[45]⟩⟩)), (.lit (.str ⟨⟨[45, 45, 49]⟩⟩)), (.lit (.str ⟨⟨[91, 65, 93]⟩⟩)), (.lit (.str ⟨⟨[46, 97, 32, 98]⟩⟩))])),
      (.asg (.nm 9) (.idx (.slot 8) (.bin .mod (.bi .int [(.call 14 [(.slot 1), (.lit (.int 90))])]) (.bi .len [(.slot 8)])))),
      (.ifs (.or_ (.cmp .noN (.call 4 [(.slot 9)]) (.lit .non)) (.cmp .ne (.call 3 [(.lit .non)]) (.lit (.str ⟨⟨[]⟩⟩)))) [(.ret (.lit (.bl false)))] []),
      (.asg (.nm 10) (.lst [(.lit .non), (.lit (.bl true)), (.lit (.int 1)), (.lit (.str ⟨⟨[97]⟩⟩)), (.tup []), (.tup [(.lit (.str ⟨⟨[110, 117, 109, 98, 101, 114]⟩⟩))]), (.tup [(.lit (.str ⟨⟨[116, 114, 117, 116, 104]⟩⟩)), (.lit (.int 1))]), (.tup [(.lit (.str ⟨⟨[110, 117, 109, 98, 101, 114]⟩⟩)), (.lit (.bl true))]), (.tup [(.lit (.str ⟨⟨[111, 112, 116, 105, 111, 110]⟩⟩)), (.lit (.str ⟨⟨[105, 102]⟩⟩))]), (.tup [(.lit (.str ⟨⟨[111, 112, 116, 105, 111, 110, 115]⟩⟩)), (.tup [(.lit (.str ⟨⟨[98]⟩⟩)), (.lit (.str ⟨⟨[97]⟩⟩))])])])),
      (.asg (.nm 10) (.bin .add (.slot 10) (.lst [(.tup [(.lit (.str ⟨⟨[111, 112, 116, 105, 111, 110, 115]⟩⟩)), (.lst [(.lit (.str ⟨⟨[97]⟩⟩))])]), (.tup [(.lit (.str ⟨⟨[116, 101, 120, 116]⟩⟩)), (.lit (.int 5))]), (.tup [(.lit (.str ⟨⟨[119, 111, 114, 100]⟩⟩)), (.lit (.str ⟨⟨[97]⟩⟩))]), (.tup [(.lit (.str ⟨⟨[110, 117, 109, 98, 101, 114]⟩⟩)), (.lit (.int 10000))]), (.tup [(.lit (.str ⟨⟨[110, 117, 109, 98, 101, 114]⟩⟩)), (.neg (.lit (.int 10000)))]), (.tup [(.lit (.str ⟨⟨[111, 112, 116, 105, 111, 110, 115]⟩⟩)), (.tup [(.lit (.int 1))])]), (.tup [(.lit (.str ⟨⟨[111, 112, 116, 105, 111, 110, 115]⟩⟩)), (.tup [(.lit (.str ⟨⟨[97]⟩⟩)), (.lit .non)])])]))),
      (.ifs (.cmp .noB (.call 2 [(.idx (.slot 10) (.call 14 [(.slot 1), (.lit (.int 17))]))]) (.lit (.bl false))) [(.ret (.lit (.bl false)))] []),
      (.asg (.nm 11) (.lst [(.tup [(.lit (.str ⟨⟨[97]⟩⟩)), (.lit (.bl true))]), (.tup [(.lit (.str ⟨⟨[97, 49, 98, 50, 99, 51]⟩⟩)), (.lit (.bl true))]), (.tup [(.lit (.str ⟨⟨[114, 111, 119]⟩⟩)), (.lit (.bl false))]), (.tup [(.lit (.str ⟨⟨[114, 111, 119, 115]⟩⟩)), (.lit (.bl true))]), (.tup [(.lit (.str ⟨⟨[105, 102]⟩⟩)), (.lit (.bl false))]), (.tup [(.lit (.str ⟨⟨[]⟩⟩)), (.lit (.bl false))]), (.tup [(.lit (.str ⟨⟨[49, 97]⟩⟩)), (.lit (.bl false))]), (.tup [(.lit (.str ⟨⟨[65]⟩⟩)), (.lit (.bl false))]), (.tup [(.lit (.str ⟨⟨[97, 98, 99, 100, 101, 102, 103]⟩⟩)), (.lit (.bl false))])])),
      (.asg (.nm 11) (.bin .add (.slot 11) (.lst [(.tup [(.lit (.str ⟨⟨[121, 101, 115]⟩⟩)), (.lit (.bl false))]), (.tup [(.lit (.str ⟨⟨[104, 97, 115]⟩⟩)), (.lit (.bl true))]), (.tup [(.lit (.str ⟨⟨[116, 104, 101, 110]⟩⟩)), (.lit (.bl false))]), (.tup [(.lit (.str ⟨⟨[101, 108, 115, 101]⟩⟩)), (.lit (.bl false))]), (.tup [(.lit (.str ⟨⟨[111, 114]⟩⟩)), (.lit (.bl false))]), (.tup [(.lit (.str ⟨⟨[97, 110, 100]⟩⟩)), (.lit (.bl false))]), (.tup [(.lit (.str ⟨⟨[110, 111, 116]⟩⟩)), (.lit (.bl false))]), (.tup [(.lit (.str ⟨⟨[110, 111]⟩⟩)), (.lit (.bl false))])]))),
      (.ret (.cmp .eq (.bi .len [(.lc [(⟨⟨[116, 101, 120, 116]⟩⟩, 9), (⟨⟨[116, 111, 108, 100]⟩⟩, 12)] (.slot 9) (.tp [(.nm 9), (.nm 12)]) .seq [(.slot 11)] [(.cmp .ne (.call 0 [(.slot 9)]) (.slot 12))])]) (.lit (.int 0))))]⟩
def defs : List Df := [d0, d1, d2, d3, d4, d5, d6, d7, d8, d9, d10, d11, d12, d13, d14, d15, d16, d17]
end K00

set_option Elab.async false
set_option linter.all false
set_option maxRecDepth 100000
namespace K00
open PySem Ip
theorem bd_ok {α β : Type} (a : α) (s : Sto) (f : α → Sto → Rs β) : (Rs.ok a s).bd f = f a s := rfl
theorem letGo_same {n : Nat} {v : AV} {s : Sto} (h : s.length = n) : Ip.letGo n v s = s := by
  unfold Ip.letGo
  split
  · rw [← h, List.take_length]
  · rfl
section
variable {s : Sto} {k : Nat} {xs : List AV} {i j : Int} {x y : AV}
theorem idx_ref (h : s[k]? = some (.lst xs)) : opIdx (.ref k) (.int i) s = L2.atI xs i := by
  show (match items s (.ref k) with
    | some xs => L2.atI xs i
    | none => none) = _
  have e : items s (.ref k) = some xs := by
    show (match s[k]? with
      | some (.lst xs) => some xs
      | none => none) = _
    rw [h]
  rw [e]
theorem at0 : L2.atI (x :: xs) 0 = some x := by simp [L2.atI, L2.ixN]
theorem at1 : L2.atI (x :: y :: xs) 1 = some y := by
  have h : (1 : Int) < (((x :: y :: xs).length : Nat) : Int) := by simp only [List.length_cons]; omega
  unfold L2.atI L2.ixN
  rw [if_pos (by decide), if_pos h]
  rfl
theorem ix21 : L2.ixN 2 1 = some 1 := by decide
theorem add_ii : opBin .add (.int i) (.int j) s = .ok (.int (i + j)) s := rfl
theorem mul_ij (h : -18446744073709551616 < j ∧ j < 18446744073709551616) : opBin .mul (.int i) (.int j) s = .ok (.int (i * j)) s := by
  show (if _ then _ else _) = _
  rw [if_pos (Or.inr h)]
theorem mod_ii (h : 0 < j) : opBin .mod (.int i) (.int j) s = .ok (.int (i % j)) s := by
  show (if _ then _ else _) = _
  rw [if_pos h]
theorem lt_ii : opCmp .lt (.int i) (.int j) s = some (decide (i < j)) := rfl
theorem tr_b {b : Bool} : truth s (.bl b) = some b := rfl
theorem len_ref (h : s[k]? = some (.lst xs)) : opBi .len [.ref k] s = .ok (.int (xs.length : Nat)) s := by
  show (match items s (.ref k) with
    | some ys => Rs.ok (AV.int (ys.length : Nat)) s
    | none => .bad) = _
  have e : items s (.ref k) = some xs := by
    show (match s[k]? with
      | some (.lst xs) => some xs
      | none => none) = _
    rw [h]
  rw [e]
theorem int_i : opBi .int [.int i] s = .ok (.int i) s := rfl
theorem opt_some {α : Type} (a : α) : opt (some a) s = .ok a s := rfl
theorem atI_int (zs : List Int) (h0 : 0 ≤ i) (h : i < zs.length) : ∃ z, L2.atI (zs.map AV.int) i = some (.int z) := by
  unfold L2.atI L2.ixN
  rw [if_pos h0, if_pos (by simpa using h)]
  have hl : i.toNat < zs.length := by omega
  exact ⟨zs[i.toNat], by simp [hl]⟩
end
theorem draw (k : Nat) (b a : Nat) (s : Sto) (at_ many : Int) (zs : List Int) (hb : s[b]? = some (.lst [.ref a, .int at_])) (ha : s[a]? = some (.lst (zs.map AV.int))) (hab : a ≠ b) (h0 : 0 ≤ at_) (hm : 0 < many) :
    ∃ r : Int, 0 ≤ r ∧ r < many ∧ tab cons defs (k + 1) 0 14 [.ref b, .int many] s = .ok (.int r) (s.set b (.lst [.ref a, .int (at_ + 1)])) := by
  have hbl : b < s.length := (List.getElem?_eq_some_iff.mp hb).1
  have hb2 : (s.set b (.lst [.ref a, .int (at_ + 1)]))[b]? = some (.lst [.ref a, .int (at_ + 1)]) := List.getElem?_set_self hbl
  have ha2 : (s.set b (.lst [.ref a, .int (at_ + 1)]))[a]? = some (.lst (zs.map AV.int)) := by
    rw [List.getElem?_set_ne (fun e => hab e.symm)]
    exact ha
  have e : tab cons defs (k + 1) 0 14 = runD (fun g => tab cons defs k (4 * g)) cons d14 := by
    funext xs s
    rfl
  rw [e]
  unfold runD d14
  simp only [List.length_cons, List.length_nil, exs, exI, evI, evs, bd_ok, List.map, List.replicate, List.cons_append, List.nil_append, List.getElem?_cons_zero, List.getElem?_cons_succ, asT, opt_some, idx_ref hb, at1, if_true, add_ii, Nat.lt_irrefl, List.set_cons_zero, List.set_cons_succ,
    Nat.reduceAdd, Nat.reduceLT, reduceIte, Nat.reduceSub, hb, ix21, idx_ref hb2, at0, len_ref ha2, lt_ii, tr_b, int_i, idx_ref ha2, mod_ii hm, mul_ij (show -18446744073709551616 < (7 : Int) ∧ (7 : Int) < 18446744073709551616 by decide)]
  rw [List.length_map, Option.map_some]
  have ls : (s.set b (.lst [.ref a, .int (at_ + 1)])).length = s.length := List.length_set
  by_cases hlt : at_ < (zs.length : Int)
  · obtain ⟨z, hz⟩ := atI_int zs h0 hlt
    have hd : decide (at_ < (zs.length : Int)) = true := decide_eq_true hlt
    refine ⟨z % many, Int.emod_nonneg _ (Int.ne_of_gt hm), Int.emod_lt_of_pos _ hm, ?_⟩
    simp only [hd, opt_some, bd_ok, tr_b, if_true, idx_ref hb2, at0, idx_ref ha2, hz, int_i, mod_ii hm, letGo_same ls]
  · have hd : decide (at_ < (zs.length : Int)) = false := decide_eq_false hlt
    refine ⟨(at_ * 7 + 3) % many, Int.emod_nonneg _ (Int.ne_of_gt hm), Int.emod_lt_of_pos _ hm, ?_⟩
    simp only [hd, opt_some, bd_ok, tr_b, Bool.false_eq_true, if_false, List.getElem?_cons_zero, List.getElem?_cons_succ, mul_ij (show -18446744073709551616 < (7 : Int) ∧ (7 : Int) < 18446744073709551616 by decide), add_ii, int_i, mod_ii hm, letGo_same ls]
end K00
namespace K00
open PySem Ip
def S2 (zs : List Int) (at_ : Int) : Sto := [.lst (zs.map AV.int), .lst [.ref 0, .int at_]]
theorem draw2 (k : Nat) (zs : List Int) (at_ many : Int) (r : Sto) (h0 : 0 ≤ at_) (hm : 0 < many) :
    ∃ x : Int, 0 ≤ x ∧ x < many ∧ tab cons defs (k + 1) 0 14 [.ref 1, .int many] (S2 zs at_ ++ r) = .ok (.int x) (S2 zs (at_ + 1) ++ r) := draw k 1 0 (S2 zs at_ ++ r) at_ many zs rfl rfl (by decide) h0 hm
theorem eq_ii {s : Sto} {i j : Int} : opCmp .eq (.int i) (.int j) s = some (decide (i = j)) := by
  first
    | rfl
    | simp [opCmp, eqD]
theorem low_ints (n : Nat) : ∀ zs : List Int, lowL n (zs.map AV.int) = true
  | [] => rfl
  | z :: r => by
    show (lowA n (.int z) && lowL n (r.map AV.int)) = true
    rw [low_ints n r]
    rfl
theorem letGo2 (zs : List Int) (at_ : Int) (v : AV) (r : Sto) (h : lowA 2 v = true) : Ip.letGo 2 v (S2 zs at_ ++ r) = S2 zs at_ := by
  unfold Ip.letGo
  have e : (S2 zs at_ ++ r).take 2 = S2 zs at_ := rfl
  rw [e, h]
  have e2 : ((S2 zs at_).all (lowO 2)) = true := by
    show (lowL 2 (zs.map AV.int) && ((lowL 2 [.ref 0, .int at_]) && true)) = true
    rw [low_ints 2 zs]
    rfl
  rw [e2]
  rfl
end K00

set_option Elab.async false
set_option linter.all false
set_option maxRecDepth 100000
namespace K00
open PySem Ip
def sT : Str := ⟨⟨[116, 114, 117, 116, 104]⟩⟩
def sN : Str := ⟨⟨[110, 117, 109, 98, 101, 114]⟩⟩
def sO : Str := ⟨⟨[111, 112, 116, 105, 111, 110]⟩⟩
def sOs : Str := ⟨⟨[111, 112, 116, 105, 111, 110, 115]⟩⟩
def sX : Str := ⟨⟨[116, 101, 120, 116]⟩⟩
def nums : List Int := [0, -1, 9999, -9999, 123456] ++ (List.range 900).map fun (i : Nat) => (i : Int) - 450
def opts : List AV := [.str ⟨⟨[97]⟩⟩, .str ⟨⟨[98, 50]⟩⟩, .str ⟨⟨[121, 101, 115, 49]⟩⟩, .str ⟨⟨[120]⟩⟩]
def oss : List AV := [.tup [], .tup [.str ⟨⟨[97]⟩⟩], .tup [.str ⟨⟨[97]⟩⟩, .str ⟨⟨[98]⟩⟩], .tup [.str ⟨⟨[98, 50]⟩⟩, .str ⟨⟨[99]⟩⟩, .str ⟨⟨[122, 122]⟩⟩]]
def txts : List AV := [.str ⟨⟨[]⟩⟩, .str ⟨⟨[121, 101, 115]⟩⟩, .str ⟨⟨[49, 50]⟩⟩, .str ⟨⟨[46, 97]⟩⟩, .str ⟨⟨[91, 97, 93]⟩⟩, .str ⟨⟨[97, 34, 98]⟩⟩, .str ⟨⟨[32]⟩⟩, .str ⟨⟨[10]⟩⟩, .str ⟨⟨[110, 111]⟩⟩]
/-- all that is drawn -/
def VALS : List AV := [.tup [.str sT, .bl false], .tup [.str sT, .bl true]] ++ (nums.map fun n => .tup [.str sN, .int n]) ++ (opts.map fun x => .tup [.str sO, x]) ++ (oss.map fun x => .tup [.str sOs, x]) ++ (txts.map fun x => .tup [.str sX, x])
theorem num_mem {x : Int} (h0 : 0 ≤ x) (h1 : x < 900) : x - 450 ∈ nums := by
  refine List.mem_append_right _ (List.mem_map.mpr ⟨x.toNat, List.mem_range.mpr (by omega), ?_⟩)
  omega
theorem in_T (b : Bool) : AV.tup [.str sT, .bl b] ∈ VALS := by
  cases b <;> simp [VALS]
theorem in_N {n : Int} (h : n ∈ nums) : AV.tup [.str sN, .int n] ∈ VALS := by
  unfold VALS
  simp only [List.mem_append, List.mem_map]
  exact Or.inl (Or.inl (Or.inl (Or.inr ⟨n, h, rfl⟩)))
theorem in_O {x : AV} (h : x ∈ opts) : AV.tup [.str sO, x] ∈ VALS := by
  unfold VALS
  simp only [List.mem_append, List.mem_map]
  exact Or.inl (Or.inl (Or.inr ⟨x, h, rfl⟩))
theorem in_Os {x : AV} (h : x ∈ oss) : AV.tup [.str sOs, x] ∈ VALS := by
  unfold VALS
  simp only [List.mem_append, List.mem_map]
  exact Or.inl (Or.inr ⟨x, h, rfl⟩)
theorem in_X {x : AV} (h : x ∈ txts) : AV.tup [.str sX, x] ∈ VALS := by
  unfold VALS
  simp only [List.mem_append, List.mem_map]
  exact Or.inr ⟨x, h, rfl⟩
theorem atI_mem {xs : List AV} {i : Int} (h0 : 0 ≤ i) (h : i < xs.length) : ∃ x, L2.atI xs i = some x ∧ x ∈ xs := by
  unfold L2.atI L2.ixN
  rw [if_pos h0, if_pos h]
  have hl : i.toNat < xs.length := by omega
  exact ⟨xs[i.toNat], by simp [hl], List.getElem_mem hl⟩
theorem last_ref {s : Sto} {xs : List AV} : (s ++ [AO.lst xs])[s.length]? = some (.lst xs) := by simp
theorem cmp_b {s : Sto} {b : Bool} : (opt (some (AV.bl b)) s) = Rs.ok (.bl b) s := rfl
theorem l0 : (0 ≤ LINE) = True := eq_true (by decide)
theorem l1 : (1 ≤ LINE) = True := eq_true (by decide)
theorem l2 : (2 ≤ LINE) = True := eq_true (by decide)
theorem l3 : (3 ≤ LINE) = True := eq_true (by decide)
theorem l4 : (4 ≤ LINE) = True := eq_true (by decide)
theorem l6 : (6 ≤ LINE) = True := eq_true (by decide)
theorem l9 : (9 ≤ LINE) = True := eq_true (by decide)
theorem sub_ii {s : Sto} {i j : Int} : opBin .sub (.int i) (.int j) s = .ok (.int (i - j)) s := rfl
theorem s2_len {zs : List Int} {n : Int} : (S2 zs n).length = 2 := rfl
theorem at2 {zs : List Int} {n : Int} {xs : List AV} : (S2 zs n ++ [AO.lst xs])[2]? = some (.lst xs) := rfl
theorem callF_r {f : List AV → Sto → Rs AV} {n : Nat} {r : List AV} {s : Sto} : callF f (.ref n :: r) s = f (.ref n :: r) s := by
  unfold callF
  have e : lowL 0 (.ref n :: r) = false := rfl
  rw [e]
  rfl
theorem value (k : Nat) (zs : List Int) (at_ : Int) (h0 : 0 ≤ at_) : ∃ v at2, v ∈ VALS ∧ 0 ≤ at2 ∧ tab cons defs (k + 2) 0 15 [.ref 1] (S2 zs at_) = .ok v (S2 zs at2) := by
  have e : tab cons defs (k + 2) 0 15 = runD (fun g => tab cons defs (k + 1) (4 * g)) cons d15 := by
    funext xs s
    rfl
  obtain ⟨r0, p1, p2, e0⟩ := draw2 k zs at_ 6 [] h0 (by decide)
  rw [List.append_nil, List.append_nil] at e0
  have start : (S2 zs at_).length = 2 := rfl
  by_cases c0 : r0 = 0
  · subst c0
    obtain ⟨r1, q1, q2, e1⟩ := draw2 k zs (at_ + 1) 2 [] (by omega) (by decide)
    rw [List.append_nil, List.append_nil] at e1
    refine ⟨.tup [.str sT, .bl (decide (r1 = 1))], at_ + 1 + 1, in_T _, by omega, ?_⟩
    have lg := letGo2 zs (at_ + 1 + 1) (.tup [.str sT, .bl (decide (r1 = 1))]) [] rfl
    rw [List.append_nil] at lg
    rw [e]
    unfold runD d15
    simp only [List.length_cons, List.length_nil, exs, exI, evI, evs, bd_ok, List.map, List.replicate, List.cons_append, List.nil_append, List.getElem?_cons_zero, List.getElem?_cons_succ, asT, opt_some, if_true, Nat.lt_irrefl, List.set_cons_zero, List.set_cons_succ,
      Nat.reduceAdd, Nat.reduceLT, reduceIte, Nat.reduceSub, Nat.mul_zero, callF_r, e0, eq_ii, Option.map_some, tr_b, start, l0, l1, l2, l3, l4, l6, l9, Bool.false_eq_true, decide_true, e1]
    exact congrArg _ lg
  have d0 : decide (r0 = 0) = false := decide_eq_false c0
  by_cases c1 : r0 = 1
  · subst c1
    obtain ⟨r1, q1, q2, e1⟩ := draw2 k zs (at_ + 1) 900 [] (by omega) (by decide)
    rw [List.append_nil, List.append_nil] at e1
    obtain ⟨r2, t1, t2, e2⟩ := draw2 k zs (at_ + 1 + 1) 6 [AO.lst [.int 0, .int (-1), .int 9999, .int (-9999), .int (r1 - 450), .int 123456]] (by omega) (by decide)
    have mm : ∃ n : Int, n ∈ nums ∧ L2.atI [AV.int 0, .int (-1), .int 9999, .int (-9999), .int (r1 - 450), .int 123456] r2 = some (.int n) := by
      have hc : r2 = 0 ∨ r2 = 1 ∨ r2 = 2 ∨ r2 = 3 ∨ r2 = 4 ∨ r2 = 5 := by omega
      rcases hc with rfl | rfl | rfl | rfl | rfl | rfl
      · exact ⟨0, by simp [nums], rfl⟩
      · exact ⟨-1, by simp [nums], rfl⟩
      · exact ⟨9999, by simp [nums], rfl⟩
      · exact ⟨-9999, by simp [nums], rfl⟩
      · exact ⟨r1 - 450, num_mem q1 q2, rfl⟩
      · exact ⟨123456, by simp [nums], rfl⟩
    obtain ⟨n, hn, hat⟩ := mm
    refine ⟨.tup [.str sN, .int n], at_ + 1 + 1 + 1, in_N hn, by omega, ?_⟩
    rw [e]
    unfold runD d15
    simp only [List.length_cons, List.length_nil, exs, exI, evI, evs, bd_ok, List.map, List.replicate, List.cons_append, List.nil_append, List.getElem?_cons_zero, List.getElem?_cons_succ, asT, opt_some, if_true, Nat.lt_irrefl, List.set_cons_zero, List.set_cons_succ,
      Nat.reduceAdd, Nat.reduceLT, reduceIte, Nat.reduceSub, Nat.mul_zero, callF_r, e0, eq_ii, Option.map_some, tr_b, start, l0, l1, l2, l3, l4, l6, l9, Bool.false_eq_true, d0, decide_true, e1, e2, sub_ii, s2_len, idx_ref at2, hat]
    exact congrArg _ (letGo2 zs _ (.tup [.str sN, .int n]) _ rfl)
  have d1 : decide (r0 = 1) = false := decide_eq_false c1
  by_cases c2 : r0 = 2
  · subst c2
    obtain ⟨r2, t1, t2, e2⟩ := draw2 k zs (at_ + 1) 4 [AO.lst opts] (by omega) (by decide)
    obtain ⟨x, hat, hx⟩ := atI_mem (xs := opts) t1 (by simpa [opts] using t2)
    unfold opts at e2 hat
    refine ⟨.tup [.str sO, x], at_ + 1 + 1, in_O hx, by omega, ?_⟩
    rw [e]
    unfold runD d15
    simp only [List.length_cons, List.length_nil, exs, exI, evI, evs, bd_ok, List.map, List.replicate, List.cons_append, List.nil_append, List.getElem?_cons_zero, List.getElem?_cons_succ, asT, opt_some, if_true, Nat.lt_irrefl, List.set_cons_zero, List.set_cons_succ,
      Nat.reduceAdd, Nat.reduceLT, reduceIte, Nat.reduceSub, Nat.mul_zero, callF_r, e0, eq_ii, Option.map_some, tr_b, start, l0, l1, l2, l3, l4, l6, l9, Bool.false_eq_true, d0, d1, decide_true, e2, sub_ii, s2_len, idx_ref at2, hat]
    have lx : lowA 2 x = true := by
      have h : ∀ y ∈ opts, lowA 2 y = true := by decide
      exact h x hx
    exact congrArg _ (letGo2 zs _ (.tup [.str sO, x]) _ (by simp [lowA, lowL, lx]))
  have d2 : decide (r0 = 2) = false := decide_eq_false c2
  by_cases c3 : r0 = 3
  · subst c3
    obtain ⟨r2, t1, t2, e2⟩ := draw2 k zs (at_ + 1) 4 [AO.lst oss] (by omega) (by decide)
    obtain ⟨x, hat, hx⟩ := atI_mem (xs := oss) t1 (by simpa [oss] using t2)
    unfold oss at e2 hat
    refine ⟨.tup [.str sOs, x], at_ + 1 + 1, in_Os hx, by omega, ?_⟩
    rw [e]
    unfold runD d15
    simp only [List.length_cons, List.length_nil, exs, exI, evI, evs, bd_ok, List.map, List.replicate, List.cons_append, List.nil_append, List.getElem?_cons_zero, List.getElem?_cons_succ, asT, opt_some, if_true, Nat.lt_irrefl, List.set_cons_zero, List.set_cons_succ,
      Nat.reduceAdd, Nat.reduceLT, reduceIte, Nat.reduceSub, Nat.mul_zero, callF_r, e0, eq_ii, Option.map_some, tr_b, start, l0, l1, l2, l3, l4, l6, l9, Bool.false_eq_true, d0, d1, d2, decide_true, e2, sub_ii, s2_len, idx_ref at2, hat]
    have lx : lowA 2 x = true := by
      have h : ∀ y ∈ oss, lowA 2 y = true := by decide
      exact h x hx
    exact congrArg _ (letGo2 zs _ (.tup [.str sOs, x]) _ (by simp [lowA, lowL, lx]))
  have d3 : decide (r0 = 3) = false := decide_eq_false c3
  · obtain ⟨r2, t1, t2, e2⟩ := draw2 k zs (at_ + 1) 9 [AO.lst txts] (by omega) (by decide)
    obtain ⟨x, hat, hx⟩ := atI_mem (xs := txts) t1 (by simpa [txts] using t2)
    unfold txts at e2 hat
    refine ⟨.tup [.str sX, x], at_ + 1 + 1, in_X hx, by omega, ?_⟩
    rw [e]
    unfold runD d15
    simp only [List.length_cons, List.length_nil, exs, exI, evI, evs, bd_ok, List.map, List.replicate, List.cons_append, List.nil_append, List.getElem?_cons_zero, List.getElem?_cons_succ, asT, opt_some, if_true, Nat.lt_irrefl, List.set_cons_zero, List.set_cons_succ,
      Nat.reduceAdd, Nat.reduceLT, reduceIte, Nat.reduceSub, Nat.mul_zero, callF_r, e0, eq_ii, Option.map_some, tr_b, start, l0, l1, l2, l3, l4, l6, l9, Bool.false_eq_true, d0, d1, d2, d3, decide_true, e2, sub_ii, s2_len, idx_ref at2, hat]
    have lx : lowA 2 x = true := by
      have h : ∀ y ∈ txts, lowA 2 y = true := by decide
      exact h x hx
    exact congrArg _ (letGo2 zs _ (.tup [.str sX, x]) _ (by simp [lowA, lowL, lx]))
end K00

set_option Elab.async false
set_option linter.all false
set_option maxRecDepth 100000
namespace K00
open PySem Ip
/-! ### the digits: a new list of ints, nothing else is wanted -/
theorem cell (k : Nat) (ns : List Int) (i : Int) (h0 : 0 ≤ i) (s : Sto) : ∃ c : Int, tab cons defs (k + 1) 0 10 [.lst (ns.map AV.int), .int i] s = .ok (.int c) s := by
  have e : tab cons defs (k + 1) 0 10 = runD (fun g => tab cons defs k (4 * g)) cons d10 := by
    funext xs s
    rfl
  have el : opBi .len [.lst (ns.map AV.int)] s = .ok (.int (ns.length : Nat)) s := by
    show Rs.ok (AV.int ((ns.map AV.int).length : Nat)) s = _
    rw [List.length_map]
  have ei : opIdx (.lst (ns.map AV.int)) (.int i) s = L2.atI (ns.map AV.int) i := rfl
  rw [e]
  unfold runD d10
  by_cases hlt : i < (ns.length : Int)
  · obtain ⟨z, hz⟩ := atI_int ns h0 hlt
    have hd : decide (i < (ns.length : Int)) = true := decide_eq_true hlt
    refine ⟨z, ?_⟩
    simp only [List.length_cons, List.length_nil, exs, exI, evI, evs, bd_ok, List.map_cons, List.map_nil, List.replicate, List.cons_append, List.nil_append, List.getElem?_cons_zero, List.getElem?_cons_succ, opt_some, if_true, Nat.reduceAdd, Nat.reduceSub, reduceIte, el, lt_ii, Option.map_some, hd, tr_b, ei, hz, letGo_same]
  · have hd : decide (i < (ns.length : Int)) = false := decide_eq_false hlt
    refine ⟨0, ?_⟩
    simp only [List.length_cons, List.length_nil, exs, exI, evI, evs, bd_ok, List.map_cons, List.map_nil, List.replicate, List.cons_append, List.nil_append, List.getElem?_cons_zero, List.getElem?_cons_succ, opt_some, if_true, Nat.reduceAdd, Nat.reduceSub, reduceIte, el, lt_ii, Option.map_some, hd, tr_b, Bool.false_eq_true, if_false, letGo_same]
/-- a for, by what holds ahead of each turn -/
theorem for_inv {ex : Slots → Sto → Rs Fl} {t : IT} {wk : IW} {src whole : List AV} (P : Nat → Slots → Sto → Prop) : ∀ (l : List AV) (j : Nat) (σ : Slots) (s : Sto),
    (∀ (m : Nat) (x : AV) (σ : Slots) (s : Sto), l[m]? = some x → P (j + m) σ s → ∃ σ2 σ3 s3, asT s t x σ = some σ2 ∧ (ex σ2 s = .ok (.nx σ3) s3) ∧ stands wk src whole s3 = true ∧ P (j + m + 1) σ3 s3) → P j σ s →
    ∃ σ' s', forLoop ex t wk src whole l σ s = .ok (.nx σ') s' ∧ P (j + l.length) σ' s'
  | [], j, σ, s, _, p => ⟨σ, s, rfl, p⟩
  | x :: r, j, σ, s, h, p => by
    obtain ⟨σ2, σ3, s3, h1, h2, h3, h4⟩ := h 0 x σ s rfl p
    obtain ⟨σ', s', q1, q2⟩ := for_inv P r (j + 1) σ3 s3 (fun m y σ s hm hp => by
      have z := h (m + 1) y σ s (by simpa using hm) (by rw [show j + (m + 1) = j + 1 + m from by omega]; exact hp)
      rw [show j + (m + 1) + 1 = j + 1 + m + 1 from by omega] at z
      exact z) h4
    refine ⟨σ', s', ?_, by rw [List.length_cons, show j + (r.length + 1) = j + 1 + r.length from by omega]; exact q2⟩
    simp only [forLoop, h1, h2, bd_ok, h3, if_true]
    exact q1
end K00

set_option Elab.async false
set_option linter.all false
set_option maxRecDepth 100000
namespace K00
open PySem Ip
def sl (ns : List Int) (i : Int) (c5 c6 c7 : Option AV) : Slots := [some (.lst (ns.map AV.int)), some (.int 0), some (.int 30), some (.ref 0), some (.int i), c5, c6, c7]
def St (zs : List Int) : Sto := [.lst (zs.map AV.int)]
def innerA : List IS := [(.ifs (.cmp .gt (.slot 5) (.lit (.int 0))) [(.ex (.me .append (.slot 3) [(.bin .mod (.bi .int [(.slot 5)]) (.lit (.int 1000)))])), (.asg (.nm 5) (.bin .fdiv (.slot 5) (.lit (.int 1000))))] [])]
def innerB : List IS := [(.asg (.nm 7) (.bin .mod (.bi .int [(.bin .add (.bin .add (.bin .mul (.slot 7) (.lit (.int 16807))) (.bin .mul (.lit (.int 7)) (.slot 6))) (.lit (.int 1)))]) (.lit (.int 2147483647)))),
  (.ex (.me .append (.slot 3) [(.bin .mod (.bi .int [(.bin .fdiv (.slot 7) (.lit (.int 997)))]) (.lit (.int 1000)))]))]
def bodyO : List IS := [(.asg (.nm 5) (.call 10 [(.slot 0), (.slot 4)])),
  (.ifs (.cmp .lt (.slot 5) (.lit (.int 0))) [(.asg (.nm 5) (.bin .sub (.lit (.int 1)) (.bin .mul (.lit (.int 2)) (.slot 5))))] []),
  (.ifs (.cmp .ge (.slot 5) (.bin .pow (.lit (.int 10)) (.lit (.int 18)))) [(.for_ (.nm 6) .range1 [(.lit (.int 60))] innerA)]
    [(.asg (.nm 7) (.bin .mod (.bi .int [(.bin .add (.bin .add (.bin .mul (.slot 5) (.lit (.int 48271))) (.bin .mul (.slot 4) (.lit (.int 69621)))) (.lit (.int 11)))]) (.lit (.int 2147483647)))),
     (.for_ (.nm 6) .range1 [(.lit (.int 12))] innerB)])]
theorem d13_eq : d13 = ⟨8, 3, [(.asg (.nm 3) (.lst [])), (.for_ (.nm 4) .range2 [(.slot 1), (.slot 2)] bodyO), (.ret (.slot 3))]⟩ := rfl
section
variable {ns zs : List Int} {i c j : Int} {c5 c6 c7 : Option AV} {d : AV} {s : Sto}
theorem g3 : (sl ns i c5 c6 c7)[3]? = some (some (.ref 0)) := rfl
theorem g4 : (sl ns i c5 c6 c7)[4]? = some (some (.int i)) := rfl
theorem g0 : (sl ns i c5 c6 c7)[0]? = some (some (.lst (ns.map AV.int))) := rfl
theorem g5 : (sl ns i (some d) c6 c7)[5]? = some (some d) := rfl
theorem g6 : (sl ns i c5 (some d) c7)[6]? = some (some d) := rfl
theorem g7 : (sl ns i c5 c6 (some d))[7]? = some (some d) := rfl
theorem as5 : asT s (.nm 5) d (sl ns i c5 c6 c7) = some (sl ns i (some d) c6 c7) := rfl
theorem as6 : asT s (.nm 6) d (sl ns i c5 c6 c7) = some (sl ns i c5 (some d) c7) := rfl
theorem as7 : asT s (.nm 7) d (sl ns i c5 c6 c7) = some (sl ns i c5 c6 (some d)) := rfl
theorem gt_ii : opCmp .gt (.int i) (.int j) s = some (decide (j < i)) := rfl
theorem ge_ii : opCmp .ge (.int i) (.int j) s = some (decide (j ≤ i)) := rfl
theorem fdiv_ij (h : 0 < j ∧ j < 1073741824) : opBin .fdiv (.int i) (.int j) s = .ok (.int (i / j)) s := by
  show (if _ then _ else _) = _
  rw [if_pos h]
theorem mul_ji (h : -18446744073709551616 < i ∧ i < 18446744073709551616) : opBin .mul (.int i) (.int j) s = .ok (.int (i * j)) s := by
  show (if _ then _ else _) = _
  rw [if_pos (Or.inl h)]
theorem meT0 : meT .append (.ref 0) (St zs) = true := rfl
theorem app (h : zs.length < LINE) : opMe .append (.ref 0) [.int c] (St zs) = .ok .non (St (zs ++ [c])) := by
  show (if (zs.map AV.int).length < LINE then Rs.ok AV.non ((St zs).set 0 (.lst (zs.map AV.int ++ [.int c]))) else .bad) = _
  rw [List.length_map, if_pos h]
  show Rs.ok AV.non [AO.lst (zs.map AV.int ++ [.int c])] = Rs.ok AV.non [AO.lst ((zs ++ [c]).map AV.int)]
  rw [List.map_append]
  rfl
end
theorem turnA (F : Nat → Nat → List AV → Sto → Rs AV) (n : Nat) (ns zs : List Int) (i c : Int) (c6 c7 : Option AV) (hl : zs.length < LINE) :
    ∃ c2 zs2, zs2.length ≤ zs.length + 1 ∧ exs (exI F cons (n + 12)) innerA (sl ns i (some (.int c)) c6 c7) (St zs) = .ok (.nx (sl ns i (some (.int c2)) c6 c7)) (St zs2) := by
  by_cases h : (0 : Int) < c
  · refine ⟨c / 1000, zs ++ [c % 1000], by simp, ?_⟩
    unfold innerA
    simp only [exs, exI, evI, evs, bd_ok, g5, gt_ii, Option.map_some, decide_eq_true h, opt_some, tr_b, if_true, g3, meT0, int_i, mod_ii (show (0 : Int) < 1000 by decide), app hl, fdiv_ij (show (0 : Int) < 1000 ∧ (1000 : Int) < 1073741824 by decide), as5]
  · refine ⟨c, zs, by simp, ?_⟩
    unfold innerA
    simp only [exs, exI, evI, evs, bd_ok, g5, gt_ii, Option.map_some, decide_eq_false h, opt_some, tr_b, Bool.false_eq_true, if_false]
theorem turnB (F : Nat → Nat → List AV → Sto → Rs AV) (n : Nat) (ns zs : List Int) (i m q : Int) (c5 : Option AV) (hl : zs.length < LINE) :
    ∃ q2 zs2, zs2.length ≤ zs.length + 1 ∧ exs (exI F cons (n + 12)) innerB (sl ns i c5 (some (.int m)) (some (.int q))) (St zs) = .ok (.nx (sl ns i c5 (some (.int m)) (some (.int q2)))) (St zs2) := by
  refine ⟨(q * 16807 + 7 * m + 1) % 2147483647, zs ++ [((q * 16807 + 7 * m + 1) % 2147483647 / 997) % 1000], by simp, ?_⟩
  unfold innerB
  simp only [exs, exI, evI, evs, bd_ok, g7, g6, mul_ij (show -18446744073709551616 < (16807 : Int) ∧ (16807 : Int) < 18446744073709551616 by decide), mul_ji (show -18446744073709551616 < (7 : Int) ∧ (7 : Int) < 18446744073709551616 by decide), add_ii, int_i, mod_ii (show (0 : Int) < 2147483647 by decide), mod_ii (show (0 : Int) < 1000 by decide), opt_some, as7, g3, meT0, if_true, fdiv_ij (show (0 : Int) < 997 ∧ (997 : Int) < 1073741824 by decide), app hl]
end K00

set_option Elab.async false
set_option linter.all false
set_option maxRecDepth 100000
namespace K00
open PySem Ip
def upto (n : Nat) : List AV := (List.range n).map fun (k : Nat) => AV.int k
theorem upto_at {n m : Nat} {x : AV} (h : (upto n)[m]? = some x) : x = .int m := by
  unfold upto at h
  rw [List.getElem?_map] at h
  by_cases hm : m < n
  · rw [List.getElem?_range hm] at h
    exact (Option.some.inj h).symm
  · rw [List.getElem?_eq_none (by simpa using hm)] at h
    cases h
theorem upto_len {n : Nat} : (upto n).length = n := by simp [upto]
theorem walk60 {s : Sto} : walk .range1 [.int 60] s = some (upto 60) := rfl
theorem walk12 {s : Sto} : walk .range1 [.int 12] s = some (upto 12) := rfl
theorem loopA (F : Nat → Nat → List AV → Sto → Rs AV) (n : Nat) (ns zs : List Int) (i c : Int) (c6 c7 : Option AV) (hl : zs.length + 60 ≤ LINE) :
    ∃ c2 c62 zs2, zs2.length ≤ zs.length + 60 ∧ exI F cons (n + 13) (.for_ (.nm 6) .range1 [(.lit (.int 60))] innerA) (sl ns i (some (.int c)) c6 c7) (St zs) = .ok (.nx (sl ns i (some (.int c2)) c62 c7)) (St zs2) := by
  obtain ⟨σ', s', h1, c2, c62, zs2, h2, h3, h4⟩ := for_inv (ex := exs (exI F cons (n + 12)) innerA) (t := .nm 6) (wk := .range1) (src := [.int 60]) (whole := upto 60)
    (fun m σ s => ∃ (c : Int) (c6 : Option AV) (z : List Int), z.length ≤ zs.length + m ∧ σ = sl ns i (some (.int c)) c6 c7 ∧ s = St z) (upto 60) 0 (sl ns i (some (.int c)) c6 c7) (St zs) (fun m x σ s hx hp => by
      obtain ⟨c, c6, z, p1, rfl, rfl⟩ := hp
      have hm : m < 60 := by
        have := (List.getElem?_eq_some_iff.mp hx).1
        rw [upto_len] at this
        exact this
      obtain ⟨c2, z2, q1, q2⟩ := turnA F n ns z i c (some x) c7 (by omega)
      exact ⟨_, _, _, as6, q2, rfl, c2, some x, z2, by omega, rfl, rfl⟩) ⟨c, c6, zs, by omega, rfl, rfl⟩
  subst h3
  subst h4
  rw [upto_len] at h2
  refine ⟨c2, c62, zs2, by omega, ?_⟩
  rw [exI]
  show ((opt (walk .range1 [.int 60] (St zs)) (St zs)).bd fun ys s => forLoop (exs (exI F cons (n + 12)) innerA) (.nm 6) .range1 [.int 60] ys ys (sl ns i (some (.int c)) c6 c7) s) = _
  rw [walk60]
  exact h1
theorem loopB (F : Nat → Nat → List AV → Sto → Rs AV) (n : Nat) (ns zs : List Int) (i q : Int) (c5 c6 : Option AV) (hl : zs.length + 60 ≤ LINE) :
    ∃ c62 q2 zs2, zs2.length ≤ zs.length + 60 ∧ exI F cons (n + 13) (.for_ (.nm 6) .range1 [(.lit (.int 12))] innerB) (sl ns i c5 c6 (some (.int q))) (St zs) = .ok (.nx (sl ns i c5 c62 (some (.int q2)))) (St zs2) := by
  obtain ⟨σ', s', h1, c62, q2, zs2, h2, h3, h4⟩ := for_inv (ex := exs (exI F cons (n + 12)) innerB) (t := .nm 6) (wk := .range1) (src := [.int 12]) (whole := upto 12)
    (fun m σ s => ∃ (c6 : Option AV) (q : Int) (z : List Int), z.length ≤ zs.length + m ∧ σ = sl ns i c5 c6 (some (.int q)) ∧ s = St z) (upto 12) 0 (sl ns i c5 c6 (some (.int q))) (St zs) (fun m x σ s hx hp => by
      obtain ⟨c6, q, z, p1, rfl, rfl⟩ := hp
      have hm : m < 12 := by
        have := (List.getElem?_eq_some_iff.mp hx).1
        rw [upto_len] at this
        exact this
      have ex := upto_at hx
      subst ex
      obtain ⟨q2, z2, r1, r2⟩ := turnB F n ns z i m q c5 (by omega)
      exact ⟨_, _, _, as6, r2, rfl, some (.int m), q2, z2, by omega, rfl, rfl⟩) ⟨c6, q, zs, by omega, rfl, rfl⟩
  subst h3
  subst h4
  rw [upto_len] at h2
  refine ⟨c62, q2, zs2, by omega, ?_⟩
  rw [exI]
  show ((opt (walk .range1 [.int 12] (St zs)) (St zs)).bd fun ys s => forLoop (exs (exI F cons (n + 12)) innerB) (.nm 6) .range1 [.int 12] ys ys (sl ns i c5 c6 (some (.int q))) s) = _
  rw [walk12]
  exact h1
theorem pow18 {s : Sto} : opBin .pow (.int 10) (.int 18) s = .ok (.int 1000000000000000000) s := rfl
theorem tab4 (k f : Nat) : (fun g => tab cons defs k (4 * g)) 0 f = tab cons defs k 0 f := rfl
theorem turnO (k n : Nat) (ns zs : List Int) (i : Int) (hi : 0 ≤ i) (c5 c6 c7 : Option AV) (hl : zs.length + 60 ≤ LINE) :
    ∃ d5 d6 d7 zs2, zs2.length ≤ zs.length + 60 ∧ exs (exI (fun g => tab cons defs (k + 1) (4 * g)) cons (n + 15)) bodyO (sl ns i c5 c6 c7) (St zs) = .ok (.nx (sl ns i d5 d6 d7)) (St zs2) := by
  obtain ⟨c0, hc0⟩ := cell k ns i hi []
  have hc : callF (tab cons defs (k + 1) 0 10) [AV.lst (ns.map AV.int), AV.int i] (St zs) = .ok (.int c0) (St zs) := by
    unfold callF
    have e : lowL 0 [AV.lst (ns.map AV.int), AV.int i] = true := by
      show (lowL 0 (ns.map AV.int) && (true && true)) = true
      rw [low_ints 0 ns]
      rfl
    rw [e, hc0]
    rfl
  -- behind the second statement the cell is some int
  have two : ∃ c : Int, (exI (fun g => tab cons defs (k + 1) (4 * g)) cons (n + 15) (.ifs (.cmp .lt (.slot 5) (.lit (.int 0))) [(.asg (.nm 5) (.bin .sub (.lit (.int 1)) (.bin .mul (.lit (.int 2)) (.slot 5))))] [])) (sl ns i (some (.int c0)) c6 c7) (St zs) = .ok (.nx (sl ns i (some (.int c)) c6 c7)) (St zs) := by
    by_cases h : c0 < 0
    · refine ⟨1 - 2 * c0, ?_⟩
      simp only [exs, exI, evI, evs, bd_ok, g5, lt_ii, Option.map_some, decide_eq_true h, opt_some, tr_b, if_true, mul_ji (show -18446744073709551616 < (2 : Int) ∧ (2 : Int) < 18446744073709551616 by decide), sub_ii, as5]
    · refine ⟨c0, ?_⟩
      simp only [exs, exI, evI, evs, bd_ok, g5, lt_ii, Option.map_some, decide_eq_false h, opt_some, tr_b, Bool.false_eq_true, if_false]
  obtain ⟨c, h2⟩ := two
  have one : exI (fun g => tab cons defs (k + 1) (4 * g)) cons (n + 15) (.asg (.nm 5) (.call 10 [(.slot 0), (.slot 4)])) (sl ns i c5 c6 c7) (St zs) = .ok (.nx (sl ns i (some (.int c0)) c6 c7)) (St zs) := by
    simp only [exI, evI, evs, bd_ok, g0, g4, Nat.mul_zero, hc, opt_some, as5]
  have three : ∃ d5 d6 d7 zs2, zs2.length ≤ zs.length + 60 ∧ (exI (fun g => tab cons defs (k + 1) (4 * g)) cons (n + 15) (.ifs (.cmp .ge (.slot 5) (.bin .pow (.lit (.int 10)) (.lit (.int 18)))) [(.for_ (.nm 6) .range1 [(.lit (.int 60))] innerA)]
    [(.asg (.nm 7) (.bin .mod (.bi .int [(.bin .add (.bin .add (.bin .mul (.slot 5) (.lit (.int 48271))) (.bin .mul (.slot 4) (.lit (.int 69621)))) (.lit (.int 11)))]) (.lit (.int 2147483647)))),
     (.for_ (.nm 6) .range1 [(.lit (.int 12))] innerB)])) (sl ns i (some (.int c)) c6 c7) (St zs) = .ok (.nx (sl ns i d5 d6 d7)) (St zs2) := by
    by_cases h : (1000000000000000000 : Int) ≤ c
    · obtain ⟨c2, c62, zs2, q1, q2⟩ := loopA (fun g => tab cons defs (k + 1) (4 * g)) (n + 1) ns zs i c c6 c7 hl
      refine ⟨some (.int c2), c62, c7, zs2, q1, ?_⟩
      have e : exI (fun g => tab cons defs (k + 1) (4 * g)) cons (n + 15) (.ifs (.cmp .ge (.slot 5) (.bin .pow (.lit (.int 10)) (.lit (.int 18)))) [(.for_ (.nm 6) .range1 [(.lit (.int 60))] innerA)]
          [(.asg (.nm 7) (.bin .mod (.bi .int [(.bin .add (.bin .add (.bin .mul (.slot 5) (.lit (.int 48271))) (.bin .mul (.slot 4) (.lit (.int 69621)))) (.lit (.int 11)))]) (.lit (.int 2147483647)))),
           (.for_ (.nm 6) .range1 [(.lit (.int 12))] innerB)]) (sl ns i (some (.int c)) c6 c7) (St zs) = exI (fun g => tab cons defs (k + 1) (4 * g)) cons (n + 1 + 13) (.for_ (.nm 6) .range1 [(.lit (.int 60))] innerA) (sl ns i (some (.int c)) c6 c7) (St zs) := by
        rw [exI]
        simp only [exs, evI, evs, bd_ok, g5, pow18, ge_ii, Option.map_some, decide_eq_true h, opt_some, tr_b, if_true]
      rw [e]
      exact q2
    · obtain ⟨c62, q2, zs2, r1, r2⟩ := loopB (fun g => tab cons defs (k + 1) (4 * g)) (n + 1) ns zs i ((c * 48271 + i * 69621 + 11) % 2147483647) (some (.int c)) c6 hl
      refine ⟨some (.int c), c62, some (.int q2), zs2, r1, ?_⟩
      have e : exI (fun g => tab cons defs (k + 1) (4 * g)) cons (n + 15) (.ifs (.cmp .ge (.slot 5) (.bin .pow (.lit (.int 10)) (.lit (.int 18)))) [(.for_ (.nm 6) .range1 [(.lit (.int 60))] innerA)]
          [(.asg (.nm 7) (.bin .mod (.bi .int [(.bin .add (.bin .add (.bin .mul (.slot 5) (.lit (.int 48271))) (.bin .mul (.slot 4) (.lit (.int 69621)))) (.lit (.int 11)))]) (.lit (.int 2147483647)))),
           (.for_ (.nm 6) .range1 [(.lit (.int 12))] innerB)]) (sl ns i (some (.int c)) c6 c7) (St zs) = exI (fun g => tab cons defs (k + 1) (4 * g)) cons (n + 1 + 13) (.for_ (.nm 6) .range1 [(.lit (.int 12))] innerB) (sl ns i (some (.int c)) c6 (some (.int ((c * 48271 + i * 69621 + 11) % 2147483647)))) (St zs) := by
        rw [exI]
        have hA : ∀ s : Sto, exI (fun g => tab cons defs (k + 1) (4 * g)) cons (n + 14) (.asg (.nm 7) (.bin .mod (.bi .int [(.bin .add (.bin .add (.bin .mul (.slot 5) (.lit (.int 48271))) (.bin .mul (.slot 4) (.lit (.int 69621)))) (.lit (.int 11)))]) (.lit (.int 2147483647)))) (sl ns i (some (.int c)) c6 c7) s = .ok (.nx (sl ns i (some (.int c)) c6 (some (.int ((c * 48271 + i * 69621 + 11) % 2147483647))))) s := by
          intro s
          simp only [exI, evI, evs, bd_ok, g5, g4, mul_ij (show -18446744073709551616 < (48271 : Int) ∧ (48271 : Int) < 18446744073709551616 by decide), mul_ij (show -18446744073709551616 < (69621 : Int) ∧ (69621 : Int) < 18446744073709551616 by decide), add_ii, int_i, mod_ii (show (0 : Int) < 2147483647 by decide), opt_some, as7]
        simp only [exs, evI, evs, bd_ok, g5, pow18, ge_ii, Option.map_some, decide_eq_false h, opt_some, tr_b, Bool.false_eq_true, if_false, hA]
      rw [e]
      exact r2
  obtain ⟨d5, d6, d7, zs2, q1, q2⟩ := three
  refine ⟨d5, d6, d7, zs2, q1, ?_⟩
  unfold bodyO
  simp only [exs, one, h2, bd_ok]
  exact q2
end K00

set_option Elab.async false
set_option linter.all false
set_option maxRecDepth 100000
namespace K00
open PySem Ip
def rg : List AV := (List.range 30).map fun (k : Nat) => AV.int (0 + (k : Int))
theorem rg_at {m : Nat} {x : AV} (h : rg[m]? = some x) : x = .int (0 + (m : Int)) ∧ m < 30 := by
  unfold rg at h
  rw [List.getElem?_map] at h
  by_cases hm : m < 30
  · rw [List.getElem?_range hm] at h
    exact ⟨(Option.some.inj h).symm, hm⟩
  · rw [List.getElem?_eq_none (by simpa using hm)] at h
    cases h
theorem rg_len : rg.length = 30 := by simp [rg]
theorem walkR {s : Sto} : walk .range2 [.int 0, .int 30] s = some rg := rfl
theorem loopO (k : Nat) (ns : List Int) : ∃ σ' zs, exI (fun g => tab cons defs (k + 1) (4 * g)) cons 100 (.for_ (.nm 4) .range2 [(.slot 1), (.slot 2)] bodyO) [some (.lst (ns.map AV.int)), some (.int 0), some (.int 30), some (.ref 0), none, none, none, none] (St []) = .ok (.nx σ') (St zs) ∧ σ'[3]? = some (some (.ref 0)) := by
  obtain ⟨σ', s', h1, c4, d5, d6, d7, zs2, h2, h3, h4⟩ := for_inv (ex := exs (exI (fun g => tab cons defs (k + 1) (4 * g)) cons 99) bodyO) (t := .nm 4) (wk := .range2) (src := [.int 0, .int 30]) (whole := rg)
    (fun m σ s => ∃ (c4 c5 c6 c7 : Option AV) (z : List Int), z.length ≤ 60 * m ∧ σ = [some (.lst (ns.map AV.int)), some (.int 0), some (.int 30), some (.ref 0), c4, c5, c6, c7] ∧ s = St z) rg 0 [some (.lst (ns.map AV.int)), some (.int 0), some (.int 30), some (.ref 0), none, none, none, none] (St []) (fun m x σ s hx hp => by
      obtain ⟨c4, c5, c6, c7, z, p1, rfl, rfl⟩ := hp
      obtain ⟨rfl, hm⟩ := rg_at hx
      have hL : 2000 ≤ LINE := by decide
      obtain ⟨d5, d6, d7, z2, q1, q2⟩ := turnO k 84 ns z (0 + (m : Int)) (by omega) c5 c6 c7 (by omega)
      exact ⟨sl ns (0 + (m : Int)) c5 c6 c7, _, _, rfl, q2, rfl, some (.int (0 + (m : Int))), d5, d6, d7, z2, by omega, rfl, rfl⟩) ⟨none, none, none, none, [], by simp, rfl, rfl⟩
  subst h3
  subst h4
  refine ⟨[some (.lst (ns.map AV.int)), some (.int 0), some (.int 30), some (.ref 0), c4, d5, d6, d7], zs2, ?_, rfl⟩
  rw [exI]
  show ((opt (walk .range2 [.int 0, .int 30] (St [])) (St [])).bd fun ys s => forLoop (exs (exI (fun g => tab cons defs (k + 1) (4 * g)) cons 99) bodyO) (.nm 4) .range2 [.int 0, .int 30] ys ys [some (.lst (ns.map AV.int)), some (.int 0), some (.int 30), some (.ref 0), none, none, none, none] s) = _
  rw [walkR]
  exact h1
theorem digits (k : Nat) (ns : List Int) : ∃ zs, tab cons defs (k + 2) 0 13 [.lst (ns.map AV.int), .int 0, .int 30] [] = .ok (.ref 0) (St zs) := by
  obtain ⟨σ', zs, h, h3⟩ := loopO k ns
  refine ⟨zs, ?_⟩
  have e : tab cons defs (k + 2) 0 13 = runD (fun g => tab cons defs (k + 1) (4 * g)) cons ⟨8, 3, [(.asg (.nm 3) (.lst [])), (.for_ (.nm 4) .range2 [(.slot 1), (.slot 2)] bodyO), (.ret (.slot 3))]⟩ := by
    funext xs s
    rfl
  rw [e]
  unfold runD
  have one : exI (fun g => tab cons defs (k + 1) (4 * g)) cons 100 (.asg (.nm 3) (.lst [])) ([AV.lst (ns.map AV.int), .int 0, .int 30].map some ++ List.replicate (8 - 3) none) [] = .ok (.nx [some (.lst (ns.map AV.int)), some (.int 0), some (.int 30), some (.ref 0), none, none, none, none]) (St []) := rfl
  have three : exI (fun g => tab cons defs (k + 1) (4 * g)) cons 100 (.ret (.slot 3)) σ' (St zs) = .ok (.rt (.ref 0)) (St zs) := by
    simp only [exI, evI, h3, bd_ok]
  simp only [List.length_cons, List.length_nil, if_true, exs, one, bd_ok, h, three]
  rfl
end K00

set_option Elab.async false
set_option linter.all false
set_option maxRecDepth 1000000
namespace K00
open PySem Ip
/-- what is to be seen of one drawn value: its code, the value back, whether it is one -/
def small (v : AV) : Bool := match v with
  | .tup [.str x, .int n] => !(x == sN) || (decide (-9999 ≤ n) && decide (n ≤ 9999))
  | _ => true
def isOkB (r : Rs AV) (b : Bool) : Bool := match r with
  | .ok (.bl c) [] => c == b
  | _ => false
def isOkV (r : Rs AV) (v : AV) : Bool := match r with
  | .ok w [] => sameA w v
  | _ => false
def chk (v : AV) : Bool := match tab cons defs 39 0 16 [v] [] with
  | .ok (.str c) [] => isOkV (tab cons defs 39 0 3 [v] []) (.str c) && isOkV (tab cons defs 39 0 4 [.str c] []) v && isOkB (tab cons defs 39 0 12 [v, v] []) true && isOkB (tab cons defs 39 0 2 [v] []) (small v)
  | _ => false

theorem chk_0 : ((VALS.drop 0).take 50).all chk = true := by decide +kernel
theorem chk_1 : ((VALS.drop 50).take 50).all chk = true := by decide +kernel
theorem chk_2 : ((VALS.drop 100).take 50).all chk = true := by decide +kernel
theorem chk_3 : ((VALS.drop 150).take 50).all chk = true := by decide +kernel
theorem chk_4 : ((VALS.drop 200).take 50).all chk = true := by decide +kernel
theorem chk_5 : ((VALS.drop 250).take 50).all chk = true := by decide +kernel
theorem chk_6 : ((VALS.drop 300).take 50).all chk = true := by decide +kernel
theorem chk_7 : ((VALS.drop 350).take 50).all chk = true := by decide +kernel
theorem chk_8 : ((VALS.drop 400).take 50).all chk = true := by decide +kernel
theorem chk_9 : ((VALS.drop 450).take 50).all chk = true := by decide +kernel
theorem chk_10 : ((VALS.drop 500).take 50).all chk = true := by decide +kernel
theorem chk_11 : ((VALS.drop 550).take 50).all chk = true := by decide +kernel
theorem chk_12 : ((VALS.drop 600).take 50).all chk = true := by decide +kernel
theorem chk_13 : ((VALS.drop 650).take 50).all chk = true := by decide +kernel
theorem chk_14 : ((VALS.drop 700).take 50).all chk = true := by decide +kernel
theorem chk_15 : ((VALS.drop 750).take 50).all chk = true := by decide +kernel
theorem chk_16 : ((VALS.drop 800).take 50).all chk = true := by decide +kernel
theorem chk_17 : ((VALS.drop 850).take 50).all chk = true := by decide +kernel
theorem chk_18 : ((VALS.drop 900).take 50).all chk = true := by decide +kernel
theorem chk_19 : (VALS.drop 950).all chk = true := by decide +kernel
theorem all_cut {α : Type} (p : α → Bool) (l : List α) (a b : Nat) (h1 : ((l.drop a).take b).all p = true) (h2 : (l.drop (a + b)).all p = true) : (l.drop a).all p = true := by
  rw [← List.take_append_drop b (l.drop a), List.all_append, h1, List.drop_drop, h2]
  rfl
theorem chk0 : (VALS.all chk) = true := by
  have e : (VALS.drop 0).all chk = true := all_cut chk VALS 0 50 chk_0 (all_cut chk VALS 50 50 chk_1 (all_cut chk VALS 100 50 chk_2 (all_cut chk VALS 150 50 chk_3 (all_cut chk VALS 200 50 chk_4 (all_cut chk VALS 250 50 chk_5 (all_cut chk VALS 300 50 chk_6 (all_cut chk VALS 350 50 chk_7 (all_cut chk VALS 400 50 chk_8 (all_cut chk VALS 450 50 chk_9 (all_cut chk VALS 500 50 chk_10 (all_cut chk VALS 550 50 chk_11 (all_cut chk VALS 600 50 chk_12 (all_cut chk VALS 650 50 chk_13 (all_cut chk VALS 700 50 chk_14 (all_cut chk VALS 750 50 chk_15 (all_cut chk VALS 800 50 chk_16 (all_cut chk VALS 850 50 chk_17 (all_cut chk VALS 900 50 chk_18 (chk_19)))))))))))))))))))
  exact e
end K00

set_option Elab.async false
set_option linter.all false
set_option maxRecDepth 100000
namespace K00
open PySem Ip
/-- the comprehension of the drawn values -/
theorem comp (k n : Nat) (zs : List Int) (σ : Slots) (h1 : σ[1]? = some (some (.ref 1))) (h3 : 3 < σ.length) (src whole : List AV) : ∀ (l acc : List AV) (at_ : Int), 0 ≤ at_ → acc.length + l.length ≤ LINE →
    ∃ vs at2, (∀ v ∈ vs, v ∈ VALS) ∧ vs.length = l.length ∧ 0 ≤ at2 ∧ lcLoop (evI (fun g => tab cons defs (k + 2) (4 * g)) cons 0 (n + 3)) [3] (.call 15 [.slot 1]) (.nm 3) .range1 src whole [] σ l acc (S2 zs at_) = .ok (acc ++ vs) (S2 zs at2)
  | [], acc, at_, h0, _ => ⟨[], at_, by simp, rfl, h0, by rw [List.append_nil]; rfl⟩
  | x :: r, acc, at_, h0, hl => by
    obtain ⟨v, at2, hv, ha, e⟩ := value k zs at_ h0
    have hl2 : (acc ++ [v]).length + r.length ≤ LINE := by
      rw [List.length_append, List.length_singleton]
      rw [List.length_cons] at hl
      omega
    obtain ⟨vs, at3, g1, g2, g3, g4⟩ := comp k n zs σ h1 h3 src whole r (acc ++ [v]) at2 ha hl2
    refine ⟨v :: vs, at3, fun u hu => (List.mem_cons.mp hu).elim (fun z => by rw [z]; exact hv) (g1 u), by rw [List.length_cons, List.length_cons, g2], g3, ?_⟩
    have w3 : (wipeA σ [3]) = σ.set 3 none := rfl
    have as3 : asT (S2 zs at_) (.nm 3) x (wipeA σ [3]) = some ((σ.set 3 none).set 3 (some x)) := by
      rw [w3]
      show (if 3 < (σ.set 3 none).length then _ else _) = _
      rw [List.length_set, if_pos h3]
    have s1 : ((σ.set 3 none).set 3 (some x))[1]? = some (some (.ref 1)) := by
      rw [List.getElem?_set_ne (by decide), List.getElem?_set_ne (by decide)]
      exact h1
    have ec : evI (fun g => tab cons defs (k + 2) (4 * g)) cons 0 (n + 3) (.call 15 [.slot 1]) ((σ.set 3 none).set 3 (some x)) (S2 zs at_) = .ok v (S2 zs at2) := by
      simp only [evI, evs, s1, bd_ok, callF_r, Nat.mul_zero, e]
    have ha2 : acc.length < LINE := by
      rw [List.length_cons] at hl
      omega
    have st : stands .range1 src whole (S2 zs at2) = true := rfl
    have nx : ∀ {α : Type} (a : α) (s : Sto), noX (Rs.ok a s) = .ok a s := fun _ _ => rfl
    simp only [lcLoop, as3, tests, nx, bd_ok, ec, ha2, if_true, st]
    rw [g4, List.append_assoc]
    rfl
end K00

set_option Elab.async false
set_option linter.all false
set_option maxRecDepth 100000
namespace K00
open PySem Ip
/-- what is known of a drawn value and its code -/
structure Fact (v : AV) (c : Str) : Prop where
  code : tab cons defs 39 0 16 [v] [] = .ok (.str c) []
  code_of : tab cons defs 39 0 3 [v] [] = .ok (.str c) []
  back : tab cons defs 39 0 4 [.str c] [] = .ok v []
  same : tab cons defs 39 0 12 [v, v] [] = .ok (.bl true) []
  is_ : tab cons defs 39 0 2 [v] [] = .ok (.bl (small v)) []
theorem okV {r : Rs AV} {v : AV} (h : isOkV r v = true) : r = .ok v [] := by
  unfold isOkV at h
  split at h
  · rw [@sameA_eq ⟨[]⟩ _ _ h]
  · cases h
theorem okB {r : Rs AV} {b : Bool} (h : isOkB r b = true) : r = .ok (.bl b) [] := by
  unfold isOkB at h
  split at h
  · rw [eq_of_beq h]
  · cases h
theorem fact {v : AV} (hv : v ∈ VALS) : ∃ c, Fact v c := by
  have h := List.all_eq_true.mp chk0 v hv
  unfold chk at h
  split at h
  · rename_i c e
    rw [Bool.and_eq_true, Bool.and_eq_true, Bool.and_eq_true] at h
    obtain ⟨⟨⟨h1, h2⟩, h3⟩, h4⟩ := h
    exact ⟨c, e, okV h1, okV h2, okB h3, okB h4⟩
  · cases h
/-- no two have one code -/
theorem one_code {v u : AV} {c : Str} (a : Fact v c) (b : Fact u c) : v = u := by
  have h := a.back.symm.trans b.back
  cases h
  rfl
/-- such a call at any store -/
theorem own {f : Nat} {xs : List AV} {r : AV} (h : tab cons defs 39 0 f xs [] = .ok r []) (hx : lowL 0 xs = true) (hr : lowA 0 r = true) (s : Sto) : callF (tab cons defs 39 0 f) xs s = .ok r s := by
  unfold callF
  rw [hx, h]
  show (if lowA 0 r = true then Rs.ok r s else tab cons defs 39 0 f xs s) = _
  rw [if_pos hr]
theorem vals_low {v : AV} (hv : v ∈ VALS) : lowA 0 v = true := by
  have h : (VALS.all (lowA 0)) = true := by decide +kernel
  exact List.all_eq_true.mp h v hv
end K00

set_option Elab.async false
set_option linter.all false
set_option maxRecDepth 1000000
namespace K00
open PySem Ip
/-! ### == of two drawn values -/
inductive Kd : AV → PyData → Prop
  | t (b : Bool) : Kd (.tup [.str sT, .bl b]) (.tuple [.str sT, .bool b])
  | n (i : Int) : Kd (.tup [.str sN, .int i]) (.tuple [.str sN, .int i])
  | o (x : Str) : Kd (.tup [.str sO, .str x]) (.tuple [.str sO, .str x])
  | os (l : List Str) : Kd (.tup [.str sOs, .tup (l.map AV.str)]) (.tuple [.str sOs, .tuple (l.map PyData.str)])
  | x (y : Str) : Kd (.tup [.str sX, .str y]) (.tuple [.str sX, .str y])
theorem strs_data (s : Sto) (n : Nat) : ∀ l : List Str, optAll (AV.data s (n + 1)) (l.map AV.str) = some (l.map PyData.str)
  | [] => rfl
  | x :: r => by
    have e : AV.data s (n + 1) (.str x) = some (.str x) := rfl
    rw [List.map_cons, optAll, e]
    dsimp only
    rw [strs_data s n r]
    rfl
theorem Kd.data {v : AV} {d : PyData} (h : Kd v d) (s : Sto) : v.data s 60 = some d := by
  cases h with
  | os l =>
    show (optAll (AV.data s 59) [.str sOs, .tup (l.map AV.str)]).map PyData.tuple = _
    have e : AV.data s 59 (.tup (l.map AV.str)) = some (.tuple (l.map PyData.str)) := by
      show (optAll (AV.data s 58) (l.map AV.str)).map PyData.tuple = _
      rw [strs_data s 57 l]
      rfl
    have e3 : AV.data s 59 (.str sOs) = some (.str sOs) := rfl
    simp only [optAll, e, e3]
    rfl
  | _ => rfl
theorem kd {v : AV} (hv : v ∈ VALS) : ∃ d, Kd v d := by
  unfold VALS at hv
  simp only [List.mem_append, List.mem_map, List.mem_cons, List.not_mem_nil, or_false] at hv
  rcases hv with (((h | ⟨n, _, rfl⟩) | ⟨x, hx, rfl⟩) | ⟨x, hx, rfl⟩) | ⟨x, hx, rfl⟩
  · rcases h with rfl | rfl
    · exact ⟨_, .t false⟩
    · exact ⟨_, .t true⟩
  · exact ⟨_, .n n⟩
  · simp only [opts, List.mem_cons, List.not_mem_nil, or_false] at hx
    rcases hx with rfl | rfl | rfl | rfl
    all_goals exact ⟨_, .o _⟩
  · simp only [oss, List.mem_cons, List.not_mem_nil, or_false] at hx
    rcases hx with rfl | rfl | rfl | rfl
    · exact ⟨_, .os []⟩
    · exact ⟨_, .os [_]⟩
    · exact ⟨_, .os [_, _]⟩
    · exact ⟨_, .os [_, _, _]⟩
  · simp only [txts, List.mem_cons, List.not_mem_nil, or_false] at hx
    rcases hx with rfl | rfl | rfl | rfl | rfl | rfl | rfl | rfl | rfl
    all_goals exact ⟨_, .x _⟩
theorem eqv_strs : ∀ l m : List Str, PyData.eqvAll (l.map PyData.str) (m.map PyData.str) = decide (l = m)
  | [], [] => rfl
  | [], _ :: _ => rfl
  | _ :: _, [] => rfl
  | x :: l, y :: m => by
    show (PyData.eqv (.str x) (.str y) && PyData.eqvAll (l.map PyData.str) (m.map PyData.str)) = _
    rw [eqv_strs l m]
    show ((x == y) && decide (l = m)) = _
    by_cases h1 : x = y <;> by_cases h2 : l = m <;> simp [h1, h2]
theorem eqv_kd {v u : AV} {d e : PyData} (a : Kd v d) (b : Kd u e) : (PyData.eqv d e = true ↔ v = u) := by
  have nT : (sT == sN) = false ∧ (sT == sO) = false ∧ (sT == sOs) = false ∧ (sT == sX) = false ∧ (sN == sO) = false ∧ (sN == sOs) = false ∧ (sN == sX) = false ∧ (sO == sOs) = false ∧ (sO == sX) = false ∧ (sOs == sX) = false := by decide
  have nT2 : (sN == sT) = false ∧ (sO == sT) = false ∧ (sOs == sT) = false ∧ (sX == sT) = false ∧ (sO == sN) = false ∧ (sOs == sN) = false ∧ (sX == sN) = false ∧ (sOs == sO) = false ∧ (sX == sO) = false ∧ (sX == sOs) = false := by decide
  obtain ⟨n1, n2, n3, n4, n5, n6, n7, n8, n9, n0⟩ := nT
  obtain ⟨m1, m2, m3, m4, m5, m6, m7, m8, m9, m0⟩ := nT2
  have inj : ∀ l m : List Str, (l.map AV.str = m.map AV.str) ↔ l = m := fun l m => ⟨fun h => List.map_inj_right (fun x y z => by cases z; rfl) |>.mp h, fun h => by rw [h]⟩
  cases a <;> cases b <;> simp [PyData.eqv, PyData.eqvAll, eqv_strs, inj, n1, n2, n3, n4, n5, n6, n7, n8, n9, n0, m1, m2, m3, m4, m5, m6, m7, m8, m9, m0, beq_eq_false_iff_ne.mp n1, beq_eq_false_iff_ne.mp n2, beq_eq_false_iff_ne.mp n3, beq_eq_false_iff_ne.mp n4, beq_eq_false_iff_ne.mp n5, beq_eq_false_iff_ne.mp n6, beq_eq_false_iff_ne.mp n7, beq_eq_false_iff_ne.mp n8, beq_eq_false_iff_ne.mp n9, beq_eq_false_iff_ne.mp n0, beq_eq_false_iff_ne.mp m1, beq_eq_false_iff_ne.mp m2, beq_eq_false_iff_ne.mp m3, beq_eq_false_iff_ne.mp m4, beq_eq_false_iff_ne.mp m5, beq_eq_false_iff_ne.mp m6, beq_eq_false_iff_ne.mp m7, beq_eq_false_iff_ne.mp m8, beq_eq_false_iff_ne.mp m9, beq_eq_false_iff_ne.mp m0] <;> try rfl
theorem shp0 : (VALS.all fun v => match v.data [] 60 with
    | some d => SeqAt.shaped d
    | none => false) = true := by decide +kernel
theorem shp {v : AV} {d : PyData} (hv : v ∈ VALS) (k : Kd v d) : SeqAt.shaped d = true := by
  have h := List.all_eq_true.mp shp0 v hv
  rw [k.data []] at h
  exact h
theorem eq_vals {v u : AV} (hv : v ∈ VALS) (hu : u ∈ VALS) (s : Sto) : ∃ b, opCmp .eq v u s = some b ∧ (b = true ↔ v = u) := by
  obtain ⟨d, kv⟩ := kd hv
  obtain ⟨e, ku⟩ := kd hu
  refine ⟨PyData.eqv d e, ?_, eqv_kd kv ku⟩
  have sc : scalA v u = none := by
    cases kv <;> cases ku <;> rfl
  show eqD v u s = _
  unfold eqD
  rw [sc, kv.data s, ku.data s]
  show (if (SeqAt.shaped d && SeqAt.shaped e) = true then some (PyData.eqv d e) else none) = _
  rw [shp hv kv, shp hu ku]
  rfl
end K00

set_option Elab.async false
set_option linter.all false
set_option maxRecDepth 100000
namespace K00
open PySem Ip
abbrev F0 : Nat → Nat → List AV → Sto → Rs AV := fun g => tab cons defs 39 (4 * g)
def tst : IE := .cmp .ne (.cmp .eq (.call 16 [(.slot 7)]) (.slot 5)) (.cmp .eq (.slot 7) (.slot 4))
theorem nx_ok {α : Type} (a : α) (s : Sto) : noX (Rs.ok a s) = .ok a s := rfl
theorem eq_ss {s : Sto} {x y : Str} : opCmp .eq (.str x) (.str y) s = some (x == y) := rfl
theorem ne_bb {s : Sto} {x y : Bool} : opCmp .ne (.bl x) (.bl y) s = some (!(x == y)) := rfl
theorem sameL_rf (l : List AV) : sameL l l = true := @sameL_refl ⟨[]⟩ l
theorem inner (n : Nat) {v : AV} {c : Str} (hv : v ∈ VALS) (hc : Fact v c) (σ : Slots) (h4 : σ[4]? = some (some v)) (h5 : σ[5]? = some (some (.str c))) (h7 : 7 < σ.length) (vals : List AV) (s : Sto) (hs : s[2]? = some (.lst vals)) :
    ∀ l : List AV, (∀ u ∈ l, u ∈ VALS) → lcLoop (evI F0 cons 0 (n + 5)) [7] (.slot 7) (.nm 7) .seq [.ref 2] vals [tst] σ l [] s = .ok [] s
  | [], _ => rfl
  | u :: r, h => by
    have hu := h u List.mem_cons_self
    obtain ⟨cu, fu⟩ := fact hu
    obtain ⟨b, e1, e2⟩ := eq_vals hu hv s
    have cal : callF (tab cons defs 39 0 16) [u] s = .ok (.str cu) s := own fu.code (by show (lowA 0 u && true) = true; rw [vals_low hu]; rfl) rfl s
    have bb : (cu == c) = b := by
      cases b with
      | true =>
        have e := e2.mp rfl
        subst e
        have q := fu.code.symm.trans hc.code
        cases q
        simp
      | false =>
        refine beq_eq_false_iff_ne.mpr fun z => ?_
        subst z
        have e := e2.mpr (one_code fu hc)
        cases e
    have as7 : asT s (.nm 7) u (wipeA σ [7]) = some ((σ.set 7 none).set 7 (some u)) := by
      show (if 7 < (σ.set 7 none).length then _ else _) = _
      rw [List.length_set, if_pos h7]
      rfl
    have s7 : ((σ.set 7 none).set 7 (some u))[7]? = some (some u) := List.getElem?_set_self (by rw [List.length_set]; exact h7)
    have s5 : ((σ.set 7 none).set 7 (some u))[5]? = some (some (.str c)) := by
      rw [List.getElem?_set_ne (by decide), List.getElem?_set_ne (by decide)]
      exact h5
    have s4 : ((σ.set 7 none).set 7 (some u))[4]? = some (some v) := by
      rw [List.getElem?_set_ne (by decide), List.getElem?_set_ne (by decide)]
      exact h4
    have te : tests (evI F0 cons 0 (n + 5)) [tst] ((σ.set 7 none).set 7 (some u)) s = .ok false s := by
      unfold tst
      simp only [tests, evI, evs, s7, s5, s4, bd_ok, Nat.mul_zero, cal, eq_ss, bb, e1, Option.map_some, opt_some, ne_bb, tr_b]
      cases b <;> rfl
    have st : stands .seq [.ref 2] vals s = true := by
      show (match s[2]? with
        | some (AO.lst zs) => sameL zs vals
        | none => false) = true
      rw [hs]
      exact sameL_rf vals
    simp only [lcLoop, as7, te, nx_ok, bd_ok, st, if_true]
    exact inner n hv hc σ h4 h5 h7 vals s hs r fun w hw => h w (List.mem_cons_of_mem _ hw)
end K00

set_option Elab.async false
set_option linter.all false
set_option maxRecDepth 100000
namespace K00
open PySem Ip
def lw (S : AV) (c3 c4 c5 c6 c7 c8 c9 c10 c11 c12 : Option AV) : Slots := [some S, some (.ref 1), some (.ref 2), c3, c4, c5, c6, c7, c8, c9, c10, c11, c12]
def st1 : IS := .asg (.nm 5) (.call 16 [(.slot 4)])
def st2 : IS := .ifs (.or_ (.cmp .ne (.call 3 [(.slot 4)]) (.slot 5)) (.nt (.call 12 [(.call 4 [(.slot 5)]), (.slot 4)]))) [(.ret (.lit (.bl false)))] []
def st3 : IS := .asg (.nm 6) (.or_ (.cmp .ne (.idx (.slot 4) (.lit (.int 0))) (.lit (.str ⟨⟨[110, 117, 109, 98, 101, 114]⟩⟩))) (.chain .le .le (.neg (.lit (.int 9999))) (.idx (.slot 4) (.lit (.int 1))) (.lit (.int 9999))))
def st4 : IS := .ifs (.cmp .ne (.call 2 [(.slot 4)]) (.slot 6)) [(.ret (.lit (.bl false)))] []
def st5 : IS := .ifs (.cmp .gt (.bi .len [(.lc [(⟨⟨[111, 116, 104, 101, 114]⟩⟩, 7)] (.slot 7) (.nm 7) .seq [(.slot 2)] [tst])]) (.lit (.int 0))) [(.ret (.lit (.bl false)))] []
section
variable {S : AV} {c3 c4 c5 c6 c7 c8 c9 c10 c11 c12 : Option AV} {d : AV} {s : Sto} {v : AV} {c : Str}
theorem w4 : (lw S c3 (some d) c5 c6 c7 c8 c9 c10 c11 c12)[4]? = some (some d) := rfl
theorem w5 : (lw S c3 c4 (some d) c6 c7 c8 c9 c10 c11 c12)[5]? = some (some d) := rfl
theorem w6 : (lw S c3 c4 c5 (some d) c7 c8 c9 c10 c11 c12)[6]? = some (some d) := rfl
theorem w2 : (lw S c3 c4 c5 c6 c7 c8 c9 c10 c11 c12)[2]? = some (some (.ref 2)) := rfl
theorem a4 : asT s (.nm 4) d (lw S c3 c4 c5 c6 c7 c8 c9 c10 c11 c12) = some (lw S c3 (some d) c5 c6 c7 c8 c9 c10 c11 c12) := rfl
theorem a5 : asT s (.nm 5) d (lw S c3 c4 c5 c6 c7 c8 c9 c10 c11 c12) = some (lw S c3 c4 (some d) c6 c7 c8 c9 c10 c11 c12) := rfl
theorem a6 : asT s (.nm 6) d (lw S c3 c4 c5 c6 c7 c8 c9 c10 c11 c12) = some (lw S c3 c4 c5 (some d) c7 c8 c9 c10 c11 c12) := rfl
theorem low1 (hv : v ∈ VALS) : lowL 0 [v] = true := by
  show (lowA 0 v && true) = true
  rw [vals_low hv]
  rfl
theorem low2 (hv : v ∈ VALS) : lowL 0 [v, v] = true := by
  show (lowA 0 v && (lowA 0 v && true)) = true
  rw [vals_low hv]
  rfl
theorem do1 (n : Nat) (hv : v ∈ VALS) (hc : Fact v c) : exI F0 cons (n + 10) st1 (lw S c3 (some v) c5 c6 c7 c8 c9 c10 c11 c12) s = .ok (.nx (lw S c3 (some v) (some (.str c)) c6 c7 c8 c9 c10 c11 c12)) s := by
  unfold st1
  simp only [exI, evI, evs, w4, bd_ok, Nat.mul_zero, own hc.code (low1 hv) rfl s, opt_some, a5]
theorem ne_ss {x y : Str} : opCmp .ne (.str x) (.str y) s = some (!(x == y)) := rfl
theorem do2 (n : Nat) (hv : v ∈ VALS) (hc : Fact v c) : exI F0 cons (n + 10) st2 (lw S c3 (some v) (some (.str c)) c6 c7 c8 c9 c10 c11 c12) s = .ok (.nx (lw S c3 (some v) (some (.str c)) c6 c7 c8 c9 c10 c11 c12)) s := by
  have lc : lowL 0 [AV.str c] = true := rfl
  unfold st2
  simp only [exs, exI, evI, evs, w4, w5, bd_ok, Nat.mul_zero, own hc.code_of (low1 hv) rfl s, own hc.back lc (vals_low hv) s, own hc.same (low2 hv) rfl s, ne_ss, beq_self_eq_true, Bool.not_true, Option.map_some, opt_some, tr_b, Bool.false_eq_true, if_false]
theorem le_ii {i j : Int} : opCmp .le (.int i) (.int j) s = some (decide (i ≤ j)) := rfl
theorem ix_tup {xs : List AV} {i : Int} : opIdx (.tup xs) (.int i) s = L2.atI xs i := rfl
theorem do3 (n : Nat) (hv : v ∈ VALS) : exI F0 cons (n + 10) st3 (lw S c3 (some v) c5 c6 c7 c8 c9 c10 c11 c12) s = .ok (.nx (lw S c3 (some v) c5 (some (.bl (small v))) c7 c8 c9 c10 c11 c12)) s := by
  obtain ⟨d, k⟩ := kd hv
  have key : ∀ (a : Str) (x : AV), v = .tup [.str a, x] → (a == sN) = false → small v = true → exI F0 cons (n + 10) st3 (lw S c3 (some v) c5 c6 c7 c8 c9 c10 c11 c12) s = .ok (.nx (lw S c3 (some v) c5 (some (.bl (small v))) c7 c8 c9 c10 c11 c12)) s := by
    intro a x e h1 h2
    rw [h2]
    subst e
    have h3 : (a == (⟨⟨[110, 117, 109, 98, 101, 114]⟩⟩ : Str)) = false := h1
    unfold st3
    simp only [exI, evI, evs, w4, bd_ok, ix_tup, at0, opt_some, ne_ss, h3, Bool.not_false, Option.map_some, tr_b, if_true, a6]
  cases k with
  | t b => exact key _ _ rfl rfl rfl
  | n i =>
    have h3 : (sN == (⟨⟨[110, 117, 109, 98, 101, 114]⟩⟩ : Str)) = true := rfl
    unfold st3
    simp only [exI, evI, evs, w4, bd_ok, ix_tup, at0, at1, opt_some, ne_ss, h3, Bool.not_true, Option.map_some, tr_b, Bool.false_eq_true, if_false, le_ii]
    have sm : small (.tup [.str sN, .int i]) = (decide (-9999 ≤ i) && decide (i ≤ 9999)) := rfl
    rw [sm]
    by_cases h : (-9999 : Int) ≤ i
    · simp only [decide_eq_true h, if_true, Bool.true_and, opt_some, bd_ok, a6]
    · simp only [decide_eq_false h, Bool.false_eq_true, if_false, Bool.false_and, opt_some, bd_ok, a6]
  | o x => exact key _ _ rfl rfl rfl
  | os l => exact key _ _ rfl rfl rfl
  | x y => exact key _ _ rfl rfl rfl
theorem do4 (n : Nat) (hv : v ∈ VALS) (hc : Fact v c) : exI F0 cons (n + 10) st4 (lw S c3 (some v) c5 (some (.bl (small v))) c7 c8 c9 c10 c11 c12) s = .ok (.nx (lw S c3 (some v) c5 (some (.bl (small v))) c7 c8 c9 c10 c11 c12)) s := by
  unfold st4
  simp only [exs, exI, evI, evs, w4, w6, bd_ok, Nat.mul_zero, own hc.is_ (low1 hv) rfl s, ne_bb, beq_self_eq_true, Bool.not_true, Option.map_some, opt_some, tr_b, Bool.false_eq_true, if_false]
end
end K00

set_option Elab.async false
set_option linter.all false
set_option maxRecDepth 100000
namespace K00
open PySem Ip
def SV (zs : List Int) (at_ : Int) (vals : List AV) (g : Sto) : Sto := S2 zs at_ ++ ([AO.lst vals] ++ g)
section
variable {S : AV} {c3 c4 c5 c6 c7 c8 c9 c10 c11 c12 : Option AV} {v : AV} {c : Str} {zs : List Int} {at_ : Int} {vals : List AV} {g : Sto}
theorem sv2 : (SV zs at_ vals g)[2]? = some (.lst vals) := rfl
theorem svApp {x : AO} : SV zs at_ vals g ++ [x] = SV zs at_ vals (g ++ [x]) := by
  unfold SV
  rw [List.append_assoc, List.append_assoc]
theorem walk2 : walk .seq [.ref 2] (SV zs at_ vals g) = some vals := rfl
theorem len_last {s : Sto} {xs : List AV} : opBi .len [.ref s.length] (s ++ [.lst xs]) = .ok (.int (xs.length : Nat)) (s ++ [.lst xs]) := len_ref last_ref
theorem do5 (n : Nat) (hv : v ∈ VALS) (hc : Fact v c) (hvals : ∀ u ∈ vals, u ∈ VALS) : exI F0 cons (n + 15) st5 (lw S c3 (some v) (some (.str c)) c6 c7 c8 c9 c10 c11 c12) (SV zs at_ vals g) = .ok (.nx (lw S c3 (some v) (some (.str c)) c6 c7 c8 c9 c10 c11 c12)) (SV zs at_ vals (g ++ [.lst []])) := by
  have il := inner (n + 6) hv hc (lw S c3 (some v) (some (.str c)) c6 c7 c8 c9 c10 c11 c12) rfl rfl (by show 7 < 13; decide) vals (SV zs at_ vals g) sv2 vals hvals
  have e : evI F0 cons 0 (n + 12) (.lc [(⟨⟨[111, 116, 104, 101, 114]⟩⟩, 7)] (.slot 7) (.nm 7) .seq [(.slot 2)] [tst]) (lw S c3 (some v) (some (.str c)) c6 c7 c8 c9 c10 c11 c12) (SV zs at_ vals g) = .ok (.ref (SV zs at_ vals g).length) (SV zs at_ vals g ++ [.lst []]) := by
    rw [evI]
    show ((opt (walk .seq [.ref 2] (SV zs at_ vals g)) (SV zs at_ vals g)).bd fun ys s => (lcLoop (evI F0 cons 0 (n + 11)) [7] (.slot 7) (.nm 7) .seq [.ref 2] ys [tst] (lw S c3 (some v) (some (.str c)) c6 c7 c8 c9 c10 c11 c12) ys [] s).bd fun zs s => .ok (AV.ref s.length) (s ++ [AO.lst zs])) = _
    rw [walk2]
    show ((lcLoop (evI F0 cons 0 (n + 11)) [7] (.slot 7) (.nm 7) .seq [.ref 2] vals [tst] (lw S c3 (some v) (some (.str c)) c6 c7 c8 c9 c10 c11 c12) vals [] (SV zs at_ vals g)).bd fun zs s => .ok (AV.ref s.length) (s ++ [AO.lst zs])) = _
    rw [il]
    rfl
  have e2 : evI F0 cons 0 (n + 14) (.cmp .gt (.bi .len [(.lc [(⟨⟨[111, 116, 104, 101, 114]⟩⟩, 7)] (.slot 7) (.nm 7) .seq [(.slot 2)] [tst])]) (.lit (.int 0))) (lw S c3 (some v) (some (.str c)) c6 c7 c8 c9 c10 c11 c12) (SV zs at_ vals g) = .ok (.bl false) (SV zs at_ vals g ++ [.lst []]) := by
    show ((((evI F0 cons 0 (n + 12) (.lc [(⟨⟨[111, 116, 104, 101, 114]⟩⟩, 7)] (.slot 7) (.nm 7) .seq [(.slot 2)] [tst]) (lw S c3 (some v) (some (.str c)) c6 c7 c8 c9 c10 c11 c12) (SV zs at_ vals g)).bd fun x s => (Rs.ok ([] : List AV) s).bd fun xs s => Rs.ok (x :: xs) s).bd fun xs s => opBi .len xs s).bd fun x s => (Rs.ok (AV.int 0) s).bd fun y s => opt ((opCmp .gt x y s).map AV.bl) s) = _
    rw [e]
    simp only [bd_ok, len_last, gt_ii, Option.map_some, opt_some]
    rfl
  unfold st5
  rw [exI, e2]
  show Rs.ok (Fl.nx (lw S c3 (some v) (some (.str c)) c6 c7 c8 c9 c10 c11 c12)) (SV zs at_ vals g ++ [.lst []]) = _
  rw [svApp]
end
end K00

set_option Elab.async false
set_option linter.all false
set_option maxRecDepth 100000
namespace K00
open PySem Ip
def bodyV : List IS := [st1, st2, st3, st4, st5]
section
variable {S : AV} {c3 c4 c5 c6 c7 c8 c9 c10 c11 c12 : Option AV} {v : AV} {zs : List Int} {at_ : Int} {vals : List AV} {g : Sto}
theorem turnV (hv : v ∈ VALS) (hvals : ∀ u ∈ vals, u ∈ VALS) : ∃ d5 d6 g2, exs (exI F0 cons 99) bodyV (lw S c3 (some v) c5 c6 c7 c8 c9 c10 c11 c12) (SV zs at_ vals g) = .ok (.nx (lw S c3 (some v) d5 d6 c7 c8 c9 c10 c11 c12)) (SV zs at_ vals g2) := by
  obtain ⟨c, hc⟩ := fact hv
  refine ⟨some (.str c), some (.bl (small v)), g ++ [.lst []], ?_⟩
  unfold bodyV
  simp only [exs, do1 89 hv hc, do2 89 hv hc, do3 89 hv, do4 89 hv hc, bd_ok]
  exact do5 84 hv hc hvals
theorem loopV (hvals : ∀ u ∈ vals, u ∈ VALS) : ∃ d4 d5 d6 g2, exI F0 cons 100 (.for_ (.nm 4) .seq [(.slot 2)] bodyV) (lw S c3 c4 c5 c6 c7 c8 c9 c10 c11 c12) (SV zs at_ vals g) = .ok (.nx (lw S c3 d4 d5 d6 c7 c8 c9 c10 c11 c12)) (SV zs at_ vals g2) := by
  obtain ⟨σ', s', h1, d4, d5, d6, g2, h2, h3⟩ := for_inv (ex := exs (exI F0 cons 99) bodyV) (t := .nm 4) (wk := .seq) (src := [.ref 2]) (whole := vals)
    (fun _ σ s => ∃ (d4 d5 d6 : Option AV) (g : Sto), σ = lw S c3 d4 d5 d6 c7 c8 c9 c10 c11 c12 ∧ s = SV zs at_ vals g) vals 0 (lw S c3 c4 c5 c6 c7 c8 c9 c10 c11 c12) (SV zs at_ vals g) (fun m x σ s hx hp => by
      obtain ⟨d4, d5, d6, g, rfl, rfl⟩ := hp
      have hxv := hvals x (List.mem_of_getElem? hx)
      obtain ⟨e5, e6, g3, e⟩ := turnV (S := S) (c3 := c3) (c5 := d5) (c6 := d6) (c7 := c7) (c8 := c8) (c9 := c9) (c10 := c10) (c11 := c11) (c12 := c12) (zs := zs) (at_ := at_) (g := g) hxv hvals
      refine ⟨_, _, _, a4, e, ?_, some x, e5, e6, g3, rfl, rfl⟩
      show (match (SV zs at_ vals g3)[2]? with
        | some (AO.lst ws) => sameL ws vals
        | none => false) = true
      rw [sv2]
      exact sameL_rf vals) ⟨c4, c5, c6, g, rfl, rfl⟩
  subst h2
  subst h3
  refine ⟨d4, d5, d6, g2, ?_⟩
  rw [exI]
  show ((opt (walk .seq [.ref 2] (SV zs at_ vals g)) (SV zs at_ vals g)).bd fun ys s => forLoop (exs (exI F0 cons 99) bodyV) (.nm 4) .seq [.ref 2] ys ys (lw S c3 c4 c5 c6 c7 c8 c9 c10 c11 c12) s) = _
  rw [walk2]
  exact h1
end
end K00

set_option Elab.async false
set_option linter.all false
set_option maxRecDepth 100000
namespace K00
open PySem Ip
def sA : IS := .asg (.nm 1) (.lst [(.call 13 [(.slot 0), (.lit (.int 0)), (.lit (.int 30))]), (.lit (.int 0))])
def sB : IS := .asg (.nm 2) (.lc [(⟨⟨[107]⟩⟩, 3)] (.call 15 [(.slot 1)]) (.nm 3) .range1 [(.lit (.int 8))] [])
def σ0 (ns : List Int) : Slots := [some (.lst (ns.map AV.int)), none, none, none, none, none, none, none, none, none, none, none, none]
def σ1 (ns : List Int) : Slots := [some (.lst (ns.map AV.int)), some (.ref 1), none, none, none, none, none, none, none, none, none, none, none]
theorem startA (ns : List Int) : ∃ zs, exI F0 cons 100 sA (σ0 ns) [] = .ok (.nx (σ1 ns)) (S2 zs 0) := by
  obtain ⟨zs, e⟩ := digits 37 ns
  refine ⟨zs, ?_⟩
  have cal : callF (tab cons defs 39 0 13) [AV.lst (ns.map AV.int), .int 0, .int 30] [] = .ok (.ref 0) (St zs) := by
    unfold callF
    have hl : lowL 0 [AV.lst (ns.map AV.int), .int 0, .int 30] = true := by
      show (lowL 0 (ns.map AV.int) && (true && (true && true))) = true
      rw [low_ints 0 ns]
      rfl
    rw [hl, e]
    rfl
  have z0 : (σ0 ns)[0]? = some (some (.lst (ns.map AV.int))) := rfl
  unfold sA
  simp only [exI, evI, evs, z0, bd_ok, Nat.mul_zero, cal, List.length_cons, List.length_nil, Nat.reduceAdd, l2, if_true]
  rfl
theorem startB (ns zs : List Int) : ∃ vals at2, (∀ v ∈ vals, v ∈ VALS) ∧ 0 ≤ at2 ∧ exI F0 cons 100 sB (σ1 ns) (S2 zs 0) = .ok (.nx (lw (.lst (ns.map AV.int)) none none none none none none none none none none)) (SV zs at2 vals []) := by
  obtain ⟨vs, at2, g1, g2, g3, g4⟩ := comp 37 95 zs (σ1 ns) rfl (by show 3 < 13; decide) [.int 8] (upto 8) (upto 8) [] 0 (Int.le_refl 0) (by rw [upto_len]; decide)
  refine ⟨vs, at2, g1, g3, ?_⟩
  have e : evI F0 cons 0 99 (.lc [(⟨⟨[107]⟩⟩, 3)] (.call 15 [(.slot 1)]) (.nm 3) .range1 [(.lit (.int 8))] []) (σ1 ns) (S2 zs 0) = .ok (.ref 2) (SV zs at2 vs []) := by
    rw [evI]
    show ((opt (walk .range1 [.int 8] (S2 zs 0)) (S2 zs 0)).bd fun ys s => (lcLoop (evI F0 cons 0 98) [3] (.call 15 [(.slot 1)]) (.nm 3) .range1 [.int 8] ys [] (σ1 ns) ys [] s).bd fun zs s => .ok (AV.ref s.length) (s ++ [AO.lst zs])) = _
    have w8 : walk .range1 [.int 8] (S2 zs 0) = some (upto 8) := rfl
    rw [w8]
    show ((lcLoop (evI F0 cons 0 98) [3] (.call 15 [(.slot 1)]) (.nm 3) .range1 [.int 8] (upto 8) [] (σ1 ns) (upto 8) [] (S2 zs 0)).bd fun zs s => .ok (AV.ref s.length) (s ++ [AO.lst zs])) = _
    rw [g4]
    rfl
  unfold sB
  rw [exI, e]
  rfl
end K00

set_option Elab.async false
set_option linter.all false
set_option maxRecDepth 100000
namespace K00
open PySem Ip
def wt : List AV := [(.str ⟨⟨[]⟩⟩), (.str ⟨⟨[45, 48]⟩⟩), (.str ⟨⟨[48, 49]⟩⟩), (.str ⟨⟨[43, 49]⟩⟩), (.str ⟨⟨[49, 46, 48]⟩⟩), (.str ⟨⟨[89, 101, 115]⟩⟩), (.str ⟨⟨[46]⟩⟩), (.str ⟨⟨[46, 105, 102]⟩⟩), (.str ⟨⟨[46, 116, 111, 111, 108, 111, 110, 103, 115]⟩⟩), (.str ⟨⟨[91]⟩⟩), (.str ⟨⟨[91, 97]⟩⟩), (.str ⟨⟨[97, 93]⟩⟩), (.str ⟨⟨[91, 98, 44, 97, 93]⟩⟩), (.str ⟨⟨[91, 97, 44, 97, 93]⟩⟩), (.str ⟨⟨[91, 97, 44, 32, 98, 93]⟩⟩), (.str ⟨⟨[91, 44, 93]⟩⟩), (.str ⟨⟨[91, 105, 102, 93]⟩⟩), (.str ⟨⟨[97]⟩⟩), (.str ⟨⟨[45]⟩⟩), (.str ⟨⟨[45, 45, 49]⟩⟩), (.str ⟨⟨[91, 65, 93]⟩⟩), (.str ⟨⟨[46, 97, 32, 98]⟩⟩)]
def wtE : List IE := wt.map IE.lit
def sC : IS := .asg (.nm 8) (.lst wtE)
def sD : IS := .asg (.nm 9) (.idx (.slot 8) (.bin .mod (.bi .int [(.call 14 [(.slot 1), (.lit (.int 90))])]) (.bi .len [(.slot 8)])))
def sE : IS := .ifs (.or_ (.cmp .noN (.call 4 [(.slot 9)]) (.lit .non)) (.cmp .ne (.call 3 [(.lit .non)]) (.lit (.str ⟨⟨[]⟩⟩)))) [(.ret (.lit (.bl false)))] []
theorem evs_lits {F : Nat → Nat → List AV → Sto → Rs AV} {n : Nat} {σ : Slots} {s : Sto} : ∀ l : List AV, evs (evI F cons 0 (n + 1)) (l.map IE.lit) σ s = .ok l s
  | [] => rfl
  | x :: r => by
    show ((Rs.ok x s).bd fun x s => (evs (evI F cons 0 (n + 1)) (r.map IE.lit) σ s).bd fun xs s => .ok (x :: xs) s) = _
    simp only [bd_ok]
    rw [evs_lits r]
    rfl
section
variable {S : AV} {c3 c4 c5 c6 c7 c8 c9 c10 c11 c12 : Option AV} {d : AV} {zs : List Int} {at_ at2 : Int} {vals : List AV} {g : Sto} {L : AO}
theorem sv_len : (SV zs at_ vals g).length = (SV zs at2 vals g).length := rfl
theorem sv_last : (SV zs at2 vals (g ++ [L]))[(SV zs at_ vals g).length]? = some L := by
  rw [sv_len (at2 := at2), ← svApp]
  simp
theorem w1 : (lw S c3 c4 c5 c6 c7 c8 c9 c10 c11 c12)[1]? = some (some (.ref 1)) := rfl
theorem w8 : (lw S c3 c4 c5 c6 c7 (some d) c9 c10 c11 c12)[8]? = some (some d) := rfl
theorem w9 : (lw S c3 c4 c5 c6 c7 c8 (some d) c10 c11 c12)[9]? = some (some d) := rfl
theorem a8 {s : Sto} : asT s (.nm 8) d (lw S c3 c4 c5 c6 c7 c8 c9 c10 c11 c12) = some (lw S c3 c4 c5 c6 c7 (some d) c9 c10 c11 c12) := rfl
theorem a9 {s : Sto} : asT s (.nm 9) d (lw S c3 c4 c5 c6 c7 c8 c9 c10 c11 c12) = some (lw S c3 c4 c5 c6 c7 c8 (some d) c10 c11 c12) := rfl
theorem doC : exI F0 cons 100 sC (lw S c3 c4 c5 c6 c7 c8 c9 c10 c11 c12) (SV zs at_ vals g) = .ok (.nx (lw S c3 c4 c5 c6 c7 (some (.ref (SV zs at_ vals g).length)) c9 c10 c11 c12)) (SV zs at_ vals (g ++ [.lst wt])) := by
  unfold sC wtE
  rw [exI]
  have e : evI F0 cons 0 99 (.lst (wt.map IE.lit)) (lw S c3 c4 c5 c6 c7 c8 c9 c10 c11 c12) (SV zs at_ vals g) = .ok (.ref (SV zs at_ vals g).length) (SV zs at_ vals g ++ [.lst wt]) := by
    rw [evI, evs_lits (n := 97) wt]
    show (if wt.length ≤ LINE then Rs.ok (AV.ref (SV zs at_ vals g).length) (SV zs at_ vals g ++ [AO.lst wt]) else .bad) = _
    rw [if_pos (by decide)]
  rw [e, svApp]
  rfl
theorem drawSV (k : Nat) (many : Int) (h0 : 0 ≤ at_) (hm : 0 < many) : ∃ x : Int, 0 ≤ x ∧ x < many ∧ tab cons defs (k + 1) 0 14 [.ref 1, .int many] (SV zs at_ vals g) = .ok (.int x) (SV zs (at_ + 1) vals g) := draw2 k zs at_ many _ h0 hm
theorem doD (h0 : 0 ≤ at_) : ∃ t, t ∈ wt ∧ exI F0 cons 100 sD (lw S c3 c4 c5 c6 c7 (some (.ref (SV zs at_ vals g).length)) c9 c10 c11 c12) (SV zs at_ vals (g ++ [.lst wt])) = .ok (.nx (lw S c3 c4 c5 c6 c7 (some (.ref (SV zs at_ vals g).length)) (some t) c10 c11 c12)) (SV zs (at_ + 1) vals (g ++ [.lst wt])) := by
  obtain ⟨x, h1, h2, e⟩ := drawSV (zs := zs) (vals := vals) (g := g ++ [.lst wt]) 38 90 h0 (by decide)
  have hl : (wt.length : Int) = 22 := rfl
  have hx0 : 0 ≤ x % 22 := Int.emod_nonneg _ (by decide)
  have hx1 : x % 22 < (wt.length : Int) := by rw [hl]; exact Int.emod_lt_of_pos _ (by decide)
  obtain ⟨t, ht, hm⟩ := atI_mem hx0 hx1
  refine ⟨t, hm, ?_⟩
  have le : opBi .len [.ref (SV zs at_ vals g).length] (SV zs (at_ + 1) vals (g ++ [.lst wt])) = .ok (.int 22) (SV zs (at_ + 1) vals (g ++ [.lst wt])) := len_ref (xs := wt) sv_last
  have ix : opIdx (.ref (SV zs at_ vals g).length) (.int (x % 22)) (SV zs (at_ + 1) vals (g ++ [.lst wt])) = some t := by
    rw [idx_ref (xs := wt) sv_last]
    exact ht
  unfold sD
  simp only [exI, evI, evs, w8, w1, bd_ok, Nat.mul_zero, callF_r, e, int_i, le, mod_ii (show (0 : Int) < 22 by decide), ix, opt_some, a9]
theorem wt0 : (wt.all fun t => isOkV (tab cons defs 39 0 4 [t] []) .non && lowA 0 t) = true := by decide +kernel
theorem code_non : tab cons defs 39 0 3 [.non] [] = .ok (.str ⟨⟨[]⟩⟩) [] := by
  have h : isOkV (tab cons defs 39 0 3 [.non] []) (.str ⟨⟨[]⟩⟩) = true := by decide +kernel
  exact okV h
theorem doE {t : AV} (ht : t ∈ wt) {s : Sto} : exI F0 cons 100 sE (lw S c3 c4 c5 c6 c7 c8 (some t) c10 c11 c12) s = .ok (.nx (lw S c3 c4 c5 c6 c7 c8 (some t) c10 c11 c12)) s := by
  have h := List.all_eq_true.mp wt0 t ht
  rw [Bool.and_eq_true] at h
  have l1' : lowL 0 [t] = true := by
    show (lowA 0 t && true) = true
    rw [h.2]
    rfl
  have nn : ∀ s : Sto, opCmp .noN .non .non s = some false := fun _ => rfl
  unfold sE
  simp only [exs, exI, evI, evs, w9, bd_ok, Nat.mul_zero, own (okV h.1) l1' rfl s, own code_non rfl rfl s, nn, ne_ss, beq_self_eq_true, Bool.not_true, Option.map_some, opt_some, tr_b, Bool.false_eq_true, if_false]
end
end K00

set_option Elab.async false
set_option linter.all false
set_option maxRecDepth 100000
namespace K00
open PySem Ip
def ra : List (Str × Bool) := [(⟨⟨[97]⟩⟩, true), (⟨⟨[97, 49, 98, 50, 99, 51]⟩⟩, true), (⟨⟨[114, 111, 119]⟩⟩, false), (⟨⟨[114, 111, 119, 115]⟩⟩, true), (⟨⟨[105, 102]⟩⟩, false), (⟨⟨[]⟩⟩, false), (⟨⟨[49, 97]⟩⟩, false), (⟨⟨[65]⟩⟩, false), (⟨⟨[97, 98, 99, 100, 101, 102, 103]⟩⟩, false)]
def rb : List (Str × Bool) := [(⟨⟨[121, 101, 115]⟩⟩, false), (⟨⟨[104, 97, 115]⟩⟩, true), (⟨⟨[116, 104, 101, 110]⟩⟩, false), (⟨⟨[101, 108, 115, 101]⟩⟩, false), (⟨⟨[111, 114]⟩⟩, false), (⟨⟨[97, 110, 100]⟩⟩, false), (⟨⟨[110, 111, 116]⟩⟩, false), (⟨⟨[110, 111]⟩⟩, false)]
def rv (p : Str × Bool) : AV := .tup [.str p.1, .bl p.2]
def re (p : Str × Bool) : IE := .tup [(.lit (.str p.1)), (.lit (.bl p.2))]
def sI : IS := .asg (.nm 11) (.lst (ra.map re))
def sJ : IS := .asg (.nm 11) (.bin .add (.slot 11) (.lst (rb.map re)))
def tsR : IE := .cmp .ne (.call 0 [(.slot 9)]) (.slot 12)
def sK : IS := .ret (.cmp .eq (.bi .len [(.lc [(⟨⟨[116, 101, 120, 116]⟩⟩, 9), (⟨⟨[116, 111, 108, 100]⟩⟩, 12)] (.slot 9) (.tp [(.nm 9), (.nm 12)]) .seq [(.slot 11)] [tsR])]) (.lit (.int 0)))
theorem evs_rows {F : Nat → Nat → List AV → Sto → Rs AV} {n : Nat} {σ : Slots} {s : Sto} : ∀ l : List (Str × Bool), evs (evI F cons 0 (n + 3)) (l.map re) σ s = .ok (l.map rv) s
  | [] => rfl
  | x :: r => by
    have e : evI F cons 0 (n + 3) (re x) σ s = .ok (rv x) s := by
      unfold re
      simp only [evI, evs, bd_ok, List.length_cons, List.length_nil, Nat.reduceAdd, l2, if_true]
      rfl
    show ((evI F cons 0 (n + 3) (re x) σ s).bd fun x s => (evs (evI F cons 0 (n + 3)) (r.map re) σ s).bd fun xs s => .ok (x :: xs) s) = _
    rw [e]
    simp only [bd_ok]
    rw [evs_rows r]
    rfl
section
variable {S : AV} {c3 c4 c5 c6 c7 c8 c9 c10 c11 c12 : Option AV} {d : AV} {zs : List Int} {at_ : Int} {vals : List AV} {g : Sto}
theorem w11 : (lw S c3 c4 c5 c6 c7 c8 c9 c10 (some d) c12)[11]? = some (some d) := rfl
theorem a11 {s : Sto} : asT s (.nm 11) d (lw S c3 c4 c5 c6 c7 c8 c9 c10 c11 c12) = some (lw S c3 c4 c5 c6 c7 c8 c9 c10 (some d) c12) := rfl
theorem doI : exI F0 cons 100 sI (lw S c3 c4 c5 c6 c7 c8 c9 c10 c11 c12) (SV zs at_ vals g) = .ok (.nx (lw S c3 c4 c5 c6 c7 c8 c9 c10 (some (.ref (SV zs at_ vals g).length)) c12)) (SV zs at_ vals (g ++ [.lst (ra.map rv)])) := by
  unfold sI
  rw [exI]
  have e : evI F0 cons 0 99 (.lst (ra.map re)) (lw S c3 c4 c5 c6 c7 c8 c9 c10 c11 c12) (SV zs at_ vals g) = .ok (.ref (SV zs at_ vals g).length) (SV zs at_ vals g ++ [.lst (ra.map rv)]) := by
    rw [evI, evs_rows (n := 95) ra]
    show (if (ra.map rv).length ≤ LINE then Rs.ok (AV.ref (SV zs at_ vals g).length) (SV zs at_ vals g ++ [AO.lst (ra.map rv)]) else .bad) = _
    rw [if_pos (by decide)]
  rw [e, svApp]
  rfl
theorem doJ : ∃ m g2, (SV zs at_ vals g2)[m]? = some (.lst ((ra ++ rb).map rv)) ∧ exI F0 cons 100 sJ (lw S c3 c4 c5 c6 c7 c8 c9 c10 (some (.ref (SV zs at_ vals g).length)) c12) (SV zs at_ vals (g ++ [.lst (ra.map rv)])) = .ok (.nx (lw S c3 c4 c5 c6 c7 c8 c9 c10 (some (.ref m)) c12)) (SV zs at_ vals g2) := by
  have e : evI F0 cons 0 98 (.lst (rb.map re)) (lw S c3 c4 c5 c6 c7 c8 c9 c10 (some (.ref (SV zs at_ vals g).length)) c12) (SV zs at_ vals (g ++ [.lst (ra.map rv)])) = .ok (.ref (SV zs at_ vals (g ++ [.lst (ra.map rv)])).length) (SV zs at_ vals (g ++ [.lst (ra.map rv)] ++ [.lst (rb.map rv)])) := by
    rw [evI, evs_rows (n := 94) rb]
    show (if (rb.map rv).length ≤ LINE then Rs.ok (AV.ref (SV zs at_ vals (g ++ [.lst (ra.map rv)])).length) (SV zs at_ vals (g ++ [.lst (ra.map rv)]) ++ [AO.lst (rb.map rv)]) else .bad) = _
    rw [if_pos (by decide), svApp]
  have i1 : (SV zs at_ vals (g ++ [.lst (ra.map rv)] ++ [.lst (rb.map rv)]))[(SV zs at_ vals g).length]? = some (.lst (ra.map rv)) := by
    rw [← svApp, ← svApp]
    rw [List.getElem?_append_left (by simp), List.getElem?_append_right (Nat.le_refl _)]
    simp
  have i2 : (SV zs at_ vals (g ++ [.lst (ra.map rv)] ++ [.lst (rb.map rv)]))[(SV zs at_ vals (g ++ [.lst (ra.map rv)])).length]? = some (.lst (rb.map rv)) := sv_last
  have ad : opBin .add (.ref (SV zs at_ vals g).length) (.ref (SV zs at_ vals (g ++ [.lst (ra.map rv)])).length) (SV zs at_ vals (g ++ [.lst (ra.map rv)] ++ [.lst (rb.map rv)])) = .ok (.ref (SV zs at_ vals (g ++ [.lst (ra.map rv)] ++ [.lst (rb.map rv)])).length) (SV zs at_ vals (g ++ [.lst (ra.map rv)] ++ [.lst (rb.map rv)] ++ [.lst ((ra ++ rb).map rv)])) := by
    show (match (SV zs at_ vals (g ++ [.lst (ra.map rv)] ++ [.lst (rb.map rv)]))[(SV zs at_ vals g).length]?, (SV zs at_ vals (g ++ [.lst (ra.map rv)] ++ [.lst (rb.map rv)]))[(SV zs at_ vals (g ++ [.lst (ra.map rv)])).length]? with
      | some (AO.lst xs), some (AO.lst ys) => if xs.length + ys.length ≤ LINE then Rs.ok (AV.ref _) (_ ++ [AO.lst (xs ++ ys)]) else .bad
      | _, _ => .bad) = _
    rw [i1, i2]
    show (if (ra.map rv).length + (rb.map rv).length ≤ LINE then _ else _) = _
    rw [if_pos (by decide), svApp, List.map_append]
  refine ⟨(SV zs at_ vals (g ++ [.lst (ra.map rv)] ++ [.lst (rb.map rv)])).length, g ++ [.lst (ra.map rv)] ++ [.lst (rb.map rv)] ++ [.lst ((ra ++ rb).map rv)], sv_last, ?_⟩
  unfold sJ
  rw [exI]
  have e3 : evI F0 cons 0 99 (.bin .add (.slot 11) (.lst (rb.map re))) (lw S c3 c4 c5 c6 c7 c8 c9 c10 (some (.ref (SV zs at_ vals g).length)) c12) (SV zs at_ vals (g ++ [.lst (ra.map rv)])) = .ok (.ref (SV zs at_ vals (g ++ [.lst (ra.map rv)] ++ [.lst (rb.map rv)])).length) (SV zs at_ vals (g ++ [.lst (ra.map rv)] ++ [.lst (rb.map rv)] ++ [.lst ((ra ++ rb).map rv)])) := by
    rw [evI]
    show ((Rs.ok (AV.ref (SV zs at_ vals g).length) (SV zs at_ vals (g ++ [.lst (ra.map rv)]))).bd fun x s => (evI F0 cons 0 98 (.lst (rb.map re)) (lw S c3 c4 c5 c6 c7 c8 c9 c10 (some (.ref (SV zs at_ vals g).length)) c12) s).bd fun y s => opBin .add x y s) = _
    simp only [bd_ok]
    rw [e]
    exact ad
  rw [e3]
  rfl
end
end K00

set_option Elab.async false
set_option linter.all false
set_option maxRecDepth 100000
namespace K00
open PySem Ip
/-- what is written out -/
def cE : Nat → IE → Option AV
  | 0, _ => none
  | n + 1, .lit d => some d
  | n + 1, .tup es => (match optAll (cE n) es with
    | some ds => if ds.length ≤ LINE then some (.tup ds) else none
    | none => none)
  | n + 1, .neg a => (match cE n a with
    | some (.int i) => some (.int (-i))
    | _ => none)
  | _ + 1, _ => none
theorem cEs_ok {F : Nat → Nat → List AV → Sto → Rs AV} {C : List AV} {g n : Nat} {σ : Slots} {s : Sto} (ih : ∀ e v, cE n e = some v → evI F C g n e σ s = .ok v s) : ∀ (es : List IE) (ds : List AV), optAll (cE n) es = some ds → evs (evI F C g n) es σ s = .ok ds s
  | [], ds, h => by
    cases h
    rfl
  | e :: r, ds, h => by
    unfold optAll at h
    cases he : cE n e with
    | none => rw [he] at h; cases h
    | some v =>
      rw [he] at h
      cases hr : optAll (cE n) r with
      | none => rw [hr] at h; cases h
      | some vs =>
        rw [hr] at h
        cases h
        show ((evI F C g n e σ s).bd fun x s => (evs (evI F C g n) r σ s).bd fun xs s => .ok (x :: xs) s) = _
        rw [ih e v he]
        simp only [bd_ok]
        rw [cEs_ok ih r vs hr]
        rfl
theorem cE_ok {F : Nat → Nat → List AV → Sto → Rs AV} {C : List AV} {g : Nat} {σ : Slots} {s : Sto} : ∀ (n : Nat) (e : IE) (v : AV), cE n e = some v → evI F C g n e σ s = .ok v s
  | 0, _, _, h => by cases h
  | n + 1, e, v, h => by
    unfold cE at h
    split at h
    · rename_i heq; cases heq
    · cases h; rename_i heq; cases heq; rfl
    · rename_i n' es heq
      cases heq
      split at h
      · rename_i ds hd
        split at h
        · rename_i hl
          cases h
          rw [evI, cEs_ok (cE_ok n) es ds hd]
          simp only [bd_ok, hl, if_true]
        · cases h
      · cases h
    · rename_i n' a heq
      cases heq
      split at h
      · rename_i i hi
        cases h
        rw [evI, cE_ok n a _ hi]
        rfl
      · cases h
    · cases h
def taE : List IE := [(.lit .non), (.lit (.bl true)), (.lit (.int 1)), (.lit (.str ⟨⟨[97]⟩⟩)), (.tup []), (.tup [(.lit (.str ⟨⟨[110, 117, 109, 98, 101, 114]⟩⟩))]), (.tup [(.lit (.str ⟨⟨[116, 114, 117, 116, 104]⟩⟩)), (.lit (.int 1))]), (.tup [(.lit (.str ⟨⟨[110, 117, 109, 98, 101, 114]⟩⟩)), (.lit (.bl true))]), (.tup [(.lit (.str ⟨⟨[111, 112, 116, 105, 111, 110]⟩⟩)), (.lit (.str ⟨⟨[105, 102]⟩⟩))]), (.tup [(.lit (.str ⟨⟨[111, 112, 116, 105, 111, 110, 115]⟩⟩)), (.tup [(.lit (.str ⟨⟨[98]⟩⟩)), (.lit (.str ⟨⟨[97]⟩⟩))])])]
def tbE : List IE := [(.tup [(.lit (.str ⟨⟨[116, 101, 120, 116]⟩⟩)), (.lit (.int 5))]), (.tup [(.lit (.str ⟨⟨[119, 111, 114, 100]⟩⟩)), (.lit (.str ⟨⟨[97]⟩⟩))]), (.tup [(.lit (.str ⟨⟨[110, 117, 109, 98, 101, 114]⟩⟩)), (.lit (.int 10000))]), (.tup [(.lit (.str ⟨⟨[110, 117, 109, 98, 101, 114]⟩⟩)), (.neg (.lit (.int 10000)))]), (.tup [(.lit (.str ⟨⟨[111, 112, 116, 105, 111, 110, 115]⟩⟩)), (.tup [(.lit (.int 1))])]), (.tup [(.lit (.str ⟨⟨[111, 112, 116, 105, 111, 110, 115]⟩⟩)), (.tup [(.lit (.str ⟨⟨[97]⟩⟩)), (.lit .non)])])]
def e1 : IE := (.tup [(.lit (.str ⟨⟨[111, 112, 116, 105, 111, 110, 115]⟩⟩)), (.lst [(.lit (.str ⟨⟨[97]⟩⟩))])])
def ta : List AV := (optAll (cE 98) taE).getD []
def tb : List AV := (optAll (cE 97) tbE).getD []
def sF : IS := .asg (.nm 10) (.lst taE)
def sG : IS := .asg (.nm 10) (.bin .add (.slot 10) (.lst (e1 :: tbE)))
def sH : IS := (.ifs (.cmp .noB (.call 2 [(.idx (.slot 10) (.call 14 [(.slot 1), (.lit (.int 17))]))]) (.lit (.bl false))) [(.ret (.lit (.bl false)))] [])
theorem ta_e : optAll (cE 98) taE = some ta := by rfl
theorem tb_e : optAll (cE 97) tbE = some tb := by rfl
section
variable {S : AV} {c3 c4 c5 c6 c7 c8 c9 c10 c11 c12 : Option AV} {d : AV} {zs : List Int} {at_ : Int} {vals : List AV} {g : Sto}
theorem w10 : (lw S c3 c4 c5 c6 c7 c8 c9 (some d) c11 c12)[10]? = some (some d) := rfl
theorem a10 {s : Sto} : asT s (.nm 10) d (lw S c3 c4 c5 c6 c7 c8 c9 c10 c11 c12) = some (lw S c3 c4 c5 c6 c7 c8 c9 (some d) c11 c12) := rfl
theorem doF : exI F0 cons 100 sF (lw S c3 c4 c5 c6 c7 c8 c9 c10 c11 c12) (SV zs at_ vals g) = .ok (.nx (lw S c3 c4 c5 c6 c7 c8 c9 (some (.ref (SV zs at_ vals g).length)) c11 c12)) (SV zs at_ vals (g ++ [.lst ta])) := by
  unfold sF
  rw [exI]
  have e : evI F0 cons 0 99 (.lst taE) (lw S c3 c4 c5 c6 c7 c8 c9 c10 c11 c12) (SV zs at_ vals g) = .ok (.ref (SV zs at_ vals g).length) (SV zs at_ vals g ++ [.lst ta]) := by
    rw [evI, cEs_ok (cE_ok 98) taE ta ta_e]
    show (if ta.length ≤ LINE then Rs.ok (AV.ref (SV zs at_ vals g).length) (SV zs at_ vals g ++ [AO.lst ta]) else .bad) = _
    rw [if_pos (by decide +kernel)]
  rw [e, svApp]
  rfl
/-- a pair with a list in it -/
def pr (m : Nat) : AV := .tup [.str sOs, .ref m]
theorem e1_ok {σ : Slots} {s : Sto} : evI F0 cons 0 97 e1 σ s = .ok (pr s.length) (s ++ [.lst [.str ⟨⟨[97]⟩⟩]]) := by
  unfold e1
  simp only [evI, evs, bd_ok, List.length_cons, List.length_nil, Nat.reduceAdd, l1, l2, if_true]
  rfl
theorem sv_len1 {x : AO} : (SV zs at_ vals (g ++ [x])).length = (SV zs at_ vals g).length + 1 := by
  rw [← svApp, List.length_append]
  rfl
theorem sv_get {x : AO} {i : Nat} (h : i < (SV zs at_ vals g).length) : (SV zs at_ vals (g ++ [x]))[i]? = (SV zs at_ vals g)[i]? := by
  rw [← svApp, List.getElem?_append_left h]
theorem doG : ∃ m k g2, (SV zs at_ vals g2)[m]? = some (.lst (ta ++ (pr k :: tb))) ∧ (SV zs at_ vals g2)[k]? = some (.lst [.str ⟨⟨[97]⟩⟩]) ∧
    exI F0 cons 100 sG (lw S c3 c4 c5 c6 c7 c8 c9 (some (.ref (SV zs at_ vals g).length)) c11 c12) (SV zs at_ vals (g ++ [.lst ta])) = .ok (.nx (lw S c3 c4 c5 c6 c7 c8 c9 (some (.ref m)) c11 c12)) (SV zs at_ vals g2) := by
  have e0 : evs (evI F0 cons 0 97) (e1 :: tbE) (lw S c3 c4 c5 c6 c7 c8 c9 (some (.ref (SV zs at_ vals g).length)) c11 c12) (SV zs at_ vals (g ++ [.lst ta])) = .ok (pr (SV zs at_ vals (g ++ [.lst ta])).length :: tb) (SV zs at_ vals (g ++ [.lst ta] ++ [.lst [.str ⟨⟨[97]⟩⟩]])) := by
    show ((evI F0 cons 0 97 e1 _ _).bd fun x s => (evs (evI F0 cons 0 97) tbE _ s).bd fun xs s => .ok (x :: xs) s) = _
    rw [e1_ok]
    simp only [bd_ok]
    rw [cEs_ok (cE_ok 97) tbE tb tb_e, svApp]
    rfl
  generalize hk : (SV zs at_ vals (g ++ [.lst ta])).length = k at e0
  have e : evI F0 cons 0 98 (.lst (e1 :: tbE)) (lw S c3 c4 c5 c6 c7 c8 c9 (some (.ref (SV zs at_ vals g).length)) c11 c12) (SV zs at_ vals (g ++ [.lst ta])) = .ok (.ref (SV zs at_ vals (g ++ [.lst ta] ++ [.lst [.str ⟨⟨[97]⟩⟩]])).length) (SV zs at_ vals (g ++ [.lst ta] ++ [.lst [.str ⟨⟨[97]⟩⟩]] ++ [.lst (pr k :: tb)])) := by
    rw [evI, e0]
    have hl : (pr k :: tb).length ≤ LINE := by
      rw [List.length_cons, show tb.length = 6 from by decide +kernel]
      decide
    simp only [bd_ok, hl, if_true]
    rw [svApp]
  have i1 : (SV zs at_ vals (g ++ [.lst ta] ++ [.lst [.str ⟨⟨[97]⟩⟩]] ++ [.lst (pr k :: tb)]))[(SV zs at_ vals g).length]? = some (.lst ta) := by
    rw [← svApp, ← svApp, ← svApp, List.getElem?_append_left (by simp), List.getElem?_append_left (by simp), List.getElem?_append_right (Nat.le_refl _)]
    simp
  have i2 : (SV zs at_ vals (g ++ [.lst ta] ++ [.lst [.str ⟨⟨[97]⟩⟩]] ++ [.lst (pr k :: tb)]))[(SV zs at_ vals (g ++ [.lst ta] ++ [.lst [.str ⟨⟨[97]⟩⟩]])).length]? = some (.lst (pr k :: tb)) := sv_last
  have ad : opBin .add (.ref (SV zs at_ vals g).length) (.ref (SV zs at_ vals (g ++ [.lst ta] ++ [.lst [.str ⟨⟨[97]⟩⟩]])).length) (SV zs at_ vals (g ++ [.lst ta] ++ [.lst [.str ⟨⟨[97]⟩⟩]] ++ [.lst (pr k :: tb)])) = .ok (.ref (SV zs at_ vals (g ++ [.lst ta] ++ [.lst [.str ⟨⟨[97]⟩⟩]] ++ [.lst (pr k :: tb)])).length) (SV zs at_ vals (g ++ [.lst ta] ++ [.lst [.str ⟨⟨[97]⟩⟩]] ++ [.lst (pr k :: tb)] ++ [.lst (ta ++ (pr k :: tb))])) := by
    show (match (SV zs at_ vals (g ++ [.lst ta] ++ [.lst [.str ⟨⟨[97]⟩⟩]] ++ [.lst (pr k :: tb)]))[(SV zs at_ vals g).length]?, (SV zs at_ vals (g ++ [.lst ta] ++ [.lst [.str ⟨⟨[97]⟩⟩]] ++ [.lst (pr k :: tb)]))[(SV zs at_ vals (g ++ [.lst ta] ++ [.lst [.str ⟨⟨[97]⟩⟩]])).length]? with
      | some (AO.lst xs), some (AO.lst ys) => if xs.length + ys.length ≤ LINE then Rs.ok (AV.ref _) (_ ++ [AO.lst (xs ++ ys)]) else .bad
      | _, _ => .bad) = _
    rw [i1, i2]
    have hl : ta.length + (pr k :: tb).length ≤ LINE := by
      rw [List.length_cons, show tb.length = 6 from by decide +kernel, show ta.length = 10 from by decide +kernel]
      decide
    show (if ta.length + (pr k :: tb).length ≤ LINE then _ else _) = _
    rw [if_pos hl, svApp]
  refine ⟨_, k, g ++ [.lst ta] ++ [.lst [.str ⟨⟨[97]⟩⟩]] ++ [.lst (pr k :: tb)] ++ [.lst (ta ++ (pr k :: tb))], sv_last (at_ := at_), ?_, ?_⟩
  · have L0 : (SV zs at_ vals (g ++ [.lst ta] ++ [.lst [.str ⟨⟨[97]⟩⟩]])).length = (SV zs at_ vals (g ++ [.lst ta])).length + 1 := sv_len1
    have L1 : (SV zs at_ vals (g ++ [.lst ta] ++ [.lst [.str ⟨⟨[97]⟩⟩]] ++ [.lst (pr k :: tb)])).length = (SV zs at_ vals (g ++ [.lst ta] ++ [.lst [.str ⟨⟨[97]⟩⟩]])).length + 1 := sv_len1
    rw [sv_get (by omega), sv_get (by omega), ← hk]
    exact sv_last
  · unfold sG
    rw [exI]
    have e3 : evI F0 cons 0 99 (.bin .add (.slot 10) (.lst (e1 :: tbE))) (lw S c3 c4 c5 c6 c7 c8 c9 (some (.ref (SV zs at_ vals g).length)) c11 c12) (SV zs at_ vals (g ++ [.lst ta])) = .ok (.ref (SV zs at_ vals (g ++ [.lst ta] ++ [.lst [.str ⟨⟨[97]⟩⟩]] ++ [.lst (pr k :: tb)])).length) (SV zs at_ vals (g ++ [.lst ta] ++ [.lst [.str ⟨⟨[97]⟩⟩]] ++ [.lst (pr k :: tb)] ++ [.lst (ta ++ (pr k :: tb))])) := by
      rw [evI]
      show ((Rs.ok (AV.ref (SV zs at_ vals g).length) (SV zs at_ vals (g ++ [.lst ta]))).bd fun x s => (evI F0 cons 0 98 (.lst (e1 :: tbE)) (lw S c3 c4 c5 c6 c7 c8 c9 (some (.ref (SV zs at_ vals g).length)) c11 c12) s).bd fun y s => opBin .add x y s) = _
      simp only [bd_ok]
      rw [e]
      exact ad
    rw [e3]
    rfl
theorem tab0 : ((ta ++ tb).all fun t => isOkB (tab cons defs 39 0 2 [t] []) false && lowA 0 t) = true := by decide +kernel
/-- is_value of the pair with a list -/
theorem is_pr {s : Sto} {m : Nat} {xs : List AV} (h : s[m]? = some (.lst xs)) : tab cons defs 39 0 2 [pr m] s = .ok (.bl false) s := by
  have e : tab cons defs 39 0 2 = runD (fun g => tab cons defs 38 (4 * g)) cons d2 := by
    funext xs s
    rfl
  have it : isT s (.ref m) .tuple = some false := by
    show (match s[m]? with
      | some (.lst _) => some (TY.tuple == TY.list)
      | none => none) = _
    rw [h]
    rfl
  have tt : isT s (pr m) .tuple = some true := rfl
  have len2 : opBi .len [pr m] s = .ok (.int 2) s := rfl
  have ne2 : opCmp .ne (.int 2) (.int 2) s = some false := rfl
  have as12 : asT s (.tp [.nm 1, .nm 2]) (pr m) [some (pr m), none, none] = some [some (pr m), some (.str sOs), some (.ref m)] := rfl
  have q1 : opCmp .eq (.str sOs) (.str ⟨⟨[116, 114, 117, 116, 104]⟩⟩) s = some false := rfl
  have q2 : opCmp .eq (.str sOs) (.str ⟨⟨[110, 117, 109, 98, 101, 114]⟩⟩) s = some false := rfl
  have q3 : opCmp .eq (.str sOs) (.str ⟨⟨[111, 112, 116, 105, 111, 110]⟩⟩) s = some false := rfl
  have q4 : opCmp .eq (.str sOs) (.str ⟨⟨[111, 112, 116, 105, 111, 110, 115]⟩⟩) s = some true := rfl
  rw [e]
  unfold runD d2
  simp only [List.length_cons, List.length_nil, exs, exI, evI, evs, bd_ok, List.map, List.replicate, List.cons_append, List.nil_append, List.getElem?_cons_zero, List.getElem?_cons_succ, opt_some, Nat.reduceAdd, Nat.reduceSub, if_true, tt, Option.map_some, tr_b, Bool.not_true, Bool.false_eq_true, if_false, len2, ne2, as12, q1, q2, q3, q4, it, letGo_same]
theorem doH (h0 : 0 ≤ at_) {m k : Nat} (hm : (SV zs at_ vals g)[m]? = some (.lst (ta ++ (pr k :: tb)))) (hk : (SV zs at_ vals g)[k]? = some (.lst [.str ⟨⟨[97]⟩⟩])) (hm2 : ∀ at2, (SV zs at2 vals g)[m]? = some (.lst (ta ++ (pr k :: tb)))) (hk2 : ∀ at2, (SV zs at2 vals g)[k]? = some (.lst [.str ⟨⟨[97]⟩⟩])) :
    exI F0 cons 100 sH (lw S c3 c4 c5 c6 c7 c8 c9 (some (.ref m)) c11 c12) (SV zs at_ vals g) = .ok (.nx (lw S c3 c4 c5 c6 c7 c8 c9 (some (.ref m)) c11 c12)) (SV zs (at_ + 1) vals g) := by
  obtain ⟨x, h1, h2, e⟩ := drawSV (zs := zs) (vals := vals) (g := g) 38 17 h0 (by decide)
  have hl : ((ta ++ (pr k :: tb)).length : Int) = 17 := by
    rw [List.length_append, List.length_cons, show tb.length = 6 from by decide +kernel, show ta.length = 10 from by decide +kernel]
    rfl
  obtain ⟨t, ht, hmem⟩ := atI_mem (xs := ta ++ (pr k :: tb)) h1 (by rw [hl]; exact h2)
  have ix : opIdx (.ref m) (.int x) (SV zs (at_ + 1) vals g) = some t := by
    rw [idx_ref (xs := ta ++ (pr k :: tb)) (hm2 _)]
    exact ht
  have cal : callF (tab cons defs 39 0 2) [t] (SV zs (at_ + 1) vals g) = .ok (.bl false) (SV zs (at_ + 1) vals g) := by
    have low : t ∈ ta ++ tb → callF (tab cons defs 39 0 2) [t] (SV zs (at_ + 1) vals g) = .ok (.bl false) (SV zs (at_ + 1) vals g) := fun z => by
      have h := List.all_eq_true.mp tab0 t z
      rw [Bool.and_eq_true] at h
      exact own (okB h.1) (by show (lowA 0 t && true) = true; rw [h.2]; rfl) rfl _
    rw [List.mem_append, List.mem_cons] at hmem
    rcases hmem with z | z | z
    · exact low (List.mem_append_left _ z)
    · subst z
      unfold callF
      have e : lowL 0 [pr k] = false := rfl
      rw [e]
      exact is_pr (hk2 _)
    · exact low (List.mem_append_right _ z)
  have nb : ∀ s : Sto, opCmp .noB (.bl false) (.bl false) s = some false := fun _ => rfl
  unfold sH
  simp only [exs, exI, evI, evs, w10, w1, bd_ok, Nat.mul_zero, callF_r, e, ix, opt_some, cal, nb, Option.map_some, tr_b, Bool.false_eq_true, if_false]
theorem names0 : ((ra ++ rb).all fun p => isOkB (tab cons defs 39 0 0 [.str p.1] []) p.2) = true := by decide +kernel
/-- the last comprehension: nothing is left -/
theorem last (n : Nat) (rows : List AV) (m : Nat) (s : Sto) (σ : Slots) (hσ : σ.length = 13) (hs : s[m]? = some (.lst rows)) : ∀ l : List (Str × Bool), (∀ p ∈ l, p ∈ ra ++ rb) → lcLoop (evI F0 cons 0 (n + 5)) [9, 12] (.slot 9) (.tp [(.nm 9), (.nm 12)]) .seq [.ref m] rows [tsR] σ (l.map rv) [] s = .ok [] s
  | [], _ => rfl
  | p :: r, h => by
    have hp := List.all_eq_true.mp names0 p (h p List.mem_cons_self)
    have cal : callF (tab cons defs 39 0 0) [AV.str p.1] s = .ok (.bl p.2) s := own (okB hp) rfl rfl s
    have as9 : asT s (.tp [.nm 9, .nm 12]) (rv p) (wipeA σ [9, 12]) = some (((wipeA σ [9, 12]).set 9 (some (.str p.1))).set 12 (some (.bl p.2))) := by
      have w : wipeA σ [9, 12] = (σ.set 12 none).set 9 none := rfl
      show (match (if 9 < (wipeA σ [9, 12]).length then some ((wipeA σ [9, 12]).set 9 (some (AV.str p.1))) else none) with
        | some σ => (match (if 12 < σ.length then some (σ.set 12 (some (AV.bl p.2))) else none) with
          | some σ => some σ
          | none => none)
        | none => none) = _
      have l13 : (wipeA σ [9, 12]).length = 13 := by rw [w, List.length_set, List.length_set, hσ]
      rw [if_pos (by rw [l13]; decide)]
      simp only []
      rw [if_pos (by rw [List.length_set, l13]; decide)]
    generalize hτ : ((wipeA σ [9, 12]).set 9 (some (.str p.1))).set 12 (some (.bl p.2)) = τ at as9
    have l13 : (wipeA σ [9, 12]).length = 13 := by
      have w : wipeA σ [9, 12] = (σ.set 12 none).set 9 none := rfl
      rw [w, List.length_set, List.length_set, hσ]
    have t9 : τ[9]? = some (some (.str p.1)) := by
      rw [← hτ, List.getElem?_set_ne (by decide)]
      exact List.getElem?_set_self (by rw [l13]; decide)
    have t12 : τ[12]? = some (some (.bl p.2)) := by
      rw [← hτ]
      exact List.getElem?_set_self (by rw [List.length_set, l13]; decide)
    have te : tests (evI F0 cons 0 (n + 5)) [tsR] τ s = .ok false s := by
      unfold tsR
      simp only [tests, evI, evs, t9, t12, bd_ok, Nat.mul_zero, cal, ne_bb, beq_self_eq_true, Bool.not_true, Option.map_some, opt_some, tr_b]
    have st : stands .seq [.ref m] rows s = true := by
      show (match s[m]? with
        | some (AO.lst zs) => sameL zs rows
        | none => false) = true
      rw [hs]
      exact sameL_rf rows
    show lcLoop _ _ _ _ _ _ _ _ _ (rv p :: r.map rv) [] s = _
    simp only [lcLoop, as9, te, nx_ok, bd_ok, st, if_true]
    exact last n rows m s σ hσ hs r fun w hw => h w (List.mem_cons_of_mem _ hw)
theorem doK {m : Nat} (hm : (SV zs at_ vals g)[m]? = some (.lst ((ra ++ rb).map rv))) : ∃ s', exI F0 cons 100 sK (lw S c3 c4 c5 c6 c7 c8 c9 c10 (some (.ref m)) c12) (SV zs at_ vals g) = .ok (.rt (.bl true)) s' := by
  have il := last 91 ((ra ++ rb).map rv) m (SV zs at_ vals g) (lw S c3 c4 c5 c6 c7 c8 c9 c10 (some (.ref m)) c12) rfl hm (ra ++ rb) fun _ h => h
  have wk : walk .seq [.ref m] (SV zs at_ vals g) = some ((ra ++ rb).map rv) := by
    show items (SV zs at_ vals g) (.ref m) = _
    show (match (SV zs at_ vals g)[m]? with
      | some (.lst xs) => some xs
      | none => none) = _
    rw [hm]
  have e : evI F0 cons 0 97 (.lc [(⟨⟨[116, 101, 120, 116]⟩⟩, 9), (⟨⟨[116, 111, 108, 100]⟩⟩, 12)] (.slot 9) (.tp [(.nm 9), (.nm 12)]) .seq [(.slot 11)] [tsR]) (lw S c3 c4 c5 c6 c7 c8 c9 c10 (some (.ref m)) c12) (SV zs at_ vals g) = .ok (.ref (SV zs at_ vals g).length) (SV zs at_ vals g ++ [.lst []]) := by
    rw [evI]
    show ((opt (walk .seq [.ref m] (SV zs at_ vals g)) (SV zs at_ vals g)).bd fun ys s => (lcLoop (evI F0 cons 0 96) [9, 12] (.slot 9) (.tp [(.nm 9), (.nm 12)]) .seq [.ref m] ys [tsR] (lw S c3 c4 c5 c6 c7 c8 c9 c10 (some (.ref m)) c12) ys [] s).bd fun zs s => .ok (AV.ref s.length) (s ++ [AO.lst zs])) = _
    rw [wk]
    show ((lcLoop (evI F0 cons 0 96) [9, 12] (.slot 9) (.tp [(.nm 9), (.nm 12)]) .seq [.ref m] ((ra ++ rb).map rv) [tsR] (lw S c3 c4 c5 c6 c7 c8 c9 c10 (some (.ref m)) c12) ((ra ++ rb).map rv) [] (SV zs at_ vals g)).bd fun zs s => .ok (AV.ref s.length) (s ++ [AO.lst zs])) = _
    rw [il]
    rfl
  refine ⟨SV zs at_ vals g ++ [.lst []], ?_⟩
  unfold sK
  rw [exI]
  show (((((evI F0 cons 0 97 (.lc [(⟨⟨[116, 101, 120, 116]⟩⟩, 9), (⟨⟨[116, 111, 108, 100]⟩⟩, 12)] (.slot 9) (.tp [(.nm 9), (.nm 12)]) .seq [(.slot 11)] [tsR]) (lw S c3 c4 c5 c6 c7 c8 c9 c10 (some (.ref m)) c12) (SV zs at_ vals g)).bd fun x s => (Rs.ok ([] : List AV) s).bd fun xs s => Rs.ok (x :: xs) s).bd fun xs s => opBi .len xs s).bd fun x s => (Rs.ok (AV.int 0) s).bd fun y s => opt ((opCmp .eq x y s).map AV.bl) s).bd fun x s => Rs.ok (Fl.rt x) s) = _
  rw [e]
  simp only [bd_ok, len_last, eq_ii, Option.map_some, opt_some]
  rfl
end
theorem d17_eq : d17 = ⟨13, 1, [sA, sB, .for_ (.nm 4) .seq [(.slot 2)] bodyV, sC, sD, sE, sF, sG, sH, sI, sJ, sK]⟩ := rfl
theorem sv_at {zs : List Int} {a b : Int} {vals : List AV} {g : Sto} {m : Nat} {xs : List AV} (hm : m ≠ 1) (h : (SV zs a vals g)[m]? = some (.lst xs)) : (SV zs b vals g)[m]? = some (.lst xs) := by
  unfold SV S2 at h ⊢
  match m, hm with
  | 0, _ => exact h
  | 1, hm => exact absurd rfl hm
  | m + 2, _ => exact h
theorem math (ns : List Int) : ∃ s', tab cons defs 40 0 17 [.lst (ns.map AV.int)] [] = .ok (.bl true) s' := by
  have e : tab cons defs 40 0 17 = runD F0 cons d17 := by
    funext xs s
    rfl
  rw [e, d17_eq]
  obtain ⟨zs, hA⟩ := startA ns
  obtain ⟨vals, at2, hv, h0, hB⟩ := startB ns zs
  obtain ⟨d4, d5, d6, g2, hL⟩ := loopV (S := .lst (ns.map AV.int)) (c3 := none) (c4 := none) (c5 := none) (c6 := none) (c7 := none) (c8 := none) (c9 := none) (c10 := none) (c11 := none) (c12 := none) (zs := zs) (at_ := at2) (g := []) hv
  have hC := doC (S := .lst (ns.map AV.int)) (c3 := none) (c4 := d4) (c5 := d5) (c6 := d6) (c7 := none) (c8 := none) (c9 := none) (c10 := none) (c11 := none) (c12 := none) (zs := zs) (at_ := at2) (vals := vals) (g := g2)
  obtain ⟨t, ht, hD⟩ := doD (S := .lst (ns.map AV.int)) (c3 := none) (c4 := d4) (c5 := d5) (c6 := d6) (c7 := none) (c9 := none) (c10 := none) (c11 := none) (c12 := none) (zs := zs) (at_ := at2) (vals := vals) (g := g2) h0
  generalize hr : AV.ref (SV zs at2 vals g2).length = r8 at hC hD
  have hE := doE (S := .lst (ns.map AV.int)) (c3 := none) (c4 := d4) (c5 := d5) (c6 := d6) (c7 := none) (c8 := some r8) (c10 := none) (c11 := none) (c12 := none) (t := t) ht (s := SV zs (at2 + 1) vals (g2 ++ [.lst wt]))
  have hF := doF (S := .lst (ns.map AV.int)) (c3 := none) (c4 := d4) (c5 := d5) (c6 := d6) (c7 := none) (c8 := some r8) (c9 := some t) (c10 := none) (c11 := none) (c12 := none) (zs := zs) (at_ := at2 + 1) (vals := vals) (g := g2 ++ [.lst wt])
  obtain ⟨m, k, g3, hm, hk, hG⟩ := doG (S := .lst (ns.map AV.int)) (c3 := none) (c4 := d4) (c5 := d5) (c6 := d6) (c7 := none) (c8 := some r8) (c9 := some t) (c11 := none) (c12 := none) (zs := zs) (at_ := at2 + 1) (vals := vals) (g := g2 ++ [.lst wt])
  have m1 : m ≠ 1 := fun z => by
    subst z
    have h2 : (some (AO.lst [AV.ref 0, .int (at2 + 1)])) = some (AO.lst (ta ++ (pr k :: tb))) := hm
    have h3 : [AV.ref 0, .int (at2 + 1)].length = (ta ++ (pr k :: tb)).length := by
      injection h2 with h2
      injection h2 with h2
      rw [h2]
    simp only [List.length_append, List.length_cons, List.length_nil, show tb.length = 6 from by decide +kernel, show ta.length = 10 from by decide +kernel] at h3
    omega
  have k1 : k ≠ 1 := fun z => by
    subst z
    have h2 : (some (AO.lst [AV.ref 0, .int (at2 + 1)])) = some (AO.lst [.str ⟨⟨[97]⟩⟩]) := hk
    cases h2
  have hH := doH (S := .lst (ns.map AV.int)) (c3 := none) (c4 := d4) (c5 := d5) (c6 := d6) (c7 := none) (c8 := some r8) (c9 := some t) (c11 := none) (c12 := none) (zs := zs) (at_ := at2 + 1) (vals := vals) (g := g3) (by omega) hm hk (fun _ => sv_at m1 hm) (fun _ => sv_at k1 hk)
  have hI := doI (S := .lst (ns.map AV.int)) (c3 := none) (c4 := d4) (c5 := d5) (c6 := d6) (c7 := none) (c8 := some r8) (c9 := some t) (c10 := some (.ref m)) (c11 := none) (c12 := none) (zs := zs) (at_ := at2 + 1 + 1) (vals := vals) (g := g3)
  obtain ⟨m2, g4, hm2, hJ⟩ := doJ (S := .lst (ns.map AV.int)) (c3 := none) (c4 := d4) (c5 := d5) (c6 := d6) (c7 := none) (c8 := some r8) (c9 := some t) (c10 := some (.ref m)) (c12 := none) (zs := zs) (at_ := at2 + 1 + 1) (vals := vals) (g := g3)
  obtain ⟨s', hK⟩ := doK (S := .lst (ns.map AV.int)) (c3 := none) (c4 := d4) (c5 := d5) (c6 := d6) (c7 := none) (c8 := some r8) (c9 := some t) (c10 := some (.ref m)) (c12 := none) hm2
  refine ⟨Ip.letGo 0 (.bl true) s', ?_⟩
  unfold runD
  show ((exs (exI F0 cons 100) [sA, sB, .for_ (.nm 4) .seq [(.slot 2)] bodyV, sC, sD, sE, sF, sG, sH, sI, sJ, sK] (σ0 ns) []).bd fun f s' => match f with
    | .nx _ => Rs.ok AV.non (Ip.letGo 0 .non s')
    | .rt v => .ok v (Ip.letGo 0 v s')
    | _ => .bad) = _
  simp only [exs, hA, hB, hL, hC, hD, hE, hF, hG, hH, hI, hJ, hK, bd_ok]
end K00

set_option maxRecDepth 1000000
set_option maxHeartbeats 4000000
namespace K00
open PySem Ip
def top (i : Nat) : Stmt := PySem.Challenge.pw_formflow_k00_values_coded.main.body.getD i (.Pass ⟨0, 0, 0, 0⟩)
def q0 : DI := ⟨top 7, ⟨⟨[105, 115, 95, 110, 97, 109, 101]⟩⟩, [⟨⟨[116, 101, 120, 116]⟩⟩, ⟨⟨[115, 105, 103, 110]⟩⟩], [⟨⟨[116, 101, 120, 116]⟩⟩], d0⟩
def q1 : DI := ⟨top 8, ⟨⟨[105, 115, 95, 110, 117, 109, 101, 114, 97, 108]⟩⟩, [⟨⟨[116, 101, 120, 116]⟩⟩, ⟨⟨[115, 105, 103, 110]⟩⟩], [⟨⟨[116, 101, 120, 116]⟩⟩], d1⟩
def q2 : DI := ⟨top 9, ⟨⟨[105, 115, 95, 118, 97, 108, 117, 101]⟩⟩, [⟨⟨[116, 104, 105, 110, 103]⟩⟩, ⟨⟨[107, 105, 110, 100]⟩⟩, ⟨⟨[119, 111, 114, 116, 104]⟩⟩], [⟨⟨[116, 104, 105, 110, 103]⟩⟩], d2⟩
def q3 : DI := ⟨top 10, ⟨⟨[99, 111, 100, 101, 95, 111, 102]⟩⟩, [⟨⟨[118, 97, 108, 117, 101]⟩⟩, ⟨⟨[107, 105, 110, 100]⟩⟩, ⟨⟨[119, 111, 114, 116, 104]⟩⟩], [⟨⟨[118, 97, 108, 117, 101]⟩⟩], d3⟩
def q4 : DI := ⟨top 11, ⟨⟨[118, 97, 108, 117, 101, 95, 111, 102]⟩⟩, [⟨⟨[99, 111, 100, 101]⟩⟩], [⟨⟨[99, 111, 100, 101]⟩⟩], d4⟩
def q5 : DI := ⟨top 12, ⟨⟨[95, 105, 115, 95, 101, 110, 116, 114, 121, 95, 110, 117, 109, 98, 101, 114]⟩⟩, [⟨⟨[116, 104, 105, 110, 103]⟩⟩], [⟨⟨[116, 104, 105, 110, 103]⟩⟩], d5⟩
def q6 : DI := ⟨top 13, ⟨⟨[95, 97, 114, 101, 95, 111, 112, 116, 105, 111, 110, 115]⟩⟩, [⟨⟨[110, 97, 109, 101, 115]⟩⟩, ⟨⟨[110, 97, 109, 101]⟩⟩], [⟨⟨[110, 97, 109, 101, 115]⟩⟩], d6⟩
def q7 : DI := ⟨top 14, ⟨⟨[95, 111, 112, 116, 105, 111, 110, 115, 95, 105, 110]⟩⟩, [⟨⟨[108, 105, 115, 116, 101, 100]⟩⟩, ⟨⟨[110, 97, 109, 101, 115]⟩⟩], [⟨⟨[108, 105, 115, 116, 101, 100]⟩⟩], d7⟩
def q8 : DI := ⟨top 15, ⟨⟨[95, 110, 117, 109, 98, 101, 114, 95, 105, 110]⟩⟩, [⟨⟨[99, 111, 100, 101]⟩⟩, ⟨⟨[100, 105, 103, 105, 116, 115]⟩⟩], [⟨⟨[99, 111, 100, 101]⟩⟩], d8⟩
def q9 : DI := ⟨top 17, ⟨⟨[95, 108, 97, 119, 95, 105, 115, 95, 105, 110, 116, 101, 103, 101, 114]⟩⟩, [⟨⟨[97, 99, 116, 117, 97, 108]⟩⟩], [⟨⟨[97, 99, 116, 117, 97, 108]⟩⟩], d9⟩
def q10 : DI := ⟨top 18, ⟨⟨[95, 108, 97, 119, 95, 99, 101, 108, 108]⟩⟩, [⟨⟨[115, 99, 114, 105, 112, 116]⟩⟩, ⟨⟨[107]⟩⟩], [⟨⟨[115, 99, 114, 105, 112, 116]⟩⟩, ⟨⟨[107]⟩⟩], d10⟩
def q11 : DI := ⟨top 19, ⟨⟨[95, 108, 97, 119, 95, 108, 105, 115, 116, 95, 105, 115]⟩⟩, [⟨⟨[97, 99, 116, 117, 97, 108]⟩⟩, ⟨⟨[100, 117, 101]⟩⟩], [⟨⟨[97, 99, 116, 117, 97, 108]⟩⟩, ⟨⟨[100, 117, 101]⟩⟩], d11⟩
def q12 : DI := ⟨top 20, ⟨⟨[95, 108, 97, 119, 95, 115, 97, 109, 101]⟩⟩, [⟨⟨[97, 99, 116, 117, 97, 108]⟩⟩, ⟨⟨[100, 117, 101]⟩⟩], [⟨⟨[97, 99, 116, 117, 97, 108]⟩⟩, ⟨⟨[100, 117, 101]⟩⟩], d12⟩
def q13 : DI := ⟨top 21, ⟨⟨[95, 108, 97, 119, 95, 100, 105, 103, 105, 116, 115]⟩⟩, [⟨⟨[115, 99, 114, 105, 112, 116]⟩⟩, ⟨⟨[102, 105, 114, 115, 116]⟩⟩, ⟨⟨[108, 97, 115, 116]⟩⟩, ⟨⟨[100, 105, 103, 105, 116, 115]⟩⟩, ⟨⟨[107]⟩⟩, ⟨⟨[99, 101, 108, 108]⟩⟩, ⟨⟨[116, 117, 114, 110]⟩⟩, ⟨⟨[115, 101, 101, 100]⟩⟩], [⟨⟨[115, 99, 114, 105, 112, 116]⟩⟩, ⟨⟨[102, 105, 114, 115, 116]⟩⟩, ⟨⟨[108, 97, 115, 116]⟩⟩], d13⟩
def q14 : DI := ⟨top 22, ⟨⟨[95, 108, 97, 119, 95, 100, 114, 97, 119]⟩⟩, [⟨⟨[98, 111, 120]⟩⟩, ⟨⟨[109, 97, 110, 121]⟩⟩, ⟨⟨[97, 116]⟩⟩], [⟨⟨[98, 111, 120]⟩⟩, ⟨⟨[109, 97, 110, 121]⟩⟩], d14⟩
def q15 : DI := ⟨top 23, ⟨⟨[95, 108, 97, 119, 95, 118, 97, 108, 117, 101]⟩⟩, [⟨⟨[98, 111, 120]⟩⟩, ⟨⟨[107, 105, 110, 100]⟩⟩], [⟨⟨[98, 111, 120]⟩⟩], d15⟩
def q16 : DI := ⟨top 24, ⟨⟨[95, 108, 97, 119, 95, 99, 111, 100, 101]⟩⟩, [⟨⟨[118, 97, 108, 117, 101]⟩⟩], [⟨⟨[118, 97, 108, 117, 101]⟩⟩], d16⟩
def q17 : DI := ⟨top 25, ⟨⟨[108, 97, 119]⟩⟩, [⟨⟨[115, 99, 114, 105, 112, 116]⟩⟩, ⟨⟨[98, 111, 120]⟩⟩, ⟨⟨[118, 97, 108, 117, 101, 115]⟩⟩, ⟨⟨[107]⟩⟩, ⟨⟨[118, 97, 108, 117, 101]⟩⟩, ⟨⟨[99, 111, 100, 101]⟩⟩, ⟨⟨[115, 109, 97, 108, 108]⟩⟩, ⟨⟨[111, 116, 104, 101, 114]⟩⟩, ⟨⟨[119, 114, 111, 110, 103]⟩⟩, ⟨⟨[116, 101, 120, 116]⟩⟩, ⟨⟨[116, 104, 105, 110, 103, 115]⟩⟩, ⟨⟨[114, 111, 119, 115]⟩⟩, ⟨⟨[116, 111, 108, 100]⟩⟩], [⟨⟨[115, 99, 114, 105, 112, 116]⟩⟩], d17⟩
def qs : List DI := [q0, q1, q2, q3, q4, q5, q6, q7, q8, q9, q10, q11, q12, q13, q14, q15, q16, q17]
def cn : List Str := [⟨⟨[76, 69, 84, 84, 69, 82, 83]⟩⟩, ⟨⟨[68, 73, 71, 73, 84, 83]⟩⟩, ⟨⟨[82, 69, 83, 69, 82, 86, 69, 68]⟩⟩, ⟨⟨[76, 79, 78, 71, 69, 83, 84, 95, 78, 65, 77, 69]⟩⟩, ⟨⟨[77, 79, 83, 84, 95, 68, 73, 71, 73, 84, 83]⟩⟩, ⟨⟨[71, 82, 69, 65, 84, 69, 83, 84, 95, 69, 78, 84, 82, 89]⟩⟩]
end K00
namespace K00
open PySem PySem.Spec PyProof.Rows L2 Ip
theorem good0 : (qs.all fun q => q.good (qs.map (·.x)) cn) = true := by decide +kernel
theorem scs0 : (qs.all scB) = true := by decide +kernel
theorem b_q0 : BindsAs q0 := fun _ _ _ _ _ _ us hl => match us, hl with | [_], _ => rfl
theorem b_q1 : BindsAs q1 := fun _ _ _ _ _ _ us hl => match us, hl with | [_], _ => rfl
theorem b_q2 : BindsAs q2 := fun _ _ _ _ _ _ us hl => match us, hl with | [_], _ => rfl
theorem b_q3 : BindsAs q3 := fun _ _ _ _ _ _ us hl => match us, hl with | [_], _ => rfl
theorem b_q4 : BindsAs q4 := fun _ _ _ _ _ _ us hl => match us, hl with | [_], _ => rfl
theorem b_q5 : BindsAs q5 := fun _ _ _ _ _ _ us hl => match us, hl with | [_], _ => rfl
theorem b_q6 : BindsAs q6 := fun _ _ _ _ _ _ us hl => match us, hl with | [_], _ => rfl
theorem b_q7 : BindsAs q7 := fun _ _ _ _ _ _ us hl => match us, hl with | [_], _ => rfl
theorem b_q8 : BindsAs q8 := fun _ _ _ _ _ _ us hl => match us, hl with | [_], _ => rfl
theorem b_q9 : BindsAs q9 := fun _ _ _ _ _ _ us hl => match us, hl with | [_], _ => rfl
theorem b_q10 : BindsAs q10 := fun _ _ _ _ _ _ us hl => match us, hl with | [_, _], _ => rfl
theorem b_q11 : BindsAs q11 := fun _ _ _ _ _ _ us hl => match us, hl with | [_, _], _ => rfl
theorem b_q12 : BindsAs q12 := fun _ _ _ _ _ _ us hl => match us, hl with | [_, _], _ => rfl
theorem b_q13 : BindsAs q13 := fun _ _ _ _ _ _ us hl => match us, hl with | [_, _, _], _ => rfl
theorem b_q14 : BindsAs q14 := fun _ _ _ _ _ _ us hl => match us, hl with | [_, _], _ => rfl
theorem b_q15 : BindsAs q15 := fun _ _ _ _ _ _ us hl => match us, hl with | [_], _ => rfl
theorem b_q16 : BindsAs q16 := fun _ _ _ _ _ _ us hl => match us, hl with | [_], _ => rfl
theorem b_q17 : BindsAs q17 := fun _ _ _ _ _ _ us hl => match us, hl with | [_], _ => rfl
theorem bnds : ∀ q ∈ qs, BindsAs q := by
  intro q hq
  simp only [qs, List.mem_cons, List.not_mem_nil, or_false] at hq
  rcases hq with rfl | rfl | rfl | rfl | rfl | rfl | rfl | rfl | rfl | rfl | rfl | rfl | rfl | rfl | rfl | rfl | rfl | rfl
  · exact b_q0
  · exact b_q1
  · exact b_q2
  · exact b_q3
  · exact b_q4
  · exact b_q5
  · exact b_q6
  · exact b_q7
  · exact b_q8
  · exact b_q9
  · exact b_q10
  · exact b_q11
  · exact b_q12
  · exact b_q13
  · exact b_q14
  · exact b_q15
  · exact b_q16
  · exact b_q17
theorem goods : ∀ q ∈ qs, q.good (qs.map (·.x)) cn = true ∧ FnScope q.N q.ps (defScope q.st) ∧ BindsAs q := fun q hq =>
  ⟨List.all_eq_true.mp good0 q hq, scB_ok (List.all_eq_true.mp scs0 q hq), bnds q hq⟩
abbrev R : PySem.W.OpenRow := PySem.W.OpenLaw.row PySem.Challenge.rw_formflow_k00_values_coded
abbrev hk : PySem.W.Hook := He.hookX 4 (hFa qs) (qs.map DI.dd) [] (qs.map fun q => (q.x, none)) (fun K => conOk K cn cons)
def ob (s : PySem.W.SharedT) : He.AlX := He.obsX 4 (hFa qs) (qs.map DI.dd) [] (qs.map fun q => (q.x, none)) (fun K => conOk K cn cons) (HandSHeadRun.getT s)
theorem ob_eq (s : PySem.W.SharedT) : ob s = hk.obs s.abs := He.obsX_eq (HandSHeadRun.getT_eq s)
def names : List Str := [⟨⟨[76, 69, 84, 84, 69, 82, 83]⟩⟩, ⟨⟨[68, 73, 71, 73, 84, 83]⟩⟩, ⟨⟨[82, 69, 83, 69, 82, 86, 69, 68]⟩⟩, ⟨⟨[76, 79, 78, 71, 69, 83, 84, 95, 78, 65, 77, 69]⟩⟩, ⟨⟨[77, 79, 83, 84, 95, 68, 73, 71, 73, 84, 83]⟩⟩, ⟨⟨[71, 82, 69, 65, 84, 69, 83, 84, 95, 69, 78, 84, 82, 89]⟩⟩, ⟨⟨[105, 115, 95, 110, 97, 109, 101]⟩⟩, ⟨⟨[105, 115, 95, 110, 117, 109, 101, 114, 97, 108]⟩⟩, ⟨⟨[105, 115, 95, 118, 97, 108, 117, 101]⟩⟩, ⟨⟨[99, 111, 100, 101, 95, 111, 102]⟩⟩, ⟨⟨[118, 97, 108, 117, 101, 95, 111, 102]⟩⟩, ⟨⟨[95, 105, 115, 95, 101, 110, 116, 114, 121, 95, 110, 117, 109, 98, 101, 114]⟩⟩, ⟨⟨[95, 97, 114, 101, 95, 111, 112, 116, 105, 111, 110, 115]⟩⟩, ⟨⟨[95, 111, 112, 116, 105, 111, 110, 115, 95, 105, 110]⟩⟩, ⟨⟨[95, 110, 117, 109, 98, 101, 114, 95, 105, 110]⟩⟩, ⟨⟨[95, 108, 97, 119, 95, 105, 115, 95, 105, 110, 116, 101, 103, 101, 114]⟩⟩, ⟨⟨[95, 108, 97, 119, 95, 99, 101, 108, 108]⟩⟩, ⟨⟨[95, 108, 97, 119, 95, 108, 105, 115, 116, 95, 105, 115]⟩⟩, ⟨⟨[95, 108, 97, 119, 95, 115, 97, 109, 101]⟩⟩, ⟨⟨[95, 108, 97, 119, 95, 100, 105, 103, 105, 116, 115]⟩⟩, ⟨⟨[95, 108, 97, 119, 95, 100, 114, 97, 119]⟩⟩, ⟨⟨[95, 108, 97, 119, 95, 118, 97, 108, 117, 101]⟩⟩, ⟨⟨[95, 108, 97, 119, 95, 99, 111, 100, 101]⟩⟩]
theorem run (w : World) : HandSHeadRun.RunEq R (PySem.W.view R.prog [25]) hk ob 1200 names w := by
  intro os
  kernel_rfl
end K00
open PySem PySem.W PySem.Calls PyProof.Rows
set_option Elab.async false
theorem PySem.Challenge.cw_formflow_k00_values_coded_holds : PySem.Challenge.rw_formflow_k00_values_coded.Holds := by
  w_on; o_law
  refine HandSHeadRun.head_any (r := OpenLaw.row PySem.Challenge.rw_formflow_k00_values_coded) (q := view (OpenLaw.row PySem.Challenge.rw_formflow_k00_values_coded).prog [25]) (H := K00.hk) (ob := K00.ob) (M := 1200) (loose := K00.names)
    (d := HandSHeadRun.topDef (OpenLaw.row PySem.Challenge.rw_formflow_k00_values_coded).prog 25) (kwd := []) K00.ob_eq (by kernel_rfl) (fun s => by kernel_rfl) K00.run (by kernel_rfl) (by kernel_rfl) (by kernel_rfl) (by rfl) (by first | assumption | decide +kernel) (by decide +kernel) ⟨rfl, rfl, rfl, rfl, rfl, by decide +kernel⟩ ?hw ?hc
  case hw => w_witness2
  case hc =>
    exact Ip.law_walk (l := PySem.Challenge.rw_formflow_k00_values_coded) (n := 63) (k := 40) (li := 17) (qs := K00.qs) (ql := K00.q17) (cn := K00.cn) (C := K00.cons) (x := "script") rfl (by decide) (by kernel_rfl) ⟨rfl, rfl, by decide, by decide, by decide⟩ (fun w h Y => Y) rfl (by kernel_rfl) (by kernel_rfl) K00.goods
      (fun N k n => Ip.ss_ok) (fun ns _ _ => K00.math ns)

