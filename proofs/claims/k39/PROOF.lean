import PyProof.Rows.All
import Wide.All
import OpenK.AllK
import Wide.FinOn
import HandS.ForMost
import HandS.Wide
import HandS.TupAny
import HandS.Exc
import HandS.ExcOwn
import HandS.WordsExc
import HandS.TryOnly
import HandS.CallSlots
import HandS.RaiseMore
import HandS.ExcIs
import HandS.IsInst
import HandS.Style
import HandS.DictComp
import HandS.Deep
import HandS.Text
import HandS.Rev
import HandS.More
import HandS.Codes
import HandS.Flow
import HandS.FStr
import HandS.Zip
import HandS.SetBool
import HandS.TupSets
import HandS.Defaults
import HandS.Property
import HandS.MakeKwOnly
import HandS.Dict
import HandS.Iter
import KE.KDictList
import HandS.TryMany
import HandS.Strs
import PySem.Challenge.RW_turnpike_k39_new_ledgers_are_refused
set_option Elab.async false
set_option linter.all false
set_option maxRecDepth 100000
set_option maxHeartbeats 4000000
/-! Turnpike: a small language for the defs, and its evaluator over values. -/
namespace Tv
open PySem L2
/-- flat values: what never changes, and ids of instances and containers -/
inductive D where
  | non | bl (b : Bool) | int (i : Int) | str (x : Str) | tup (xs : List D) | ref (i : Nat) | fn (f : Nat)
instance : Inhabited D := ⟨.non⟩
mutual
def D.dec : (a b : D) → Decidable (a = b)
  | .non, .non => .isTrue rfl
  | .bl a, .bl b => if h : a = b then .isTrue (by rw [h]) else .isFalse (by intro z; cases z; exact h rfl)
  | .int a, .int b => if h : a = b then .isTrue (by rw [h]) else .isFalse (by intro z; cases z; exact h rfl)
  | .str a, .str b => if h : a = b then .isTrue (by rw [h]) else .isFalse (by intro z; cases z; exact h rfl)
  | .ref a, .ref b => if h : a = b then .isTrue (by rw [h]) else .isFalse (by intro z; cases z; exact h rfl)
  | .fn a, .fn b => if h : a = b then .isTrue (by rw [h]) else .isFalse (by intro z; cases z; exact h rfl)
  | .tup a, .tup b => match D.decs a b with
    | .isTrue h => .isTrue (by rw [h])
    | .isFalse h => .isFalse (by intro z; cases z; exact h rfl)
  | .non, .bl _ | .non, .int _ | .non, .str _ | .non, .tup _ | .non, .ref _ | .non, .fn _ => .isFalse (by intro z; cases z)
  | .bl _, .non | .bl _, .int _ | .bl _, .str _ | .bl _, .tup _ | .bl _, .ref _ | .bl _, .fn _ => .isFalse (by intro z; cases z)
  | .int _, .non | .int _, .bl _ | .int _, .str _ | .int _, .tup _ | .int _, .ref _ | .int _, .fn _ => .isFalse (by intro z; cases z)
  | .str _, .non | .str _, .bl _ | .str _, .int _ | .str _, .tup _ | .str _, .ref _ | .str _, .fn _ => .isFalse (by intro z; cases z)
  | .tup _, .non | .tup _, .bl _ | .tup _, .int _ | .tup _, .str _ | .tup _, .ref _ | .tup _, .fn _ => .isFalse (by intro z; cases z)
  | .ref _, .non | .ref _, .bl _ | .ref _, .int _ | .ref _, .str _ | .ref _, .tup _ | .ref _, .fn _ => .isFalse (by intro z; cases z)
  | .fn _, .non | .fn _, .bl _ | .fn _, .int _ | .fn _, .str _ | .fn _, .tup _ | .fn _, .ref _ => .isFalse (by intro z; cases z)
def D.decs : (a b : List D) → Decidable (a = b)
  | [], [] => .isTrue rfl
  | x :: xs, y :: ys => match D.dec x y, D.decs xs ys with
    | .isTrue h, .isTrue k => .isTrue (by rw [h, k])
    | .isFalse h, _ => .isFalse (by intro z; cases z; exact h rfl)
    | _, .isFalse h => .isFalse (by intro z; cases z; exact h rfl)
  | [], _ :: _ => .isFalse (by intro z; cases z)
  | _ :: _, [] => .isFalse (by intro z; cases z)
end
instance : DecidableEq D := D.dec
/-- what a container holds: a list, a dict, a dict by tuples -/
inductive Cn where
  | l (xs : List D) | m (kvs : List (Key × D)) | t (kvs : List (List Key × D))
  deriving DecidableEq
/-- a field: a value, or a container of its own (z: it is seen from elsewhere, too, and stays as it is) -/
inductive FV where
  | d (x : D) | c (z : Bool) (x : Cn)
  deriving DecidableEq
inductive Cell where
  | ins (C : Nat) (fs : List (Str × FV)) | con (x : Cn)
  deriving DecidableEq
/-- who holds a container: a place of its own, a field, a name -/
inductive Ow where
  | c (k : Nat) | f (i : Nat) (n : Str) | s (j : Nat)
  deriving DecidableEq
/-- the store -/
abbrev Sto := List Cell
/-- how a container is had: it is new; it was handed in; the script; it is held elsewhere -/
inductive Kd where
  | own | par | scr | at (w : Ow)
  deriving DecidableEq
/-- an error: its class, what it bears -/
structure Xc where
  c : Nat
  x : Option D
inductive SV where
  | d (x : D) | c (k : Kd) (x : Cn) | x (e : Xc)
abbrev Env := List (Option SV)
inductive Out (α : Type) where
  | ok (a : α) (st : Sto) | ex (x : Xc) (st : Sto)
abbrev Res (α : Type) := Option (Out α)
def rb {α β : Type} (r : Res α) (k : α → Sto → Res β) : Res β := match r with
  | none => none
  | some (.ok a st) => k a st
  | some (.ex x st) => some (.ex x st)
@[reducible] def ok {α : Type} (a : α) (st : Sto) : Res α := some (.ok a st)

/-! ### the language -/
inductive Bo where
  | add | sub | mul | div | mod | pow
  deriving DecidableEq
inductive Co where
  | eq | ne | lt | le | gt | ge | is | isnt | «in» | notin
  deriving DecidableEq
inductive Ty where
  | int | bool | str | tuple | list | dict | cls (C : Nat)
  deriving DecidableEq
/-- functions of Python's own -/
inductive Bi where
  | len | int | list | tuple | dict | max | min | sum | all | any | sorted | str | isi (t : Ty)
  deriving DecidableEq
/-- methods of Python's own that change nothing -/
inductive Bm where
  | get | items | values | keys | join | removeprefix | startswith | split | find | count | replace | upper
  deriving DecidableEq
inductive Tg where
  | nm (i : Nat) | tp (ts : List Tg)
mutual
inductive Ex where
  | var (i : Nat) | cst (x : D) | glob (x : Str) (v : D)
  | bin (o : Bo) (a b : Ex) | neg (a : Ex)
  | cmp (o : Co) (a b : Ex) | chain (o p : Co) (a b c : Ex)
  | and (a b : Ex) | or (a b : Ex) | not (a : Ex) | ite (c : Tx) (a b : Ex)
  | attr (a : Ex) (f : Str)
  | idx (a i : Ex) | slice (a lo hi : Ex) | rev (a : Ex)
  | gidx (x : Str) (i : Ex) | gin (x : Str) (n : Bool) (i : Ex)
  | tup (es : Exs) | lst (es : Exs) | dct (es : Exs) | dct0 (t : Bool)
  | call (f : Nat) (es : Exs) | callv (i : Nat) (fs : List Nat) (es : Exs)
  | meth (a : Ex) (cs : List (Nat × Nat)) (es : Exs) | make (C f : Nat) (es : Exs) | prop (a : Ex) (cs : List (Nat × Nat))
  | eqm (n : Bool) (C f : Nat) (a b : Ex)
  | bi (b : Bi) (es : Exs) | bm (m : Bm) (a : Ex) (es : Exs)
  | xfld (i : Nat) (f : Str) | xis (i : Nat) (C : Nat)
  | fmt (a : Ex) | joined (es : Exs)
  | lc (t : Tg) (it : It) (c : Tx) (e : Ex) | dc (t : Tg) (it : It) (c : Tx) (k v : Ex) | lenset (t : Tg) (it : It) (c : Tx) (e : Ex) | lensetI (t : Tg) (it : It) (c : Tx) (e : Ex) | popc (a k : Ex)
/-- a test -/
inductive Tx where
  | yes | val (e : Ex) | and (a b : Tx) | or (a b : Tx) | not (a : Tx)
inductive Exs where
  | nil | cons (e : Ex) (es : Exs)
inductive It where
  | seq (e : Ex) | range (e : Ex) | range2 (a b : Ex) | enum (e : Ex) (s : Int) | zip (a b : Ex) | rev (e : Ex) | items (e : Ex) | values (e : Ex) | keys (e : Ex) | chars (e : Ex)
end
/-- what is changed in place -/
inductive Pl where
  | nm (i : Nat) | fld (e : Ex) (f : Str) | ex (e : Ex)
mutual
inductive Stt where
  | asg (t : Tg) (e : Ex) | mv (i j : Nat) | par (i j : Nat) (a b : Ex)
  | fld (e : Ex) (f : Str) (v : Ex) | fldMv (e : Ex) (f : Str) (j : Nat) | fldFz (e : Ex) (f : Str) (e' : Ex) (f' : Str) | fld2 (e : Ex) (f g : Str) (v w : Ex)
  | prom (j : Nat)
  | aug (i : Nat) (o : Bo) (e : Ex) | augFld (e : Ex) (f : Str) (o : Bo) (v : Ex) | augSub (p : Pl) (k : Ex) (o : Bo) (v : Ex)
  | put (p : Pl) (k v : Ex) | putL (p : Pl) (k v : Ex) | app (p : Pl) (v : Ex) | ext (p : Pl) (v : Ex) | del (p : Pl) (k : Ex) | pop (p : Pl) (k : Ex) | popTo (t : Tg) (p : Pl) (k : Ex) | setdef (p : Pl) (k v : Ex)
  | drop (e : Ex)
  | ifs (c : Tx) (a b : Stts) | for_ (t : Tg) (it : It) (b : Stts) | while_ (c : Tx) (b : Stts)
  | ret (e : Ex) | retN | brk | cnt | pass
  | raise (C : Nat) (e : Ex) (own : Bool) | try_ (b : Stts) (hs : Hds) | tryN (i : Nat) (b : Stts) (hs : Hds)
inductive Stts where
  | nil | cons (s : Stt) (ss : Stts)
inductive Hds where
  | nil | cons (C : Nat) (b : Stts) (hs : Hds)
end
/-- tr: what it leaves behind in the store and nobody sees is forgotten -/
structure Fn where
  np : Nat
  ns : Nat
  body : Stts
  tr : Bool
end Tv

namespace Tv
open PySem L2
/-! ### values -/
mutual
def D.pure : D → Bool
  | .ref _ => false
  | .fn _ => false
  | .tup xs => D.pures xs
  | .non => true | .bl _ => true | .int _ => true | .str _ => true
def D.pures : List D → Bool
  | [] => true
  | x :: xs => D.pure x && D.pures xs
end
mutual
def D.py : D → PyData
  | .non => .none | .bl b => .bool b | .int i => .int i | .str x => .str x
  | .tup xs => .tuple (D.pys xs)
  | .ref _ => .none | .fn _ => .none
def D.pys : List D → List PyData
  | [] => []
  | x :: xs => D.py x :: D.pys xs
end
mutual
/-- the data that a value is; g: what stands at an id -/
def D.lookW (g : Nat → Option PyData) : D → Option PyData
  | .non => some .none
  | .bl b => some (.bool b)
  | .int i => some (.int i)
  | .str x => some (.str x)
  | .tup xs => (D.looksW g xs).map .tuple
  | .ref k => g k
  | .fn _ => none
def D.looksW (g : Nat → Option PyData) : List D → Option (List PyData)
  | [] => some []
  | x :: xs => match D.lookW g x, D.looksW g xs with
    | some d, some ds => some (d :: ds)
    | _, _ => none
end
def refAt (cells : List Cell) : Nat → Nat → Option PyData
  | 0, _ => none
  | n + 1, k => match cells[k]? with
    | some (.con (.l xs)) => (D.looksW (refAt cells n) xs).map .list
    | _ => none
/-- the data that a value is, lists in it looked up -/
def D.look (cells : List Cell) (n : Nat) (x : D) : Option PyData := D.lookW (refAt cells n) x
def D.looks (cells : List Cell) (n : Nat) (xs : List D) : Option (List PyData) := D.looksW (refAt cells n) xs
def depthL : Nat := 8
def shp? (o : Option PyData) : Option PyData := match o with
  | some d => if SeqAt.shaped d then some d else none
  | none => none
/-- the data of a value that may be compared -/
def pyD (st : Sto) (a : D) : Option PyData := shp? (D.look st depthL a)
def pyL (st : Sto) (xs : List D) : Option PyData := shp? ((D.looks st depthL xs).map .list)
def eqP (a b : Option PyData) : Option Bool := match a, b with
  | some x, some y => some (PyData.eqv x y)
  | _, _ => none
/-- what a value holds, if it is a container -/
def cnOf (v : SV) (st : Sto) : Option Cn := match v with
  | .c _ x => some x
  | .d (.ref k) => match st[k]? with
    | some (.con x) => some x
    | _ => none
  | _ => none
def pyS (st : Sto) (a : SV) : Option PyData := match a with
  | .d x => pyD st x
  | .c _ (.l xs) => pyL st xs
  | _ => none
/-- dicts of flat values that are equal -/
def D.flat : D → Bool
  | .non => true | .bl _ => true | .int _ => true | .str _ => true
  | _ => false
def lookK (kvs : List (Key × D)) (k : Key) : Option D := (kvs.find? fun p => decide (p.1 = k)).map (·.2)
def eqM (a b : Option Cn) : Option Bool := match a, b with
  | some (.m ks), some (.m ls) => if decide (ks.length = ls.length) && ks.all fun p => decide (lookK ls p.1 = some p.2) && p.2.flat then some true else none
  | _, _ => none
def eqS (a b : SV) (st : Sto) : Option Bool := match a, b with
  | .d (.int i), .d (.int j) => some (decide (i = j))
  | .d (.str x), .d (.str y) => some (decide (x = y))
  | .d (.bl x), .d (.bl y) => some (decide (x = y))
  | a, b => (eqP (pyS st a) (pyS st b)).or (eqM (cnOf a st) (cnOf b st))
def opt {α : Type} (o : Option α) (st : Sto) : Res α := match o with
  | some a => ok a st
  | none => none
def D.isInt : D → Bool
  | .int _ => true
  | _ => false
def D.int' : D → Int
  | .int i => i
  | _ => 0
def allInt (xs : List D) : Option (List Int) := if xs.all D.isInt then some (xs.map D.int') else none
def D.isBl : D → Bool
  | .bl _ => true
  | _ => false
def D.bl' : D → Bool
  | .bl b => b
  | _ => false
def allBl (xs : List D) : Option (List Bool) := if xs.all D.isBl then some (xs.map D.bl') else none
def keyOf : D → Option Key
  | .int i => some (.inl i)
  | .str x => some (.inr x)
  | _ => none
def keysOf : List D → Option (List Key)
  | [] => some []
  | d :: ds => match keyOf d, keysOf ds with
    | some k, some ks => some (k :: ks)
    | _, _ => none
def keyD : Key → D
  | .inl i => .int i
  | .inr x => .str x
def look {κ : Type} [DecidableEq κ] (kvs : List (κ × D)) (k : κ) : Option D := (kvs.find? fun p => decide (p.1 = k)).map (·.2)
def put {κ : Type} [DecidableEq κ] (kvs : List (κ × D)) (k : κ) (v : D) : List (κ × D) :=
  if kvs.any (fun p => decide (p.1 = k)) then kvs.map fun p => if p.1 = k then (p.1, v) else p else kvs ++ [(k, v)]
def rem {κ : Type} [DecidableEq κ] (kvs : List (κ × D)) (k : κ) : List (κ × D) := kvs.filter fun p => !decide (p.1 = k)
def mulOk (i j : Int) : Bool := (decide (-(2 ^ 64) < i) && decide (i < 2 ^ 64)) || ((decide (-(2 ^ 64) < j) && decide (j < 2 ^ 64)) || decide (i.natAbs.log2 + j.natAbs.log2 < 1000000))
def divOk (j : Int) : Bool := decide (0 < j) && decide (j.natAbs.log2 < 9000)
def powOk (i j : Int) : Bool := decide (0 ≤ j) && (decide (j ≤ 1000000) && decide (i.natAbs < 2 ^ 64))
/-- the script is only read -/
def trk : SV → Bool
  | .c .scr _ => false
  | _ => true
def bin (o : Bo) (a b : SV) (st : Sto) : Res SV := match o, a, b with
  | .add, .d (.int i), .d (.int j) => ok (.d (.int (i + j))) st
  | .sub, .d (.int i), .d (.int j) => ok (.d (.int (i - j))) st
  | .mul, .d (.int i), .d (.int j) => if mulOk i j then ok (.d (.int (i * j))) st else none
  | .div, .d (.int i), .d (.int j) => if divOk j then ok (.d (.int (i / j))) st else none
  | .mod, .d (.int i), .d (.int j) => if 0 < j then ok (.d (.int (i % j))) st else none
  | .pow, .d (.int i), .d (.int j) => if powOk i j then ok (.d (.int (i ^ j.toNat))) st else none
  | .add, .d (.str x), .d (.str y) => if x.length + y.length ≤ sizeLine then ok (.d (.str (x ++ y))) st else none
  | .add, .d (.tup xs), .d (.tup ys) => if xs.length + ys.length ≤ sizeLine then ok (.d (.tup (xs ++ ys))) st else none
  | .add, a, b => match cnOf a st, cnOf b st with
    | some (.l xs), some (.l ys) => if trk a && trk b && decide (xs.length + ys.length ≤ sizeLine) then ok (.c .own (.l (xs ++ ys))) st else none
    | _, _ => none
  | _, _, _ => none
def inP (x c : Option PyData) : Option Bool := match x, c with
  | some d, some (.list ds) => some (ds.any fun z => PyData.eqv z d)
  | some d, some (.tuple ds) => some (ds.any fun z => PyData.eqv z d)
  | _, _ => none
/-- a tuple as a key (the constants kt are none) -/
def keysT (kt : List (List D)) (ds : List D) : Option (List Key) := if kt.contains ds then none else keysOf ds
/-- x in b -/
def inS (kt : List (List D)) (a b : SV) (st : Sto) : Option Bool := match b with
  | .d (.str z) => match a with
    | .d (.str ⟨⟨[c]⟩⟩) => some (decide (c ∈ z.cps.toList))
    | _ => none
  | .d (.tup xs) => inP (pyS st a) (pyD st (.tup xs))
  | b => match cnOf b st with
    | some (.l xs) => inP (pyS st a) (pyL st xs)
    | some (.m kvs) => match a with
      | .d x => match keyOf x with
        | some k => some (look kvs k).isSome
        | none => none
      | _ => none
    | some (.t kvs) => match a with
      | .d (.tup ds) => match keysT kt ds with
        | some k => some (look kvs k).isSome
        | none => none
      | _ => none
    | none => none
def cmp (kt : List (List D)) (o : Co) (a b : SV) (st : Sto) : Option Bool := match o with
  | .eq => eqS a b st
  | .ne => (eqS a b st).map (!·)
  | .in => inS kt a b st
  | .notin => (inS kt a b st).map (!·)
  | .is => match b with
    | .d .non => match a with
      | .d x => some (decide (x = .non))
      | .c _ _ => some false
      | _ => none
    | .d (.bl y) => match a with
      | .d (.bl x) => some (decide (x = y))
      | .d _ => some false
      | _ => none
    | _ => none
  | .isnt => match b with
    | .d .non => match a with
      | .d x => some (!decide (x = .non))
      | .c _ _ => some true
      | _ => none
    | .d (.bl y) => match a with
      | .d (.bl x) => some (!decide (x = y))
      | _ => none
    | _ => none
  | .lt => match a, b with
    | .d (.int i), .d (.int j) => some (decide (i < j))
    | _, _ => none
  | .le => match a, b with
    | .d (.int i), .d (.int j) => some (decide (i ≤ j))
    | _, _ => none
  | .gt => match a, b with
    | .d (.int i), .d (.int j) => some (decide (j < i))
    | _, _ => none
  | .ge => match a, b with
    | .d (.int i), .d (.int j) => some (decide (j ≤ i))
    | _, _ => none
def truth (a : SV) (st : Sto) : Option Bool := match a with
  | .d (.bl b) => some b
  | .d .non => some false
  | .d (.int i) => some (decide (i ≠ 0))
  | .d (.str x) => if x.length ≤ sizeLine then some (decide (0 < x.length)) else none
  | .d (.tup xs) => some (!xs.isEmpty)
  | a => match cnOf a st with
    | some (.l xs) => some (!xs.isEmpty)
    | some (.m kvs) => some (!kvs.isEmpty)
    | some (.t _) => none
    | none => none
def attr (a : SV) (f : Str) (st : Sto) : Res SV := match a with
  | .d (.ref i) => match st[i]? with
    | some (.ins _ fs) => match fs.lookup f with
      | some (.d x) => ok (.d x) st
      | some (.c false x) => ok (.c (.at (.f i f)) x) st
      | some (.c true x) => ok (.c .par x) st
      | none => none
    | _ => none
  | _ => none
def strAt (x : Str) (i : Int) : Option D := if x.length ≤ sizeLine then (atI x.cps.toList i).map fun c => .str ⟨#[c]⟩ else none
def idx (kt : List (List D)) (a i : SV) (st : Sto) : Option D := match i with
  | .d i => match a with
    | .d (.tup xs) => match i with
      | .int i => atI xs i
      | _ => none
    | .d (.str x) => match i with
      | .int i => strAt x i
      | _ => none
    | a => match cnOf a st with
      | some (.l xs) => match i with
        | .int i => atI xs i
        | _ => none
      | some (.m kvs) => match keyOf i with
        | some k => look kvs k
        | none => none
      | some (.t kvs) => match i with
        | .tup ds => match keysT kt ds with
          | some k => look kvs k
          | none => none
        | _ => none
      | none => none
  | _ => none
/-- a bound of a slice; b: it is not written -/
def part (b : Bool) (u : SV) (st : Sto) : Res (Option Int) := match u with
  | .d (.int i) => ok (some i) st
  | .d .non => if b then ok none st else none
  | _ => none
def Ex.isNon : Ex → Bool
  | .cst .non => true
  | _ => false
def cut {α : Type} (xs : List α) (lo hi : Option Int) : List α := (xs.drop (HT.sIx xs.length 0 lo)).take (HT.sIx xs.length xs.length hi - HT.sIx xs.length 0 lo)
def slc (a : SV) (lo hi : Option Int) (st : Sto) : Res SV := match a with
  | .d (.tup xs) => ok (.d (.tup (cut xs lo hi))) st
  | .d (.str x) => if x.length ≤ sizeLine then ok (.d (.str ⟨(cut x.cps.toList lo hi).toArray⟩)) st else none
  | a => match cnOf a st with
    | some (.l xs) => ok (.c .own (.l (cut xs lo hi))) st
    | _ => none
def revS (a : SV) (st : Sto) : Res SV := match cnOf a st with
  | some (.l xs) => ok (.c .own (.l xs.reverse)) st
  | _ => none
/-- a value that is put into something: a new container gets a place of its own -/
def toD (a : SV) (st : Sto) : Res D := match a with
  | .d x => ok x st
  | .c .own x => ok (.ref st.length) (st ++ [.con x])
  | _ => none
def toDs : List SV → Sto → Res (List D)
  | [], st => ok [] st
  | a :: as, st => rb (toD a st) fun x st => rb (toDs as st) fun xs st => ok (x :: xs) st
def lockOf : SV → List Ow
  | .c (.at w) _ => [w]
  | _ => []
/-- a value as it is handed in -/
def argS : SV → SV
  | .c .scr x => .c .scr x
  | .c _ x => .c .par x
  | v => v
def isTy (t : Ty) (a : SV) (st : Sto) : Option Bool := match t, a with
  | .int, .d (.int _) => some true
  | .int, .d (.bl _) => some true
  | .bool, .d (.bl _) => some true
  | .str, .d (.str _) => some true
  | .tuple, .d (.tup _) => some true
  | .list, .c _ (.l _) => some true
  | .dict, .c _ (.m _) => some true
  | .cls C, .d (.ref i) => match st[i]? with
    | some (.ins C' _) => if C' = C then some true else none
    | _ => none
  | .cls _, _ => none
  | t, .d (.ref i) => match st[i]? with
    | some (.con (.l _)) => some (decide (t = .list))
    | some (.con (.m _)) => some (decide (t = .dict))
    | _ => none
  | _, .d (.fn _) => none
  | _, .d _ => some false
  | _, .c _ (.l _) => some false
  | _, .c _ (.m _) => some false
  | _, _ => none
def maxL : List Int → Option Int
  | [] => none
  | x :: xs => some (xs.foldl (fun a b => if b > a then b else a) x)
def minL : List Int → Option Int
  | [] => none
  | x :: xs => some (xs.foldl (fun a b => if b < a then b else a) x)
def pairOf : D → Option (Key × D)
  | .tup [k, v] => (keyOf k).map fun k => (k, v)
  | _ => none
def pairsOf : List D → Option (List (Key × D))
  | [] => some []
  | d :: ds => match pairOf d, pairsOf ds with
    | some p, some ps => some (p :: ps)
    | _, _ => none
def putAll (kvs : List (Key × D)) (ps : List (Key × D)) : List (Key × D) := ps.foldl (fun m p => put m p.1 p.2) kvs
def dedup : List D → List D
  | [] => []
  | x :: xs => x :: (dedup xs).filter fun y => !decide (y = x)
def lstT (a : SV) (st : Sto) : Option (List D) := match a with
  | .d (.tup xs) => some xs
  | a => match cnOf a st with
    | some (.l xs) => some xs
    | _ => none
def biF (b : Bi) (as : List SV) (st : Sto) : Res SV := match b, as with
  | .len, [a] => match a with
    | .d (.tup xs) => ok (.d (.int xs.length)) st
    | .d (.str x) => if x.length ≤ sizeLine then ok (.d (.int x.length)) st else none
    | a => match cnOf a st with
      | some (.l xs) => ok (.d (.int xs.length)) st
      | some (.m xs) => ok (.d (.int xs.length)) st
      | _ => none
  | .int, [.d (.int i)] => ok (.d (.int i)) st
  | .int, [.d (.bl b)] => ok (.d (.int (if b then 1 else 0))) st
  | .list, [a] => match a with
    | .d (.tup xs) => ok (.c .own (.l xs)) st
    | a => match cnOf a st with
      | some (.l xs) => ok (.c .own (.l xs)) st
      | some (.m kvs) => ok (.c .own (.l (kvs.map fun p => keyD p.1))) st
      | _ => none
  | .tuple, [a] => match a with
    | .d (.tup xs) => ok (.d (.tup xs)) st
    | a => match cnOf a st with
      | some (.l xs) => ok (.d (.tup xs)) st
      | _ => none
  | .dict, [a] => match cnOf a st with
    | some (.m kvs) => ok (.c .own (.m kvs)) st
    | some (.l xs) => match pairsOf xs with
      | some ps => ok (.c .own (.m (putAll [] ps))) st
      | none => none
    | _ => none
  | .max, [.d (.int i), .d (.int j)] => ok (.d (.int (if j > i then j else i))) st
  | .min, [.d (.int i), .d (.int j)] => ok (.d (.int (if j < i then j else i))) st
  | .max, [a] => match lstT a st with
    | some xs => match (allInt xs).bind maxL with
      | some i => ok (.d (.int i)) st
      | none => none
    | none => none
  | .min, [a] => match lstT a st with
    | some xs => match (allInt xs).bind minL with
      | some i => ok (.d (.int i)) st
      | none => none
    | none => none
  | .sum, [a] => match cnOf a st with
    | some (.l xs) => match allInt xs with
      | some ns => ok (.d (.int ns.sum)) st
      | none => none
    | _ => none
  | .all, [a] => match cnOf a st with
    | some (.l xs) => match allBl xs with
      | some bs => ok (.d (.bl (bs.all id))) st
      | none => none
    | _ => none
  | .any, [a] => match cnOf a st with
    | some (.l xs) => match allBl xs with
      | some bs => ok (.d (.bl (bs.any id))) st
      | none => none
    | _ => none
  | .str, [.d (.int i)] => if i.natAbs.log2 < 1920 then ok (.d (.str (toString i))) st else none
  | .isi t, [a] => match isTy t a st with
    | some b => ok (.d (.bl b)) st
    | none => none
  | _, _ => none
def itemD (p : Key × D) : D := .tup [keyD p.1, p.2]
def bmf (m : Bm) (a : SV) (as : List SV) (st : Sto) : Res SV := match m, as with
  | .get, [.d k, .d v] => match cnOf a st, keyOf k with
    | some (.m kvs), some k => ok (.d ((look kvs k).getD v)) st
    | _, _ => none
  | .items, [] => match cnOf a st with
    | some (.m kvs) => ok (.c .own (.l (kvs.map itemD))) st
    | _ => none
  | .values, [] => match cnOf a st with
    | some (.m kvs) => ok (.c .own (.l (kvs.map (·.2)))) st
    | _ => none
  | .keys, [] => match cnOf a st with
    | some (.m kvs) => ok (.c .own (.l (kvs.map fun p => keyD p.1))) st
    | _ => none
  | _, _ => none
/-! ### targets -/
mutual
def Tg.set (env : Env) : Tg → D → Option Env
  | .nm i, x => some (env.set i (some (.d x)))
  | .tp ts, x => match x with
    | .tup xs => Tg.sets env ts xs
    | _ => none
def Tg.sets (env : Env) : List Tg → List D → Option Env
  | [], [] => some env
  | t :: ts, x :: xs => match Tg.set env t x with
    | some env => Tg.sets env ts xs
    | none => none
  | _, _ => none
end
mutual
/-- the names of a target -/
def Tg.names : Tg → List Nat
  | .nm i => [i]
  | .tp ts => Tg.namess ts
def Tg.namess : List Tg → List Nat
  | [] => []
  | t :: ts => Tg.names t ++ Tg.namess ts
end
def dupN : List Nat → List Nat
  | [] => []
  | i :: is => i :: (dupN is).filter fun j => !decide (j = i)
/-- a comprehension's own names -/
def Tg.own (t : Tg) : List Nat := dupN t.names
/-- their slots forgotten -/
def wipeE (env : Env) : List Nat → Env
  | [] => env
  | v :: vs => (wipeE env vs).set v none
/-- what a loop walks: the items; what stays meanwhile -/
structure Ito where
  xs : List D
  locks : List Ow
/-- the rows that a value shows to a loop: a tuple, a list -/
def rowOf (s : SV) (st : Sto) : Option (Bool × List D) := match s with
  | .d (.tup xs) => some (true, xs)
  | s => match cnOf s st with
    | some (.l xs) => some (false, xs)
    | _ => none
/-- what must stay while a value is walked -/
def stayOf (a : SV) : List Ow := match a with
  | .d (.ref k) => [.c k]
  | .c (.at w) _ => [w]
  | _ => []
def itRow (a : SV) (st : Sto) : Res Ito := match rowOf a st with
  | some (_, xs) => ok ⟨xs, stayOf a⟩ st
  | none => none
/-- the rows of a value; the keys of a dict -/
def itSeq (a : SV) (st : Sto) : Res Ito := match rowOf a st with
  | some (_, xs) => ok ⟨xs, stayOf a⟩ st
  | none => match cnOf a st with
    | some (.m kvs) => ok ⟨kvs.map fun p => keyD p.1, stayOf a⟩ st
    | _ => none
def lstOf (a : SV) (st : Sto) : Option (List D) := match cnOf a st with
  | some (.l xs) => some xs
  | _ => none
def rangeD (lo : Int) (n : Nat) : List D := (List.range n).map fun (k : Nat) => .int (lo + k)
end Tv

namespace Tv
open PySem L2
/-- what a def may call; what must stay as it is at present -/
structure Cl where
  call : Nat → List SV → List Ow → Sto → Res SV
  locks : List Ow
  turns : Nat
  tabs : List (Str × List (Str × D))
  sub : Nat → Nat → Bool
  name : Nat → Str
  kts : List (List D)
  flds : List (Nat × Str)
  xs : List Nat
def Ow.inStore : Ow → Bool
  | .s _ => false
  | _ => true
def Cl.lk (c : Cl) (l : List Ow) : Cl := { c with locks := l ++ c.locks }
@[simp] theorem Cl.lk_nil (c : Cl) : c.lk [] = c := rfl
/-- a call -/
def Cl.go (c : Cl) (f : Nat) (as : List SV) (st : Sto) : Res SV :=
  c.call f (as.map argS) ((as.flatMap lockOf ++ c.locks).filter Ow.inStore) st
def tabOf (c : Cl) (x : Str) : Option (List (Str × D)) := c.tabs.lookup x
def gidx (c : Cl) (x : Str) (i : SV) : Option D := match i, tabOf c x with
  | .d (.str k), some t => t.lookup k
  | _, _ => none
def gin (c : Cl) (x : Str) (n : Bool) (i : SV) : Option Bool := match i, tabOf c x with
  | .d (.str k), some t => some (if n then !(t.lookup k).isSome else (t.lookup k).isSome)
  | _, _ => none
def insAt (st : Sto) (a : SV) : Option (Nat × Nat × List (Str × FV)) := match a with
  | .d (.ref i) => match st[i]? with
    | some (.ins C fs) => some (i, C, fs)
    | _ => none
  | _ => none
def delAt (x : Cn) (k : SV) : Option Cn := match x, k with
  | .l xs, .d (.int i) => if -(2 ^ 63) ≤ i ∧ i < 2 ^ 63 then (seqIndex? i xs.length).map fun n => .l (xs.eraseIdx n) else none
  | .m kvs, .d k => match keyOf k with
    | some k => if (look kvs k).isSome then some (.m (rem kvs k)) else none
    | none => none
  | _, _ => none
def popAt (x : Cn) (k : SV) : Option (D × Cn) := match x, k with
  | .l xs, .d (.int i) => if -(2 ^ 63) ≤ i ∧ i < 2 ^ 63 then (seqIndex? i xs.length).bind fun n => (xs[n]?).map fun d => (d, .l (xs.eraseIdx n)) else none
  | .m kvs, .d k => match keyOf k with
    | some k => (look kvs k).map fun d => (d, .m (rem kvs k))
    | none => none
  | _, _ => none
/-- ints alone -/
def cmpI (o : Co) (a b : SV) : Option Bool := match a, b with
  | .d (.int i), .d (.int j) => match o with
    | .lt => some (decide (i < j))
    | .le => some (decide (i ≤ j))
    | .gt => some (decide (j < i))
    | .ge => some (decide (j ≤ i))
    | .eq => some (decide (i = j))
    | .ne => some (!decide (i = j))
    | _ => none
  | _, _ => none
def smallI (i : Int) : Bool := decide (-(2 ^ 62) ≤ i) && decide (i < 2 ^ 62)
/-- keys and values by turns -/
def pairUp : List D → Option (List (Key × D))
  | [] => some []
  | [_] => none
  | k :: v :: r => match keyOf k, pairUp r with
    | some k, some ps => some ((k, v) :: ps)
    | _, _ => none
/-- the items of a comprehension: the turns in order -/
def compL (turn : D → Sto → Res (Option SV)) : List D → List D → Sto → Res (List D)
  | [], acc, st => ok acc st
  | x :: xs, acc, st => match turn x st with
      | some (.ok none st) => compL turn xs acc st
      | some (.ok (some v) st) => match toD v st with
        | some (.ok y st) => if acc.length < sizeLine then compL turn xs (acc ++ [y]) st else none
        | _ => none
      | _ => none
/-- a tuple of ints goes into a set of such -/
def putI (acc : List (List Int)) (k : List Int) : List (List Int) := if k ∈ acc then acc else acc ++ [k]
def compS (turn : D → Sto → Res (Option SV)) : List D → List (List Int) → Sto → Res (List (List Int))
  | [], acc, st => ok acc st
  | x :: xs, acc, st => match turn x st with
      | some (.ok none st) => compS turn xs acc st
      | some (.ok (some (.d (.tup ds))) st) => match allInt ds with
        | some k => if acc.length + 1 < 64 then compS turn xs (putI acc k) st else none
        | none => none
      | _ => none
/-- an int goes into a set of such -/
def putZ (acc : List Int) (k : Int) : List Int := if k ∈ acc then acc else acc ++ [k]
def compZ (turn : D → Sto → Res (Option SV)) : List D → List Int → Sto → Res (List Int)
  | [], acc, st => ok acc st
  | x :: xs, acc, st => match turn x st with
      | some (.ok none st) => compZ turn xs acc st
      | some (.ok (some (.d (.int k))) st) => if acc.length + 1 < 64 then compZ turn xs (putZ acc k) st else none
      | _ => none
def compD (turn : D → Sto → Res (Option (SV × SV))) : List D → List (Key × D) → Sto → Res (List (Key × D))
  | [], acc, st => ok acc st
  | x :: xs, acc, st => match turn x st with
      | some (.ok none st) => compD turn xs acc st
      | some (.ok (some (.d k, v)) st) => match keyOf k, toD v st with
        | some k, some (.ok y st) => if acc.length < sizeLine then compD turn xs (put acc k y) st else none
        | _, _ => none
      | _ => none
/-- get asks a dict -/
def bmPre (m : Bm) (u : SV) (st : Sto) : Bool := match m with
  | .get => match cnOf u st with
    | some (.m _) => true
    | _ => false
  | _ => true
/-- nothing is raised -/
def nox {α : Type} (r : Res α) : Res α := match r with
  | some (.ex _ _) => none
  | r => r
mutual
def ev (c : Cl) : Ex → Env → Sto → Res SV
  | .var i, env, st => match env[i]? with
    | some (some (.d x)) => ok (.d x) st
    | some (some (.c .own x)) => ok (.c (.at (.s i)) x) st
    | some (some (.c .par x)) => ok (.c .par x) st
    | some (some (.c .scr x)) => ok (.c .scr x) st
    | _ => none
  | .cst x, _, st => ok (.d x) st
  | .glob _ v, _, st => ok (.d v) st
  | .bin o a b, env, st => rb (ev c a env st) fun u st => rb (ev (c.lk (lockOf u)) b env st) fun w st => bin o u w st
  | .neg a, env, st => rb (ev c a env st) fun u st => match u with
    | .d (.int i) => ok (.d (.int (-i))) st
    | _ => none
  | .cmp o a b, env, st => rb (ev c a env st) fun u st => rb (ev (c.lk (lockOf u)) b env st) fun w st => match cmp c.kts o u w st with
    | some b => ok (.d (.bl b)) st
    | none => none
  | .chain o p a b d, env, st => rb (ev c a env st) fun u st => rb (ev (c.lk (lockOf u)) b env st) fun w st => match cmpI o u w with
    | some true => rb (ev (c.lk (lockOf u)) d env st) fun z st => match cmpI p w z with
      | some b => ok (.d (.bl b)) st
      | none => none
    | some false => ok (.d (.bl false)) st
    | none => none
  | .and a b, env, st => rb (ev c a env st) fun u st => match u with
    | .d (.bl true) => rb (ev c b env st) fun w st => match w with
      | .d (.bl b) => ok (.d (.bl b)) st
      | _ => none
    | .d (.bl false) => ok (.d (.bl false)) st
    | _ => none
  | .or a b, env, st => rb (ev c a env st) fun u st => match u with
    | .d (.bl false) => rb (ev c b env st) fun w st => match w with
      | .d (.bl b) => ok (.d (.bl b)) st
      | _ => none
    | .d (.bl true) => ok (.d (.bl true)) st
    | _ => none
  | .not a, env, st => rb (ev c a env st) fun u st => match u with
    | .d (.bl b) => ok (.d (.bl !b)) st
    | _ => none
  | .ite t a b, env, st => rb (evT c t env st) fun u st => if u then ev c a env st else ev c b env st
  | .attr a f, env, st => rb (ev c a env st) fun u st => attr u f st
  | .idx a i, env, st => rb (ev c a env st) fun u st => rb (ev (c.lk (lockOf u)) i env st) fun w st => match idx c.kts u w st with
    | some d => ok (.d d) st
    | none => none
  | .slice a lo hi, env, st => rb (ev c a env st) fun u st => rb (rb (ev (c.lk (lockOf u)) lo env st) (part lo.isNon)) fun l st => rb (rb (ev (c.lk (lockOf u)) hi env st) (part hi.isNon)) fun h st => slc u l h st
  | .rev a, env, st => rb (ev c a env st) fun u st => revS u st
  | .gidx x i, env, st => rb (ev c i env st) fun u st => match gidx c x u with
    | some d => ok (.d d) st
    | none => none
  | .gin x n i, env, st => rb (ev c i env st) fun u st => match gin c x n u with
    | some b => ok (.d (.bl b)) st
    | none => none
  | .tup es, env, st => rb (evs c es env st) fun as st => rb (toDs as st) fun xs st => if xs.length ≤ sizeLine then ok (.d (.tup xs)) st else none
  | .lst es, env, st => rb (evs c es env st) fun as st => rb (toDs as st) fun xs st => if xs.length ≤ sizeLine then ok (.c .own (.l xs)) st else none
  | .dct es, env, st => rb (evs c es env st) fun as st => rb (toDs as st) fun xs st => match pairUp xs with
    | some ps => if ps.length ≤ 15 then ok (.c .own (.m (putAll [] ps))) st else none
    | none => none
  | .dct0 t, _, st => ok (.c .own (if t then .t [] else .m [])) st
  | .call f es, env, st => rb (evs c es env st) fun as st => c.go f as st
  | .callv i fs es, env, st => match env[i]? with
    | some (some (.d (.fn f))) => if fs.contains f then rb (evs c es env st) fun as st => c.go f as st else none
    | _ => none
  | .meth a cs es, env, st => rb (ev c a env st) fun u st => match insAt st u with
    | some (i, C, fs) => match cs.lookup C with
      | some f => rb (evs c es env st) fun as st => c.go f (.d (.ref i) :: as) st
      | none => none
    | none => none
  | .make C f es, env, st => rb (evs c es env st) fun as st =>
      rb (c.go f (.d (.ref st.length) :: as) (st ++ [.ins C []])) fun u st' => match u with
        | .d .non => ok (.d (.ref st.length)) st'
        | _ => none
  | .prop a cs, env, st => rb (ev c a env st) fun u st => match insAt st u with
    | some (i, C, fs) => match cs.lookup C with
      | some f => nox (c.go f [.d (.ref i)] st)
      | none => none
    | none => none
  | .eqm n C f a b, env, st => rb (ev c a env st) fun u st => rb (ev (c.lk (lockOf u)) b env st) fun w st => match insAt st u with
    | some (_, C', _) => if C' = C then rb (c.go f [u, w] st) fun r st => match r with
        | .d (.bl b) => ok (.d (.bl (if n then !b else b))) st
        | _ => none
      else none
    | none => none
  | .bi b es, env, st => rb (evs c es env st) fun as st => biF b as st
  | .bm m a es, env, st => rb (ev c a env st) fun u st => if bmPre m u st then rb (evs (c.lk (lockOf u)) es env st) fun as st => bmf m u as st else none
  | .xfld i _, env, st => match env[i]? with
    | some (some (.x ⟨_, some d⟩)) => ok (.d d) st
    | _ => none
  | .xis i C, env, st => match env[i]? with
    | some (some (.x ⟨k, none⟩)) => if c.xs.contains k && c.xs.contains C then ok (.d (.bl (c.sub k C))) st else none
    | _ => none
  | .fmt a, env, st => rb (ev c a env st) fun u st => match u with
    | .d (.str y) => if y.length ≤ sizeLine then ok (.d (.str y)) st else none
    | .d (.int i) => if i.natAbs.log2 < 1920 then ok (.d (.str (toString i))) st else none
    | _ => none
  | .joined es, env, st => evJ c es Str.empty env st
  | .lc t it g e, env, st => rb (evI c it env st) fun j st =>
      rb (compL (fun x st => match t.set (wipeE env t.own) x with
        | some env => rb (evT (c.lk j.locks) g env st) fun b st => if b then rb (ev (c.lk j.locks) e env st) fun v st => ok (some v) st else ok none st
        | none => none) j.xs [] st) fun xs st => ok (.c .own (.l xs)) st
  | .dc t it g k v, env, st => rb (evI c it env st) fun j st =>
      rb (compD (fun x st => match t.set (wipeE env t.own) x with
        | some env => rb (evT (c.lk j.locks) g env st) fun b st => if b then rb (ev (c.lk j.locks) k env st) fun k st => rb (ev (c.lk j.locks) v env st) fun v st => ok (some (k, v)) st else ok none st
        | none => none) j.xs [] st) fun xs st => ok (.c .own (.m xs)) st
  | .lenset t it g e, env, st => rb (evI c it env st) fun j st =>
      rb (compS (fun x st => match t.set (wipeE env t.own) x with
        | some env => rb (evT (c.lk j.locks) g env st) fun b st => if b then rb (ev (c.lk j.locks) e env st) fun v st => ok (some v) st else ok none st
        | none => none) j.xs [] st) fun ks st => ok (.d (.int ks.length)) st
  | .lensetI t it g e, env, st => rb (evI c it env st) fun j st =>
      rb (compZ (fun x st => match t.set (wipeE env t.own) x with
        | some env => rb (evT (c.lk j.locks) g env st) fun b st => if b then rb (ev (c.lk j.locks) e env st) fun v st => ok (some v) st else ok none st
        | none => none) j.xs [] st) fun ks st => ok (.d (.int ks.length)) st
  | .popc a k, env, st => rb (ev c a env st) fun u st => match u with
    | .d (.ref i) => match st[i]? with
      | some (.con (.l _)) => rb (ev (c.lk [.c i]) k env st) fun w st => match st[i]? with
        | some (.con (.l xs)) => if c.locks.contains (.c i) then none else match popAt (.l xs) w with
          | some (d, x) => ok (.d d) (st.set i (.con x))
          | none => none
        | _ => none
      | _ => none
    | _ => none
/-- texts one behind the other -/
def evJ (c : Cl) : Exs → Str → Env → Sto → Res SV
  | .nil, acc, _, st => ok (.d (.str acc)) st
  | .cons e es, acc, env, st => rb (ev c e env st) fun u st => match u with
    | .d (.str y) => if (acc ++ y).length ≤ sizeLine then evJ c es (acc ++ y) env st else none
    | _ => none
def evT (c : Cl) : Tx → Env → Sto → Res Bool
  | .yes, _, st => ok true st
  | .val e, env, st => rb (ev c e env st) fun u st => match truth u st with
    | some b => ok b st
    | none => none
  | .and a b, env, st => rb (evT c a env st) fun u st => if u then evT c b env st else ok false st
  | .or a b, env, st => rb (evT c a env st) fun u st => if u then ok true st else evT c b env st
  | .not a, env, st => rb (evT c a env st) fun u st => ok (!u) st
def evs (c : Cl) : Exs → Env → Sto → Res (List SV)
  | .nil, _, st => ok [] st
  | .cons e es, env, st => rb (ev c e env st) fun u st => rb (evs (c.lk (lockOf u)) es env st) fun us st => ok (u :: us) st
def evI (c : Cl) : It → Env → Sto → Res Ito
  | .seq e, env, st => rb (ev c e env st) fun u st => itSeq u st
  | .range e, env, st => rb (ev c e env st) fun u st => match u with
    | .d (.int n) => if smallI n then ok ⟨rangeD 0 n.toNat, []⟩ st else none
    | _ => none
  | .range2 a b, env, st => rb (ev c a env st) fun u st => rb (ev (c.lk (lockOf u)) b env st) fun w st => match u, w with
    | .d (.int m), .d (.int n) => if smallI m && smallI n then ok ⟨rangeD m (n - m).toNat, []⟩ st else none
    | _, _ => none
  | .enum e s, env, st => rb (ev c e env st) fun u st => rb (itRow u st) fun j st => ok ⟨(j.xs.zipIdx).map fun p => .tup [.int (s + p.2), p.1], j.locks⟩ st
  | .zip a b, env, st => rb (ev c a env st) fun u st => rb (itRow u st) fun j st => rb (ev (c.lk j.locks) b env st) fun w st => rb (itRow w st) fun k st =>
      ok ⟨(j.xs.zip k.xs).map fun p => .tup [p.1, p.2], j.locks ++ k.locks⟩ st
  | .rev e, env, st => rb (ev c e env st) fun u st => rb (itRow u st) fun j st => ok ⟨j.xs.reverse, j.locks⟩ st
  | .items e, env, st => rb (ev c e env st) fun u st => match cnOf u st with
    | some (.m kvs) => ok ⟨kvs.map itemD, stayOf u⟩ st
    | _ => none
  | .values e, env, st => rb (ev c e env st) fun u st => match cnOf u st with
    | some (.m kvs) => ok ⟨kvs.map (·.2), stayOf u⟩ st
    | _ => none
  | .keys e, env, st => rb (ev c e env st) fun u st => match cnOf u st with
    | some (.m kvs) => ok ⟨kvs.map fun p => keyD p.1, stayOf u⟩ st
    | _ => none
  | .chars e, env, st => rb (ev c e env st) fun u st => match u with
    | .d (.str x) => if x.length ≤ sizeLine then ok ⟨x.cps.toList.map fun c => .str ⟨#[c]⟩, []⟩ st else none
    | _ => none
end
example : ev ⟨fun _ _ _ _ => none, [], 0, [], fun _ _ => false, fun _ => Str.empty, [], [], []⟩ (.bin .add (.cst (.int 1)) (.cst (.int 2))) [] [] = ok (.d (.int 3)) [] := rfl
end Tv

namespace Tv
open PySem L2
/-- where something stands that is changed -/
inductive Lc where
  | slot (i : Nat) | fld (i : Nat) (f : Str) | cell (k : Nat)
def Lc.ow : Lc → Ow
  | .slot i => .s i
  | .fld i f => .f i f
  | .cell k => .c k
/-- what stands at an owner -/
def Ow.cont (env : Env) (st : Sto) : Ow → Option Cn
  | .s i => match env[i]? with
    | some (some (.c .own x)) => some x
    | _ => none
  | .f i nm => match st[i]? with
    | some (.ins _ fs) => match fs.lookup nm with
      | some (.c false x) => some x
      | _ => none
    | _ => none
  | .c k => match st[k]? with
    | some (.con x) => some x
    | _ => none
def resolve (c : Cl) (p : Pl) (env : Env) (st : Sto) : Res Lc := match p with
  | .nm i => match env[i]? with
    | some (some (.c .own _)) => ok (.slot i) st
    | some (some (.d (.ref k))) => ok (.cell k) st
    | _ => none
  | .fld e f => rb (ev c e env st) fun u st => match insAt st u with
    | some (i, _, fs) => match fs.lookup f with
      | some (.c false _) => ok (.fld i f) st
      | some (.d (.ref k)) => ok (.cell k) st
      | _ => none
    | none => none
  | .ex e => rb (ev c e env st) fun u st => match u with
    | .d (.ref k) => ok (.cell k) st
    | _ => none
def Cn.isL : Cn → Bool
  | .l _ => true
  | _ => false
def Cn.isD : Cn → Bool
  | .m _ => true
  | _ => false
def Cn.isLD : Cn → Bool
  | .t _ => false
  | _ => true
/-- a place where a container of that kind stands -/
def resolveK (k : Cn → Bool) (c : Cl) (p : Pl) (env : Env) (st : Sto) : Res Lc := rb (resolve c p env st) fun l st => match l.ow.cont env st with
  | some x => if k x then ok l st else none
  | none => none
/-- what stands there and may be changed -/
def Lc.get (c : Cl) (l : Lc) (env : Env) (st : Sto) : Option Cn := if c.locks.contains l.ow then none else l.ow.cont env st
def putFs (f : Str) (v : FV) : List (Str × FV) → List (Str × FV)
  | [] => [(f, v)]
  | (g, w) :: r => if g = f then (g, v) :: r else (g, w) :: putFs f v r
def setFld (st : Sto) (i : Nat) (f : Str) (v : FV) : Sto := match st[i]? with
  | some (.ins C fs) => st.set i (.ins C (putFs f v fs))
  | _ => st
def Lc.set (l : Lc) (x : Cn) (env : Env) (st : Sto) : Env × Sto := match l with
  | .slot i => (env.set i (some (.c .own x)), st)
  | .fld i f => (env, setFld st i f (.c false x))
  | .cell k => (env, st.set k (.con x))
inductive SO where
  | nx (env : Env) (st : Sto) | rt (v : SV) (st : Sto) | bk (env : Env) (st : Sto) | ct (env : Env) (st : Sto) | ex (x : Xc) (env : Env) (st : Sto)
/-- an expression's answer, and what follows it -/
def sb {α : Type} (r : Res α) (env : Env) (k : α → Sto → Option SO) : Option SO := match r with
  | none => none
  | some (.ok a st) => k a st
  | some (.ex x st) => some (.ex x env st)
def sq (r : Option SO) (k : Env → Sto → Option SO) : Option SO := match r with
  | some (.nx env st) => k env st
  | r => r
def putAt (kt : List (List D)) (x : Cn) (k : SV) (v : D) : Option Cn := match x, k with
  | .l xs, .d (.int i) => (ixN xs.length i).map fun n => .l (xs.set n v)
  | .m kvs, .d k => match keyOf k with
      | some k => if kvs.length < sizeLine then some (.m (put kvs k v)) else none
      | none => none
  | .t kvs, .d (.tup ds) => match keysT kt ds with
    | some k => if kvs.length < sizeLine then some (.t (put kvs k v)) else none
    | none => none
  | _, _ => none
/-- into a dict -/
def putD (kt : List (List D)) (x : Cn) (k : SV) (v : D) : Option Cn := if x.isL then none else putAt kt x k v
def getAt (kt : List (List D)) (x : Cn) (k : SV) (st : Sto) : Option D := idx kt (.c .par x) k st
/-- a value stored as a field -/
def fvOf (v : SV) : Option FV := match v with
  | .d x => some (.d x)
  | .c .own x => some (.c false x)
  | _ => none
/-- may the field be stored anew? -/
def mayFld (c : Cl) (i : Nat) (f : Str) : Bool := !c.locks.contains (.f i f) && !c.locks.contains (.c i)
/-- may an instance of the class have the field? -/
def okFld (c : Cl) (C : Nat) (f : Str) (fs : List (Str × FV)) : Bool := (fs.lookup f).isSome || c.flds.contains (C, f)
def store (c : Cl) (env : Env) (e : Ex) (f : Str) (v : SV) (st : Sto) (k : Env → Sto → Option SO) : Option SO :=
  sb (ev c e env st) env fun u st => match insAt st u with
    | some (i, C, fs) => if mayFld c i f && (decide (fs.length < 1000) && okFld c C f fs) then match fvOf v with
        | some x => k env (setFld st i f x)
        | none => none
      else none
    | none => none
/-- += and -= of ints -/
def augI (o : Bo) (p q : Int) : Option Int := match o with
  | .add => some (p + q)
  | .sub => some (p - q)
  | _ => none
def forL (turn : D → Env → Sto → Option SO) : List D → Env → Sto → Option SO
  | [], env, st => some (.nx env st)
  | x :: xs, env, st => match turn x env st with
      | some (.nx env st) => forL turn xs env st
      | some (.ct env st) => forL turn xs env st
      | some (.bk env st) => some (.nx env st)
      | r => r
def whileL (test : Env → Sto → Res Bool) (body : Env → Sto → Option SO) : Nat → Env → Sto → Option SO
  | 0, _, _ => none
  | n + 1, env, st => sb (test env st) env fun b st => if b then
      match body env st with
      | some (.nx env st) => whileL test body n env st
      | some (.ct env st) => whileL test body n env st
      | some (.bk env st) => some (.nx env st)
      | r => r
    else some (.nx env st)
/-- may the name be stored anew? -/
def free (c : Cl) (i : Nat) : Bool := !c.locks.contains (.s i)
mutual
def Tg.free (c : Cl) : Tg → Bool
  | .nm i => Tv.free c i
  | .tp ts => Tg.frees c ts
def Tg.frees (c : Cl) : List Tg → Bool
  | [] => true
  | t :: ts => Tg.free c t && Tg.frees c ts
end
/-- an item comes to a target -/
def Tg.put (c : Cl) (t : Tg) (env : Env) (x : D) : Option Env := if t.free c then t.set env x else none
def setV (c : Cl) (i : Nat) (v : SV) (env : Env) (st : Sto) : Option SO := if free c i then some (.nx (env.set i (some v)) st) else none
mutual
def exec (c : Cl) : Stt → Env → Sto → Option SO
  | .asg t e, env, st => sb (ev c e env st) env fun v st => match v with
    | .d x => match t.put c env x with
      | some env => some (.nx env st)
      | none => none
    | .c .own x => match t with
      | .nm i => setV c i (.c .own x) env st
      | _ => none
    | .c .par x => match t with
      | .nm i => setV c i (.c .par x) env st
      | _ => none
    | _ => none
  | .mv i j, env, st => match env[j]? with
    | some (some (.d x)) => setV c i (.d x) env st
    | some (some (.c .par x)) => setV c i (.c .par x) env st
    | some (some (.c .own x)) => if free c j then setV c i (.c .own x) (env.set j none) st else none
    | _ => none
  | .par i j a b, env, st => sb (ev c a env st) env fun u st => sb (ev (c.lk (lockOf u)) b env st) env fun w st => match u, w with
    | .d x, .d y => if free c i && free c j then some (.nx ((env.set i (some (.d x))).set j (some (.d y))) st) else none
    | _, _ => none
  | .fld e f v, env, st => sb (ev c v env st) env fun v st => store c env e f v st fun env st => some (.nx env st)
  | .fldMv e f j, env, st => match env[j]? with
    | some (some (.c .own x)) => if free c j then store c env e f (.c .own x) st fun env st => some (.nx (env.set j none) st) else none
    | some (some (.d x)) => store c env e f (.d x) st fun env st => some (.nx env st)
    | _ => none
  | .fldFz e f e' g, env, st => sb (ev c e' env st) env fun w st => match insAt st w with
    | some (j, _, gs) => match gs.lookup g with
      | some (.c _ x) => if c.locks.contains (.f j g) then none else
          sb (ev c e env (setFld st j g (.c true x))) env fun u st => match insAt st u with
            | some (i, C, fs) => if mayFld c i f && (decide (fs.length < 1000) && okFld c C f fs) then some (.nx env (setFld st i f (.c true x))) else none
            | none => none
      | some (.d x) => store c env e f (.d x) st fun env st => some (.nx env st)
      | none => none
    | none => none
  | .fld2 e f g v w, env, st => sb (ev c v env st) env fun v st => sb (ev (c.lk (lockOf v)) w env st) env fun w st => match v, w with
    | .d x, .d y => store c env e f (.d x) st fun env st => store c env e g (.d y) st fun env st => some (.nx env st)
    | _, _ => none
  | .prom j, env, st => match env[j]? with
    | some (some (.c .own x)) => if free c j then some (.nx (env.set j (some (.d (.ref st.length)))) (st ++ [.con x])) else none
    | _ => some (.nx env st)
  | .aug i o e, env, st => match env[i]? with
    | some (some (.d (.int p))) => sb (ev c e env st) env fun w st => match w with
      | .d (.int q) => match o with
        | .add => setV c i (.d (.int (p + q))) env st
        | .sub => setV c i (.d (.int (p - q))) env st
        | _ => none
      | _ => none
    | _ => none
  | .augFld e f o v, env, st => sb (ev c e env st) env fun u st => match insAt st u with
    | some (i, C, fs) => match fs.lookup f with
      | some (.d (.int p)) => sb (ev c v env st) env fun w st => match w with
        | .d (.int q) => match augI o p q with
          | some z => match st[i]? with
            | some (.ins C' fs) => if mayFld c i f && (decide (fs.length < 1000) && (decide (C' = C) && (fs.lookup f).isSome)) then some (.nx env (setFld st i f (.d (.int z)))) else none
            | _ => none
          | none => none
        | _ => none
      | _ => none
    | none => none
  | .augSub p k o v, env, st => sb (resolve c p env st) env fun l st => sb (ev (c.lk [l.ow]) k env st) env fun k st => match l.get c env st with
    | some x => match getAt c.kts x k st with
      | some (.int p) => sb (ev (c.lk [l.ow]) v env st) env fun w st => match w with
        | .d (.int q) => match augI o p q with
          | some z => match (l.get c env st).bind fun x => putD c.kts x k (.int z) with
            | some x => some (.nx (l.set x env st).1 (l.set x env st).2)
            | none => none
          | none => none
        | _ => none
      | _ => none
    | none => none
  | .put p k v, env, st => sb (ev c v env st) env fun v st => sb (resolve (c.lk (lockOf v)) p env st) env fun l st => sb (ev (c.lk (l.ow :: lockOf v)) k env st) env fun k st =>
      sb (toD v st) env fun y st => match (l.get c env st).bind fun x => putD c.kts x k y with
        | some x => some (.nx (l.set x env st).1 (l.set x env st).2)
        | none => none
  | .putL p k v, env, st => sb (ev c v env st) env fun v st => sb (resolve (c.lk (lockOf v)) p env st) env fun l st => sb (ev (c.lk (l.ow :: lockOf v)) k env st) env fun k st =>
      sb (toD v st) env fun y st => match l.get c env st, k with
        | some (.l xs), .d (.int i) => match ixN xs.length i with
          | some n => some (.nx (l.set (.l (xs.set n y)) env st).1 (l.set (.l (xs.set n y)) env st).2)
          | none => none
        | _, _ => none
  | .app p v, env, st => sb (resolveK Cn.isL c p env st) env fun l st => sb (ev (c.lk [l.ow]) v env st) env fun v st => sb (toD v st) env fun y st => match l.get c env st with
    | some (.l xs) => if xs.length < sizeLine then some (.nx (l.set (.l (xs ++ [y])) env st).1 (l.set (.l (xs ++ [y])) env st).2) else none
    | _ => none
  | .ext p v, env, st => sb (resolveK Cn.isL c p env st) env fun l st => sb (ev (c.lk [l.ow]) v env st) env fun v st => match l.get c env st, lstOf v st with
    | some (.l xs), some ys => if trk v && decide (xs.length + ys.length ≤ sizeLine) then some (.nx (l.set (.l (xs ++ ys)) env st).1 (l.set (.l (xs ++ ys)) env st).2) else none
    | _, _ => none
  | .del p k, env, st => sb (resolve c p env st) env fun l st => sb (ev (c.lk [l.ow]) k env st) env fun k st => match (l.get c env st).bind fun x => delAt x k with
    | some x => some (.nx (l.set x env st).1 (l.set x env st).2)
    | none => none
  | .pop p k, env, st => sb (resolveK Cn.isL c p env st) env fun l st => sb (ev (c.lk [l.ow]) k env st) env fun k st => match l.get c env st with
    | some (.l xs) => match popAt (.l xs) k with
      | some (_, x) => some (.nx (l.set x env st).1 (l.set x env st).2)
      | none => none
    | _ => none
  | .popTo t p k, env, st => sb (resolve c p env st) env fun l st => sb (ev (c.lk [l.ow]) k env st) env fun k st => match (l.get c env st).bind fun x => popAt x k with
    | some (d, x) => match t.put c (l.set x env st).1 d with
      | some env' => some (.nx env' (l.set x env st).2)
      | none => none
    | none => none
  | .setdef p k v, env, st => sb (resolveK Cn.isD c p env st) env fun l st => sb (ev (c.lk [l.ow]) k env st) env fun k st => sb (ev (c.lk [l.ow]) v env st) env fun v st => match l.get c env st, k, v with
    | some (.m kvs), .d k, .d v => match keyOf k with
      | some k => if (look kvs k).isSome then some (.nx env st) else if kvs.length < sizeLine then some (.nx (l.set (.m (put kvs k v)) env st).1 (l.set (.m (put kvs k v)) env st).2) else none
      | none => none
    | _, _, _ => none
  | .drop e, env, st => sb (ev c e env st) env fun _ st => some (.nx env st)
  | .ifs t a b, env, st => sb (evT c t env st) env fun u st => if u then execs c a env st else execs c b env st
  | .for_ t it b, env, st => sb (evI c it env st) env fun j st =>
      forL (fun x env st => match t.put (c.lk j.locks) env x with
        | some env => execs (c.lk j.locks) b env st
        | none => none) j.xs env st
  | .while_ t b, env, st => whileL (evT c t) (execs c b) c.turns env st
  | .ret e, env, st => match e with
    | .var i => match env[i]? with
      | some (some (.d x)) => some (.rt (.d x) st)
      | some (some (.c .own x)) => if free c i then some (.rt (.c .own x) st) else none
      | _ => none
    | e => sb (ev c e env st) env fun v st => match v with
      | .d x => some (.rt (.d x) st)
      | .c .own x => some (.rt (.c .own x) st)
      | _ => none
  | .retN, _, st => some (.rt (.d .non) st)
  | .brk, env, st => some (.bk env st)
  | .cnt, env, st => some (.ct env st)
  | .pass, env, st => some (.nx env st)
  | .raise C e own, env, st => sb (ev c e env st) env fun v st => match v with
    | .d x => some (.ex ⟨C, if own then some x else none⟩ env st)
    | _ => none
  | .try_ b hs, env, st => match execs c b env st with
    | some (.ex x env st) => handle c hs x env st
    | r => r
  | .tryN i b hs, env, st => match execs c b env st with
    | some (.ex x env st) => if free c i then handleN c i hs x env st else none
    | r => r
def execs (c : Cl) : Stts → Env → Sto → Option SO
  | .nil, env, st => some (.nx env st)
  | .cons s ss, env, st => sq (exec c s env st) fun env st => execs c ss env st
/-- clauses without a name; no clause raises -/
def handle (c : Cl) : Hds → Xc → Env → Sto → Option SO
  | .nil, x, env, st => some (.ex x env st)
  | .cons C b hs, x, env, st => if c.xs.contains x.c && c.xs.contains C then
      (if c.sub x.c C then match execs c b env st with
        | some (.ex _ _ _) => none
        | r => r
      else handle c hs x env st) else none
/-- clauses of one name -/
def handleN (c : Cl) (i : Nat) : Hds → Xc → Env → Sto → Option SO
  | .nil, _, _, _ => none
  | .cons C b hs, x, env, st => if c.xs.contains x.c && c.xs.contains C then
      (if c.sub x.c C then match execs c b (env.set i (some (.x x))) st with
        | some (.nx env st) => some (.nx (env.set i none) st)
        | some (.bk env st) => some (.bk (env.set i none) st)
        | some (.ct env st) => some (.ct (env.set i none) st)
        | some (.rt v st) => some (.rt v st)
        | _ => none
      else handleN c i hs x env st) else none
end
/-- a call by n -/
def result (r : Option SO) : Res SV := match r with
  | some (.nx _ st) => ok (.d .non) st
  | some (.rt v st) => ok v st
  | some (.ex x _ st) => some (.ex x st)
  | _ => none
/-! what is left behind -/
mutual
/-- no id from n on -/
def D.cl (n : Nat) : D → Bool
  | .ref k => decide (k < n)
  | .tup xs => D.cls n xs
  | .fn _ => true
  | .non => true | .bl _ => true | .int _ => true | .str _ => true
def D.cls (n : Nat) : List D → Bool
  | [] => true
  | x :: xs => D.cl n x && D.cls n xs
end
def Cn.cl (n : Nat) : Cn → Bool
  | .l xs => D.cls n xs
  | .m kvs => D.cls n (kvs.map (·.2))
  | .t kvs => D.cls n (kvs.map (·.2))
def FV.cl (n : Nat) : FV → Bool
  | .d x => x.cl n
  | .c _ x => x.cl n
def Cell.cl (n : Nat) : Cell → Bool
  | .ins _ fs => fs.all fun p => p.2.cl n
  | .con x => x.cl n
def SV.cl (n : Nat) : SV → Bool
  | .d y => y.cl n
  | .c _ y => y.cl n
  | .x _ => false
def Xc.cl (n : Nat) (e : Xc) : Bool := match e.x with
  | some d => d.cl n
  | none => true
/-- of what stood there before, nothing sees what came later -/
def stoCl (st st' : Sto) : Bool := (List.range st.length).all fun k => decide (st'[k]? = st[k]?) || match st'[k]? with
  | some c => c.cl st.length
  | none => true
def trim (st : Sto) : Res SV → Res SV
  | some (.ok v st') => if v.cl st.length && stoCl st st' then some (.ok v (st'.take st.length)) else some (.ok v st')
  | some (.ex x st') => if x.cl st.length && stoCl st st' then some (.ex x (st'.take st.length)) else some (.ex x st')
  | none => none
def trimIf (b : Bool) (st : Sto) (r : Res SV) : Res SV := if b then trim st r else r
structure Prog where
  fns : List Fn
  names : List Str
  tabs : List (Str × List (Str × D))
  sub : List (Nat × Nat)
  kts : List (List D)
  flds : List (Nat × Str)
  xs : List Nat
def Prog.fn (p : Prog) (f : Nat) : Fn := p.fns.getD f ⟨0, 0, .nil, false⟩
def Prog.cl (p : Prog) (call : Nat → List SV → List Ow → Sto → Res SV) (locks : List Ow) : Cl := ⟨call, locks, 100000000, p.tabs, fun a b => a == b || p.sub.contains (a, b), fun f => p.names.getD f Str.empty, p.kts, p.flds, p.xs⟩
def Prog.call (p : Prog) : Nat → Nat → List SV → List Ow → Sto → Res SV
  | 0, _, _, _, _ => none
  | n + 1, f, as, L, st => if as.length = (p.fn f).np then trimIf (p.fn f).tr st (result (execs (p.cl (p.call n) L) (p.fn f).body (as.map some ++ List.replicate ((p.fn f).ns - as.length) none) st)) else none
end Tv

namespace Tv
open PySem L2
/-! ### values in the heap -/
structure En where
  K : PySem.W.Frag
  cls : Nat → Addr
  fn : Nat → Addr
  exc : Nat → Addr
  xf : Nat → Str
  kt : List (List D)
  fl : List (Nat × Str)
/-- where the cells stand, and the containers of fields -/
structure Wd where
  ad : List Addr
  fd : Nat → Str → Addr
/-- tuples stay -/
def Tm (K : PySem.W.Frag) (H J : Hp) : Prop := ∀ a xs, H a = some (.tup xs) → J a = some (.tup xs)
theorem Tm.rfl' {K : PySem.W.Frag} (H : Hp) : Tm K H H := fun _ _ z => z
theorem Tm.tr {K : PySem.W.Frag} {H J L : Hp} (f : Tm K H J) (g : Tm K J L) : Tm K H L := fun a xs z => g a xs (f a xs z)
/-- a tuple: made by the code, or a constant -/
def TuR (E : En) (H : Hp) (a : Addr) (vs : List V) (xs : List D) : Prop := H a = some (.tup vs) ∨ (xs ∈ E.kt ∧ ∀ J, SqT E.K J a vs)
theorem TuR.mono {E : En} {H J : Hp} {a : Addr} {vs : List V} {xs : List D} (g : Tm E.K H J) (h : TuR E H a vs xs) : TuR E J a vs xs := by
  rcases h with h | h
  · exact .inl (g _ _ h)
  · exact .inr h
theorem TuR.sq {E : En} {H : Hp} {a : Addr} {vs : List V} {xs : List D} (h : TuR E H a vs xs) : SqT E.K H a vs := by
  rcases h with h | h
  · exact SqT.of h
  · exact h.2 H
mutual
inductive Rv (E : En) (ad : List Addr) (H : Hp) : V → D → Prop
  | non : Rv E ad H .non .non
  | bl (b : Bool) : Rv E ad H (.bl b) (.bl b)
  | int (i : Int) : Rv E ad H (.int i) (.int i)
  | str (x : Str) : Rv E ad H (.str x) (.str x)
  | tup {a : Addr} {vs : List V} {xs : List D} : TuR E H a vs xs → RvA E ad H vs xs → Rv E ad H (.ref a) (.tup xs)
  | ref {k : Nat} {a : Addr} : ad[k]? = some a → Rv E ad H (.ref a) (.ref k)
  | fn (f : Nat) : Rv E ad H (.ref (E.fn f)) (.fn f)
inductive RvA (E : En) (ad : List Addr) (H : Hp) : List V → List D → Prop
  | nil : RvA E ad H [] []
  | cons {v : V} {vs : List V} {x : D} {xs : List D} : Rv E ad H v x → RvA E ad H vs xs → RvA E ad H (v :: vs) (x :: xs)
end
section
variable {E : En} {ad ad' : List Addr} {H H' J : Hp}
theorem pre_get {α : Type} {l l' : List α} (h : l <+: l') {k : Nat} {a : α} (e : l[k]? = some a) : l'[k]? = some a := by
  obtain ⟨r, rfl⟩ := h
  rw [List.getElem?_append_left (List.getElem?_eq_some_iff.mp e).1]; exact e
mutual
theorem Rv.mono (p : ad <+: ad') (g : Tm E.K H J) : ∀ {v : V} {x : D}, Rv E ad H v x → Rv E ad' J v x
  | _, _, .non => .non
  | _, _, .bl b => .bl b
  | _, _, .int i => .int i
  | _, _, .str x => .str x
  | _, _, .tup h ha => .tup (h.mono g) (RvA.mono p g ha)
  | _, _, .ref h => .ref (pre_get p h)
  | _, _, .fn f => .fn f
theorem RvA.mono (p : ad <+: ad') (g : Tm E.K H J) : ∀ {vs : List V} {xs : List D}, RvA E ad H vs xs → RvA E ad' J vs xs
  | _, _, .nil => .nil
  | _, _, .cons h ha => .cons (Rv.mono p g h) (RvA.mono p g ha)
end
theorem Rv.int_of {v : V} {i : Int} (h : Rv E ad H v (.int i)) : v = .int i := by cases h; rfl
theorem Rv.bl_of {v : V} {b : Bool} (h : Rv E ad H v (.bl b)) : v = .bl b := by cases h; rfl
theorem Rv.str_of {v : V} {b : Str} (h : Rv E ad H v (.str b)) : v = .str b := by cases h; rfl
theorem Rv.non_of {v : V} (h : Rv E ad H v .non) : v = .non := by cases h; rfl
theorem Rv.fn_of {v : V} {f : Nat} (h : Rv E ad H v (.fn f)) : v = .ref (E.fn f) := by cases h; rfl
theorem Rv.ref_of {v : V} {k : Nat} (h : Rv E ad H v (.ref k)) : ∃ a, v = .ref a ∧ ad[k]? = some a := by cases h with | ref e => exact ⟨_, rfl, e⟩
theorem Rv.tup_of {v : V} {xs : List D} (h : Rv E ad H v (.tup xs)) : ∃ a vs, v = .ref a ∧ TuR E H a vs xs ∧ RvA E ad H vs xs := by
  cases h with
  | tup h ha => exact ⟨_, _, rfl, h, ha⟩
theorem RvA.length : ∀ {vs : List V} {xs : List D}, RvA E ad H vs xs → vs.length = xs.length
  | _, _, .nil => rfl
  | _, _, .cons _ t => by rw [List.length_cons, List.length_cons, RvA.length t]
theorem RvA.get : ∀ {vs : List V} {xs : List D} {i : Nat} {x : D}, RvA E ad H vs xs → xs[i]? = some x → ∃ v, vs[i]? = some v ∧ Rv E ad H v x
  | _, _, _, _, .nil, e => by simp at e
  | _, _, 0, _, .cons r _, e => by simp at e; subst e; exact ⟨_, rfl, r⟩
  | _, _, i + 1, d, .cons _ t, e => by
    obtain ⟨u, h1, h2⟩ := RvA.get (i := i) (x := d) t (by simpa using e)
    exact ⟨u, by simpa using h1, h2⟩
theorem RvA.getV : ∀ {vs : List V} {xs : List D} {i : Nat} {v : V}, RvA E ad H vs xs → vs[i]? = some v → ∃ x, xs[i]? = some x ∧ Rv E ad H v x
  | _, _, _, _, .nil, e => by simp at e
  | _, _, 0, _, .cons r _, e => by simp at e; subst e; exact ⟨_, rfl, r⟩
  | _, _, i + 1, d, .cons _ t, e => by
    obtain ⟨u, h1, h2⟩ := RvA.getV (i := i) (v := d) t (by simpa using e)
    exact ⟨u, by simpa using h1, h2⟩
theorem RvA.app : ∀ {vs us : List V} {xs ys : List D}, RvA E ad H vs xs → RvA E ad H us ys → RvA E ad H (vs ++ us) (xs ++ ys)
  | _, _, _, _, .nil, s => s
  | _, _, _, _, .cons r t, s => .cons r (RvA.app t s)
theorem RvA.take : ∀ {vs : List V} {xs : List D} (n : Nat), RvA E ad H vs xs → RvA E ad H (vs.take n) (xs.take n)
  | _, _, 0, _ => by rw [List.take_zero, List.take_zero]; exact .nil
  | _, _, _ + 1, .nil => .nil
  | _, _, n + 1, .cons r t => .cons r (RvA.take n t)
theorem RvA.drop : ∀ {vs : List V} {xs : List D} (n : Nat), RvA E ad H vs xs → RvA E ad H (vs.drop n) (xs.drop n)
  | _, _, 0, r => r
  | _, _, _ + 1, .nil => .nil
  | _, _, n + 1, .cons _ t => RvA.drop n t
theorem RvA.set {v : V} {x : D} (r : Rv E ad H v x) : ∀ {vs : List V} {xs : List D} (i : Nat), RvA E ad H vs xs → RvA E ad H (vs.set i v) (xs.set i x)
  | _, _, _, .nil => .nil
  | _, _, 0, .cons _ t => .cons r t
  | _, _, i + 1, .cons q t => .cons q (RvA.set r i t)
theorem RvA.erase : ∀ {vs : List V} {xs : List D} (i : Nat), RvA E ad H vs xs → RvA E ad H (vs.eraseIdx i) (xs.eraseIdx i)
  | _, _, _, .nil => .nil
  | _, _, 0, .cons _ t => t
  | _, _, i + 1, .cons q t => .cons q (RvA.erase i t)
theorem RvA.rev {vs : List V} {xs : List D} (h : RvA E ad H vs xs) : RvA E ad H vs.reverse xs.reverse := by
  induction xs generalizing vs with
  | nil => cases h; exact .nil
  | cons x xs ih =>
    cases h with
    | cons r t => rw [List.reverse_cons, List.reverse_cons]; exact (ih t).app (.cons r .nil)
theorem RvA.ints : ∀ (ns : List Int), RvA E ad H (ns.map V.int) (ns.map D.int)
  | [] => .nil
  | n :: r => .cons (.int n) (RvA.ints r)
theorem RvA.ints_of : ∀ {vs : List V} {ns : List Int}, RvA E ad H vs (ns.map D.int) → vs = ns.map V.int
  | _, [], h => by cases h; rfl
  | _, n :: r, h => by
    rw [List.map_cons] at h
    cases h with
    | cons h1 h2 => rw [h1.int_of, RvA.ints_of h2, List.map_cons]
/-! ### containers -/
def Rkv {κ : Type} (E : En) (ad : List Addr) (H : Hp) (ps : List (κ × V)) (kvs : List (κ × D)) : Prop := ps.map (·.1) = kvs.map (·.1) ∧ RvA E ad H (ps.map (·.2)) (kvs.map (·.2))
theorem Rkv.mono {κ : Type} {ps : List (κ × V)} {kvs : List (κ × D)} (p : ad <+: ad') (g : Tm E.K H J) (h : Rkv E ad H ps kvs) : Rkv E ad' J ps kvs := ⟨h.1, h.2.mono p g⟩
def HoR (E : En) (ad : List Addr) (H : Hp) : HO → Cn → Prop
  | .lst vs, .l xs => RvA E ad H vs xs
  | .dK ps, .m kvs => Rkv E ad H ps kvs
  | .dT ps, .t kvs => Rkv E ad H ps kvs
  | _, _ => False
theorem HoR.mono {u : HO} {x : Cn} (p : ad <+: ad') (g : Tm E.K H J) (h : HoR E ad H u x) : HoR E ad' J u x := by
  cases u <;> cases x <;> first | exact h.elim | exact RvA.mono p g h | exact Rkv.mono p g h
theorem HoR.mut {u : HO} {x : Cn} (h : HoR E ad H u x) : Mut (some u) := by
  cases u <;> cases x <;> first | exact h.elim | trivial
theorem HoR.ntup {u : HO} {x : Cn} (h : HoR E ad H u x) : ∀ xs, u ≠ .tup xs := fun xs e => by subst e; cases x <;> exact h.elim
theorem HoR.nfrz {u : HO} {x : Cn} (h : HoR E ad H u x) : ∀ o v, u ≠ .frz o v := fun o v e => by subst e; cases x <;> exact h.elim
/-- u stands at a; a dict may be known -/
def RdC (H : Hp) (a : Addr) (u : HO) : Prop := H a = some u ∨ ∃ o, H a = some (.frz o u) ∧ ∀ vs, u ≠ .lst vs
theorem RdC.rd {a : Addr} {u : HO} (h : RdC H a u) : Rd H a u := by
  rcases h with h | ⟨o, h, _⟩
  · exact .inl h
  · exact .inr ⟨o, h⟩
theorem RdC.lst {a : Addr} {vs : List V} (h : RdC H a (.lst vs)) : H a = some (.lst vs) := by
  rcases h with h | ⟨o, h, n⟩
  · exact h
  · exact absurd rfl (n vs)
/-- the container x is to be read at a -/
def CoR (E : En) (ad : List Addr) (H : Hp) (a : Addr) (x : Cn) : Prop := ∃ u, RdC H a u ∧ HoR E ad H u x
/-- at a stands what may be changed -/
def Xt (H : Hp) (a : Addr) : Prop := ∃ u, H a = some u ∧ Mut (some u)
theorem rd_eq {a : Addr} {u : HO} (h : J a = H a) (r : RdC H a u) : RdC J a u := by
  rcases r with r | ⟨o, r, n⟩
  · exact .inl (h.trans r)
  · exact .inr ⟨o, h.trans r, n⟩
theorem CoR.mono {a : Addr} {x : Cn} (p : ad <+: ad') (g : Tm E.K H J) (e : J a = H a) (h : CoR E ad H a x) : CoR E ad' J a x := by
  obtain ⟨u, r, q⟩ := h
  exact ⟨u, rd_eq e r, q.mono p g⟩
theorem CoR.has {a : Addr} {x : Cn} (h : CoR E ad H a x) : ∃ o, H a = some o := by
  obtain ⟨u, r | ⟨o, r, _⟩, _⟩ := h
  · exact ⟨_, r⟩
  · exact ⟨_, r⟩
theorem CoR.ex {a : Addr} {x : Cn} (h : CoR E ad H a x) (e : Xt H a) : ∃ u, H a = some u ∧ HoR E ad H u x := by
  obtain ⟨u, r | ⟨o, r, _⟩, q⟩ := h
  · exact ⟨u, r, q⟩
  · obtain ⟨v, e, m⟩ := e
    rw [r] at e
    cases e
    exact m.elim
/-! ### the store -/
def Ow.live (st : Sto) : Ow → Prop
  | .c k => k < st.length
  | .f i nm => ∃ C fs x, st[i]? = some (.ins C fs) ∧ (nm, FV.c false x) ∈ fs
  | .s _ => False
def Wd.at (w : Wd) : Ow → Option Addr
  | .c k => w.ad[k]?
  | .f i nm => some (w.fd i nm)
  | .s _ => none
/-- a belongs to the store -/
def Owd (w : Wd) (st : Sto) (a : Addr) : Prop := ∃ o, o.live st ∧ w.at o = some a
inductive FVR (E : En) (w : Wd) (st : Sto) (H : Hp) (i : Nat) (f : Str) : V → FV → Prop
  | d {v : V} {x : D} : Rv E w.ad H v x → FVR E w st H i f v (.d x)
  | c {x : Cn} : CoR E w.ad H (w.fd i f) x → FVR E w st H i f (.ref (w.fd i f)) (.c false x)
  | z {b : Addr} {x : Cn} : CoR E w.ad H b x → ¬ Owd w st b → FVR E w st H i f (.ref b) (.c true x)
inductive FsR (E : En) (w : Wd) (st : Sto) (H : Hp) (i : Nat) : List (Str × V) → List (Str × FV) → Prop
  | nil : FsR E w st H i [] []
  | cons {f : Str} {v : V} {x : FV} {fv : List (Str × V)} {fs : List (Str × FV)} : FVR E w st H i f v x → FsR E w st H i fv fs → FsR E w st H i ((f, v) :: fv) ((f, x) :: fs)
def CeR (E : En) (w : Wd) (st : Sto) (H : Hp) (k : Nat) (a : Addr) : Cell → Prop
  | .con x => CoR E w.ad H a x
  | .ins C fs => ∃ dx fv, H a = some (.ins (E.cls C) dx fv) ∧ FsR E w st H k fv fs
/-- the names of an instance's fields -/
def Nd (E : En) (C : Nat) (ns : List Str) : Prop := ns.Nodup ∧ ∀ f ∈ ns, (C, f) ∈ E.fl
structure SR (E : En) (w : Wd) (L : List Ow) (st : Sto) (H : Hp) : Prop where
  len : w.ad.length = st.length
  inj : ∀ o p a, o.live st → p.live st → w.at o = some a → w.at p = some a → o = p
  cell : ∀ k x, st[k]? = some x → ∃ a, w.ad[k]? = some a ∧ CeR E w st H k a x
  ex : ∀ o a, o.live st → o ∉ L → w.at o = some a → Xt H a
  nd : ∀ (k : Nat) (C : Nat) (fs : List (Str × FV)), st[k]? = some (.ins C fs) → Nd E C (fs.map (·.1))
variable {w w' : Wd} {st st' : Sto} {L L' : List Ow}
theorem FsR.get {i : Nat} {f : Str} {x : FV} : ∀ {fv : List (Str × V)} {fs : List (Str × FV)}, FsR E w st H i fv fs → fs.lookup f = some x → ∃ v, fv.lookup f = some v ∧ FVR E w st H i f v x
  | _, _, .nil, e => by simp at e
  | _, _, .cons (f := g) r t, e => by
    rw [List.lookup_cons] at e ⊢
    split at e
    · rename_i h
      have h' : f = g := by simpa using h
      subst h'
      cases e
      exact ⟨_, rfl, r⟩
    · exact FsR.get t e
theorem FsR.getI {i : Nat} {f : Str} {x : FV} : ∀ {m : Nat} {fv : List (Str × V)} {fs : List (Str × FV)}, FsR E w st H i fv fs → fs[m]? = some (f, x) → ∃ v, fv[m]? = some (f, v) ∧ FVR E w st H i f v x
  | _, _, _, .nil, e => by simp at e
  | 0, _, _, .cons r t, e => by simp at e; obtain ⟨rfl, rfl⟩ := e; exact ⟨_, rfl, r⟩
  | m + 1, _, _, .cons r t, e => by
    obtain ⟨v, h1, h2⟩ := FsR.getI (m := m) t (by simpa using e)
    exact ⟨v, by simpa using h1, h2⟩
theorem FsR.idx {i : Nat} {f : Str} {x : FV} : ∀ {fv : List (Str × V)} {fs : List (Str × FV)}, FsR E w st H i fv fs → fs.lookup f = some x → ∃ (m : Nat) (v : V), fs[m]? = some (f, x) ∧ fv[m]? = some (f, v) ∧ fv.lookup f = some v ∧ FVR E w st H i f v x
  | _, _, .nil, e => by simp at e
  | _, _, .cons (f := g) r t, e => by
    rw [List.lookup_cons] at e
    split at e
    · rename_i h
      have h' : f = g := by simpa using h
      subst h'
      cases e
      exact ⟨0, _, rfl, rfl, by rw [List.lookup_cons]; simp, r⟩
    · rename_i h
      obtain ⟨m, v, h1, h2, h3, h4⟩ := FsR.idx t e
      exact ⟨m + 1, v, by simpa using h1, by simpa using h2, by rw [List.lookup_cons, h]; exact h3, h4⟩
theorem FsR.none {i : Nat} {f : Str} : ∀ {fv : List (Str × V)} {fs : List (Str × FV)}, FsR E w st H i fv fs → fs.lookup f = none → fv.lookup f = none
  | _, _, .nil, e => rfl
  | _, _, .cons (f := g) r t, e => by
    rw [List.lookup_cons] at e ⊢
    split at e
    · cases e
    · exact FsR.none t e
theorem FsR.length {i : Nat} : ∀ {fv : List (Str × V)} {fs : List (Str × FV)}, FsR E w st H i fv fs → fv.length = fs.length
  | _, _, .nil => rfl
  | _, _, .cons _ t => by rw [List.length_cons, List.length_cons, FsR.length t]
theorem FsR.mem {i : Nat} {f : Str} {x : FV} : ∀ {fv : List (Str × V)} {fs : List (Str × FV)}, FsR E w st H i fv fs → (f, x) ∈ fs → ∃ v, FVR E w st H i f v x
  | _, _, .nil, e => by cases e
  | _, _, .cons r t, e => by
    rcases List.mem_cons.mp e with e | e
    · cases e; exact ⟨_, r⟩
    · exact FsR.mem t e
theorem mem_lookup {f : Str} {x : FV} : ∀ {fs : List (Str × FV)}, fs.lookup f = some x → (f, x) ∈ fs
  | [], e => by simp at e
  | (g, y) :: fs, e => by
    rw [List.lookup_cons] at e
    split at e
    · rename_i h
      have h' : f = g := by simpa using h
      subst h'
      cases e
      exact List.mem_cons_self
    · exact List.mem_cons_of_mem _ (mem_lookup e)
theorem SR.at {o : Ow} (S : SR E w L st H) (h : o.live st) : ∃ a, w.at o = some a := by
  cases o with
  | c k => exact ⟨_, List.getElem?_eq_some_iff.mpr ⟨by rw [S.len]; exact h, rfl⟩⟩
  | f i f => exact ⟨_, rfl⟩
  | s j => exact h.elim
/-- what may stand at an owner's place -/
def Okd (o : HO) : Prop := Mut (some o) ∨ ∃ ob u, o = .frz ob u ∧ Mut (some u)
theorem Okd.ntup {o : HO} (h : Okd o) : (∀ xs, o ≠ .tup xs) ∧ ∀ ob xs, o ≠ .frz ob (.tup xs) := by
  refine ⟨fun xs e => ?_, fun ob xs e => ?_⟩ <;> subst e <;> rcases h with h | ⟨_, u, h, m⟩
  · exact h.elim
  · cases h
  · exact h.elim
  · cases h; exact m.elim
theorem CoR.okd {a : Addr} {x : Cn} (h : CoR E ad H a x) : ∃ o, H a = some o ∧ Okd o := by
  obtain ⟨u, r | ⟨o, r, _⟩, q⟩ := h
  · exact ⟨_, r, .inl q.mut⟩
  · exact ⟨_, r, .inr ⟨o, u, rfl, q.mut⟩⟩
theorem SR.has {a : Addr} (S : SR E w L st H) (h : Owd w st a) : ∃ o, H a = some o ∧ Okd o := by
  obtain ⟨o, hl, e⟩ := h
  cases o with
  | c k =>
    have hl' : k < st.length := hl
    obtain ⟨b, e1, h⟩ := S.cell k (st[k]'hl') (List.getElem?_eq_some_iff.mpr ⟨hl', rfl⟩)
    have e2 : w.ad[k]? = some a := e
    rw [e1] at e2
    cases e2
    revert h
    cases st[k]'hl' with
    | con x => exact fun h => CoR.okd h
    | ins C fs =>
      intro h
      obtain ⟨dx, fv, h1, _⟩ := h
      exact ⟨_, h1, .inl trivial⟩
  | f i f =>
    obtain ⟨C, fs, x, h1, h2⟩ := hl
    obtain ⟨b, e1, h⟩ := S.cell i _ h1
    obtain ⟨dx, fv, h3, h4⟩ := h
    obtain ⟨v, h6⟩ := h4.mem h2
    have e2 : w.fd i f = a := Option.some.inj e
    cases h6 with
    | c h => rw [e2] at h; exact CoR.okd h
  | s j => exact hl.elim
theorem SR.nowd {a : Addr} (S : SR E w L st H) (h : H a = none) : ¬ Owd w st a := fun z => by obtain ⟨o, e, _⟩ := S.has z; rw [h] at e; cases e
theorem SR.lk (S : SR E w L st H) (h : ∀ o, o ∈ L → o.live st → o ∈ L') : SR E w L' st H := ⟨S.len, S.inj, S.cell, fun o a hl hn e => S.ex o a hl (fun z => hn (h o z hl)) e, S.nd⟩
theorem SR.lkApp (S : SR E w L st H) {l : List Ow} : SR E w (l ++ L) st H := S.lk fun o h _ => List.mem_append.mpr (.inr h)
/-- a shared container stands at b -/
def Zad (w : Wd) (st : Sto) (H : Hp) (b : Addr) : Prop := ∃ (k : Nat) (a : Addr) (C : Nat) (fs : List (Str × FV)) (c dx : Addr) (fv : List (Str × V)) (f : Str) (x : Cn) (m : Nat),
  st[k]? = some (.ins C fs) ∧ w.ad[k]? = some a ∧ H a = some (.ins c dx fv) ∧ fs[m]? = some (f, .c true x) ∧ fv[m]? = some (f, .ref b)
theorem SR.zad {b : Addr} (S : SR E w L st H) (h : Zad w st H b) : ¬ Owd w st b ∧ ∃ o, H b = some o ∧ Okd o := by
  obtain ⟨k, a, C, fs, c, dx, fv, f, x, m, h1, h2, h3, h4, h5⟩ := h
  obtain ⟨a', e1, h⟩ := S.cell k _ h1
  rw [h2] at e1
  cases e1
  obtain ⟨dx', fv', h6, h7⟩ := h
  rw [h3] at h6
  cases h6
  obtain ⟨v, h8, h9⟩ := h7.getI h4
  rw [h5] at h8
  cases h8
  cases h9 with
  | z q1 q2 => exact ⟨q2, q1.okd⟩
/-! ### what code does to the store and the heap -/
structure Ss where
  w : Wd
  st : Sto
  H : Hp
structure Fr (E : En) (L : List Ow) (a b : Ss) : Prop where
  ad : a.w.ad <+: b.w.ad
  tm : Tm E.K a.H b.H
  out : ∀ p o, a.H p = some o → ¬ Owd a.w a.st p → b.H p = some o
  new : ∀ p, Owd b.w b.st p → Owd a.w a.st p ∨ a.H p = none
  newz : ∀ p, Zad b.w b.st b.H p → Zad a.w a.st a.H p ∨ Owd a.w a.st p ∨ a.H p = none
  dom : ∀ p, b.H p = none → a.H p = none
  lk : ∀ o ∈ L, o.live a.st → o.live b.st ∧ b.w.at o = a.w.at o ∧ ∀ p, a.w.at o = some p → b.H p = a.H p
variable {a b c : Ss}
theorem Fr.rfl' (a : Ss) : Fr E L a a := ⟨List.prefix_refl _, Tm.rfl' _, fun _ _ e _ => e, fun _ h => .inl h, fun _ h => .inl h, fun _ h => h, fun _ _ h => ⟨h, rfl, fun _ _ => rfl⟩⟩
theorem Fr.tr (f : Fr E L a b) (g : Fr E L b c) : Fr E L a c := by
  refine ⟨f.ad.trans g.ad, f.tm.tr g.tm, fun p o e h => g.out p o (f.out p o e h) fun z => ?_, fun p h => ?_, fun p h => ?_, fun p h => f.dom p (g.dom p h), fun o h hl => ?_⟩
  · rcases f.new p z with z | z
    · exact h z
    · rw [e] at z; cases z
  · rcases g.new p h with h | h
    · exact f.new p h
    · exact .inr (f.dom p h)
  · rcases g.newz p h with h | h | h
    · exact f.newz p h
    · exact .inr (f.new p h)
    · exact .inr (.inr (f.dom p h))
  · obtain ⟨h1, h2, h3⟩ := f.lk o h hl
    obtain ⟨k1, k2, k3⟩ := g.lk o h h1
    exact ⟨k1, k2.trans h2, fun p e => (k3 p (h2.trans e)).trans (h3 p e)⟩
theorem Fr.less {L L' : List Ow} (h : ∀ o, o ∈ L' → o ∈ L) (f : Fr E L a b) : Fr E L' a b := ⟨f.ad, f.tm, f.out, f.new, f.newz, f.dom, fun o z => f.lk o (h o z)⟩
theorem Fr.nowd {p : Addr} (f : Fr E L a b) (h : ¬ Owd a.w a.st p) (e : a.H p ≠ none) : ¬ Owd b.w b.st p := fun z => by
  rcases f.new p z with z | z
  · exact h z
  · exact e z
theorem Fr.nozad {p : Addr} (f : Fr E L a b) (h : ¬ Owd a.w a.st p) (z : ¬ Zad a.w a.st a.H p) (e : a.H p ≠ none) : ¬ Zad b.w b.st b.H p := fun y => by
  rcases f.newz p y with y | y | y
  · exact z y
  · exact h y
  · exact e y
theorem Fr.stay {p : Addr} {x : Cn} (f : Fr E L a b) (h : ¬ Owd a.w a.st p) (c : CoR E a.w.ad a.H p x) : CoR E b.w.ad b.H p x ∧ ¬ Owd b.w b.st p ∧ b.H p = a.H p := by
  obtain ⟨o, e⟩ := c.has
  have e2 := f.out p o e h
  exact ⟨c.mono f.ad f.tm (e2.trans e.symm), f.nowd h (by rw [e]; intro z; cases z), e2.trans e.symm⟩
/-- a may be read as long as the locks hold -/
def Sf (w : Wd) (L : List Ow) (st : Sto) (a : Addr) : Prop := ¬ Owd w st a ∨ ∃ o ∈ L, o.live st ∧ w.at o = some a
theorem Fr.safe {p : Addr} {x : Cn} (f : Fr E L a b) (h : Sf a.w L a.st p) (c : CoR E a.w.ad a.H p x) : CoR E b.w.ad b.H p x ∧ Sf b.w L b.st p ∧ b.H p = a.H p := by
  rcases h with h | ⟨o, h1, h2, h3⟩
  · obtain ⟨k1, k2, k3⟩ := f.stay h c
    exact ⟨k1, .inl k2, k3⟩
  · obtain ⟨k1, k2, k3⟩ := f.lk o h1 h2
    have e := k3 p h3
    exact ⟨c.mono f.ad f.tm e, .inr ⟨o, h1, k1, k2.trans h3⟩, e⟩
end
end Tv

namespace Tv
open PySem L2
/-! ### names -/
abbrev XB := Nat → Option (Addr × Value × Option Addr)
/-- an error: its class, what it bears -/
def XR (E : En) (ad : List Addr) (H : Hp) (cls : Value) (d : Option Addr) (x : Xc) : Prop :=
  cls = .ref (E.exc x.c) ∧ (x.x = none → d = none) ∧ ∀ y, x.x = some y → ∃ a v, d = some a ∧ H a = some (.xd [(E.xf x.c, v)]) ∧ Rv E ad H v y
/-- a container of a name's own stands at a -/
def Sod (env : Env) (σ : L2.St) (a : Addr) : Prop := ∃ (j : Nat) (x : Cn), env[j]? = some (some (.c .own x)) ∧ σ[j]? = some (some (.ref a))
/-- a list that nobody changes: written in the module, or none of ours -/
def ScL (K : PySem.W.Frag) (w : Wd) (st : Sto) (H : Hp) (env : Env) (σ : L2.St) (a : Addr) (vs : List V) : Prop := (∀ J, SqL K J a vs) ∨ (Rd H a (.lst vs) ∧ ¬ Owd w st a ∧ ¬ Sod env σ a)
inductive SlR (E : En) (xb : XB) (L0 : List Ow) (w : Wd) (L : List Ow) (st : Sto) (H : Hp) (env : Env) (σ : L2.St) (j : Nat) : V → SV → Prop
  | d {v : V} {x : D} : Rv E w.ad H v x → SlR E xb L0 w L st H env σ j v (.d x)
  | own {a : Addr} {x : Cn} : CoR E w.ad H a x → ¬ Owd w st a → (.s j ∉ L → Xt H a) → SlR E xb L0 w L st H env σ j (.ref a) (.c .own x)
  | par {a : Addr} {x : Cn} : CoR E w.ad H a x → Sf w L0 st a → ¬ Sod env σ a → SlR E xb L0 w L st H env σ j (.ref a) (.c .par x)
  | scr {a : Addr} {vs : List V} {xs : List D} : ScL E.K w st H env σ a vs → RvA E w.ad H vs xs → SlR E xb L0 w L st H env σ j (.ref a) (.c .scr (.l xs))
  | x {a : Addr} {cls : Value} {d : Option Addr} {e : Xc} : xb j = some (a, cls, d) → XR E w.ad H cls d e → SlR E xb L0 w L st H env σ j (.ref a) (.x e)
structure ER (E : En) (xb : XB) (L0 : List Ow) (w : Wd) (L : List Ow) (st : Sto) (H : Hp) (env : Env) (σ : L2.St) : Prop where
  len : env.length = σ.length
  ok : ∀ (j : Nat) (s : SV), env[j]? = some (some s) → ∃ v, σ[j]? = some (some v) ∧ SlR E xb L0 w L st H env σ j v s
  inj : ∀ (i j : Nat) (x y : Cn) (a : Addr), env[i]? = some (some (.c .own x)) → env[j]? = some (some (.c .own y)) → σ[i]? = some (some (.ref a)) → σ[j]? = some (some (.ref a)) → i = j
  zs : ∀ b, Zad w st H b → ¬ Sod env σ b
/-- a value that came up -/
inductive VR (E : En) (L0 : List Ow) (w : Wd) (st : Sto) (H : Hp) (env : Env) (σ : L2.St) (B : Hp) : V → SV → Prop
  | d {v : V} {x : D} : Rv E w.ad H v x → VR E L0 w st H env σ B v (.d x)
  | own {a : Addr} {x : Cn} : CoR E w.ad H a x → Xt H a → ¬ Owd w st a → B a = none → ¬ Zad w st H a → VR E L0 w st H env σ B (.ref a) (.c .own x)
  | atS {j : Nat} {a : Addr} {x : Cn} : env[j]? = some (some (.c .own x)) → σ[j]? = some (some (.ref a)) → CoR E w.ad H a x → ¬ Owd w st a → VR E L0 w st H env σ B (.ref a) (.c (.at (.s j)) x)
  | atF {i : Nat} {f : Str} {x : Cn} : CoR E w.ad H (w.fd i f) x → (Ow.f i f).live st → VR E L0 w st H env σ B (.ref (w.fd i f)) (.c (.at (.f i f)) x)
  | par {a : Addr} {x : Cn} : CoR E w.ad H a x → Sf w L0 st a → ¬ Sod env σ a → VR E L0 w st H env σ B (.ref a) (.c .par x)
  | scr {a : Addr} {vs : List V} {xs : List D} : ScL E.K w st H env σ a vs → RvA E w.ad H vs xs → VR E L0 w st H env σ B (.ref a) (.c .scr (.l xs))
section
variable {E : En} {xb : XB} {w w1 w2 : Wd} {L0 L L' l : List Ow} {st st1 st2 : Sto} {H H1 H2 B B' : Hp} {env : Env} {σ : L2.St} {v : V} {s : SV} {j : Nat} {a : Addr}
theorem xr_mono {E : En} {ad ad' : List Addr} {H J : Hp} {cls : Value} {d : Option Addr} {x : Xc} (p : ad <+: ad') (g : Tm E.K H J) (k : ∀ a fs, H a = some (.xd fs) → J a = some (.xd fs)) (h : XR E ad H cls d x) : XR E ad' J cls d x :=
  ⟨h.1, h.2.1, fun y e => by obtain ⟨a, v, h1, h2, h3⟩ := h.2.2 y e; exact ⟨a, v, h1, k _ _ h2, h3.mono p g⟩⟩
theorem SR.nxd {fs : List (Str × V)} (S : SR E w L st H) (h : H a = some (.xd fs)) : ¬ Owd w st a := fun z => by
  obtain ⟨o, e, k⟩ := S.has z
  rw [h] at e
  cases e
  rcases k with k | ⟨_, _, k, _⟩
  · exact k.elim
  · cases k
theorem XR.fr {cls : Value} {d : Option Addr} {x : Xc} (S : SR E w L st H) (f : Fr E L' ⟨w, st, H⟩ ⟨w1, st1, H1⟩) (h : XR E w.ad H cls d x) : XR E w1.ad H1 cls d x :=
  xr_mono f.ad f.tm (fun a fs e => f.out a _ e (S.nxd e)) h
theorem rd_has {u : HO} (h : Rd H a u) : H a ≠ none := by
  rcases h with h | ⟨o, h⟩ <;> rw [h] <;> intro z <;> cases z
theorem rd_fr {u : HO} (f : Fr E L ⟨w, st, H⟩ ⟨w1, st1, H1⟩) (n : ¬ Owd w st a) (h : Rd H a u) : Rd H1 a u := by
  rcases h with h | ⟨o, h⟩
  · exact .inl (f.out _ _ h n)
  · exact .inr ⟨o, f.out _ _ h n⟩
theorem ScL.fr {vs : List V} (f : Fr E L ⟨w, st, H⟩ ⟨w1, st1, H1⟩) (h : ScL E.K w st H env σ a vs) : ScL E.K w1 st1 H1 env σ a vs := by
  rcases h with h | ⟨h1, h2, h3⟩
  · exact .inl h
  · exact .inr ⟨rd_fr f h2 h1, f.nowd h2 (rd_has h1), h3⟩
theorem ScL.sq {K : PySem.W.Frag} {vs : List V} (h : ScL K w st H env σ a vs) : SqL K H a vs := by
  rcases h with h | ⟨h1, _, _⟩
  · exact h H
  · exact .inl h1
theorem SlR.fr (f : Fr E L ⟨w, st, H⟩ ⟨w1, st1, H1⟩) (hl : ∀ o ∈ L0, o ∈ L) (S : SR E w L st H) (h : SlR E xb L0 w L st H env σ j v s) : SlR E xb L0 w1 L st1 H1 env σ j v s := by
  cases h with
  | d h => exact .d (h.mono f.ad f.tm)
  | own h1 h2 h3 =>
    obtain ⟨k1, k2, k3⟩ := f.stay h2 h1
    exact .own k1 k2 fun z => by obtain ⟨u, e, m⟩ := h3 z; exact ⟨u, k3.trans e, m⟩
  | par h1 h2 h3 =>
    obtain ⟨k1, k2, k3⟩ := (f.less hl).safe h2 h1
    exact .par k1 k2 h3
  | scr h1 h2 => exact .scr (h1.fr f) (h2.mono f.ad f.tm)
  | x h1 h2 => exact .x h1 (h2.fr S f)
theorem ER.sod (R : ER E xb L0 w L st H env σ) (h : Sod env σ a) : ¬ Owd w st a ∧ ∃ o, H a = some o ∧ Okd o := by
  obtain ⟨j, x, h1, h2⟩ := h
  obtain ⟨v, e1, e2⟩ := R.ok j _ h1
  rw [h2] at e1
  cases e1
  cases e2 with
  | own k1 k2 k3 => exact ⟨k2, k1.okd⟩
theorem ER.fr (S : SR E w L st H) (hl : ∀ o ∈ L0, o ∈ L) (f : Fr E L ⟨w, st, H⟩ ⟨w1, st1, H1⟩) (R : ER E xb L0 w L st H env σ) : ER E xb L0 w1 L st1 H1 env σ :=
  ⟨R.len, fun j s e => by obtain ⟨v, h1, h2⟩ := R.ok j s e; exact ⟨v, h1, h2.fr f hl S⟩, R.inj, fun b z k => by
    obtain ⟨k1, o, k2, k3⟩ := R.sod k
    rcases f.newz b z with z | z | z
    · exact R.zs b z k
    · exact k1 z
    · have k2' : H b = some o := k2
      have z' : H b = none := z
      rw [k2'] at z'; cases z'⟩
theorem ER.lk (h : ∀ o ∈ L, o ∈ L') (R : ER E xb L0 w L st H env σ) : ER E xb L0 w L' st H env σ :=
  ⟨R.len, fun j s e => by
    obtain ⟨v, h1, h2⟩ := R.ok j s e
    refine ⟨v, h1, ?_⟩
    cases h2 with
    | d k1 => exact .d k1
    | own k1 k2 k3 => exact .own k1 k2 fun z => k3 fun y => z (h _ y)
    | par k1 k2 k3 => exact .par k1 k2 k3
    | scr k1 k2 => exact .scr k1 k2
    | x k1 k2 => exact .x k1 k2, R.inj, R.zs⟩
theorem VR.fr (f : Fr E L ⟨w, st, H⟩ ⟨w1, st1, H1⟩) (h0 : ∀ o ∈ L0, o ∈ L) (hl : ∀ o ∈ lockOf s, o ∈ L) (h : VR E L0 w st H env σ B v s) : VR E L0 w1 st1 H1 env σ B v s := by
  cases h with
  | d h => exact .d (h.mono f.ad f.tm)
  | own h1 h2 h3 h4 h5 =>
    obtain ⟨k1, k2, k3⟩ := f.stay h3 h1
    obtain ⟨u, e, m⟩ := h2
    exact .own k1 ⟨u, k3.trans e, m⟩ k2 h4 (f.nozad h3 h5 (by obtain ⟨o, z⟩ := h1.has; intro y; have z' := z; rw [show H _ = none from y] at z'; cases z'))
  | atS h1 h2 h3 h4 =>
    obtain ⟨k1, k2, k3⟩ := f.stay h4 h3
    exact .atS h1 h2 k1 k2
  | @atF i f' x h1 h2 =>
    obtain ⟨k1, k2, k3⟩ := f.lk (.f i f') (hl _ (by simp [lockOf])) h2
    have e : w1.fd i f' = w.fd i f' := Option.some.inj k2
    have e2 := k3 (w.fd i f') rfl
    have c := h1.mono f.ad f.tm e2
    rw [← e] at c ⊢
    exact .atF c k1
  | par h1 h2 h3 =>
    obtain ⟨k1, k2, k3⟩ := (f.less h0).safe h2 h1
    exact .par k1 k2 h3
  | scr h1 h2 => exact .scr (h1.fr f) (h2.mono f.ad f.tm)
theorem VR.base (h : VR E L0 w st H env σ B v s) (k : ∀ a, B a = none → B' a = none) : VR E L0 w st H env σ B' v s := by
  cases h with
  | d h => exact .d h
  | own h1 h2 h3 h4 h5 => exact .own h1 h2 h3 (k _ h4) h5
  | atS h1 h2 h3 h4 => exact .atS h1 h2 h3 h4
  | atF h1 h2 => exact .atF h1 h2
  | par h1 h2 h3 => exact .par h1 h2 h3
  | scr h1 h2 => exact .scr h1 h2
/-- a lock is taken away again -/
theorem SR.unlk (S : SR E w L st H) (f : Fr E (l ++ L) ⟨w, st, H⟩ ⟨w1, st1, H1⟩) (S1 : SR E w1 (l ++ L) st1 H1) (hl : ∀ o ∈ l, ∀ st', o.live st' → o.live st) : SR E w1 L st1 H1 :=
  ⟨S1.len, S1.inj, S1.cell, fun o a h1 h2 h3 => by
    by_cases hm : o ∈ l
    · have h4 := hl o hm st1 h1
      obtain ⟨k1, k2, k3⟩ := f.lk o (List.mem_append.mpr (.inl hm)) h4
      have e := k2.symm.trans h3
      obtain ⟨u, e1, m⟩ := S.ex o a h4 h2 e
      exact ⟨u, (k3 a e).trans e1, m⟩
    · exact S1.ex o a h1 (fun z => by rcases List.mem_append.mp z with z | z; exact hm z; exact h2 z) h3, S1.nd⟩
theorem VR.live (h : VR E L0 w st H env σ B v s) : ∀ o ∈ lockOf s, ∀ st', o.live st' → o.live st := by
  intro o ho st' k
  cases h with
  | d h => simp [lockOf] at ho
  | own h1 h2 h3 h4 h5 => simp [lockOf] at ho
  | atS h1 h2 h3 h4 =>
    simp [lockOf] at ho
    subst ho
    exact k.elim
  | atF h1 h2 =>
    simp [lockOf] at ho
    subst ho
    exact h2
  | par h1 h2 h3 => simp [lockOf] at ho
  | scr h1 h2 => simp [lockOf] at ho
/-! ### what is asked behind -/
def OkR {α β : Type} (E : En) (W : WX) (L : List Ow) (w : Wd) (st : Sto) (σ : L2.St) (H : Hp) (R : Wd → Sto → Hp → β → α → Prop) (Q : β → Hp → Prop) : Out α → Prop
  | .ok a st' => ∀ w' H' b, SR E w' L st' H' → Fr E L ⟨w, st, H⟩ ⟨w', st', H'⟩ → R w' st' H' b a → Q b H'
  | .ex x st' => ∀ w' H' cls d, SR E w' L st' H' → Fr E L ⟨w, st, H⟩ ⟨w', st', H'⟩ → XR E w'.ad H' cls d x → W cls d σ H'
theorem OkR.from {α β : Type} {W : WX} {R R' : Wd → Sto → Hp → β → α → Prop} {Q : β → Hp → Prop} {r : Out α} (h : OkR E W L w st σ H R Q r) (f : Fr E L ⟨w, st, H⟩ ⟨w1, st1, H1⟩) (hR : ∀ w' st' H' b a, R' w' st' H' b a → R w' st' H' b a) : OkR E W L w1 st1 σ H1 R' Q r := by
  cases r with
  | ok a st' => exact fun w' H' b S' f' r' => h w' H' b S' (f.tr f') (hR _ _ _ _ _ r')
  | ex x st' => exact fun w' H' cls d S' f' r' => h w' H' cls d S' (f.tr f') r'
theorem OkR.lk {α β : Type} {W : WX} {R : Wd → Sto → Hp → β → α → Prop} {Q : β → Hp → Prop} {r : Out α} (S : SR E w L st H) (hl : ∀ o ∈ l, ∀ st', o.live st' → o.live st) (h : OkR E W L w st σ H R Q r) : OkR E W (l ++ L) w st σ H R Q r := by
  cases r with
  | ok a st' => exact fun w' H' b S' f' r' => h w' H' b (S.unlk f' S' hl) (f'.less fun o z => List.mem_append.mpr (.inr z)) r'
  | ex x st' => exact fun w' H' cls d S' f' r' => h w' H' cls d (S.unlk f' S' hl) (f'.less fun o z => List.mem_append.mpr (.inr z)) r'
/-- the reading of a piece of code, told by the evaluator -/
def SG {α β : Type} (P : Prog) (n : Nat) (E : En) (xb : XB) (W : WX) (R : List Ow → Wd → Sto → Hp → Env → L2.St → Hp → β → α → Prop) (t : L2.St → Hp → (β → Hp → Prop) → Prop) (e : Cl → Env → Sto → Res α) : Prop :=
  ∀ (L0 L : List Ow) (w : Wd) (env : Env) (st : Sto) (σ : L2.St) (H : Hp), (∀ o ∈ L0, o ∈ L) → SR E w L st H → ER E xb L0 w L st H env σ → ∀ r, e (P.cl (P.call n) L) env st = some r → ∀ Q, OkR E W L w st σ H (fun w' st' H' b a => R L0 w' st' H' env σ H b a) Q r → t σ H Q
abbrev RV (E : En) : List Ow → Wd → Sto → Hp → Env → L2.St → Hp → V → SV → Prop := fun L0 w st H env σ B v s => VR E L0 w st H env σ B v s
abbrev RB : List Ow → Wd → Sto → Hp → Env → L2.St → Hp → Bool → Bool → Prop := fun _ _ _ _ _ _ _ b c => b = c
abbrev SE (P : Prog) (n : Nat) (E : En) (xb : XB) (W : WX) (t : TE) (e : Ex) : Prop := SG P n E xb W (RV E) t (fun c env st => ev c e env st)
abbrev STe (P : Prog) (n : Nat) (E : En) (xb : XB) (W : WX) (t : TT) (e : Tx) : Prop := SG P n E xb W RB t (fun c env st => evT c e env st)
variable {P : Prog} {n : Nat} {W : WX}
theorem sg_go {α β γ δ : Type} {Ra : List Ow → Wd → Sto → Hp → Env → L2.St → Hp → β → α → Prop} {ta : L2.St → Hp → (β → Hp → Prop) → Prop} {fa : Cl → Env → Sto → Res α} {k : α → Sto → Res γ} {r : Out γ} {Rc : Wd → Sto → Hp → δ → γ → Prop} {Q : δ → Hp → Prop} {Qt : β → Hp → Prop}
    (ha : SG P n E xb W Ra ta fa) (h0 : ∀ o ∈ L0, o ∈ L) (S : SR E w L st H) (R : ER E xb L0 w L st H env σ) (h : rb (fa (P.cl (P.call n) L) env st) k = some r) (hQ : OkR E W L w st σ H Rc Q r)
    (hk : ∀ a st1 w1 H1 x, SR E w1 L st1 H1 → ER E xb L0 w1 L st1 H1 env σ → Fr E L ⟨w, st, H⟩ ⟨w1, st1, H1⟩ → Ra L0 w1 st1 H1 env σ H x a → k a st1 = some r → OkR E W L w1 st1 σ H1 Rc Q r → Qt x H1) : ta σ H Qt := by
  cases e : fa (P.cl (P.call n) L) env st with
  | none => rw [e] at h; cases h
  | some o =>
    rw [e] at h
    cases o with
    | ok a st1 => exact ha L0 L w env st σ H h0 S R _ e Qt fun w1 H1 x S1 f1 r1 => hk a st1 w1 H1 x S1 (R.fr S h0 f1) f1 r1 h (hQ.from f1 fun _ _ _ _ _ z => z)
    | ex x st1 =>
      have h' : Out.ex x st1 = r := Option.some.inj h
      subst h'
      exact ha L0 L w env st σ H h0 S R _ e Qt hQ
/-- with further locks -/
theorem sg_golk {α β γ δ : Type} {Ra : List Ow → Wd → Sto → Hp → Env → L2.St → Hp → β → α → Prop} {ta : L2.St → Hp → (β → Hp → Prop) → Prop} {fa : Cl → Env → Sto → Res α} {k : α → Sto → Res γ} {r : Out γ} {Rc : Wd → Sto → Hp → δ → γ → Prop} {Q : δ → Hp → Prop} {Qt : β → Hp → Prop}
    (ha : SG P n E xb W Ra ta fa) (h0 : ∀ o ∈ L0, o ∈ L) (S : SR E w L st H) (R : ER E xb L0 w L st H env σ) (hl : ∀ o ∈ l, ∀ st', o.live st' → o.live st) (h : rb (fa ((P.cl (P.call n) L).lk l) env st) k = some r) (hQ : OkR E W L w st σ H Rc Q r)
    (hk : ∀ a st1 w1 H1 x, SR E w1 L st1 H1 → ER E xb L0 w1 L st1 H1 env σ → Fr E (l ++ L) ⟨w, st, H⟩ ⟨w1, st1, H1⟩ → Ra L0 w1 st1 H1 env σ H x a → k a st1 = some r → OkR E W L w1 st1 σ H1 Rc Q r → Qt x H1) : ta σ H Qt := by
  have hll : ∀ o ∈ L, o ∈ l ++ L := fun o z => List.mem_append.mpr (.inr z)
  have h0' : ∀ o ∈ L0, o ∈ l ++ L := fun o z => hll o (h0 o z)
  have e0 : (P.cl (P.call n) L).lk l = P.cl (P.call n) (l ++ L) := rfl
  rw [e0] at h
  cases e : fa (P.cl (P.call n) (l ++ L)) env st with
  | none => rw [e] at h; cases h
  | some o =>
    rw [e] at h
    cases o with
    | ok a st1 => exact ha L0 (l ++ L) w env st σ H h0' S.lkApp (R.lk hll) _ e Qt fun w1 H1 x S1 f1 r1 => hk a st1 w1 H1 x (S.unlk f1 S1 hl) (R.fr S h0 (f1.less hll)) f1 r1 h (hQ.from (f1.less hll) fun _ _ _ _ _ z => z)
    | ex x st1 =>
      have h' : Out.ex x st1 = r := Option.some.inj h
      subst h'
      exact ha L0 (l ++ L) w env st σ H h0' S.lkApp (R.lk hll) _ e Qt (OkR.lk (R := fun w' st' H' b a => Ra L0 w' st' H' env σ H b a) S hl (r := .ex x st1) (fun w' H' cls d S' f' r' => hQ w' H' cls d S' f' r'))
/-! ### fresh objects -/
theorem tm_lay {K : PySem.W.Frag} {p : Addr} {o : HO} (hp : H p = none) : Tm K H (upd H p o) := fun a xs h => by
  rw [upd_ne (ne_of_none h hp)]; exact h
theorem SR.ne {p : Addr} (S : SR E w L st H) (hp : H p = none) (h : Owd w st a) : a ≠ p := fun z => by
  subst z
  exact S.nowd hp h
theorem CeR.of {k : Nat} {x : Cell} (S : SR E w L st H) (g : Tm E.K H H1) (e : ∀ a, Owd w st a ∨ (∃ o, H a = some o ∧ Okd o) → H1 a = H a) (hk : k < st.length) (ha : w.ad[k]? = some a) (h : CeR E w st H k a x) (hx : st[k]? = some x) : CeR E w st H1 k a x := by
  have ho : Owd w st a := ⟨.c k, hk, ha⟩
  cases x with
  | con x => exact CoR.mono (List.prefix_refl _) g (e a (.inl ho)) h
  | ins C fs =>
    obtain ⟨dx, fv, h1, h2⟩ := h
    refine ⟨dx, fv, (e a (.inl ho)).trans h1, ?_⟩
    clear h1 hx
    induction h2 with
    | nil => exact .nil
    | cons r t ih =>
      refine .cons ?_ ih
      cases r with
      | d r => exact .d (r.mono (List.prefix_refl _) g)
      | c r => exact .c (r.mono (List.prefix_refl _) g (e _ (.inr r.okd)))
      | z r n => exact .z (r.mono (List.prefix_refl _) g (e _ (.inr r.okd))) n
theorem SR.lay {p : Addr} {o : HO} (S : SR E w L st H) (hp : H p = none) : SR E w L st (upd H p o) := by
  refine ⟨S.len, S.inj, fun k x e => ?_, fun q a h1 h2 h3 => ?_, S.nd⟩
  · obtain ⟨a, e1, h⟩ := S.cell k x e
    refine ⟨a, e1, CeR.of S (tm_lay hp) (fun b hb => upd_ne ?_) (List.getElem?_eq_some_iff.mp e).1 e1 h e⟩
    rcases hb with hb | ⟨u, hb, _⟩
    · exact S.ne hp hb
    · exact ne_of_none hb hp
  · obtain ⟨u, e, m⟩ := S.ex q a h1 h2 h3
    exact ⟨u, by rw [upd_ne (ne_of_none e hp)]; exact e, m⟩
theorem zad_lay {p b : Addr} {o : HO} (S : SR E w L st H) (hp : H p = none) (h : Zad w st (upd H p o) b) : Zad w st H b := by
  obtain ⟨k, c', C, fs, c, dx, fv, f, x, m, h1, h2, h3, h4, h5⟩ := h
  have hb : Owd w st c' := ⟨.c k, (List.getElem?_eq_some_iff.mp h1).1, h2⟩
  exact ⟨k, c', C, fs, c, dx, fv, f, x, m, h1, h2, by rw [← h3]; exact (upd_ne (S.ne hp hb)).symm, h4, h5⟩
theorem nozad_lay {p : Addr} {o : HO} (S : SR E w L st H) (hp : H p = none) : ¬ Zad w st (upd H p o) p := fun z => by
  obtain ⟨_, u, e, _⟩ := S.zad (zad_lay S hp z)
  rw [hp] at e
  cases e
theorem Fr.lay {p : Addr} {o : HO} (S : SR E w L' st H) (hp : H p = none) : Fr E L ⟨w, st, H⟩ ⟨w, st, upd H p o⟩ := by
  refine ⟨List.prefix_refl _, tm_lay hp, fun a u e _ => (upd_ne (ne_of_none e hp)).trans e, fun a h => .inl h, fun a h => .inl (zad_lay S hp h), fun a h => ?_, fun q hq hl => ⟨hl, rfl, fun a e => upd_ne (S.ne hp ⟨q, hl, e⟩)⟩⟩
  have h' : upd H p o a = none := h
  unfold upd at h'
  split at h'
  · cases h'
  · exact h'
/-! ### what a value shows -/
theorem VR.lst {xs : List D} (S : SR E w L st H) (h : VR E L0 w st H env σ B v s) (e : cnOf s st = some (.l xs)) : ∃ a vs, v = .ref a ∧ SqL E.K H a vs ∧ RvA E w.ad H vs xs := by
  have go : ∀ {a : Addr}, CoR E w.ad H a (.l xs) → ∃ b vs, V.ref a = .ref b ∧ SqL E.K H b vs ∧ RvA E w.ad H vs xs := fun {a} c => by
    obtain ⟨u, r, q⟩ := c
    cases u <;> try exact q.elim
    exact ⟨_, _, rfl, .inl r.rd, q⟩
  cases h with
  | @d v x r =>
    cases x <;> try (cases e; done)
    rename_i k
    obtain ⟨a, rfl, e2⟩ := r.ref_of
    change (match st[k]? with | some (.con x) => some x | _ => none) = some (.l xs) at e
    split at e
    · rename_i x e3
      cases e
      obtain ⟨b, k1, k2⟩ := S.cell _ _ e3
      rw [e2] at k1
      cases k1
      exact go k2
    · cases e
  | own h1 h2 h3 h4 h5 => cases e; exact go h1
  | atS h1 h2 h3 h4 => cases e; exact go h3
  | atF h1 h2 => cases e; exact go h1
  | par h1 h2 h3 => cases e; exact go h1
  | scr h1 h2 => cases e; exact ⟨_, _, rfl, h1.sq, h2⟩
theorem VR.lstH {xs : List D} (S : SR E w L st H) (h : VR E L0 w st H env σ B v s) (e : cnOf s st = some (.l xs)) (t : trk s = true) : ∃ a vs, v = .ref a ∧ H a = some (.lst vs) ∧ RvA E w.ad H vs xs := by
  have go : ∀ {a : Addr}, CoR E w.ad H a (.l xs) → ∃ b vs, V.ref a = .ref b ∧ H b = some (.lst vs) ∧ RvA E w.ad H vs xs := fun {a} c => by
    obtain ⟨u, r, q⟩ := c
    cases u <;> try exact q.elim
    exact ⟨_, _, rfl, r.lst, q⟩
  cases h with
  | @d v x r =>
    cases x <;> try (cases e; done)
    rename_i k
    obtain ⟨a, rfl, e2⟩ := r.ref_of
    change (match st[k]? with | some (.con x) => some x | _ => none) = some (.l xs) at e
    split at e
    · rename_i x e3
      cases e
      obtain ⟨b, k1, k2⟩ := S.cell _ _ e3
      rw [e2] at k1
      cases k1
      exact go k2
    · cases e
  | own h1 h2 h3 h4 h5 => cases e; exact go h1
  | atS h1 h2 h3 h4 => cases e; exact go h3
  | atF h1 h2 => cases e; exact go h1
  | par h1 h2 h3 => cases e; exact go h1
  | scr h1 h2 => cases t
theorem VR.dic {kvs : List (Key × D)} (S : SR E w L st H) (h : VR E L0 w st H env σ B v s) (e : cnOf s st = some (.m kvs)) : ∃ a ps, v = .ref a ∧ Rd H a (.dK ps) ∧ Rkv E w.ad H ps kvs := by
  have go : ∀ {a : Addr}, CoR E w.ad H a (.m kvs) → ∃ b ps, V.ref a = .ref b ∧ Rd H b (.dK ps) ∧ Rkv E w.ad H ps kvs := fun {a} c => by
    obtain ⟨u, r, q⟩ := c
    cases u <;> try exact q.elim
    exact ⟨_, _, rfl, r.rd, q⟩
  cases h with
  | @d v x r =>
    cases x <;> try (cases e; done)
    rename_i k
    obtain ⟨a, rfl, e2⟩ := r.ref_of
    change (match st[k]? with | some (.con x) => some x | _ => none) = some (.m kvs) at e
    split at e
    · rename_i x e3
      cases e
      obtain ⟨b, k1, k2⟩ := S.cell _ _ e3
      rw [e2] at k1
      cases k1
      exact go k2
    · cases e
  | own h1 h2 h3 h4 h5 => cases e; exact go h1
  | atS h1 h2 h3 h4 => cases e; exact go h3
  | atF h1 h2 => cases e; exact go h1
  | par h1 h2 h3 => cases e; exact go h1
  | scr h1 h2 => cases e
theorem VR.dit {kvs : List (List Key × D)} (S : SR E w L st H) (h : VR E L0 w st H env σ B v s) (e : cnOf s st = some (.t kvs)) : ∃ a ps, v = .ref a ∧ Rd H a (.dT ps) ∧ Rkv E w.ad H ps kvs := by
  have go : ∀ {a : Addr}, CoR E w.ad H a (.t kvs) → ∃ b ps, V.ref a = .ref b ∧ Rd H b (.dT ps) ∧ Rkv E w.ad H ps kvs := fun {a} c => by
    obtain ⟨u, r, q⟩ := c
    cases u <;> try exact q.elim
    exact ⟨_, _, rfl, r.rd, q⟩
  cases h with
  | @d v x r =>
    cases x <;> try (cases e; done)
    rename_i k
    obtain ⟨a, rfl, e2⟩ := r.ref_of
    change (match st[k]? with | some (.con x) => some x | _ => none) = some (.t kvs) at e
    split at e
    · rename_i x e3
      cases e
      obtain ⟨b, k1, k2⟩ := S.cell _ _ e3
      rw [e2] at k1
      cases k1
      exact go k2
    · cases e
  | own h1 h2 h3 h4 h5 => cases e; exact go h1
  | atS h1 h2 h3 h4 => cases e; exact go h3
  | atF h1 h2 => cases e; exact go h1
  | par h1 h2 h3 => cases e; exact go h1
  | scr h1 h2 => cases e
theorem VR.tup {xs : List D} (h : VR E L0 w st H env σ B v (.d (.tup xs))) : ∃ a vs, v = .ref a ∧ TuR E H a vs xs ∧ RvA E w.ad H vs xs := by
  cases h with
  | d r => exact r.tup_of
theorem VR.dd {x : D} (h : VR E L0 w st H env σ B v (.d x)) : Rv E w.ad H v x := by cases h with | d r => exact r
theorem VR.int {i : Int} (h : VR E L0 w st H env σ B v (.d (.int i))) : v = .int i := h.dd.int_of
theorem VR.bl {i : Bool} (h : VR E L0 w st H env σ B v (.d (.bl i))) : v = .bl i := h.dd.bl_of
theorem VR.str {i : Str} (h : VR E L0 w st H env σ B v (.d (.str i))) : v = .str i := h.dd.str_of
theorem VR.non (h : VR E L0 w st H env σ B v (.d .non)) : v = .non := h.dd.non_of
end
end Tv

namespace Tv
open PySem L2
/-! ### rows of values -/
def OwnIn (a : Addr) (vs : List V) (ss : List SV) : Prop := ∃ (i : Nat) (x : Cn), vs[i]? = some (.ref a) ∧ ss[i]? = some (.c .own x)
inductive VRs (E : En) (L0 : List Ow) (w : Wd) (st : Sto) (H : Hp) (env : Env) (σ : L2.St) (B : Hp) : List V → List SV → Prop
  | nil : VRs E L0 w st H env σ B [] []
  | cons {v : V} {s : SV} {vs : List V} {ss : List SV} : VR E L0 w st H env σ B v s → VRs E L0 w st H env σ B vs ss → (∀ a x, v = .ref a → s = .c .own x → ¬ OwnIn a vs ss) → VRs E L0 w st H env σ B (v :: vs) (s :: ss)
abbrev RVs (E : En) : List Ow → Wd → Sto → Hp → Env → L2.St → Hp → List V → List SV → Prop := fun L0 w st H env σ B v s => VRs E L0 w st H env σ B v s
abbrev SA (P : Prog) (n : Nat) (E : En) (xb : XB) (W : WX) (t : TA) (es : Exs) : Prop := SG P n E xb W (RVs E) t (fun c env st => evs c es env st)
structure CE (X : Cx) (P : Prog) (n : Nat) (E : En) (xb : XB) (W : WX) (pe : Expr) (e : Ex) : Prop where
  ex : ∃ t, PE X pe t ∧ SE P n E xb W t e
structure CT (X : Cx) (P : Prog) (n : Nat) (E : En) (xb : XB) (W : WX) (pe : Expr) (e : Tx) : Prop where
  ex : ∃ t, PT X pe t ∧ STe P n E xb W t e
structure CW (X : Cx) (P : Prog) (n : Nat) (E : En) (xb : XB) (W : WX) (pe : Expr) (e : Tx) : Prop where
  ex : ∃ t, PW X pe t ∧ STe P n E xb W t e
structure CA (X : Cx) (P : Prog) (n : Nat) (E : En) (xb : XB) (W : WX) (pe : List Expr) (e : Exs) : Prop where
  ex : ∃ t, PA X pe t ∧ SA P n E xb W t e
section
variable {E : En} {xb : XB} {w w1 w2 : Wd} {L0 L L' l : List Ow} {st st1 st2 : Sto} {H H1 H2 B B' : Hp} {env : Env} {σ : L2.St} {v : V} {s : SV} {vs : List V} {ss : List SV} {j : Nat} {a : Addr} {P : Prog} {n : Nat} {W : WX}
theorem VRs.base (h : VRs E L0 w st H env σ B vs ss) (k : ∀ a, B a = none → B' a = none) : VRs E L0 w st H env σ B' vs ss := by
  induction h with
  | nil => exact .nil
  | cons h t d ih => exact .cons (h.base k) ih d
theorem VRs.own (h : VRs E L0 w st H env σ B vs ss) (o : OwnIn a vs ss) : B a = none := by
  obtain ⟨i, x, h1, h2⟩ := o
  induction h generalizing i with
  | nil => simp at h1
  | cons h t d ih =>
    cases i with
    | zero =>
      simp at h1 h2
      subst h1 h2
      cases h with
      | own _ _ _ k _ => exact k
    | succ i => exact ih i (by simpa using h1) (by simpa using h2)
theorem VRs.length (h : VRs E L0 w st H env σ B vs ss) : vs.length = ss.length := by
  induction h with
  | nil => rfl
  | cons h t d ih => rw [List.length_cons, List.length_cons, ih]
theorem sa_nil : SA P n E xb W tNil .nil := fun L0 L w env st σ H h0 S R r e Q hQ => by
  have e' : some (Out.ok [] st) = some r := e
  cases e'
  exact hQ w H [] S (Fr.rfl' _) .nil
theorem sa_cons {te : TE} {ta : TA} {e : Ex} {es : Exs} (he : SE P n E xb W te e) (hes : SA P n E xb W ta es) : SA P n E xb W (tCons te ta) (.cons e es) := by
  intro L0 L w env st σ H h0 S R r h Q hQ
  show te σ H fun x H1 => ta σ H1 fun xs H2 => Q (x :: xs) H2
  refine sg_go he h0 S R h hQ fun u st1 w1 H1 x S1 R1 f1 v1 h hQ => ?_
  refine sg_golk hes h0 S1 R1 v1.live h hQ fun us st2 w2 H2 xs S2 R2 f2 v2 h hQ => ?_
  have e' : some (Out.ok (u :: us) st2) = some r := h
  cases e'
  refine hQ w2 H2 (x :: xs) S2 (Fr.rfl' _) (.cons (v1.fr f2 (fun o z => List.mem_append.mpr (.inr (h0 o z))) (fun o z => List.mem_append.mpr (.inl z))) (v2.base f1.dom) fun a y e1 e2 k => ?_)
  subst e1 e2
  have h1 := v2.own k
  cases v1 with
  | own k1 _ _ _ _ => obtain ⟨o, k2⟩ := k1.has; have h1' : H1 a = none := h1; rw [k2] at h1'; cases h1'
/-! ### operators, by values -/
def OpS (E : En) (r : R2) (f : SV → SV → Sto → Res SV) : Prop := ∀ (L0 L : List Ow) (w : Wd) (env : Env) (st : Sto) (σ : L2.St) (H : Hp) (xb : XB) (x y : V) (u v : SV) (B B' : Hp), SR E w L st H → ER E xb L0 w L st H env σ → VR E L0 w st H env σ B x u → VR E L0 w st H env σ B' y v →
  ∀ r', f u v st = some r' → ∀ (W : WX) (Q : VK), OkR E W L w st σ H (fun w' st' H' b a => VR E L0 w' st' H' env σ H b a) Q r' → r x y H Q
theorem se_op {r : R2} {f : SV → SV → Sto → Res SV} {ta tb : TE} {e a b : Ex} (hf : OpS E r f) (ha : SE P n E xb W ta a) (hb : SE P n E xb W tb b)
    (he : ∀ c env st, ev c e env st = rb (ev c a env st) fun u st => rb (ev (c.lk (lockOf u)) b env st) fun w st => f u w st) : SE P n E xb W (tOp r ta tb) e := by
  intro L0 L w env st σ H h0 S R r' h Q hQ
  have h := (he _ _ _).symm.trans h
  show ta σ H fun x H1 => tb σ H1 fun y H2 => r x y H2 Q
  refine sg_go ha h0 S R h hQ fun u st1 w1 H1 x S1 R1 f1 v1 h hQ1 => ?_
  refine sg_golk hb h0 S1 R1 v1.live h hQ1 fun u2 st2 w2 H2 y S2 R2 f2 v2 h hQ2 => ?_
  refine hf L0 L w2 env st2 σ H2 xb x y u u2 H H1 S2 R2 (v1.fr f2 (fun o z => List.mem_append.mpr (.inr (h0 o z))) (fun o z => List.mem_append.mpr (.inl z))) v2 _ h W Q ?_
  exact hQ2.from (Fr.rfl' _) fun w' st' H' b a z => z.base fun p q => f1.dom p (f2.dom p q)
theorem ok_inj {α : Type} {a : α} {st : Sto} {r : Out α} (h : ok a st = some r) : r = .ok a st := (Option.some.inj h).symm
/-- an answer that is there at once -/
theorem okr_now {α β : Type} {R : Wd → Sto → Hp → β → α → Prop} {Q : β → Hp → Prop} {a : α} {b : β} (hQ : OkR E W L w st σ H R Q (.ok a st)) (S : SR E w L st H) (h : R w st H b a) : Q b H := hQ w H b S (Fr.rfl' _) h
theorem okr_lay {β : Type} {R : Wd → Sto → Hp → β → SV → Prop} {Q : β → Hp → Prop} {x : SV} {b : β} {p : Addr} {o : HO} (hQ : OkR E W L w st σ H R Q (.ok x st)) (S : SR E w L st H) (hp : H p = none) (h : R w st (upd H p o) b x) : Q b (upd H p o) := hQ w _ b (S.lay hp) (Fr.lay S hp) h
theorem vr_new {xs : List D} {p : Addr} (S : SR E w L st H) (hp : H p = none) (h : RvA E w.ad H vs xs) : VR E L0 w st (upd H p (.lst vs)) env σ H (.ref p) (.c .own (.l xs)) :=
  .own ⟨_, .inl upd_same, h.mono (List.prefix_refl _) (tm_lay hp)⟩ ⟨_, upd_same, trivial⟩ (S.nowd hp) hp (nozad_lay S hp)
theorem vr_tup {xs : List D} {p : Addr} (hp : H p = none) (h : RvA E w.ad H vs xs) : VR E L0 w st (upd H p (.tup vs)) env σ B (.ref p) (.d (.tup xs)) :=
  .d (.tup (.inl upd_same) (h.mono (List.prefix_refl _) (tm_lay hp)))
theorem op_int {r : R2} {f : SV → SV → Sto → Res SV} {g : Int → Int → Option D}
    (hf : ∀ u v st r', f u v st = some r' → ∃ i j d, u = .d (.int i) ∧ v = .d (.int j) ∧ g i j = some d ∧ r' = .ok (.d d) st)
    (hr : ∀ i j d, g i j = some d → ∀ (E : En) (ad : List Addr) (H : Hp) (Q : VK), (∀ w, Rv E ad H w d → Q w H) → r (.int i) (.int j) H Q) : OpS E r f := by
  intro L0 L w env st σ H xb x y u v B B' S R hx hy r' h W Q hQ
  obtain ⟨i, j, d, rfl, rfl, hg, rfl⟩ := hf u v st r' h
  rw [hx.int, hy.int]
  exact hr i j d hg E w.ad H Q fun z hz => okr_now hQ S (.d hz)
def rAddX (K : PySem.W.Frag) : R2 := fun x y H Q => rI0 (fun i j => .int (i + j)) x y H Q ∨ rCatA K x y H Q ∨ rCat x y H Q ∨ ∃ i j, x = .str i ∧ y = .str j ∧ i.length + j.length ≤ sizeLine ∧ Q (.str (i ++ j)) H
end
end Tv

namespace Tv
open PySem L2
section
variable {E : En} {xb : XB} {w w1 w2 : Wd} {L0 L L' l : List Ow} {st st1 st2 : Sto} {H H1 H2 B B' : Hp} {env : Env} {σ : L2.St} {v : V} {s : SV} {vs : List V} {ss : List SV} {j : Nat} {a : Addr} {P : Prog} {n : Nat} {W : WX} {X : Cx}
theorem bin_ints {o : Bo} {u v : SV} {r : Out SV} (ho : o ≠ .add) (h : bin o u v st = some r) : ∃ i j, u = .d (.int i) ∧ v = .d (.int j) := by
  unfold bin at h
  split at h <;> first | exact ⟨_, _, rfl, rfl⟩ | exact absurd rfl ho | cases h
theorem os_ints {o : Bo} {r : R2} (ho : o ≠ .add) (hr : ∀ i j st r', bin o (.d (.int i)) (.d (.int j)) st = some r' → ∃ k, r' = .ok (.d (.int k)) st ∧ ∀ (H : Hp) (Q : VK), Q (.int k) H → r (.int i) (.int j) H Q) : OpS E r (bin o) := by
  intro L0 L w env st σ H xb x y u v B B' S R hx hy r' h W Q hQ
  obtain ⟨i, j, rfl, rfl⟩ := bin_ints ho h
  obtain ⟨k, rfl, hk⟩ := hr i j st r' h
  rw [hx.int, hy.int]
  exact hk H Q (okr_now hQ S (.d (.int k)))
theorem os_sub : OpS E (rI0 fun i j => .int (i - j)) (bin .sub) := os_ints (by decide) fun i j st r' h => by
  cases ok_inj h
  exact ⟨_, rfl, fun H Q q => ⟨i, j, rfl, rfl, q⟩⟩
theorem op_orI {f : Value → Value → Sem Value} {r r' : R2} (h : OpR X f r) (h' : OpR X f r') : OpR X f (fun x y H Q => r x y H Q ∨ r' x y H Q) := by
  intro pins s σ H x y v u Q I rx ry q
  rcases q with q | q
  · exact h pins s σ H x y v u Q I rx ry q
  · exact h' pins s σ H x y v u Q I rx ry q
def rMulX : R2 := fun x y H Q => rI CMul (fun i j => .int (i * j)) x y H Q ∨ rI CMulW (fun i j => .int (i * j)) x y H Q
theorem os_mul : OpS E rMulX (bin .mul) := os_ints (by decide) fun i j st r' h => by
  have h' : (if mulOk i j then ok (SV.d (.int (i * j))) st else none) = some r' := h
  split at h'
  · rename_i hm
    cases ok_inj h'
    refine ⟨_, rfl, fun H Q q => ?_⟩
    unfold mulOk at hm
    simp only [Bool.or_eq_true, Bool.and_eq_true, decide_eq_true_eq] at hm
    rcases hm with hm | hm | hm
    · exact .inl ⟨i, j, rfl, rfl, .inl hm, q⟩
    · exact .inl ⟨i, j, rfl, rfl, .inr hm, q⟩
    · exact .inr ⟨i, j, rfl, rfl, hm, q⟩
  · cases h'
theorem o_mul : OpR X (binaryOp .Mult) rMulX := op_orI op_mul op_mulW
theorem os_div : OpS E (rI CDivW fun i j => .int (i / j)) (bin .div) := os_ints (by decide) fun i j st r' h => by
  have h' : (if divOk j then ok (SV.d (.int (i / j))) st else none) = some r' := h
  split at h'
  · rename_i hm
    cases ok_inj h'
    unfold divOk at hm
    simp only [Bool.and_eq_true, decide_eq_true_eq] at hm
    exact ⟨_, rfl, fun H Q q => ⟨i, j, rfl, rfl, hm, q⟩⟩
  · cases h'
theorem os_mod : OpS E (rI (fun _ j => 0 < j) fun i j => .int (i % j)) (bin .mod) := os_ints (by decide) fun i j st r' h => by
  have h' : (if 0 < j then ok (SV.d (.int (i % j))) st else none) = some r' := h
  split at h'
  · rename_i hm
    cases ok_inj h'
    exact ⟨_, rfl, fun H Q q => ⟨i, j, rfl, rfl, hm, q⟩⟩
  · cases h'
theorem os_pow : OpS E (rI CPow fun i j => .int (i ^ j.toNat)) (bin .pow) := os_ints (by decide) fun i j st r' h => by
  have h' : (if powOk i j then ok (SV.d (.int (i ^ j.toNat))) st else none) = some r' := h
  split at h'
  · rename_i hm
    cases ok_inj h'
    unfold powOk at hm
    simp only [Bool.and_eq_true, decide_eq_true_eq] at hm
    exact ⟨_, rfl, fun H Q q => ⟨i, j, rfl, rfl, hm, q⟩⟩
  · cases h'
theorem rva_nil {ad : List Addr} {xs : List D} (h : RvA E ad H [] xs) : xs = [] := by cases h; rfl
theorem os_add : OpS E (rAddX E.K) (bin .add) := by
  intro L0 L w env st σ H xb x y u v B B' S R hx hy r' h W Q hQ
  unfold bin at h
  split at h
  · cases ok_inj h
    rw [hx.int, hy.int]
    exact .inl ⟨_, _, rfl, rfl, okr_now hQ S (.d (.int _))⟩
  all_goals try (rename_i he; cases he; done)
  all_goals try (cases h; done)
  all_goals try (rename_i he _ _; cases he; done)
  · split at h
    · cases ok_inj h
      rw [hx.str, hy.str]
      exact .inr (.inr (.inr ⟨_, _, rfl, rfl, by assumption, okr_now hQ S (.d (.str _))⟩))
    · cases h
  · rename_i xs ys
    split at h
    · rename_i hl
      cases ok_inj h
      obtain ⟨a, vs, rfl, h1, h2⟩ := hx.tup
      obtain ⟨b, us, rfl, h3, h4⟩ := hy.tup
      refine .inr (.inl ⟨a, b, vs, us, rfl, rfl, h1.sq, h3.sq, by rw [h2.length, h4.length]; exact hl, fun e => ?_, fun e1 e2 => ?_, fun _ _ p hp => ?_⟩)
      · subst e
        have e := rva_nil h2
        subst e
        exact okr_now hQ S (.d (.tup h3 h4))
      · subst e2
        have e := rva_nil h4
        subst e
        rw [List.append_nil] at hQ
        exact okr_now hQ S (.d (.tup h1 h2))
      · exact okr_lay hQ S hp (vr_tup hp (h2.app h4))
    · cases h
  · split at h
    · rename_i e1 e2
      split at h
      · rename_i hc
        cases ok_inj h
        simp only [Bool.and_eq_true, decide_eq_true_eq] at hc
        obtain ⟨a, vs, rfl, h1, h2⟩ := hx.lstH S e1 hc.1.1
        obtain ⟨b, us, rfl, h3, h4⟩ := hy.lstH S e2 hc.1.2
        refine .inr (.inr (.inl ⟨a, b, vs, us, rfl, rfl, h1, h3, by rw [h2.length, h4.length]; exact hc.2, fun p hp => ?_⟩))
        exact okr_lay hQ S hp (vr_new S hp (h2.app h4))
      · cases h
    · cases h
theorem o_add : OpR X (binaryOp .Add) (rAddX X.K) := op_orI op_add (op_orI op_catA (op_orI op_cat op_add_str))
/-! ### comparisons -/
def cmpF (kt : List (List D)) (o : Co) : SV → SV → Sto → Res SV := fun u w st => match cmp kt o u w st with
  | some b => ok (.d (.bl b)) st
  | none => none
theorem cmpF_inv {kt : List (List D)} {o : Co} {u v : SV} {r : Out SV} (h : cmpF kt o u v st = some r) : ∃ b, cmp kt o u v st = some b ∧ r = .ok (.d (.bl b)) st := by
  unfold cmpF at h
  split at h
  · rename_i b e
    exact ⟨b, e, ok_inj h⟩
  · cases h
theorem os_cmp {kt : List (List D)} {o : Co} {r : R2} (hr : ∀ (L0 L : List Ow) (w : Wd) (env : Env) (st : Sto) (σ : L2.St) (H : Hp) (x y : V) (u v : SV) (B B' : Hp) (b : Bool), SR E w L st H → VR E L0 w st H env σ B x u → VR E L0 w st H env σ B' y v → cmp kt o u v st = some b → ∀ Q : VK, Q (.bl b) H → r x y H Q) : OpS E r (cmpF kt o) := by
  intro L0 L w env st σ H xb x y u v B B' S R hx hy r' h W Q hQ
  obtain ⟨b, e, rfl⟩ := cmpF_inv h
  exact hr L0 L w env st σ H x y u v B B' b S hx hy e Q (okr_now hQ S (.d (.bl b)))
theorem cmp_ints {kt : List (List D)} {o : Co} {u v : SV} {b : Bool} (ho : o = .lt ∨ o = .le ∨ o = .gt ∨ o = .ge) (h : cmp kt o u v st = some b) : ∃ i j, u = .d (.int i) ∧ v = .d (.int j) := by
  unfold cmp at h
  rcases ho with rfl | rfl | rfl | rfl <;> (simp only at h; split at h; exact ⟨_, _, rfl, rfl⟩; cases h)
theorem os_lt {kt : List (List D)} : OpS E (rI0 fun i j => .bl (decide (i < j))) (cmpF kt .lt) := os_cmp fun L0 L w env st σ H x y u v B B' b S hx hy h Q q => by
  obtain ⟨i, j, rfl, rfl⟩ := cmp_ints (.inl rfl) h
  cases h
  exact ⟨i, j, hx.int, hy.int, q⟩
theorem os_le {kt : List (List D)} : OpS E (rI0 fun i j => .bl (decide (i ≤ j))) (cmpF kt .le) := os_cmp fun L0 L w env st σ H x y u v B B' b S hx hy h Q q => by
  obtain ⟨i, j, rfl, rfl⟩ := cmp_ints (.inr (.inl rfl)) h
  cases h
  exact ⟨i, j, hx.int, hy.int, q⟩
theorem os_gt {kt : List (List D)} : OpS E (rI0 fun i j => .bl (decide (j < i))) (cmpF kt .gt) := os_cmp fun L0 L w env st σ H x y u v B B' b S hx hy h Q q => by
  obtain ⟨i, j, rfl, rfl⟩ := cmp_ints (.inr (.inr (.inl rfl))) h
  cases h
  exact ⟨i, j, hx.int, hy.int, q⟩
theorem os_ge {kt : List (List D)} : OpS E (rI0 fun i j => .bl (decide (j ≤ i))) (cmpF kt .ge) := os_cmp fun L0 L w env st σ H x y u v B B' b S hx hy h Q q => by
  obtain ⟨i, j, rfl, rfl⟩ := cmp_ints (.inr (.inr (.inr rfl))) h
  cases h
  exact ⟨i, j, hx.int, hy.int, q⟩
/-! equality of data -/
mutual
theorem dp_lookW {g : Nat → Option PyData} {ad : List Addr} (G : ∀ k a d, ad[k]? = some a → g k = some d → Dp E.K H (.ref a) d) : ∀ {x : D} {v : V} {d : PyData}, Rv E ad H v x → D.lookW g x = some d → Dp E.K H v d
  | .non, v, d, r, h => by cases r; cases (show some PyData.none = some d from h); exact .non
  | .bl b, v, d, r, h => by cases r; cases (show some (PyData.bool b) = some d from h); exact .bl b
  | .int i, v, d, r, h => by cases r; cases (show some (PyData.int i) = some d from h); exact .int i
  | .str s, v, d, r, h => by cases r; cases (show some (PyData.str s) = some d from h); exact .str s
  | .tup xs, v, d, r, h => by
    obtain ⟨a, vs, rfl, h1, h2⟩ := r.tup_of
    have h' : (D.looksW g xs).map PyData.tuple = some d := h
    cases e : D.looksW g xs with
    | none => rw [e] at h'; cases h'
    | some ds =>
      rw [e] at h'
      cases h'
      exact .tup h1.sq (dp_looksW G h2 e)
  | .ref k, v, d, r, h => by
    obtain ⟨a, rfl, e⟩ := r.ref_of
    exact G k a d e h
  | .fn f, v, d, r, h => by cases h
theorem dp_looksW {g : Nat → Option PyData} {ad : List Addr} (G : ∀ k a d, ad[k]? = some a → g k = some d → Dp E.K H (.ref a) d) : ∀ {xs : List D} {vs : List V} {ds : List PyData}, RvA E ad H vs xs → D.looksW g xs = some ds → DpAll E.K H vs ds
  | [], vs, ds, r, h => by cases r; cases (show some ([] : List PyData) = some ds from h); exact .nil
  | x :: xs, vs, ds, r, h => by
    cases r with
    | cons r1 r2 =>
      have h' : (match D.lookW g x, D.looksW g xs with | some d, some ds => some (d :: ds) | _, _ => none) = some ds := h
      split at h'
      · rename_i d ds' e1 e2
        cases h'
        exact .cons (dp_lookW G r1 e1) (dp_looksW G r2 e2)
      · cases h'
end
theorem dp_ref (S : SR E w L st H) : ∀ (n k : Nat) (a : Addr) (d : PyData), w.ad[k]? = some a → refAt st n k = some d → Dp E.K H (.ref a) d
  | 0, k, a, d, e, h => by cases h
  | n + 1, k, a, d, e, h => by
    have h' : (match st[k]? with | some (.con (.l xs)) => (D.looksW (refAt st n) xs).map PyData.list | _ => none) = some d := h
    split at h'
    · rename_i xs e2
      obtain ⟨b, k1, k2⟩ := S.cell _ _ e2
      rw [e] at k1
      cases k1
      obtain ⟨u, q1, q2⟩ := (show CoR E w.ad H a (.l xs) from k2)
      cases u <;> try exact q2.elim
      cases e3 : D.looksW (refAt st n) xs with
      | none => rw [e3] at h'; cases h'
      | some ds =>
        rw [e3] at h'
        cases h'
        exact .lst (.inl q1.rd) (dp_looksW (dp_ref S n) q2 e3)
    · cases h'
theorem dp_look (S : SR E w L st H) {n : Nat} {x : D} {v : V} {d : PyData} (r : Rv E w.ad H v x) (h : D.look st n x = some d) : Dp E.K H v d := dp_lookW (dp_ref S n) r h
theorem dp_looks (S : SR E w L st H) {n : Nat} {xs : List D} {vs : List V} {ds : List PyData} (r : RvA E w.ad H vs xs) (h : D.looks st n xs = some ds) : DpAll E.K H vs ds := dp_looksW (dp_ref S n) r h
theorem shp_inv {o : Option PyData} {d : PyData} (h : shp? o = some d) : o = some d ∧ SeqAt.shaped d = true := by
  unfold shp? at h
  split at h
  · split at h
    · cases h; exact ⟨rfl, by assumption⟩
    · cases h
  · cases h
theorem dp_pyD (S : SR E w L st H) {x : D} {v : V} {d : PyData} (r : Rv E w.ad H v x) (h : pyD st x = some d) : Dp E.K H v d ∧ SeqAt.shaped d = true := by
  obtain ⟨h1, h2⟩ := shp_inv h
  exact ⟨dp_look S r h1, h2⟩
theorem dp_pyL (S : SR E w L st H) {xs : List D} {d : PyData} (q : SqL E.K H a vs) (r : RvA E w.ad H vs xs) (h : pyL st xs = some d) : Dp E.K H (.ref a) d ∧ SeqAt.shaped d = true := by
  obtain ⟨h1, h2⟩ := shp_inv h
  refine ⟨?_, h2⟩
  cases e : D.looks st depthL xs with
  | none => rw [e] at h1; cases h1
  | some ds =>
    rw [e] at h1
    cases h1
    exact .lst q (dp_looks S r e)
theorem dp_pyS (S : SR E w L st H) {d : PyData} (r : VR E L0 w st H env σ B v s) (h : pyS st s = some d) : Dp E.K H v d ∧ SeqAt.shaped d = true := by
  unfold pyS at h
  split at h
  · exact dp_pyD S r.dd h
  · obtain ⟨a, vs, rfl, q1, q2⟩ := r.lst S rfl
    exact dp_pyL S q1 q2 h
  · cases h
/-- dicts of flat values that are equal -/
def EqM (x y : V) (H : Hp) : Prop := ∃ a b ks ls, x = .ref a ∧ y = .ref b ∧ Rd H a (.dK ks) ∧ Rd H b (.dK ls) ∧ ks.length = ls.length ∧ ∀ p ∈ ks, valV ls p.1 = some p.2 ∧ flatB p.2 = true
theorem dict_at2 {X : Cx} {pins : List (Addr × Obj)} {σ : L2.St} {H : Hp} {s : Shared} {a : Addr} {ks : List (Key × V)} (I : Inv X pins σ H s) (h : Rd H a (.dK ks)) :
    (a == sysModules) = false ∧ ∃ va : List (Key × Value), KV ks va ∧ s.heap.DictOf (mixKind X.prog X.w) a va := by
  rcases h with h | ⟨o, h⟩
  · obtain ⟨_, z, va, ra, d⟩ := (show ObjOk X.prog X.w H s.heap a (.dK ks) from I.hok a _ h)
    exact ⟨z, va, ra, d⟩
  · obtain ⟨_, _, z, va, ra, d⟩ := (show ObjOk X.prog X.w H s.heap a (.frz o (.dK ks)) from I.hok a _ h)
    exact ⟨z, va, ra, d⟩
def rEqX (K : PySem.W.Frag) : R2 := fun x y H Q => rEq x y H Q ∨ rEqD K x y H Q ∨ EqM x y H ∧ Q (.bl true) H
def rNeX (K : PySem.W.Frag) : R2 := fun x y H Q => rNe x y H Q ∨ rNeD K x y H Q ∨ EqM x y H ∧ Q (.bl false) H
theorem op_eqM {X : Cx} (hu : X.A.units < cLine) : OpR X (compareOp .Eq) (fun x y H Q => EqM x y H ∧ Q (.bl true) H) := by
  intro pins s σ H x y v u Q I rx ry h
  obtain ⟨⟨a, b, ks, ls, rfl, rfl, ea, eb, hlen, hp⟩, q⟩ := h
  obtain rfl : v = Value.ref a := rx
  obtain rfl : u = Value.ref b := ry
  obtain ⟨ya, va, ra, da⟩ := dict_at2 I ea
  obtain ⟨yb, vb, rb, db⟩ := dict_at2 I eb
  have hl : va.length = vb.length := by rw [← ra.length, ← rb.length]; exact hlen
  exact PySem.W.keq_eq (knd := mixKind X.prog X.w) (r := true) ya yb da db hu (fun _ => hits_all rb ra hp) (fin_bl I q (by simp [hl]))
theorem op_neM {X : Cx} (hu : X.A.units < cLine) : OpR X (compareOp .NotEq) (fun x y H Q => EqM x y H ∧ Q (.bl false) H) := by
  intro pins s σ H x y v u Q I rx ry h
  obtain ⟨⟨a, b, ks, ls, rfl, rfl, ea, eb, hlen, hp⟩, q⟩ := h
  obtain rfl : v = Value.ref a := rx
  obtain rfl : u = Value.ref b := ry
  obtain ⟨ya, va, ra, da⟩ := dict_at2 I ea
  obtain ⟨yb, vb, rb, db⟩ := dict_at2 I eb
  have hl : va.length = vb.length := by rw [← ra.length, ← rb.length]; exact hlen
  exact PySem.W.keq_ne (knd := mixKind X.prog X.w) (r := true) ya yb da db hu (fun _ => hits_all rb ra hp) (fin_bl I q (by simp [hl]))
theorem o_eq {X : Cx} (hu : X.A.units + 64 < cLine) : OpR X (compareOp .Eq) (rEqX X.K) := op_orI op_eq (op_orI (op_eqD hu) (op_eqM (by omega)))
theorem o_ne {X : Cx} (hu : X.A.units + 64 < cLine) : OpR X (compareOp .NotEq) (rNeX X.K) := op_orI op_ne (op_orI (op_neD hu) (op_neM (by omega)))
theorem dec_int {i j : Int} : decide (V.int i = V.int j) = decide (i = j) := by
  by_cases h : i = j
  · subst h; simp
  · have : ¬ (V.int i = V.int j) := fun z => h (by cases z; rfl)
    rw [decide_eq_false h, decide_eq_false this]
theorem dec_bl {i j : Bool} : decide (V.bl i = V.bl j) = decide (i = j) := by cases i <;> cases j <;> rfl
theorem dec_str {i j : Str} : decide (V.str i = V.str j) = decide (i = j) := by
  by_cases h : i = j
  · subst h; simp
  · have : ¬ (V.str i = V.str j) := fun z => h (by cases z; rfl)
    rw [decide_eq_false h, decide_eq_false this]
theorem rva_find {w : Wd} {k : Key} {y : D} : ∀ {ps : List (Key × V)} {kvs : List (Key × D)}, ps.map (·.1) = kvs.map (·.1) → RvA E w.ad H (ps.map (·.2)) (kvs.map (·.2)) → lookK kvs k = some y → ∃ v, valV ps k = some v ∧ Rv E w.ad H v y
  | [], [], _, _, e => by cases e
  | [], q :: kvs, h, _, _ => by cases h
  | p :: ps, [], h, _, _ => by cases h
  | p :: ps, q :: kvs, h1, h2, e => by
    rw [List.map_cons, List.map_cons, List.cons.injEq] at h1
    rw [List.map_cons, List.map_cons] at h2
    cases h2 with
    | cons r t =>
      by_cases hk : q.1 = k
      · have e' : lookK (q :: kvs) k = some q.2 := by simp [lookK, List.find?_cons, hk]
        rw [e'] at e
        cases e
        exact ⟨_, valV_pos (h1.1.trans hk), r⟩
      · have e' : lookK (q :: kvs) k = lookK kvs k := by simp [lookK, List.find?_cons, hk]
        rw [e'] at e
        obtain ⟨v, a1, a2⟩ := rva_find h1.2 t e
        refine ⟨v, ?_, a2⟩
        have hk' : ¬ p.1 = k := fun z => hk (h1.1.symm.trans z)
        show ((p :: ps).find? fun kv => decide (kv.1 = k)).map (·.2) = some v
        rw [List.find?_cons, decide_eq_false hk']
        exact a1
theorem rv_flat {w : Wd} {v u : V} {y : D} (h : Rv E w.ad H v y) (h2 : Rv E w.ad H u y) (hf : y.flat = true) : u = v ∧ flatB v = true := by
  cases h <;> cases h2 <;> first | exact ⟨rfl, rfl⟩ | cases hf
theorem eqM_sound (S : SR E w L st H) {x y : V} {u v : SV} {b : Bool} (hx : VR E L0 w st H env σ B x u) (hy : VR E L0 w st H env σ B' y v) (h : eqM (cnOf u st) (cnOf v st) = some b) : EqM x y H ∧ b = true := by
  unfold eqM at h
  split at h
  · rename_i ks ls e1 e2
    split at h
    · rename_i hc
      cases h
      refine ⟨?_, rfl⟩
      rw [Bool.and_eq_true, decide_eq_true_eq] at hc
      obtain ⟨a, ps, rfl, a1, a2⟩ := hx.dic S e1
      obtain ⟨c, qs, rfl, c1, c2⟩ := hy.dic S e2
      refine ⟨a, c, ps, qs, rfl, rfl, a1, c1, ?_, fun p hp => ?_⟩
      · have h1 := congrArg List.length a2.1
        have h2 := congrArg List.length c2.1
        simp only [List.length_map] at h1 h2
        omega
      · obtain ⟨i, hi⟩ := List.mem_iff_getElem?.mp hp
        have hi1 : (ps.map (·.2))[i]? = some p.2 := by rw [List.getElem?_map, hi]; rfl
        obtain ⟨y, hy1, hy2⟩ := a2.2.getV hi1
        have hk : (ps.map (·.1))[i]? = some p.1 := by rw [List.getElem?_map, hi]; rfl
        rw [a2.1] at hk
        rw [List.getElem?_map] at hk hy1
        cases hks : ks[i]? with
        | none => rw [hks] at hk; cases hk
        | some q =>
          rw [hks] at hk hy1
          have hk' : q.1 = p.1 := Option.some.inj hk
          have hy' : q.2 = y := Option.some.inj hy1
          subst hy'
          have hq := List.all_eq_true.mp hc.2 q (List.mem_of_getElem? hks)
          rw [Bool.and_eq_true, decide_eq_true_eq] at hq
          obtain ⟨v, v1, v2⟩ := rva_find c2.1 c2.2 hq.1
          obtain ⟨f1, f2⟩ := rv_flat hy2 v2 hq.2
          rw [f1, hk'] at v1
          exact ⟨v1, f2⟩
    · cases h
  · cases h
theorem eqS_sound (S : SR E w L st H) {x y : V} {u v : SV} {b : Bool} (hx : VR E L0 w st H env σ B x u) (hy : VR E L0 w st H env σ B' y v) (h : eqS u v st = some b) :
    (scal x y = true ∧ decide (x = y) = b) ∨ (∃ d e, Dp E.K H x d ∧ Dp E.K H y e ∧ SeqAt.shaped d = true ∧ SeqAt.shaped e = true ∧ PyData.eqv d e = b) ∨ (EqM x y H ∧ b = true) := by
  unfold eqS at h
  split at h
  · rename_i i j
    cases h
    rw [hx.int, hy.int]
    exact .inl ⟨rfl, dec_int⟩
  · cases h
    rw [hx.str, hy.str]
    exact .inl ⟨rfl, dec_str⟩
  · cases h
    rw [hx.bl, hy.bl]
    exact .inl ⟨rfl, dec_bl⟩
  · cases hr : eqP (pyS st u) (pyS st v) with
    | some r =>
      rw [hr] at h
      cases (show some r = some b from h)
      unfold eqP at hr
      split at hr
      · rename_i d e h1 h2
        cases hr
        obtain ⟨k1, k2⟩ := dp_pyS S hx h1
        obtain ⟨k3, k4⟩ := dp_pyS S hy h2
        exact .inr (.inl ⟨d, e, k1, k3, k2, k4, rfl⟩)
      · cases hr
    | none =>
      rw [hr] at h
      exact .inr (.inr (eqM_sound S hx hy h))
theorem os_eq {kt : List (List D)} : OpS E (rEqX E.K) (cmpF kt .eq) := os_cmp fun L0 L w env st σ H x y u v B B' b S hx hy h Q q => by
  rcases eqS_sound S hx hy h with ⟨h1, h2⟩ | ⟨d, e, h1, h2, h3, h4, h5⟩ | ⟨h1, h2⟩
  · exact .inl ⟨h1, by rw [h2]; exact q⟩
  · exact .inr (.inl ⟨d, e, h1, h2, h3, h4, by rw [h5]; exact q⟩)
  · exact .inr (.inr ⟨h1, by rw [← h2]; exact q⟩)
theorem os_ne {kt : List (List D)} : OpS E (rNeX E.K) (cmpF kt .ne) := os_cmp fun L0 L w env st σ H x y u v B B' b S hx hy h Q q => by
  have h' : (eqS u v st).map (!·) = some b := h
  cases e : eqS u v st with
  | none => rw [e] at h'; cases h'
  | some c =>
    rw [e] at h'
    cases h'
    rcases eqS_sound S hx hy e with ⟨h1, h2⟩ | ⟨d, e, h1, h2, h3, h4, h5⟩ | ⟨h1, h2⟩
    · exact .inl ⟨h1, by rw [h2]; exact q⟩
    · exact .inr (.inl ⟨d, e, h1, h2, h3, h4, by rw [h5]; exact q⟩)
    · subst h2
      exact .inr (.inr ⟨h1, q⟩)
/-- what is no truth value -/
def rIsO : R2 := fun x y H Q => ∃ b : Bool, y = .bl b ∧ (x = .non ∨ (∃ i, x = .int i) ∨ (∃ z, x = .str z) ∨ ∃ a, x = .ref a) ∧ Q (.bl false) H
def rIsX : R2 := fun x y H Q => (y = .non ∧ Q (.bl (decide (x = .non))) H) ∨ rIsB x y H Q ∨ rIsO x y H Q
def rIsntX : R2 := fun x y H Q => (y = .non ∧ Q (.bl (!decide (x = .non))) H) ∨ rNotB x y H Q
theorem op_isO : OpR X (compareOp .Is) rIsO := by
  intro pins s σ H x y v u Q I rx ry h
  obtain ⟨b, rfl, hx, q⟩ := h
  cases (show u = Value.bool b from ry)
  rcases hx with rfl | ⟨i, rfl⟩ | ⟨z, rfl⟩ | ⟨a, rfl⟩
  · cases (show v = Value.none from rx)
    exact wpAny_is_other rfl (fun z => by cases z) ⟨.bl false, H, I, rfl, q⟩
  · obtain ⟨t, rfl⟩ := (show ∃ t, v = Value.int i t from rx)
    exact wpAny_is_other rfl (fun z => by cases z) ⟨.bl false, H, I, rfl, q⟩
  · obtain ⟨t, rfl⟩ := (show ∃ t, v = Value.str z t from rx)
    exact wpAny_is_other rfl (fun z => by cases z) ⟨.bl false, H, I, rfl, q⟩
  · cases (show v = Value.ref a from rx)
    exact wpAny_is_other rfl (fun z => by cases z) ⟨.bl false, H, I, rfl, q⟩
theorem o_is : OpR X (compareOp .Is) rIsX := op_orI op_isN (op_orI op_isBl op_isO)
theorem o_isnt : OpR X (compareOp .IsNot) rIsntX := op_orI op_notN op_notBl
theorem VR.isN {x : V} {u : SV} {b : Bool} (h : VR E L0 w st H env σ B x u) (e : (match u with | .d x => some (decide (x = .non)) | .c _ _ => some false | _ => none) = some b) : decide (x = .non) = b := by
  cases h with
  | d r => cases e; cases r <;> rfl
  | own => cases e; rfl
  | atS => cases e; rfl
  | atF => cases e; rfl
  | par => cases e; rfl
  | scr => cases e; rfl
end
end Tv

namespace Tv
open PySem L2
section
variable {E : En} {xb : XB} {w w1 w2 : Wd} {L0 L L' l : List Ow} {st st1 st2 : Sto} {H H1 H2 B B' : Hp} {env : Env} {σ : L2.St} {v : V} {s : SV} {vs : List V} {ss : List SV} {j : Nat} {a : Addr} {P : Prog} {n : Nat} {W : WX} {X : Cx}
theorem os_is {kt : List (List D)} : OpS E rIsX (cmpF kt .is) := os_cmp fun L0 L w env st σ H x y u v B B' b S hx hy h Q q => by
  unfold cmp at h
  simp only at h
  split at h
  · rw [hy.non]
    exact .inl ⟨rfl, by rw [hx.isN (b := b) (by cases u <;> exact h)]; exact q⟩
  · split at h
    · cases h
      rw [hx.bl, hy.bl]
      exact .inr (.inl ⟨_, _, rfl, rfl, q⟩)
    · cases h
      rename_i z nz
      rw [hy.bl]
      refine .inr (.inr ⟨_, rfl, ?_, q⟩)
      have r := hx.dd
      cases r with
      | non => exact .inl rfl
      | bl b => exact absurd rfl (nz b)
      | int i => exact .inr (.inl ⟨_, rfl⟩)
      | str z => exact .inr (.inr (.inl ⟨_, rfl⟩))
      | tup _ _ => exact .inr (.inr (.inr ⟨_, rfl⟩))
      | ref _ => exact .inr (.inr (.inr ⟨_, rfl⟩))
      | fn f => exact .inr (.inr (.inr ⟨_, rfl⟩))
    · cases h
  · cases h
def isntNF : SV → Option Bool
  | .d x => some (!decide (x = .non))
  | .c _ _ => some true
  | _ => none
theorem VR.isntN {x : V} {u : SV} {b : Bool} (h : VR E L0 w st H env σ B x u) (e : isntNF u = some b) : (!decide (x = .non)) = b := by
  cases h with
  | d r => cases e; cases r <;> rfl
  | own => cases e; rfl
  | atS => cases e; rfl
  | atF => cases e; rfl
  | par => cases e; rfl
  | scr => cases e; rfl
theorem os_isnt {kt : List (List D)} : OpS E rIsntX (cmpF kt .isnt) := os_cmp fun L0 L w env st σ H x y u v B B' b S hx hy h Q q => by
  unfold cmp at h
  simp only at h
  split at h
  · rw [hy.non]
    exact .inl ⟨rfl, by rw [hx.isntN (b := b) (by cases u <;> exact h)]; exact q⟩
  · split at h
    · cases h
      rw [hx.bl, hy.bl]
      exact .inr ⟨_, _, rfl, rfl, q⟩
    · cases h
  · cases h
/-! in -/
theorem room_in (hu : X.A.units + 65 < cLine) {ds : List PyData} {d : PyData} (sd : SeqAt.shaped d = true) : X.A.units + 1 + min (PyData.depthAll ds) d.depth < cLine := PyProof.Rows.room_in_shaped sd hu
def rInTup (K : PySem.W.Frag) (neg : Bool) : R2 := fun x y H Q => ∃ d ds, Dp K H x d ∧ Dp K H y (.tuple ds) ∧ SeqAt.shaped d = true ∧ SeqAt.shaped (.tuple ds) = true ∧ Q (.bl (if neg then !(ds.any fun z => PyData.eqv z d) else ds.any fun z => PyData.eqv z d)) H
def rInDc (neg : Bool) : R2 := fun x y H Q => ∃ a o, y = .ref a ∧ DGet H a x o ∧ Q (.bl (if neg then !o.isSome else o.isSome)) H
theorem op_inTup (hu : X.A.units + 65 < cLine) : OpR X (compareOp .In) (rInTup X.K false) := by
  intro pins s σ H x y v u Q I rx ry h
  obtain ⟨d, ds, hd, he, sd, se, q⟩ := h
  obtain ⟨as, r1⟩ := Dp.reads I d x v hd rx
  obtain ⟨bs, r2⟩ := Dp.reads I (.tuple ds) y u he ry
  exact SeqAt.in_tuple_reads r2 r1 (SeqAt.canLay_of_shaped se) (SeqAt.canLay_of_shaped sd) (room_in hu sd) ⟨.bl _, H, I, rfl, q⟩
theorem op_ninTup (hu : X.A.units + 65 < cLine) : OpR X (compareOp .NotIn) (rInTup X.K true) := by
  intro pins s σ H x y v u Q I rx ry h
  obtain ⟨d, ds, hd, he, sd, se, q⟩ := h
  obtain ⟨as, r1⟩ := Dp.reads I d x v hd rx
  obtain ⟨bs, r2⟩ := Dp.reads I (.tuple ds) y u he ry
  exact SeqAt.notIn_tuple_reads r2 r1 (SeqAt.canLay_of_shaped se) (SeqAt.canLay_of_shaped sd) (room_in hu sd) ⟨.bl _, H, I, rfl, q⟩
theorem op_inDc (hu : X.A.units + 1 < cLine) : OpR X (compareOp .In) (rInDc false) := by
  intro pins s σ H x y v u Q I rx ry h
  obtain ⟨a, o, rfl, g, q⟩ := h
  obtain rfl : u = Value.ref a := ry
  exact d_in hu I g rx fun s3 I3 => ⟨.bl o.isSome, H, I3, rfl, q⟩
theorem op_ninDc (hu : X.A.units + 1 < cLine) : OpR X (compareOp .NotIn) (rInDc true) := by
  intro pins s σ H x y v u Q I rx ry h
  obtain ⟨a, o, rfl, g, q⟩ := h
  obtain rfl : u = Value.ref a := ry
  exact d_notIn hu I g rx fun s3 I3 => ⟨.bl (!o.isSome), H, I3, rfl, q⟩
def rInStr (neg : Bool) : R2 := fun x y H Q => ∃ (c : Nat) (z : Str), x = .str ⟨#[c]⟩ ∧ y = .str z ∧ Q (.bl (if neg then !decide (c ∈ z.cps.toList) else decide (c ∈ z.cps.toList))) H
def rInX (K : PySem.W.Frag) : R2 := fun x y H Q => rInStr false x y H Q ∨ rInTup K false x y H Q ∨ rInD K x y H Q ∨ rInDc false x y H Q
def rNotInX (K : PySem.W.Frag) : R2 := fun x y H Q => rInStr true x y H Q ∨ rInTup K true x y H Q ∨ rNotInD K x y H Q ∨ rInDc true x y H Q
theorem o_in (hu : X.A.units + 65 < cLine) : OpR X (compareOp .In) (rInX X.K) := op_orI op_in_sign (op_orI (op_inTup hu) (op_orI (op_inD hu) (op_inDc (by omega))))
theorem o_notin (hu : X.A.units + 65 < cLine) : OpR X (compareOp .NotIn) (rNotInX X.K) := op_orI op_notIn_sign (op_orI (op_ninTup hu) (op_orI (op_notInD hu) (op_ninDc (by omega))))
theorem kvK {ad : List Addr} {x : D} {k : Key} {v : V} (h : Rv E ad H v x) (e : keyOf x = some k) : v = kV k := by
  cases h <;> cases e <;> rfl
theorem kvKs {ad : List Addr} : ∀ {xs : List D} {ks : List Key} {vs : List V}, RvA E ad H vs xs → keysOf xs = some ks → vs = ks.map kV
  | [], ks, vs, h, e => by cases h; cases e; rfl
  | x :: xs, ks, vs, h, e => by
    cases h with
    | cons r t =>
      have e' : (match keyOf x, keysOf xs with | some k, some ks => some (k :: ks) | _, _ => none) = some ks := e
      split at e'
      · rename_i k ks' e1 e2
        cases e'
        rw [kvK r e1, kvKs t e2, List.map_cons]
      · cases e'
theorem look_kv {κ : Type} [DecidableEq κ] {ad : List Addr} (k : κ) : ∀ {ps : List (κ × V)} {kvs : List (κ × D)}, Rkv E ad H ps kvs → (∀ x, look kvs k = some x → ∃ v, valV ps k = some v ∧ Rv E ad H v x) ∧ (look kvs k = none → valV ps k = none)
  | [], [], h => ⟨fun x e => (by cases e), fun _ => rfl⟩
  | p :: ps, q :: kvs, h => by
    obtain ⟨h1, h2⟩ := h
    rw [List.map_cons, List.map_cons] at h1 h2
    cases h2 with
    | cons r t =>
      have e1 : p.1 = q.1 := (List.cons.inj h1).1
      have ih := look_kv k (ps := ps) (kvs := kvs) ⟨(List.cons.inj h1).2, t⟩
      by_cases hk : q.1 = k
      · have l1 : look (q :: kvs) k = some q.2 := by unfold look; rw [List.find?_cons_of_pos (by simpa using hk)]; rfl
        rw [l1, valV_pos (e1.trans hk)]
        exact ⟨fun x e => by cases e; exact ⟨_, rfl, r⟩, fun e => by cases e⟩
      · have l1 : look (q :: kvs) k = look kvs k := by unfold look; rw [List.find?_cons_of_neg (by simpa using hk)]
        rw [l1, valV_neg (by rw [e1]; exact hk)]
        exact ih
  | [], q :: kvs, h => by have z := h.1; simp at z
  | p :: ps, [], h => by have z := h.1; simp at z
theorem look_some {κ : Type} [DecidableEq κ] {ad : List Addr} {k : κ} {ps : List (κ × V)} {kvs : List (κ × D)} (h : Rkv E ad H ps kvs) : (valV ps k).isSome = (look kvs k).isSome := by
  cases e : look kvs k with
  | none => rw [(look_kv k h).2 e]; rfl
  | some x => obtain ⟨v, e1, _⟩ := (look_kv k h).1 x e; rw [e1]; rfl
/-- a tuple of keys stands tracked -/
def KeyT (H : Hp) (y : V) (ks : List Key) : Prop := ∃ b, y = .ref b ∧ H b = some (.tup (ks.map kV))
theorem keysT_inv {kt : List (List D)} {ds : List D} {ks : List Key} (h : keysT kt ds = some ks) : ds ∉ kt ∧ keysOf ds = some ks := by
  unfold keysT at h
  split at h
  · cases h
  · rename_i hc
    exact ⟨fun z => hc (by simpa using z), h⟩
theorem key_tup {ds : List D} {ks : List Key} {x : V} (h : VR E L0 w st H env σ B x (.d (.tup ds))) (e : keysT E.kt ds = some ks) : ∃ b, x = .ref b ∧ H b = some (.tup (ks.map kV)) := by
  obtain ⟨h1, h2⟩ := keysT_inv e
  obtain ⟨a, vs, rfl, h3, h4⟩ := h.tup
  rcases h3 with h3 | ⟨h3, _⟩
  · exact ⟨a, rfl, by rw [← kvKs h4 h2]; exact h3⟩
  · exact absurd h3 h1
theorem inS_sound (S : SR E w L st H) {x y : V} {u v : SV} {b : Bool} (hx : VR E L0 w st H env σ B x u) (hy : VR E L0 w st H env σ B' y v) (h : inS E.kt u v st = some b) (neg : Bool) (Q : VK) (q : Q (.bl (if neg then !b else b)) H) :
    rInStr neg x y H Q ∨ rInTup E.K neg x y H Q ∨ (∃ d ds, Dp E.K H x d ∧ Dp E.K H y (.list ds) ∧ SeqAt.shaped d = true ∧ SeqAt.shaped (.list ds) = true ∧ Q (.bl (if neg then !(ds.any fun z => PyData.eqv z d) else ds.any fun z => PyData.eqv z d)) H) ∨ rInDc neg x y H Q := by
  unfold inS at h
  split at h
  · split at h
    · cases h
      exact .inl ⟨_, _, hx.str, hy.str, q⟩
    · cases h
  · rename_i xs
    unfold inP at h
    split at h
    · rename_i d ds e1 e2
      have h5 : (D.looksW (refAt st depthL) xs).map PyData.tuple = some (.list ds) := (shp_inv e2).1
      cases e6 : D.looksW (refAt st depthL) xs <;> rw [e6] at h5 <;> cases h5
    · rename_i d ds e1 e2
      cases h
      obtain ⟨k1, k2⟩ := dp_pyS S hx e1
      obtain ⟨k3, k4⟩ := dp_pyD S hy.dd e2
      exact .inr (.inl ⟨d, ds, k1, k3, k2, k4, q⟩)
    · cases h
  · split at h
    · rename_i xs e0
      obtain ⟨a, vs, rfl, h1, h2⟩ := hy.lst S e0
      unfold inP at h
      split at h
      · rename_i d ds e1 e2
        cases h
        obtain ⟨k1, k2⟩ := dp_pyS S hx e1
        obtain ⟨k3, k4⟩ := dp_pyL S h1 h2 e2
        exact .inr (.inr (.inl ⟨d, ds, k1, k3, k2, k4, q⟩))
      · rename_i d ds e1 e2
        have h4 : (D.looksW (refAt st depthL) xs).map PyData.list = some (.tuple ds) := (shp_inv e2).1
        cases e6 : D.looksW (refAt st depthL) xs <;> rw [e6] at h4 <;> cases h4
      · cases h
    · rename_i kvs e0
      obtain ⟨a, ps, rfl, h1, h2⟩ := hy.dic S e0
      split at h
      · split at h
        · rename_i k e1
          cases h
          refine .inr (.inr (.inr ⟨a, valV ps k, rfl, .inl ⟨ps, k, h1, kvK hx.dd e1, rfl⟩, ?_⟩))
          rw [look_some h2]
          exact q
        · cases h
      · cases h
    · rename_i kvs e0
      obtain ⟨a, ps, rfl, h1, h2⟩ := hy.dit S e0
      split at h
      · rename_i ds
        split at h
        · rename_i ks e1
          cases h
          obtain ⟨b, rfl, h3⟩ := key_tup hx e1
          refine .inr (.inr (.inr ⟨a, valV ps ks, rfl, .inr ⟨ps, ks, b, h1, rfl, h3, rfl⟩, ?_⟩))
          rw [look_some h2]
          exact q
        · cases h
      · cases h
    · cases h
theorem os_in : OpS E (rInX E.K) (cmpF E.kt .in) := os_cmp fun L0 L w env st σ H x y u v B B' b S hx hy h Q q => inS_sound S hx hy h false Q q
theorem os_notin : OpS E (rNotInX E.K) (cmpF E.kt .notin) := os_cmp fun L0 L w env st σ H x y u v B B' b S hx hy h Q q => by
  have h' : (inS E.kt u v st).map (!·) = some b := h
  cases e : inS E.kt u v st with
  | none => rw [e] at h'; cases h'
  | some c =>
    rw [e] at h'
    cases h'
    exact inS_sound S hx hy e true Q q
end
end Tv

namespace Tv
open PySem L2
section
variable {E : En} {xb : XB} {w w1 w2 : Wd} {L0 L L' l : List Ow} {st st1 st2 : Sto} {H H1 H2 B B' : Hp} {env : Env} {σ : L2.St} {v : V} {s : SV} {vs : List V} {ss : List SV} {j : Nat} {a : Addr} {P : Prog} {n : Nat} {W : WX} {X : Cx}
/-! ### subscripts -/
theorem atI_map {α β : Type} {xs : List α} {ys : List β} {i : Int} {x : α} (hl : xs.length = ys.length) (h : atI xs i = some x) : ∃ j : Nat, xs[j]? = some x ∧ ∀ y, ys[j]? = some y → atI ys i = some y := by
  unfold atI at h
  cases e : ixN xs.length i with
  | none => rw [e] at h; cases h
  | some j =>
    rw [e] at h
    refine ⟨j, h, fun y hy => ?_⟩
    unfold atI
    rw [← hl, e]
    exact hy
theorem RvA.atI {ad : List Addr} {vs : List V} {xs : List D} {i : Int} {d : D} (h : RvA E ad H vs xs) (e : L2.atI xs i = some d) : ∃ v, L2.atI vs i = some v ∧ Rv E ad H v d := by
  obtain ⟨j, h1, h2⟩ := atI_map h.length.symm e
  obtain ⟨v, h3, h4⟩ := h.get h1
  exact ⟨v, h2 v h3, h4⟩
def rIxDk : R2 := fun x y H Q => ∃ a v, x = .ref a ∧ DGet H a y (some v) ∧ Q v H
def rIxX (K : PySem.W.Frag) : R2 := fun x y H Q => rIx K x y H Q ∨ rIxDk x y H Q
theorem ix_dict (hu : X.A.units + 1 < cLine) : IxR X rIxDk := by
  intro value slice pins s σ H x y v u Q I rx ry h hs
  obtain ⟨a, r, rfl, g, q⟩ := h
  obtain rfl : v = Value.ref a := rx
  exact PyProof.Rows.tail_any (dict_typeIs I g) PySem.F.slot_dict_getitem.lookup (d_getItem hu I g ry fun w' s3 I3 rw' => ⟨r, H, I3, rw', q⟩) hs
theorem ix_X (hu : X.A.units + 1 < cLine) : IxR X (rIxX X.K) := ix_seq.or (ix_dict hu)
def idxF (kt : List (List D)) : SV → SV → Sto → Res SV := fun u w st => match idx kt u w st with
  | some d => ok (.d d) st
  | none => none
theorem os_idx : OpS E (rIxX E.K) (idxF E.kt) := by
  intro L0 L w env st σ H xb x y u v B B' S R hx hy r' h W Q hQ
  unfold idxF at h
  split at h
  · rename_i d e
    cases ok_inj h
    unfold idx at e
    split at e
    · rename_i i
      split at e
      · rename_i xs
        split at e
        · rename_i i
          obtain ⟨a, vs, rfl, h1, h2⟩ := hx.tup
          obtain ⟨z, h3, h4⟩ := h2.atI e
          rw [hy.int]
          exact .inl (.inr (.inl ⟨a, vs, i, z, rfl, rfl, h1.sq, h3, okr_now hQ S (.d h4)⟩))
        · cases e
      · rename_i z
        split at e
        · rename_i i
          unfold strAt at e
          split at e
          · rename_i hz
            cases e2 : L2.atI z.cps.toList i with
            | none => rw [e2] at e; cases e
            | some c =>
              rw [e2] at e
              cases e
              rw [hx.str, hy.int]
              exact .inl (.inr (.inr ⟨z, i, c, rfl, rfl, hz, e2, okr_now hQ S (.d (.str _))⟩))
          · cases e
        · cases e
      · split at e
        · rename_i xs e0
          split at e
          · rename_i i
            obtain ⟨a, vs, rfl, h1, h2⟩ := hx.lst S e0
            obtain ⟨z, h3, h4⟩ := h2.atI e
            rw [hy.int]
            exact .inl (.inl ⟨a, vs, i, z, rfl, rfl, h1, h3, okr_now hQ S (.d h4)⟩)
          · cases e
        · rename_i kvs e0
          split at e
          · rename_i k e1
            obtain ⟨a, ps, rfl, h1, h2⟩ := hx.dic S e0
            obtain ⟨z, h3, h4⟩ := (look_kv k h2).1 _ e
            exact .inr ⟨a, z, rfl, .inl ⟨ps, k, h1, kvK hy.dd e1, h3.symm⟩, okr_now hQ S (.d h4)⟩
          · cases e
        · rename_i kvs e0
          split at e
          · split at e
            · rename_i k e1
              obtain ⟨a, ps, rfl, h1, h2⟩ := hx.dit S e0
              obtain ⟨z, h3, h4⟩ := (look_kv k h2).1 _ e
              obtain ⟨b, rfl, h5⟩ := key_tup hy e1
              exact .inr ⟨a, z, rfl, .inr ⟨ps, k, b, h1, rfl, h5, h3.symm⟩, okr_now hQ S (.d h4)⟩
            · cases e
          · cases e
        · cases e
    · cases e
  · cases h
/-! ### slices -/
theorem RvA.cut {ad : List Addr} {vs : List V} {xs : List D} (lo hi : Option Int) (h : RvA E ad H vs xs) : RvA E ad H (cutV vs lo hi) (Tv.cut xs lo hi) := by
  unfold cutV Tv.cut
  rw [h.length]
  exact (h.drop _).take _
def rSlX (K : PySem.W.Frag) : V → Option Int → Option Int → Hp → VK → Prop := fun x lo hi H Q => rSlL K x lo hi H Q ∨ rSlA K x lo hi H Q ∨ rSlS x lo hi H Q
theorem sl_or {r r' : V → Option Int → Option Int → Hp → VK → Prop} (h : L2.SlR X r) (h' : L2.SlR X r') : L2.SlR X (fun x lo hi H Q => r x lo hi H Q ∨ r' x lo hi H Q) := by
  intro pins s σ H x v vl vu lo hi sl Q I rx hs pl pu q
  rcases q with q | q
  · exact h pins s σ H x v vl vu lo hi sl Q I rx hs pl pu q
  · exact h' pins s σ H x v vl vu lo hi sl Q I rx hs pl pu q
theorem sl_X : L2.SlR X (rSlX X.K) := sl_or sl_list (sl_or sl_tupA sl_str)
abbrev RO (E : En) : List Ow → Wd → Sto → Hp → Env → L2.St → Hp → Option Int → Option Int → Prop := fun _ _ _ _ _ _ _ o o' => o = o'
abbrev SOp (P : Prog) (n : Nat) (E : En) (xb : XB) (W : WX) (t : TO) (e : Ex) : Prop := SG P n E xb W (RO E) t (fun c env st => rb (ev c e env st) (part e.isNon))
theorem so_none : SOp P n E xb W tNoPart (.cst .non) := by
  intro L0 L w env st σ H h0 S R r h Q hQ
  have h' : ok (none : Option Int) st = some r := h
  cases ok_inj h'
  exact okr_now hQ S rfl
theorem so_some {te : TE} {e : Ex} (h : SE P n E xb W te e) (hn : e.isNon = false) : SOp P n E xb W (tPart te) e := by
  intro L0 L w env st σ H h0 S R r h2 Q hQ
  show te σ H fun x H1 => ∃ i, x = .int i ∧ Q (some i) H1
  refine sg_go h h0 S R h2 hQ fun u st1 w1 H1 x S1 R1 f1 v1 h3 hQ => ?_
  rw [hn] at h3
  unfold part at h3
  split at h3
  · cases ok_inj h3
    exact ⟨_, v1.int, okr_now hQ S1 rfl⟩
  · rw [if_neg Bool.false_ne_true] at h3
    cases h3
  · cases h3
theorem slc_ok {x : V} {u : SV} {lo hi : Option Int} {r : Out SV} {W : WX} {Q : VK} (S : SR E w L st H) (hx : VR E L0 w st H env σ B x u) (hd : ∀ p, H p = none → B p = none) (h : slc u lo hi st = some r)
    (hQ : OkR E W L w st σ H (fun w' st' H' b a => VR E L0 w' st' H' env σ B b a) Q r) : rSlX E.K x lo hi H Q := by
  unfold slc at h
  split at h
  · rename_i xs
    obtain ⟨a, vs, rfl, h1, h2⟩ := hx.tup
    cases ok_inj h
    refine .inr (.inl ⟨a, vs, rfl, h1.sq, fun e => ?_, fun _ p hp => ?_⟩)
    · have e2 : Tv.cut xs lo hi = xs := by
        unfold Tv.cut
        rw [← h2.length, e.1, e.2, List.drop_zero, Nat.sub_zero, h2.length, List.take_length]
      rw [e2] at hQ
      exact okr_now hQ S (.d (.tup h1 h2))
    · exact okr_lay hQ S hp (vr_tup hp (h2.cut lo hi))
  · split at h
    · rename_i hz
      cases ok_inj h
      rw [hx.str]
      exact .inr (.inr ⟨_, rfl, hz, okr_now hQ S (.d (.str _))⟩)
    · cases h
  · split at h
    · rename_i xs e0
      obtain ⟨a, vs, rfl, h1, h2⟩ := hx.lst S e0
      cases ok_inj h
      refine .inl ⟨a, vs, rfl, h1, fun p hp => ?_⟩
      exact okr_lay hQ S hp ((vr_new S hp (h2.cut lo hi)).base hd)
    · cases h
theorem se_slice {ta : TE} {tl th : TO} {a lo hi : Ex} (ha : SE P n E xb W ta a) (hl : SOp P n E xb W tl lo) (hh : SOp P n E xb W th hi) : SE P n E xb W (tSl (rSlX E.K) ta tl th) (.slice a lo hi) := by
  intro L0 L w env st σ H h0 S R r h Q hQ
  show ta σ H fun x H1 => tl σ H1 fun l H2 => th σ H2 fun u H3 => rSlX E.K x l u H3 Q
  refine sg_go ha h0 S R h hQ fun u st1 w1 H1 x S1 R1 f1 v1 h hQ => ?_
  refine sg_golk hl h0 S1 R1 v1.live h hQ fun sl st2 w2 H2 l S2 R2 f2 v2 h hQ => ?_
  have g2 : VR E L0 w2 st2 H2 env σ H x u := v1.fr f2 (fun o z => List.mem_append.mpr (.inr (h0 o z))) (fun o z => List.mem_append.mpr (.inl z))
  refine sg_golk hh h0 S2 R2 g2.live h hQ fun sh st3 w3 H3 z S3 R3 f3 v3 h hQ => ?_
  have g3 : VR E L0 w3 st3 H3 env σ H x u := g2.fr f3 (fun o z => List.mem_append.mpr (.inr (h0 o z))) (fun o z => List.mem_append.mpr (.inl z))
  subst v2 v3
  exact slc_ok S3 g3 (fun p q => f1.dom p (f2.dom p (f3.dom p q))) h hQ
theorem se_rev {ta : TE} {a : Ex} (ha : SE P n E xb W ta a) : SE P n E xb W (tRevL E.K ta) (.rev a) := by
  intro L0 L w env st σ H h0 S R r h Q hQ
  show ta σ H fun x H1 => ∃ a xs, x = .ref a ∧ SqL E.K H1 a xs ∧ ∀ p, H1 p = none → Q (.ref p) (upd H1 p (.lst xs.reverse))
  refine sg_go ha h0 S R h hQ fun u st1 w1 H1 x S1 R1 f1 v1 h hQ => ?_
  have h' : revS u st1 = some r := h
  unfold revS at h'
  split at h'
  · rename_i xs e0
    cases ok_inj h'
    obtain ⟨a, vs, rfl, h1, h2⟩ := v1.lst S1 e0
    exact ⟨a, vs, rfl, h1, fun p hp => okr_lay hQ S1 hp ((vr_new S1 hp h2.rev).base f1.dom)⟩
  · cases h'
end
end Tv

namespace Tv
open PySem L2
section
variable {E : En} {xb : XB} {w w1 w2 : Wd} {L0 L L' l : List Ow} {st st1 st2 : Sto} {H H1 H2 B B' : Hp} {env : Env} {σ : L2.St} {v : V} {s : SV} {vs : List V} {ss : List SV} {j : Nat} {a : Addr} {P : Prog} {n : Nat} {W : WX} {X : Cx}
/-! ### a container gets a place of its own -/
def Wd.push (w : Wd) (a : Addr) : Wd := ⟨w.ad ++ [a], w.fd⟩
theorem live_push {c : Cell} {o : Ow} (h : o.live st) : o.live (st ++ [c]) := by
  cases o with
  | c k => show k < (st ++ [c]).length; rw [List.length_append]; exact Nat.lt_add_right _ h
  | f i nm =>
    obtain ⟨C, fs, x, h1, h2⟩ := h
    exact ⟨C, fs, x, by rw [List.getElem?_append_left (List.getElem?_eq_some_iff.mp h1).1]; exact h1, h2⟩
  | s j => exact h
theorem at_push {o : Ow} (hl : w.ad.length = st.length) (h : o.live st) : (w.push a).at o = w.at o := by
  cases o with
  | c k =>
    have h' : k < st.length := h
    show (w.ad ++ [a])[k]? = w.ad[k]?
    rw [List.getElem?_append_left (by omega)]
  | f i nm => rfl
  | s j => rfl
theorem live_pop {x : Cn} {o : Ow} (h : o.live (st ++ [.con x])) : o.live st ∨ o = .c st.length := by
  cases o with
  | c k =>
    have h' : k < (st ++ [Cell.con x]).length := h
    rw [List.length_append] at h'
    by_cases e : k = st.length
    · subst e; exact .inr rfl
    · exact .inl (show k < st.length by simp at h'; omega)
  | f i nm =>
    obtain ⟨C, fs, y, h1, h2⟩ := h
    refine .inl ⟨C, fs, y, ?_, h2⟩
    by_cases hi : i < st.length
    · rw [List.getElem?_append_left hi] at h1; exact h1
    · rw [List.getElem?_append_right (by omega)] at h1
      cases e : i - st.length with
      | zero => rw [e] at h1; cases h1
      | succ m => rw [e] at h1; simp at h1
  | s j => exact h.elim
theorem owd_push {x : Cn} {p : Addr} (hl : w.ad.length = st.length) (h : Owd (w.push a) (st ++ [.con x]) p) : Owd w st p ∨ p = a := by
  obtain ⟨o, h1, h2⟩ := h
  rcases live_pop h1 with h1 | rfl
  · rw [at_push hl h1] at h2
    exact .inl ⟨o, h1, h2⟩
  · have h3 : (w.ad ++ [a])[st.length]? = some p := h2
    rw [List.getElem?_append_right (by omega)] at h3
    simp [hl] at h3
    exact .inr h3.symm
theorem zad_push {x : Cn} {p : Addr} (S : SR E w L st H) (h : Zad (w.push a) (st ++ [.con x]) H p) : Zad w st H p := by
  obtain ⟨k, c', C, fs, c, dx, fv, f, y, m, h1, h2, h3, h4, h5⟩ := h
  by_cases hk : k < st.length
  · rw [List.getElem?_append_left hk] at h1
    have h2' : (w.ad ++ [a])[k]? = some c' := h2
    rw [List.getElem?_append_left (by rw [S.len]; exact hk)] at h2'
    exact ⟨k, c', C, fs, c, dx, fv, f, y, m, h1, h2', h3, h4, h5⟩
  · rw [List.getElem?_append_right (by omega)] at h1
    cases e : k - st.length with
    | zero => rw [e] at h1; cases h1
    | succ m => rw [e] at h1; simp at h1
theorem FsR.to {w' : Wd} {st' : Sto} {i : Nat} {J : Hp} (p : w.ad <+: w'.ad) (g : Tm E.K H J) (hf : ∀ f, w'.fd i f = w.fd i f)   : ∀ {fv : List (Str × V)} {fs : List (Str × FV)}, FsR E w st H i fv fs → (∀ (m : Nat) (f : Str) (x : Cn) (b : Addr), fs[m]? = some (f, FV.c true x) → fv[m]? = some (f, V.ref b) → ¬ Owd w st b → ¬ Owd w' st' b) → (∀ (m : Nat) (f : Str) (z : Bool) (x : Cn) (b : Addr), fs[m]? = some (f, FV.c z x) → fv[m]? = some (f, V.ref b) → J b = H b) → FsR E w' st' J i fv fs
  | _, _, .nil, _, _ => .nil
  | _, _, .cons (f := f) r t, hz, he => by
    refine .cons ?_ (FsR.to p g hf t (fun m f x b h1 h2 => hz (m + 1) f x b (by simpa using h1) (by simpa using h2)) fun m f z x b h1 h2 => he (m + 1) f z x b (by simpa using h1) (by simpa using h2))
    cases r with
    | d r => exact .d (r.mono p g)
    | c r => have r' := r.mono p g (he 0 f _ _ _ rfl rfl); rw [← hf f] at r' ⊢; exact .c r'
    | z r k => exact .z (r.mono p g (he 0 f _ _ _ rfl rfl)) (hz 0 f _ _ rfl rfl k)
theorem SR.push {x : Cn} (S : SR E w L st H) (c : CoR E w.ad H a x) (xt : Xt H a) (n : ¬ Owd w st a) (z : ¬ Zad w st H a) : SR E (w.push a) L (st ++ [.con x]) H := by
  have pre : w.ad <+: (w.push a).ad := ⟨[a], rfl⟩
  have hn : w.ad.length = st.length := S.len
  refine ⟨by show (w.ad ++ [a]).length = (st ++ [Cell.con x]).length; rw [List.length_append, List.length_append, S.len]; rfl, fun o p b h1 h2 h3 h4 => ?_, fun k y e => ?_, fun o b h1 h2 h3 => ?_, fun k C fs e => ?_⟩
  · rcases live_pop h1 with h1 | rfl <;> rcases live_pop h2 with h2 | rfl
    · rw [at_push hn h1] at h3
      rw [at_push hn h2] at h4
      exact S.inj o p b h1 h2 h3 h4
    · rw [at_push hn h1] at h3
      have h5 : (w.ad ++ [a])[st.length]? = some b := h4
      rw [List.getElem?_append_right (by omega)] at h5
      simp [hn] at h5
      subst h5
      exact absurd ⟨o, h1, h3⟩ n
    · rw [at_push hn h2] at h4
      have h5 : (w.ad ++ [a])[st.length]? = some b := h3
      rw [List.getElem?_append_right (by omega)] at h5
      simp [hn] at h5
      subst h5
      exact absurd ⟨p, h2, h4⟩ n
    · rfl
  · by_cases hk : k < st.length
    · rw [List.getElem?_append_left hk] at e
      obtain ⟨b, e1, h⟩ := S.cell k y e
      refine ⟨b, pre_get pre e1, ?_⟩
      cases y with
      | con y => exact CoR.mono pre (Tm.rfl' _) rfl h
      | ins C fs =>
        obtain ⟨dx, fv, h1, h2⟩ := h
        refine ⟨dx, fv, h1, h2.to pre (Tm.rfl' _) (fun _ => rfl) (fun m f y b' k1 k2 k3 k4 => ?_) (fun _ _ _ _ _ _ _ => rfl)⟩
        rcases owd_push hn k4 with k4 | rfl
        · exact k3 k4
        · exact z ⟨k, b, C, fs, _, dx, fv, f, y, m, e, e1, h1, k1, k2⟩
    · have e' : k = st.length := by
        have := (List.getElem?_eq_some_iff.mp e).1
        rw [List.length_append] at this
        simp at this
        omega
      subst e'
      rw [List.getElem?_append_right (by omega)] at e
      simp at e
      subst e
      refine ⟨a, ?_, c.mono pre (Tm.rfl' _) rfl⟩
      show (w.ad ++ [a])[st.length]? = some a
      rw [List.getElem?_append_right (by omega)]
      simp [hn]
  · rcases live_pop h1 with h1 | rfl
    · rw [at_push hn h1] at h3
      exact S.ex o b h1 h2 h3
    · have h5 : (w.ad ++ [a])[st.length]? = some b := h3
      rw [List.getElem?_append_right (by omega)] at h5
      simp [hn] at h5
      subst h5
      exact xt
  · by_cases hk : k < st.length
    · rw [List.getElem?_append_left hk] at e
      exact S.nd k C fs e
    · rw [List.getElem?_append_right (by omega)] at e
      cases e2 : k - st.length with
      | zero => rw [e2] at e; cases e
      | succ m => rw [e2] at e; simp at e
theorem Fr.push {x : Cn} {s0 : Ss} (S : SR E w L' st H) (f : Fr E L s0 ⟨w, st, H⟩) (e : s0.H a = none) : Fr E L s0 ⟨w.push a, st ++ [.con x], H⟩ := by
  refine ⟨f.ad.trans ⟨[a], rfl⟩, f.tm, f.out, fun p h => ?_, fun p h => f.newz p (zad_push S h), f.dom, fun o h1 h2 => ?_⟩
  · rcases owd_push S.len h with h | rfl
    · exact f.new p h
    · exact .inr e
  · obtain ⟨k1, k2, k3⟩ := f.lk o h1 h2
    exact ⟨live_push k1, (at_push S.len k1).trans k2, k3⟩
/-- a value is put into something -/
theorem toD_ok {s0 : Ss} {r : Out D} (h0 : ∀ o ∈ L0, o ∈ L) (S0 : SR E s0.w L s0.st s0.H) (R0 : ER E xb L0 s0.w L s0.st s0.H env σ) (S : SR E w L st H) (R : ER E xb L0 w L st H env σ) (f : Fr E L s0 ⟨w, st, H⟩) (hv : VR E L0 w st H env σ s0.H v s) (h : toD s st = some r) :
    ∃ x st' w', r = .ok x st' ∧ SR E w' L st' H ∧ ER E xb L0 w' L st' H env σ ∧ Fr E L s0 ⟨w', st', H⟩ ∧ w.ad <+: w'.ad ∧ Rv E w'.ad H v x ∧ (∀ p, Owd w' st' p → Owd w st p ∨ (v = .ref p ∧ ∃ y, s = .c .own y)) ∧ (∀ p, Zad w' st' H p → Zad w st H p) ∧ (∀ o, o.live st → o.live st' ∧ w'.at o = w.at o) := by
  unfold toD at h
  split at h
  · have e := ok_inj h
    exact ⟨_, st, w, e, S, R, f, List.prefix_refl _, hv.dd, fun _ z => .inl z, fun _ z => z, fun _ z => ⟨z, rfl⟩⟩
  · rename_i y
    have e := ok_inj h
    cases hv with
    | @own a _ h1 h2 h3 h4 h5 =>
      have S' := S.push h1 h2 h3 h5
      have f' : Fr E L s0 ⟨w.push a, st ++ [.con y], H⟩ := f.push S h4
      refine ⟨_, _, w.push a, e, S', R0.fr S0 h0 f', f', ⟨[a], rfl⟩, .ref ?_, fun p z => ?_, fun p z => zad_push S z, fun o z => ⟨live_push z, at_push S.len z⟩⟩
      · show (w.ad ++ [a])[st.length]? = some a
        rw [List.getElem?_append_right (by rw [S.len]; exact Nat.le_refl _)]
        simp [S.len]
      · rcases owd_push S.len z with z | rfl
        · exact .inl z
        · exact .inr ⟨rfl, _, rfl⟩
  · cases h
/-- own containers and data alone -/
def SV.fit : SV → Bool
  | .d _ => true
  | .c .own _ => true
  | _ => false
theorem toD_fit {r : Out D} (h : toD s st = some r) : s.fit = true := by
  unfold toD at h
  split at h
  · rfl
  · rfl
  · cases h
theorem toDs_fit : ∀ {ss : List SV} {st : Sto} {r : Out (List D)}, toDs ss st = some r → ∀ s ∈ ss, s.fit = true
  | [], _, _, _, s, hs => by cases hs
  | s :: ss, st, r, h, s', hs => by
    have h' : rb (toD s st) (fun x st => rb (toDs ss st) fun xs st => ok (x :: xs) st) = some r := h
    cases e1 : toD s st with
    | none => rw [e1] at h'; cases h'
    | some r1 =>
      rcases List.mem_cons.mp hs with rfl | hs
      · exact toD_fit e1
      · cases r1 with
        | ok x st1 =>
          rw [e1] at h'
          have h2 : rb (toDs ss st1) (fun xs st => ok (x :: xs) st) = some r := h'
          cases e2 : toDs ss st1 with
          | none => rw [e2] at h2; cases h2
          | some r2 => exact toDs_fit e2 s' hs
        | ex x st1 =>
          unfold toD at e1
          split at e1 <;> cases e1
theorem VR.to {w' : Wd} {st' : Sto} (p : w.ad <+: w'.ad) (hf : s.fit = true) (ho : ∀ q x, v = .ref q → s = .c .own x → ¬ Owd w st q → ¬ Owd w' st' q) (hz : ∀ p, Zad w' st' H p → Zad w st H p) (h : VR E L0 w st H env σ B v s) : VR E L0 w' st' H env σ B v s := by
  cases h with
  | d h => exact .d (h.mono p (Tm.rfl' _))
  | own h1 h2 h3 h4 h5 => exact .own (h1.mono p (Tm.rfl' _) rfl) h2 (ho _ _ rfl rfl h3) h4 fun z => h5 (hz _ z)
  | atS h1 h2 h3 h4 => cases hf
  | atF h1 h2 => cases hf
  | par h1 h2 h3 => cases hf
  | scr h1 h2 => cases hf
theorem toDs_ok {s0 : Ss} (h0 : ∀ o ∈ L0, o ∈ L) (S0 : SR E s0.w L s0.st s0.H) (R0 : ER E xb L0 s0.w L s0.st s0.H env σ) : ∀ {ss : List SV} {vs : List V} {w : Wd} {st : Sto} {r : Out (List D)}, SR E w L st H → ER E xb L0 w L st H env σ → Fr E L s0 ⟨w, st, H⟩ → VRs E L0 w st H env σ s0.H vs ss → toDs ss st = some r →
    ∃ xs st' w', r = .ok xs st' ∧ SR E w' L st' H ∧ ER E xb L0 w' L st' H env σ ∧ Fr E L s0 ⟨w', st', H⟩ ∧ w.ad <+: w'.ad ∧ RvA E w'.ad H vs xs
  | [], _, w, st, r, S, R, f, .nil, h => ⟨[], st, w, ok_inj h, S, R, f, List.prefix_refl _, .nil⟩
  | s :: ss, _, w, st, r, S, R, f, .cons (v := v) (vs := vs) hv ht hd, h => by
    have h' : rb (toD s st) (fun x st => rb (toDs ss st) fun xs st => ok (x :: xs) st) = some r := h
    cases e1 : toD s st with
    | none => rw [e1] at h'; cases h'
    | some r1 =>
      obtain ⟨x, st1, w1, rfl, S1, R1, f1, p1, q1, ho, hz, hl⟩ := toD_ok h0 S0 R0 S R f hv e1
      rw [e1] at h'
      have h2 : rb (toDs ss st1) (fun xs st => ok (x :: xs) st) = some r := h'
      cases e2 : toDs ss st1 with
      | none => rw [e2] at h2; cases h2
      | some r2 =>
        have ht' : VRs E L0 w1 st1 H env σ s0.H vs ss := by
          have ff := toDs_fit e2
          clear h h' h2 e2
          induction ht with
          | nil => exact .nil
          | cons hv' ht' hd' ih =>
            refine .cons (hv'.to p1 (ff _ List.mem_cons_self) (fun q x e k n z => ?_) hz) (ih (fun a x e1 e2 k => hd a x e1 e2 ?_) fun s hs => ff s (List.mem_cons_of_mem _ hs)) hd'
            · rcases ho q z with z | ⟨e3, y, e4⟩
              · exact n z
              · exact hd q y e3 e4 ⟨0, x, by simp [e], by simp [k]⟩
            · obtain ⟨i, y, k1, k2⟩ := k
              exact ⟨i + 1, y, by simpa using k1, by simpa using k2⟩
        obtain ⟨xs, st2, w2, rfl, S2, R2, f2, p2, q2⟩ := toDs_ok h0 S0 R0 S1 R1 f1 ht' e2
        rw [e2] at h2
        exact ⟨x :: xs, st2, w2, ok_inj h2, S2, R2, f2, p1.trans p2, .cons (q1.mono p2 (Tm.rfl' _)) q2⟩
end
end Tv

namespace Tv
open PySem L2
section
variable {E : En} {xb : XB} {w w1 w2 : Wd} {L0 L L' l : List Ow} {st st1 st2 : Sto} {H H1 H2 B B' : Hp} {env : Env} {σ : L2.St} {v : V} {s : SV} {vs : List V} {ss : List SV} {j : Nat} {a : Addr} {P : Prog} {n : Nat} {W : WX} {X : Cx}
/-! ### names, constants -/
theorem se_var {i : Nat} : SE P n E xb W (tVar i) (.var i) := by
  intro L0 L w env st σ H h0 S R r h Q hQ
  have h' : (match env[i]? with
    | some (some (.d x)) => ok (.d x) st
    | some (some (.c .own x)) => ok (.c (.at (.s i)) x) st
    | some (some (.c .par x)) => ok (.c .par x) st
    | some (some (.c .scr x)) => ok (.c .scr x) st
    | _ => none) = some r := h
  split at h'
  · rename_i x e
    obtain ⟨v, h1, h2⟩ := R.ok i _ e
    cases ok_inj h'
    cases h2 with
    | d h2 => exact ⟨v, h1, okr_now hQ S (.d h2)⟩
  · rename_i x e
    obtain ⟨v, h1, h2⟩ := R.ok i _ e
    cases ok_inj h'
    cases h2 with
    | own k1 k2 k3 => exact ⟨_, h1, okr_now hQ S (.atS e h1 k1 k2)⟩
  · rename_i x e
    obtain ⟨v, h1, h2⟩ := R.ok i _ e
    cases ok_inj h'
    cases h2 with
    | par k1 k2 k3 => exact ⟨_, h1, okr_now hQ S (.par k1 k2 k3)⟩
  · rename_i x e
    obtain ⟨v, h1, h2⟩ := R.ok i _ e
    cases ok_inj h'
    cases h2 with
    | scr k1 k2 => exact ⟨_, h1, okr_now hQ S (.scr k1 k2)⟩
  · cases h'
theorem se_cst {v : V} {x : D} (hv : ∀ ad H, Rv E ad H v x) : SE P n E xb W (tC v) (.cst x) := by
  intro L0 L w env st σ H h0 S R r h Q hQ
  cases ok_inj (show ok (SV.d x) st = some r from h)
  exact okr_now hQ S (.d (hv _ _))
theorem se_glob {v : V} {x : D} {g : Str} (hv : ∀ ad H, Rv E ad H v x) : SE P n E xb W (tC v) (.glob g x) := by
  intro L0 L w env st σ H h0 S R r h Q hQ
  cases ok_inj (show ok (SV.d x) st = some r from h)
  exact okr_now hQ S (.d (hv _ _))
/-! ### bools -/
theorem se_neg {ta : TE} {a : Ex} (ha : SE P n E xb W ta a) : SE P n E xb W (tUn (rU fun i => .int (-i)) ta) (.neg a) := by
  intro L0 L w env st σ H h0 S R r h Q hQ
  show ta σ H fun x H1 => rU (fun i => .int (-i)) x H1 Q
  refine sg_go ha h0 S R h hQ fun u st1 w1 H1 x S1 R1 f1 v1 h hQ => ?_
  split at h
  · cases ok_inj h
    rw [v1.int]
    exact ⟨_, rfl, okr_now hQ S1 (.d (.int _))⟩
  · cases h
theorem se_not {ta : TE} {a : Ex} (ha : SE P n E xb W ta a) : SE P n E xb W (tNotV ta) (.not a) := by
  intro L0 L w env st σ H h0 S R r h Q hQ
  show ta σ H fun x H1 => ∃ c, x = .bl c ∧ Q (.bl (!c)) H1
  refine sg_go ha h0 S R h hQ fun u st1 w1 H1 x S1 R1 f1 v1 h hQ => ?_
  split at h
  · cases ok_inj h
    exact ⟨_, v1.bl, okr_now hQ S1 (.d (.bl _))⟩
  · cases h
theorem se_and {ta tb : TE} {a b : Ex} (ha : SE P n E xb W ta a) (hb : SE P n E xb W tb b) : SE P n E xb W (tAndV ta tb) (.and a b) := by
  intro L0 L w env st σ H h0 S R r h Q hQ
  show ta σ H fun x H1 => ∃ c, x = .bl c ∧ if c = true then tb σ H1 Q else Q (.bl false) H1
  refine sg_go ha h0 S R h hQ fun u st1 w1 H1 x S1 R1 f1 v1 h hQ => ?_
  split at h
  · refine ⟨true, v1.bl, ?_⟩
    rw [if_pos rfl]
    refine sg_go hb h0 S1 R1 h hQ fun u st2 w2 H2 y S2 R2 f2 v2 h hQ => ?_
    split at h
    · cases ok_inj h
      exact okr_now hQ S2 (v2.base f1.dom)
    · cases h
  · cases ok_inj h
    refine ⟨false, v1.bl, ?_⟩
    rw [if_neg Bool.false_ne_true]
    exact okr_now hQ S1 (.d (.bl _))
  · cases h
theorem se_or {ta tb : TE} {a b : Ex} (ha : SE P n E xb W ta a) (hb : SE P n E xb W tb b) : SE P n E xb W (tOrV ta tb) (.or a b) := by
  intro L0 L w env st σ H h0 S R r h Q hQ
  show ta σ H fun x H1 => ∃ c, x = .bl c ∧ if c = true then Q (.bl true) H1 else tb σ H1 Q
  refine sg_go ha h0 S R h hQ fun u st1 w1 H1 x S1 R1 f1 v1 h hQ => ?_
  split at h
  · refine ⟨false, v1.bl, ?_⟩
    rw [if_neg Bool.false_ne_true]
    refine sg_go hb h0 S1 R1 h hQ fun u st2 w2 H2 y S2 R2 f2 v2 h hQ => ?_
    split at h
    · cases ok_inj h
      exact okr_now hQ S2 (v2.base f1.dom)
    · cases h
  · cases ok_inj h
    refine ⟨true, v1.bl, ?_⟩
    rw [if_pos rfl]
    exact okr_now hQ S1 (.d (.bl _))
  · cases h
theorem se_ite {tt : TT} {ta tb : TE} {t : Tx} {a b : Ex} (ht : STe P n E xb W tt t) (ha : SE P n E xb W ta a) (hb : SE P n E xb W tb b) : SE P n E xb W (tIf tt ta tb) (.ite t a b) := by
  intro L0 L w env st σ H h0 S R r h Q hQ
  show tt σ H fun c H1 => if c = true then ta σ H1 Q else tb σ H1 Q
  refine sg_go ht h0 S R h hQ fun u st1 w1 H1 x S1 R1 f1 v1 h hQ => ?_
  subst v1
  have fin : ∀ {tc : TE} {e : Ex}, SE P n E xb W tc e → ev (P.cl (P.call n) L) e env st1 = some r → tc σ H1 Q := fun {tc e} hc h =>
    hc L0 L w1 env st1 σ H1 h0 S1 R1 r h Q (hQ.from (Fr.rfl' _) fun w' st' H' b a z => z.base f1.dom)
  cases x with
  | true => rw [if_pos rfl]; exact fin ha h
  | false => rw [if_neg Bool.false_ne_true]; exact fin hb h
/-! ### tests -/
theorem st_test {te : TE} {e : Ex} (h : SE P n E xb W te e) (hb : ∀ c env st u st', ev c e env st = some (.ok u st') → ∃ b, u = .d (.bl b)) : STe P n E xb W (tTest te) (.val e) := by
  intro L0 L w env st σ H h0 S R r h2 Q hQ
  show te σ H fun x H' => ∃ k, x = .bl k ∧ Q k H'
  have h2' : rb (ev (P.cl (P.call n) L) e env st) (fun u st => match truth u st with | some b => ok b st | none => none) = some r := h2
  cases e1 : ev (P.cl (P.call n) L) e env st with
  | none => rw [e1] at h2'; cases h2'
  | some o =>
    rw [e1] at h2'
    refine h L0 L w env st σ H h0 S R o e1 _ ?_
    cases o with
    | ok u st1 =>
      intro w1 H1 x S1 f1 v1
      obtain ⟨b, rfl⟩ := hb _ _ _ _ _ e1
      cases ok_inj (show ok b st1 = some r from h2')
      exact ⟨b, v1.bl, hQ w1 H1 b S1 f1 rfl⟩
    | ex x st1 =>
      cases (show some (Out.ex x st1) = some r from h2')
      exact hQ
theorem st_not {tt : TT} {t : Tx} (h : STe P n E xb W tt t) : STe P n E xb W (tNot tt) (.not t) := by
  intro L0 L w env st σ H h0 S R r h2 Q hQ
  show tt σ H fun c H1 => Q (!c) H1
  refine sg_go h h0 S R h2 hQ fun u st1 w1 H1 x S1 R1 f1 v1 h hQ => ?_
  subst v1
  cases ok_inj h
  exact okr_now hQ S1 rfl
theorem st_and {tt tu : TT} {t u : Tx} (h : STe P n E xb W tt t) (hu : STe P n E xb W tu u) : STe P n E xb W (tAnd tt tu) (.and t u) := by
  intro L0 L w env st σ H h0 S R r h2 Q hQ
  show tt σ H fun c H1 => if c = true then tu σ H1 Q else Q false H1
  refine sg_go h h0 S R h2 hQ fun y st1 w1 H1 x S1 R1 f1 v1 h hQ => ?_
  subst v1
  cases x with
  | true => rw [if_pos rfl]; exact hu L0 L w1 env st1 σ H1 h0 S1 R1 r h Q hQ
  | false =>
    rw [if_neg Bool.false_ne_true]
    cases ok_inj h
    exact okr_now hQ S1 rfl
theorem st_or {tt tu : TT} {t u : Tx} (h : STe P n E xb W tt t) (hu : STe P n E xb W tu u) : STe P n E xb W (tOr tt tu) (.or t u) := by
  intro L0 L w env st σ H h0 S R r h2 Q hQ
  show tt σ H fun c H1 => if c = true then Q true H1 else tu σ H1 Q
  refine sg_go h h0 S R h2 hQ fun y st1 w1 H1 x S1 R1 f1 v1 h hQ => ?_
  subst v1
  cases x with
  | false => rw [if_neg Bool.false_ne_true]; exact hu L0 L w1 env st1 σ H1 h0 S1 R1 r h Q hQ
  | true =>
    rw [if_pos rfl]
    cases ok_inj h
    exact okr_now hQ S1 rfl
/-! truth of any value -/
def TruX (K : PySem.W.Frag) (x : V) (H : Hp) (k : Bool) : Prop := TruV K x H k ∨ ∃ a kvs, x = .ref a ∧ Rd H a (.dK kvs) ∧ k = !kvs.isEmpty
def tTruX (K : PySem.W.Frag) (ta : TE) : TT := fun σ H Q => ta σ H fun x H' => ∃ k, TruX K x H' k ∧ Q k H'
theorem pt_truX {e : Expr} {ta : TE} (ha : PE X e ta) (he : ∀ whole, isTrue e X.env whole = (do let v ← whole; standAt e.pos; holding [v] (truthy v))) : PT X e (tTruX X.K ta) := by
  refine ⟨fun pins s σ H Q I h => ?_⟩
  refine PyProof.Rows.isTrue_plain (thn (ha.run pins s σ H _ I h) fun v s1 ⟨x, H1, I1, r1, q1⟩ => ?_) (he _)
  obtain ⟨k, h1 | ⟨a, kvs, rfl, h1, rfl⟩, h2⟩ := q1
  · exact tru_ok pins s1 σ H1 x v Q I1 r1 ⟨k, h1, h2⟩
  · obtain rfl : v = Value.ref a := r1
    exact d_truth I1 h1 fun s' I' => ⟨H1, I', h2⟩
theorem empty_len {α β : Type} {xs : List α} {ys : List β} (h : xs.length = ys.length) : (!xs.isEmpty) = !ys.isEmpty := by
  cases xs <;> cases ys <;> first | rfl | (simp at h)
theorem tru_sound {x : V} {u : SV} {b : Bool} (S : SR E w L st H) (hx : VR E L0 w st H env σ B x u) (h : truth u st = some b) : TruX E.K x H b := by
  unfold truth at h
  split at h
  · cases h; rw [hx.bl]; exact .inl rfl
  · cases h; rw [hx.non]; exact .inl rfl
  · cases h; rw [hx.int]; refine .inl ?_; rename_i i; show decide (i ≠ 0) = (i != 0); rw [decide_not]; rfl
  · split at h
    · rename_i z hz
      cases h
      rw [hx.str]
      refine .inl ⟨hz, ?_⟩
      rw [Bool.eq_iff_iff]
      simp only [decide_eq_true_eq, bne_iff_ne]
      omega
    · cases h
  · cases h
    obtain ⟨a, vs, rfl, h1, h2⟩ := hx.tup
    exact .inl (.inr (.inl ⟨vs, h1.sq, (empty_len h2.length).symm⟩))
  · split at h
    · rename_i xs e
      cases h
      obtain ⟨a, vs, rfl, h1, h2⟩ := hx.lst S e
      exact .inl (.inl ⟨vs, h1, (empty_len h2.length).symm⟩)
    · rename_i kvs e
      cases h
      obtain ⟨a, ps, rfl, h1, h2⟩ := hx.dic S e
      refine .inr ⟨a, ps, rfl, h1, (empty_len ?_).symm⟩
      have := congrArg List.length h2.1
      simpa using this
    · cases h
    · cases h
theorem st_truth {te : TE} {e : Ex} (h : SE P n E xb W te e) : STe P n E xb W (tTruX E.K te) (.val e) := by
  intro L0 L w env st σ H h0 S R r h2 Q hQ
  show te σ H fun x H' => ∃ k, TruX E.K x H' k ∧ Q k H'
  refine sg_go h h0 S R h2 hQ fun u st1 w1 H1 x S1 R1 f1 v1 h hQ => ?_
  split at h
  · rename_i b e1
    cases ok_inj h
    exact ⟨b, tru_sound S1 v1 e1, okr_now hQ S1 rfl⟩
  · cases h
theorem st_yes : STe P n E xb W tYes .yes := by
  intro L0 L w env st σ H h0 S R r h Q hQ
  cases ok_inj (show ok true st = some r from h)
  exact okr_now hQ S rfl
/-! ### displays -/
theorem se_tup {ta : TA} {es : Exs} (h : SA P n E xb W ta es) : SE P n E xb W (tTup ta) (.tup es) := by
  intro L0 L w env st σ H h0 S R r h2 Q hQ
  show ta σ H fun xs H1 => xs.length ≤ sizeLine ∧ ∀ p, H1 p = none → Q (.ref p) (upd H1 p (.tup xs))
  refine sg_go h h0 S R h2 hQ fun as st1 w1 H1 vs S1 R1 f1 v1 h hQ' => ?_
  cases e : toDs as st1 with
  | none => rw [e] at h; cases h
  | some o =>
    obtain ⟨xs, st2, w2, rfl, S2, R2, f2, p2, q2⟩ := toDs_ok (s0 := ⟨w, st, H⟩) h0 S R S1 R1 f1 v1 e
    rw [e] at h
    have h' : (if xs.length ≤ sizeLine then ok (SV.d (.tup xs)) st2 else none) = some r := h
    split at h'
    · rename_i hl
      cases ok_inj h'
      exact ⟨by rw [q2.length]; exact hl, fun p hp => hQ w2 _ _ (S2.lay hp) (f2.tr (Fr.lay S2 hp)) (vr_tup hp q2)⟩
    · cases h'
theorem se_lst {ta : TA} {es : Exs} (h : SA P n E xb W ta es) : SE P n E xb W (tLst ta) (.lst es) := by
  intro L0 L w env st σ H h0 S R r h2 Q hQ
  show ta σ H fun xs H1 => xs.length ≤ sizeLine ∧ ∀ p, H1 p = none → Q (.ref p) (upd H1 p (.lst xs))
  refine sg_go h h0 S R h2 hQ fun as st1 w1 H1 vs S1 R1 f1 v1 h hQ' => ?_
  cases e : toDs as st1 with
  | none => rw [e] at h; cases h
  | some o =>
    obtain ⟨xs, st2, w2, rfl, S2, R2, f2, p2, q2⟩ := toDs_ok (s0 := ⟨w, st, H⟩) h0 S R S1 R1 f1 v1 e
    rw [e] at h
    have h' : (if xs.length ≤ sizeLine then ok (SV.c .own (.l xs)) st2 else none) = some r := h
    split at h'
    · rename_i hl
      cases ok_inj h'
      exact ⟨by rw [q2.length]; exact hl, fun p hp => hQ w2 _ _ (S2.lay hp) (f2.tr (Fr.lay S2 hp)) ((vr_new S2 hp q2).base f1.dom)⟩
    · cases h'
end
end Tv

namespace Tv
open PySem L2 PySem.Spec PyProof.Rows
section
variable {E : En} {xb : XB} {w w1 w2 : Wd} {L0 L L' l : List Ow} {st st1 st2 : Sto} {H H1 H2 B B' : Hp} {env : Env} {σ : L2.St} {v : V} {s : SV} {vs : List V} {ss : List SV} {j : Nat} {a : Addr} {P : Prog} {n : Nat} {W : WX} {X : Cx}
/-! ### functions of Python's own -/
abbrev RC := List V → Hp → VK → Prop
theorem cr_or {f : Value} {r r' : RC} (h : CallR X f r) (h' : CallR X f r') : CallR X f (fun xs H Q => r xs H Q ∨ r' xs H Q) := by
  intro pins s σ H xs us Q I rx q
  rcases q with q | q
  · exact h pins s σ H xs us Q I rx q
  · exact h' pins s σ H xs us Q I rx q
def CaS (E : En) (r : RC) (f : List SV → Sto → Res SV) : Prop := ∀ (L0 L : List Ow) (w : Wd) (env : Env) (st : Sto) (σ : L2.St) (H : Hp) (vs : List V) (ss : List SV) (B : Hp), SR E w L st H → VRs E L0 w st H env σ B vs ss → (∀ p, H p = none → B p = none) →
  ∀ r', f ss st = some r' → ∀ (W : WX) (Q : VK), OkR E W L w st σ H (fun w' st' H' b a => VR E L0 w' st' H' env σ B b a) Q r' → r vs H Q
theorem se_cb {r : RC} {f : List SV → Sto → Res SV} {ta : TA} {e : Ex} {es : Exs} (hf : CaS E r f) (ha : SA P n E xb W ta es) (he : ∀ c env st, ev c e env st = rb (evs c es env st) fun as st => f as st) : SE P n E xb W (tCB r ta) e := by
  intro L0 L w env st σ H h0 S R r' h Q hQ
  show ta σ H fun vs H1 => r vs H1 Q
  refine sg_go ha h0 S R ((he _ _ _).symm.trans h) hQ fun us st1 w1 H1 vs S1 R1 f1 v1 h hQ => ?_
  exact hf L0 L w1 env st1 σ H1 vs us H S1 v1 f1.dom _ h W Q hQ
theorem vrs1 {u : SV} (h : VRs E L0 w st H env σ B vs [u]) : ∃ x, vs = [x] ∧ VR E L0 w st H env σ B x u := by
  cases h with
  | cons h t _ => cases t; exact ⟨_, rfl, h⟩
theorem vrs2 {u z : SV} (h : VRs E L0 w st H env σ B vs [u, z]) : ∃ x y, vs = [x, y] ∧ VR E L0 w st H env σ B x u ∧ VR E L0 w st H env σ B y z := by
  cases h with
  | cons h t _ =>
    cases t with
    | cons h2 t _ => cases t; exact ⟨_, _, rfl, h, h2⟩
theorem call_lenD : CallR X (.builtin "len") (fun xs H Q => ∃ (a : Addr) (kvs : List (Key × V)), xs = [.ref a] ∧ Rd H a (.dK kvs) ∧ Q (.int kvs.length) H) := by
  intro pins s σ H xs us Q I r q
  obtain ⟨a, kvs, ex, hd, q⟩ := q
  subst ex
  obtain ⟨u, eu, rx⟩ := vals1 r
  subst eu
  cases rx
  exact d_len I hd fun t s' I' => ⟨.int kvs.length, H, I', ⟨_, rfl⟩, q⟩
def rLenX (K : PySem.W.Frag) : RC := fun xs H Q => (∃ p ys, xs = [.ref p] ∧ (SqL K H p ys ∨ SqT K H p ys) ∧ Q (.int ys.length) H) ∨ (∃ z, xs = [.str z] ∧ z.length ≤ sizeLine ∧ Q (.int z.length) H) ∨ ∃ (a : Addr) (kvs : List (Key × V)), xs = [.ref a] ∧ Rd H a (.dK kvs) ∧ Q (.int kvs.length) H
theorem c_len : CallR X (.builtin "len") (rLenX X.K) := cr_or call_len_seq (cr_or call_len_str call_lenD)
theorem rkv_len {κ : Type} {ad : List Addr} {ps : List (κ × V)} {kvs : List (κ × D)} (h : Rkv E ad H ps kvs) : ps.length = kvs.length := by
  have := congrArg List.length h.1
  simpa using this
theorem cs_len : CaS E (rLenX E.K) (biF .len) := by
  intro L0 L w env st σ H vs ss B S hv hB r' h W Q hQ
  unfold biF at h
  split at h <;> try (rename_i e; cases e; done)
  all_goals try (cases h; done)
  all_goals rename_i u _
  obtain ⟨x, rfl, hx⟩ := vrs1 hv
  split at h
  · cases ok_inj h
    obtain ⟨a, vs, rfl, h1, h2⟩ := hx.tup
    exact .inl ⟨a, vs, rfl, .inr h1.sq, by rw [h2.length]; exact okr_now hQ S (.d (.int _))⟩
  · split at h
    · rename_i z hz
      cases ok_inj h
      rw [hx.str]
      exact .inr (.inl ⟨z, rfl, hz, okr_now hQ S (.d (.int _))⟩)
    · cases h
  · split at h
    · rename_i xs e
      cases ok_inj h
      obtain ⟨a, vs, rfl, h1, h2⟩ := hx.lst S e
      exact .inl ⟨a, vs, rfl, .inl h1, by rw [h2.length]; exact okr_now hQ S (.d (.int _))⟩
    · rename_i kvs e
      cases ok_inj h
      obtain ⟨a, ps, rfl, h1, h2⟩ := hx.dic S e
      exact .inr (.inr ⟨a, ps, rfl, h1, by rw [rkv_len h2]; exact okr_now hQ S (.d (.int _))⟩)
    · cases h
def rInt1 : RC := fun xs H Q => (∃ i, xs = [.int i] ∧ Q (.int i) H) ∨ ∃ k, xs = [.bl k] ∧ Q (.int (if k then 1 else 0)) H
theorem c_int : CallR X (.type "int") rInt1 := call_int1
theorem cs_int : CaS E rInt1 (biF .int) := by
  intro L0 L w env st σ H vs ss B S hv hB r' h W Q hQ
  unfold biF at h
  split at h <;> try (rename_i e; cases e; done)
  all_goals try (cases h; done)
  · obtain ⟨x, rfl, hx⟩ := vrs1 hv
    cases ok_inj h
    rw [hx.int]
    exact .inl ⟨_, rfl, okr_now hQ S (.d (.int _))⟩
  · obtain ⟨x, rfl, hx⟩ := vrs1 hv
    cases ok_inj h
    rw [hx.bl]
    exact .inr ⟨_, rfl, okr_now hQ S (.d (.int _))⟩
/-! list(x) -/
def rListX (K : PySem.W.Frag) : RC := fun xs H Q => (∃ p ys, xs = [.ref p] ∧ (SqL K H p ys ∨ SqT K H p ys) ∧ ∀ l, H l = none → Q (.ref l) (upd H l (.lst ys))) ∨ ∃ (a : Addr) (kvs : List (Key × V)), xs = [.ref a] ∧ Rd H a (.dK kvs) ∧ ∀ p, H p = none → Q (.ref p) (upd H p (.lst (kvs.map fun kv => kV kv.1)))
theorem c_list (hc : X.calm = true) : CallR X (.type "list") (rListX X.K) := cr_or call_list_of (call_listD hc)
theorem rv_key {ad : List Addr} (k : Key) : Rv E ad H (kV k) (keyD k) := by
  cases k with
  | inl i => exact .int i
  | inr x => exact .str x
theorem rva_keys {ad : List Addr} : ∀ {ps : List (Key × V)} {kvs : List (Key × D)}, ps.map (·.1) = kvs.map (·.1) → RvA E ad H (ps.map fun kv => kV kv.1) (kvs.map fun p => keyD p.1)
  | [], [], _ => .nil
  | p :: ps, q :: kvs, h => by
    have h1 := List.cons.inj h
    have h2 : p.1 = q.1 := h1.1
    rw [List.map_cons, List.map_cons, h2]
    exact .cons (rv_key _) (rva_keys h1.2)
  | [], q :: kvs, h => by simp at h
  | p :: ps, [], h => by simp at h
theorem cs_list : CaS E (rListX E.K) (biF .list) := by
  intro L0 L w env st σ H vs ss B S hv hB r' h W Q hQ
  unfold biF at h
  split at h <;> try (rename_i e; cases e; done)
  all_goals try (cases h; done)
  all_goals rename_i u _
  obtain ⟨x, rfl, hx⟩ := vrs1 hv
  split at h
  · cases ok_inj h
    obtain ⟨a, vs, rfl, h1, h2⟩ := hx.tup
    exact .inl ⟨a, vs, rfl, .inr h1.sq, fun p hp => okr_lay hQ S hp ((vr_new S hp h2).base hB)⟩
  · split at h
    · rename_i xs e
      cases ok_inj h
      obtain ⟨a, vs, rfl, h1, h2⟩ := hx.lst S e
      exact .inl ⟨a, vs, rfl, .inl h1, fun p hp => okr_lay hQ S hp ((vr_new S hp h2).base hB)⟩
    · rename_i kvs e
      cases ok_inj h
      obtain ⟨a, ps, rfl, h1, h2⟩ := hx.dic S e
      exact .inr ⟨a, ps, rfl, h1, fun p hp => okr_lay hQ S hp ((vr_new S hp (rva_keys h2.1)).base hB)⟩
    · cases h
def rTupX (K : PySem.W.Frag) : RC := fun xs H Q => ∃ p ys, xs = [.ref p] ∧ ((SqL K H p ys ∧ ∀ l, H l = none → Q (.ref l) (upd H l (.tup ys))) ∨ (SqT K H p ys ∧ Q (.ref p) H))
theorem c_tuple : CallR X (.type "tuple") (rTupX X.K) := call_tuple_of
theorem cs_tuple : CaS E (rTupX E.K) (biF .tuple) := by
  intro L0 L w env st σ H vs ss B S hv hB r' h W Q hQ
  unfold biF at h
  split at h <;> try (rename_i e; cases e; done)
  all_goals try (cases h; done)
  all_goals rename_i u _
  obtain ⟨x, rfl, hx⟩ := vrs1 hv
  split at h
  · cases ok_inj h
    obtain ⟨a, vs, rfl, h1, h2⟩ := hx.tup
    exact ⟨a, vs, rfl, .inr ⟨h1.sq, okr_now hQ S (.d (.tup h1 h2))⟩⟩
  · split at h
    · rename_i xs e
      cases ok_inj h
      obtain ⟨a, vs, rfl, h1, h2⟩ := hx.lst S e
      exact ⟨a, vs, rfl, .inl ⟨h1, fun p hp => okr_lay hQ S hp (vr_tup hp h2)⟩⟩
    · cases h
/-! max, min, sum, all, any -/
theorem allInt_inv {xs : List D} {ns : List Int} (h : allInt xs = some ns) : xs = ns.map D.int := by
  unfold allInt at h
  split at h
  · rename_i ha
    cases h
    rw [List.map_map]
    symm
    induction xs with
    | nil => rfl
    | cons x xs ih =>
      rw [List.all_cons, Bool.and_eq_true] at ha
      rw [List.map_cons, ih ha.2]
      cases x with
      | int i => rfl
      | _ => exact absurd (show false = true from ha.1) Bool.false_ne_true
  · cases h
theorem allBl_inv {xs : List D} {ns : List Bool} (h : allBl xs = some ns) : xs = ns.map D.bl := by
  unfold allBl at h
  split at h
  · rename_i ha
    cases h
    rw [List.map_map]
    symm
    induction xs with
    | nil => rfl
    | cons x xs ih =>
      rw [List.all_cons, Bool.and_eq_true] at ha
      rw [List.map_cons, ih ha.2]
      cases x with
      | bl i => rfl
      | _ => exact absurd (show false = true from ha.1) Bool.false_ne_true
  · cases h
theorem RvA.bls_of {ad : List Addr} : ∀ {vs : List V} {ns : List Bool}, RvA E ad H vs (ns.map D.bl) → vs = ns.map V.bl
  | _, [], h => by cases h; rfl
  | _, n :: r, h => by
    rw [List.map_cons] at h
    cases h with
    | cons h1 h2 => rw [h1.bl_of, RvA.bls_of h2, List.map_cons]
theorem c_sum (hc : X.calm = true) : CallR X (.builtin "sum") (rSum X.K) := cr_sum hc
theorem c_all (hc : X.calm = true) : CallR X (.builtin "all") (rAll X.K) := cr_all hc
theorem c_any (hc : X.calm = true) : CallR X (.builtin "any") (rAny X.K) := cr_any hc
theorem cs_sum : CaS E (rSum E.K) (biF .sum) := by
  intro L0 L w env st σ H vs ss B S hv hB r' h W Q hQ
  unfold biF at h
  split at h <;> try (rename_i e; cases e; done)
  all_goals try (cases h; done)
  all_goals rename_i u _
  obtain ⟨x, rfl, hx⟩ := vrs1 hv
  split at h
  · rename_i xs e
    split at h
    · rename_i ns e2
      cases ok_inj h
      obtain ⟨a, vs, rfl, h1, h2⟩ := hx.lst S e
      rw [allInt_inv e2] at h2
      have e3 := h2.ints_of
      subst e3
      exact ⟨a, ns, rfl, h1, okr_now hQ S (.d (.int _))⟩
    · cases h
  · cases h
theorem cs_all : CaS E (rAll E.K) (biF .all) := by
  intro L0 L w env st σ H vs ss B S hv hB r' h W Q hQ
  unfold biF at h
  split at h <;> try (rename_i e; cases e; done)
  all_goals try (cases h; done)
  all_goals rename_i u _
  obtain ⟨x, rfl, hx⟩ := vrs1 hv
  split at h
  · rename_i xs e
    split at h
    · rename_i ns e2
      cases ok_inj h
      obtain ⟨a, vs, rfl, h1, h2⟩ := hx.lst S e
      rw [allBl_inv e2] at h2
      have e3 := h2.bls_of
      subst e3
      exact ⟨a, ns, rfl, h1, okr_now hQ S (.d (.bl _))⟩
    · cases h
  · cases h
theorem cs_any : CaS E (rAny E.K) (biF .any) := by
  intro L0 L w env st σ H vs ss B S hv hB r' h W Q hQ
  unfold biF at h
  split at h <;> try (rename_i e; cases e; done)
  all_goals try (cases h; done)
  all_goals rename_i u _
  obtain ⟨x, rfl, hx⟩ := vrs1 hv
  split at h
  · rename_i xs e
    split at h
    · rename_i ns e2
      cases ok_inj h
      obtain ⟨a, vs, rfl, h1, h2⟩ := hx.lst S e
      rw [allBl_inv e2] at h2
      have e3 := h2.bls_of
      subst e3
      exact ⟨a, ns, rfl, h1, okr_now hQ S (.d (.bl _))⟩
    · cases h
  · cases h
/-! max(xs), min(xs) of a tuple of ints -/
theorem iter_intTup {prog : Program} {w : World} {A : Around} {E : Value → Shared → Prop} {s : Shared} {l : Addr} {xs : Array (Int × Tok)} {Q : Value → Shared → Prop} (hl : s.heap.IsTuple l (intItems xs))
    (h : ∀ s₂ : Shared, s₂ = { s with heap := s.heap.push { cls := .type "tuple_iterator", data := .fields #[.ref l, .int 0 0] } } →
      (s₂.heap.IsTupleIter s.heap.objs.size l 0 ∧ s₂.heap.IsTuple l (intItems xs)) → (∀ b ∈ [s.heap.objs.size, l], b < s₂.heap.objs.size) → l ≠ s.heap.objs.size → Q (.ref s.heap.objs.size) s₂) :
    wpAny (model prog w) A (pyIter (.ref l)) Q E s := by
  have hlt : l < s.heap.objs.size := by obtain ⟨_, e, _⟩ := hl; exact Heap.lt_size e
  refine wpAny_pyIter_tuple hl (h _ rfl ⟨⟨_, Heap.get?_push_size _ rfl, rfl, rfl⟩, hl.push _⟩ (fun b hb => ?_) (Nat.ne_of_lt hlt))
  show b < (s.heap.push _).objs.size
  rw [Heap.size_push]
  rcases List.mem_cons.mp hb with rfl | hb
  · exact Nat.lt_succ_self _
  · rcases List.mem_cons.mp hb with rfl | hb
    · exact Nat.lt_succ_of_lt hlt
    · cases hb
theorem old_keptT {s : Shared} {l : Addr} {h' : Heap} (hk : ∀ b o, b ∉ [s.heap.objs.size] → (s.heap.push { cls := .type "tuple_iterator", data := .fields #[.ref l, .int 0 0] }).get? b = some o → h'.get? b = some o) :
    ∀ b o, s.heap.get? b = some o → h'.get? b = some o := fun b o e => by
  refine hk b o (fun hm => ?_) (Heap.get?_push_of_some _ e)
  rcases List.mem_cons.mp hm with e1 | hm
  · exact absurd (e1 ▸ Heap.lt_size e) (Nat.lt_irrefl _)
  · cases hm
theorem max_rawT {prog : Program} {w : World} {A : Around} {E : Value → Shared → Prop} {s : Shared} {l : Addr} {its : List Value} {ns : List Int} {Q : Value → Shared → Prop} (hh : A.handled = none) (hl : s.heap.IsTuple l its.toArray) (hi : IntsAre its ns) (hne : 0 < ns.length)
    (h : ∀ h' tk M t', (∀ b o, s.heap.get? b = some o → h'.get? b = some o) → M ∈ ns → (∀ a, a ∈ ns → a ≤ M) → Q (.int M t') { s with heap := h', toks := tk }) : wpAny (model prog w) A (call (.builtin "max") [.ref l]) Q E s := by
  obtain ⟨xs, e⟩ := hi.allInts.items
  have hn : numsOf (intItems xs).toList = ns := by rw [← e]; exact hi.numsOf
  rw [nums_intItems] at hn
  subst hn
  rw [e] at hl
  have hsz : 0 < xs.size := by simpa using hne
  refine call_max_walk (iter_intTup hl fun s₂ e st hfp hlI => ?_)
  subst e
  refine ⟨_, _, _, _, _, _, _, rfl, Walks.tuple (A := A.in1) hh _ l hlI (intItems xs), st, hfp, by simpa [intItems] using hsz, CmpOf.ints_gt (numAt xs) (fun _ _ => intItems_at), fun v h' tk hP hk => ?_⟩
  have hv : (intItems xs)[argBest (fun i j => decide (numAt xs i > numAt xs j)) (xs.size - 1)]? = some v := by simpa [intItems] using hP
  obtain ⟨t, rfl⟩ := intItems_at hv
  obtain ⟨h1, h2⟩ := argBest_gt (numAt xs) (xs.size - 1)
  refine h h' tk _ t (old_keptT hk) ?_ fun a ha => ?_
  · rw [numAt_eq]; exact PySem.getD_mem (by rw [List.length_map, Array.length_toList]; omega)
  · obtain ⟨j, hj, rfl⟩ := mem_getD ha
    rw [List.length_map, Array.length_toList] at hj
    rw [← numAt_eq]; exact h2 j (by omega)
theorem min_rawT {prog : Program} {w : World} {A : Around} {E : Value → Shared → Prop} {s : Shared} {l : Addr} {its : List Value} {ns : List Int} {Q : Value → Shared → Prop} (hh : A.handled = none) (hl : s.heap.IsTuple l its.toArray) (hi : IntsAre its ns) (hne : 0 < ns.length)
    (h : ∀ h' tk M t', (∀ b o, s.heap.get? b = some o → h'.get? b = some o) → M ∈ ns → (∀ a, a ∈ ns → M ≤ a) → Q (.int M t') { s with heap := h', toks := tk }) : wpAny (model prog w) A (call (.builtin "min") [.ref l]) Q E s := by
  obtain ⟨xs, e⟩ := hi.allInts.items
  have hn : numsOf (intItems xs).toList = ns := by rw [← e]; exact hi.numsOf
  rw [nums_intItems] at hn
  subst hn
  rw [e] at hl
  have hsz : 0 < xs.size := by simpa using hne
  refine call_min_walk (iter_intTup hl fun s₂ e st hfp hlI => ?_)
  subst e
  refine ⟨_, _, _, _, _, _, _, rfl, Walks.tuple (A := A.in1) hh _ l hlI (intItems xs), st, hfp, by simpa [intItems] using hsz, CmpOf.ints_lt (numAt xs) (fun _ _ => intItems_at), fun v h' tk hP hk => ?_⟩
  have hv : (intItems xs)[argBest (fun i j => decide (numAt xs i < numAt xs j)) (xs.size - 1)]? = some v := by simpa [intItems] using hP
  obtain ⟨t, rfl⟩ := intItems_at hv
  obtain ⟨h1, h2⟩ := argBest_lt (numAt xs) (xs.size - 1)
  refine h h' tk _ t (old_keptT hk) ?_ fun a ha => ?_
  · rw [numAt_eq]; exact PySem.getD_mem (by rw [List.length_map, Array.length_toList]; omega)
  · obtain ⟨j, hj, rfl⟩ := mem_getD ha
    rw [List.length_map, Array.length_toList] at hj
    rw [← numAt_eq]; exact h2 j (by omega)
def rMaxT (K : PySem.W.Frag) : RC := fun vs H Q => ∃ (a : Addr) (ns : List Int), vs = [V.ref a] ∧ SqT K H a (ns.map V.int) ∧ 0 < ns.length ∧ ∀ m, m ∈ ns → (∀ y, y ∈ ns → y ≤ m) → Q (.int m) H
def rMinT (K : PySem.W.Frag) : RC := fun vs H Q => ∃ (a : Addr) (ns : List Int), vs = [V.ref a] ∧ SqT K H a (ns.map V.int) ∧ 0 < ns.length ∧ ∀ m, m ∈ ns → (∀ y, y ∈ ns → m ≤ y) → Q (.int m) H
theorem cr_maxT (hc : X.calm = true) : CallR X (.builtin "max") (rMaxT X.K) := by
  intro pins s σ H vs us Q I r h
  obtain ⟨a, ns, rfl, hs, hne, q⟩ := h
  obtain ⟨its, rv, hl, _⟩ := I.tuple hs
  rw [Vals.ref1 r]
  exact max_rawT (I.ok.hd hc) hl rv.ints hne fun h' tk m t' hk h1 h2 => ⟨.int _, H, I.kept hk, ⟨_, rfl⟩, q m h1 h2⟩
theorem cr_minT (hc : X.calm = true) : CallR X (.builtin "min") (rMinT X.K) := by
  intro pins s σ H vs us Q I r h
  obtain ⟨a, ns, rfl, hs, hne, q⟩ := h
  obtain ⟨its, rv, hl, _⟩ := I.tuple hs
  rw [Vals.ref1 r]
  exact min_rawT (I.ok.hd hc) hl rv.ints hne fun h' tk m t' hk h1 h2 => ⟨.int _, H, I.kept hk, ⟨_, rfl⟩, q m h1 h2⟩
def rMax2 : RC := fun xs H Q => ∃ i j, xs = [.int i, .int j] ∧ Q (.int (if j > i then j else i)) H
def rMin2 : RC := fun xs H Q => ∃ i j, xs = [.int i, .int j] ∧ Q (.int (if j < i then j else i)) H
def rMaxX (K : PySem.W.Frag) : RC := fun xs H Q => rMax2 xs H Q ∨ rMax K xs H Q ∨ rMaxT K xs H Q
def rMinX (K : PySem.W.Frag) : RC := fun xs H Q => rMin2 xs H Q ∨ rMin K xs H Q ∨ rMinT K xs H Q
theorem c_max (hc : X.calm = true) : CallR X (.builtin "max") (rMaxX X.K) := cr_or (call_max2 hc) (cr_or (cr_max hc) (cr_maxT hc))
theorem c_min (hc : X.calm = true) : CallR X (.builtin "min") (rMinX X.K) := cr_or (call_min2 hc) (cr_or (cr_min hc) (cr_minT hc))
theorem maxL_le : ∀ (xs : List Int) (x : Int), x ≤ xs.foldl (fun a b => if b > a then b else a) x ∧ (∀ y ∈ xs, y ≤ xs.foldl (fun a b => if b > a then b else a) x) ∧ (xs.foldl (fun a b => if b > a then b else a) x = x ∨ xs.foldl (fun a b => if b > a then b else a) x ∈ xs)
  | [], x => ⟨Int.le_refl _, fun y hy => (by cases hy), .inl rfl⟩
  | z :: xs, x => by
    obtain ⟨h1, h2, h3⟩ := maxL_le xs (if z > x then z else x)
    have a1 : x ≤ (if z > x then z else x) := by split <;> omega
    have a2 : z ≤ (if z > x then z else x) := by split <;> omega
    rw [List.foldl_cons]
    refine ⟨Int.le_trans a1 h1, fun y hy => ?_, ?_⟩
    · rcases List.mem_cons.mp hy with rfl | hy
      · exact Int.le_trans a2 h1
      · exact h2 y hy
    · rcases h3 with h3 | h3
      · rw [h3]
        split
        · exact .inr List.mem_cons_self
        · exact .inl rfl
      · exact .inr (List.mem_cons_of_mem _ h3)
theorem minL_le : ∀ (xs : List Int) (x : Int), xs.foldl (fun a b => if b < a then b else a) x ≤ x ∧ (∀ y ∈ xs, xs.foldl (fun a b => if b < a then b else a) x ≤ y) ∧ (xs.foldl (fun a b => if b < a then b else a) x = x ∨ xs.foldl (fun a b => if b < a then b else a) x ∈ xs)
  | [], x => ⟨Int.le_refl _, fun y hy => (by cases hy), .inl rfl⟩
  | z :: xs, x => by
    obtain ⟨h1, h2, h3⟩ := minL_le xs (if z < x then z else x)
    have a1 : (if z < x then z else x) ≤ x := by split <;> omega
    have a2 : (if z < x then z else x) ≤ z := by split <;> omega
    rw [List.foldl_cons]
    refine ⟨Int.le_trans h1 a1, fun y hy => ?_, ?_⟩
    · rcases List.mem_cons.mp hy with rfl | hy
      · exact Int.le_trans h1 a2
      · exact h2 y hy
    · rcases h3 with h3 | h3
      · rw [h3]
        split
        · exact .inr List.mem_cons_self
        · exact .inl rfl
      · exact .inr (List.mem_cons_of_mem _ h3)
theorem maxL_eq {ns : List Int} {i m : Int} (e2 : maxL ns = some i) (hm : m ∈ ns) (hle : ∀ y, y ∈ ns → y ≤ m) : m = i := by
  cases ns with
  | nil => cases e2
  | cons n0 ns =>
    cases (show some (ns.foldl (fun a b => if b > a then b else a) n0) = some i from e2)
    obtain ⟨k1, k2, k3⟩ := maxL_le ns n0
    have a1 : m ≤ ns.foldl (fun a b => if b > a then b else a) n0 := by
      rcases List.mem_cons.mp hm with rfl | hm
      · exact k1
      · exact k2 m hm
    have a2 : ns.foldl (fun a b => if b > a then b else a) n0 ≤ m := by
      rcases k3 with k3 | k3
      · rw [k3]; exact hle _ List.mem_cons_self
      · exact hle _ (List.mem_cons_of_mem _ k3)
    omega
theorem maxL_pos {ns : List Int} {i : Int} (e2 : maxL ns = some i) : 0 < ns.length := by
  cases ns with
  | nil => cases e2
  | cons => exact Nat.succ_pos _
theorem cs_max : CaS E (rMaxX E.K) (biF .max) := by
  intro L0 L w env st σ H vs ss B S hv hB r' h W Q hQ
  unfold biF at h
  split at h <;> try (rename_i e; cases e; done)
  all_goals try (cases h; done)
  · obtain ⟨x, y, rfl, hx, hy⟩ := vrs2 hv
    cases ok_inj h
    rw [hx.int, hy.int]
    exact .inl ⟨_, _, rfl, okr_now hQ S (.d (.int _))⟩
  · obtain ⟨x, rfl, hx⟩ := vrs1 hv
    split at h
    · rename_i xs e
      split at h
      · rename_i i e2
        cases ok_inj h
        cases e4 : allInt xs with
        | none => rw [e4] at e2; cases e2
        | some ns =>
          rw [e4] at e2
          unfold lstT at e
          split at e
          · cases e
            obtain ⟨a, vs, rfl, h1, h2⟩ := hx.tup
            rw [allInt_inv e4] at h2
            have e5 := h2.ints_of
            subst e5
            exact .inr (.inr ⟨a, ns, rfl, h1.sq, maxL_pos e2, fun m hm hle => by rw [maxL_eq e2 hm hle]; exact okr_now hQ S (.d (.int _))⟩)
          · split at e
            · rename_i ys e3
              cases e
              obtain ⟨a, vs, rfl, h1, h2⟩ := hx.lst S e3
              rw [allInt_inv e4] at h2
              have e5 := h2.ints_of
              subst e5
              exact .inr (.inl ⟨a, ns, rfl, h1, maxL_pos e2, fun m hm hle => by rw [maxL_eq e2 hm hle]; exact okr_now hQ S (.d (.int _))⟩)
            · cases e
      · cases h
    · cases h
theorem minL_eq {ns : List Int} {i m : Int} (e2 : minL ns = some i) (hm : m ∈ ns) (hle : ∀ y, y ∈ ns → m ≤ y) : m = i := by
  cases ns with
  | nil => cases e2
  | cons n0 ns =>
    cases (show some (ns.foldl (fun a b => if b < a then b else a) n0) = some i from e2)
    obtain ⟨k1, k2, k3⟩ := minL_le ns n0
    have a1 : ns.foldl (fun a b => if b < a then b else a) n0 ≤ m := by
      rcases List.mem_cons.mp hm with rfl | hm
      · exact k1
      · exact k2 m hm
    have a2 : m ≤ ns.foldl (fun a b => if b < a then b else a) n0 := by
      rcases k3 with k3 | k3
      · rw [k3]; exact hle _ List.mem_cons_self
      · exact hle _ (List.mem_cons_of_mem _ k3)
    omega
theorem minL_pos {ns : List Int} {i : Int} (e2 : minL ns = some i) : 0 < ns.length := by
  cases ns with
  | nil => cases e2
  | cons => exact Nat.succ_pos _
theorem cs_min : CaS E (rMinX E.K) (biF .min) := by
  intro L0 L w env st σ H vs ss B S hv hB r' h W Q hQ
  unfold biF at h
  split at h <;> try (rename_i e; cases e; done)
  all_goals try (cases h; done)
  · obtain ⟨x, y, rfl, hx, hy⟩ := vrs2 hv
    cases ok_inj h
    rw [hx.int, hy.int]
    exact .inl ⟨_, _, rfl, okr_now hQ S (.d (.int _))⟩
  · obtain ⟨x, rfl, hx⟩ := vrs1 hv
    split at h
    · rename_i xs e
      split at h
      · rename_i i e2
        cases ok_inj h
        cases e4 : allInt xs with
        | none => rw [e4] at e2; cases e2
        | some ns =>
          rw [e4] at e2
          unfold lstT at e
          split at e
          · cases e
            obtain ⟨a, vs, rfl, h1, h2⟩ := hx.tup
            rw [allInt_inv e4] at h2
            have e5 := h2.ints_of
            subst e5
            exact .inr (.inr ⟨a, ns, rfl, h1.sq, minL_pos e2, fun m hm hle => by rw [minL_eq e2 hm hle]; exact okr_now hQ S (.d (.int _))⟩)
          · split at e
            · rename_i ys e3
              cases e
              obtain ⟨a, vs, rfl, h1, h2⟩ := hx.lst S e3
              rw [allInt_inv e4] at h2
              have e5 := h2.ints_of
              subst e5
              exact .inr (.inl ⟨a, ns, rfl, h1, minL_pos e2, fun m hm hle => by rw [minL_eq e2 hm hle]; exact okr_now hQ S (.d (.int _))⟩)
            · cases e
      · cases h
    · cases h
theorem c_str : CallR X (.type "str") (fun xs H Q => ∃ i, xs = [.int i] ∧ i.natAbs.log2 < 1920 ∧ Q (.str (toString i)) H) := call_str_int
theorem cs_str : CaS E (fun xs H Q => ∃ i, xs = [.int i] ∧ i.natAbs.log2 < 1920 ∧ Q (.str (toString i)) H) (biF .str) := by
  intro L0 L w env st σ H vs ss B S hv hB r' h W Q hQ
  unfold biF at h
  split at h <;> try (rename_i e; cases e; done)
  all_goals try (cases h; done)
  obtain ⟨x, rfl, hx⟩ := vrs1 hv
  split at h
  · rename_i hl
    cases ok_inj h
    rw [hx.int]
    exact ⟨_, rfl, hl, okr_now hQ S (.d (.str _))⟩
  · cases h
/-! isinstance -/
def tyS : Ty → Option String
  | .int => some "int"
  | .bool => some "bool"
  | .str => some "str"
  | .tuple => some "tuple"
  | .list => some "list"
  | .dict => some "dict"
  | .cls _ => none
def rIsiX (K : PySem.W.Frag) (C : Addr) : RC := fun xs H Q => rIsi K xs H Q ∨ ∃ a dx fs, xs = [.ref a, .ref C] ∧ H a = some (.ins C dx fs) ∧ Q (.bl true) H
def kb (a : String) : Ty → Option Bool := fun t => (tyS t).bind (kitB a)
theorem tup_ty {vs : List V} {xs : List D} (h : TuR E H a vs xs) : TyX E.K H (.ref a) (.type "tuple") := by
  rcases h.sq with (h | ⟨o, h⟩) | ⟨o, its, n, h, c, _⟩
  · exact .base (.tup h)
  · exact .fTuple h
  · exact .kTuple h c
theorem sql_ty (h : SqL E.K H a vs) : TyX E.K H (.ref a) (.type "list") := by
  rcases h with (h | ⟨o, h⟩) | ⟨o, its, n, h, c, _⟩
  · exact .base (.lst h)
  · exact .base (.frz h)
  · exact .kList h c
theorem dic_ty {kvs : List (Key × V)} (h : Rd H a (.dK kvs)) : TyX E.K H (.ref a) (.type "dict") := by
  rcases h with h | ⟨o, h⟩
  · exact .base (.dK h)
  · exact .fDict h
theorem kit_all : ∀ t : Ty, ∀ n, tyS t = some n → (kitB "int" n = some (decide (t = .int)) ∧ kitB "bool" n = some (decide (t = .bool ∨ t = .int)) ∧ kitB "str" n = some (decide (t = .str)) ∧ kitB "tuple" n = some (decide (t = .tuple)) ∧ kitB "list" n = some (decide (t = .list)) ∧ kitB "dict" n = some (decide (t = .dict)) ∧ kitB "NoneType" n = some false) := by
  intro t n h
  cases t <;> cases h <;> exact ⟨by decide +kernel, by decide +kernel, by decide +kernel, by decide +kernel, by decide +kernel, by decide +kernel, by decide +kernel⟩
/-- isinstance(x, T), T one of Python's own -/
theorem isTy_ref {t : Ty} {k : Nat} {b : Bool} {m : String} (ht : tyS t = some m) (h : isTy t (.d (.ref k)) st = some b) : (∃ xs, cnOf (.d (.ref k)) st = some (.l xs) ∧ b = decide (t = .list)) ∨ ∃ kvs, cnOf (.d (.ref k)) st = some (.m kvs) ∧ b = decide (t = .dict) := by
  have h' : (match st[k]? with | some (.con (.l _)) => some (decide (t = .list)) | some (.con (.m _)) => some (decide (t = .dict)) | _ => none) = some b := by
    cases t <;> first | exact h | cases ht
  split at h'
  · rename_i xs e
    refine .inl ⟨xs, ?_, (Option.some.inj h').symm⟩
    show (match st[k]? with | some (.con x) => some x | _ => none) = some (.l xs)
    rw [e]
  · rename_i xs e
    refine .inr ⟨xs, ?_, (Option.some.inj h').symm⟩
    show (match st[k]? with | some (.con x) => some x | _ => none) = some (.m xs)
    rw [e]
  · cases h'
theorem isTy_own {t : Ty} {x : V} {u : SV} {b : Bool} {m : String} (S : SR E w L st H) (hx : VR E L0 w st H env σ B x u) (ht : tyS t = some m) (h : isTy t u st = some b) : ∃ k : String, TyX E.K H x (.type k) ∧ kitB k m = some b := by
  obtain ⟨q1, q2, q3, q4, q5, q6, q7⟩ := kit_all t m ht
  have con : ∀ (k : Kd) (y : Cn), u = .c k y → ∃ k : String, TyX E.K H x (.type k) ∧ kitB k m = some b := fun k y e => by
    subst e
    cases y with
    | l xs =>
      obtain ⟨a, vs, rfl, h1, h2⟩ := hx.lst S rfl
      refine ⟨"list", sql_ty h1, ?_⟩
      rw [q5, ← h]
      cases t <;> first | rfl | cases ht
    | m kvs =>
      obtain ⟨a, vs, rfl, h1, h2⟩ := hx.dic S rfl
      refine ⟨"dict", dic_ty h1, ?_⟩
      rw [q6, ← h]
      cases t <;> first | rfl | cases ht
    | t kvs => cases t <;> first | cases h | cases ht
  cases u with
  | d y =>
    cases y with
    | non =>
      refine ⟨"NoneType", by rw [hx.non]; exact .base .non, ?_⟩
      rw [q7, ← h]
      cases t <;> first | rfl | cases ht
    | bl c =>
      refine ⟨"bool", by rw [hx.bl]; exact .base (.bl _), ?_⟩
      rw [q2, ← h]
      cases t <;> first | rfl | cases ht
    | int i =>
      refine ⟨"int", by rw [hx.int]; exact .base (.int _), ?_⟩
      rw [q1, ← h]
      cases t <;> first | rfl | cases ht
    | str z =>
      refine ⟨"str", by rw [hx.str]; exact .base (.str _), ?_⟩
      rw [q3, ← h]
      cases t <;> first | rfl | cases ht
    | tup xs =>
      obtain ⟨a, vs, rfl, h1, h2⟩ := hx.tup
      refine ⟨"tuple", tup_ty h1, ?_⟩
      rw [q4, ← h]
      cases t <;> first | rfl | cases ht
    | ref k =>
      rcases isTy_ref ht h with ⟨xs, e, rfl⟩ | ⟨xs, e, rfl⟩
      · obtain ⟨a, vs, rfl, h1, h2⟩ := hx.lst S e
        exact ⟨"list", sql_ty h1, q5⟩
      · obtain ⟨a, vs, rfl, h1, h2⟩ := hx.dic S e
        exact ⟨"dict", dic_ty h1, q6⟩
    | fn f => cases t <;> first | cases h | cases ht
  | c k y => exact con k y rfl
  | x e => cases hx
def isiF (t : Ty) : List SV → Sto → Res SV := fun as st => biF (.isi t) as st
theorem isi_inv {t : Ty} {ss : List SV} {r : Out SV} (h : biF (.isi t) ss st = some r) : ∃ u b, ss = [u] ∧ isTy t u st = some b ∧ r = .ok (.d (.bl b)) st := by
  unfold biF at h
  split at h <;> try (rename_i e; cases e; done)
  all_goals try (cases h; done)
  rename_i e
  cases e
  split at h
  · rename_i b e2
    exact ⟨_, b, rfl, e2, ok_inj h⟩
  · cases h
theorem se_isi {t : Ty} {m : String} {te : TE} {e : Ex} (ht : tyS t = some m) (h : SE P n E xb W te e) : SE P n E xb W (tCB (rIsi E.K) (tCons te (tCons (tC (.ty m)) tNil))) (.bi (.isi t) (.cons e .nil)) := by
  intro L0 L w env st σ H h0 S R r h2 Q hQ
  show te σ H fun x H1 => rIsi E.K [x, .ty m] H1 Q
  have h2' : rb (rb (ev (P.cl (P.call n) L) e env st) fun u st => rb (ok [] st) fun us st => ok (u :: us) st) (fun as st => biF (.isi t) as st) = some r := h2
  have h3 : rb (ev (P.cl (P.call n) L) e env st) (fun u st => biF (.isi t) [u] st) = some r := by
    cases e1 : ev (P.cl (P.call n) L) e env st with
    | none => rw [e1] at h2'; cases h2'
    | some o => rw [e1] at h2'; cases o <;> exact h2'
  refine sg_go h h0 S R h3 hQ fun u st1 w1 H1 x S1 R1 f1 v1 h hQ => ?_
  obtain ⟨u', b, e1, e2, rfl⟩ := isi_inv h
  cases e1
  obtain ⟨k, h4, h5⟩ := isTy_own S1 v1 ht e2
  exact ⟨x, .ty m, .type k, .type m, b, rfl, .ty m, h4, kit_ty h5, okr_now hQ S1 (.d (.bl b))⟩
theorem isTy_cls {C : Nat} {u : SV} {b : Bool} (h : isTy (.cls C) u st = some b) : ∃ i fs, u = .d (.ref i) ∧ st[i]? = some (.ins C fs) ∧ b = true := by
  cases u with
  | d y =>
    cases y with
    | ref i =>
      have h' : (match st[i]? with | some (.ins C' _) => if C' = C then some true else none | _ => none) = some b := h
      split at h'
      · rename_i C2 fs e4
        split at h'
        · rename_i e5
          subst e5
          cases h'
          exact ⟨i, fs, rfl, e4, rfl⟩
        · cases h'
      · cases h'
    | _ => cases h
  | c k y => cases h
  | x e => cases h
theorem se_isC {C : Nat} {te : TE} {e : Ex} (h : SE P n E xb W te e) : SE P n E xb W (tCB (fun xs H Q => ∃ a dx fs, xs = [.ref a, .ref (E.cls C)] ∧ H a = some (.ins (E.cls C) dx fs) ∧ Q (.bl true) H) (tCons te (tCons (tC (.ref (E.cls C))) tNil))) (.bi (.isi (.cls C)) (.cons e .nil)) := by
  intro L0 L w env st σ H h0 S R r h2 Q hQ
  show te σ H fun x H1 => ∃ a dx fs, [x, .ref (E.cls C)] = [.ref a, .ref (E.cls C)] ∧ H1 a = some (.ins (E.cls C) dx fs) ∧ Q (.bl true) H1
  have h2' : rb (rb (ev (P.cl (P.call n) L) e env st) fun u st => rb (ok [] st) fun us st => ok (u :: us) st) (fun as st => biF (.isi (.cls C)) as st) = some r := h2
  have h3 : rb (ev (P.cl (P.call n) L) e env st) (fun u st => biF (.isi (.cls C)) [u] st) = some r := by
    cases e1 : ev (P.cl (P.call n) L) e env st with
    | none => rw [e1] at h2'; cases h2'
    | some o => rw [e1] at h2'; cases o <;> exact h2'
  refine sg_go h h0 S R h3 hQ fun u st1 w1 H1 x S1 R1 f1 v1 h hQ => ?_
  obtain ⟨u', b, e1, e2, rfl⟩ := isi_inv h
  cases e1
  obtain ⟨i, fs, rfl, e4, rfl⟩ := isTy_cls e2
  obtain ⟨a, rfl, e6⟩ := v1.dd.ref_of
  obtain ⟨a', e7, dx, fv, e8, _⟩ := S1.cell _ _ e4
  rw [e6] at e7
  cases e7
  exact ⟨a, dx, fv, rfl, e8, okr_now hQ S1 (.d (.bl true))⟩
end
end Tv

namespace Tv
open PySem L2
section
variable {E : En} {xb : XB} {w w1 w2 : Wd} {L0 L L' l : List Ow} {st st1 st2 : Sto} {H H1 H2 B B' : Hp} {env : Env} {σ : L2.St} {v : V} {s : SV} {vs : List V} {ss : List SV} {j : Nat} {a : Addr} {P : Prog} {n : Nat} {W : WX} {X : Cx}
/-! ### calls of the program's own defs -/
/-- an argument -/
inductive AgR (E : En) (L : List Ow) (w : Wd) (st : Sto) (H : Hp) : V → SV → Prop
  | d {v : V} {x : D} : Rv E w.ad H v x → AgR E L w st H v (.d x)
  | par {a : Addr} {x : Cn} : CoR E w.ad H a x → Sf w L st a → AgR E L w st H (.ref a) (.c .par x)
  | scr {a : Addr} {vs : List V} {xs : List D} : ScL E.K w st H [] [] a vs → RvA E w.ad H vs xs → AgR E L w st H (.ref a) (.c .scr (.l xs))
def AgsR (E : En) (L : List Ow) (w : Wd) (st : Sto) (H : Hp) : List V → List SV → Prop := Paired (AgR E L w st H)
/-- what comes back -/
def BkR (E : En) (w : Wd) (st : Sto) (H : Hp) (B : Hp) (v : V) (s : SV) : Prop := VR E [] w st H [] [] B v s ∧ s.fit = true
def OkC (E : En) (L : List Ow) (w : Wd) (st : Sto) (H : Hp) (Q : VK) (Y : XK) : Out SV → Prop
  | .ok sv st' => ∀ w' H' v, SR E w' L st' H' → Fr E L ⟨w, st, H⟩ ⟨w', st', H'⟩ → BkR E w' st' H' H v sv → Q v H'
  | .ex x st' => ∀ w' H' cls d, SR E w' L st' H' → Fr E L ⟨w, st, H⟩ ⟨w', st', H'⟩ → XR E w'.ad H' cls d x → Y cls d H'
/-- a def's promise: what the evaluator says -/
def spT (P : Prog) (E : En) (n f : Nat) : Sp := fun vs H Q Y => ∃ (as : List SV) (L : List Ow) (w : Wd) (st : Sto) (r : Out SV), (∀ o ∈ L, o.inStore = true) ∧ SR E w L st H ∧ AgsR E L w st H vs as ∧ P.call n f as L st = some r ∧ as.length = (P.fn f).np ∧ OkC E L w st H Q Y r
theorem fit_vr (hf : s.fit = true) (h : VR E L0 w st H [] [] B v s) : VR E L' w st H env σ B v s := by
  cases h with
  | d h => exact .d h
  | own h1 h2 h3 h4 h5 => exact .own h1 h2 h3 h4 h5
  | atS h1 h2 h3 h4 => cases hf
  | atF h1 h2 => cases hf
  | par h1 h2 h3 => cases hf
  | scr h1 h2 => cases hf
theorem inStore_of {o : Ow} (h : o.live st) : o.inStore = true := by
  cases o with
  | c k => rfl
  | f i nm => rfl
  | s j => exact h.elim
/-- the locks that a callee gets -/
def goL (as : List SV) (L : List Ow) : List Ow := (as.flatMap lockOf ++ L).filter Ow.inStore
theorem SR.filt (S : SR E w L st H) : SR E w (L.filter Ow.inStore) st H := ⟨S.len, S.inj, S.cell, fun o a h1 h2 h3 => S.ex o a h1 (fun z => h2 (List.mem_filter.mpr ⟨z, inStore_of h1⟩)) h3, S.nd⟩
theorem Fr.unfilt {x y : Ss} (f : Fr E (L.filter Ow.inStore) x y) : Fr E L x y := ⟨f.ad, f.tm, f.out, f.new, f.newz, f.dom, fun o h hl => f.lk o (List.mem_filter.mpr ⟨h, inStore_of hl⟩) hl⟩
theorem ag_of (h : VR E L0 w st H env σ B v s) (hl : ∀ o ∈ lockOf s, o ∈ L) (h0 : ∀ o ∈ L0, o ∈ L) : AgR E (L.filter Ow.inStore) w st H v (argS s) := by
  cases h with
  | d h => exact .d h
  | own h1 h2 h3 h4 h5 => exact .par h1 (.inl h3)
  | atS h1 h2 h3 h4 => exact .par h3 (.inl h4)
  | @atF i nm x h1 h2 => exact .par h1 (.inr ⟨.f i nm, List.mem_filter.mpr ⟨hl _ (by simp [lockOf]), rfl⟩, h2, rfl⟩)
  | par h1 h2 h3 =>
    refine .par h1 ?_
    rcases h2 with h2 | ⟨o, k1, k2, k3⟩
    · exact .inl h2
    · exact .inr ⟨o, List.mem_filter.mpr ⟨h0 o k1, inStore_of k2⟩, k2, k3⟩
  | scr h1 h2 =>
    refine .scr ?_ h2
    rcases h1 with h1 | ⟨h1, k1, k2⟩
    · exact .inl h1
    · exact .inr ⟨h1, k1, fun z => by obtain ⟨j, x, e, _⟩ := z; simp at e⟩
theorem ags_of (h0 : ∀ o ∈ L0, o ∈ L) : ∀ {vs : List V} {ss : List SV}, VRs E L0 w st H env σ B vs ss → (∀ o ∈ ss.flatMap lockOf, o ∈ L) → AgsR E (L.filter Ow.inStore) w st H vs (ss.map argS)
  | _, _, .nil, _ => .nil
  | _, _, .cons h t _, hl => .cons (ag_of h (fun o z => hl o (by rw [List.flatMap_cons]; exact List.mem_append.mpr (.inl z))) h0) (ags_of h0 t fun o z => hl o (by rw [List.flatMap_cons]; exact List.mem_append.mpr (.inr z)))
theorem vrs_live {vs : List V} {ss : List SV} (h : VRs E L0 w st H env σ B vs ss) : ∀ o ∈ ss.flatMap lockOf, ∀ st', o.live st' → o.live st := by
  induction h with
  | nil => intro o z; simp at z
  | cons h t _ ih =>
    intro o z
    rw [List.flatMap_cons] at z
    rcases List.mem_append.mp z with z | z
    · exact h.live o z
    · exact ih o z
/-- from the caller's side: the promise at hand -/
theorem go_ok {f : Nat} {r : Out SV} {Q : VK} (h0 : ∀ o ∈ L0, o ∈ L) (S : SR E w L st H) (hv : VRs E L0 w st H env σ B vs ss) (hB : ∀ p, H p = none → B p = none) (hn : ss.length = (P.fn f).np) (h : (P.cl (P.call n) L).go f ss st = some r) (hQ : OkR E W L w st σ H (fun w' st' H' b a => VR E L0 w' st' H' env σ B b a) Q r) : spT P E n f vs H Q (WE W σ) := by
  have h' : P.call n f (ss.map argS) ((ss.flatMap lockOf ++ L).filter Ow.inStore) st = some r := h
  have h0' : ∀ o ∈ L0, o ∈ ss.flatMap lockOf ++ L := fun o z => List.mem_append.mpr (.inr (h0 o z))
  refine ⟨ss.map argS, (ss.flatMap lockOf ++ L).filter Ow.inStore, w, st, r, fun o z => (List.mem_filter.mp z).2, S.lkApp.filt, ags_of h0' hv (fun o z => List.mem_append.mpr (.inl z)), h', by rw [List.length_map]; exact hn, ?_⟩
  have hs : ∀ {w' : Wd} {st' : Sto} {H' : Hp}, SR E w' ((ss.flatMap lockOf ++ L).filter Ow.inStore) st' H' → Fr E ((ss.flatMap lockOf ++ L).filter Ow.inStore) ⟨w, st, H⟩ ⟨w', st', H'⟩ → SR E w' L st' H' := fun S' f' => S.unlk f'.unfilt (S'.lk fun o z _ => (List.mem_filter.mp z).1) (vrs_live hv)
  cases r with
  | ok sv st' =>
    intro w' H' v S' f' b
    exact hQ w' H' v (hs S' f') (f'.unfilt.less fun o z => List.mem_append.mpr (.inr z)) ((fit_vr b.2 b.1).base hB)
  | ex x st' =>
    intro w' H' cls d S' f' y
    exact hQ w' H' cls d (hs S' f') (f'.unfilt.less fun o z => List.mem_append.mpr (.inr z)) y
/-- written arguments, then constants -/
def Exs.app : Exs → Exs → Exs
  | .nil, es => es
  | .cons e es, fs => .cons e (es.app fs)
def Exs.len : Exs → Nat
  | .nil => 0
  | .cons _ es => es.len + 1
theorem evs_len {c : Cl} : ∀ {es : Exs} {env : Env} {st st' : Sto} {ss : List SV}, evs c es env st = some (.ok ss st') → ss.length = es.len
  | .nil, env, st, st', ss, h => by cases (show some (Out.ok [] st) = some (.ok ss st') from h); rfl
  | .cons e es, env, st, st', ss, h => by
    have h' : rb (ev c e env st) (fun u st => rb (evs (c.lk (lockOf u)) es env st) fun us st => ok (u :: us) st) = some (.ok ss st') := h
    cases e1 : ev c e env st with
    | none => rw [e1] at h'; cases h'
    | some o =>
      rw [e1] at h'
      cases o with
      | ex x st1 => cases h'
      | ok u st1 =>
        have h2 : rb (evs (c.lk (lockOf u)) es env st1) (fun us st => ok (u :: us) st) = some (.ok ss st') := h'
        cases e2 : evs (c.lk (lockOf u)) es env st1 with
        | none => rw [e2] at h2; cases h2
        | some o2 =>
          rw [e2] at h2
          cases o2 with
          | ex x st2 => cases h2
          | ok us st2 =>
            cases (show some (Out.ok (u :: us) st2) = some (.ok ss st') from h2)
            rw [List.length_cons, evs_len e2]
            rfl
theorem se_call {f : Nat} {ta : TA} {es : Exs} (ha : SA P n E xb W ta es) (hn : es.len = (P.fn f).np) : SE P n E xb W (tCallS (spT P E n f) (WE W) ta) (.call f es) := by
  intro L0 L w env st σ H h0 S R r h Q hQ
  show ta σ H fun vs H1 => spT P E n f vs H1 Q (WE W σ)
  have h' : rb (evs (P.cl (P.call n) L) es env st) (fun as st => (P.cl (P.call n) L).go f as st) = some r := h
  cases e : evs (P.cl (P.call n) L) es env st with
  | none => rw [e] at h'; cases h'
  | some o =>
    refine ha L0 L w env st σ H h0 S R o e _ ?_
    rw [e] at h'
    cases o with
    | ex x st1 =>
      cases (show some (Out.ex x st1) = some r from h')
      exact hQ
    | ok as st1 =>
      intro w1 H1 vs S1 f1 v1
      exact go_ok h0 S1 v1 f1.dom ((evs_len e).trans hn) h' (hQ.from f1 fun _ _ _ _ _ z => z)
end
end Tv

namespace Tv
open PySem L2
/-! ### statements -/
structure Fs where
  w : Wd
  env : Env
  st : Sto
  σ : L2.St
  H : Hp
structure FrS (E : En) (L : List Ow) (a : Fs) (b : Ss) : Prop where
  ad : a.w.ad <+: b.w.ad
  tm : Tm E.K a.H b.H
  out : ∀ p o, a.H p = some o → ¬ Owd a.w a.st p → ¬ Sod a.env a.σ p → b.H p = some o
  new : ∀ p, Owd b.w b.st p → Owd a.w a.st p ∨ Sod a.env a.σ p ∨ a.H p = none
  newz : ∀ p, Zad b.w b.st b.H p → Zad a.w a.st a.H p ∨ Owd a.w a.st p ∨ Sod a.env a.σ p ∨ a.H p = none
  dom : ∀ p, b.H p = none → a.H p = none
  lk : ∀ o ∈ L, o.live a.st → o.live b.st ∧ b.w.at o = a.w.at o ∧ ∀ p, a.w.at o = some p → b.H p = a.H p
structure Stp (E : En) (L : List Ow) (a b : Fs) : Prop extends FrS E L a ⟨b.w, b.st, b.H⟩ where
  newS : ∀ p, Sod b.env b.σ p → Sod a.env a.σ p ∨ a.H p = none
  lkS : ∀ j, .s j ∈ L → b.env[j]? = a.env[j]? ∧ b.σ[j]? = a.σ[j]? ∧ ∀ p x, a.env[j]? = some (some (.c .own x)) → a.σ[j]? = some (some (.ref p)) → b.H p = a.H p
section
variable {E : En} {xb : XB} {w w1 w2 : Wd} {L0 L L' l : List Ow} {st st1 st2 : Sto} {H H1 H2 B B' : Hp} {env env1 : Env} {σ σ1 : L2.St} {v : V} {s : SV} {vs : List V} {ss : List SV} {j i : Nat} {p : Addr} {P : Prog} {n : Nat} {W : WX} {X : Cx} {a b : Fs} {c : Ss} {d : Fs}
theorem FrS.of (f : Fr E L ⟨a.w, a.st, a.H⟩ c) : FrS E L a c := ⟨f.ad, f.tm, fun p o e h _ => f.out p o e h, fun p h => (f.new p h).elim .inl fun z => .inr (.inr z), fun p h => (f.newz p h).elim .inl fun z => .inr (z.elim .inl fun z => .inr (.inr z)), f.dom, f.lk⟩
theorem FrS.tr (f : Stp E L a b) (g : FrS E L b c) : FrS E L a c := by
  refine ⟨f.ad.trans g.ad, f.tm.tr g.tm, fun p o e h1 h2 => ?_, fun p h => ?_, fun p h => ?_, fun p h => f.dom p (g.dom p h), fun o h hl => ?_⟩
  · refine g.out p o (f.out p o e h1 h2) (fun z => ?_) fun z => ?_
    · rcases f.new p z with z | z | z
      · exact h1 z
      · exact h2 z
      · rw [e] at z; cases z
    · rcases f.newS p z with z | z
      · exact h2 z
      · rw [e] at z; cases z
  · rcases g.new p h with h | h | h
    · exact f.new p h
    · rcases f.newS p h with h | h
      · exact .inr (.inl h)
      · exact .inr (.inr h)
    · exact .inr (.inr (f.dom p h))
  · rcases g.newz p h with h | h | h | h
    · exact f.newz p h
    · exact .inr (f.new p h)
    · rcases f.newS p h with h | h
      · exact .inr (.inr (.inl h))
      · exact .inr (.inr (.inr h))
    · exact .inr (.inr (.inr (f.dom p h)))
  · obtain ⟨h1, h2, h3⟩ := f.lk o h hl
    obtain ⟨k1, k2, k3⟩ := g.lk o h h1
    exact ⟨k1, k2.trans h2, fun p e => (k3 p (h2.trans e)).trans (h3 p e)⟩
theorem Stp.tr (f : Stp E L a b) (g : Stp E L b d) : Stp E L a d := by
  refine ⟨FrS.tr f g.toFrS, fun p h => ?_, fun j hj => ?_⟩
  · rcases g.newS p h with h | h
    · exact f.newS p h
    · exact .inr (f.dom p h)
  · obtain ⟨h1, h2, h3⟩ := f.lkS j hj
    obtain ⟨k1, k2, k3⟩ := g.lkS j hj
    exact ⟨k1.trans h1, k2.trans h2, fun p x e1 e2 => (k3 p x (h1.trans e1) (h2.trans e2)).trans (h3 p x e1 e2)⟩
theorem Stp.less (h : ∀ o, o ∈ L' → o ∈ L) (f : Stp E L a b) : Stp E L' a b := ⟨⟨f.ad, f.tm, f.out, f.new, f.newz, f.dom, fun o z => f.lk o (h o z)⟩, f.newS, fun j z => f.lkS j (h _ z)⟩
theorem FrS.less (h : ∀ o, o ∈ L' → o ∈ L) (f : FrS E L a c) : FrS E L' a c := ⟨f.ad, f.tm, f.out, f.new, f.newz, f.dom, fun o z => f.lk o (h o z)⟩
theorem Stp.rfl' (a : Fs) : Stp E L a a := ⟨.of (Fr.rfl' _), fun p h => .inl h, fun j _ => ⟨rfl, rfl, fun _ _ _ _ => rfl⟩⟩
/-- an expression's doings -/
theorem Stp.of (R : ER E xb L0 w L st H env σ) (f : Fr E L ⟨w, st, H⟩ ⟨w1, st1, H1⟩) : Stp E L ⟨w, env, st, σ, H⟩ ⟨w1, env, st1, σ, H1⟩ := ⟨.of f, fun p h => .inl h, fun j _ => ⟨rfl, rfl, fun p x e1 e2 => by
  obtain ⟨v, e3, k⟩ := R.ok j _ e1
  have e2' : σ[j]? = some (some (.ref p)) := e2
  rw [e2'] at e3
  cases e3
  cases k with
  | own k1 k2 k3 => exact (f.stay k2 k1).2.2⟩⟩
/-- what may come back out of a body -/
def RtR (E : En) (a : Fs) (w : Wd) (st : Sto) (H : Hp) (v : V) : SV → Prop
  | .d x => Rv E w.ad H v x
  | .c .own x => ∃ p, v = .ref p ∧ CoR E w.ad H p x ∧ Xt H p ∧ ¬ Owd w st p ∧ ¬ Zad w st H p ∧ (Sod a.env a.σ p ∨ a.H p = none)
  | _ => False
def OkS (E : En) (xb : XB) (W : WX) (L0 L : List Ow) (a : Fs) (D : Ends) : SO → Prop
  | .nx env' st' => ∀ w' σ' H', SR E w' L st' H' → ER E xb L0 w' L st' H' env' σ' → Stp E L a ⟨w', env', st', σ', H'⟩ → D.nx σ' H'
  | .bk env' st' => ∀ w' σ' H', SR E w' L st' H' → ER E xb L0 w' L st' H' env' σ' → Stp E L a ⟨w', env', st', σ', H'⟩ → D.bk σ' H'
  | .ct env' st' => ∀ w' σ' H', SR E w' L st' H' → ER E xb L0 w' L st' H' env' σ' → Stp E L a ⟨w', env', st', σ', H'⟩ → D.ct σ' H'
  | .rt sv st' => ∀ w' H' v, SR E w' L st' H' → FrS E L a ⟨w', st', H'⟩ → RtR E a w' st' H' v sv → D.rt v H'
  | .ex x env' st' => ∀ w' σ' H' cls d, SR E w' L st' H' → ER E xb L0 w' L st' H' env' σ' → Stp E L a ⟨w', env', st', σ', H'⟩ → XR E w'.ad H' cls d x → W cls d σ' H'
theorem OkS.from {D : Ends} {r : SO} (h : OkS E xb W L0 L a D r) (f : Stp E L a b) : OkS E xb W L0 L b D r := by
  cases r with
  | nx env' st' => exact fun w' σ' H' S R g => h w' σ' H' S R (f.tr g)
  | bk env' st' => exact fun w' σ' H' S R g => h w' σ' H' S R (f.tr g)
  | ct env' st' => exact fun w' σ' H' S R g => h w' σ' H' S R (f.tr g)
  | ex x env' st' => exact fun w' σ' H' cls d S R g => h w' σ' H' cls d S R (f.tr g)
  | rt sv st' =>
    refine fun w' H' v S g k => h w' H' v S (FrS.tr f g) ?_
    cases sv with
    | d x => exact k
    | c kd x =>
      cases kd <;> try exact k.elim
      obtain ⟨p, e, k1, k2, k3, k4, k5⟩ := k
      refine ⟨p, e, k1, k2, k3, k4, ?_⟩
      rcases k5 with k5 | k5
      · exact f.newS p k5
      · exact .inr (f.dom p k5)
    | x e => exact k.elim
/-- the reading of statements, told by the evaluator -/
def SSG (P : Prog) (n : Nat) (E : En) (xb : XB) (W : WX) (t : TS) (e : Cl → Env → Sto → Option SO) : Prop :=
  ∀ (L0 L : List Ow) (w : Wd) (env : Env) (st : Sto) (σ : L2.St) (H : Hp), (∀ o ∈ L0, o ∈ L) → SR E w L st H → ER E xb L0 w L st H env σ → ∀ r, e (P.cl (P.call n) L) env st = some r → ∀ D, OkS E xb W L0 L ⟨w, env, st, σ, H⟩ D r → t D σ H
abbrev SS (P : Prog) (n : Nat) (E : En) (xb : XB) (W : WX) (t : TS) (s : Stt) : Prop := SSG P n E xb W t (fun c env st => exec c s env st)
abbrev SSs (P : Prog) (n : Nat) (E : En) (xb : XB) (W : WX) (t : TS) (s : Stts) : Prop := SSG P n E xb W t (fun c env st => execs c s env st)
theorem ss_nil : SSs P n E xb W tNext .nil := by
  intro L0 L w env st σ H h0 S R r h D hD
  cases (show some (SO.nx env st) = some r from h)
  exact hD w σ H S R (Stp.rfl' _)
theorem ss_cons {t u : TS} {s : Stt} {ss : Stts} (h1 : SS P n E xb W t s) (h2 : SSs P n E xb W u ss) : SSs P n E xb W (tSeq t u) (.cons s ss) := by
  intro L0 L w env st σ H h0 S R r h D hD
  have h' : sq (exec (P.cl (P.call n) L) s env st) (fun env st => execs (P.cl (P.call n) L) ss env st) = some r := h
  cases e : exec (P.cl (P.call n) L) s env st with
  | none => rw [e] at h'; cases h'
  | some o =>
    rw [e] at h'
    refine h1 L0 L w env st σ H h0 S R o e { D with nx := u D } ?_
    cases o with
    | nx env1 st1 => exact fun w1 σ1 H1 S1 R1 g => h2 L0 L w1 env1 st1 σ1 H1 h0 S1 R1 r h' D (hD.from g)
    | rt v st1 => cases (show some (SO.rt v st1) = some r from h'); exact hD
    | bk env1 st1 => cases (show some (SO.bk env1 st1) = some r from h'); exact hD
    | ct env1 st1 => cases (show some (SO.ct env1 st1) = some r from h'); exact hD
    | ex x env1 st1 => cases (show some (SO.ex x env1 st1) = some r from h'); exact hD
/-- an expression, then what follows -/
theorem sb_go {α β : Type} {Ra : List Ow → Wd → Sto → Hp → Env → L2.St → Hp → β → α → Prop} {ta : L2.St → Hp → (β → Hp → Prop) → Prop} {fa : Cl → Env → Sto → Res α} {k : α → Sto → Option SO} {r : SO} {D : Ends} {Qt : β → Hp → Prop}
    (ha : SG P n E xb W Ra ta fa) (h0 : ∀ o ∈ L0, o ∈ L) (S : SR E w L st H) (R : ER E xb L0 w L st H env σ) (h : sb (fa (P.cl (P.call n) L) env st) env k = some r) (hD : OkS E xb W L0 L ⟨w, env, st, σ, H⟩ D r)
    (hk : ∀ a st1 w1 H1 x, SR E w1 L st1 H1 → ER E xb L0 w1 L st1 H1 env σ → Fr E L ⟨w, st, H⟩ ⟨w1, st1, H1⟩ → Ra L0 w1 st1 H1 env σ H x a → k a st1 = some r → OkS E xb W L0 L ⟨w1, env, st1, σ, H1⟩ D r → Qt x H1) : ta σ H Qt := by
  cases e : fa (P.cl (P.call n) L) env st with
  | none => rw [e] at h; cases h
  | some o =>
    rw [e] at h
    refine ha L0 L w env st σ H h0 S R o e Qt ?_
    cases o with
    | ok a st1 => exact fun w1 H1 x S1 f1 r1 => hk a st1 w1 H1 x S1 (R.fr S h0 f1) f1 r1 h (hD.from (Stp.of R f1))
    | ex x st1 =>
      cases (show some (SO.ex x env st1) = some r from h)
      exact fun w1 H1 cls d S1 f1 y => hD w1 σ H1 cls d S1 (R.fr S h0 f1) (Stp.of R f1) y
theorem ss_pass : SS P n E xb W tNext .pass := by
  intro L0 L w env st σ H h0 S R r h D hD
  cases (show some (SO.nx env st) = some r from h)
  exact hD w σ H S R (Stp.rfl' _)
theorem ss_brk : SS P n E xb W tBreak .brk := by
  intro L0 L w env st σ H h0 S R r h D hD
  cases (show some (SO.bk env st) = some r from h)
  exact hD w σ H S R (Stp.rfl' _)
theorem ss_cnt : SS P n E xb W tCont .cnt := by
  intro L0 L w env st σ H h0 S R r h D hD
  cases (show some (SO.ct env st) = some r from h)
  exact hD w σ H S R (Stp.rfl' _)
theorem ss_retN : SS P n E xb W tRetN .retN := by
  intro L0 L w env st σ H h0 S R r h D hD
  cases (show some (SO.rt (.d .non) st) = some r from h)
  exact hD w H .non S (Stp.rfl' _).toFrS .non
theorem ss_drop {te : TE} {e : Ex} (he : SE P n E xb W te e) : SS P n E xb W (tDrop te) (.drop e) := by
  intro L0 L w env st σ H h0 S R r h D hD
  show te σ H fun _ H1 => D.nx σ H1
  refine sb_go he h0 S R h hD fun u st1 w1 H1 x S1 R1 f1 v1 h hD => ?_
  cases (show some (SO.nx env st1) = some r from h)
  exact hD w1 σ H1 S1 R1 (Stp.rfl' _)
theorem ss_ifs {tt : TT} {ta tb : TS} {t : Tx} {a b : Stts} (ht : STe P n E xb W tt t) (ha : SSs P n E xb W ta a) (hb : SSs P n E xb W tb b) : SS P n E xb W (tIfS tt ta tb) (.ifs t a b) := by
  intro L0 L w env st σ H h0 S R r h D hD
  show tt σ H fun c H1 => if c = true then ta D σ H1 else tb D σ H1
  refine sb_go ht h0 S R h hD fun u st1 w1 H1 x S1 R1 f1 v1 h hD => ?_
  subst v1
  cases x with
  | true => rw [if_pos rfl]; exact ha L0 L w1 env st1 σ H1 h0 S1 R1 r h D hD
  | false => rw [if_neg Bool.false_ne_true]; exact hb L0 L w1 env st1 σ H1 h0 S1 R1 r h D hD
/-! return -/
theorem sod_slot {x : Cn} (h1 : env[i]? = some (some (.c .own x))) (h2 : σ[i]? = some (some (.ref p))) : Sod env σ p := ⟨i, x, h1, h2⟩
theorem ss_ret_var : SS P n E xb W (tRet (tVar i)) (.ret (.var i)) := by
  intro L0 L w env st σ H h0 S R r h D hD
  show ∃ v, σ[i]? = some (some v) ∧ D.rt v H
  have h' : (match env[i]? with
      | some (some (.d x)) => some (SO.rt (.d x) st)
      | some (some (.c .own x)) => if free (P.cl (P.call n) L) i then some (.rt (.c .own x) st) else none
      | _ => none) = some r := h
  split at h'
  · rename_i x e
    obtain ⟨v, h1, h2⟩ := R.ok i _ e
    cases h'
    cases h2 with
    | d h2 => exact ⟨v, h1, hD w H v S (Stp.rfl' _).toFrS h2⟩
  · rename_i x e
    split at h'
    · rename_i hf
      obtain ⟨v, h1, h2⟩ := R.ok i _ e
      cases h'
      cases h2 with
      | own k1 k2 k3 =>
        refine ⟨_, h1, hD w H _ S (Stp.rfl' _).toFrS ⟨_, rfl, k1, k3 ?_, k2, fun z => R.zs _ z (sod_slot e h1), .inl (sod_slot e h1)⟩⟩
        intro z
        unfold free at hf
        have : L.contains (.s i) = true := by simpa using z
        rw [show (P.cl (P.call n) L).locks = L from rfl, this] at hf
        cases hf
    · cases h'
  · cases h'
def Ex.isVar : Ex → Bool
  | .var _ => true
  | _ => false
theorem exec_ret {c : Cl} {e : Ex} (h : e.isVar = false) : exec c (.ret e) env st = sb (ev c e env st) env fun v st => match v with
      | .d x => some (.rt (.d x) st)
      | .c .own x => some (.rt (.c .own x) st)
      | _ => none := by
  cases e <;> first | rfl | cases h
theorem ss_ret {te : TE} {e : Ex} (hv : e.isVar = false) (he : SE P n E xb W te e) : SS P n E xb W (tRet te) (.ret e) := by
  intro L0 L w env st σ H h0 S R r h D hD
  show te σ H D.rt
  have h := (exec_ret hv).symm.trans h
  have hD0 := hD
  refine sb_go he h0 S R h hD fun u st1 w1 H1 x S1 R1 f1 v1 h hD => ?_
  split at h
  · cases h
    exact hD0 w1 H1 x S1 (FrS.of f1) v1.dd
  · cases h
    cases v1 with
    | own k1 k2 k3 k4 k5 => exact hD0 w1 H1 _ S1 (FrS.of f1) ⟨_, rfl, k1, k2, k3, k5, .inr k4⟩
  · cases h
end
end Tv

namespace Tv
open PySem L2
section
variable {E : En} {xb : XB} {w w0 w1 w2 : Wd} {L0 L L' l : List Ow} {st st0 st1 st2 : Sto} {H H1 H2 B B' : Hp} {env env1 env' : Env} {σ σ1 σ' : L2.St} {v : V} {s : SV} {vs : List V} {ss : List SV} {j i : Nat} {p : Addr} {P : Prog} {n : Nat} {W : WX} {X : Cx} {a b : Fs} {c : Ss} {d : Fs}
/-! ### names that are stored -/
theorem get_set {α : Type} {xs : List α} {i j : Nat} {x y : α} (h : (xs.set i x)[j]? = some y) : (j = i ∧ y = x ∧ i < xs.length) ∨ (j ≠ i ∧ xs[j]? = some y) := by
  rw [List.getElem?_set] at h
  split at h
  · rename_i e
    split at h
    · rename_i hl
      cases h
      exact .inl ⟨e.symm, rfl, hl⟩
    · cases h
  · rename_i e
    exact .inr ⟨fun z => e z.symm, h⟩
theorem set_ne {α : Type} {xs : List α} {i j : Nat} {x : α} (h : j ≠ i) : (xs.set i x)[j]? = xs[j]? := by
  rw [List.getElem?_set, if_neg (fun z => h z.symm)]
theorem set_eq {α : Type} {xs : List α} {i : Nat} {x : α} (h : i < xs.length) : (xs.set i x)[i]? = some x := by
  rw [List.getElem?_set, if_pos rfl, if_pos h]
theorem SlR.re (h : SlR E xb L0 w L st H env σ j v s) (k : ∀ q, v = .ref q → ¬ Sod env σ q → H q ≠ none → ¬ Sod env' σ' q) : SlR E xb L0 w L st H env' σ' j v s := by
  cases h with
  | d h => exact .d h
  | own h1 h2 h3 => exact .own h1 h2 h3
  | par h1 h2 h3 => exact .par h1 h2 (k _ rfl h3 (by obtain ⟨o, e⟩ := h1.has; rw [e]; intro z; cases z))
  | scr h1 h2 =>
    refine .scr ?_ h2
    rcases h1 with h1 | ⟨h1, k1, k2⟩
    · exact .inl h1
    · exact .inr ⟨h1, k1, k _ rfl k2 (rd_has h1)⟩
  | x h1 h2 => exact .x h1 h2
theorem sod_set (h : Sod (env.set i (some s)) (σ.set i (some v)) p) : Sod env σ p ∨ (v = .ref p ∧ ∃ x, s = .c .own x) := by
  obtain ⟨j, x, h1, h2⟩ := h
  rcases get_set h1 with ⟨e1, e2, e3⟩ | ⟨e1, h1⟩
  · subst e1
    rcases get_set h2 with ⟨_, e4, _⟩ | ⟨e4, _⟩
    · cases e4
      cases e2
      exact .inr ⟨rfl, x, rfl⟩
    · exact absurd rfl e4
  · rw [set_ne e1] at h2
    exact .inl ⟨j, x, h1, h2⟩
theorem sod_unset (h : Sod (env.set i none) σ p) : Sod env σ p := by
  obtain ⟨j, x, h1, h2⟩ := h
  rcases get_set h1 with ⟨_, e2, _⟩ | ⟨_, h1⟩
  · cases e2
  · exact ⟨j, x, h1, h2⟩
/-- data (or what is only seen) comes to a name -/
theorem ER.setV (R : ER E xb L0 w L st H env σ) (hs : ∀ x, s ≠ .c .own x) (h : SlR E xb L0 w L st H env σ i v s) : ER E xb L0 w L st H (env.set i (some s)) (σ.set i (some v)) := by
  have hsod : ∀ q, Sod (env.set i (some s)) (σ.set i (some v)) q → Sod env σ q := fun q z => by
    rcases sod_set z with z | ⟨_, x, e⟩
    · exact z
    · exact absurd e (hs x)
  refine ⟨by rw [List.length_set, List.length_set]; exact R.len, fun j s' e => ?_, fun j k x y q e1 e2 e3 e4 => ?_, fun q z k => R.zs q z (hsod q k)⟩
  · rcases get_set e with ⟨rfl, e2, hl⟩ | ⟨e1, e2⟩
    · cases e2
      exact ⟨v, set_eq (by rw [← R.len]; exact hl), h.re fun q _ k _ z => k (hsod q z)⟩
    · obtain ⟨u, k1, k2⟩ := R.ok j s' e2
      exact ⟨u, by rw [set_ne e1]; exact k1, k2.re fun q _ k _ z => k (hsod q z)⟩
  · rcases get_set e1 with ⟨_, e5, _⟩ | ⟨n1, e1⟩
    · cases e5; exact absurd rfl (hs x)
    · rcases get_set e2 with ⟨_, e5, _⟩ | ⟨n2, e2⟩
      · cases e5; exact absurd rfl (hs y)
      · rw [set_ne n1] at e3
        rw [set_ne n2] at e4
        exact R.inj j k x y q e1 e2 e3 e4
theorem ER.unset (R : ER E xb L0 w L st H env σ) : ER E xb L0 w L st H (env.set i none) σ := by
  refine ⟨by rw [List.length_set]; exact R.len, fun j s' e => ?_, fun j k x y q e1 e2 e3 e4 => ?_, fun q z k => R.zs q z (sod_unset k)⟩
  · rcases get_set e with ⟨rfl, e2, hl⟩ | ⟨e1, e2⟩
    · cases e2
    · obtain ⟨u, k1, k2⟩ := R.ok j s' e2
      exact ⟨u, k1, k2.re fun q _ k _ z => k (sod_unset z)⟩
  · rcases get_set e1 with ⟨_, e5, _⟩ | ⟨n1, e1⟩
    · cases e5
    · rcases get_set e2 with ⟨_, e5, _⟩ | ⟨n2, e2⟩
      · cases e5
      · exact R.inj j k x y q e1 e2 e3 e4
/-- a container comes to a name; ahead (at R0) it was not there -/
theorem ER.setOwn {x : Cn} (S0 : SR E w0 L st0 B) (h0 : ∀ o ∈ L0, o ∈ L) (R0 : ER E xb L0 w0 L st0 B env σ) (f : Fr E L ⟨w0, st0, B⟩ ⟨w, st, H⟩) (k1 : CoR E w.ad H p x) (k2 : Xt H p) (k3 : ¬ Owd w st p) (k4 : B p = none) (k5 : ¬ Zad w st H p) : ER E xb L0 w L st H (env.set i (some (.c .own x))) (σ.set i (some (.ref p))) := by
  have R := R0.fr S0 h0 f
  have nold : ¬ Sod env σ p := fun z => by
    obtain ⟨_, o, e, _⟩ := R0.sod z
    rw [k4] at e
    cases e
  refine ⟨by rw [List.length_set, List.length_set]; exact R.len, fun j s' e => ?_, fun j k x' y q e1 e2 e3 e4 => ?_, fun q z k => ?_⟩
  · rcases get_set e with ⟨rfl, e2, hl⟩ | ⟨e1, e2⟩
    · cases e2
      exact ⟨_, set_eq (by rw [← R.len]; exact hl), .own k1 k3 fun _ => k2⟩
    · obtain ⟨u, q1, q2⟩ := R0.ok j s' e2
      refine ⟨u, by rw [set_ne e1]; exact q1, SlR.fr f h0 S0 (q2.re fun q _ q3 q4 z => ?_)⟩
      rcases sod_set z with z | ⟨e3, _⟩
      · exact q3 z
      · cases e3; exact q4 k4
  · rcases get_set e1 with ⟨a1, e5, _⟩ | ⟨n1, f1⟩ <;> rcases get_set e2 with ⟨a2, e6, _⟩ | ⟨n2, f2⟩
    · rw [a1, a2]
    · subst a1
      rcases get_set e3 with ⟨_, e7, _⟩ | ⟨n3, _⟩
      · cases e7
        rw [set_ne n2] at e4
        exact absurd ⟨k, y, f2, e4⟩ nold
      · exact absurd rfl n3
    · subst a2
      rcases get_set e4 with ⟨_, e7, _⟩ | ⟨n3, _⟩
      · cases e7
        rw [set_ne n1] at e3
        exact absurd ⟨j, x', f1, e3⟩ nold
      · exact absurd rfl n3
    · rw [set_ne n1] at e3
      rw [set_ne n2] at e4
      exact R.inj j k x' y q f1 f2 e3 e4
  · rcases sod_set k with k | ⟨e, _⟩
    · exact R.zs q z k
    · cases e; exact k5 z
theorem free_s {L : List Ow} (h : free (P.cl (P.call n) L) i = true) : .s i ∉ L := fun z => by
  unfold free at h
  have e : L.contains (.s i) = true := by simpa using z
  rw [show (P.cl (P.call n) L).locks = L from rfl, e] at h
  cases h
/-- a name alone is stored -/
theorem Stp.name (R : ER E xb L0 w L st H env σ) (hi : .s i ∉ L) {o : Option SV} {u : Option V} (hs : ∀ q, Sod (env.set i o) (σ.set i u) q → Sod env σ q ∨ B q = none) (f : Stp E L ⟨w0, env, st0, σ, B⟩ ⟨w, env, st, σ, H⟩) : Stp E L ⟨w0, env, st0, σ, B⟩ ⟨w, env.set i o, st, σ.set i u, H⟩ :=
  ⟨f.toFrS, fun q z => hs q z, fun j hj => by
    have ne : j ≠ i := fun z => hi (z ▸ hj)
    obtain ⟨h1, h2, h3⟩ := f.lkS j hj
    exact ⟨by show (env.set i o)[j]? = env[j]?; exact set_ne ne, by show (σ.set i u)[j]? = σ[j]?; exact set_ne ne, h3⟩⟩
theorem Stp.nameU (hi : .s i ∉ L) (f : Stp E L ⟨w0, env, st0, σ, B⟩ ⟨w, env1, st, σ1, H⟩) : Stp E L ⟨w0, env, st0, σ, B⟩ ⟨w, env1.set i none, st, σ1, H⟩ :=
  ⟨f.toFrS, fun q z => f.newS q (sod_unset z), fun j hj => by
    have ne : j ≠ i := fun z => hi (z ▸ hj)
    obtain ⟨h1, h2, h3⟩ := f.lkS j hj
    exact ⟨by show (env1.set i none)[j]? = env[j]?; rw [set_ne ne]; exact h1, h2, h3⟩⟩
theorem stp_setD {x : D} (R : ER E xb L0 w L st H env σ) (hi : .s i ∉ L) : Stp E L ⟨w, env, st, σ, H⟩ ⟨w, env.set i (some (.d x)), st, σ.set i (some v), H⟩ := Stp.name R hi (fun q z => by
    rcases sod_set z with z | ⟨_, _, e⟩
    · exact .inl z
    · cases e) (Stp.rfl' _)
/-! ### targets -/
structure TgK (xb : XB) (E : En) (L0 L : List Ow) (w : Wd) (st : Sto) (H : Hp) (env env' : Env) (σ σ' : L2.St) (ns : List Nat) : Prop where
  er : ER E xb L0 w L st H env' σ'
  sod : ∀ p, Sod env' σ' p → Sod env σ p
  off : ∀ j, j ∉ ns → env'[j]? = env[j]? ∧ σ'[j]? = σ[j]?
def TgS (E : En) (t : TG) (tg : Tg) : Prop := ∀ (xb : XB) (L0 L : List Ow) (w : Wd) (env env' : Env) (st : Sto) (σ : L2.St) (H : Hp) (v : V) (x : D), ER E xb L0 w L st H env σ → Rv E w.ad H v x → tg.set env x = some env' →
  ∀ Q : L2.St → Hp → Prop, (∀ σ', TgK xb E L0 L w st H env env' σ σ' tg.names → Q σ' H) → t v σ H Q
def TgsS (E : En) (t : TGs) (tg : List Tg) : Prop := ∀ (xb : XB) (L0 L : List Ow) (w : Wd) (env env' : Env) (st : Sto) (σ : L2.St) (H : Hp) (vs : List V) (xs : List D), ER E xb L0 w L st H env σ → RvA E w.ad H vs xs → Tg.sets env tg xs = some env' →
  ∀ Q : L2.St → Hp → Prop, (∀ σ', TgK xb E L0 L w st H env env' σ σ' (Tg.namess tg) → Q σ' H) → t vs σ H Q
theorem sod_setD {x : D} (z : Sod (env.set i (some (.d x))) (σ.set i (some v)) q) : Sod env σ q := by
  rcases sod_set z with z | ⟨_, _, e⟩
  · exact z
  · cases e
theorem tg_nm : TgS E (gName i) (.nm i) := by
  intro xb L0 L w env env' st σ H v x R h e Q hQ
  cases (show some (env.set i (some (.d x))) = some env' from e)
  refine hQ _ ⟨R.setV (fun _ z => by cases z) (.d h), fun q z => sod_setD z, fun j hj => ?_⟩
  have n : j ≠ i := fun z => hj (by rw [z]; exact List.mem_singleton.mpr rfl)
  exact ⟨set_ne n, set_ne n⟩
theorem tgs_nil : TgsS E gNil [] := by
  intro xb L0 L w env env' st σ H vs xs R h e Q hQ
  cases h with
  | nil =>
    cases (show some env = some env' from e)
    exact ⟨rfl, hQ σ ⟨R, fun _ z => z, fun _ _ => ⟨rfl, rfl⟩⟩⟩
  | cons => cases (show (none : Option Env) = some env' from e)
theorem tgs_cons {t : TG} {u : TGs} {tg : Tg} {tgs : List Tg} (h1 : TgS E t tg) (h2 : TgsS E u tgs) : TgsS E (gCons t u) (tg :: tgs) := by
  intro xb L0 L w env env' st σ H vs xs R h e Q hQ
  cases h with
  | nil => cases (show (none : Option Env) = some env' from e)
  | @cons v vs x xs r t =>
    have e' : (match Tg.set env tg x with | some env => Tg.sets env tgs xs | none => none) = some env' := e
    split at e'
    · rename_i env1 e1
      refine ⟨v, vs, rfl, h1 xb L0 L w env env1 st σ H v x R r e1 _ fun σ1 k1 => ?_⟩
      refine h2 xb L0 L w env1 env' st σ1 H vs xs k1.er t e' Q fun σ2 k2 => hQ σ2 ⟨k2.er, fun p z => k1.sod p (k2.sod p z), fun j hj => ?_⟩
      have a := k2.off j fun z => hj (List.mem_append.mpr (.inr z))
      have b := k1.off j fun z => hj (List.mem_append.mpr (.inl z))
      exact ⟨a.1.trans b.1, a.2.trans b.2⟩
    · cases e'
mutual
theorem set_len : ∀ {t : Tg} {x : D} {env env' : Env}, t.set env x = some env' → env'.length = env.length
  | .nm i, x, env, env', h => by
    cases (show some (env.set i (some (.d x))) = some env' from h)
    rw [List.length_set]
  | .tp ts, x, env, env', h => by
    cases x with
    | tup xs => exact set_lens (ts := ts) (xs := xs) h
    | _ => cases (show (none : Option Env) = some env' from h)
theorem set_lens : ∀ {ts : List Tg} {xs : List D} {env env' : Env}, Tg.sets env ts xs = some env' → env'.length = env.length
  | [], [], _, _, h => by cases h; rfl
  | t :: ts, x :: xs, env, env', h => by
    have h' : (match Tg.set env t x with | some env => Tg.sets env ts xs | none => none) = some env' := h
    split at h'
    · rename_i env1 e1
      rw [set_lens h', set_len e1]
    · cases h'
  | [], x :: xs, _, _, h => by cases h
  | t :: ts, [], _, _, h => by cases h
end
theorem sets_len : ∀ {tgs : List Tg} {xs : List D} {env env' : Env}, Tg.sets env tgs xs = some env' → xs.length = tgs.length
  | [], [], _, _, _ => rfl
  | t :: ts, x :: xs, env, env', h => by
    have h' : (match Tg.set env t x with | some env => Tg.sets env ts xs | none => none) = some env' := h
    split at h'
    · rw [List.length_cons, List.length_cons, sets_len h']
    · cases h'
  | [], x :: xs, _, _, h => by cases h
  | t :: ts, [], _, _, h => by cases h
theorem tg_tp {u : TGs} {tgs : List Tg} {k : Nat} (h : TgsS E u tgs) (hk : tgs.length = k) : TgS E (gTup E.K k u) (.tp tgs) := by
  intro xb L0 L w env env' st σ H v x R r e Q hQ
  cases x with
  | tup xs =>
    obtain ⟨a, vs, rfl, h1, h2⟩ := r.tup_of
    have e' : Tg.sets env tgs xs = some env' := e
    exact ⟨a, vs, rfl, h1.sq, by rw [h2.length, sets_len e', hk], h xb L0 L w env env' st σ H vs xs R h2 e' Q hQ⟩
  | _ => cases (show (none : Option Env) = some env' from e)
mutual
theorem free_nms {c : Cl} : ∀ {t : Tg}, t.free c = true → ∀ i ∈ t.names, .s i ∉ c.locks
  | .nm k, h, i, hi => fun z => by
    have e : i = k := List.mem_singleton.mp hi
    subst e
    have h' : (!c.locks.contains (.s i)) = true := h
    have e : c.locks.contains (.s i) = true := by simpa using z
    rw [e] at h'
    cases h'
  | .tp ts, h, i, hi => free_nmss (ts := ts) h i hi
theorem free_nmss {c : Cl} : ∀ {ts : List Tg}, Tg.frees c ts = true → ∀ i ∈ Tg.namess ts, .s i ∉ c.locks
  | [], _, i, hi => by cases hi
  | t :: ts, h, i, hi => by
    have h' : (t.free c && Tg.frees c ts) = true := h
    rw [Bool.and_eq_true] at h'
    rcases List.mem_append.mp hi with hi | hi
    · exact free_nms h'.1 i hi
    · exact free_nmss h'.2 i hi
end
theorem TgK.stp {ns : List Nat} (k : TgK xb E L0 L w st H env env' σ σ' ns) (h : ∀ i ∈ ns, .s i ∉ L) : Stp E L ⟨w, env, st, σ, H⟩ ⟨w, env', st, σ', H⟩ :=
  ⟨(Stp.rfl' _).toFrS, fun p z => .inl (k.sod p z), fun j hj => by
    have o := k.off j fun z => h j z hj
    exact ⟨o.1, o.2, fun _ _ _ _ => rfl⟩⟩
theorem put_inv {c : Cl} {t : Tg} {x : D} (h : t.put c env x = some env') : t.free c = true ∧ t.set env x = some env' := by
  unfold Tg.put at h
  split at h
  · rename_i hf
    exact ⟨hf, h⟩
  · cases h
/-! ### assignments -/
theorem ss_asg {te : TE} {g : TG} {e : Ex} {t : Tg} (he : SE P n E xb W te e) (hg : TgS E g t) (hn : ∀ i, t = .nm i → g = gName i) : SS P n E xb W (tAsg te g) (.asg t e) := by
  intro L0 L w env st σ H h0 S R r h D hD
  show te σ H fun x H1 => g x σ H1 D.nx
  have hD0 := hD
  refine sb_go he h0 S R h hD fun u st1 w1 H1 x S1 R1 f1 v1 h2 hD => ?_
  clear h
  revert h2; intro h
  split at h
  · rename_i y
    split at h
    · rename_i env' e1
      cases h
      obtain ⟨hf, e2⟩ := put_inv e1
      exact hg xb L0 L w1 env env' st1 σ H1 x y R1 v1.dd e2 D.nx fun σ' k => hD w1 σ' H1 S1 k.er (k.stp (free_nms hf))
    · cases h
  · rename_i y
    split at h
    · rename_i i
      unfold setV at h
      split at h
      · rename_i hf
        cases h
        rw [hn i rfl]
        cases v1 with
        | own k1 k2 k3 k4 k5 =>
          refine hD0 w1 _ H1 S1 (R.setOwn S h0 f1 k1 k2 k3 k4 k5) (Stp.name R1 (free_s hf) (fun q z => ?_) (Stp.of R f1))
          rcases sod_set z with z | ⟨e, _⟩
          · exact .inl z
          · cases e; exact .inr k4
      · cases h
    · cases h
  · rename_i y
    split at h
    · rename_i i
      unfold setV at h
      split at h
      · rename_i hf
        cases h
        rw [hn i rfl]
        cases v1 with
        | par k1 k2 k3 =>
          refine hD w1 _ H1 S1 (R1.setV (fun _ z => by cases z) (.par k1 k2 k3)) (Stp.name R1 (free_s hf) (fun q z => ?_) (Stp.rfl' _))
          rcases sod_set z with z | ⟨_, _, e⟩
          · exact .inl z
          · cases e
      · cases h
    · cases h
  · cases h
/-- a container goes from a name to another one -/
theorem ER.setMv {x : Cn} (R : ER E xb L0 w L st H env σ) (e : env[j]? = some (some (.c .own x))) (e2 : σ[j]? = some (some (.ref p))) (xt : Xt H p) : ER E xb L0 w L st H ((env.set j none).set i (some (.c .own x))) (σ.set i (some (.ref p))) := by
  have hp : Sod env σ p := sod_slot e e2
  obtain ⟨v0, q1, q2⟩ := R.ok j _ e
  rw [e2] at q1
  cases q1
  have hsod : ∀ q, Sod ((env.set j none).set i (some (.c .own x))) (σ.set i (some (.ref p))) q → Sod env σ q := fun q z => by
    rcases sod_set z with z | ⟨z, _⟩
    · exact sod_unset z
    · cases z; exact hp
  refine ⟨by rw [List.length_set, List.length_set, List.length_set]; exact R.len, fun m s' e' => ?_, fun m k x' y q a1 a2 a3 a4 => ?_, fun q z k => R.zs q z (hsod q k)⟩
  · rcases get_set e' with ⟨rfl, b1, hl⟩ | ⟨n1, b1⟩
    · cases b1
      rw [List.length_set] at hl
      cases q2 with
      | own k1 k2 k3 => exact ⟨_, set_eq (by rw [← R.len]; exact hl), .own k1 k2 fun _ => xt⟩
    · rcases get_set b1 with ⟨_, b2, _⟩ | ⟨n2, b2⟩
      · cases b2
      · obtain ⟨u, c1, c2⟩ := R.ok m s' b2
        exact ⟨u, by rw [set_ne n1]; exact c1, c2.re fun q _ k _ z => k (hsod q z)⟩
  · have key : ∀ (m : Nat) (x' : Cn), m ≠ i → ((env.set j none).set i (some (.c .own x)))[m]? = some (some (.c .own x')) → (σ.set i (some (.ref p)))[m]? = some (some (.ref q)) → m ≠ j ∧ env[m]? = some (some (.c .own x')) ∧ σ[m]? = some (some (.ref q)) := fun m x' n1 b1 b2 => by
      rw [set_ne n1] at b1 b2
      rcases get_set b1 with ⟨_, b3, _⟩ | ⟨n2, b3⟩
      · cases b3
      · exact ⟨n2, b3, b2⟩
    have at_i : ∀ (m : Nat), m = i → (σ.set i (some (.ref p)))[m]? = some (some (.ref q)) → q = p := fun m hm b => by
      subst hm
      rcases get_set b with ⟨_, b2, _⟩ | ⟨n, _⟩
      · cases b2; rfl
      · exact absurd rfl n
    by_cases hm : m = i <;> by_cases hk : k = i
    · rw [hm, hk]
    · obtain ⟨n1, b1, b2⟩ := key k y hk a2 a4
      have := at_i m hm a3
      subst this
      exact absurd (R.inj k j y x _ b1 e b2 e2) n1
    · obtain ⟨n1, b1, b2⟩ := key m x' hm a1 a3
      have := at_i k hk a4
      subst this
      exact absurd (R.inj m j x' x _ b1 e b2 e2) n1
    · obtain ⟨_, b1, b2⟩ := key m x' hm a1 a3
      obtain ⟨_, b3, b4⟩ := key k y hk a2 a4
      exact R.inj m k x' y q b1 b3 b2 b4
theorem ss_mv : SS P n E xb W (tAsg (tVar j) (gName i)) (.mv i j) := by
  intro L0 L w env st σ H h0 S R r h D hD
  show ∃ v, σ[j]? = some (some v) ∧ D.nx (σ.set i (some v)) H
  have h' : (match env[j]? with
    | some (some (.d x)) => setV (P.cl (P.call n) L) i (.d x) env st
    | some (some (.c .par x)) => setV (P.cl (P.call n) L) i (.c .par x) env st
    | some (some (.c .own x)) => if free (P.cl (P.call n) L) j then setV (P.cl (P.call n) L) i (.c .own x) (env.set j none) st else none
    | _ => none) = some r := h
  split at h'
  · rename_i x e
    obtain ⟨v, h1, h2⟩ := R.ok j _ e
    unfold setV at h'
    split at h'
    · rename_i hf
      cases h'
      cases h2 with
      | d h2 => exact ⟨v, h1, hD w _ H S (R.setV (fun _ z => by cases z) (.d h2)) (stp_setD R (free_s hf))⟩
    · cases h'
  · rename_i x e
    obtain ⟨v, h1, h2⟩ := R.ok j _ e
    unfold setV at h'
    split at h'
    · rename_i hf
      cases h'
      cases h2 with
      | par k1 k2 k3 =>
        refine ⟨_, h1, hD w _ H S (R.setV (fun _ z => by cases z) (.par k1 k2 k3)) (Stp.name R (free_s hf) (fun q z => ?_) (Stp.rfl' _))⟩
        rcases sod_set z with z | ⟨_, _, e⟩
        · exact .inl z
        · cases e
    · cases h'
  · rename_i x e
    obtain ⟨v, h1, h2⟩ := R.ok j _ e
    split at h'
    · rename_i hj
      unfold setV at h'
      split at h'
      · rename_i hf
        cases h'
        cases h2 with
        | @own p _ k1 k2 k3 =>
          have hp : Sod env σ p := sod_slot e h1
          refine ⟨_, h1, hD w _ H S (R.setMv e h1 (k3 (free_s hj))) ⟨(Stp.rfl' _).toFrS, fun q z => ?_, fun m hm => ?_⟩⟩
          · rcases sod_set z with z | ⟨z, _⟩
            · exact .inl (sod_unset z)
            · cases z; exact .inl hp
          · have n1 : m ≠ i := fun z => free_s hf (z ▸ hm)
            have n2 : m ≠ j := fun z => free_s hj (z ▸ hm)
            exact ⟨by show ((env.set j none).set i _)[m]? = env[m]?; rw [set_ne n1, set_ne n2], by show (σ.set i _)[m]? = σ[m]?; exact set_ne n1, fun _ _ _ _ => rfl⟩
      · cases h'
    · cases h'
  · cases h'
end
end Tv

namespace Tv
open PySem L2
/-- what stands at a stays so, as long as the locks hold -/
def StK (L : List Ow) (s : Fs) (a : Addr) : Prop := (∃ o ∈ L, o.live s.st ∧ s.w.at o = some a) ∨ (∃ (j : Nat) (x : Cn), .s j ∈ L ∧ s.env[j]? = some (some (.c .own x)) ∧ s.σ[j]? = some (some (.ref a))) ∨ (¬ Owd s.w s.st a ∧ ¬ Sod s.env s.σ a)
/-- a row of values is to be seen at a: b tells whether it is a tuple -/
def Vw (E : En) (Lk : List Ow) (b : Bool) (a : Addr) (xs : List D) (s : Fs) : Prop := ∃ vs, RvA E s.w.ad s.H vs xs ∧ ((b = false ∧ ((s.H a = some (.lst vs) ∧ StK Lk s a) ∨ ScL E.K s.w s.st s.H s.env s.σ a vs)) ∨ (b = true ∧ TuR E s.H a vs xs))
structure ItS (E : En) (J : L2.It) (xs : List D) (Hl : Fs → Prop) : Prop where
  go : ∀ (L : List Ow) (w : Wd) (env : Env) (st : Sto) (σ : L2.St) (H : Hp) (i : Nat) (x : D), SR E w L st H → Hl ⟨w, env, st, σ, H⟩ → xs[i]? = some x → J.go i H ∧ ∀ v H', J.yld i H v H' → SR E w L st H' ∧ Fr E L ⟨w, st, H⟩ ⟨w, st, H'⟩ ∧ Rv E w.ad H' v x
  stop : ∀ (s : Fs) (i : Nat), Hl s → xs.length ≤ i → J.stop i s.H
abbrev RI (E : En) : List Ow → Wd → Sto → Hp → Env → L2.St → Hp → L2.It → Ito → Prop := fun L0 w st H env σ _ J j =>
  (∀ o ∈ j.locks, ∀ st', o.live st' → o.live st) ∧ ∃ Hl : Fs → Prop, Hl ⟨w, env, st, σ, H⟩ ∧ (∀ s s' : Fs, Stp E (j.locks ++ L0) s s' → Hl s → Hl s') ∧ ItS E J j.xs Hl
abbrev SIt (P : Prog) (n : Nat) (E : En) (xb : XB) (W : WX) (t : TI) (e : Tv.It) : Prop := SG P n E xb W (RI E) t (fun c env st => evI c e env st)
section
variable {E : En} {xb : XB} {w w0 w1 w2 : Wd} {L0 L L' l Lk : List Ow} {st st0 st1 st2 : Sto} {H H1 H2 B B' : Hp} {env env1 env' : Env} {σ σ1 σ' : L2.St} {v : V} {s : SV} {vs : List V} {ss : List SV} {j i : Nat} {p : Addr} {P : Prog} {n : Nat} {W : WX} {X : Cx} {a b d : Fs} {c : Ss} {q : Addr}
theorem StK.stp (k : StK L a q) (f : Stp E L a b) (h : a.H q ≠ none) : StK L b q ∧ b.H q = a.H q := by
  rcases k with ⟨o, h1, h2, h3⟩ | ⟨j, x, h1, h2, h3⟩ | ⟨h1, h2⟩
  · obtain ⟨k1, k2, k3⟩ := f.lk o h1 h2
    exact ⟨.inl ⟨o, h1, k1, k2.trans h3⟩, k3 q h3⟩
  · obtain ⟨k1, k2, k3⟩ := f.lkS j h1
    exact ⟨.inr (.inl ⟨j, x, h1, k1.trans h2, k2.trans h3⟩), k3 q x h2 h3⟩
  · cases e : a.H q with
    | none => exact absurd e h
    | some o =>
      refine ⟨.inr (.inr ⟨fun z => ?_, fun z => ?_⟩), f.out q o e h1 h2⟩
      · rcases f.new q z with z | z | z
        · exact h1 z
        · exact h2 z
        · exact h z
      · rcases f.newS q z with z | z
        · exact h2 z
        · exact h z
theorem ScL.stp {vs : List V} (f : Stp E L a b) (h : ScL E.K a.w a.st a.H a.env a.σ q vs) : ScL E.K b.w b.st b.H b.env b.σ q vs := by
  rcases h with h | ⟨h1, h2, h3⟩
  · exact .inl h
  · have hn := rd_has h1
    refine .inr ⟨?_, fun z => ?_, fun z => ?_⟩
    · rcases h1 with h1 | ⟨o, h1⟩
      · exact .inl (f.out _ _ h1 h2 h3)
      · exact .inr ⟨o, f.out _ _ h1 h2 h3⟩
    · rcases f.new q z with z | z | z
      · exact h2 z
      · exact h3 z
      · exact hn z
    · rcases f.newS q z with z | z
      · exact h3 z
      · exact hn z
theorem Vw.stp {t : Bool} {xs : List D} (f : Stp E Lk a b) (h : Vw E Lk t q xs a) : Vw E Lk t q xs b := by
  obtain ⟨vs, h1, h2⟩ := h
  refine ⟨vs, h1.mono f.ad f.tm, ?_⟩
  rcases h2 with ⟨e, ⟨h2, h3⟩ | h2⟩ | ⟨e, h2⟩
  · obtain ⟨k1, k2⟩ := h3.stp f (by rw [h2]; intro z; cases z)
    exact .inl ⟨e, .inl ⟨k2.trans h2, k1⟩⟩
  · exact .inl ⟨e, .inr (h2.stp f)⟩
  · exact .inr ⟨e, h2.mono f.tm⟩
theorem Vw.lst {xs : List D} (h : Vw E Lk false q xs a) : ∃ vs, RvA E a.w.ad a.H vs xs ∧ SqL E.K a.H q vs := by
  obtain ⟨vs, h1, ⟨_, ⟨h2, _⟩ | h2⟩ | ⟨e, _⟩⟩ := h
  · exact ⟨vs, h1, SqL.of h2⟩
  · exact ⟨vs, h1, h2.sq⟩
  · cases e
theorem Vw.tup {xs : List D} (h : Vw E Lk true q xs a) : ∃ vs, RvA E a.w.ad a.H vs xs ∧ SqT E.K a.H q vs := by
  obtain ⟨vs, h1, ⟨e, _⟩ | ⟨_, h2⟩⟩ := h
  · cases e
  · exact ⟨vs, h1, h2.sq⟩
theorem VR.vw {t : Bool} {xs : List D} (S : SR E w L st H) (hB : ∀ p, Sod env σ p → B p ≠ none) (h : VR E L0 w st H env σ B v s) (e : rowOf s st = some (t, xs)) : ∃ q, v = .ref q ∧ Vw E (stayOf s ++ L0) t q xs ⟨w, env, st, σ, H⟩ := by
  have lst : ∀ {q : Addr}, CoR E w.ad H q (.l xs) → StK (stayOf s ++ L0) ⟨w, env, st, σ, H⟩ q → Vw E (stayOf s ++ L0) false q xs ⟨w, env, st, σ, H⟩ := fun {q} c k => by
    obtain ⟨u, r, z⟩ := c
    cases u <;> try exact z.elim
    exact ⟨_, z, .inl ⟨rfl, .inl ⟨r.lst, k⟩⟩⟩
  cases h with
  | @d v x r =>
    cases x with
    | tup ys =>
      cases e
      obtain ⟨q, vs, rfl, h1, h2⟩ := r.tup_of
      exact ⟨q, rfl, vs, h2, .inr ⟨rfl, h1⟩⟩
    | ref k =>
      obtain ⟨q, rfl, e2⟩ := r.ref_of
      have e' : (match (match st[k]? with | some (.con x) => some x | _ => none) with | some (.l xs) => some (false, xs) | _ => none) = some (t, xs) := e
      split at e'
      · rename_i ys e3
        split at e3
        · rename_i y e4
          cases e3
          cases e'
          obtain ⟨q', k1, k2⟩ := S.cell _ _ e4
          rw [e2] at k1
          cases k1
          exact ⟨q, rfl, lst k2 (.inl ⟨.c k, List.mem_append.mpr (.inl (by simp [stayOf])), (List.getElem?_eq_some_iff.mp e4).1, e2⟩)⟩
        · cases e3
      · cases e'
    | _ => cases e
  | @own q x h1 h2 h3 h4 h5 =>
    cases x <;> cases e
    exact ⟨q, rfl, lst h1 (.inr (.inr ⟨h3, fun z => hB q z h4⟩))⟩
  | @atS j q x h1 h2 h3 h4 =>
    cases x <;> cases e
    exact ⟨q, rfl, lst h3 (.inr (.inl ⟨j, _, List.mem_append.mpr (.inl (by simp [stayOf])), h1, h2⟩))⟩
  | @atF i nm x h1 h2 =>
    cases x <;> cases e
    exact ⟨_, rfl, lst h1 (.inl ⟨.f i nm, List.mem_append.mpr (.inl (by simp [stayOf])), h2, rfl⟩)⟩
  | @par q x h1 h2 h3 =>
    cases x <;> cases e
    refine ⟨q, rfl, lst h1 ?_⟩
    rcases h2 with h2 | ⟨o, k1, k2, k3⟩
    · exact .inr (.inr ⟨h2, h3⟩)
    · exact .inl ⟨o, List.mem_append.mpr (.inr k1), k2, k3⟩
  | @scr q vs ys h1 h2 =>
    cases e
    exact ⟨q, rfl, vs, h2, .inl ⟨rfl, .inr h1⟩⟩
theorem stay_live {xs : List D} {t : Bool} (h : VR E L0 w st H env σ B v s) (e : rowOf s st = some (t, xs)) : ∀ o ∈ stayOf s, ∀ st', o.live st' → o.live st := by
  intro o ho st' k
  cases h with
  | @d v x r =>
    cases x with
    | ref m =>
      simp [stayOf] at ho
      subst ho
      have e' : (match (match st[m]? with | some (.con x) => some x | _ => none) with | some (.l xs) => some (false, xs) | _ => none) = some (t, xs) := e
      split at e'
      · rename_i ys e3
        split at e3
        · rename_i y e4
          exact (List.getElem?_eq_some_iff.mp e4).1
        · cases e3
      · cases e'
    | _ => simp [stayOf] at ho
  | own h1 h2 h3 h4 h5 => simp [stayOf] at ho
  | atS h1 h2 h3 h4 =>
    simp [stayOf] at ho
    subst ho
    exact k.elim
  | atF h1 h2 =>
    simp [stayOf] at ho
    subst ho
    exact h2
  | par h1 h2 h3 => simp [stayOf] at ho
  | scr h1 h2 => simp [stayOf] at ho
theorem its_lst {xs : List D} : ItS E (Itl E.K q) xs (Vw E Lk false q xs) := by
  refine ⟨fun L w env st σ H i x S h e => ?_, fun s i h hi => ?_⟩
  · obtain ⟨vs, h1, h2⟩ := h.lst
    obtain ⟨v, h3, h4⟩ := h1.get e
    refine ⟨⟨vs, v, h2, h3⟩, fun u H' y => ?_⟩
    obtain ⟨rfl, y⟩ := y
    have e2 := y vs h2
    rw [h3] at e2
    cases e2
    exact ⟨S, Fr.rfl' _, h4⟩
  · obtain ⟨vs, h1, h2⟩ := h.lst
    exact ⟨vs, h2, by rw [h1.length]; exact hi⟩
theorem its_tup {xs : List D} : ItS E (Itt E.K q) xs (Vw E Lk true q xs) := by
  refine ⟨fun L w env st σ H i x S h e => ?_, fun s i h hi => ?_⟩
  · obtain ⟨vs, h1, h2⟩ := h.tup
    obtain ⟨v, h3, h4⟩ := h1.get e
    refine ⟨⟨vs, v, h2, h3⟩, fun u H' y => ?_⟩
    obtain ⟨rfl, y⟩ := y
    have e2 := y vs h2
    rw [h3] at e2
    cases e2
    exact ⟨S, Fr.rfl' _, h4⟩
  · obtain ⟨vs, h1, h2⟩ := h.tup
    exact ⟨vs, h2, by rw [h1.length]; exact hi⟩
theorem its_rng {lo : Int} {k : Nat} : ItS E (Itr lo k) (rangeD lo k) (fun _ => True) := by
  refine ⟨fun L w env st σ H i x S h e => ?_, fun s i h hi => ?_⟩
  · unfold rangeD at e
    rw [List.getElem?_map] at e
    by_cases hi : i < k
    · rw [List.getElem?_range hi] at e
      have e' : some (D.int (lo + (i : Int))) = some x := e
      cases e'
      refine ⟨hi, fun u H' y => ?_⟩
      obtain ⟨rfl, rfl⟩ := y
      exact ⟨S, Fr.rfl' _, .int _⟩
    · rw [List.getElem?_eq_none (by rw [List.length_range]; omega)] at e
      cases e
  · unfold rangeD at hi
    rw [List.length_map, List.length_range] at hi
    exact hi
/-- over a list or a tuple -/
def iSeqX (K : PySem.W.Frag) (tl : TE) : TI := fun σ H R => tl σ H fun x H1 => ∃ q, x = .ref q ∧ (((∃ xs, SqL K H1 q xs) ∧ R (Itl K q) H1) ∨ ((∃ xs, SqT K H1 q xs) ∧ R (Itt K q) H1))
theorem pi_X {tg e : Expr} {tl : TE} (hl : PE X e tl) : PI X tg e (iSeqX X.K tl) := by
  refine ⟨fun pins s σ H R I h => ?_⟩
  refine thn (hl.run pins s σ H _ I h) fun v s1 ⟨x, H1, I1, r1, q1⟩ => ?_
  obtain ⟨a, e, q1⟩ := q1
  subst e
  have he : PE X e (tC (.ref a)) → True := fun _ => trivial
  rcases q1 with ⟨⟨xs, hq⟩, q⟩ | ⟨⟨xs, hq⟩, q⟩
  · cases r1
    obtain ⟨its, rv, p, hz⟩ := I1.list hq
    refine PySem.wpAny_pyIter_list p.isList ?_
    refine ⟨s1.heap.objs.size, [s1.heap.objs.size], _, _, H1, rfl, I1.kept (t' := s1.toks) fun b o e => Heap.get?_push_of_some _ e, turn_list a _, ⟨_, Heap.get?_push_size _ rfl, rfl, rfl⟩, fun b hb => ?_, q⟩
    have e : b = s1.heap.objs.size := by simpa using hb
    subst e
    exact I1.fpOk (Nat.le_refl _) (I1.hok.fresh (Nat.le_refl _))
  · cases r1
    obtain ⟨its, rv, p, hz⟩ := I1.tuple hq
    refine PySem.wpAny_pyIter_tuple (show s1.heap.IsTuple a its.toArray from p) ?_
    refine ⟨s1.heap.objs.size, [s1.heap.objs.size], _, _, H1, rfl, I1.kept (t' := s1.toks) fun b o e => Heap.get?_push_of_some _ e, turn_tuple a _, ⟨_, Heap.get?_push_size _ rfl, rfl, rfl⟩, fun b hb => ?_, q⟩
    have e : b = s1.heap.objs.size := by simpa using hb
    subst e
    exact I1.fpOk (Nat.le_refl _) (I1.hok.fresh (Nat.le_refl _))
theorem row_stay {b : Bool} {u : SV} {xs : List D} (h : itRow u st = some (.ok ⟨xs, l⟩ st1)) : st1 = st ∧ l = stayOf u ∧ ∃ b, rowOf u st = some (b, xs) := by
  unfold itRow at h
  split at h
  · rename_i b ys e
    cases ok_inj h
    exact ⟨rfl, rfl, b, e⟩
  · cases h
theorem sod_base (R : ER E xb L0 w L st H env σ) : ∀ p, Sod env σ p → H p ≠ none := fun p z e => by
  obtain ⟨_, o, e2, _⟩ := R.sod z
  rw [e] at e2
  cases e2
/-- what is walked is no dict -/
def noDict (r : Res SV) : Prop := ∀ u st, r = some (.ok u st) → ∀ kvs, cnOf u st ≠ some (.m kvs)
theorem si_row {te : TE} {e : Ex} (h : SE P n E xb W te e) (L0 L : List Ow) (w : Wd) (env : Env) (st : Sto) (σ : L2.St) (H : Hp) (h0 : ∀ o ∈ L0, o ∈ L) (S : SR E w L st H) (R : ER E xb L0 w L st H env σ) (r : Out Ito)
    (h2 : rb (ev (P.cl (P.call n) L) e env st) (fun u st => itRow u st) = some r) (Q : L2.It → Hp → Prop) (hQ : OkR E W L w st σ H (fun w' st' H' b a => RI E L0 w' st' H' env σ H b a) Q r) : iSeqX E.K te σ H Q := by
  show te σ H fun x H1 => ∃ q, x = .ref q ∧ (((∃ xs, SqL E.K H1 q xs) ∧ Q (Itl E.K q) H1) ∨ ((∃ xs, SqT E.K H1 q xs) ∧ Q (Itt E.K q) H1))
  refine sg_go h h0 S R h2 hQ fun u st1 w1 H1 x S1 R1 f1 v1 h3 hQ => ?_
  unfold itRow at h3
  split at h3
  · rename_i b xs e1
    cases ok_inj h3
    obtain ⟨q, rfl, h4⟩ := v1.vw S1 (sod_base R) e1
    refine ⟨q, rfl, ?_⟩
    cases b with
    | false =>
      obtain ⟨vs, _, h5⟩ := h4.lst
      exact .inl ⟨⟨vs, h5⟩, okr_now hQ S1 ⟨stay_live v1 e1, _, h4, fun s s' f k => k.stp f, its_lst⟩⟩
    | true =>
      obtain ⟨vs, _, h5⟩ := h4.tup
      exact .inr ⟨⟨vs, h5⟩, okr_now hQ S1 ⟨stay_live v1 e1, _, h4, fun s s' f k => k.stp f, its_tup⟩⟩
  · cases h3
theorem itSeq_row {u : SV} {j : Ito} {st' : Sto} (nd : ∀ kvs, cnOf u st ≠ some (.m kvs)) (h : itSeq u st = some (.ok j st')) : itRow u st = some (.ok j st') := by
  unfold itSeq at h
  unfold itRow
  cases e : rowOf u st with
  | some p => rw [e] at h; exact h
  | none =>
    rw [e] at h
    cases e2 : cnOf u st with
    | none => rw [e2] at h; cases h
    | some x =>
      cases x with
      | m kvs => exact absurd e2 (nd kvs)
      | l xs => rw [e2] at h; cases h
      | t kvs => rw [e2] at h; cases h
theorem si_range {te : TE} {e : Ex} (h : SE P n E xb W te e) : SIt P n E xb W (iRng1 (tCons te tNil)) (.range e) := by
  intro L0 L w env st σ H h0 S R r h2 Q hQ
  show te σ H fun x H1 => ∃ j : Int, [x] = [.int j] ∧ -(2 ^ 62) ≤ j ∧ j < 2 ^ 62 ∧ Q (Itr 0 j.toNat) H1
  refine sg_go h h0 S R h2 hQ fun u st1 w1 H1 x S1 R1 f1 v1 h3 hQ => ?_
  split at h3
  · rename_i k
    split at h3
    · rename_i hk
      cases ok_inj h3
      unfold smallI at hk
      simp only [Bool.and_eq_true, decide_eq_true_eq] at hk
      refine ⟨k, by rw [v1.int], hk.1, hk.2, okr_now hQ S1 ⟨fun o ho => by simp at ho, fun _ => True, trivial, fun _ _ _ _ => trivial, its_rng⟩⟩
    · cases h3
  · cases h3
theorem si_range2 {ta tb : TE} {a b : Ex} (ha : SE P n E xb W ta a) (hb : SE P n E xb W tb b) : SIt P n E xb W (iRng2 (tCons ta (tCons tb tNil))) (.range2 a b) := by
  intro L0 L w env st σ H h0 S R r h2 Q hQ
  show ta σ H fun x H1 => tb σ H1 fun y H2 => ∃ i j : Int, [x, y] = [.int i, .int j] ∧ (-(2 ^ 62) ≤ i ∧ i < 2 ^ 62 ∧ -(2 ^ 62) ≤ j ∧ j < 2 ^ 62) ∧ Q (Itr i (j - i).toNat) H2
  refine sg_go ha h0 S R h2 hQ fun u st1 w1 H1 x S1 R1 f1 v1 h3 hQ => ?_
  refine sg_golk hb h0 S1 R1 v1.live h3 hQ fun u2 st2 w2 H2 y S2 R2 f2 v2 h4 hQ => ?_
  split at h4
  · rename_i i k
    split at h4
    · rename_i hk
      cases ok_inj h4
      unfold smallI at hk
      simp only [Bool.and_eq_true, decide_eq_true_eq] at hk
      have v1' := v1.fr f2 (fun o z => List.mem_append.mpr (.inr (h0 o z))) (fun o z => List.mem_append.mpr (.inl z))
      refine ⟨i, k, by rw [v1'.int, v2.int], ⟨hk.1.1, hk.1.2, hk.2.1, hk.2.2⟩, okr_now hQ S2 ⟨fun o ho => by simp at ho, fun _ => True, trivial, fun _ _ _ _ => trivial, its_rng⟩⟩
    · cases h4
  · cases h4
/-! reversed -/
theorem rev_get {α : Type} {xs : List α} {i : Nat} {x : α} (h : xs.reverse[i]? = some x) : i < xs.length ∧ xs[xs.length - 1 - i]? = some x := by
  have hi : i < xs.length := by
    have := (List.getElem?_eq_some_iff.mp h).1
    rw [List.length_reverse] at this
    exact this
  rw [List.getElem?_reverse hi] at h
  exact ⟨hi, h⟩
theorem its_rev {xs : List D} : ItS E (Itv E.K q xs.length) xs.reverse (Vw E Lk false q xs) := by
  refine ⟨fun L w env st σ H i x S h e => ?_, fun s i h hi => ?_⟩
  · obtain ⟨hi, e⟩ := rev_get e
    obtain ⟨vs, h1, h2⟩ := h.lst
    obtain ⟨v, h3, h4⟩ := h1.get e
    refine ⟨⟨hi, vs, v, h2, h3⟩, fun u H' y => ?_⟩
    obtain ⟨rfl, y⟩ := y
    have e2 := y vs h2
    rw [h3] at e2
    cases e2
    exact ⟨S, Fr.rfl' _, h4⟩
  · rw [List.length_reverse] at hi
    exact hi
theorem its_revT {xs : List D} : ItS E (RT.ItvT E.K q xs.length) xs.reverse (Vw E Lk true q xs) := by
  refine ⟨fun L w env st σ H i x S h e => ?_, fun s i h hi => ?_⟩
  · obtain ⟨hi, e⟩ := rev_get e
    obtain ⟨vs, h1, h2⟩ := h.tup
    obtain ⟨v, h3, h4⟩ := h1.get e
    refine ⟨⟨hi, vs, v, h2, h3⟩, fun u H' y => ?_⟩
    obtain ⟨rfl, y⟩ := y
    have e2 := y vs h2
    rw [h3] at e2
    cases e2
    exact ⟨S, Fr.rfl' _, h4⟩
  · rw [List.length_reverse] at hi
    exact hi
theorem si_rev {te : TE} {e : Ex} (h : SE P n E xb W te e) : SIt P n E xb W (RT.iRevA E.K te) (.rev e) := by
  intro L0 L w env st σ H h0 S R r h2 Q hQ
  show te σ H fun v H1 => ∃ (a : Addr) (xs : List V), v = .ref a ∧ ((SqL E.K H1 a xs ∧ Q (Itv E.K a xs.length) H1) ∨ (SqT E.K H1 a xs ∧ Q (RT.ItvT E.K a xs.length) H1))
  refine sg_go h h0 S R h2 hQ fun u st1 w1 H1 x S1 R1 f1 v1 h3 hQ => ?_
  cases e0 : itRow u st1 with
  | none => rw [e0] at h3; cases h3
  | some o =>
    rw [e0] at h3
    unfold itRow at e0
    split at e0
    · rename_i b xs e1
      cases ok_inj e0
      cases ok_inj (show ok _ st1 = some r from h3)
      obtain ⟨q, rfl, h4⟩ := v1.vw S1 (sod_base R) e1
      cases b with
      | false =>
        obtain ⟨vs, h6, h5⟩ := h4.lst
        refine ⟨q, vs, rfl, .inl ⟨h5, ?_⟩⟩
        rw [h6.length]
        exact okr_now hQ S1 ⟨stay_live v1 e1, _, h4, fun s s' f k => k.stp f, its_rev⟩
      | true =>
        obtain ⟨vs, h6, h5⟩ := h4.tup
        refine ⟨q, vs, rfl, .inr ⟨h5, ?_⟩⟩
        rw [h6.length]
        exact okr_now hQ S1 ⟨stay_live v1 e1, _, h4, fun s s' f k => k.stp f, its_revT⟩
    · cases e0
end
end Tv

namespace Tv
open PySem L2
section
variable {E : En} {xb : XB} {w w0 w1 w2 : Wd} {L0 L L' l Lk : List Ow} {st st0 st1 st2 : Sto} {H H1 H2 B B' : Hp} {env env1 env' : Env} {σ σ1 σ' : L2.St} {v : V} {s : SV} {vs : List V} {ss : List SV} {j i : Nat} {p : Addr} {P : Prog} {n : Nat} {W : WX} {X : Cx} {a b d : Fs} {c : Ss} {q : Addr}
/-! ### loops -/
theorem SR.unlkS (S : SR E w L st H) (f : Stp E (l ++ L) ⟨w, env, st, σ, H⟩ ⟨w1, env1, st1, σ1, H1⟩) (S1 : SR E w1 (l ++ L) st1 H1) (hl : ∀ o ∈ l, ∀ st', o.live st' → o.live st) : SR E w1 L st1 H1 :=
  ⟨S1.len, S1.inj, S1.cell, fun o a h1 h2 h3 => by
    by_cases hm : o ∈ l
    · have h4 := hl o hm st1 h1
      obtain ⟨k1, k2, k3⟩ := f.lk o (List.mem_append.mpr (.inl hm)) h4
      have e := k2.symm.trans h3
      obtain ⟨u, e1, m⟩ := S.ex o a h4 h2 e
      exact ⟨u, (k3 a e).trans e1, m⟩
    · exact S1.ex o a h1 (fun z => by rcases List.mem_append.mp z with z | z; exact hm z; exact h2 z) h3, S1.nd⟩
theorem ER.unlk (R : ER E xb L0 w L st H env σ) (f : Stp E (l ++ L) ⟨w, env, st, σ, H⟩ ⟨w1, env1, st1, σ1, H1⟩) (R1 : ER E xb L0 w1 (l ++ L) st1 H1 env1 σ1) : ER E xb L0 w1 L st1 H1 env1 σ1 := by
  refine ⟨R1.len, fun j s e => ?_, R1.inj, R1.zs⟩
  obtain ⟨v, h1, h2⟩ := R1.ok j s e
  refine ⟨v, h1, ?_⟩
  cases h2 with
  | d k1 => exact .d k1
  | own k1 k2 k3 =>
    refine .own k1 k2 fun z => ?_
    by_cases hm : Ow.s j ∈ l
    · obtain ⟨e1, e2, e3⟩ := f.lkS j (List.mem_append.mpr (.inl hm))
      have e4 : env[j]? = some (some (.c .own _)) := e1.symm.trans e
      obtain ⟨v', q1, q2⟩ := R.ok j _ e4
      have e5 : σ[j]? = some (some (.ref _)) := e2.symm.trans h1
      rw [e5] at q1
      cases q1
      cases q2 with
      | own r1 r2 r3 =>
        obtain ⟨u, y1, y2⟩ := r3 z
        exact ⟨u, (e3 _ _ e4 e5).trans y1, y2⟩
    · exact k3 fun y => by rcases List.mem_append.mp y with y | y; exact hm y; exact z y
  | par k1 k2 k3 => exact .par k1 k2 k3
  | scr k1 k2 => exact .scr k1 k2
  | x k1 k2 => exact .x k1 k2
theorem mem_r {o : Ow} (h : o ∈ L) : o ∈ l ++ L := List.mem_append.mpr (.inr h)
theorem OkS.lk {D : Ends} {r : SO} (S : SR E w L st H) (R : ER E xb L0 w L st H env σ) (hl : ∀ o ∈ l, ∀ st', o.live st' → o.live st) (h : OkS E xb W L0 L ⟨w, env, st, σ, H⟩ D r) : OkS E xb W L0 (l ++ L) ⟨w, env, st, σ, H⟩ D r := by
  cases r with
  | nx env' st' => exact fun w' σ' H' S' R' g => h w' σ' H' (S.unlkS g S' hl) (R.unlk g R') (g.less fun o z => mem_r z)
  | bk env' st' => exact fun w' σ' H' S' R' g => h w' σ' H' (S.unlkS g S' hl) (R.unlk g R') (g.less fun o z => mem_r z)
  | ct env' st' => exact fun w' σ' H' S' R' g => h w' σ' H' (S.unlkS g S' hl) (R.unlk g R') (g.less fun o z => mem_r z)
  | ex x env' st' => exact fun w' σ' H' cls d S' R' g => h w' σ' H' cls d (S.unlkS g S' hl) (R.unlk g R') (g.less fun o z => mem_r z)
  | rt sv st' =>
    refine fun w' H' v S' g k => h w' H' v ?_ (g.less fun o z => mem_r z) k
    refine ⟨S'.len, S'.inj, S'.cell, fun o a h1 h2 h3 => ?_, S'.nd⟩
    by_cases hm : o ∈ l
    · have h4 := hl o hm st' h1
      obtain ⟨k1, k2, k3⟩ := g.lk o (List.mem_append.mpr (.inl hm)) h4
      have e := k2.symm.trans h3
      obtain ⟨u, e1, m⟩ := S.ex o a h4 h2 e
      exact ⟨u, (k3 a e).trans e1, m⟩
    · exact S'.ex o a h1 (fun z => by rcases List.mem_append.mp z with z | z; exact hm z; exact h2 z) h3
theorem for_core {g : TG} {tb : TS} {t : Tg} {b : Stts} {J : L2.It} {j : Ito} {Hl : Fs → Prop} {D : Ends} {r : SO} (hg : TgS E g t) (hb : SSs P n E xb W tb b) (h0 : ∀ o ∈ L0, o ∈ L) (S1' : SR E w1 (j.locks ++ L) st1 H1) (R1' : ER E xb L0 w1 (j.locks ++ L) st1 H1 env σ)
    (hh : Hl ⟨w1, env, st1, σ, H1⟩) (hst : ∀ s s', Stp E (j.locks ++ L0) s s' → Hl s → Hl s') (its : ItS E J j.xs Hl)
    (h2 : forL (fun x env st => match t.put ((P.cl (P.call n) L).lk j.locks) env x with
        | some env => execs ((P.cl (P.call n) L).lk j.locks) b env st
        | none => none) j.xs env st1 = some r) (hDl : OkS E xb W L0 (j.locks ++ L) ⟨w1, env, st1, σ, H1⟩ D r) :
    ∃ W : Nat → Nat → L2.St → Hp → Prop, (∃ m, W 0 m σ H1) ∧ ∀ i m σ H, W i m σ H →
    (J.stop i H ∧ D.nx σ H) ∨ (J.go i H ∧ ∃ N : L2.St → Hp → Prop, (∀ σ' H', N σ' H' → ∃ m', m' < m ∧ W (i + 1) m' σ' H') ∧ ∀ x H', J.yld i H x H' → g x σ H' fun σ2 H2 => tb { D with nx := N, ct := N, bk := D.nx } σ2 H2) := by
  have h0' : ∀ o ∈ L0, o ∈ j.locks ++ L := fun o z => mem_r (h0 o z)
  have hlk : ∀ o ∈ j.locks ++ L0, o ∈ j.locks ++ L := fun o z => (List.mem_append.mp z).elim (fun z => List.mem_append.mpr (.inl z)) fun z => mem_r (h0 o z)
  refine ⟨fun i m σ' H' => m = j.xs.length - i ∧ ∃ (w' : Wd) (env' : Env) (st' : Sto), SR E w' (j.locks ++ L) st' H' ∧ ER E xb L0 w' (j.locks ++ L) st' H' env' σ' ∧ Stp E (j.locks ++ L) ⟨w1, env, st1, σ, H1⟩ ⟨w', env', st', σ', H'⟩ ∧
    forL (fun x env st => match t.put ((P.cl (P.call n) L).lk j.locks) env x with
        | some env => execs ((P.cl (P.call n) L).lk j.locks) b env st
        | none => none) (j.xs.drop i) env' st' = some r,
    ⟨j.xs.length, rfl, w1, env, st1, S1', R1', Stp.rfl' _, h2⟩, ?_⟩
  rintro i m σ' H' ⟨rfl, w', env', st', S', R', g', h'⟩
  have hh' := hst _ _ (g'.less hlk) hh
  cases e : j.xs.drop i with
  | nil =>
    rw [e] at h'
    cases (show some (SO.nx env' st') = some r from h')
    refine .inl ⟨its.stop ⟨w', env', st', σ', H'⟩ i hh' ?_, hDl w' σ' H' S' R' g'⟩
    exact List.drop_eq_nil_iff.mp e
  | cons x rest =>
    rw [e] at h'
    have hx : j.xs[i]? = some x := by
      have := congrArg List.head? e
      rw [List.head?_drop] at this
      exact this
    have hlt : i < j.xs.length := (List.getElem?_eq_some_iff.mp hx).1
    have hr : rest = j.xs.drop (i + 1) := by
      have := congrArg List.tail e
      rw [List.tail_drop] at this
      exact this.symm
    obtain ⟨go, yl⟩ := its.go (j.locks ++ L) w' env' st' σ' H' i x S' hh' hx
    refine .inr ⟨go, fun σ2 H2 => ∃ m', m' < j.xs.length - i ∧ (m' = j.xs.length - (i + 1) ∧ ∃ (w' : Wd) (env' : Env) (st' : Sto), SR E w' (j.locks ++ L) st' H2 ∧ ER E xb L0 w' (j.locks ++ L) st' H2 env' σ2 ∧ Stp E (j.locks ++ L) ⟨w1, env, st1, σ, H1⟩ ⟨w', env', st', σ2, H2⟩ ∧
      forL (fun x env st => match t.put ((P.cl (P.call n) L).lk j.locks) env x with
        | some env => execs ((P.cl (P.call n) L).lk j.locks) b env st
        | none => none) (j.xs.drop (i + 1)) env' st' = some r), fun _ _ z => z, fun u H2 y => ?_⟩
    obtain ⟨S2, f2, rx⟩ := yl u H2 y
    have R2 := R'.fr S' h0' f2
    have g2 := g'.tr (Stp.of R' f2)
    have h3 : (match (match t.put ((P.cl (P.call n) L).lk j.locks) env' x with
        | some env => execs ((P.cl (P.call n) L).lk j.locks) b env st'
        | none => none) with
      | some (.nx env st) => forL (fun x env st => match t.put ((P.cl (P.call n) L).lk j.locks) env x with
        | some env => execs ((P.cl (P.call n) L).lk j.locks) b env st
        | none => none) rest env st
      | some (.ct env st) => forL (fun x env st => match t.put ((P.cl (P.call n) L).lk j.locks) env x with
        | some env => execs ((P.cl (P.call n) L).lk j.locks) b env st
        | none => none) rest env st
      | some (.bk env st) => some (.nx env st)
      | r => r) = some r := h'
    cases e3 : t.put ((P.cl (P.call n) L).lk j.locks) env' x with
    | none => rw [e3] at h3; cases h3
    | some env3 =>
      rw [e3] at h3
      dsimp only at h3
      obtain ⟨hf, e4⟩ := put_inv e3
      refine hg xb L0 (j.locks ++ L) w' env' env3 st' σ' H2 u x R2 rx e4 _ fun σ3 k3 => ?_
      have R3 := k3.er
      have g3' := g2.tr (k3.stp (free_nms hf))
      cases e5 : execs ((P.cl (P.call n) L).lk j.locks) b env3 st' with
      | none => rw [e5] at h3; cases h3
      | some o =>
        rw [e5] at h3
        refine hb L0 (j.locks ++ L) w' env3 st' σ3 H2 h0' S2 R3 o e5 _ ?_
        have nxt : ∀ (env6 : Env) (st6 : Sto), forL (fun x env st => match t.put ((P.cl (P.call n) L).lk j.locks) env x with
            | some env => execs ((P.cl (P.call n) L).lk j.locks) b env st
            | none => none) rest env6 st6 = some r → ∀ w6 σ6 H6, SR E w6 (j.locks ++ L) st6 H6 → ER E xb L0 w6 (j.locks ++ L) st6 H6 env6 σ6 → Stp E (j.locks ++ L) ⟨w', env3, st', σ3, H2⟩ ⟨w6, env6, st6, σ6, H6⟩ → ∃ m', m' < j.xs.length - i ∧ (m' = j.xs.length - (i + 1) ∧ ∃ (w' : Wd) (env' : Env) (st' : Sto), SR E w' (j.locks ++ L) st' H6 ∧ ER E xb L0 w' (j.locks ++ L) st' H6 env' σ6 ∧ Stp E (j.locks ++ L) ⟨w1, env, st1, σ, H1⟩ ⟨w', env', st', σ6, H6⟩ ∧
            forL (fun x env st => match t.put ((P.cl (P.call n) L).lk j.locks) env x with
            | some env => execs ((P.cl (P.call n) L).lk j.locks) b env st
            | none => none) (j.xs.drop (i + 1)) env' st' = some r) := fun env6 st6 h6 w6 σ6 H6 S6 R6 g6 =>
          ⟨j.xs.length - (i + 1), by omega, rfl, w6, env6, st6, S6, R6, g3'.tr g6, by rw [← hr]; exact h6⟩
        cases o with
        | nx env6 st6 => exact nxt env6 st6 h3
        | ct env6 st6 => exact nxt env6 st6 h3
        | bk env6 st6 =>
          cases (show some (SO.nx env6 st6) = some r from h3)
          exact fun w6 σ6 H6 S6 R6 g6 => hDl w6 σ6 H6 S6 R6 (g3'.tr g6)
        | rt sv st6 =>
          cases (show some (SO.rt sv st6) = some r from h3)
          exact hDl.from g3'
        | ex y env6 st6 =>
          cases (show some (SO.ex y env6 st6) = some r from h3)
          exact hDl.from g3'
theorem ss_for {wi : TI} {g : TG} {tb : TS} {t : Tg} {it : Tv.It} {b : Stts} (hi : SIt P n E xb W wi it) (hg : TgS E g t) (hb : SSs P n E xb W tb b) : SS P n E xb W (tFor wi g tb) (.for_ t it b) := by
  intro L0 L w env st σ H h0 S R r h D hD
  show wi σ H fun J H1 => ∃ W : Nat → Nat → L2.St → Hp → Prop, (∃ m, W 0 m σ H1) ∧ ∀ i m σ H, W i m σ H →
    (J.stop i H ∧ D.nx σ H) ∨ (J.go i H ∧ ∃ N : L2.St → Hp → Prop, (∀ σ' H', N σ' H' → ∃ m', m' < m ∧ W (i + 1) m' σ' H') ∧ ∀ x H', J.yld i H x H' → g x σ H' fun σ2 H2 => tb { D with nx := N, ct := N, bk := D.nx } σ2 H2)
  refine sb_go hi h0 S R h hD fun j st1 w1 H1 J S1 R1 f1 v1 h2 hD => ?_
  clear h
  obtain ⟨hl, Hl, hh, hst, its⟩ := v1
  exact for_core hg hb h0 S1.lkApp (R1.lk fun o z => mem_r z) hh hst its h2 (OkS.lk (l := j.locks) S1 R1 hl hD)
end
end Tv

namespace Tv
open PySem L2
section
variable {E : En} {xb : XB} {w w0 w1 w2 : Wd} {L0 L L' l Lk : List Ow} {st st0 st1 st2 : Sto} {H H1 H2 B B' : Hp} {env env1 env' : Env} {σ σ1 σ' σ2 : L2.St} {v : V} {s : SV} {vs : List V} {ss : List SV} {j i : Nat} {p : Addr} {P : Prog} {n : Nat} {W : WX} {X : Cx} {a b d : Fs} {c : Ss} {q : Addr}
/-! ### comprehensions -/
theorem ER.unset2 (R : ER E xb L0 w L st H env σ) : ER E xb L0 w L st H (env.set i none) (σ.set i none) := by
  have hs : ∀ q, Sod (env.set i none) (σ.set i none) q → Sod env σ q := fun q z => by
    obtain ⟨j, x, h1, h2⟩ := z
    rcases get_set h1 with ⟨_, e2, _⟩ | ⟨e, h1⟩
    · cases e2
    · rw [set_ne e] at h2
      exact ⟨j, x, h1, h2⟩
  refine ⟨by rw [List.length_set, List.length_set]; exact R.len, fun j s' e => ?_, fun j k x y q e1 e2 e3 e4 => ?_, fun q z k => R.zs q z (hs q k)⟩
  · rcases get_set e with ⟨rfl, e2, hl⟩ | ⟨e1, e2⟩
    · cases e2
    · obtain ⟨u, k1, k2⟩ := R.ok j s' e2
      exact ⟨u, by rw [set_ne e1]; exact k1, k2.re fun q _ k _ z => k (hs q z)⟩
  · rcases get_set e1 with ⟨_, e5, _⟩ | ⟨n1, f1⟩
    · cases e5
    · rcases get_set e2 with ⟨_, e5, _⟩ | ⟨n2, f2⟩
      · cases e5
      · rw [set_ne n1] at e3
        rw [set_ne n2] at e4
        exact R.inj j k x y q f1 f2 e3 e4
theorem ER.wipe (R : ER E xb L0 w L st H env σ) : ∀ is : List Nat, ER E xb L0 w L st H (wipeE env is) (L2.wipe σ is)
  | [] => R
  | i :: is => (ER.wipe R is).unset2
theorem wipe_at {is : List Nat} {j : Nat} : (j ∉ is → (L2.wipe σ is)[j]? = σ[j]?) ∧ (j ∈ is → j < σ.length → (L2.wipe σ is)[j]? = some none) := by
  induction is with
  | nil => exact ⟨fun _ => rfl, fun h => by cases h⟩
  | cons i is ih =>
    constructor
    · intro h
      show ((L2.wipe σ is).set i none)[j]? = _
      rw [set_ne fun z => h (by rw [z]; exact List.mem_cons_self)]
      exact ih.1 fun z => h (List.mem_cons_of_mem _ z)
    · intro h hl
      show ((L2.wipe σ is).set i none)[j]? = _
      by_cases e : j = i
      · subst e
        exact set_eq (by rw [L2.wipe_length]; exact hl)
      · rw [set_ne e]
        rcases List.mem_cons.mp h with h | h
        · exact absurd h e
        · exact ih.2 h hl
theorem wipe_eq {is : List Nat} (hl : σ2.length = σ.length) (h : ∀ j, j ∉ is → σ2[j]? = σ[j]?) : L2.wipe σ2 is = L2.wipe σ is := by
  apply List.ext_getElem?
  intro j
  by_cases hj : j ∈ is
  · by_cases hlt : j < σ.length
    · rw [wipe_at.2 hj hlt, wipe_at.2 hj (by rw [hl]; exact hlt)]
    · rw [List.getElem?_eq_none (by rw [L2.wipe_length, hl]; omega), List.getElem?_eq_none (by rw [L2.wipe_length]; omega)]
  · rw [wipe_at.1 hj, wipe_at.1 hj, h j hj]
theorem wipe_wipe {is : List Nat} : L2.wipe (L2.wipe σ is) is = L2.wipe σ is := wipe_eq (L2.wipe_length σ is) fun j hj => wipe_at.1 hj
theorem mem_dup : ∀ {is : List Nat} {i : Nat}, i ∈ is → i ∈ dupN is
  | j :: is, i, h => by
    show i ∈ j :: (dupN is).filter fun k => !decide (k = j)
    by_cases e : i = j
    · subst e; exact List.mem_cons_self
    · rcases List.mem_cons.mp h with h | h
      · exact absurd h e
      · exact List.mem_cons_of_mem _ (List.mem_filter.mpr ⟨mem_dup h, by simp [e]⟩)
/-- a row of our own making, not yet handed on -/
theorem SR.mutU {p : Addr} {o : HO} (S : SR E w L st H) (n : ¬ Owd w st p) (z : ¬ Zad w st H p) (e0 : ∃ vs, H p = some (.lst vs)) : SR E w L st (upd H p o) := by
  obtain ⟨vs, e0⟩ := e0
  have tm : Tm E.K H (upd H p o) := fun a xs h => by rw [upd_ne (ne_of h e0 (by intro z; cases z))]; exact h
  refine ⟨S.len, S.inj, fun k x e => ?_, fun q a h1 h2 h3 => ?_, S.nd⟩
  · obtain ⟨a, e1, h⟩ := S.cell k x e
    refine ⟨a, e1, ?_⟩
    have ha : Owd w st a := ⟨.c k, (List.getElem?_eq_some_iff.mp e).1, e1⟩
    have na : a ≠ p := fun y => n (y ▸ ha)
    cases x with
    | con x => exact CoR.mono (List.prefix_refl _) tm (upd_ne na) h
    | ins C fs =>
      obtain ⟨dx, fv, h1, h2⟩ := h
      refine ⟨dx, fv, (upd_ne na).trans h1, ?_⟩
      refine h2.to (List.prefix_refl _) tm (fun _ => rfl) (fun m f y b' k1 k2 k3 => k3) fun m f t y b' k1 k2 => upd_ne fun y' => ?_
      subst y'
      obtain ⟨u, q1, q2⟩ := h2.getI k1
      rw [k2] at q1
      cases q1
      cases t with
      | true => exact z ⟨k, a, C, fs, _, dx, fv, f, y, m, e, e1, h1, k1, k2⟩
      | false =>
        have e3 : b' = w.fd k f := by cases q2; rfl
        exact n ⟨.f k f, ⟨C, fs, y, e, List.mem_of_getElem? k1⟩, by rw [e3]; rfl⟩
  · obtain ⟨u, e, m⟩ := S.ex q a h1 h2 h3
    have na : a ≠ p := fun y => n (by rw [← y]; exact ⟨q, h1, h3⟩)
    exact ⟨u, (upd_ne na).trans e, m⟩
theorem zadU {p b : Addr} {o : HO} (S : SR E w L st H) (n : ¬ Owd w st p) (h : Zad w st (upd H p o) b) : Zad w st H b := by
  obtain ⟨k, c', C, fs, c, dx, fv, f, x, m, h1, h2, h3, h4, h5⟩ := h
  have hb : Owd w st c' := ⟨.c k, (List.getElem?_eq_some_iff.mp h1).1, h2⟩
  have na : c' ≠ p := fun y => n (y ▸ hb)
  exact ⟨k, c', C, fs, c, dx, fv, f, x, m, h1, h2, by rw [← h3]; exact (upd_ne na).symm, h4, h5⟩
theorem Fr.mutU {p : Addr} {o : HO} {s0 : Ss} (S : SR E w L' st H) (n : ¬ Owd w st p) (e0 : ∃ vs, H p = some (.lst vs)) (f : Fr E L s0 ⟨w, st, H⟩) (h : s0.H p = none) : Fr E L s0 ⟨w, st, upd H p o⟩ := by
  obtain ⟨vs, e0⟩ := e0
  refine ⟨f.ad, fun a xs e => ?_, fun a u e k => ?_, f.new, fun a z => f.newz a (zadU S n z), fun a z => ?_, fun q h1 h2 => ?_⟩
  · have := f.tm a xs e
    exact (upd_ne (ne_of this e0 (by intro z; cases z))).trans this
  · exact (upd_ne (ne_of_none e h)).trans (f.out a u e k)
  · have z' : upd H p o a = none := z
    unfold upd at z'
    split at z'
    · cases z'
    · exact f.dom a z'
  · obtain ⟨k1, k2, k3⟩ := f.lk q h1 h2
    refine ⟨k1, k2, fun a e => ?_⟩
    have na : a ≠ p := fun y => n (by rw [← y]; exact ⟨q, k1, k2.trans e⟩)
    exact (upd_ne na).trans (k3 a e)
abbrev WF : WX := fun _ _ _ _ => False
theorem lc_core {J : L2.It} {j : Ito} {Hl : Fs → Prop} {g : TG} {tt : TT} {te : TE} {t : Tg} {k : Tx} {e : Ex} {r : Out SV} {Q' : Hp → Prop} {Da : Addr} (hg : TgS E g t) (ht : STe P n E xb WF tt k) (he : SE P n E xb WF te e) (h0 : ∀ o ∈ L0, o ∈ L) (S1' : SR E w1 (j.locks ++ L) st1 H1) (R1' : ER E xb L0 w1 (j.locks ++ L) st1 H1 env σ)
    (hh : Hl ⟨w1, env, st1, σ, H1⟩) (hst : ∀ s s', Stp E (j.locks ++ L0) s s' → Hl s → Hl s') (its : ItS E J j.xs Hl)
    (h2 : rb (compL (fun x st => match t.set (wipeE env t.own) x with
        | some env => rb (evT ((P.cl (P.call n) L).lk j.locks) k env st) fun b st => if b then rb (ev ((P.cl (P.call n) L).lk j.locks) e env st) fun v st => ok (some v) st else ok none st
        | none => none) j.xs [] st1) (fun xs st => ok (SV.c .own (.l xs)) st) = some r) (hD : H1 Da = none)
    (hfin : ∀ (w' : Wd) (st' : Sto) (H' : Hp) (acc : List D) (av : List V), SR E w' (j.locks ++ L) st' H' → Fr E (j.locks ++ L) ⟨w1, st1, H1⟩ ⟨w', st', H'⟩ → H' Da = some (.lst av) → RvA E w'.ad H' av acc → ¬ Owd w' st' Da → ¬ Zad w' st' H' Da → r = .ok (.c .own (.l acc)) st' → Q' H') :
    ∃ W : Nat → Nat → Hp → Prop, (∃ m, W 0 m (upd H1 Da (.lst []))) ∧ ∀ i m H, W i m H →
    (J.stop i H ∧ Q' H) ∨ (J.go i H ∧ ∃ Nx : Hp → Prop, (∀ H', Nx H' → ∃ m', m' < m ∧ W (i + 1) m' H') ∧ ∀ x H', J.yld i H x H' → g x (wipe σ t.own) H' fun σ2 H2 => wipe σ2 t.own = wipe σ t.own ∧ tt σ2 H2 fun b H3 =>
      if b = true then te σ2 H3 fun y H4 => ∃ acc, H4 Da = some (.lst acc) ∧ acc.length < sizeLine ∧ Nx (upd H4 Da (.lst (acc ++ [y]))) else Nx H3) := by
  have h0' : ∀ o ∈ L0, o ∈ j.locks ++ L := fun o z => mem_r (h0 o z)
  have hlk : ∀ o ∈ j.locks ++ L0, o ∈ j.locks ++ L := fun o z => (List.mem_append.mp z).elim (fun z => List.mem_append.mpr (.inl z)) fun z => mem_r (h0 o z)
  have e0 : (P.cl (P.call n) L).lk j.locks = P.cl (P.call n) (j.locks ++ L) := rfl
  rw [e0] at h2
  generalize hT : (fun x st => match t.set (wipeE env t.own) x with
        | some env => rb (evT (P.cl (P.call n) (j.locks ++ L)) k env st) fun b st => if b then rb (ev (P.cl (P.call n) (j.locks ++ L)) e env st) fun v st => ok (some v) st else ok none st
        | none => none) = T at h2
  -- what holds ahead of a turn
  let Inv' : Nat → Hp → Prop := fun i H' => ∃ (w' : Wd) (st' : Sto) (acc : List D) (av : List V), SR E w' (j.locks ++ L) st' H' ∧ Fr E (j.locks ++ L) ⟨w1, st1, H1⟩ ⟨w', st', H'⟩ ∧ H' Da = some (.lst av) ∧ RvA E w'.ad H' av acc ∧ ¬ Owd w' st' Da ∧ ¬ Zad w' st' H' Da ∧
    rb (compL T (j.xs.drop i) acc st') (fun xs st => ok (SV.c .own (.l xs)) st) = some r
  refine ⟨fun i m H' => m = j.xs.length - i ∧ Inv' i H', ⟨j.xs.length, rfl, w1, st1, [], [], S1'.lay hD, Fr.lay S1' hD (L' := j.locks ++ L), upd_same, .nil, S1'.nowd hD, nozad_lay S1' hD, h2⟩, ?_⟩
  rintro i m H' ⟨rfl, w', st', acc, av, S', g', hDa, ra, no, nz, h'⟩
  have hh' := hst _ _ ((Stp.of R1' g').less hlk) hh
  cases ex : j.xs.drop i with
  | nil =>
    rw [ex] at h'
    cases (show some (Out.ok (SV.c .own (.l acc)) st') = some r from h')
    refine .inl ⟨its.stop ⟨w', env, st', σ, H'⟩ i hh' (List.drop_eq_nil_iff.mp ex), ?_⟩
    exact hfin w' st' H' acc av S' g' hDa ra no nz rfl
  | cons x rest =>
    rw [ex] at h'
    have hx : j.xs[i]? = some x := by
      have := congrArg List.head? ex
      rw [List.head?_drop] at this
      exact this
    have hlt : i < j.xs.length := (List.getElem?_eq_some_iff.mp hx).1
    have hr : rest = j.xs.drop (i + 1) := by
      have := congrArg List.tail ex
      rw [List.tail_drop] at this
      exact this.symm
    obtain ⟨go, yl⟩ := its.go (j.locks ++ L) w' env st' σ H' i x S' hh' hx
    refine .inr ⟨go, fun H2 => j.xs.length - (i + 1) < j.xs.length - i ∧ Inv' (i + 1) H2, fun H2 z => ⟨_, z.1, rfl, z.2⟩, fun u H2 y => ?_⟩
    obtain ⟨S2, f2, rx⟩ := yl u H2 y
    have g2 := g'.tr f2
    have R2 : ER E xb L0 w' (j.locks ++ L) st' H2 env σ := R1'.fr S1' h0' g2
    -- the list so far
    have dk : ∀ {w3 : Wd} {st3 : Sto} {H3 : Hp}, Fr E (j.locks ++ L) ⟨w', st', H2⟩ ⟨w3, st3, H3⟩ → H3 Da = some (.lst av) ∧ RvA E w3.ad H3 av acc ∧ ¬ Owd w3 st3 Da ∧ ¬ Zad w3 st3 H3 Da := fun {w3 st3 H3} f3 => by
      have f4 := f2.tr f3
      have hn : H' Da ≠ none := by rw [hDa]; intro z; cases z
      exact ⟨f4.out _ _ hDa no, ra.mono f4.ad f4.tm, f4.nowd no hn, f4.nozad no nz hn⟩
    have h3 : rb (match T x st' with
      | some (.ok none st) => compL T rest acc st
      | some (.ok (some v) st) => match toD v st with
        | some (.ok y st) => if acc.length < sizeLine then compL T rest (acc ++ [y]) st else none
        | _ => none
      | _ => none) (fun xs st => ok (SV.c .own (.l xs)) st) = some r := h'
    cases eT : T x st' with
    | none => rw [eT] at h3; cases h3
    | some oT =>
      rw [eT] at h3
      have eT' := eT
      rw [← hT] at eT'
      dsimp only at eT'
      cases e3 : t.set (wipeE env t.own) x with
      | none => rw [e3] at eT'; cases eT'
      | some env3 =>
        rw [e3] at eT'
        dsimp only at eT'
        refine hg xb L0 (j.locks ++ L) w' (wipeE env t.own) env3 st' (wipe σ t.own) H2 u x (R2.wipe _) rx e3 _ fun σ3 k3 => ⟨?_, ?_⟩
        · have hlen : σ3.length = (wipe σ t.own).length := by
            have a1 := k3.er.len
            have a2 := (R2.wipe t.own).len
            have a3 : env3.length = (wipeE env t.own).length := set_len e3
            omega
          rw [← wipe_wipe (σ := σ)]
          exact wipe_eq hlen fun j hj => (k3.off j fun z => hj (mem_dup z)).2
        · cases e5 : evT (P.cl (P.call n) (j.locks ++ L)) k env3 st' with
          | none => rw [e5] at eT'; cases eT'
          | some ob =>
            rw [e5] at eT'
            cases ob with
            | ex y st5 => cases (show some (Out.ex y st5) = some oT from eT'); cases h3
            | ok b st5 =>
              refine ht L0 (j.locks ++ L) w' env3 st' σ3 H2 h0' S2 k3.er _ e5 _ fun w5 H5 b' S5 f5 eb => ?_
              subst eb
              have R5 : ER E xb L0 w5 (j.locks ++ L) st5 H5 env3 σ3 := k3.er.fr S2 h0' f5
              cases b' with
              | false =>
                rw [if_neg Bool.false_ne_true]
                cases (show some (Out.ok none st5) = some oT from eT')
                obtain ⟨q1, q2, q3, q4⟩ := dk f5
                exact ⟨by omega, w5, st5, acc, av, S5, g2.tr f5, q1, q2, q3, q4, by rw [← hr]; exact h3⟩
              | true =>
                rw [if_pos rfl]
                have e6 : rb (ev (P.cl (P.call n) (j.locks ++ L)) e env3 st5) (fun v st => ok (some v) st) = some oT := eT'
                cases e7 : ev (P.cl (P.call n) (j.locks ++ L)) e env3 st5 with
                | none => rw [e7] at e6; cases e6
                | some ov =>
                  rw [e7] at e6
                  cases ov with
                  | ex y st7 => cases (show some (Out.ex y st7) = some oT from e6); cases h3
                  | ok sv st7 =>
                    cases (show some (Out.ok (some sv) st7) = some oT from e6)
                    refine he L0 (j.locks ++ L) w5 env3 st5 σ3 H5 h0' S5 R5 _ e7 _ fun w7 H7 v7 S7 f7 r7 => ?_
                    have h4 : rb (match toD sv st7 with
                        | some (.ok y st) => if acc.length < sizeLine then compL T rest (acc ++ [y]) st else none
                        | _ => none) (fun xs st => ok (SV.c .own (.l xs)) st) = some r := h3
                    cases e8 : toD sv st7 with
                    | none => rw [e8] at h4; cases h4
                    | some od =>
                      have R7 := R5.fr S5 h0' f7
                      obtain ⟨yd, st8, w8, rfl, S8, R8, f8, p8, rv8, ho8, hz8, hl8⟩ := toD_ok (s0 := ⟨w5, st5, H5⟩) h0' S5 R5 S7 R7 f7 r7 e8
                      rw [e8] at h4
                      have h5 : rb (if acc.length < sizeLine then compL T rest (acc ++ [yd]) st8 else none) (fun xs st => ok (SV.c .own (.l xs)) st) = some r := h4
                      split at h5
                      · rename_i hs
                        obtain ⟨q1, q2, q3, q4⟩ := dk (f5.tr f8)
                        refine ⟨av, q1, by rw [ra.length]; exact hs, by omega, w8, st8, acc ++ [yd], av ++ [v7], S8.mutU q3 q4 ⟨_, q1⟩, Fr.mutU S8 q3 ⟨_, q1⟩ (g2.tr (f5.tr f8)) hD, upd_same, ?_, q3, fun z => q4 (zadU S8 q3 z), by rw [← hr]; exact h5⟩
                        have tm : Tm E.K H7 (upd H7 Da (.lst (av ++ [v7]))) := fun a xs h => by rw [upd_ne (ne_of h q1 (by intro z; cases z))]; exact h
                        exact (q2.mono (List.prefix_refl _) tm).app (.cons (rv8.mono (List.prefix_refl _) tm) .nil)
                      · cases h5
theorem se_lc {wi : TI} {g : TG} {tt : TT} {te : TE} {t : Tg} {it : Tv.It} {k : Tx} {e : Ex} {own : List Nat} (hi : SIt P n E xb W wi it) (hg : TgS E g t) (ht : STe P n E xb WF tt k) (he : SE P n E xb WF te e) (ho : own = t.own) :
    SE P n E xb W (tLc wi g tt te own) (.lc t it k e) := by
  subst ho
  intro L0 L w env st σ H h0 S R r h Q hQ
  show wi σ H fun J H1 => ∀ D, H1 D = none → ∃ W : Nat → Nat → Hp → Prop, (∃ m, W 0 m (upd H1 D (.lst []))) ∧ ∀ i m H, W i m H →
    (J.stop i H ∧ Q (.ref D) H) ∨ (J.go i H ∧ ∃ Nx : Hp → Prop, (∀ H', Nx H' → ∃ m', m' < m ∧ W (i + 1) m' H') ∧ ∀ x H', J.yld i H x H' → g x (wipe σ t.own) H' fun σ2 H2 => wipe σ2 t.own = wipe σ t.own ∧ tt σ2 H2 fun b H3 =>
      if b = true then te σ2 H3 fun y H4 => ∃ acc, H4 D = some (.lst acc) ∧ acc.length < sizeLine ∧ Nx (upd H4 D (.lst (acc ++ [y]))) else Nx H3)
  refine sg_go hi h0 S R h hQ fun j st1 w1 H1 J S1 R1 f1 v1 h2 hQ => fun Da hD => ?_
  clear h
  obtain ⟨hl, Hl, hh, hst, its⟩ := v1
  refine lc_core hg ht he h0 S1.lkApp (R1.lk fun o z => mem_r z) hh hst its h2 hD fun w' st' H' acc av S' g' hDa ra no nz hr => ?_
  subst hr
  exact hQ w' H' _ (S1.unlk g' S' hl) (g'.less fun o z => mem_r z) (.own ⟨_, .inl hDa, ra⟩ ⟨_, hDa, trivial⟩ no (f1.dom _ hD) nz)
end
end Tv

namespace Tv
open PySem L2
section
variable {E : En} {xb : XB} {w w0 w1 w2 : Wd} {L0 L L' l Lk : List Ow} {st st0 st1 st2 st' : Sto} {H H1 H2 B B' : Hp} {env env1 env' : Env} {σ σ1 σ' σ2 : L2.St} {v : V} {s : SV} {vs : List V} {ss : List SV} {j i k : Nat} {p : Addr} {P : Prog} {n : Nat} {W : WX} {X : Cx} {a b d : Fs} {c : Ss} {q : Addr} {u u' : HO} {x x' : Cn} {o : Ow}
/-! ### what is changed in place -/
theorem tm_mut (e : H p = some u) (h : ∀ xs, u ≠ .tup xs) : Tm E.K H (upd H p u') := fun a xs z => by
  rw [upd_ne (ne_of z e (h xs).symm)]; exact z
/-- a container of a name's own is changed -/
theorem SR.mutV (S : SR E w L st H) (n : ¬ Owd w st p) (z : ¬ Zad w st H p) (e0 : H p = some u) (nt : ∀ xs, u ≠ .tup xs) : SR E w L st (upd H p u') := by
  have tm : Tm E.K H (upd H p u') := tm_mut (E := E) e0 nt
  refine ⟨S.len, S.inj, fun k x e => ?_, fun q a h1 h2 h3 => ?_, S.nd⟩
  · obtain ⟨a, e1, h⟩ := S.cell k x e
    refine ⟨a, e1, ?_⟩
    have ha : Owd w st a := ⟨.c k, (List.getElem?_eq_some_iff.mp e).1, e1⟩
    have na : a ≠ p := fun y => n (y ▸ ha)
    cases x with
    | con x => exact CoR.mono (List.prefix_refl _) tm (upd_ne na) h
    | ins C fs =>
      obtain ⟨dx, fv, h1, h2⟩ := h
      refine ⟨dx, fv, (upd_ne na).trans h1, ?_⟩
      refine h2.to (List.prefix_refl _) tm (fun _ => rfl) (fun m f y b' k1 k2 k3 => k3) fun m f t y b' k1 k2 => upd_ne fun y' => ?_
      subst y'
      obtain ⟨u, q1, q2⟩ := h2.getI k1
      rw [k2] at q1
      cases q1
      cases t with
      | true => exact z ⟨k, a, C, fs, _, dx, fv, f, y, m, e, e1, h1, k1, k2⟩
      | false =>
        have e3 : b' = w.fd k f := by cases q2; rfl
        exact n ⟨.f k f, ⟨C, fs, y, e, List.mem_of_getElem? k1⟩, by rw [e3]; rfl⟩
  · obtain ⟨u, e, m⟩ := S.ex q a h1 h2 h3
    have na : a ≠ p := fun y => n (by rw [← y]; exact ⟨q, h1, h3⟩)
    exact ⟨u, (upd_ne na).trans e, m⟩
theorem SlR.off (h : SlR E xb L0 w L st H env σ j v s) (tm : Tm E.K H (upd H p u')) (hx : ∀ fs, u ≠ .xd fs) (e : H p = some u) (k : ∀ q, v = .ref q → q = p → (∃ y, s = .c .own y ∧ ¬ Owd w st q) ∨ (∃ y, s = .c .par y ∧ Sf w L0 st q ∧ ¬ Sod env σ q) ∨ (∃ y, s = .c .scr y ∧ ¬ Owd w st q ∧ ¬ Sod env σ q) → False) : SlR E xb L0 w L st (upd H p u') env σ j v s := by
  cases h with
  | d h => exact .d (h.mono (List.prefix_refl _) tm)
  | @own q y k1 k2 k3 =>
    have nq : q ≠ p := fun z => k q rfl z (.inl ⟨_, rfl, k2⟩)
    refine .own (k1.mono (List.prefix_refl _) tm (upd_ne nq)) k2 fun z => ?_
    obtain ⟨t, y1, y2⟩ := k3 z
    exact ⟨t, (upd_ne nq).trans y1, y2⟩
  | @par q y k1 k2 k3 =>
    have nq : q ≠ p := fun z => k q rfl z (.inr (.inl ⟨_, rfl, k2, k3⟩))
    exact .par (k1.mono (List.prefix_refl _) tm (upd_ne nq)) k2 k3
  | @scr q vs xs k1 k2 =>
    refine .scr ?_ (k2.mono (List.prefix_refl _) tm)
    rcases k1 with k1 | ⟨k1, k3, k4⟩
    · exact .inl k1
    · have nq : q ≠ p := fun z => k q rfl z (.inr (.inr ⟨_, rfl, k3, k4⟩))
      refine .inr ⟨?_, k3, k4⟩
      rcases k1 with k1 | ⟨o, k1⟩
      · exact .inl ((upd_ne nq).trans k1)
      · exact .inr ⟨o, (upd_ne nq).trans k1⟩
  | x k1 k2 =>
    refine .x k1 (xr_mono (List.prefix_refl _) tm (fun a fs z => ?_) k2)
    exact (upd_ne (ne_of z e (hx fs).symm)).trans z
theorem HoR.nxd (h : HoR E w.ad H u x) : ∀ fs, u ≠ .xd fs := fun fs e => by subst e; cases x <;> exact h.elim
/-- a name's own container -/
theorem slot_mut (S : SR E w L st H) (R : ER E xb L0 w L st H env σ) (e1 : env[i]? = some (some (.c .own x))) (e2 : σ[i]? = some (some (.ref p))) (hi : .s i ∉ L) (e0 : H p = some u) (r : HoR E w.ad H u x) (r' : HoR E w.ad (upd H p u') u' x') :
    SR E w L st (upd H p u') ∧ ER E xb L0 w L st (upd H p u') (env.set i (some (.c .own x'))) σ ∧ Stp E L ⟨w, env, st, σ, H⟩ ⟨w, env.set i (some (.c .own x')), st, σ, upd H p u'⟩ := by
  have hs : Sod env σ p := sod_slot e1 e2
  have hn := (R.sod hs).1
  have hz : ¬ Zad w st H p := fun z => R.zs _ z hs
  have tm : Tm E.K H (upd H p u') := tm_mut (E := E) e0 r.ntup
  have hil : i < env.length := (List.getElem?_eq_some_iff.mp e1).1
  have hsod : ∀ q, Sod (env.set i (some (.c .own x'))) σ q → Sod env σ q := fun q z => by
    obtain ⟨j, y, h1, h2⟩ := z
    rcases get_set h1 with ⟨rfl, _, _⟩ | ⟨_, h1⟩
    · rw [e2] at h2
      cases h2
      exact hs
    · exact ⟨j, y, h1, h2⟩
  have S' := S.mutV hn hz e0 r.ntup (u' := u')
  refine ⟨S', ⟨by rw [List.length_set]; exact R.len, fun j s' e => ?_, fun j k y z q a1 a2 a3 a4 => ?_, fun q z k => R.zs q (zadU S hn z) (hsod q k)⟩, ?_⟩
  · rcases get_set e with ⟨rfl, e3, _⟩ | ⟨ne, e3⟩
    · cases e3
      exact ⟨_, e2, .own ⟨u', .inl upd_same, r'⟩ hn fun _ => ⟨u', upd_same, r'.mut⟩⟩
    · obtain ⟨v, k1, k2⟩ := R.ok j s' e3
      refine ⟨v, k1, SlR.re (k2.off tm r.nxd e0 fun q hv hq hc => ?_) fun q _ k _ z => k (hsod q z)⟩
      subst hv hq
      rcases hc with ⟨y, hy, _⟩ | ⟨y, hy, _, k⟩ | ⟨y, hy, _, k⟩
      · subst hy
        exact ne (R.inj j i y x q e3 e1 k1 e2)
      · exact k hs
      · exact k hs
  · have fix : ∀ (m : Nat) (y' : Cn), (env.set i (some (.c .own x')))[m]? = some (some (.c .own y')) → ∃ y'' : Cn, env[m]? = some (some (.c .own y'')) := fun m y' h => by
      rcases get_set h with ⟨rfl, _, _⟩ | ⟨_, h⟩
      · exact ⟨x, e1⟩
      · exact ⟨y', h⟩
    obtain ⟨y1, b1⟩ := fix j y a1
    obtain ⟨y2, b2⟩ := fix k z a2
    exact R.inj j k y1 y2 q b1 b2 a3 a4
  · refine ⟨⟨List.prefix_refl _, tm, fun q o h1 h2 h3 => ?_, fun q h => .inl h, fun q h => .inl (zadU S hn h), fun q h => ?_, fun o h1 h2 => ⟨h2, rfl, fun q h3 => ?_⟩⟩, fun q h => .inl (hsod q h), fun j hj => ?_⟩
    · have nq : q ≠ p := fun z => h3 (by rw [z]; exact hs)
      exact (upd_ne nq).trans h1
    · have h' : upd H p u' q = none := h
      unfold upd at h'
      split at h'
      · cases h'
      · exact h'
    · have nq : q ≠ p := fun z => hn (by rw [← z]; exact ⟨o, h2, h3⟩)
      exact upd_ne nq
    · have ne : j ≠ i := fun z => hi (z ▸ hj)
      exact ⟨by show (env.set i _)[j]? = env[j]?; exact set_ne ne, rfl, fun q y h1 h2 => upd_ne fun z => by
        subst z
        exact ne (R.inj j i y x q h1 e1 h2 e2)⟩
end
end Tv

namespace Tv
open PySem L2
section
variable {E : En} {xb : XB} {w w0 w1 w2 w' : Wd} {L0 L L' l Lk : List Ow} {st st0 st1 st2 st' : Sto} {H H1 H2 B B' J : Hp} {env env1 env' : Env} {σ σ1 σ' σ2 : L2.St} {v : V} {s : SV} {vs : List V} {ss : List SV} {j i k : Nat} {p : Addr} {P : Prog} {n : Nat} {W : WX} {X : Cx} {a b d : Fs} {c : Ss} {q : Addr} {u u' : HO} {x x' : Cn} {o o0 : Ow}
/-! ### fields that are stored -/
theorem putFs_get {f g : Str} {y z : FV} : ∀ {fs : List (Str × FV)} {m : Nat}, (putFs f y fs)[m]? = some (g, z) → (g = f ∧ z = y) ∨ (g ≠ f ∧ fs[m]? = some (g, z)) ∨ fs[m]? = some (g, z)
  | [], 0, h => by
    cases (show some (f, y) = some (g, z) from h)
    exact .inl ⟨rfl, rfl⟩
  | [], m + 1, h => by cases (show (none : Option (Str × FV)) = some (g, z) from h)
  | (g', w) :: r, m, h => by
    have h' : ((if g' = f then (g', y) :: r else (g', w) :: putFs f y r) : List (Str × FV))[m]? = some (g, z) := h
    split at h'
    · rename_i e
      cases m with
      | zero =>
        have h2 : some (g', y) = some (g, z) := h'
        cases h2
        exact .inl ⟨e, rfl⟩
      | succ m => exact .inr (.inr h')
    · rename_i e
      cases m with
      | zero =>
        have h2 : some (g', w) = some (g, z) := h'
        cases h2
        exact .inr (.inl ⟨e, rfl⟩)
      | succ m =>
        rcases putFs_get (fs := r) (m := m) h' with h2 | ⟨h2, h3⟩ | h2
        · exact .inl h2
        · exact .inr (.inl ⟨h2, h3⟩)
        · exact .inr (.inr h2)
theorem putFs_keys {f : Str} {y : FV} : ∀ {fs : List (Str × FV)}, (∃ z, fs.lookup f = some z) → (putFs f y fs).map (·.1) = fs.map (·.1)
  | [], ⟨z, h⟩ => by simp at h
  | (g, w) :: r, ⟨z, h⟩ => by
    show (if g = f then (g, y) :: r else (g, w) :: putFs f y r).map (·.1) = _
    split
    · rfl
    · rename_i e
      rw [List.lookup_cons] at h
      have hb : (f == g) = false := beq_eq_false_iff_ne.mpr fun z => e z.symm
      rw [hb] at h
      rw [List.map_cons, putFs_keys ⟨z, h⟩, List.map_cons]
/-- the field f gets another value -/
theorem FsR.put {f : Str} {v' : V} {y : FV} (new : FVR E w' st' J i f v' y) : ∀ {fv : List (Str × V)} {fs : List (Str × FV)}, FsR E w st H i fv fs → (fs.map (·.1)).Nodup → (∀ (m : Nat) (g : Str) (v : V) (x : FV), g ≠ f → fs[m]? = some (g, x) → fv[m]? = some (g, v) → FVR E w st H i g v x → FVR E w' st' J i g v x) → FsR E w' st' J i (putF f v' fv) (putFs f y fs)
  | _, _, .nil, _, _ => .cons new .nil
  | _, _, .cons (f := g) (v := vg) (x := xg) (fv := fv) (fs := fs) r t, nd, ho => by
    rw [List.map_cons, List.nodup_cons] at nd
    have ho' : ∀ (m : Nat) (g : Str) (v : V) (x : FV), g ≠ f → fs[m]? = some (g, x) → fv[m]? = some (g, v) → FVR E w st H i g v x → FVR E w' st' J i g v x := fun m g v x ne h1 h2 h3 => ho (m + 1) g v x ne (by simpa using h1) (by simpa using h2) h3
    show FsR E w' st' J i (if g = f then (g, v') :: fv else (g, vg) :: putF f v' fv) (if g = f then (g, y) :: fs else (g, xg) :: putFs f y fs)
    split
    · rename_i e
      subst e
      refine .cons new ?_
      have hn := nd.1
      clear nd ho r
      induction t with
      | nil => exact .nil
      | @cons g2 v2 x2 fv2 fs2 r2 t2 ih =>
        simp only [List.map_cons, List.mem_cons, not_or] at hn
        exact .cons (ho' 0 g2 v2 x2 (fun z => hn.1 z.symm) rfl rfl r2) (ih (fun m g v x ne h1 h2 h3 => ho' (m + 1) g v x ne (by simpa using h1) (by simpa using h2) h3) hn.2)
    · rename_i e
      exact .cons (ho 0 g vg xg e rfl rfl r) (FsR.put new t nd.2 ho')
theorem putF_same {f : Str} : ∀ {fv : List (Str × V)}, fv.lookup f = some v → putF f v fv = fv
  | [], h => by simp at h
  | (g, w) :: r, h => by
    show (if g = f then (g, v) :: r else (g, w) :: putF f v r) = _
    rw [List.lookup_cons] at h
    split at h
    · rename_i e
      have e' : f = g := by simpa using e
      cases h
      rw [if_pos e'.symm]
    · rename_i e
      have e' : ¬ g = f := fun z => by subst z; simp at e
      rw [if_neg e', putF_same h]
/-! ### a container of the store is changed -/
structure StM (w : Wd) (st st' : Sto) (o0 : Ow) : Prop where
  live : ∀ o : Ow, o.live st' ↔ o.live st
  zad : ∀ H b, Zad w st' H b → Zad w st H b
theorem StM.owd (m : StM w st st' o0) : Owd w st' q ↔ Owd w st q := ⟨fun ⟨o, h1, h2⟩ => ⟨o, (m.live o).mp h1, h2⟩, fun ⟨o, h1, h2⟩ => ⟨o, (m.live o).mpr h1, h2⟩⟩
theorem stm_cell {y : Cn} (h : st[k]? = some (.con y)) : StM w st (st.set k (.con x')) (.c k) := by
  have hk := (List.getElem?_eq_some_iff.mp h).1
  have hi : ∀ (i C : Nat) (fs : List (Str × FV)), (st.set k (.con x'))[i]? = some (.ins C fs) ↔ st[i]? = some (.ins C fs) := fun i C fs => by
    constructor
    · intro e
      rcases get_set e with ⟨_, e2, _⟩ | ⟨_, e2⟩
      · cases e2
      · exact e2
    · intro e
      have ne : i ≠ k := fun z => by subst z; rw [h] at e; cases e
      rw [set_ne ne]; exact e
  refine ⟨fun o => ?_, fun H b z => ?_⟩
  · cases o with
    | c m => show m < (st.set k _).length ↔ m < st.length; rw [List.length_set]
    | f i nm => exact ⟨fun ⟨C, fs, x, h1, h2⟩ => ⟨C, fs, x, (hi i C fs).mp h1, h2⟩, fun ⟨C, fs, x, h1, h2⟩ => ⟨C, fs, x, (hi i C fs).mpr h1, h2⟩⟩
    | s j => exact Iff.rfl
  · obtain ⟨m, a, C, fs, c, dx, fv, f, y, t, h1, h2⟩ := z
    exact ⟨m, a, C, fs, c, dx, fv, f, y, t, (hi m C fs).mp h1, h2⟩
theorem stm_fld {C : Nat} {fs : List (Str × FV)} {f : Str} {y : Cn} (h : st[i]? = some (.ins C fs)) (hf : fs.lookup f = some (.c false y)) (nd : (fs.map (·.1)).Nodup) : StM w st (setFld st i f (.c false x')) (.f i f) := by
  have hi := (List.getElem?_eq_some_iff.mp h).1
  have e0 : setFld st i f (.c false x') = st.set i (.ins C (putFs f (.c false x') fs)) := by unfold setFld; rw [h]
  rw [e0]
  have mem_put : ∀ (g : Str) (z : Cn), (g, FV.c false z) ∈ putFs f (.c false x') fs → ∃ z', (g, FV.c false z') ∈ fs := fun g z hz => by
    obtain ⟨m, hm⟩ := List.mem_iff_getElem?.mp hz
    rcases putFs_get hm with ⟨e1, e2⟩ | ⟨_, e⟩ | e
    · subst e1
      exact ⟨y, mem_lookup hf⟩
    · exact ⟨z, List.mem_of_getElem? e⟩
    · exact ⟨z, List.mem_of_getElem? e⟩
  have put_mem : ∀ (g : Str) (z : Cn), (g, FV.c false z) ∈ fs → ∃ z', (g, FV.c false z') ∈ putFs f (.c false x') fs := by
    intro g z hz
    clear h e0 mem_put nd hi
    induction fs with
    | nil => cases hz
    | cons q r ih =>
      obtain ⟨g', w'⟩ := q
      show ∃ z', (g, FV.c false z') ∈ (if g' = f then (g', FV.c false x') :: r else (g', w') :: putFs f (.c false x') r)
      split
      · rename_i e
        rcases List.mem_cons.mp hz with hz | hz
        · cases hz; exact ⟨x', List.mem_cons_self⟩
        · exact ⟨z, List.mem_cons_of_mem _ hz⟩
      · rename_i e
        rcases List.mem_cons.mp hz with hz | hz
        · cases hz; exact ⟨z, List.mem_cons_self⟩
        · rw [List.lookup_cons, beq_eq_false_iff_ne.mpr fun z => e z.symm] at hf
          obtain ⟨z', h'⟩ := ih hf hz
          exact ⟨z', List.mem_cons_of_mem _ h'⟩
  refine ⟨fun o => ?_, fun H b z => ?_⟩
  · cases o with
    | c m => show m < (st.set i _).length ↔ m < st.length; rw [List.length_set]
    | f m nm =>
      constructor
      · rintro ⟨C', fs', z, h1, h2⟩
        rcases get_set h1 with ⟨e1, e2, _⟩ | ⟨_, e2⟩
        · cases e2
          obtain ⟨z', h3⟩ := mem_put nm z h2
          exact ⟨C, fs, z', e1 ▸ h, h3⟩
        · exact ⟨C', fs', z, e2, h2⟩
      · rintro ⟨C', fs', z, h1, h2⟩
        by_cases e : m = i
        · subst e
          rw [h] at h1
          cases h1
          obtain ⟨z', h3⟩ := put_mem nm z h2
          exact ⟨C, _, z', set_eq hi, h3⟩
        · exact ⟨C', fs', z, by rw [set_ne e]; exact h1, h2⟩
    | s j => exact Iff.rfl
  · obtain ⟨m, a, C', fs', c, dx, fv, g, z, t, h1, h2, h3, h4, h5⟩ := z
    rcases get_set h1 with ⟨e1, e2, _⟩ | ⟨_, e2⟩
    · cases e2
      rcases putFs_get h4 with ⟨_, e3⟩ | ⟨_, e3⟩ | e3
      · cases e3
      · exact ⟨m, a, C, fs, c, dx, fv, g, z, t, e1 ▸ h, h2, h3, e3, h5⟩
      · exact ⟨m, a, C, fs, c, dx, fv, g, z, t, e1 ▸ h, h2, h3, e3, h5⟩
    · exact ⟨m, a, C', fs', c, dx, fv, g, z, t, e2, h2, h3, h4, h5⟩
/-- what does not stand at the changed place -/
theorem ceR_off {y : Cell} (S : SR E w L st H) (m : StM w st st' o0) (hl : o0.live st) (ha : w.at o0 = some p) (e0 : H p = some u) (nt : ∀ xs, u ≠ .tup xs) (e : st[k]? = some y) (e1 : w.ad[k]? = some q) (hk : .c k ≠ o0) (hf : ∀ f z, (∃ C fs, y = .ins C fs ∧ (f, FV.c false z) ∈ fs) → .f k f ≠ o0) (h : CeR E w st H k q y) : CeR E w st' (upd H p u') k q y := by
  have tm : Tm E.K H (upd H p u') := tm_mut (E := E) e0 nt
  have lk : (Ow.c k).live st := (List.getElem?_eq_some_iff.mp e).1
  have nq : q ≠ p := fun z => hk (S.inj (.c k) o0 p lk hl (by rw [← z]; exact e1) ha)
  cases y with
  | con x => exact CoR.mono (List.prefix_refl _) tm (upd_ne nq) h
  | ins C fs =>
    obtain ⟨dx, fv, h1, h2⟩ := h
    refine ⟨dx, fv, (upd_ne nq).trans h1, h2.to (List.prefix_refl _) tm (fun _ => rfl) (fun t f y b' k1 k2 k3 z => k3 (m.owd.mp z)) fun t f z y b' k1 k2 => upd_ne fun y' => ?_⟩
    subst y'
    obtain ⟨g, q1, q2⟩ := h2.getI k1
    rw [k2] at q1
    cases q1
    cases z with
    | true => cases q2 with | z r1 r2 => exact r2 ⟨o0, hl, ha⟩
    | false =>
      have e3 : b' = w.fd k f := by cases q2; rfl
      have mm := List.mem_of_getElem? k1
      exact hf f y ⟨C, fs, rfl, mm⟩ (S.inj (.f k f) o0 b' ⟨C, fs, y, e, mm⟩ hl (by rw [e3]; rfl) ha)
theorem st_mut (h0 : ∀ o ∈ L0, o ∈ L) (S : SR E w L st H) (R : ER E xb L0 w L st H env σ) (m : StM w st st' o0) (hlen : st'.length = st.length) (hl : o0.live st) (ha : w.at o0 = some p) (ho : o0 ∉ L) (e0 : H p = some u) (nt : ∀ xs, u ≠ .tup xs) (nx : ∀ fs, u ≠ .xd fs) (mu : Mut (some u'))
    (hc : ∀ k y, st'[k]? = some y → ∃ b, w.ad[k]? = some b ∧ CeR E w st' (upd H p u') k b y) (nd : ∀ (k : Nat) (C : Nat) (fs : List (Str × FV)), st'[k]? = some (.ins C fs) → Nd E C (fs.map (·.1)))
    (zb : ∀ b, Zad w st (upd H p u') b → Zad w st H b ∨ Owd w st b) :
    SR E w L st' (upd H p u') ∧ ER E xb L0 w L st' (upd H p u') env σ ∧ Fr E L ⟨w, st, H⟩ ⟨w, st', upd H p u'⟩ := by
  have tm : Tm E.K H (upd H p u') := tm_mut (E := E) e0 nt
  have op : Owd w st p := ⟨o0, hl, ha⟩
  have S' : SR E w L st' (upd H p u') := by
    refine ⟨by rw [hlen]; exact S.len, fun o o' b h1 h2 => S.inj o o' b ((m.live o).mp h1) ((m.live o').mp h2), hc, fun o b h1 h2 h3 => ?_, nd⟩
    by_cases e : b = p
    · subst e
      exact ⟨u', upd_same, mu⟩
    · obtain ⟨t, y1, y2⟩ := S.ex o b ((m.live o).mp h1) h2 h3
      exact ⟨t, (upd_ne e).trans y1, y2⟩
  have f : Fr E L ⟨w, st, H⟩ ⟨w, st', upd H p u'⟩ := by
    refine ⟨List.prefix_refl _, tm, fun b t e h => ?_, fun b h => .inl (m.owd.mp h), fun b h => ?_, fun b h => ?_, fun o h1 h2 => ⟨(m.live o).mpr h2, rfl, fun b e => ?_⟩⟩
    · have nb : b ≠ p := fun z => h (by rw [z]; exact op)
      exact (upd_ne nb).trans e
    · rcases zb b (m.zad _ b h) with h | h
      · exact .inl h
      · exact .inr (.inl h)
    · have h' : upd H p u' b = none := h
      unfold upd at h'
      split at h'
      · cases h'
      · exact h'
    · have nb : b ≠ p := fun z => by
        subst z
        exact ho (S.inj o o0 b h2 hl e ha ▸ h1)
      exact upd_ne nb
  exact ⟨S', R.fr S h0 f, f⟩
theorem zad_upd (e0 : H p = some u) (n : ∀ c dx fv, u' ≠ .ins c dx fv) (h : Zad w st (upd H p u') q) : Zad w st H q := by
  obtain ⟨m, a, C, fs, c, dx, fv, g, z, t, h1, h2, h3, h4, h5⟩ := h
  refine ⟨m, a, C, fs, c, dx, fv, g, z, t, h1, h2, ?_, h4, h5⟩
  unfold upd at h3
  split at h3
  · exact absurd (Option.some.inj h3) (n c dx fv)
  · exact h3
theorem HoR.nins (h : HoR E w.ad H u x) : ∀ c dx fv, u ≠ .ins c dx fv := fun c dx fv e => by subst e; cases x <;> exact h.elim
theorem cell_mut (h0 : ∀ o ∈ L0, o ∈ L) (S : SR E w L st H) (R : ER E xb L0 w L st H env σ) (e : st[k]? = some (.con x)) (e1 : w.ad[k]? = some p) (ho : .c k ∉ L) (e0 : H p = some u) (r : HoR E w.ad H u x) (r' : HoR E w.ad (upd H p u') u' x') :
    SR E w L (st.set k (.con x')) (upd H p u') ∧ ER E xb L0 w L (st.set k (.con x')) (upd H p u') env σ ∧ Fr E L ⟨w, st, H⟩ ⟨w, st.set k (.con x'), upd H p u'⟩ := by
  have hk := (List.getElem?_eq_some_iff.mp e).1
  refine st_mut h0 S R (stm_cell e) (by rw [List.length_set]) (o0 := .c k) hk e1 ho e0 r.ntup r.nxd r'.mut (fun j y h => ?_) (fun j C fs h => ?_) fun b z => .inl (zad_upd e0 r'.nins z)
  · rcases get_set h with ⟨rfl, e2, _⟩ | ⟨ne, e2⟩
    · cases e2
      exact ⟨p, e1, u', .inl upd_same, r'⟩
    · obtain ⟨b, e3, c⟩ := S.cell j y e2
      exact ⟨b, e3, ceR_off S (stm_cell e) hk e1 e0 r.ntup e2 e3 (fun z => ne (by cases z; rfl)) (fun f z _ q => by cases q) c⟩
  · rcases get_set h with ⟨_, e2, _⟩ | ⟨_, e2⟩
    · cases e2
    · exact S.nd j C fs e2
theorem fld_mut {C : Nat} {fs : List (Str × FV)} {f : Str} (h0 : ∀ o ∈ L0, o ∈ L) (S : SR E w L st H) (R : ER E xb L0 w L st H env σ) (e : st[i]? = some (.ins C fs)) (hf : fs.lookup f = some (.c false x)) (ho : .f i f ∉ L) (e0 : H (w.fd i f) = some u) (r : HoR E w.ad H u x) (r' : HoR E w.ad (upd H (w.fd i f) u') u' x') :
    SR E w L (setFld st i f (.c false x')) (upd H (w.fd i f) u') ∧ ER E xb L0 w L (setFld st i f (.c false x')) (upd H (w.fd i f) u') env σ ∧ Fr E L ⟨w, st, H⟩ ⟨w, setFld st i f (.c false x'), upd H (w.fd i f) u'⟩ := by
  have hi := (List.getElem?_eq_some_iff.mp e).1
  have nd := (S.nd i C fs e).1
  have es : setFld st i f (.c false x') = st.set i (.ins C (putFs f (.c false x') fs)) := by unfold setFld; rw [e]
  have mS := stm_fld (w := w) (x' := x') e hf nd
  have live0 : (Ow.f i f).live st := ⟨C, fs, x, e, mem_lookup hf⟩
  refine st_mut h0 S R mS (by rw [es, List.length_set]) live0 rfl ho e0 r.ntup r.nxd r'.mut (fun j y h => ?_) (fun j C' fs' h => ?_) fun b z => .inl (zad_upd e0 r'.nins z)
  · rw [es] at h
    rcases get_set h with ⟨rfl, e2, _⟩ | ⟨ne, e2⟩
    · cases e2
      obtain ⟨b, e3, dx, fv, h1, h2⟩ := S.cell j _ e
      have nb : b ≠ w.fd j f := fun z => by
        have := S.inj (.c j) (.f j f) b hi live0 e3 (by rw [z]; rfl)
        cases this
      refine ⟨b, e3, dx, fv, (upd_ne nb).trans h1, ?_⟩
      obtain ⟨t, v0, i1, i2, i3, i4⟩ := h2.idx hf
      have hv : v0 = .ref (w.fd j f) := by cases i4; rfl
      subst hv
      have tm : Tm E.K H (upd H (w.fd j f) u') := tm_mut (E := E) e0 r.ntup
      have key := FsR.put (w' := w) (st' := setFld st j f (.c false x')) (J := upd H (w.fd j f) u') (f := f) (v' := .ref (w.fd j f)) (y := .c false x') (.c ⟨u', .inl upd_same, r'⟩) h2 nd fun m g v y ne k1 k2 k3 => ?_
      · rw [putF_same i3] at key
        exact key
      · cases k3 with
        | d k3 => exact .d (k3.mono (List.prefix_refl _) tm)
        | @c z k3 =>
          have nq : w.fd j g ≠ w.fd j f := fun q => by
            have := S.inj (.f j g) (.f j f) (w.fd j f) ⟨C, fs, z, e, List.mem_of_getElem? k1⟩ live0 (by rw [← q]; rfl) rfl
            cases this
            exact ne rfl
          exact .c (k3.mono (List.prefix_refl _) tm (upd_ne nq))
        | @z b z k3 k4 =>
          have nq : b ≠ w.fd j f := fun q => k4 (by rw [q]; exact ⟨.f j f, live0, rfl⟩)
          exact .z (k3.mono (List.prefix_refl _) tm (upd_ne nq)) fun q => k4 (mS.owd.mp q)
    · obtain ⟨b, e3, c⟩ := S.cell j y e2
      exact ⟨b, e3, ceR_off S mS live0 rfl e0 r.ntup e2 e3 (fun z => by cases z) (fun g z _ q => ne (by cases q; rfl)) c⟩
  · rw [es] at h
    rcases get_set h with ⟨_, e2, _⟩ | ⟨_, e2⟩
    · cases e2
      rw [putFs_keys ⟨_, hf⟩]
      exact S.nd i C fs e
    · exact S.nd j C' fs' e2
/-! ### places -/
def LcR (w : Wd) (env : Env) (st : Sto) (σ : L2.St) (v : V) : Lc → Prop
  | .slot i => ∃ a x, v = .ref a ∧ env[i]? = some (some (.c .own x)) ∧ σ[i]? = some (some (.ref a))
  | .fld i f => v = .ref (w.fd i f) ∧ (Ow.f i f).live st
  | .cell k => ∃ a, v = .ref a ∧ w.ad[k]? = some a ∧ k < st.length
theorem LcR.fr {l : Lc} (f : Fr E L ⟨w, st, H⟩ ⟨w1, st1, H1⟩) (S1 : SR E w1 L' st1 H1) (hl : l.ow ∈ L) (h : LcR w env st σ v l) : LcR w1 env st1 σ v l := by
  cases l with
  | slot i => exact h
  | fld i nm =>
    obtain ⟨rfl, h2⟩ := h
    obtain ⟨k1, k2, k3⟩ := f.lk (.f i nm) hl h2
    have e : w1.fd i nm = w.fd i nm := Option.some.inj k2
    exact ⟨by rw [e], k1⟩
  | cell k =>
    obtain ⟨a, rfl, h2, h3⟩ := h
    have := pre_get f.ad h2
    exact ⟨a, rfl, this, by rw [← S1.len]; exact (List.getElem?_eq_some_iff.mp this).1⟩
/-- the place may be changed: what stands there, and how it goes on -/
theorem mut_ok {l : Lc} (h0 : ∀ o ∈ L0, o ∈ L) (S : SR E w L st H) (R : ER E xb L0 w L st H env σ) (hl : LcR w env st σ v l) (hg : l.get (P.cl (P.call n) L) env st = some x) : ∃ p u, v = .ref p ∧ H p = some u ∧ HoR E w.ad H u x ∧
    ∀ u' x', HoR E w.ad (upd H p u') u' x' → SR E w L (l.set x' env st).2 (upd H p u') ∧ ER E xb L0 w L (l.set x' env st).2 (upd H p u') (l.set x' env st).1 σ ∧ Stp E L ⟨w, env, st, σ, H⟩ ⟨w, (l.set x' env st).1, (l.set x' env st).2, σ, upd H p u'⟩ := by
  have hg' : (if L.contains l.ow then none else l.ow.cont env st) = some x := hg
  split at hg'
  · cases hg'
  · rename_i hc
    have hn : l.ow ∉ L := fun z => hc (by simpa using z)
    cases l with
    | slot i =>
      obtain ⟨a, y, rfl, e1, e2⟩ := hl
      have hg2 : (match env[i]? with | some (some (.c .own x)) => some x | _ => none) = some x := hg'
      rw [e1] at hg2
      cases hg2
      obtain ⟨v', q1, q2⟩ := R.ok i _ e1
      rw [e2] at q1
      cases q1
      cases q2 with
      | own k1 k2 k3 =>
        obtain ⟨u, hu, hr⟩ := k1.ex (k3 hn)
        exact ⟨a, u, rfl, hu, hr, fun u' x' r' => slot_mut S R e1 e2 hn hu hr r'⟩
    | fld i nm =>
      obtain ⟨rfl, hlv⟩ := hl
      have hg2 : (match st[i]? with | some (.ins _ fs) => (match fs.lookup nm with | some (.c false x) => some x | _ => none) | _ => none) = some x := hg'
      split at hg2
      · rename_i C fs e
        split at hg2
        · rename_i y e2
          cases hg2
          obtain ⟨b, e3, dx, fv, h1, h2⟩ := S.cell i _ e
          obtain ⟨z, h3⟩ := h2.mem (mem_lookup e2)
          cases h3 with
          | c h3 =>
            obtain ⟨u, hu, hr⟩ := h3.ex (S.ex (.f i nm) _ hlv hn rfl)
            refine ⟨_, u, rfl, hu, hr, fun u' x' r' => ?_⟩
            obtain ⟨a1, a2, a3⟩ := fld_mut h0 S R e e2 hn hu hr r'
            exact ⟨a1, a2, Stp.of R a3⟩
        · cases hg2
      · cases hg2
    | cell k =>
      obtain ⟨a, rfl, e1, hk⟩ := hl
      have hg2 : (match st[k]? with | some (.con x) => some x | _ => none) = some x := hg'
      split at hg2
      · rename_i y e
        cases hg2
        obtain ⟨b, e3, h3⟩ := S.cell k _ e
        rw [e1] at e3
        cases e3
        obtain ⟨u, hu, hr⟩ := CoR.ex h3 (S.ex (.c k) _ hk hn e1)
        refine ⟨a, u, rfl, hu, hr, fun u' x' r' => ?_⟩
        obtain ⟨a1, a2, a3⟩ := cell_mut h0 S R e e1 hn hu hr r'
        exact ⟨a1, a2, Stp.of R a3⟩
      · cases hg2
/-! ### what is left behind is forgotten -/
mutual
theorem Rv.cl {ad : List Addr} : ∀ {v : V} {x : D}, Rv E ad H v x → x.cl ad.length = true
  | _, _, .non => rfl
  | _, _, .bl b => rfl
  | _, _, .int i => rfl
  | _, _, .str x => rfl
  | _, _, .tup h ha => RvA.cl ha
  | _, _, .ref h => decide_eq_true (List.getElem?_eq_some_iff.mp h).1
  | _, _, .fn f => rfl
theorem RvA.cl {ad : List Addr} : ∀ {vs : List V} {xs : List D}, RvA E ad H vs xs → D.cls ad.length xs = true
  | _, _, .nil => rfl
  | _, _, .cons (x := x) (xs := xs) h ha => by
    show (D.cl ad.length x && D.cls ad.length xs) = true
    rw [Rv.cl h, RvA.cl ha]; rfl
end
theorem CoR.cl {ad : List Addr} {a : Addr} {x : Cn} (h : CoR E ad H a x) : x.cl ad.length = true := by
  obtain ⟨u, r, q⟩ := h
  cases u <;> cases x <;> first | exact q.elim | exact RvA.cl q | exact RvA.cl q.2
theorem FsR.cl {i : Nat} : ∀ {fv : List (Str × V)} {fs : List (Str × FV)}, FsR E w st H i fv fs → (fs.all fun p => p.2.cl w.ad.length) = true
  | _, _, .nil => rfl
  | _, _, .cons r t => by
    rw [List.all_cons, FsR.cl t, Bool.and_true]
    cases r with
    | d r => exact r.cl
    | c r => exact r.cl
    | z r n => exact r.cl
theorem SR.cl {x : Cell} (S : SR E w L st H) (e : st[k]? = some x) : x.cl st.length = true := by
  obtain ⟨a, e1, h⟩ := S.cell k x e
  rw [← S.len]
  cases x with
  | con x => exact CoR.cl h
  | ins C fs =>
    obtain ⟨dx, fv, h1, h2⟩ := h
    exact h2.cl
theorem take_get {α : Type} {xs : List α} {m k : Nat} {a : α} (hk : k < m) (e : xs[k]? = some a) : (xs.take m)[k]? = some a := by
  rw [List.getElem?_take_of_lt hk]; exact e
mutual
theorem Rv.trim {ad : List Addr} {m : Nat} : ∀ {v : V} {x : D}, Rv E ad H v x → x.cl m = true → Rv E (ad.take m) H v x
  | _, _, .non, _ => .non
  | _, _, .bl b, _ => .bl b
  | _, _, .int i, _ => .int i
  | _, _, .str x, _ => .str x
  | _, _, .tup h ha, e => .tup h (RvA.trim ha e)
  | _, _, .ref h, e => .ref (take_get (of_decide_eq_true e) h)
  | _, _, .fn f, _ => .fn f
theorem RvA.trim {ad : List Addr} {m : Nat} : ∀ {vs : List V} {xs : List D}, RvA E ad H vs xs → D.cls m xs = true → RvA E (ad.take m) H vs xs
  | _, _, .nil, _ => .nil
  | _, _, .cons (x := x) (xs := xs) h ha, e => by
    have e' : (D.cl m x && D.cls m xs) = true := e
    rw [Bool.and_eq_true] at e'
    exact .cons (Rv.trim h e'.1) (RvA.trim ha e'.2)
end
theorem CoR.trim {ad : List Addr} {m : Nat} {a : Addr} {x : Cn} (h : CoR E ad H a x) (e : x.cl m = true) : CoR E (ad.take m) H a x := by
  obtain ⟨u, r, q⟩ := h
  refine ⟨u, r, ?_⟩
  cases u <;> cases x <;> first | exact q.elim | exact RvA.trim q e | exact ⟨q.1, RvA.trim q.2 e⟩
def Wd.cut (w : Wd) (m : Nat) : Wd := ⟨w.ad.take m, w.fd⟩
theorem take_of {α : Type} {xs : List α} {m k : Nat} {a : α} (e : (xs.take m)[k]? = some a) : k < m ∧ xs[k]? = some a := by
  rw [List.getElem?_take] at e
  split at e
  · exact ⟨by assumption, e⟩
  · cases e
theorem live_cut {m : Nat} (hl : w.ad.length = st.length) (h : o.live (st.take m)) : o.live st ∧ (w.cut m).at o = w.at o := by
  cases o with
  | c k =>
    have h' : k < (st.take m).length := h
    rw [List.length_take] at h'
    exact ⟨show k < st.length by omega, show (w.ad.take m)[k]? = w.ad[k]? from List.getElem?_take_of_lt (by omega)⟩
  | f i nm =>
    obtain ⟨C, fs, x, h1, h2⟩ := h
    exact ⟨⟨C, fs, x, (take_of h1).2, h2⟩, rfl⟩
  | s j => exact h.elim
theorem owd_cut {m : Nat} (hl : w.ad.length = st.length) (h : Owd (w.cut m) (st.take m) p) : Owd w st p := by
  obtain ⟨o, h1, h2⟩ := h
  obtain ⟨k1, k2⟩ := live_cut hl h1
  exact ⟨o, k1, k2 ▸ h2⟩
theorem zad_cut {m : Nat} (h : Zad (w.cut m) (st.take m) H p) : Zad w st H p := by
  obtain ⟨k, a, C, fs, c, dx, fv, f, x, t, h1, h2, h3, h4, h5⟩ := h
  exact ⟨k, a, C, fs, c, dx, fv, f, x, t, (take_of h1).2, (take_of (show (w.ad.take m)[k]? = some a from h2)).2, h3, h4, h5⟩
theorem FsR.trim {m i : Nat} (hl : w.ad.length = st.length) : ∀ {fv : List (Str × V)} {fs : List (Str × FV)}, FsR E w st H i fv fs → (fs.all fun p => p.2.cl m) = true → FsR E (w.cut m) (st.take m) H i fv fs
  | _, _, .nil, _ => .nil
  | _, _, .cons r t, e => by
    rw [List.all_cons, Bool.and_eq_true] at e
    refine .cons ?_ (FsR.trim hl t e.2)
    have e1 := e.1
    cases r with
    | d r => exact .d (r.trim e1)
    | c r => exact .c (r.trim e1)
    | z r n => exact .z (r.trim e1) fun q => n (owd_cut hl q)
theorem SR.trim {m : Nat} (S : SR E w L st H) (hc : ∀ k x, k < m → st[k]? = some x → x.cl m = true) : SR E (w.cut m) L (st.take m) H := by
  have hl := S.len
  refine ⟨?_, fun o p a h1 h2 h3 h4 => ?_, fun k x e => ?_, fun o a h1 h2 h3 => ?_, fun k C fs e => S.nd k C fs (take_of e).2⟩
  · show (w.ad.take m).length = (st.take m).length
    rw [List.length_take, List.length_take, hl]
  · obtain ⟨a1, a2⟩ := live_cut hl h1
    obtain ⟨b1, b2⟩ := live_cut hl h2
    exact S.inj o p a a1 b1 (a2 ▸ h3) (b2 ▸ h4)
  · obtain ⟨hk, e'⟩ := take_of e
    obtain ⟨a, e1, h⟩ := S.cell k x e'
    have cl := hc k x hk e'
    refine ⟨a, take_get hk e1, ?_⟩
    cases x with
    | con x => exact CoR.trim h cl
    | ins C fs =>
      obtain ⟨dx, fv, h1, h2⟩ := h
      exact ⟨dx, fv, h1, h2.trim hl cl⟩
  · obtain ⟨a1, a2⟩ := live_cut hl h1
    exact S.ex o a a1 h2 (a2 ▸ h3)
theorem Fr.trim (S : SR E w L' st H) (S1 : SR E w1 L st1 H1) (f : Fr E L ⟨w, st, H⟩ ⟨w1, st1, H1⟩) : Fr E L ⟨w, st, H⟩ ⟨w1.cut st.length, st1.take st.length, H1⟩ := by
  refine ⟨?_, f.tm, f.out, fun p h => f.new p (owd_cut S1.len h), fun p h => f.newz p (zad_cut h), f.dom, fun o h1 h2 => ?_⟩
  · obtain ⟨r, e⟩ := f.ad
    have e' : w.ad ++ r = w1.ad := e
    refine ⟨[], ?_⟩
    show w.ad ++ [] = w1.ad.take st.length
    rw [← e', List.append_nil, ← S.len, List.take_left']
    rfl
  · obtain ⟨k1, k2, k3⟩ := f.lk o h1 h2
    cases o with
    | c k =>
      have hk : k < st.length := h2
      have hk1 : k < st1.length := k1
      refine ⟨show k < (st1.take st.length).length by rw [List.length_take]; omega, ?_, k3⟩
      exact (show (w1.ad.take st.length)[k]? = w1.ad[k]? from List.getElem?_take_of_lt hk).trans k2
    | f i nm =>
      obtain ⟨C, fs, x, h3, h4⟩ := h2
      obtain ⟨C', fs', x', h5, h6⟩ := k1
      exact ⟨⟨C', fs', x', take_get (List.getElem?_eq_some_iff.mp h3).1 h5, h6⟩, k2, k3⟩
    | s j => exact h2.elim
theorem stoCl_ok (S : SR E w L' st H) (h : stoCl st st1 = true) : ∀ k x, k < st.length → st1[k]? = some x → x.cl st.length = true := fun k x hk e => by
  have h' := List.all_eq_true.mp h k (List.mem_range.mpr hk)
  rw [Bool.or_eq_true] at h'
  rcases h' with h' | h'
  · have e2 := of_decide_eq_true h'
    rw [e] at e2
    exact S.cl e2.symm
  · rw [e] at h'
    exact h'
end
end Tv

namespace Tv
open PySem L2
section
variable {E : En} {xb : XB} {w w0 w1 w2 w' : Wd} {L0 L L' l Lk : List Ow} {st st0 st1 st2 st' : Sto} {H H1 H2 B B' J : Hp} {env env1 env' : Env} {σ σ1 σ' σ2 : L2.St} {v : V} {s : SV} {vs : List V} {ss as : List SV} {j i k : Nat} {p : Addr} {P : Prog} {n : Nat} {W : WX} {X : Cx} {a b d : Fs} {c : Ss} {q : Addr} {u u' : HO} {x x' : Cn} {o o0 : Ow}
/-! ### a def's body -/
theorem ags_get : ∀ {vs : List V} {as : List SV} {j : Nat} {s : SV}, AgsR E L w st H vs as → as[j]? = some s → ∃ v, vs[j]? = some v ∧ AgR E L w st H v s
  | _, _, _, _, .nil, e => by simp at e
  | _, _, 0, _, .cons r _, e => by simp at e; subst e; exact ⟨_, rfl, r⟩
  | _, _, j + 1, s, .cons _ t, e => by
    obtain ⟨v, h1, h2⟩ := ags_get (j := j) t (by simpa using e)
    exact ⟨v, by simpa using h1, h2⟩
theorem ags_len : ∀ {vs : List V} {as : List SV}, AgsR E L w st H vs as → vs.length = as.length
  | _, _, .nil => rfl
  | _, _, .cons _ t => by rw [List.length_cons, List.length_cons, ags_len t]
theorem entry_get {m : Nat} {z : Option SV} (e : (as.map some ++ List.replicate m none)[j]? = some (some s)) : as[j]? = some s := by
  by_cases hj : j < as.length
  · rw [List.getElem?_append_left (by rw [List.length_map]; exact hj), List.getElem?_map] at e
    cases h : as[j]? with
    | none => rw [h] at e; cases e
    | some y => rw [h] at e; cases e; rfl
  · rw [List.getElem?_append_right (by rw [List.length_map]; omega), List.getElem?_replicate] at e
    split at e <;> cases e
theorem ags_own (h : AgsR E L w st H vs as) (e : as[j]? = some s) : ∀ y, s ≠ .c .own y := fun y z => by
  subst z
  obtain ⟨v, _, h2⟩ := ags_get h e
  cases h2
theorem er_entry {N : List Str} (h : AgsR E L w st H vs as) (hn : as.length ≤ N.length) : ER E xb L w L st H (as.map some ++ List.replicate (N.length - as.length) none) (L2.start N vs) := by
  have hl := ags_len h
  have nsod : ∀ q, ¬ Sod (as.map some ++ List.replicate (N.length - as.length) none) (L2.start N vs) q := fun q z => by
    obtain ⟨j, y, e, _⟩ := z
    exact ags_own h (entry_get (z := none) e) y rfl
  refine ⟨by unfold L2.start; rw [List.length_append, List.length_append, List.length_map, List.length_map, List.length_replicate, List.length_replicate, hl], fun j s e => ?_, fun i j y z q e1 => ?_, fun q _ z => nsod q z⟩
  · have e' := entry_get (z := none) e
    obtain ⟨v, h1, h2⟩ := ags_get h e'
    refine ⟨v, ?_, ?_⟩
    · unfold L2.start
      rw [List.getElem?_append_left (by rw [List.length_map]; exact (List.getElem?_eq_some_iff.mp h1).1), List.getElem?_map, h1]
      rfl
    · cases h2 with
      | d r => exact .d r
      | par r1 r2 => exact .par r1 r2 (nsod _)
      | scr r1 r2 =>
        refine .scr ?_ r2
        rcases r1 with r1 | ⟨r1, r3, _⟩
        · exact .inl r1
        · exact .inr ⟨r1, r3, nsod _⟩
  · exact absurd rfl (ags_own h (entry_get (z := none) e1) y)
theorem fr_entry {a : Fs} {c : Ss} (hs : ∀ q, ¬ Sod a.env a.σ q) (f : FrS E L a c) : Fr E L ⟨a.w, a.st, a.H⟩ c :=
  ⟨f.ad, f.tm, fun p o e h => f.out p o e h (hs p), fun p h => (f.new p h).elim .inl fun z => .inr (z.elim (fun z => absurd z (hs p)) id), fun p h => (f.newz p h).elim .inl fun z => .inr (z.elim .inl fun z => .inr (z.elim (fun z => absurd z (hs p)) id)), f.dom, f.lk⟩
theorem OkC.trim {Q : VK} {Y : XK} {r0 r : Out SV} {b : Bool} (S : SR E w L st H) (h : trimIf b st (some r0) = some r) (hk : OkC E L w st H Q Y r) : OkC E L w st H Q Y r0 := by
  cases b with
  | false => cases (show some r0 = some r from h); exact hk
  | true =>
    cases r0 with
    | ok v st1 =>
      have h' : (if v.cl st.length && stoCl st st1 then some (Out.ok v (st1.take st.length)) else some (.ok v st1)) = some r := h
      split at h'
      · rename_i hc
        rw [Bool.and_eq_true] at hc
        cases h'
        intro w' H' u S' f bk
        refine hk (w'.cut st.length) H' u (S'.trim (stoCl_ok S hc.2)) (Fr.trim S S' f) ⟨?_, bk.2⟩
        obtain ⟨bk, fit⟩ := bk
        cases bk with
        | d k => exact .d (k.trim hc.1)
        | own h1 h2 h3 h4 h5 => exact .own (h1.trim hc.1) h2 (fun q => h3 (owd_cut S'.len q)) h4 fun q => h5 (zad_cut q)
        | atS h1 h2 h3 h4 => cases fit
        | atF h1 h2 => cases fit
        | par h1 h2 h3 => cases fit
        | scr h1 h2 => cases fit
      · cases h'; exact hk
    | ex x st1 =>
      have h' : (if x.cl st.length && stoCl st st1 then some (Out.ex x (st1.take st.length)) else some (.ex x st1)) = some r := h
      split at h'
      · rename_i hc
        rw [Bool.and_eq_true] at hc
        cases h'
        intro w' H' cls d S' f y
        refine hk (w'.cut st.length) H' cls d (S'.trim (stoCl_ok S hc.2)) (Fr.trim S S' f) ⟨y.1, y.2.1, fun z e => ?_⟩
        obtain ⟨a, v, h1, h2, h3⟩ := y.2.2 z e
        refine ⟨a, v, h1, h2, h3.trim ?_⟩
        have hc1 := hc.1
        unfold Xc.cl at hc1
        rw [e] at hc1
        exact hc1
      · cases h'; exact hk
theorem fn_T {pr : Program} {wl : World} {K : PySem.W.Frag} {mg : Str → Option Value} {base : Heap} {y qual : Str} {sm : Stmt} {f : Addr} {fd : FuncData} {N ps : List Str} {k fi : Nat} {body : Stts} {tr : Bool} (F : Fun K y qual sm f fd) (S : FnScope N ps (defScope sm)) (hfn : P.fn fi = ⟨ps.length, N.length, body, tr⟩) (hnp : ps.length ≤ N.length)
    (hb : ∀ (cdv : Value) (A : Around) (outer : List PySem.Env) (s : Shared) (H : Hp) (Y : XK), Room k (A.deeper (PyProof.Rows.envOfC qual (defScope sm) s.heap.objs.size f cdv)) →
      ∃ t, PSs (cxOf (L2.CX pr wl) pr wl K mg base N qual (defScope sm) f cdv A outer s H Y) (defBody sm) t ∧ SSs P n E (fun _ => none) (fun cls d _ H => Y cls d H) t body) :
    FnOk pr wl K mg base (L2.CX pr wl) (k + 1) f fd ps (spT P E (n + 1) fi) := by
  refine F.okX S (fun vs H Q Y h => ?_) (fun cdv A outer s H vs Q Y hr h => ?_)
  · obtain ⟨as, L, w, st, r, h1, h2, h3, h4, h5, h6⟩ := h
    rw [ags_len h3, h5, hfn]
  · obtain ⟨t, ht, hw⟩ := hb cdv A outer s H Y hr
    refine ⟨t, ht, ?_⟩
    obtain ⟨as, L, w, st, r, h1, h2, h3, h4, h5, h6⟩ := h
    have h4' : (if as.length = (P.fn fi).np then trimIf (P.fn fi).tr st (result (execs (P.cl (P.call n) L) (P.fn fi).body (as.map some ++ List.replicate ((P.fn fi).ns - as.length) none) st)) else none) = some r := h4
    rw [if_pos h5, hfn] at h4'
    rw [hfn] at h5
    have h5' : as.length = ps.length := h5
    have R := er_entry (E := E) (xb := fun _ => none) (N := N) h3 (by omega)
    have nsod : ∀ q, ¬ Sod (as.map some ++ List.replicate (N.length - as.length) none) (L2.start N vs) q := fun q z => by
      obtain ⟨j, y, e, _⟩ := z
      exact ags_own h3 (entry_get (z := none) e) y rfl
    have h4' : trimIf tr st (result (execs (P.cl (P.call n) L) body (as.map some ++ List.replicate (N.length - as.length) none) st)) = some r := h4'
    cases e : execs (P.cl (P.call n) L) body (as.map some ++ List.replicate (N.length - as.length) none) st with
    | none => rw [e] at h4'; cases tr <;> cases h4'
    | some o =>
      rw [e] at h4'
      refine hw L L w _ st (L2.start N vs) H (fun _ z => z) h2 R o e _ ?_
      cases o with
      | nx env' st' =>
        have h6 := OkC.trim h2 (r0 := .ok (.d .non) st') h4' h6
        exact fun w' σ' H' S' R' g => h6 w' H' .non S' (fr_entry nsod g.toFrS) ⟨.d .non, rfl⟩
      | rt sv st' =>
        have h6 := OkC.trim h2 (r0 := .ok sv st') h4' h6
        intro w' H' v S' g rt
        refine h6 w' H' v S' (fr_entry nsod g) ?_
        cases sv with
        | d x => exact ⟨.d rt, rfl⟩
        | c kd x =>
          cases kd <;> try exact rt.elim
          obtain ⟨p, rfl, k1, k2, k3, k4, k5⟩ := rt
          exact ⟨.own k1 k2 k3 (k5.elim (fun z => absurd z (nsod p)) id) k4, rfl⟩
        | x e => exact rt.elim
      | bk env' st' => cases tr <;> cases h4'
      | ct env' st' => cases tr <;> cases h4'
      | ex x env' st' =>
        have h6 := OkC.trim h2 (r0 := .ex x st') h4' h6
        exact fun w' σ' H' cls d S' R' g y => h6 w' H' cls d S' (fr_entry nsod g.toFrS) y
/-! ### further statements -/
abbrev RL (E : En) : List Ow → Wd → Sto → Hp → Env → L2.St → Hp → V → Lc → Prop := fun _ w st _ env σ _ v l => LcR w env st σ v l
abbrev PlS (P : Prog) (n : Nat) (E : En) (xb : XB) (W : WX) (t : TE) (p : Pl) : Prop := SG P n E xb W (RL E) t (fun c env st => resolve c p env st)
theorem pl_nm : PlS P n E xb W (tVar i) (.nm i) := by
  intro L0 L w env st σ H h0 S R r h Q hQ
  have h' : (match env[i]? with
    | some (some (.c .own _)) => ok (Lc.slot i) st
    | some (some (.d (.ref k))) => ok (Lc.cell k) st
    | _ => none) = some r := h
  split at h'
  · rename_i x e
    cases ok_inj h'
    obtain ⟨v, h1, h2⟩ := R.ok i _ e
    cases h2 with
    | own k1 k2 k3 => exact ⟨_, h1, okr_now hQ S ⟨_, _, rfl, e, h1⟩⟩
  · rename_i k e
    cases ok_inj h'
    obtain ⟨v, h1, h2⟩ := R.ok i _ e
    cases h2 with
    | d h2 =>
      obtain ⟨a, rfl, e2⟩ := h2.ref_of
      exact ⟨_, h1, okr_now hQ S ⟨a, rfl, e2, by rw [← S.len]; exact (List.getElem?_eq_some_iff.mp e2).1⟩⟩
  · cases h'
/-- an expression under locks, ahead of a statement's end -/
theorem sb_golk {α β : Type} {Ra : List Ow → Wd → Sto → Hp → Env → L2.St → Hp → β → α → Prop} {ta : L2.St → Hp → (β → Hp → Prop) → Prop} {fa : Cl → Env → Sto → Res α} {k : α → Sto → Option SO} {r : SO} {D : Ends} {Qt : β → Hp → Prop}
    (ha : SG P n E xb W Ra ta fa) (h0 : ∀ o ∈ L0, o ∈ L) (S : SR E w L st H) (R : ER E xb L0 w L st H env σ) (hl : ∀ o ∈ l, ∀ st', o.live st' → o.live st) (h : sb (fa ((P.cl (P.call n) L).lk l) env st) env k = some r) (hD : OkS E xb W L0 L ⟨w, env, st, σ, H⟩ D r)
    (hk : ∀ a st1 w1 H1 x, SR E w1 L st1 H1 → ER E xb L0 w1 L st1 H1 env σ → Fr E (l ++ L) ⟨w, st, H⟩ ⟨w1, st1, H1⟩ → Ra L0 w1 st1 H1 env σ H x a → k a st1 = some r → OkS E xb W L0 L ⟨w1, env, st1, σ, H1⟩ D r → Qt x H1) : ta σ H Qt := by
  have hll : ∀ o ∈ L, o ∈ l ++ L := fun o z => mem_r z
  have h0' : ∀ o ∈ L0, o ∈ l ++ L := fun o z => hll o (h0 o z)
  have e0 : (P.cl (P.call n) L).lk l = P.cl (P.call n) (l ++ L) := rfl
  rw [e0] at h
  cases e : fa (P.cl (P.call n) (l ++ L)) env st with
  | none => rw [e] at h; cases h
  | some o =>
    rw [e] at h
    refine ha L0 (l ++ L) w env st σ H h0' S.lkApp (R.lk hll) o e Qt ?_
    cases o with
    | ok a st1 => exact fun w1 H1 x S1 f1 r1 => hk a st1 w1 H1 x (S.unlk f1 S1 hl) (R.fr S h0 (f1.less hll)) f1 r1 h (hD.from (Stp.of R (f1.less hll)))
    | ex x st1 =>
      cases (show some (SO.ex x env st1) = some r from h)
      exact fun w1 H1 cls d S1 f1 y => hD w1 σ H1 cls d (S.unlk f1 S1 hl) (R.fr S h0 (f1.less hll)) (Stp.of R (f1.less hll)) y
theorem lc_live {l : Lc} {v : V} (S : SR E w L st H) (h : LcR w env st σ v l) : ∀ o ∈ [l.ow], ∀ st', o.live st' → o.live st := by
  intro o ho st' k
  have : o = l.ow := by simpa using ho
  subst this
  cases l with
  | slot i => exact k.elim
  | fld i nm => exact h.2
  | cell m => obtain ⟨_, _, _, z⟩ := h; exact z
theorem app_mono {y : D} {xs : List D} {vs : List V} {v : V} (e : H p = some (.lst vs)) (r : RvA E w.ad H vs xs) (hv : Rv E w.ad H v y) : HoR E w.ad (upd H p (.lst (vs ++ [v]))) (.lst (vs ++ [v])) (.l (xs ++ [y])) := by
  have tm : Tm E.K H (upd H p (.lst (vs ++ [v]))) := tm_mut (E := E) e fun xs z => by cases z
  exact (r.mono (List.prefix_refl _) tm).app (.cons (hv.mono (List.prefix_refl _) tm) .nil)
abbrev RLK (k : Cn → Bool) : List Ow → Wd → Sto → Hp → Env → L2.St → Hp → V → Lc → Prop := fun _ w st _ env σ _ v l => LcR w env st σ v l ∧ ∃ x, l.ow.cont env st = some x ∧ k x = true
abbrev PlK (P : Prog) (n : Nat) (E : En) (xb : XB) (W : WX) (k : Cn → Bool) (t : TE) (p : Pl) : Prop := SG P n E xb W (RLK k) t (fun c env st => resolveK k c p env st)
theorem pl_k {to : TE} {p : Pl} {k : Cn → Bool} (hp : PlS P n E xb W to p) : PlK P n E xb W k to p := by
  intro L0 L w env st σ H h0 S R r h Q hQ
  have h' : rb (resolve (P.cl (P.call n) L) p env st) (fun l st => match l.ow.cont env st with
    | some x => if k x then ok l st else none
    | none => none) = some r := h
  cases e : resolve (P.cl (P.call n) L) p env st with
  | none => rw [e] at h'; cases h'
  | some o =>
    rw [e] at h'
    refine hp L0 L w env st σ H h0 S R o e Q ?_
    cases o with
    | ok l st1 =>
      have h2 : (match l.ow.cont env st1 with
        | some x => if k x then ok l st1 else none
        | none => none) = some r := h'
      split at h2
      · rename_i x ex
        split at h2
        · rename_i hk
          cases ok_inj h2
          exact fun w1 H1 v S1 f1 lr => hQ w1 H1 v S1 f1 ⟨lr, x, ex, hk⟩
        · cases h2
      · cases h2
    | ex y st1 =>
      cases (show some (Out.ex y st1) = some r from h')
      exact hQ
/-- what stands at a place -/
theorem lc_con {l : Lc} {v : V} {x : Cn} (S : SR E w L st H) (R : ER E xb L0 w L st H env σ) (hl : LcR w env st σ v l) (h : l.ow.cont env st = some x) : ∃ p, v = .ref p ∧ CoR E w.ad H p x := by
  cases l with
  | slot i =>
    obtain ⟨a, y, rfl, e1, e2⟩ := hl
    have hg2 : (match env[i]? with | some (some (.c .own x)) => some x | _ => none) = some x := h
    rw [e1] at hg2
    cases hg2
    obtain ⟨v', q1, q2⟩ := R.ok i _ e1
    rw [e2] at q1
    cases q1
    cases q2 with
    | own k1 k2 k3 => exact ⟨a, rfl, k1⟩
  | fld i nm =>
    obtain ⟨rfl, hlv⟩ := hl
    have hg2 : (match st[i]? with | some (.ins _ fs) => (match fs.lookup nm with | some (.c false x) => some x | _ => none) | _ => none) = some x := h
    split at hg2
    · rename_i C fs e
      split at hg2
      · rename_i y e2
        cases hg2
        obtain ⟨b, e3, dx, fv, h1, h2⟩ := S.cell i _ e
        obtain ⟨z, h3⟩ := h2.mem (mem_lookup e2)
        cases h3 with
        | c h3 => exact ⟨_, rfl, h3⟩
      · cases hg2
    · cases hg2
  | cell k =>
    obtain ⟨a, rfl, e1, hk⟩ := hl
    have hg2 : (match st[k]? with | some (.con x) => some x | _ => none) = some x := h
    split at hg2
    · rename_i y e
      cases hg2
      obtain ⟨b, e3, h3⟩ := S.cell k _ e
      rw [e1] at e3
      cases e3
      exact ⟨a, rfl, h3⟩
    · cases hg2
theorem ss_app {to te : TE} {p : Pl} {e : Ex} (hp : PlS P n E xb W to p) (he : SE P n E xb W te e) : SS P n E xb W (tDrop (tBM E.K "list" rAppend to (tCons te tNil))) (.app p e) := by
  intro L0 L w env st σ H h0 S R r h D hD
  show to σ H fun x H1 => tyV E.K "list" x H1 ∧ te σ H1 fun y H2 => rAppend x [y] H2 fun _ H3 => D.nx σ H3
  have hD0 := hD
  refine sb_go (pl_k (k := Cn.isL) hp) h0 S R h hD fun l st1 w1 H1 x S1 R1 f1 lr h2 hD1 => ?_
  clear h
  obtain ⟨lr, xc, ec, hk⟩ := lr
  have live := lc_live S1 lr
  refine ⟨?_, ?_⟩
  · obtain ⟨p, rfl, c⟩ := lc_con S1 R1 lr ec
    cases xc <;> try (cases hk; done)
    obtain ⟨u, r, z⟩ := c
    cases u <;> try exact z.elim
    exact .inl ⟨rfl, _, SqL.of r.lst⟩
  · refine sb_golk he h0 S1 R1 live h2 hD1 fun sv st2 w2 H2 y S2 R2 f2 v2 h3 hD2 => ?_
    cases e8 : toD sv st2 with
    | none => rw [e8] at h3; cases h3
    | some od =>
      obtain ⟨yd, st3, w3, rfl, S3, R3, f3, p3, rv3, ho3, hz3, hl3⟩ := toD_ok (s0 := ⟨w1, st1, H1⟩) (fun o z => mem_r (h0 o z)) S1.lkApp (R1.lk fun o z => mem_r z) S2.lkApp (R2.lk fun o z => mem_r z) f2 v2 e8
      rw [e8] at h3
      have lr3 := lr.fr f3 S3 (List.mem_append.mpr (.inl (List.mem_singleton.mpr rfl)))
      have S3' := S1.unlk f3 S3 live
      have R3' := R1.fr S1 h0 (f3.less (L' := L) fun o z => mem_r z)
      have h4 : (match l.get (P.cl (P.call n) L) env st3 with
        | some (.l xs) => if xs.length < sizeLine then some (SO.nx (l.set (.l (xs ++ [yd])) env st3).1 (l.set (.l (xs ++ [yd])) env st3).2) else none
        | _ => none) = some r := h3
      split at h4
      · rename_i xs eg
        split at h4
        · rename_i hs
          cases h4
          obtain ⟨q, u, rfl, hu, hr, go⟩ := mut_ok h0 S3' R3' lr3 eg
          cases u <;> try exact hr.elim
          rename_i vs
          obtain ⟨a1, a2, a3⟩ := go (.lst (vs ++ [y])) (.l (xs ++ [yd])) (app_mono hu hr rv3)
          refine ⟨q, vs, y, rfl, rfl, hu, by rw [RvA.length hr]; exact hs, ?_⟩
          exact hD1 _ _ _ a1 a2 ((Stp.of R1 (f3.less (L' := L) fun o z => mem_r z)).tr a3)
        · cases h4
      · cases h4
end
end Tv

namespace Tv
open PySem L2
/-! ### the code and the small language, piece by piece -/
structure Gm where
  P : Prog
  n : Nat
  E : En
  xb : XB
  W : WX
def Gm.inC (g : Gm) : Gm := { g with W := WF }
structure De (X : Cx) (g : Gm) (pe : Expr) (e : Ex) (t : TE) : Prop where
  p : PE X pe t
  s : SE g.P g.n g.E g.xb g.W t e
structure Dt (X : Cx) (g : Gm) (pe : Expr) (e : Tx) (t : TT) : Prop where
  p : PT X pe t
  s : STe g.P g.n g.E g.xb g.W t e
structure Dts (X : Cx) (g : Gm) (pe : List Expr) (e : Tx) (t : TT) : Prop where
  p : PTs X pe t
  s : STe g.P g.n g.E g.xb g.W t e
structure Dw (X : Cx) (g : Gm) (pe : Expr) (e : Tx) (t : TT) : Prop where
  p : PW X pe t
  s : STe g.P g.n g.E g.xb g.W t e
structure Da (X : Cx) (g : Gm) (pe : List Expr) (e : Exs) (t : TA) : Prop where
  p : PA X pe t
  s : SA g.P g.n g.E g.xb g.W t e
structure Do (X : Cx) (g : Gm) (pe : Option Expr) (e : Ex) (t : TO) : Prop where
  p : PO X pe t
  s : SOp g.P g.n g.E g.xb g.W t e
structure Di (X : Cx) (g : Gm) (tg pe : Expr) (e : Tv.It) (t : TI) : Prop where
  p : PI X tg pe t
  s : SIt g.P g.n g.E g.xb g.W t e
structure Dg (X : Cx) (g : Gm) (pe : Expr) (e : Tg) (t : TG) : Prop where
  p : PG X pe t
  s : TgS g.E t e
structure Dgs (X : Cx) (g : Gm) (pe : List Expr) (e : List Tg) (t : TGs) : Prop where
  p : PGs X pe t
  s : TgsS g.E t e
structure Dpl (X : Cx) (g : Gm) (pe : Expr) (e : Pl) (t : TE) : Prop where
  p : PE X pe t
  s : PlS g.P g.n g.E g.xb g.W t e
structure Ds (X : Cx) (g : Gm) (pe : Stmt) (s : Stt) (t : TS) : Prop where
  p : PS X pe t
  s : SS g.P g.n g.E g.xb g.W t s
structure Dss (X : Cx) (g : Gm) (pe : List Stmt) (s : Stts) (t : TS) : Prop where
  p : PSs X pe t
  s : SSs g.P g.n g.E g.xb g.W t s
section
variable {X : Cx} {g : Gm} {pa pb pc pe : Expr} {ps qs : List Expr} {a b c e : Ex} {es fs : Exs} {pos pos2 : Pos} {t u : Tx} {k : Nat} {ta tb tc : TE} {tt tu : TT}
theorem hu65 {A : Around} {k : Nat} (hr : Room k A) : A.units + 65 < cLine := by have := hr.un; omega
theorem hu1 {A : Around} {k : Nat} (hr : Room k A) : A.units + 1 < cLine := by have := hr.un; omega
theorem de_var (i : Nat) {x : Str} {pos : Pos} (hN : X.N[i]? = some x := by rfl) (hv : Vis X.env.scope x := by first | exact Or.inl rfl | exact Or.inr (Or.inl rfl) | exact Or.inr (Or.inr rfl)) (hd : (x == ("__debug__" : Str)) = false := by decide)
    (hcd : (x == ("__classdict__" : Str)) = false := by decide) : De X g (.Name x pos) (.var i) (tVar i) := ⟨pe_var hN hv hd hcd, se_var⟩
theorem de_int {i : Int} {j pos} : De X g (.Constant (.int i) j pos) (.cst (.int i)) (tC (.int i)) := ⟨pe_int, se_cst fun _ _ => .int i⟩
theorem de_bl {b : Bool} {j pos} : De X g (.Constant (.bool b) j pos) (.cst (.bl b)) (tC (.bl b)) := ⟨pe_bl, se_cst fun _ _ => .bl b⟩
theorem de_non {j pos} : De X g (.Constant .none j pos) (.cst .non) (tC .non) := ⟨pe_non, se_cst fun _ _ => .non⟩
theorem de_str {x : Str} {j pos} : De X g (.Constant (.str x) j pos) (.cst (.str x)) (tC (.str x)) := ⟨pe_str, se_cst fun _ _ => .str x⟩
theorem de_glob {x : Str} {v : V} {w : Value} {d : D} {pos : Pos} (hg : Gl X x) (hm : X.mg x = some w) (r : RelV v w) (hv : ∀ ad H, Rv g.E ad H v d) (hd : (x == ("__debug__" : Str)) = false := by decide) : De X g (.Name x pos) (.glob x d) (tC v) := ⟨pe_glob hg hm r hd, se_glob hv⟩
theorem de_neg (h : De X g pa a ta) : De X g (.UnaryOp .USub pa pos) (.neg a) (tUn (rU fun i => .int (-i)) ta) := ⟨pe_un un_neg h.p, se_neg h.s⟩
theorem de_not (h : De X g pa a ta) : De X g (.UnaryOp .Not pa pos) (.not a) (tNotV ta) := ⟨pe_not h.p, se_not h.s⟩
/-- an operator -/
structure BinO (X : Cx) (g : Gm) (op : Operator) (o : Bo) (r : R2) : Prop where
  p : OpR X (binaryOp op) r
  s : OpS g.E r (bin o)
theorem bo_add (hK : X.K = g.E.K) : BinO X g .Add .add (rAddX g.E.K) := ⟨hK ▸ o_add, os_add⟩
theorem bo_sub : BinO X g .Sub .sub (rI0 fun i j => .int (i - j)) := ⟨op_sub, os_sub⟩
theorem bo_mul : BinO X g .Mult .mul rMulX := ⟨o_mul, os_mul⟩
theorem bo_div : BinO X g .FloorDiv .div (rI CDivW fun i j => .int (i / j)) := ⟨op_fdivW, os_div⟩
theorem bo_mod : BinO X g .Mod .mod (rI (fun _ j => 0 < j) fun i j => .int (i % j)) := ⟨op_mod, os_mod⟩
theorem bo_pow : BinO X g .Pow .pow (rI CPow fun i j => .int (i ^ j.toNat)) := ⟨op_pow, os_pow⟩
theorem de_bin {op : Operator} {o : Bo} {r : R2} (ho : BinO X g op o r) (h1 : De X g pa a ta) (h2 : De X g pb b tb) : De X g (.BinOp pa op pb pos) (.bin o a b) (tOp r ta tb) := ⟨pe_op ho.p h1.p h2.p, se_op ho.s h1.s h2.s fun _ _ _ => rfl⟩
/-- a comparison, by its operator -/
structure CmpO (X : Cx) (g : Gm) (op : CmpOp) (o : Co) (r : R2) : Prop where
  p : OpR X (compareOp op) r
  s : OpS g.E r (cmpF g.E.kt o)
theorem co_lt : CmpO X g .Lt .lt (rI0 fun i j => .bl (decide (i < j))) := ⟨op_lt, os_lt⟩
theorem co_le : CmpO X g .LtE .le (rI0 fun i j => .bl (decide (i ≤ j))) := ⟨op_le, os_le⟩
theorem co_gt : CmpO X g .Gt .gt (rI0 fun i j => .bl (decide (j < i))) := ⟨op_gt, os_gt⟩
theorem co_ge : CmpO X g .GtE .ge (rI0 fun i j => .bl (decide (j ≤ i))) := ⟨op_ge, os_ge⟩
theorem co_eq (hK : X.K = g.E.K) (hr : Room k X.A) : CmpO X g .Eq .eq (rEqX g.E.K) := ⟨hK ▸ o_eq hr.units, os_eq⟩
theorem co_ne (hK : X.K = g.E.K) (hr : Room k X.A) : CmpO X g .NotEq .ne (rNeX g.E.K) := ⟨hK ▸ o_ne hr.units, os_ne⟩
theorem co_is : CmpO X g .Is .is rIsX := ⟨o_is, os_is⟩
theorem co_isnt : CmpO X g .IsNot .isnt rIsntX := ⟨o_isnt, os_isnt⟩
theorem co_in (hK : X.K = g.E.K) (hr : Room k X.A) : CmpO X g .In .in (rInX g.E.K) := ⟨hK ▸ o_in (hu65 hr), os_in⟩
theorem co_notin (hK : X.K = g.E.K) (hr : Room k X.A) : CmpO X g .NotIn .notin (rNotInX g.E.K) := ⟨hK ▸ o_notin (hu65 hr), os_notin⟩
theorem se_cmp {P : Prog} {n : Nat} {E : En} {xb : XB} {W : WX} (hk : P.kts = E.kt) {o : Co} {r : R2} {ta tb : TE} (hr : OpS E r (cmpF E.kt o)) (h1 : SE P n E xb W ta a) (h2 : SE P n E xb W tb b) : SE P n E xb W (tOp r ta tb) (.cmp o a b) := by
  intro L0 L w env st σ H h0 S R r' h Q hQ
  show ta σ H fun x H1 => tb σ H1 fun y H2 => r x y H2 Q
  refine sg_go h1 h0 S R h hQ fun u st1 w1 H1 x S1 R1 f1 v1 h hQ1 => ?_
  refine sg_golk h2 h0 S1 R1 v1.live h hQ1 fun u2 st2 w2 H2 y S2 R2 f2 v2 h hQ2 => ?_
  have h' : cmpF P.kts o u u2 st2 = some r' := h
  rw [hk] at h'
  refine hr L0 L w2 env st2 σ H2 xb x y u u2 H H1 S2 R2 (v1.fr f2 (fun o z => List.mem_append.mpr (.inr (h0 o z))) (fun o z => List.mem_append.mpr (.inl z))) v2 _ h' W Q ?_
  exact hQ2.from (Fr.rfl' _) fun w' st' H' b a z => z.base fun p q => f1.dom p (f2.dom p q)
theorem de_cmp {op : CmpOp} {o : Co} {r : R2} (hk : g.P.kts = g.E.kt) (ho : CmpO X g op o r) (h1 : De X g pa a ta) (h2 : De X g pb b tb) (hm : behindInMarks op pb = false) : De X g (.Compare pa [op] [pb] pos) (.cmp o a b) (tOp r ta tb) := ⟨pe_cmpR ho.p h1.p h2.p hm, se_cmp hk ho.s h1.s h2.s⟩
theorem cmp_bl {o : Co} : ∀ (c : Cl) (env : Env) (st : Sto) (u : SV) (st' : Sto), ev c (.cmp o a b) env st = some (.ok u st') → ∃ b, u = .d (.bl b) := fun c env st u st' h => by
  have h' : rb (ev c a env st) (fun u st => rb (ev (c.lk (lockOf u)) b env st) fun w st => match cmp c.kts o u w st with
    | some b => ok (SV.d (.bl b)) st
    | none => none) = some (.ok u st') := h
  cases e1 : ev c a env st with
  | none => rw [e1] at h'; cases h'
  | some o1 =>
    rw [e1] at h'
    cases o1 with
    | ex x st1 => cases h'
    | ok u1 st1 =>
      have h2 : rb (ev (c.lk (lockOf u1)) b env st1) (fun w st => match cmp c.kts o u1 w st with
        | some b => ok (SV.d (.bl b)) st
        | none => none) = some (.ok u st') := h'
      cases e2 : ev (c.lk (lockOf u1)) b env st1 with
      | none => rw [e2] at h2; cases h2
      | some o2 =>
        rw [e2] at h2
        cases o2 with
        | ex x st2 => cases h2
        | ok u2 st2 =>
          have h3 : (match cmp c.kts o u1 u2 st2 with
            | some b => ok (SV.d (.bl b)) st2
            | none => none) = some (.ok u st') := h2
          split at h3
          · cases h3; exact ⟨_, rfl⟩
          · cases h3
theorem dt_cmp {op : CmpOp} {o : Co} {r : R2} (hk : g.P.kts = g.E.kt) (ho : CmpO X g op o r) (h1 : De X g pa a ta) (h2 : De X g pb b tb) (hm : behindInMarks op pb = false) : Dt X g (.Compare pa [op] [pb] pos) (.val (.cmp o a b)) (tTest (tOp r ta tb)) := ⟨pt_cmpR ho.p h1.p h2.p hm, st_test (se_cmp hk ho.s h1.s h2.s) cmp_bl⟩
theorem de_one {op : BoolOp} (h : De X g pa a ta) : De X g (.BoolOp op [pa] pos) a ta := ⟨pe_one h.p, h.s⟩
theorem de_and (h1 : De X g pa a ta) (h2 : De X g (.BoolOp .And (pb :: ps) pos) b tb) : De X g (.BoolOp .And (pa :: pb :: ps) pos) (.and a b) (tAndV ta tb) := ⟨pe_and h1.p h2.p, se_and h1.s h2.s⟩
theorem de_or (h1 : De X g pa a ta) (h2 : De X g (.BoolOp .Or (pb :: ps) pos) b tb) : De X g (.BoolOp .Or (pa :: pb :: ps) pos) (.or a b) (tOrV ta tb) := ⟨pe_or h1.p h2.p, se_or h1.s h2.s⟩
theorem de_ite (h : Dt X g pc t tt) (h1 : De X g pa a ta) (h2 : De X g pb b tb) : De X g (.IfExp pc pa pb pos) (.ite t a b) (tIf tt ta tb) := ⟨pe_ifExp h.p h1.p h2.p, se_ite h.s h1.s h2.s⟩
theorem dt_truth (hK : X.K = g.E.K) (h : De X g pa a ta) (he : ∀ whole, isTrue pa X.env whole = (do let v ← whole; standAt pa.pos; holding [v] (truthy v)) := by intro _; rfl) : Dt X g pa (.val a) (tTruX g.E.K ta) := ⟨hK ▸ pt_truX h.p he, st_truth h.s⟩
theorem dt_not (h : Dt X g pa t tt) : Dt X g (.UnaryOp .Not pa pos) (.not t) (tNot tt) := ⟨pt_not h.p, st_not h.s⟩
theorem dt_w (h : Dw X g pa t tt) : Dt X g pa t tt := ⟨h.p.pt, h.s⟩
theorem dw_and1 (h : Dt X g pa t tt) : Dw X g (.BoolOp .And [pa] pos) t tt := ⟨pw_and1 h.p, h.s⟩
theorem dw_or1 (h : Dt X g pa t tt) : Dw X g (.BoolOp .Or [pa] pos) t tt := ⟨pw_or1 h.p, h.s⟩
theorem dw_and (h : Dt X g pa t tt) (h2 : Dw X g (.BoolOp .And (pb :: ps) pos) u tu) : Dw X g (.BoolOp .And (pa :: pb :: ps) pos) (.and t u) (tAnd tt tu) := ⟨pw_and h.p h2.p, st_and h.s h2.s⟩
theorem dw_or (h : Dt X g pa t tt) (h2 : Dw X g (.BoolOp .Or (pb :: ps) pos) u tu) : Dw X g (.BoolOp .Or (pa :: pb :: ps) pos) (.or t u) (tOr tt tu) := ⟨pw_or h.p h2.p, st_or h.s h2.s⟩
theorem dts_nil : Dts X g [] .yes tYes := ⟨pts_nil, st_yes⟩
theorem dts_one (h : Dt X g pa t tt) : Dts X g [pa] t tt := ⟨pts_one h.p, h.s⟩
/-! subscripts, displays -/
theorem se_idx {P : Prog} {n : Nat} {E : En} {xb : XB} {W : WX} (hk : P.kts = E.kt) {ta tb : TE} (h1 : SE P n E xb W ta a) (h2 : SE P n E xb W tb b) : SE P n E xb W (tOp (rIxX E.K) ta tb) (.idx a b) := by
  intro L0 L w env st σ H h0 S R r' h Q hQ
  show ta σ H fun x H1 => tb σ H1 fun y H2 => rIxX E.K x y H2 Q
  refine sg_go h1 h0 S R h hQ fun u st1 w1 H1 x S1 R1 f1 v1 h hQ1 => ?_
  refine sg_golk h2 h0 S1 R1 v1.live h hQ1 fun u2 st2 w2 H2 y S2 R2 f2 v2 h hQ2 => ?_
  have h' : idxF P.kts u u2 st2 = some r' := h
  rw [hk] at h'
  refine os_idx L0 L w2 env st2 σ H2 xb x y u u2 H H1 S2 R2 (v1.fr f2 (fun o z => List.mem_append.mpr (.inr (h0 o z))) (fun o z => List.mem_append.mpr (.inl z))) v2 _ h' W Q ?_
  exact hQ2.from (Fr.rfl' _) fun w' st' H' b a z => z.base fun p q => f1.dom p (f2.dom p q)
theorem de_idx (hK : X.K = g.E.K) (hk : g.P.kts = g.E.kt) (hr : Room k X.A) (h1 : De X g pa a ta) (h2 : De X g pb b tb) (hs : PlainIx pb) : De X g (.Subscript pa pb pos) (.idx a b) (tOp (rIxX g.E.K) ta tb) := ⟨hK ▸ pe_ix (ix_X (hu1 hr)) h1.p h2.p hs, se_idx hk h1.s h2.s⟩
theorem do_none : Do X g none (.cst .non) tNoPart := ⟨po_none, so_none⟩
theorem do_some (h : De X g pa a ta) (hn : a.isNon = false := by rfl) : Do X g (some pa) a (tPart ta) := ⟨po_some h.p, so_some h.s hn⟩
theorem de_slice {plo phi : Option Expr} {tl th : TO} (hK : X.K = g.E.K) (h : De X g pa a ta) (h1 : Do X g plo b tl) (h2 : Do X g phi c th) : De X g (.Subscript pa (.Slice plo phi none pos2) pos) (.slice a b c) (tSl (rSlX g.E.K) ta tl th) := ⟨hK ▸ pe_slice sl_X h.p h1.p h2.p, se_slice h.s h1.s h2.s⟩
theorem de_rev {j : Nat} {p1 p2 p3 : Pos} (hK : X.K = g.E.K) (h : De X g pa a ta) : De X g (.Subscript pa (.Slice none none (some (.UnaryOp .USub (.Constant (.int 1) j p1) p2)) p3) pos) (.rev a) (tRevL g.E.K ta) := ⟨hK ▸ pe_revL h.p, se_rev h.s⟩
theorem da_nil : Da X g [] .nil tNil := ⟨pa_nil, sa_nil⟩
theorem da_cons {tas : TA} (h : De X g pa a ta) (h2 : Da X g ps es tas) (hs : starEach (pa :: ps) X.env = (false, eval pa X.env) :: starEach ps X.env := by rfl) : Da X g (pa :: ps) (.cons a es) (tCons ta tas) := ⟨pa_cons h.p h2.p hs, sa_cons h.s h2.s⟩
theorem de_tup {x1} {tas : TA} (h : Da X g ps es tas) : De X g (.Tuple ps x1 pos) (.tup es) (tTup tas) := ⟨pe_tup h.p, se_tup h.s⟩
theorem de_lst {tas : TA} (h : Da X g ps es tas) : De X g (.List ps pos) (.lst es) (tLst tas) := ⟨pe_lst h.p, se_lst h.s⟩
/-! calls -/
theorem de_call {kk : Nat} {x : Str} {f : Addr} {fi : Nat} {fd : FuncData} {nps : List Str} {np : Pos} {tas : TA} (tk : Takes X g.W) (F : FnOk X.prog X.w X.K X.mg X.base (L2.CX X.prog X.w) kk f fd nps (spT g.P g.E g.n fi)) (hr : Room kk X.A) (hg : Gl X x) (hm : X.mg x = some (.ref f)) (hkp : PySem.W.keepIn X.K (.ref f) = true) (hb : Binds X.K fd nps [])
    (h : Da X g (pa :: ps) es tas) (hn : es.len = (g.P.fn fi).np) (hdb : (x == ("__debug__" : Str)) = false := by decide) (he : starEach (pa :: ps) X.env = (false, eval pa X.env) :: starEach ps X.env := by rfl) (hpl : (backTo pos (starEach ps X.env)).any (·.1) = false := by rfl) : De X g (.Call (.Name x np) (pa :: ps) [] pos) (.call fi es) (tCallS (spT g.P g.E g.n fi) (WE g.W) tas) :=
  ⟨pe_callS F hr hg hm hkp hb (fun σ => passAt tk σ) h.p hdb he hpl, se_call h.s hn⟩
structure BiO (X : Cx) (g : Gm) (f : Value) (b : Bi) (r : RC) : Prop where
  p : CallR X f r
  s : CaS g.E r (biF b)
theorem bi_len (hK : X.K = g.E.K) : BiO X g (.builtin "len") .len (rLenX g.E.K) := ⟨hK ▸ c_len, cs_len⟩
theorem bi_int : BiO X g (.type "int") .int rInt1 := ⟨c_int, cs_int⟩
theorem bi_list (hK : X.K = g.E.K) (hc : X.calm = true := by rfl) : BiO X g (.type "list") .list (rListX g.E.K) := ⟨hK ▸ c_list hc, cs_list⟩
theorem bi_tuple (hK : X.K = g.E.K) : BiO X g (.type "tuple") .tuple (rTupX g.E.K) := ⟨hK ▸ c_tuple, cs_tuple⟩
theorem bi_sum (hK : X.K = g.E.K) (hc : X.calm = true := by rfl) : BiO X g (.builtin "sum") .sum (rSum g.E.K) := ⟨hK ▸ c_sum hc, cs_sum⟩
theorem bi_all (hK : X.K = g.E.K) (hc : X.calm = true := by rfl) : BiO X g (.builtin "all") .all (rAll g.E.K) := ⟨hK ▸ c_all hc, cs_all⟩
theorem bi_any (hK : X.K = g.E.K) (hc : X.calm = true := by rfl) : BiO X g (.builtin "any") .any (rAny g.E.K) := ⟨hK ▸ c_any hc, cs_any⟩
theorem bi_max (hK : X.K = g.E.K) (hc : X.calm = true := by rfl) : BiO X g (.builtin "max") .max (rMaxX g.E.K) := ⟨hK ▸ c_max hc, cs_max⟩
theorem bi_min (hK : X.K = g.E.K) (hc : X.calm = true := by rfl) : BiO X g (.builtin "min") .min (rMinX g.E.K) := ⟨hK ▸ c_min hc, cs_min⟩
theorem bi_str : BiO X g (.type "str") .str (fun xs H Q => ∃ i, xs = [.int i] ∧ i.natAbs.log2 < 1920 ∧ Q (.str (toString i)) H) := ⟨c_str, cs_str⟩
theorem de_bi {id : String} {x : Str} {np : Pos} {b : Bi} {r : RC} {tas : TA} (ho : BiO X g (.builtin id) b r) (hg : Gl X x) (hm : X.mg x = none) (hv : bootBuiltins x = some (.builtin id)) (h : Da X g (pa :: ps) es tas) (hn : x ≠ "__name__" := by decide) (hdb : (x == ("__debug__" : Str)) = false := by decide)
    (he : starEach (pa :: ps) X.env = (false, eval pa X.env) :: starEach ps X.env := by rfl) (hpl : (backTo pos (starEach ps X.env)).any (·.1) = false := by rfl) : De X g (.Call (.Name x np) (pa :: ps) [] pos) (.bi b es) (tCB r tas) := ⟨pe_callB ho.p hg hm hv h.p hn hdb he hpl, se_cb ho.s h.s fun _ _ _ => rfl⟩
theorem de_ty {T : String} {x : Str} {np : Pos} {b : Bi} {r : RC} {tas : TA} (ho : BiO X g (.type T) b r) (hg : Gl X x) (hm : X.mg x = none) (hv : bootBuiltins x = some (.type T)) (h : Da X g (pa :: ps) es tas) (hn : x ≠ "__name__" := by decide) (hdb : (x == ("__debug__" : Str)) = false := by decide)
    (he : starEach (pa :: ps) X.env = (false, eval pa X.env) :: starEach ps X.env := by rfl) (hpl : (backTo pos (starEach ps X.env)).any (·.1) = false := by rfl) : De X g (.Call (.Name x np) (pa :: ps) [] pos) (.bi b es) (tCB r tas) := ⟨pe_callTy ho.p hg hm hv h.p hn hdb he hpl, se_cb ho.s h.s fun _ _ _ => rfl⟩
theorem de_isi {x y : Str} {np np2 : Pos} {t : Ty} {m : String} (hK : X.K = g.E.K) (ht : tyS t = some m) (hg : Gl X x) (hm : X.mg x = none) (hv : bootBuiltins x = some (.builtin "isinstance")) (hg2 : Gl X y) (hm2 : X.mg y = none) (hv2 : bootBuiltins y = some (.type m)) (h : De X g pa a ta)
    (hn : x ≠ "__name__" := by decide) (hdb : (x == ("__debug__" : Str)) = false := by decide) (hn2 : y ≠ "__name__" := by decide) (hdb2 : (y == ("__debug__" : Str)) = false := by decide)
    (hs : starEach [pa, .Name y np2] X.env = (false, eval pa X.env) :: starEach [.Name y np2] X.env := by rfl) (hs2 : starEach [.Name y np2] X.env = (false, eval (.Name y np2) X.env) :: starEach [] X.env := by rfl) (hpl : (backTo pos (starEach [.Name y np2] X.env)).any (·.1) = false := by rfl) :
    De X g (.Call (.Name x np) [pa, .Name y np2] [] pos) (.bi (.isi t) (.cons a .nil)) (tCB (rIsi g.E.K) (tCons ta (tCons (tC (.ty m)) tNil))) :=
  ⟨hK ▸ pe_callB call_isi hg hm hv (pa_cons h.p (pa_cons (pe_bltn hg2 hm2 hv2 (show RelV (.ty m) (.type m) from rfl) hn2 hdb2) pa_nil hs2) hs) hn hdb hs hpl, se_isi ht h.s⟩
end
end Tv

namespace Tv
open PySem L2 PySem.Spec PyProof.Rows
section
variable {X : Cx} {g : Gm} {tg pa pb pc pe : Expr} {ps qs : List Expr} {a b c e : Ex} {es fs : Exs} {pos pos2 : Pos} {t u : Tx} {k : Nat} {sa sb : List Stmt} {s1 : Stmt} {x1 : Stt} {xs ys : Stts} {it : Tv.It} {t1 : Tg} {ts : List Tg} {gt : TG} {gts : TGs} {ta tb tc : TE} {tt tu : TT} {wi : TI} {sta stb : TS} {P : Prog} {n : Nat} {E : En} {xb : XB} {W : WX}
/-! iterators -/
theorem di_range {np : Pos} (hg : Gl X "range") (hm : X.mg "range" = none) (h : De X g pa a ta) (hs : starEach [pa] X.env = [(false, eval pa X.env)] := by rfl) : Di X g tg (.Call (.Name "range" np) [pa] [] pos) (.range a) (iRng1 (tCons ta tNil)) :=
  ⟨pi_range1 hg hm (pa_cons h.p pa_nil hs) hs, si_range h.s⟩
theorem di_range2 {np : Pos} (hg : Gl X "range") (hm : X.mg "range" = none) (h : De X g pa a ta) (h2 : De X g pb b tb) (hs : starEach [pa, pb] X.env = [(false, eval pa X.env), (false, eval pb X.env)] := by rfl) (hs1 : starEach [pa, pb] X.env = (false, eval pa X.env) :: starEach [pb] X.env := by rfl) (hs2 : starEach [pb] X.env = [(false, eval pb X.env)] := by rfl) : Di X g tg (.Call (.Name "range" np) [pa, pb] [] pos) (.range2 a b) (iRng2 (tCons ta (tCons tb tNil))) :=
  ⟨pi_range2 hg hm (pa_cons h.p (pa_cons h2.p pa_nil hs2) hs1) hs hs2, si_range2 h.s h2.s⟩
theorem di_rev {np : Pos} (hK : X.K = g.E.K) (hg : Gl X "reversed") (hm : X.mg "reversed" = none) (h : De X g pa a ta) (hs : starEach [pa] X.env = (false, eval pa X.env) :: starEach [] X.env := by rfl) : Di X g tg (.Call (.Name "reversed" np) [pa] [] pos) (.rev a) (RT.iRevA g.E.K ta) :=
  ⟨hK ▸ RT.pi_revA hg hm h.p hs, si_rev h.s⟩
/-! targets -/
theorem dg_nm {i : Nat} {x : Str} (hN : X.N.Nodup) (hi : X.N[i]? = some x) (hx : Loc X.env.scope x) (hf : X.fn x = true ∨ X.env.scope.names.lookup x = some .local := by first | exact .inl rfl | exact .inr rfl | assumption) : Dg X g (.Name x pos) (.nm i) (gName i) := ⟨pg_name hN hi hx hf, tg_nm⟩
theorem dgs_nil : Dgs X g [] [] gNil := ⟨pgs_nil, tgs_nil⟩
theorem dgs_cons (h : Dg X g pa t1 gt) (h2 : Dgs X g ps ts gts) (hs : (assignEach (pa :: ps) X.env).map (·.2) = assign pa X.env :: (assignEach ps X.env).map (·.2) := by rfl) : Dgs X g (pa :: ps) (t1 :: ts) (gCons gt gts) := ⟨pgs_cons h.p h2.p hs, tgs_cons h.s h2.s⟩
theorem dg_tp {kk n : Nat} (hK : X.K = g.E.K) (hc : X.calm = true) (h : Dgs X g ps ts gts) (hn : (assignEach ps X.env).length = n) (hst : (assignEach ps X.env).findIdx? (·.1) = none) (hl : ts.length = n) : Dg X g (.Tuple ps kk pos) (.tp ts) (gTup g.E.K n gts) := ⟨hK ▸ pg_tup hc h.p hn hst, tg_tp h.s hl⟩
/-! comprehensions -/
theorem de_lc {elt iter : Expr} {ifs : List Expr} {scope : Scope} {own : List (Str × Nat)} {e1 : Ex} (hc : X.calm = true) (hN : X.N.Nodup) (ok : BlkOk X.N X.env.scope scope own) (hi : Di X g tg iter it wi)
    (hg : ∀ (s : Shared) (H : Hp) (C : Addr) (cl : List (Str × Addr)) (fp : List Addr), Dg (X.blk s H scope (compEnvC scope cl C X.env) fp) g.inC tg t1 gt)
    (ht : ∀ (s : Shared) (H : Hp) (C : Addr) (cl : List (Str × Addr)) (fp : List Addr), Dts (X.blk s H scope (compEnvC scope cl C X.env) fp) g.inC ifs t tt)
    (he : ∀ (s : Shared) (H : Hp) (C : Addr) (cl : List (Str × Addr)) (fp : List Addr), De (X.blk s H scope (compEnvC scope cl C X.env) fp) g.inC elt e1 ta) (ho : own.map (·.2) = t1.own) (hs : ∀ x, foldedSetIterable iter X.env x = pure x := by intro _; rfl) :
    De X g (.ListComp elt [⟨tg, iter, ifs, 0⟩] scope pos) (.lc t1 it t e1) (tLc wi gt tt ta (own.map (·.2))) :=
  ⟨pe_lc hc hN hi.p ok (fun s H C cl fp => (hg s H C cl fp).p) (fun s H C cl fp => (ht s H C cl fp).p) (fun s H C cl fp => (he s H C cl fp).p) hs,
   se_lc hi.s (hg (PySem.start X.prog).1 (fun _ => none) 0 [] []).s (ht (PySem.start X.prog).1 (fun _ => none) 0 [] []).s (he (PySem.start X.prog).1 (fun _ => none) 0 [] []).s ho⟩
theorem ds_setLc {i : Nat} {y : Str} {py : Pos} {elt iter : Expr} {ifs : List Expr} {scope : Scope} {own : List (Str × Nat)} {e1 : Ex} {spos : Pos} (hc : X.calm = true) (hN : X.N.Nodup) (hy : X.N[i]? = some y) (hyl : X.env.scope.names.lookup y = some .local)
    (hsw : swapsWith (.ListComp elt [⟨tg, iter, ifs, 0⟩] scope pos) (some (.Name y py)) spos.line X.env = pure true) (ok : BlkOk X.N X.env.scope scope own) (hi : Di X g tg iter it wi)
    (hg : ∀ (s : Shared) (H : Hp) (C : Addr) (cl : List (Str × Addr)) (fp : List Addr), Dg (X.blk s H scope (compEnvC scope cl C X.env) fp) g.inC tg t1 gt)
    (ht : ∀ (s : Shared) (H : Hp) (C : Addr) (cl : List (Str × Addr)) (fp : List Addr), Dts (X.blk s H scope (compEnvC scope cl C X.env) fp) g.inC ifs t tt)
    (he : ∀ (s : Shared) (H : Hp) (C : Addr) (cl : List (Str × Addr)) (fp : List Addr), De (X.blk s H scope (compEnvC scope cl C X.env) fp) g.inC elt e1 ta) (ho : own.map (·.2) = t1.own) (hs : ∀ x, foldedSetIterable iter X.env x = pure x := by intro _; rfl) :
    Ds X g (.Assign [.Name y py] (.ListComp elt [⟨tg, iter, ifs, 0⟩] scope pos) spos) (.asg (.nm i) (.lc t1 it t e1)) (tAsg (tLc wi gt tt ta (own.map (·.2))) (gName i)) :=
  ⟨ps_setLc hc hN hy hyl hsw hi.p ok (fun s H C cl fp => (hg s H C cl fp).p) (fun s H C cl fp => (ht s H C cl fp).p) (fun s H C cl fp => (he s H C cl fp).p) hs,
   ss_asg (se_lc hi.s (hg (PySem.start X.prog).1 (fun _ => none) 0 [] []).s (ht (PySem.start X.prog).1 (fun _ => none) 0 [] []).s (he (PySem.start X.prog).1 (fun _ => none) 0 [] []).s ho) tg_nm fun i e => by cases e; rfl⟩
/-! statements -/
theorem dss_nil : Dss X g [] .nil tNext := ⟨pss_nil, ss_nil⟩
theorem dss_cons (h : Ds X g s1 x1 sta) (h2 : Dss X g sa xs stb) : Dss X g (s1 :: sa) (.cons x1 xs) (tSeq sta stb) := ⟨pss_cons h.p h2.p, ss_cons h.s h2.s⟩
theorem ds_asg {t1 : Tg} (h : De X g pa a ta) (hg : Dg X g tg t1 gt) (hn : ∀ i, t1 = .nm i → gt = gName i) (hs : swapsWithSole [tg] pa pos.line X.env = pure false := by rfl) (hw : swappedStores [tg] pa X.env = pure none := by rfl)
    (h1 : (assignEach [tg] X.env).map (·.2) = [assign tg X.env] := by rfl) : Ds X g (.Assign [tg] pa pos) (.asg t1 a) (tAsg ta gt) := ⟨ps_asg h.p hg.p hs hw h1, ss_asg h.s hg.s hn⟩
theorem ds_mv {i j : Nat} (h : PE X pa (tVar j)) (hg : PG X tg (gName i)) (hs : swapsWithSole [tg] pa pos.line X.env = pure false := by rfl) (hw : swappedStores [tg] pa X.env = pure none := by rfl)
    (h1 : (assignEach [tg] X.env).map (·.2) = [assign tg X.env] := by rfl) : Ds X g (.Assign [tg] pa pos) (.mv i j) (tAsg (tVar j) (gName i)) := ⟨ps_asg h hg hs hw h1, ss_mv⟩
theorem ds_if (h : Dt X g pc t tt) (ha : Dss X g sa xs sta) (hb : Dss X g sb ys stb) : Ds X g (.If pc sa sb pos) (.ifs t xs ys) (tIfS tt sta stb) := ⟨ps_if h.p ha.p hb.p, ss_ifs h.s ha.s hb.s⟩
theorem ds_for {iter : Expr} (hp : PassesOwn (model X.prog X.w) X.A X.env X.xe) (hc : X.calm = true) (hi : Di X g tg iter it wi) (hg : Dg X g tg t1 gt) (hb : Dss X g sa xs sta) (hs : ∀ x, foldedSetIterable iter X.env x = pure x := by intro _; rfl) : Ds X g (.For tg iter sa [] pos) (.for_ t1 it xs) (tFor wi gt sta) := ⟨ps_for hp hc hi.p hg.p hb.p hs, ss_for hi.s hg.s hb.s⟩
theorem ds_ret (h : De X g pa a ta) (hv : a.isVar = false := by rfl) : Ds X g (.Return (some pa) pos) (.ret a) (tRet ta) := ⟨ps_ret h.p, ss_ret hv h.s⟩
theorem ds_retV {i : Nat} (h : PE X pa (tVar i)) : Ds X g (.Return (some pa) pos) (.ret (.var i)) (tRet (tVar i)) := ⟨ps_ret h, ss_ret_var⟩
theorem ds_retN : Ds X g (.Return none pos) .retN tRetN := ⟨ps_retN, ss_retN⟩
theorem ds_brk : Ds X g (.Break pos) .brk tBreak := ⟨ps_break, ss_brk⟩
theorem ds_cnt : Ds X g (.Continue pos) .cnt tCont := ⟨ps_continue, ss_cnt⟩
theorem ds_pass : Ds X g (.Pass pos) .pass tNext := ⟨ps_pass, ss_pass⟩
theorem ds_drop (h : De X g pa a ta) (hs : swapsWith pa none pos.line X.env = pure false := by rfl) : Ds X g (.Expr pa pos) (.drop a) (tDrop ta) := ⟨ps_expr h.p hs, ss_drop h.s⟩
theorem dpl_nm (i : Nat) {x : Str} {pos : Pos} (h : PE X (.Name x pos) (tVar i)) : Dpl X g (.Name x pos) (.nm i) (tVar i) := ⟨h, pl_nm⟩
theorem ds_app {po : Expr} {p : Pl} {apos cpos : Pos} {to : TE} (hK : X.K = g.E.K) (hp : Dpl X g po p to) (h : De X g pa a ta) (hbase : attributeBase po "append" X.env (eval po X.env) = eval po X.env := by rfl)
    (hfew : ((backTo cpos (starEach (pa :: []) X.env)).all (fun x => !x.1) && (backToKw cpos (keywordEach [] X.env)).all (fun x => x.1.isSome)
      && decide ((pa :: []).length + ([] : List Keyword).length + (if ([] : List Keyword).isEmpty then 0 else 1) < 30)) = true := by rfl)
    (hline : (apos.endLine == cpos.line) = true := by rfl) (hs : starEach (pa :: []) X.env = (false, eval pa X.env) :: starEach [] X.env := by rfl) (hplain : (backTo cpos (starEach [] X.env)).any (·.1) = false := by rfl) (hs2 : swapsWith (.Call (.Attribute po "append" apos) [pa] [] cpos) none pos.line X.env = pure false := by rfl) :
    Ds X g (.Expr (.Call (.Attribute po "append" apos) [pa] [] cpos) pos) (.app p a) (tDrop (tBM g.E.K "list" rAppend to (tCons ta tNil))) :=
  ⟨hK ▸ ps_expr (pe_bm PySem.F.plainAttrs_list PySem.F.slot_list_append PySem.F.type_list_append mt_append hp.p (pa_cons h.p pa_nil hs) hbase hfew hline hs hplain) hs2, ss_app hp.s h.s⟩
end
end Tv

namespace Tv
open PySem L2 PySem.Spec PyProof.Rows
/-! ### from the law's pure statement to the row -/
theorem b_int : bootBuiltins "int" = some (.type "int") := by decide +kernel
theorem b_bool : bootBuiltins "bool" = some (.type "bool") := by decide +kernel
theorem b_tuple : bootBuiltins "tuple" = some (.type "tuple") := by decide +kernel
theorem b_list : bootBuiltins "list" = some (.type "list") := by decide +kernel
theorem b_str : bootBuiltins "str" = some (.type "str") := by decide +kernel
theorem b_dict : bootBuiltins "dict" = some (.type "dict") := by decide +kernel
theorem b_len : bootBuiltins "len" = some (.builtin "len") := by decide +kernel
theorem b_isinstance : bootBuiltins "isinstance" = some (.builtin "isinstance") := by decide +kernel
theorem b_max : bootBuiltins "max" = some (.builtin "max") := by decide +kernel
theorem b_min : bootBuiltins "min" = some (.builtin "min") := by decide +kernel
theorem b_sum : bootBuiltins "sum" = some (.builtin "sum") := by decide +kernel
theorem b_all : bootBuiltins "all" = some (.builtin "all") := by decide +kernel
theorem b_any : bootBuiltins "any" = some (.builtin "any") := by decide +kernel
theorem pgn {X : Cx} {pos : Pos} (i : Nat) {x : Str} (hN : X.N.Nodup) (hx : Loc X.env.scope x) (hi : X.N[i]? = some x := by rfl) (hf : X.fn x = true ∨ X.env.scope.names.lookup x = some .local := by first | exact .inl rfl | exact .inr rfl | assumption) : PG X (.Name x pos) (gName i) := pg_name hN hi hx hf
section
variable {pr : Program} {wl : World} {K : PySem.W.Frag} {mg : Str → Option Value} {base : Heap} {CX : CXT} {k : Nat} {f : Addr} {fd : FuncData} {ps : List Str} {sp sp' : Sp}
theorem FnOk.weak (h : FnOk pr wl K mg base CX k f fd ps sp) (hs : ∀ vs H Q Y, sp' vs H Q Y → sp vs H Q Y) : FnOk pr wl K mg base CX k f fd ps sp' := ⟨fun vs H Q Y z => h.len vs H Q Y (hs _ _ _ _ z), fun A o s H as us vs Q Y h1 h2 h3 h4 h5 => h.run A o s H as us vs Q Y h1 h2 h3 h4 (hs _ _ _ _ h5)⟩
theorem fn_0 {P : Prog} {E : En} {fi : Nat} : FnOk pr wl K mg base CX k f fd ps (spT P E 0 fi) := by
  have no : ∀ vs H Q Y, ¬ spT P E 0 fi vs H Q Y := fun vs H Q Y z => by
    obtain ⟨as, L, w, st, r, h1, h2, h3, h4, h5, h6⟩ := z
    cases h4
  exact ⟨fun vs H Q Y z => absurd z (no _ _ _ _), fun A o s H as us vs Q Y h1 h2 h3 h4 h5 => absurd h5 (no _ _ _ _)⟩
/-- the law's promise -/
def spL (K : PySem.W.Frag) : Sp := fun vs H Q _ => ∃ (a : Addr) (ns : List Int), vs = [.ref a] ∧ ns.length ≤ 63 ∧ SqL K H a (ns.map V.int) ∧ ∀ H', Q (.bl true) H'
theorem rva_ints {E : En} {ad : List Addr} {H : Hp} : ∀ ns : List Int, RvA E ad H (ns.map .int) (ns.map .int)
  | [] => .nil
  | i :: ns => .cons (.int i) (rva_ints ns)
theorem to_spL {P : Prog} {E : En} {n fi : Nat} (hK : E.K = K) (hp : (P.fn fi).np = 1) (h : FnOk pr wl K mg base CX k f fd ps (spT P E n fi))
    (hl : ∀ ns : List Int, ns.length ≤ 63 → ∃ st', P.call n fi [.c .scr (.l (ns.map .int))] [] [] = some (.ok (.d (.bl true)) st')) : FnOk pr wl K mg base CX k f fd ps (spL K) := by
  refine FnOk.weak h fun vs H Q Y z => ?_
  obtain ⟨a, ns, rfl, hn, hS, hQ⟩ := z
  obtain ⟨st', e⟩ := hl ns hn
  have nl : ∀ (o : Ow), ¬ o.live [] := fun o z => by
    cases o with
    | c k => ((obtain ⟨x, z⟩ := z) <;> simp at z)
    | f i nm => ((obtain ⟨C, fs, x, z, _⟩ := z) <;> simp at z)
    | s j => exact z
  refine ⟨_, [], ⟨[], fun _ _ => 0⟩, [], _, (fun o z => by cases z), ⟨rfl, fun o p b h1 => absurd h1 (nl o), fun k x z => by simp at z, fun o b h1 => absurd h1 (nl o), fun k C fs z => by simp at z⟩, .cons (.scr ?_ (rva_ints ns)) .nil, e, hp.symm, ?_⟩
  · rw [hK]
    rcases hS with hS | hS
    · exact .inr ⟨hS, fun ⟨o, z, _⟩ => nl o z, fun ⟨j, x, z, _⟩ => by simp at z⟩
    · exact .inl fun J => .inr hS
  · intro w' H' v S f b
    obtain ⟨b, _⟩ := b
    cases b with
    | d b => cases b; exact hQ H'
theorem cx_false {outer : List PySem.Env} {s : Shared} {H : Hp} {e : Value} {s' : Shared} (h : L2.CX pr wl outer H s (fun _ _ _ => False) e s') : False := by
  obtain ⟨a, B, H', cls, d, _, _, _, _, _, _, _, z⟩ := h
  exact z
end
end Tv

namespace Tv
open PySem L2 PySem.Spec PyProof.Rows
section
variable {E : En} {xb : XB} {w w0 w1 w2 : Wd} {L0 L L' l : List Ow} {st st0 st1 st2 : Sto} {H H1 H2 B B' : Hp} {env env1 env' : Env} {σ σ1 σ' : L2.St} {v : V} {s : SV} {vs : List V} {ss : List SV} {j i : Nat} {p : Addr} {P : Prog} {n : Nat} {W : WX} {X : Cx} {g : Gm}
/-! ### a name's own container gets a place of its own -/
theorem ER.prom {x : Cn} (S : SR E w L st H) (R : ER E xb L0 w L st H env σ) (e : env[j]? = some (some (.c .own x))) (e2 : σ[j]? = some (some (.ref p))) : ER E xb L0 (w.push p) L (st ++ [.con x]) H (env.set j (some (.d (.ref st.length)))) σ := by
  have hp : Sod env σ p := sod_slot e e2
  have pre : w.ad <+: (w.push p).ad := ⟨[p], rfl⟩
  have sodo : ∀ q, Sod (env.set j (some (.d (.ref st.length)))) σ q → Sod env σ q ∧ q ≠ p := fun q z => by
    obtain ⟨m, y, h1, h2⟩ := z
    rcases get_set h1 with ⟨_, h3, _⟩ | ⟨h3, h1⟩
    · cases h3
    · refine ⟨⟨m, y, h1, h2⟩, fun z => ?_⟩
      subst z
      exact h3 (R.inj m j y x q h1 e h2 e2)
  have owdo : ∀ q, Owd (w.push p) (st ++ [.con x]) q → Owd w st q ∨ q = p := fun q z => owd_push S.len z
  refine ⟨by rw [List.length_set]; exact R.len, fun m s' e3 => ?_, fun m k x' y q h1 h2 h3 h4 => ?_, fun q z k => R.zs q (zad_push S z) (sodo q k).1⟩
  · rcases get_set e3 with ⟨rfl, h3, _⟩ | ⟨h3, h4⟩
    · cases h3
      refine ⟨_, e2, .d (.ref ?_)⟩
      show (w.ad ++ [p])[st.length]? = some p
      rw [List.getElem?_append_right (by rw [S.len]; exact Nat.le_refl _), S.len]
      simp
    · obtain ⟨u, k1, k2⟩ := R.ok m s' h4
      refine ⟨u, k1, ?_⟩
      cases k2 with
      | d k2 => exact .d (k2.mono pre (Tm.rfl' _))
      | @own a y k2 k3 k4 =>
        refine .own (k2.mono pre (Tm.rfl' _) rfl) (fun z => ?_) k4
        rcases owdo _ z with z | rfl
        · exact k3 z
        · exact h3 (R.inj m j _ x _ h4 e k1 e2)
      | @par a y k2 k3 k4 =>
        refine .par (k2.mono pre (Tm.rfl' _) rfl) ?_ fun z => k4 (sodo _ z).1
        rcases k3 with k3 | ⟨o, q1, q2, q3⟩
        · refine .inl fun z => ?_
          rcases owdo _ z with z | rfl
          · exact k3 z
          · exact k4 hp
        · exact .inr ⟨o, q1, live_push q2, by rw [at_push S.len q2]; exact q3⟩
      | scr k2 k3 =>
        refine .scr ?_ (k3.mono pre (Tm.rfl' _))
        rcases k2 with k2 | ⟨k2, k4, k5⟩
        · exact .inl k2
        · refine .inr ⟨k2, fun z => ?_, fun z => k5 (sodo _ z).1⟩
          rcases owdo _ z with z | rfl
          · exact k4 z
          · exact k5 hp
      | x k2 k3 => exact .x k2 (xr_mono pre (Tm.rfl' _) (fun _ _ h => h) k3)
  · rcases get_set h1 with ⟨_, h5, _⟩ | ⟨_, h1⟩
    · cases h5
    · rcases get_set h2 with ⟨_, h5, _⟩ | ⟨_, h2⟩
      · cases h5
      · exact R.inj m k x' y q h1 h2 h3 h4
theorem stp_prom {x : Cn} (S : SR E w L st H) (R : ER E xb L0 w L st H env σ) (e : env[j]? = some (some (.c .own x))) (e2 : σ[j]? = some (some (.ref p))) (hj : .s j ∉ L) : Stp E L ⟨w, env, st, σ, H⟩ ⟨w.push p, env.set j (some (.d (.ref st.length))), st ++ [.con x], σ, H⟩ := by
  have hp : Sod env σ p := sod_slot e e2
  refine ⟨⟨⟨[p], rfl⟩, Tm.rfl' _, fun q o h _ _ => h, fun q z => ?_, fun q z => .inl (zad_push S z), fun q h => h, fun o ho hl => ⟨live_push hl, at_push S.len hl, fun _ _ => rfl⟩⟩, fun q z => ?_, fun m hm => ?_⟩
  · rcases owd_push S.len z with z | rfl
    · exact .inl z
    · exact .inr (.inl hp)
  · obtain ⟨m, y, h1, h2⟩ := z
    rcases get_set h1 with ⟨_, h3, _⟩ | ⟨_, h1⟩
    · cases h3
    · exact .inl ⟨m, y, h1, h2⟩
  · have n1 : m ≠ j := fun z => hj (z ▸ hm)
    exact ⟨set_ne n1, rfl, fun _ _ _ _ => rfl⟩
theorem sss_prom {t : TS} {ss : Stts} (h2 : SSs P n E xb W t ss) : SSs P n E xb W t (.cons (.prom j) ss) := by
  intro L0 L w env st σ H h0 S R r h D hD
  have h' : sq (match env[j]? with
    | some (some (.c .own x)) => if free (P.cl (P.call n) L) j then some (.nx (env.set j (some (.d (.ref st.length)))) (st ++ [.con x])) else none
    | _ => some (.nx env st)) (fun env st => execs (P.cl (P.call n) L) ss env st) = some r := h
  split at h'
  · rename_i x e
    split at h'
    · rename_i hf
      obtain ⟨v, k1, k2⟩ := R.ok j _ e
      cases k2 with
      | own q1 q2 q3 =>
        have hj := free_s hf
        have S' := S.push (a := _) q1 (q3 hj) q2 fun z => R.zs _ z (sod_slot e k1)
        exact h2 L0 L _ _ _ σ H h0 S' (R.prom S e k1) r h' D (hD.from (stp_prom S R e k1 hj))
    · cases h'
  · exact h2 L0 L w env st σ H h0 S R r h' D hD
theorem dss_prom {sa : List Stmt} {xs : Stts} {sta : TS} (j : Nat) (h : Dss X g sa xs sta) : Dss X g sa (.cons (.prom j) xs) sta := ⟨h.p, sss_prom h.s⟩
/-! raise -/
theorem ss_raise {te : TE} {e : Ex} {C : Nat} (he : SE P n E xb W te e) : SS P n E xb W (fun _ σ H => te σ H fun _ H1 => W (.ref (E.exc C)) none σ H1) (.raise C e false) := by
  intro L0 L w env st σ H h0 S R r h D hD
  show te σ H fun _ H1 => W (.ref (E.exc C)) none σ H1
  refine sb_go he h0 S R h hD fun u st1 w1 H1 x S1 R1 f1 v1 h hD => ?_
  cases u with
  | d y =>
    cases (show some (SO.ex ⟨C, none⟩ env st1) = some r from h)
    exact hD w1 σ H1 _ _ S1 R1 (Stp.rfl' _) ⟨rfl, fun _ => rfl, fun y z => by cases z⟩
  | c kd y => cases (show (none : Option SO) = some r from h)
  | x y => cases (show (none : Option SO) = some r from h)
theorem ds_raise {C : Addr} {k : Nat} {bmB : List Value} {B newId initId : String} {x : Str} {e : Expr} {a : Ex} {ta : TE} {p pos pos2 : Pos} (hc : X.calm = true) (tk : Takes X g.W) (F : ExcBaseFacts B newId initId bmB) (q : PySem.W.excIn X.K C bmB newId = true) (gC : X.mg x = some (.ref C)) (kC : PySem.W.keepIn X.K (.ref C) = true) (r : Raises X (.ref C)) (hg : Gl X x)
    (hC : g.E.exc k = C) (he : De X g e a ta) (hs : starEach [e] X.env = (false, eval e X.env) :: starEach [] X.env := by rfl) (hdb : (x == ("__debug__" : Str)) = false := by decide) :
    Ds X g (.Raise (some (.Call (.Name x p) [e] [] pos)) none pos2) (.raise k a false) (fun _ σ H => ta σ H fun _ H1 => g.W (.ref (g.E.exc k)) none σ H1) :=
  ⟨by subst hC; exact ps_raise hc tk (SkE.pmk_own1 F q gC kC r hg he.p hs hdb), ss_raise he.s⟩
end
end Tv

namespace Tv
open PySem L2 PySem.Spec PyProof.Rows
section
variable {E : En} {xb : XB} {w w0 w1 w2 : Wd} {L0 L L' l : List Ow} {st st0 st1 st2 : Sto} {H H1 H2 B B' : Hp} {env env1 env' : Env} {σ σ1 σ' : L2.St} {v : V} {s : SV} {vs : List V} {ss : List SV} {j i : Nat} {p : Addr} {P : Prog} {n : Nat} {W : WX} {X : Cx} {g : Gm} {a : Ex} {es : Exs} {ta : TE} {ts : List TE} {pa : Expr} {ps : List Expr}
/-! ### texts with values in them -/
theorem se_fmt (h : SE P n E xb W ta a) : SE P n E xb W (tFmt ta) (.fmt a) := by
  intro L0 L w env st σ H h0 S R r h' Q hQ
  show ta σ H fun x H1 => (∃ y : Str, x = .str y ∧ y.length ≤ sizeLine ∧ Q (.str y) H1) ∨ ∃ i : Int, x = .int i ∧ i.natAbs.log2 < 1920 ∧ Q (.str (toString i)) H1
  refine sg_go h h0 S R h' hQ fun u st1 w1 H1 x S1 R1 f1 v1 h2 hQ1 => ?_
  cases u with
  | d y =>
    cases y with
    | str y =>
      have h3 : (if y.length ≤ sizeLine then ok (SV.d (.str y)) st1 else none) = some r := h2
      split at h3
      · rename_i hl
        cases h3
        cases v1 with
        | d v1 => cases v1; exact .inl ⟨y, rfl, hl, hQ1 w1 H1 _ S1 (Fr.rfl' _) (.d (.str y))⟩
      · cases h3
    | int i =>
      have h3 : (if i.natAbs.log2 < 1920 then ok (SV.d (.str (toString i))) st1 else none) = some r := h2
      split at h3
      · rename_i hl
        cases h3
        cases v1 with
        | d v1 => cases v1; exact .inr ⟨i, rfl, hl, hQ1 w1 H1 _ S1 (Fr.rfl' _) (.d (.str _))⟩
      · cases h3
    | _ => cases (show (none : Res SV) = some r from h2)
  | c kd y => cases (show (none : Res SV) = some r from h2)
  | x y => cases (show (none : Res SV) = some r from h2)
inductive SJ (P : Prog) (n : Nat) (E : En) (xb : XB) (W : WX) : List TE → Exs → Prop
  | nil : SJ P n E xb W [] .nil
  | cons {t : TE} {a : Ex} {ts : List TE} {es : Exs} : SE P n E xb W t a → SJ P n E xb W ts es → SJ P n E xb W (t :: ts) (.cons a es)
theorem sj_run (h : SJ P n E xb W ts es) : ∀ acc : Str, SG P n E xb W (RV E) (fun (σ : L2.St) (H : Hp) (Q : V → Hp → Prop) => tJs ts acc σ H fun out H1 => Q (.str out) H1) (fun c env st => evJ c es acc env st) := by
  induction h with
  | nil =>
    intro acc L0 L w env st σ H h0 S R r h' Q hQ
    cases (show some (Out.ok (SV.d (.str acc)) st) = some r from h')
    exact hQ w H _ S (Fr.rfl' _) (.d (.str acc))
  | @cons t a ts es ha _ ih =>
    intro acc L0 L w env st σ H h0 S R r h' Q hQ
    show t σ H fun x H1 => ∃ y : Str, x = .str y ∧ (acc ++ y).length ≤ sizeLine ∧ tJs ts (acc ++ y) σ H1 fun out H1 => Q (.str out) H1
    refine sg_go ha h0 S R h' hQ fun u st1 w1 H1 x S1 R1 f1 v1 h2 hQ1 => ?_
    cases u with
    | d y =>
      cases y with
      | str y =>
        have h3 : (if (acc ++ y).length ≤ sizeLine then evJ (P.cl (P.call n) L) es (acc ++ y) env st1 else none) = some r := h2
        split at h3
        · rename_i hl
          cases v1 with
          | d v1 =>
            cases v1
            refine ⟨y, rfl, hl, ih (acc ++ y) L0 L w1 env st1 σ H1 h0 S1 R1 r h3 Q ?_⟩
            exact hQ1.from (Fr.rfl' _) fun w' st' H' b a z => z.base fun p q => f1.dom p q
        · cases h3
      | _ => cases (show (none : Res SV) = some r from h2)
    | c kd y => cases (show (none : Res SV) = some r from h2)
    | x y => cases (show (none : Res SV) = some r from h2)
theorem de_fmt {pos : Pos} (h : De X g pa a ta) : De X g (.FormattedValue pa (-1) none pos) (.fmt a) (tFmt ta) := ⟨pe_fmt h.p, se_fmt h.s⟩
structure Dj (X : Cx) (g : Gm) (ps : List Expr) (es : Exs) (ts : List TE) : Prop where
  p : PJ X ps ts
  s : SJ g.P g.n g.E g.xb g.W ts es
theorem dj_nil : Dj X g [] .nil [] := ⟨.nil, .nil⟩
theorem dj_cons (h : De X g pa a ta) (h2 : Dj X g ps es ts) : Dj X g (pa :: ps) (.cons a es) (ta :: ts) := ⟨.cons h.p h2.p, .cons h.s h2.s⟩
theorem de_joined {v1 v2 : Expr} {pos : Pos} (h : Dj X g (v1 :: v2 :: ps) es ts) : De X g (.JoinedStr (v1 :: v2 :: ps) pos) (.joined es) (fun σ H Q => tJs ts Str.empty σ H fun out H1 => Q (.str out) H1) := ⟨pe_joined h.p, sj_run h.s Str.empty⟩
theorem de_joined1 {pos : Pos} (h : De X g pa a ta) : De X g (.JoinedStr [pa] pos) a ta := ⟨pe_joined1 h.p, h.s⟩
/-- what the class of an error must say -/
structure ExK (K : PySem.W.Frag) (C : Addr) : Prop where
  x : PySem.W.excIn K C [.type "ValueError", .type "Exception", .type "BaseException", .type "object"] "ValueError.__new__" = true
  k : PySem.W.keepIn K (.ref C) = true
  e : ExcC K C
  t : PySem.W.typeIn K (.ref C) = some (.type "type")
  i : PySem.W.isClsIn K C = true
  s : PySem.W.subIn K (.ref C) (.ref C) = some true
end
end Tv

namespace Tv
open PySem L2 PySem.Spec PyProof.Rows
section
variable {E : En} {xb : XB} {w w0 w1 w2 : Wd} {L0 L L' l : List Ow} {st st0 st1 st2 : Sto} {H H1 H2 B B' : Hp} {env env1 env' : Env} {σ σ1 σ' : L2.St} {v : V} {s : SV} {vs : List V} {ss : List SV} {j i : Nat} {P : Prog} {n : Nat} {W : WX} {X : Cx} {g : Gm} {a b d : Ex} {ta tb tc : TE} {pa pb pc : Expr} {k : Nat}
/-! a < b < c -/
theorem cmpI_inv {o : Co} {u w : SV} {q : Bool} (h : cmpI o u w = some q) : ∃ x y, u = .d (.int x) ∧ w = .d (.int y) := by
  unfold cmpI at h
  split at h
  · exact ⟨_, _, rfl, rfl⟩
  · cases h
theorem cmpI_cmp {kt : List (List D)} {o : Co} {u w : SV} {q : Bool} (h : cmpI o u w = some q) (st : Sto) : cmpF kt o u w st = some (.ok (.d (.bl q)) st) := by
  obtain ⟨x, y, rfl, rfl⟩ := cmpI_inv h
  cases o <;> first | (cases h; rfl) | cases h
theorem se_chain {o p : Co} {r r' : R2} (hr : OpS E r (cmpF E.kt o)) (hr' : OpS E r' (cmpF E.kt p)) (h1 : SE P n E xb W ta a) (h2 : SE P n E xb W tb b) (h3 : SE P n E xb W tc d) : SE P n E xb W (tChain r r' ta tb tc) (.chain o p a b d) := by
  intro L0 L w env st σ H h0 S R q h Q hQ
  show ta σ H fun x H1 => tb σ H1 fun y H2 => r x y H2 fun z H3 => ∃ k, z = V.bl k ∧ if k = true then tc σ H3 fun w' H4 => r' y w' H4 Q else Q (V.bl false) H3
  refine sg_go h1 h0 S R h hQ fun u st1 w1 H1 x S1 R1 f1 v1 h hQ1 => ?_
  refine sg_golk h2 h0 S1 R1 v1.live h hQ1 fun u2 st2 w2 H2 y S2 R2 f2 v2 h hQ2 => ?_
  cases e : cmpI o u u2 with
  | none => rw [e] at h; cases h
  | some q1 =>
    rw [e] at h
    obtain ⟨ix, iy, rfl, rfl⟩ := cmpI_inv e
    cases v1 with
    | d v1 =>
    cases v1
    cases v2 with
    | d v2 =>
    cases v2
    refine hr L0 L w2 env st2 σ H2 xb _ _ _ _ H H1 S2 R2 (.d (.int ix)) (.d (.int iy)) _ (cmpI_cmp e st2) W _ ?_
    intro w3 H3 z S3 f3 v3
    cases v3 with
    | d v3 =>
    cases v3
    refine ⟨q1, rfl, ?_⟩
    cases q1 with
    | false =>
      rw [if_neg Bool.false_ne_true]
      cases (show some (Out.ok (SV.d (.bl false)) st2) = some q from h)
      exact hQ2 w3 H3 _ S3 f3 (.d (.bl false))
    | true =>
      rw [if_pos rfl]
      have h' : rb (ev (P.cl (P.call n) L) d env st2) (fun z st => match cmpI p (.d (.int iy)) z with
        | some b => ok (SV.d (.bl b)) st
        | none => none) = some q := h
      refine sg_go h3 h0 S3 (R2.fr S2 h0 f3) h' (hQ2.from f3 fun _ _ _ _ _ z => z) fun u3 st4 w4 H4 x4 S4 R4 f4 v4 h4 hQ4 => ?_
      cases e2 : cmpI p (.d (.int iy)) u3 with
      | none => rw [e2] at h4; cases h4
      | some q2 =>
        rw [e2] at h4
        cases (show some (Out.ok (SV.d (.bl q2)) st4) = some q from h4)
        refine hr' L0 L w4 env st4 σ H4 xb _ _ _ _ H4 H3 S4 R4 (.d (.int iy)) v4 _ (cmpI_cmp e2 st4) W _ ?_
        intro w5 H5 z S5 f5 v5
        cases v5 with
        | d v5 =>
        cases v5
        exact hQ4 w5 H5 _ S5 f5 (.d (.bl q2))
theorem chain_bl {o p : Co} : ∀ (c : Cl) (env : Env) (st : Sto) (u : SV) (st' : Sto), ev c (.chain o p a b d) env st = some (.ok u st') → ∃ q, u = .d (.bl q) := fun c env st u st' h => by
  have h' : rb (ev c a env st) (fun u st => rb (ev (c.lk (lockOf u)) b env st) fun w st => match cmpI o u w with
    | some true => rb (ev (c.lk (lockOf u)) d env st) fun z st => match cmpI p w z with
      | some b => ok (SV.d (.bl b)) st
      | none => none
    | some false => ok (SV.d (.bl false)) st
    | none => none) = some (.ok u st') := h
  cases e1 : ev c a env st with
  | none => rw [e1] at h'; cases h'
  | some o1 =>
    rw [e1] at h'
    cases o1 with
    | ex x st1 => cases h'
    | ok u1 st1 =>
      cases e2 : ev (c.lk (lockOf u1)) b env st1 with
      | none => simp only [rb, e2] at h'; cases h'
      | some o2 =>
        cases o2 with
        | ex x st2 => simp only [rb, e2] at h'; cases h'
        | ok u2 st2 =>
          simp only [rb, e2] at h'
          split at h'
          · cases e3 : ev (c.lk (lockOf u1)) d env st2 with
            | none => rw [e3] at h'; cases h'
            | some o3 =>
              rw [e3] at h'
              cases o3 with
              | ex x st3 => cases h'
              | ok u3 st3 =>
                dsimp only at h'
                split at h'
                · cases h'; exact ⟨_, rfl⟩
                · cases h'
          · cases h'; exact ⟨_, rfl⟩
          · cases h'
theorem de_chain {op op' : CmpOp} {o p : Co} {r r' : R2} {pos : Pos} (ho : CmpO X g op o r) (ho' : CmpO X g op' p r') (h1 : De X g pa a ta) (h2 : De X g pb b tb) (h3 : De X g pc d tc) (hm : lastMarks [op, op'] [pb, pc] = false := by rfl) : De X g (.Compare pa [op, op'] [pb, pc] pos) (.chain o p a b d) (tChain r r' ta tb tc) := ⟨pe_chain ho.p ho'.p h1.p h2.p h3.p hm, se_chain ho.s ho'.s h1.s h2.s h3.s⟩
theorem dt_chain {op op' : CmpOp} {o p : Co} {r r' : R2} {pos : Pos} (ho : CmpO X g op o r) (ho' : CmpO X g op' p r') (h1 : De X g pa a ta) (h2 : De X g pb b tb) (h3 : De X g pc d tc) (hm : lastMarks [op, op'] [pb, pc] = false := by rfl) : Dt X g (.Compare pa [op, op'] [pb, pc] pos) (.val (.chain o p a b d)) (tTest (tChain r r' ta tb tc)) := ⟨pt_chain ho.p ho'.p h1.p h2.p h3.p hm, st_test (se_chain ho.s ho'.s h1.s h2.s h3.s) chain_bl⟩
end
end Tv

namespace Tv
open PySem L2 PySem.Spec PyProof.Rows
section
variable {E : En} {xb : XB} {w w0 w1 w2 : Wd} {L0 L L' l : List Ow} {st st0 st1 st2 : Sto} {H H1 H2 B B' : Hp} {env env1 env' : Env} {σ σ1 σ' : L2.St} {v : V} {s : SV} {vs : List V} {ss : List SV} {j i : Nat} {P : Prog} {n : Nat} {W : WX} {X : Cx} {g : Gm} {a b d : Ex} {ta tb tc : TE} {pa pb pc : Expr} {k : Nat}
/-! two names at once -/
theorem ss_par (h1 : SE P n E xb W ta a) (h2 : SE P n E xb W tb b) : SS P n E xb W (tPar i j (tCons ta (tCons tb tNil))) (.par i j a b) := by
  intro L0 L w env st σ H h0 S R r h D hD
  show ta σ H fun x H1 => tb σ H1 fun y H2 => ∃ v w, [x, y] = [v, w] ∧ D.nx ((σ.set i (some v)).set j (some w)) H2
  refine sb_go h1 h0 S R h hD fun u st1 w1 H1 x S1 R1 f1 v1 h hD1 => ?_
  refine sb_golk h2 h0 S1 R1 v1.live h hD1 fun u2 st2 w2 H2 y S2 R2 f2 v2 h hD2 => ?_
  cases u with
  | c kd z => cases u2 <;> cases (show (none : Option SO) = some r from h)
  | x z => cases u2 <;> cases (show (none : Option SO) = some r from h)
  | d x' =>
    cases u2 with
    | c kd z => cases (show (none : Option SO) = some r from h)
    | x z => cases (show (none : Option SO) = some r from h)
    | d y' =>
      have h' : (if (free (P.cl (P.call n) L) i && free (P.cl (P.call n) L) j) = true then some (SO.nx ((env.set i (some (.d x'))).set j (some (.d y'))) st2) else none) = some r := h
      split at h'
      · rename_i hf
        rw [Bool.and_eq_true] at hf
        cases h'
        cases v1 with
        | d v1 =>
        cases v2 with
        | d v2 =>
        have r1 : ER E xb L0 w2 L st2 H2 (env.set i (some (.d x'))) (σ.set i (some x)) := R2.setV (fun _ z => by cases z) (.d (v1.mono f2.ad f2.tm))
        refine ⟨x, y, rfl, hD2 w2 _ H2 S2 (r1.setV (fun _ z => by cases z) (.d v2)) ((stp_setD R2 (free_s hf.1)).tr (stp_setD r1 (free_s hf.2)))⟩
      · cases h'
theorem ds_par {x y : Str} {px py pt pos pt2 : Pos} {kt k2 : Nat} (i j : Nat) (hc : X.calm = true) (hN : X.N.Nodup) (hi : X.N[i]? = some x) (hj : X.N[j]? = some y) (hij : i ≠ j) (hx : X.env.scope.names.lookup x = some .local) (hy : X.env.scope.names.lookup y = some .local) (h1 : De X g pa a ta) (h2 : De X g pb b tb)
    (hsw : swappedStores [.Tuple [.Name x px, .Name y py] kt pt] (.Tuple [pa, pb] k2 pt2) X.env = pure (some [x, y])) (hs1 : starEach [pa, pb] X.env = (false, eval pa X.env) :: starEach [pb] X.env := by rfl) (hs2 : starEach [pb] X.env = (false, eval pb X.env) :: starEach [] X.env := by rfl)
    (hs : swapsWithSole [.Tuple [.Name x px, .Name y py] kt pt] (.Tuple [pa, pb] k2 pt2) pos.line X.env = pure false := by rfl) :
    Ds X g (.Assign [.Tuple [.Name x px, .Name y py] kt pt] (.Tuple [pa, pb] k2 pt2) pos) (.par i j a b) (tPar i j (tCons ta (tCons tb tNil))) :=
  ⟨ps_par hc hN hi hj hij hx hy (pa_cons h1.p (pa_cons h2.p pa_nil hs2) hs1) hsw hs, ss_par h1.s h2.s⟩
/-! x += .. of ints -/
theorem ss_add (h1 : SE P n E xb W ta a) : SS P n E xb W (tAug i ta (ipI fun i j => i + j)) (.aug i .add a) := by
  intro L0 L w env st σ H h0 S R r h D hD
  have h' : (match env[i]? with
    | some (some (.d (.int p))) => sb (ev (P.cl (P.call n) L) a env st) env fun w st => match w with
      | .d (.int q) => setV (P.cl (P.call n) L) i (.d (.int (p + q))) env st
      | _ => none
    | _ => none) = some r := h
  split at h'
  · rename_i p e
    obtain ⟨x, e1, e2⟩ := R.ok i _ e
    refine ⟨x, e1, ?_⟩
    cases e2 with
    | d e2 =>
    cases e2
    refine sb_go h1 h0 S R h' hD fun u st1 w1 H1 y S1 R1 f1 v1 h hD1 => ?_
    cases u with
    | c kd z => cases (show (none : Option SO) = some r from h)
    | x z => cases (show (none : Option SO) = some r from h)
    | d u =>
      cases u with
      | int q =>
        have h2 : setV (P.cl (P.call n) L) i (.d (.int (p + q))) env st1 = some r := h
        unfold setV at h2
        split at h2
        · rename_i hf
          cases h2
          cases v1 with
          | d v1 =>
          cases v1
          exact ⟨p, q, rfl, rfl, hD1 w1 _ H1 S1 (R1.setV (fun _ z => by cases z) (.d (.int _))) (stp_setD R1 (free_s hf))⟩
        · cases h2
      | _ => cases (show (none : Option SO) = some r from h)
  · cases h'
theorem ss_sub (h1 : SE P n E xb W ta a) : SS P n E xb W (tAug i ta (ipI fun i j => i - j)) (.aug i .sub a) := by
  intro L0 L w env st σ H h0 S R r h D hD
  have h' : (match env[i]? with
    | some (some (.d (.int p))) => sb (ev (P.cl (P.call n) L) a env st) env fun w st => match w with
      | .d (.int q) => setV (P.cl (P.call n) L) i (.d (.int (p - q))) env st
      | _ => none
    | _ => none) = some r := h
  split at h'
  · rename_i p e
    obtain ⟨x, e1, e2⟩ := R.ok i _ e
    refine ⟨x, e1, ?_⟩
    cases e2 with
    | d e2 =>
    cases e2
    refine sb_go h1 h0 S R h' hD fun u st1 w1 H1 y S1 R1 f1 v1 h hD1 => ?_
    cases u with
    | c kd z => cases (show (none : Option SO) = some r from h)
    | x z => cases (show (none : Option SO) = some r from h)
    | d u =>
      cases u with
      | int q =>
        have h2 : setV (P.cl (P.call n) L) i (.d (.int (p - q))) env st1 = some r := h
        unfold setV at h2
        split at h2
        · rename_i hf
          cases h2
          cases v1 with
          | d v1 =>
          cases v1
          exact ⟨p, q, rfl, rfl, hD1 w1 _ H1 S1 (R1.setV (fun _ z => by cases z) (.d (.int _))) (stp_setD R1 (free_s hf))⟩
        · cases h2
      | _ => cases (show (none : Option SO) = some r from h)
  · cases h'
theorem ds_add {x : Str} {pos pos' : Pos} (i : Nat) (hN : X.N.Nodup) (hi : X.N[i]? = some x) (hx : Loc X.env.scope x) (h : De X g pa a ta) (hf : X.fn x = true ∨ X.env.scope.names.lookup x = some .local := by first | exact .inl rfl | exact .inr rfl | assumption) : Ds X g (.AugAssign (.Name x pos') .Add pa pos) (.aug i .add a) (tAug i ta (ipI fun i j => i + j)) := ⟨ps_aug hN hi hx h.p ip_add hf, ss_add h.s⟩
theorem ds_sub {x : Str} {pos pos' : Pos} (i : Nat) (hN : X.N.Nodup) (hi : X.N[i]? = some x) (hx : Loc X.env.scope x) (h : De X g pa a ta) (hf : X.fn x = true ∨ X.env.scope.names.lookup x = some .local := by first | exact .inl rfl | exact .inr rfl | assumption) : Ds X g (.AugAssign (.Name x pos') .Sub pa pos) (.aug i .sub a) (tAug i ta (ipI fun i j => i - j)) := ⟨ps_aug hN hi hx h.p ip_sub hf, ss_sub h.s⟩
end
end Tv

/-! zip of a list or a tuple with a list or a tuple. -/
namespace Tv
open PySem L2 PySem.Spec PyProof.Rows
section
variable {prog : Program} {w : World} {A : Around} {E : Value → Shared → Prop} {s : Shared}
def Itg (b : Bool) (h : Heap) (i l : Addr) (k : Nat) : Prop := match b with
  | true => h.IsTupleIter i l k
  | false => h.IsListIter i l k
def Sqg (b : Bool) (h : Heap) (l : Addr) (xs : Array Value) : Prop := match b with
  | true => h.IsTuple l xs
  | false => h.IsList l xs
theorem Itg.to {b : Bool} {h g : Heap} {i l : Addr} {k : Nat} (t : Itg b h i l k) (f : ∀ o, h.get? i = some o → g.get? i = some o) : Itg b g i l k := by
  cases b
  · exact Heap.IsListIter.at t f
  · exact Heap.IsTupleIter.at t f
theorem Sqg.to {b : Bool} {h g : Heap} {l : Addr} {xs : Array Value} (t : Sqg b h l xs) (f : ∀ o, h.get? l = some o → g.get? l = some o) : Sqg b g l xs := by
  cases b
  · exact Heap.IsList.at t f
  · obtain ⟨o, h1, h2⟩ := t
    exact ⟨o, f o h1, h2⟩
theorem Sqg.lt {b : Bool} {h : Heap} {l : Addr} {xs : Array Value} (t : Sqg b h l xs) : l < h.objs.size := by
  cases b
  · obtain ⟨o, h1, _⟩ := t
    exact Heap.lt_size h1
  · obtain ⟨o, h1, _⟩ := t
    exact Heap.lt_size h1
theorem Itg.obj {b : Bool} {h : Heap} {i l : Addr} {k : Nat} (t : Itg b h i l k) : ∃ o, h.get? i = some o ∧ ∀ v, o.data ≠ .cell v := by
  cases b
  · obtain ⟨o, h1, _, h2⟩ := t
    exact ⟨o, h1, fun v q => by rw [h2] at q; cases q⟩
  · obtain ⟨o, h1, _, h2⟩ := t
    exact ⟨o, h1, fun v q => by rw [h2] at q; cases q⟩
theorem nxg_item {b : Bool} {i l : Addr} {k : Nat} {xs : Array Value} {x : Value} {Q : Value → Shared → Prop} (t : Itg b s.heap i l k) (q : Sqg b s.heap l xs) (hx : xs[k]? = some x)
    (hQ : ∀ g, Itg b g i l (k + 1) → Heap.SameBut i s.heap g → Q x { s with heap := g }) : wpAny (model prog w) A (Builtin.SmallTypes.nextOf (.ref i)) Q E s := by
  cases b
  · exact wpAny_nextOf_list_item t q hx hQ
  · exact RZ.nextOf_tuple_item t q hx hQ
theorem nxg_end {b : Bool} {i l : Addr} {k : Nat} {xs : Array Value} {Q : Value → Shared → Prop} (hh : A.handled = none) (t : Itg b s.heap i l k) (q : Sqg b s.heap l xs) (hx : xs[k]? = none)
    (hE : ∀ g e, Heap.ExtBut i s.heap g → (∃ o, g.get? e = some o ∧ o.cls = .type "StopIteration") → E (.ref e) { s with heap := g }) : wpAny (model prog w) A (Builtin.SmallTypes.nextOf (.ref i)) Q E s := by
  cases b
  · exact wpAny_nextOf_list_end hh t q hx hE
  · exact RZ.nextOf_tuple_end hh t q hx hE
/-- the zip at z, as it stands between two turns -/
structure Zg (b c : Bool) (h : Heap) (z p o i j l m : Addr) (n k : Nat) (u v : Value) : Prop where
  z : IsZip h z p o .none
  p : IsPair h p (.ref i) (.ref j)
  o : IsPair h o u v
  i : Itg b h i l n
  j : Itg c h j m k
theorem zg_item {b c : Bool} {z p o i j l m : Addr} {n k : Nat} {xs ys : Array Value} {x y u v : Value} {Q : Value → Shared → Prop} (D : ZipApart z p o i j l m) (Z : Zg b c s.heap z p o i j l m n k u v)
    (ql : Sqg b s.heap l xs) (qm : Sqg c s.heap m ys) (hx : xs[n]? = some x) (hy : ys[k]? = some y)
    (hQ : ∀ g, IsZip g z p o (rawInt s.heap.objs.size) → IsPair g o x y → Itg b g i l (n + 1) → Itg c g j m (k + 1) → IsPair g s.heap.objs.size x y → g.objs.size = s.heap.objs.size + 1 →
      (∀ a t, a ≠ z → a ≠ o → a ≠ i → a ≠ j → s.heap.get? a = some t → g.get? a = some t) → Q (.ref s.heap.objs.size) { s with heap := g }) :
    wpAny (model prog w) A (Builtin.«zip.__next__» ⟨[.ref z], []⟩) (fun fin s1 => ∃ r, fin = .done (.ret r) ∧ Q r s1) E s := by
  obtain ⟨zz, zp, zo, zi, zj⟩ := Z
  show wpAny _ _ (field (.ref z) 2 >>= _) _ _ _
  apply wpAny_bind
  apply wpAny_field zz rfl (x := .bool false) rfl
  show wpAny _ _ (field (.ref z) 3 >>= _) _ _ _
  apply wpAny_bind
  apply wpAny_field zz rfl (x := .ref p) rfl
  apply wpAny_bind
  apply wpAny_seqItems zp rfl
  show wpAny _ _ (Builtin.SmallTypes.ownedTupleIsFree (.ref z) >>= _) _ _ _
  apply wpAny_bind
  unfold Builtin.SmallTypes.ownedTupleIsFree
  apply wpAny_bind
  apply wpAny_field zz rfl (x := .none) rfl
  apply wpAny_pure
  simp only [if_true]
  apply wpAny_bind
  apply wpAny_rule
  apply wpAny_bind
  apply wpAny_field zz rfl (x := .ref o) rfl
  apply wpAny_bind
  refine wpAny_setField_rec zz (by simp) fun g1 z1 s1 => ?_
  have z1' : IsZip g1 z p o .ellipsis := z1
  clear z1
  apply wpAny_bind
  simp only [List.zipIdx_cons, List.zipIdx_nil, List.forIn_cons, List.forIn_nil]
  apply wpAny_bind
  apply wpAny_bind
  apply wpAny_onRaise
  show wpAny _ _ (Builtin.SmallTypes.nextOf (.ref i) >>= _) _ _ _
  apply wpAny_bind
  refine nxg_item (zi.to fun t e => s1.extBut _ _ D.i1z e) (ql.to fun t e => s1.extBut _ _ D.l1z e) hx fun g2 i2 s2 => wpAny_pure ?_
  have o2 : IsPair g2 o u v := s2.extBut _ _ D.TOi1 (s1.extBut _ _ D.TOz zo)
  apply wpAny_bind
  apply wpAny_seqItems o2 rfl
  apply wpAny_bind
  refine wpAny_updateSeq_pair o2 fun g3 o3 s3 => ?_
  have o3' : IsPair g3 o x v := o3
  clear o3
  apply wpAny_bind
  apply wpAny_letGo
  apply wpAny_pure
  apply wpAny_bind
  apply wpAny_bind
  apply wpAny_onRaise
  show wpAny _ _ (Builtin.SmallTypes.nextOf (.ref j) >>= _) _ _ _
  apply wpAny_bind
  refine nxg_item (zj.to fun t e => s3.extBut _ _ D.TOi2.symm (s2.extBut _ _ D.i12.symm (s1.extBut _ _ D.i2z e))) (qm.to fun t e => s3.extBut _ _ D.l2TO (s2.extBut _ _ D.l2i1 (s1.extBut _ _ D.l2z e))) hy fun g4 j4 s4 => wpAny_pure ?_
  have o4 : IsPair g4 o x v := s4.extBut _ _ D.TOi2 o3'
  apply wpAny_bind
  apply wpAny_seqItems o4 rfl
  apply wpAny_bind
  refine wpAny_updateSeq_pair o4 fun g5 o5 s5 => ?_
  have o5' : IsPair g5 o x y := o5
  clear o5
  apply wpAny_bind
  apply wpAny_letGo
  apply wpAny_pure
  apply wpAny_pure
  apply wpAny_bind
  apply wpAny_seqItems o5' rfl
  apply wpAny_bind
  refine wpAny_newTuple ?_
  have size5 : g5.objs.size = s.heap.objs.size := by rw [s5.1, s4.1, s3.1, s2.1, s1.1]
  have z5 : IsZip g5 z p o .ellipsis := s5.extBut _ _ D.TOz.symm (s4.extBut _ _ D.i2z.symm (s3.extBut _ _ D.TOz.symm (s2.extBut _ _ D.i1z.symm z1')))
  have k5 : ∀ a t, a ≠ z → a ≠ o → a ≠ i → a ≠ j → s.heap.get? a = some t → g5.get? a = some t := fun a t n1 n2 n3 n4 e =>
    s5.extBut _ _ n2 (s4.extBut _ _ n4 (s3.extBut _ _ n2 (s2.extBut _ _ n3 (s1.extBut _ _ n1 e))))
  have i5 : Itg b g5 i l (n + 1) := i2.to fun t e => s5.extBut _ _ D.TOi1.symm (s4.extBut _ _ D.i12 (s3.extBut _ _ D.TOi1.symm e))
  have j5 : Itg c g5 j m (k + 1) := j4.to fun t e => s5.extBut _ _ D.TOi2.symm e
  have zlt : z < g5.objs.size := Heap.lt_size z5
  show wpAny _ _ (Builtin.SmallTypes.ownedTupleHandOut (.ref z) (.ref g5.objs.size) >>= _) _ _ _
  apply wpAny_bind
  unfold Builtin.SmallTypes.ownedTupleHandOut
  have z6 : IsZip (g5.push { cls := .type "tuple", data := .seq #[x, y] }) z p o .ellipsis := Heap.get?_push_of_some _ z5
  apply wpAny_bind
  refine wpAny_setField_rec z6 (by simp) fun g7 z7 s7 => ?_
  have z7' : IsZip g7 z p o (rawInt g5.objs.size) := z7
  clear z7
  refine wpAny_setField_rec z7' (by simp) fun g8 z8 s8 => ?_
  have z8' : IsZip g8 z p o (rawInt g5.objs.size) := z8
  clear z8
  have up : ∀ a t, a ≠ z → g5.get? a = some t → g8.get? a = some t := fun a t n1 e => s8.extBut _ _ n1 (s7.extBut _ _ n1 (Heap.get?_push_of_some _ e))
  have t8 : IsPair g8 g5.objs.size x y := s8.extBut _ _ (Nat.ne_of_gt zlt) (s7.extBut _ _ (Nat.ne_of_gt zlt) (Heap.get?_push_size _ rfl))
  have size8 : g8.objs.size = g5.objs.size + 1 := by rw [s8.1, s7.1, Heap.size_push]
  rw [size5] at z8' t8 size8
  refine wpAny_pure ⟨_, rfl, ?_⟩
  show Q (.ref g5.objs.size) _
  rw [size5]
  exact hQ g8 z8' (up _ _ D.TOz o5') (i5.to fun t e => up _ t D.i1z e) (j5.to fun t e => up _ t D.i2z e) t8 size8 fun a t n1 n2 n3 n4 e => up a t n1 (k5 a t n1 n2 n3 n4 e)
theorem zg_end {b c : Bool} {z p o i j l m : Addr} {n k : Nat} {xs ys : Array Value} {u v : Value} {Q : Fin → Shared → Prop} (hh : A.handled = none) (D : ZipApart z p o i j l m) (Z : Zg b c s.heap z p o i j l m n k u v)
    (ql : Sqg b s.heap l xs) (qm : Sqg c s.heap m ys) (hend : xs[n]? = none ∨ ys[k]? = none)
    (hE : ∀ g e, (∀ a t, a ≠ z → a ≠ o → a ≠ i → a ≠ j → s.heap.get? a = some t → g.get? a = some t) → (∃ t, g.get? e = some t ∧ t.cls = .type "StopIteration") → E (.ref e) { s with heap := g }) :
    wpAny (model prog w) A (Builtin.«zip.__next__» ⟨[.ref z], []⟩) Q E s := by
  obtain ⟨zz, zp, zo, zi, zj⟩ := Z
  show wpAny _ _ (field (.ref z) 2 >>= _) _ _ _
  apply wpAny_bind
  apply wpAny_field zz rfl (x := .bool false) rfl
  show wpAny _ _ (field (.ref z) 3 >>= _) _ _ _
  apply wpAny_bind
  apply wpAny_field zz rfl (x := .ref p) rfl
  apply wpAny_bind
  apply wpAny_seqItems zp rfl
  show wpAny _ _ (Builtin.SmallTypes.ownedTupleIsFree (.ref z) >>= _) _ _ _
  apply wpAny_bind
  unfold Builtin.SmallTypes.ownedTupleIsFree
  apply wpAny_bind
  apply wpAny_field zz rfl (x := .none) rfl
  apply wpAny_pure
  simp only [if_true]
  apply wpAny_bind
  apply wpAny_rule
  apply wpAny_bind
  apply wpAny_field zz rfl (x := .ref o) rfl
  apply wpAny_bind
  refine wpAny_setField_rec zz (by simp) fun g1 z1 s1 => ?_
  have z1' : IsZip g1 z p o .ellipsis := z1
  clear z1
  apply wpAny_bind
  simp only [List.zipIdx_cons, List.zipIdx_nil, List.forIn_cons, List.forIn_nil]
  apply wpAny_bind
  apply wpAny_bind
  apply wpAny_onRaise
  show wpAny _ _ (Builtin.SmallTypes.nextOf (.ref i) >>= _) _ _ _
  apply wpAny_bind
  cases hx : xs[n]? with
  | none =>
    refine nxg_end hh (zi.to fun t e => s1.extBut _ _ D.i1z e) (ql.to fun t e => s1.extBut _ _ D.l1z e) hx fun g2 e s2 he => ?_
    obtain ⟨t, h1, h2⟩ := he
    have z2 : IsZip g2 z p o .ellipsis := s2 _ _ D.i1z.symm z1'
    have ez : e ≠ z := fun q => by subst q; rw [z2] at h1; cases h1; simp at h2
    refine wpAny_setField_rec z2 (by simp) fun g3 _ s3 => hE g3 e (fun a t n1 _ n3 _ q => s3.extBut _ _ n1 (s2 _ _ n3 (s1.extBut _ _ n1 q))) ⟨t, s3.extBut _ _ ez h1, h2⟩
  | some x =>
    have hy : ys[k]? = none := hend.resolve_left (by rw [hx]; exact nofun)
    refine nxg_item (zi.to fun t e => s1.extBut _ _ D.i1z e) (ql.to fun t e => s1.extBut _ _ D.l1z e) hx fun g2 i2 s2 => wpAny_pure ?_
    have o2 : IsPair g2 o u v := s2.extBut _ _ D.TOi1 (s1.extBut _ _ D.TOz zo)
    apply wpAny_bind
    apply wpAny_seqItems o2 rfl
    apply wpAny_bind
    refine wpAny_updateSeq_pair o2 fun g3 o3 s3 => ?_
    apply wpAny_bind
    apply wpAny_letGo
    apply wpAny_pure
    apply wpAny_bind
    apply wpAny_bind
    apply wpAny_onRaise
    show wpAny _ _ (Builtin.SmallTypes.nextOf (.ref j) >>= _) _ _ _
    apply wpAny_bind
    refine nxg_end hh (zj.to fun t e => s3.extBut _ _ D.TOi2.symm (s2.extBut _ _ D.i12.symm (s1.extBut _ _ D.i2z e))) (qm.to fun t e => s3.extBut _ _ D.l2TO (s2.extBut _ _ D.l2i1 (s1.extBut _ _ D.l2z e))) hy fun g4 e s4 he => ?_
    obtain ⟨t, h1, h2⟩ := he
    have z4 : IsZip g4 z p o .ellipsis := s4 _ _ D.i2z.symm (s3.extBut _ _ D.TOz.symm (s2.extBut _ _ D.i1z.symm z1'))
    have ez : e ≠ z := fun q => by subst q; rw [z4] at h1; cases h1; simp at h2
    refine wpAny_setField_rec z4 (by simp) fun g5 _ s5 => hE g5 e (fun a t n1 n2 n3 n4 q => s5.extBut _ _ n1 (s4 _ _ n4 (s3.extBut _ _ n2 (s2.extBut _ _ n3 (s1.extBut _ _ n1 q))))) ⟨t, s5.extBut _ _ ez h1, h2⟩
end
end Tv

namespace Tv
open PySem L2 PySem.Spec PyProof.Rows
@[reducible] def ob1 (b : Bool) (l : Addr) : Obj := match b with
  | true => { cls := .type "tuple_iterator", data := .fields #[.ref l, .int 0 0] }
  | false => { cls := .type "list_iterator", data := .fields #[.ref l, .int 0 0] }
@[reducible] def zh1 (b : Bool) (h : Heap) (l : Addr) : Heap := h.push (ob1 b l)
@[reducible] def zh2 (b c : Bool) (h : Heap) (l m : Addr) : Heap := (zh1 b h l).push (ob1 c m)
@[reducible] def zh3 (b c : Bool) (h : Heap) (l m : Addr) : Heap := (zh2 b c h l m).push { cls := .type "tuple", data := .seq #[.ref h.objs.size, .ref (zh1 b h l).objs.size] }
@[reducible] def zh4 (b c : Bool) (h : Heap) (l m : Addr) : Heap := (zh3 b c h l m).push { cls := .type "tuple", data := .seq #[.none, .none] }
@[reducible] def zh5 (b c : Bool) (h : Heap) (l m : Addr) : Heap := (zh4 b c h l m).push { cls := .type "zip", data := .fields #[.none, .bool false, .bool false, .ref (zh2 b c h l m).objs.size, .ref (zh3 b c h l m).objs.size] }
theorem meets_zLT (l m : Addr) (xs ys : Array Value) : Meets (Builtin.«zip.__new__» ⟨[.type "zip", .ref l, .ref m], []⟩) (fun _ R s => Sqg false s.heap l xs ∧ Sqg true s.heap m ys ∧ R (.ok (.ret (.ref (zh4 false true s.heap l m).objs.size))) { s with heap := zh5 false true s.heap l m }) :=
  .of_wp fun prog w A R s h => by
    obtain ⟨hp, g, d, tk, os⟩ := s
    obtain ⟨q1, q2, h⟩ := h
    have hsub := sub_zip
    have f1 : Heap.IsList (Shared.heap ⟨hp, g, d, tk, os⟩) l xs := q1
    have f2 : Heap.IsTuple (Shared.heap ⟨hp.push (ob1 false l), g, d, tk, os⟩) m ys := Sqg.to (b := true) q2 fun o e => Heap.get?_push_of_some _ e
    wp_walk using wpAny_pyIter_list f1, wpAny_pyIter_tuple f2
    exact ⟨_, rfl, h⟩
theorem meets_zTL (l m : Addr) (xs ys : Array Value) : Meets (Builtin.«zip.__new__» ⟨[.type "zip", .ref l, .ref m], []⟩) (fun _ R s => Sqg true s.heap l xs ∧ Sqg false s.heap m ys ∧ R (.ok (.ret (.ref (zh4 true false s.heap l m).objs.size))) { s with heap := zh5 true false s.heap l m }) :=
  .of_wp fun prog w A R s h => by
    obtain ⟨hp, g, d, tk, os⟩ := s
    obtain ⟨q1, q2, h⟩ := h
    have hsub := sub_zip
    have f1 : Heap.IsTuple (Shared.heap ⟨hp, g, d, tk, os⟩) l xs := q1
    have f2 : Heap.IsList (Shared.heap ⟨hp.push (ob1 true l), g, d, tk, os⟩) m ys := Sqg.to (b := false) q2 fun o e => Heap.get?_push_of_some _ e
    wp_walk using wpAny_pyIter_tuple f1, wpAny_pyIter_list f2
    exact ⟨_, rfl, h⟩
theorem meets_zg (b c : Bool) (l m : Addr) (xs ys : Array Value) : Meets (Builtin.«zip.__new__» ⟨[.type "zip", .ref l, .ref m], []⟩) (fun _ R s => Sqg b s.heap l xs ∧ Sqg c s.heap m ys ∧ R (.ok (.ret (.ref (zh4 b c s.heap l m).objs.size))) { s with heap := zh5 b c s.heap l m }) := by
  cases b <;> cases c
  · exact meets_zip_new l m xs ys
  · exact meets_zLT l m xs ys
  · exact meets_zTL l m xs ys
  · exact RZ.meets_zipT_new l m xs ys
theorem itg_ob1 {b : Bool} {h : Heap} {i l : Addr} (e : h.get? i = some (ob1 b l)) : Itg b h i l 0 := by
  cases b
  · exact ⟨_, e, rfl, rfl⟩
  · exact ⟨_, e, rfl, rfl⟩
section
variable {prog : Program} {w : World} {A : Around} {E : Value → Shared → Prop} {s : Shared}
theorem call_zg {b c : Bool} {l m : Addr} {xs ys : Array Value} {Q : Value → Shared → Prop} (hl : Sqg b s.heap l xs) (hm : Sqg c s.heap m ys)
    (h : ∀ g, Zg b c g (s.heap.objs.size + 4) (s.heap.objs.size + 2) (s.heap.objs.size + 3) s.heap.objs.size (s.heap.objs.size + 1) l m 0 0 .none .none →
      (∀ a t, s.heap.get? a = some t → g.get? a = some t) → Q (.ref (s.heap.objs.size + 4)) { s with heap := g }) :
    wpAny (model prog w) A (call (.type "zip") [.ref l, .ref m]) Q E s := by
  refine callType_new F.called_zip (by decide) (F.typeCall_zip_2 _ _) (F.newCall_zip_2 _ _) (fun o => F.args_object_init_3 o _ _) F.entry_zip_new (meets_zg b c l m xs ys) ⟨hl, hm, ?_⟩
  have n1 : (zh1 b s.heap l).objs.size = s.heap.objs.size + 1 := Heap.size_push ..
  have n2 : (zh2 b c s.heap l m).objs.size = s.heap.objs.size + 2 := (Heap.size_push ..).trans (congrArg (· + 1) n1)
  have n3 : (zh3 b c s.heap l m).objs.size = s.heap.objs.size + 3 := (Heap.size_push ..).trans (congrArg (· + 1) n2)
  have n4 : (zh4 b c s.heap l m).objs.size = s.heap.objs.size + 4 := (Heap.size_push ..).trans (congrArg (· + 1) n3)
  have up {g : Heap} {o : Obj} {a : Addr} {t : Obj} (e : g.get? a = some t) : (g.push o).get? a = some t := Heap.get?_push_of_some _ e
  have e5 : (zh5 b c s.heap l m).get? (zh4 b c s.heap l m).objs.size = some _ := Heap.get?_push_size _ rfl
  have e4 : (zh5 b c s.heap l m).get? (zh3 b c s.heap l m).objs.size = some _ := up (Heap.get?_push_size _ rfl)
  have e3 : (zh5 b c s.heap l m).get? (zh2 b c s.heap l m).objs.size = some _ := up (up (Heap.get?_push_size _ rfl))
  have e2 : (zh5 b c s.heap l m).get? (zh1 b s.heap l).objs.size = some (ob1 c m) := up (up (up (Heap.get?_push_size _ (by cases c <;> rfl))))
  have e1 : (zh5 b c s.heap l m).get? s.heap.objs.size = some (ob1 b l) := up (up (up (up (Heap.get?_push_size _ (by cases b <;> rfl)))))
  show _ ∧ _
  rw [n2, n3, n4] at e5
  rw [n1, n2] at e3
  rw [n3] at e4
  rw [n1] at e2
  rw [n4]
  exact ⟨⟨_, e5, rfl⟩, h _ ⟨e5, e3, e4, itg_ob1 e1, itg_ob1 e2⟩ fun a t q => up (up (up (up (up q))))⟩
theorem next_zg {b c : Bool} {z p o i j l m : Addr} {n k : Nat} {xs ys : Array Value} {x y u v : Value} {Q : Option Value → Shared → Prop} (D : ZipApart z p o i j l m) (Z : Zg b c s.heap z p o i j l m n k u v)
    (ql : Sqg b s.heap l xs) (qm : Sqg c s.heap m ys) (hx : xs[n]? = some x) (hy : ys[k]? = some y)
    (hQ : ∀ g, IsZip g z p o (rawInt s.heap.objs.size) → IsPair g o x y → Itg b g i l (n + 1) → Itg c g j m (k + 1) → IsPair g s.heap.objs.size x y → g.objs.size = s.heap.objs.size + 1 →
      (∀ a t, a ≠ z → a ≠ o → a ≠ i → a ≠ j → s.heap.get? a = some t → g.get? a = some t) → Q (some (.ref s.heap.objs.size)) { s with heap := g }) :
    wpAny (model prog w) A (pyNext (.ref z)) Q E s := by
  have ty : s.TypeIs (.ref z) "zip" := ⟨_, Z.z, rfl⟩
  unfold pyNext
  refine wpAny_bind (wpAny_attempt (wpAny_callSpecial?_slot (name := Str.ofString "__next__") ty F.slot_zip_next ?_))
  exact wpAny_call_entry F.slot_zip_next ty F.entry_zip_next (zg_item D Z ql qm hx hy fun g a1 a2 a3 a4 a5 a6 a7 => wpAny_pure (hQ g a1 a2 a3 a4 a5 a6 a7)) (F.args_zip_next_1 _)
theorem stop_zg {b c : Bool} {z p o i j l m : Addr} {n k : Nat} {xs ys : Array Value} {u v : Value} {Q : Option Value → Shared → Prop} (hh : A.handled = none) (D : ZipApart z p o i j l m) (Z : Zg b c s.heap z p o i j l m n k u v)
    (ql : Sqg b s.heap l xs) (qm : Sqg c s.heap m ys) (hend : xs[n]? = none ∨ ys[k]? = none)
    (hQ : ∀ g, (∀ a t, a ≠ z → a ≠ o → a ≠ i → a ≠ j → s.heap.get? a = some t → g.get? a = some t) → Q none { s with heap := g }) : wpAny (model prog w) A (pyNext (.ref z)) Q E s := by
  have ty : s.TypeIs (.ref z) "zip" := ⟨_, Z.z, rfl⟩
  unfold pyNext
  refine wpAny_bind (wpAny_attempt (wpAny_callSpecial?_slot (name := Str.ofString "__next__") ty F.slot_zip_next ?_))
  refine wpAny_call_entry F.slot_zip_next ty F.entry_zip_next (zg_end hh D Z ql qm hend fun g e hk he => ?_) (F.args_zip_next_1 _)
  obtain ⟨t, h1, h2⟩ := he
  exact wpAny_bind (wpAny_isInstance (T := "StopIteration") (b := true) ⟨t, h1, h2⟩ isSubtype_stop (wpAny_pure (hQ _ hk)))
end
/-! at the level of reading -/
def SqG (b : Bool) (K : PySem.W.Frag) (H : Hp) (a : Addr) (xs : List V) : Prop := match b with
  | true => SqT K H a xs
  | false => SqL K H a xs
section
variable {X : Cx} {pins : List (Addr × Obj)} {σ : L2.St} {H : Hp} {s : Shared} {a : Addr} {xs ys : List V} {b : Bool}
theorem sqg_raw (I : Inv X pins σ H s) (h : SqG b X.K H a xs) : ∃ its : List Value, Vals xs its ∧ Sqg b s.heap a its.toArray := by
  cases b
  · obtain ⟨its, r, p, _⟩ := I.list h
    exact ⟨its, r, p.isList⟩
  · obtain ⟨its, r, p, _⟩ := I.tuple h
    exact ⟨its, r, p⟩
theorem sqg_inj (I : Inv X pins σ H s) (h : SqG b X.K H a xs) (k : SqG b X.K H a ys) : xs = ys := by
  cases b
  · exact I.list_inj h k
  · exact I.tuple_inj h k
end
/-- the rows at l and m, as they stand at each turn -/
def Itzg (b c : Bool) (K : PySem.W.Frag) (l m : Addr) : L2.It where
  go i H := ∃ (xs ys : List V) (x y : V), SqG b K H l xs ∧ SqG c K H m ys ∧ xs[i]? = some x ∧ ys[i]? = some y
  yld i H v H' := ∃ (t : Addr) (x y : V), v = .ref t ∧ H t = none ∧ H' = upd H t (.tup [x, y]) ∧ (∀ xs, SqG b K H l xs → xs[i]? = some x) ∧ ∀ ys, SqG c K H m ys → ys[i]? = some y
  stop i H := ∃ xs ys : List V, SqG b K H l xs ∧ SqG c K H m ys ∧ (xs.length ≤ i ∨ ys.length ≤ i)
theorem turn_zg {P : Program} {w : World} {K : PySem.W.Frag} {elts : List Expr} {kk : Nat} {tpos : Pos} {b c : Bool} {l m z p o i1 i2 : Addr} (D : ZipApart z p o i1 i2 l m) :
    Turn P w K (.Tuple elts kk tpos) (Itzg b c K l m) [z, p, o, i1, i2] z (fun i h => ∃ u v, Zg b c h z p o i1 i2 l m i i u v) := by
  have five : ∀ {a : Addr}, a ∈ [z, p, o, i1, i2] → a = z ∨ a = p ∨ a = o ∨ a = i1 ∨ a = i2 := fun {a} h => by simpa using h
  refine ⟨by simp, fun i h st a ha => ?_, fun i h g st k => ?_, ?_, ?_, fun A i s Q E st h => ?_⟩
  · obtain ⟨u, v, Z⟩ := st
    rcases five ha with q | q | q | q | q <;> subst q
    · exact ⟨_, Z.z, nofun⟩
    · exact ⟨_, Z.p, nofun⟩
    · exact ⟨_, Z.o, nofun⟩
    · exact Z.i.obj
    · exact Z.j.obj
  · obtain ⟨u, v, Z⟩ := st
    exact ⟨u, v, k z (by simp) _ Z.z, k p (by simp) _ Z.p, k o (by simp) _ Z.o, Z.i.to fun t q => k i1 (by simp) t q, Z.j.to fun t q => k i2 (by simp) t q⟩
  · intro X hP hw hK hc i pins s σ H E I hf st hg
    subst hP hw hK
    obtain ⟨u, v, Z⟩ := st
    obtain ⟨xs, ys, x, y, q1, q2, hx, hy⟩ := hg
    obtain ⟨as, ra, pa⟩ := sqg_raw I q1
    obtain ⟨bs, rb, pb⟩ := sqg_raw I q2
    obtain ⟨e1, he1, re1⟩ := ra.get hx
    obtain ⟨e2, he2, re2⟩ := rb.get hy
    have zlt : z < s.heap.objs.size := Heap.lt_size Z.z
    refine next_zg D Z pa pb (x := e1) (y := e2) (by simpa using he1) (by simpa using he2) fun g gz go gi gj gt gs gk => ⟨_, rfl, wpAny_letOwnedTupleGo_zip (s := { s with heap := g }) gz fun g' gz' sb => ?_⟩
    have new : ObjOk X.prog X.w (upd H s.heap.objs.size (.tup [x, y])) g' s.heap.objs.size (.tup [x, y]) :=
      ⟨by show 2 ≤ sizeLine; decide, [e1, e2], .cons re1 (.cons re2 .nil), _, (sb.2 _ (Nat.ne_of_gt zlt)).trans gt, rfl, _, rfl⟩
    have old : ∀ a t, a ∉ [z, p, o, i1, i2] → s.heap.get? a = some t → g'.get? a = some t := fun a t na q => by
      have nz : a ≠ z := fun e => na (by simp [e])
      exact (sb.2 a nz).trans (gk a t nz (fun e => na (by simp [e])) (fun e => na (by simp [e])) (fun e => na (by simp [e])) q)
    refine ⟨.ref s.heap.objs.size, _, I.turnedNew (t' := s.toks) (ch := [z, p, o, i1, i2]) old hf (Nat.le_refl _) new, rfl,
      ⟨_, x, y, rfl, I.hok.fresh (Nat.le_refl _), rfl, fun r hr => by rw [sqg_inj I hr q1]; exact hx, fun r hr => by rw [sqg_inj I hr q2]; exact hy⟩, ⟨e1, e2, gz', ?_, ?_, ?_, ?_⟩, fun a ha => ?_⟩
    · exact (sb.2 _ D.TIz).trans (gk _ _ D.TIz D.TITO D.TIi1 D.TIi2 Z.p)
    · exact (sb.2 _ D.TOz).trans go
    · exact gi.to fun t q => (sb.2 _ D.i1z).trans q
    · exact gj.to fun t q => (sb.2 _ D.i2z).trans q
    · have lt : a < s.heap.objs.size := by
        obtain ⟨t, h1, _⟩ := Z.i.obj
        obtain ⟨t', h2, _⟩ := Z.j.obj
        rcases five ha with q | q | q | q | q <;> subst q
        · exact zlt
        · exact Heap.lt_size Z.p
        · exact Heap.lt_size Z.o
        · exact Heap.lt_size h1
        · exact Heap.lt_size h2
      rw [upd_ne (Nat.ne_of_lt lt)]
      exact (hf a ha).1
  · intro X hP hw hK hc i pins s σ H E I hf st hg
    subst hP hw hK
    obtain ⟨u, v, Z⟩ := st
    obtain ⟨xs, ys, q1, q2, hend⟩ := hg
    obtain ⟨as, ra, pa⟩ := sqg_raw I q1
    obtain ⟨bs, rb, pb⟩ := sqg_raw I q2
    have n1 := ra.length
    have n2 := rb.length
    have he : as.toArray[i]? = none ∨ bs.toArray[i]? = none := hend.imp (fun q => by simp; omega) fun q => by simp; omega
    refine stop_zg (I.ok.hd hc) D Z pa pb he fun g gk => ⟨rfl, I.turnedL (t' := s.toks) (ch := [z, p, o, i1, i2]) (fun a t na q => ?_) hf⟩
    exact gk a t (fun e => na (by simp [e])) (fun e => na (by simp [e])) (fun e => na (by simp [e])) (fun e => na (by simp [e])) q
  · obtain ⟨u, v, Z⟩ := st
    exact wpAny_pyIter_zip Z.z h
def iZipG (K : PySem.W.Frag) (ta : TA) : TI := fun σ H R => ta σ H fun vs H1 => ∃ (b c : Bool) (l m : Addr) (xs ys : List V), vs = [.ref l, .ref m] ∧ SqG b K H1 l xs ∧ SqG c K H1 m ys ∧ R (Itzg b c K l m) H1
theorem pi_zipG {X : Cx} {e e2 : Expr} {ta : TA} {p pos tpos : Pos} {elts : List Expr} {kk : Nat} (hg : Gl X "zip") (hm : X.mg "zip" = none) (ha : PA X [e, e2] ta)
    (hs : starEach [e, e2] X.env = (false, eval e X.env) :: starEach [e2] X.env := by rfl) (hpl : (backTo pos (starEach [e2] X.env)).any (·.1) = false := by rfl) :
    PI X (.Tuple elts kk tpos) (.Call (.Name "zip" p) [e, e2] [] pos) (iZipG X.K ta) := by
  refine ⟨fun pins s σ H R I h => ?_⟩
  refine Call_ (ld_blt I hg hm PyProof.Rows.boot_zip (PyProof.Rows.callWith_type1 (thn (ha.run pos pins s σ H _ I h) fun us s1 ⟨vs, H1, I1, r1, q1⟩ => ?_) hs hpl))
  obtain ⟨b, c, l, m, xs, ys, ex, h1, h2, q⟩ := q1
  subst ex
  obtain ⟨as, ra, pa⟩ := sqg_raw I1 h1
  obtain ⟨bs, rb, pb⟩ := sqg_raw I1 h2
  cases r1 with
  | cons r rr =>
    cases rr with
    | cons r' rr =>
      cases rr
      cases r
      cases r'
      refine call_zg pa pb fun g Z gk => wpAny_pyIter_zip Z.z ?_
      have I2 : Inv X pins σ H1 { s1 with heap := g } := I1.kept (t' := s1.toks) gk
      refine ⟨_, [s1.heap.objs.size + 4, s1.heap.objs.size + 2, s1.heap.objs.size + 3, s1.heap.objs.size, s1.heap.objs.size + 1], _, _, H1, rfl, I2, turn_zg (PySem.W.ktu_apart s1.heap.objs.size l m pa.lt pb.lt), ⟨_, _, Z⟩, fun a ha => ?_, q⟩
      have le : s1.heap.objs.size ≤ a := by
        have e' : a = s1.heap.objs.size + 4 ∨ a = s1.heap.objs.size + 2 ∨ a = s1.heap.objs.size + 3 ∨ a = s1.heap.objs.size ∨ a = s1.heap.objs.size + 1 := by simpa using ha
        rcases e' with q | q | q | q | q <;> rw [q] <;> simp
      exact I1.fpOk le (I1.hok.fresh le)
end Tv

namespace Tv
open PySem L2
section
variable {E : En} {xb : XB} {w w0 w1 w2 : Wd} {L0 L L' l Lk Lm : List Ow} {st st0 st1 st2 : Sto} {H H1 H2 B B' : Hp} {env env1 env' : Env} {σ σ1 σ' : L2.St} {v : V} {s : SV} {vs : List V} {ss : List SV} {j i : Nat} {p q q' : Addr} {P : Prog} {n : Nat} {W : WX} {X : Cx} {a : Fs} {b c : Bool}
theorem Vw.more {t : Bool} {xs : List D} (h : ∀ o ∈ Lk, o ∈ Lm) (k : Vw E Lk t q xs a) : Vw E Lm t q xs a := by
  obtain ⟨vs, h1, h2⟩ := k
  refine ⟨vs, h1, ?_⟩
  rcases h2 with ⟨e, ⟨h2, h3⟩ | h2⟩ | h2
  · refine .inl ⟨e, .inl ⟨h2, ?_⟩⟩
    rcases h3 with ⟨o, k1, k2⟩ | ⟨j, x, k1, k2⟩ | h3
    · exact .inl ⟨o, h o k1, k2⟩
    · exact .inr (.inl ⟨j, x, h _ k1, k2⟩)
    · exact .inr (.inr h3)
  · exact .inl ⟨e, .inr h2⟩
  · exact .inr h2
theorem Vw.sqg {xs : List D} (h : Vw E Lk b q xs a) : ∃ vs, RvA E a.w.ad a.H vs xs ∧ SqG b E.K a.H q vs := by
  cases b
  · exact h.lst
  · exact h.tup
theorem its_zip {xs ys : List D} : ItS E (Itzg b c E.K q q') ((xs.zip ys).map fun p => .tup [p.1, p.2]) (fun s => Vw E Lk b q xs s ∧ Vw E Lk c q' ys s) := by
  refine ⟨fun L w env st σ H i x S h e => ?_, fun s i h hi => ?_⟩
  · obtain ⟨v1, v2⟩ := h
    obtain ⟨us, h1, h2⟩ := v1.sqg
    obtain ⟨ws, k1, k2⟩ := v2.sqg
    rw [List.getElem?_map] at e
    cases ez : (xs.zip ys)[i]? with
    | none => rw [ez] at e; cases e
    | some z =>
      rw [ez] at e
      have e' : D.tup [z.1, z.2] = x := Option.some.inj e
      subst e'
      rw [List.getElem?_zip_eq_some] at ez
      obtain ⟨u, h3, h4⟩ := h1.get ez.1
      obtain ⟨u', k3, k4⟩ := k1.get ez.2
      refine ⟨⟨us, ws, u, u', h2, k2, h3, k3⟩, fun y H' hy => ?_⟩
      obtain ⟨t, y1, y2, rfl, ht, rfl, f1, f2⟩ := hy
      have e1 := f1 us h2
      have e2 := f2 ws k2
      rw [h3] at e1
      rw [k3] at e2
      cases e1
      cases e2
      have tm : Tm E.K H (upd H t (.tup [u, u'])) := tm_lay ht
      exact ⟨S.lay ht, Fr.lay S ht, .tup (.inl upd_same) (.cons (h4.mono (List.prefix_refl _) tm) (.cons (k4.mono (List.prefix_refl _) tm) .nil))⟩
  · obtain ⟨v1, v2⟩ := h
    obtain ⟨us, h1, h2⟩ := v1.sqg
    obtain ⟨ws, k1, k2⟩ := v2.sqg
    refine ⟨us, ws, h2, k2, ?_⟩
    rw [h1.length, k1.length]
    rw [List.length_map, List.length_zip] at hi
    omega
theorem si_zip {ta tb : TE} {a b : Ex} (ha : SE P n E xb W ta a) (hb : SE P n E xb W tb b) : SIt P n E xb W (iZipG E.K (tCons ta (tCons tb tNil))) (.zip a b) := by
  intro L0 L w env st σ H h0 S R r h2 Q hQ
  show ta σ H fun x H1 => tb σ H1 fun y H2 => ∃ (b c : Bool) (l m : Addr) (xs ys : List V), [x, y] = [.ref l, .ref m] ∧ SqG b E.K H2 l xs ∧ SqG c E.K H2 m ys ∧ Q (Itzg b c E.K l m) H2
  refine sg_go ha h0 S R h2 hQ fun u st1 w1 H1 x S1 R1 f1 v1 h3 hQ => ?_
  cases e0 : itRow u st1 with
  | none => rw [e0] at h3; cases h3
  | some o =>
    rw [e0] at h3
    unfold itRow at e0
    split at e0
    · rename_i t xs e1
      cases ok_inj e0
      have h3' : rb (ev ((P.cl (P.call n) L).lk (stayOf u)) b env st1) (fun w st => rb (itRow w st) fun k st => ok (⟨(xs.zip k.xs).map fun p => .tup [p.1, p.2], stayOf u ++ k.locks⟩ : Ito) st) = some r := h3
      have hl1 := stay_live v1 e1
      refine sg_golk hb h0 S1 R1 hl1 h3' hQ fun u2 st2 w2 H2 y S2 R2 f2 v2 h4 hQ => ?_
      cases e2 : itRow u2 st2 with
      | none => rw [e2] at h4; cases h4
      | some o2 =>
        rw [e2] at h4
        unfold itRow at e2
        split at e2
        · rename_i t2 ys e3
          cases ok_inj e2
          cases ok_inj (show ok (⟨(xs.zip ys).map fun p => .tup [p.1, p.2], stayOf u ++ stayOf u2⟩ : Ito) st2 = some r from h4)
          obtain ⟨q, rfl, k1⟩ := v1.vw S1 (sod_base R) e1
          obtain ⟨q2, rfl, k2⟩ := v2.vw S2 (sod_base R1) e3
          have hin : ∀ o ∈ stayOf u ++ L0, o ∈ stayOf u ++ L := fun o z => (List.mem_append.mp z).elim (fun z => List.mem_append.mpr (.inl z)) fun z => List.mem_append.mpr (.inr (h0 o z))
          have k3 := k1.stp (b := ⟨w2, env, st2, σ, H2⟩) ((Stp.of (R1.lk fun o z => List.mem_append.mpr (.inr z)) f2).less hin)
          have k4 : Vw E ((stayOf u ++ stayOf u2) ++ L0) t q xs ⟨w2, env, st2, σ, H2⟩ := k3.more fun o z => by
            rw [List.append_assoc]
            exact (List.mem_append.mp z).elim (fun z => List.mem_append.mpr (.inl z)) fun z => List.mem_append.mpr (.inr (List.mem_append.mpr (.inr z)))
          have k5 : Vw E ((stayOf u ++ stayOf u2) ++ L0) t2 q2 ys ⟨w2, env, st2, σ, H2⟩ := k2.more fun o z => by
            rw [List.append_assoc]
            exact List.mem_append.mpr (.inr z)
          obtain ⟨us, _, g1⟩ := k4.sqg
          obtain ⟨ws, _, g2⟩ := k5.sqg
          refine ⟨t, t2, q, q2, us, ws, rfl, g1, g2, okr_now hQ S2 ⟨fun o ho st' k => ?_, _, ⟨k4, k5⟩, fun s s' f z => ⟨z.1.stp f, z.2.stp f⟩, its_zip⟩⟩
          rcases List.mem_append.mp ho with ho | ho
          · exact (f2.lk o (List.mem_append.mpr (.inl ho)) (hl1 o ho st' k)).1
          · exact stay_live v2 e3 o ho st' k
        · cases e2
    · cases e0
end
end Tv

/-! len({e for t in it if ..}), the items tuples of ints -/
namespace Tv
open PySem L2 PySem.Spec PyProof.Rows
section
variable {X : Cx}
/-- a tuple of ints goes into a set of such -/
theorem add_tuple {pins : List (Addr × Obj)} {σ : L2.St} {H : Hp} {s : Shared} {E : Value → Shared → Prop} {D x : Addr} {k : List Int} {M : List (Addr × List Int)} {Q : Value → Shared → Prop} (hu : X.A.units + 64 < cLine) (I : Inv X pins σ H s)
    (hD : H D = some (SetTO X.prog X.w D M)) (hx : SqT X.K H x (k.map V.int)) (hM : ∀ p ∈ M, SqT X.K H p.1 (p.2.map V.int)) (few : M.length + 1 < 64)
    (h : ∀ s' M', (k ∈ M.map (·.2) → M' = M) → (k ∉ M.map (·.2) → M'.Perm ((x, k) :: M)) → Inv X pins σ (upd H D (SetTO X.prog X.w D M')) s' → Q .none s') : wpAny (model X.prog X.w) X.A (call (.builtin "set.add") [.ref D, .ref x]) Q E s := by
  have R0 : SetT0 X.prog X.w s.heap D M := (I.hok D _ hD).1
  obtain ⟨es, ep, t, R⟩ := R0.full fun p hp => I.isT (hM p hp)
  have hT : s.TypeIs (.ref D) "set" := by
    obtain ⟨o, h1, h2, _⟩ := R.ob
    exact ⟨o, h1, h2.1⟩
  have it : IsT X.prog X.w s.heap k x := I.isT hx
  refine wpAny_call_entry F.slot_set_add hT F.entry_set_add ?_ (F.args_set_add_2 _ _)
  unfold Builtin.«set.add» Builtin.Frozenset.oneOther
  simp only [List.isEmpty_nil, bind_assoc]
  unfold Builtin.Frozenset.addrOf setAdd
  apply wpAny_bind
  apply wpAny_pure
  try dsimp only
  apply wpAny_bind
  apply wpAny_pure
  try dsimp only
  apply wpAny_bind
  apply wpAny_holding
  apply wpAny_bind
  refine wpAny_pyHash_tuple (by show X.A.in1.units < cLine; rw [Around.in1_units]; omega) it ?_
  refine add_at (s := { s with toks := s.toks + (k.length + 1) }) R it (by show X.A.in1.units < cLine; rw [Around.in1_units]; omega) few fun b h' M' es' ep' t' sb R' c1 c2 => ?_
  show wpAny _ _ (ret Value.none) _ _ _
  refine wpAny_pure ⟨_, rfl, h _ M' c1 c2 ?_⟩
  have he : ∃ u, h'.get? D = some u := by
    obtain ⟨o, h1, _⟩ := R'.ob
    exact ⟨o, h1⟩
  exact I.write (e := D) (t' := s.toks + (k.length + 1)) (by rw [hD]; trivial) (.inl rfl) (fun b u hb hu => (sb.2 b hb).trans hu) he (setTO_new R'.t0)
/-- the set that the turns make; at the end Q of it -/
def tSt (P : Program) (w : World) (K : PySem.W.Frag) (wi : TI) (g : TG) (tt : TT) (te : TE) (vs : List Nat) : L2.St → Hp → (Addr → List (Addr × List Int) → Hp → Prop) → Prop := fun σ H Q => wi σ H fun J H1 => ∀ D, H1 D = none → ∃ W : Nat → Nat → Hp → Prop, (∃ m, W 0 m (upd H1 D (SetTO P w D []))) ∧ ∀ i m H, W i m H →
  (J.stop i H ∧ ∃ M, H D = some (SetTO P w D M) ∧ (∀ p ∈ M, SqT K H p.1 (p.2.map V.int)) ∧ Q D M H) ∨ (J.go i H ∧ ∃ Nx : Hp → Prop, (∀ H', Nx H' → ∃ m', m' < m ∧ W (i + 1) m' H') ∧ ∀ x H', J.yld i H x H' → g x (wipe σ vs) H' fun σ2 H2 => wipe σ2 vs = wipe σ vs ∧ tt σ2 H2 fun b H3 =>
    if b = true then te σ2 H3 fun y H4 => ∃ (a : Addr) (k : List Int) (M : List (Addr × List Int)), y = .ref a ∧ SqT K H4 a (k.map V.int) ∧ H4 D = some (SetTO P w D M) ∧ (∀ p ∈ M, SqT K H4 p.1 (p.2.map V.int)) ∧ M.length + 1 < 64 ∧
      ∀ M', (k ∈ M.map (·.2) → M' = M) → (k ∉ M.map (·.2) → M'.Perm ((a, k) :: M)) → Nx (upd H4 D (SetTO P w D M')) else Nx H3)
def tLs (P : Program) (w : World) (K : PySem.W.Frag) (wi : TI) (g : TG) (tt : TT) (te : TE) (vs : List Nat) : TE := fun σ H Q => tSt P w K wi g tt te vs σ H fun _ M H' => Q (.int M.length) H'
@[reducible] def emptySet (w : World) : Obj := { cls := .type "set", dict := none, data := .set #[] 0 (.fresh 0 0 (!w.params.followText "set-order")) }
theorem run_sc {pins : List (Addr × Obj)} {s : Shared} {σ : L2.St} {H : Hp} {elt tg iter : Expr} {ifs : List Expr} {scope : Scope} {own : List (PySem.Str × Nat)} {pos : Pos} {wi : TI} {g : TG} {tt : TT} {te : TE} {Q : Addr → List (Addr × List Int) → Hp → Prop} {F : Value → Shared → Prop}
    (hc : X.calm = true) (hu : X.A.units + 64 < cLine) (hN : X.N.Nodup) (I : Inv X pins σ H s) (hi : PI X tg iter wi) (ok : BlkOk X.N X.env.scope scope own)
    (hg : ∀ (s : Shared) (H : Hp) (C : Addr) (cl : List (PySem.Str × Addr)) (fp : List Addr), PG (X.blk s H scope (compEnvC scope cl C X.env) fp) tg g)
    (ht : ∀ (s : Shared) (H : Hp) (C : Addr) (cl : List (PySem.Str × Addr)) (fp : List Addr), PTs (X.blk s H scope (compEnvC scope cl C X.env) fp) ifs tt)
    (he : ∀ (s : Shared) (H : Hp) (C : Addr) (cl : List (PySem.Str × Addr)) (fp : List Addr), PE (X.blk s H scope (compEnvC scope cl C X.env) fp) elt te) (hs : ∀ x, foldedSetIterable iter X.env x = pure x)
    (h : tSt X.prog X.w X.K wi g tt te (own.map (·.2)) σ H Q) (hF : ∀ D M H' s', Inv X pins σ H' s' → H' D = some (SetTO X.prog X.w D M) → (∀ p ∈ M, SqT X.K H' p.1 (p.2.map V.int)) → Q D M H' → F (.ref D) s') :
    wpAny (model X.prog X.w) X.A (eval (.SetComp elt [⟨tg, iter, ifs, 0⟩] scope pos) X.env) F X.xe s := by
  rw [PpSet.eval_SetComp]
  have cells : ∀ y ∈ scope.names, y.2 = .free → ∃ c, X.env.cells.lookup y.1 = some c := fun y hy e => (ok.free y hy e).elim (fun k => I.ok.has _ (.inl k)) fun k => I.ok.has _ (.inr k)
  refine wpAny_comprehension_free (use := none) rfl hs (closure_ok cells) ok.kind (fun y hy e => by rw [ok.uniq y hy, e]) (thn (hi.run pins s σ H _ I h) fun xv s1 hx => thn hx fun itv s2 ⟨it, fp, tn, J, H2, e, I2, T, st2, f2, q⟩ => ?_)
  subst e
  refine PpSet.newSet_ok (newEnv_comp ?_)
  generalize hD : s2.heap.objs.size = D
  obtain ⟨W, ⟨m0, w0⟩, turn⟩ := q D (I2.hok.fresh (Nat.le_of_eq hD))
  -- where the set is new
  generalize es3 : ({ s2 with heap := s2.heap.push (emptySet X.w) } : Shared) = s3
  have eh3 : s3.heap = s2.heap.push (emptySet X.w) := by rw [← es3]
  have I3 : Inv X pins σ (upd H2 D (SetTO X.prog X.w D [])) s3 := by
    subst es3
    refine I2.laid (t' := s2.toks) (fun b o e => Heap.get?_push_of_some _ e) (Nat.le_of_eq hD) (setTO_new (SetTR.t0 (setTR_fresh ?_)))
    rw [← hD]
    exact Heap.get?_push_size _ rfl
  have low : ∀ b ∈ fp, b < s2.heap.objs.size := fun b hb => by
    obtain ⟨o, e, _⟩ := T.obj _ _ st2 b hb
    exact Heap.lt_size e
  have f3 : ∀ b ∈ fp, FpOk X pins (upd H2 D (SetTO X.prog X.w D [])) b ∧ b < s3.heap.objs.size := fun b hb =>
    ⟨⟨by rw [upd_ne (by rw [← hD]; exact Nat.ne_of_lt (low b hb))]; exact (f2 b hb).1, (f2 b hb).2⟩, by rw [eh3, Heap.size_push]; exact Nat.lt_succ_of_lt (low b hb)⟩
  have st3 : tn 0 s3.heap := T.keep _ _ _ st2 fun b _ o e => by rw [eh3]; exact Heap.get?_push_of_some _ e
  have I4 := block_start I3 ok hN f3
  have kg := hg s3 (upd H2 D (SetTO X.prog X.w D [])) s3.heap.objs.size (cellsFrom (s3.heap.objs.size + 1) scope.names (cloFrom X.env.cells scope.names [])) fp
  have kt := ht s3 (upd H2 D (SetTO X.prog X.w D [])) s3.heap.objs.size (cellsFrom (s3.heap.objs.size + 1) scope.names (cloFrom X.env.cells scope.names [])) fp
  have ke := he s3 (upd H2 D (SetTO X.prog X.w D [])) s3.heap.objs.size (cellsFrom (s3.heap.objs.size + 1) scope.names (cloFrom X.env.cells scope.names [])) fp
  show codeAny _ _ (.compStart (.SetComp elt [⟨tg, iter, ifs, 0⟩] scope pos) 0 (.ref it) (.ref D) (compEnvC scope (cellsFrom (s3.heap.objs.size + 1) scope.names (cloFrom X.env.cells scope.names [])) s3.heap.objs.size X.env)) (compPost (model X.prog X.w) X.A X.xe none F (.ref D) s3.heap.objs.size) { s3 with heap := pushCells (s3.heap.push { cls := .type "dict", data := .dict #[] }) scope.names }
  have no3 : ∀ b ∈ fp, (upd H2 D (SetTO X.prog X.w D [])) b = none := fun b hb => (f3 b hb).1.1
  generalize ece : compEnvC scope (cellsFrom (s3.heap.objs.size + 1) scope.names (cloFrom X.env.cells scope.names [])) s3.heap.objs.size X.env = ce at I4 kg kt ke ⊢
  have loc : ce.locals = s3.heap.objs.size := by rw [← ece]; rfl
  generalize eH3 : upd H2 D (SetTO X.prog X.w D []) = H3 at I3 I4 kg kt ke w0 no3 f3
  generalize es4 : ({ s3 with heap := pushCells (s3.heap.push { cls := .type "dict", data := .dict #[] }) scope.names } : Shared) = s4 at I4 ⊢
  have st4 : tn 0 s4.heap := T.keep _ _ _ st3 fun b _ o e => by rw [← es4]; exact pushCells_keeps _ _ _ _ (Heap.get?_push_of_some _ e)
  have fpk : ∀ {τ : L2.St} {J' : Hp} {t : Shared}, Inv (X.blk s3 H3 scope ce fp) [] τ J' t → (∀ b ∈ fp, J' b = none) → ∀ b ∈ fp, FpOk (X.blk s3 H3 scope ce fp) [] J' b := fun I' hn b hb =>
    ⟨hn b hb, (I'.ok.exf b hb).1, I'.ok.exfs b hb, .inl hb, fun x c e => (I'.ok.exf b hb).2 x c e, fun p hp => absurd (show p ∈ ([] : List (Addr × Obj)) ++ [] from hp) (by simp)⟩
  have loop : codeAny (model X.prog X.w) X.A (.compLoop (.SetComp elt [⟨tg, iter, ifs, 0⟩] scope pos) 0 (.ref it) (.ref D) ce) (compPost (model X.prog X.w) X.A X.xe none F (.ref D) s3.heap.objs.size) s4 := by
    refine PpSet.compLoopS_any (fun n t => ∃ i J', Inv (X.blk s3 H3 scope ce fp) [] (wipe σ (own.map (·.2))) J' t ∧ tn i t.heap ∧ (∀ b ∈ fp, J' b = none) ∧ W i n J') ?_ m0 ⟨0, H3, I4, st4, no3, w0⟩
    rintro n s5 ⟨i, H5, I5, st5, no5, w5⟩
    rcases turn i n H5 w5 with ⟨stop, M, hM, tM, qq⟩ | ⟨go, Nx, hNx, step⟩
    · refine thnF (T.done (X.blk s3 H3 scope ce fp) rfl rfl rfl hc i [] s5 _ H5 (fun _ _ => False) I5 (fpk I5 no5) st5 stop) fun r s6 ⟨hr, I6⟩ => ?_
      subst hr
      have I7 : Inv X pins σ H5 s6 := I3.call' (ch := fp) I6.os I6.base I6.hok I6.bare fun b hb =>
        have k := (f3 b hb).1.2
        ⟨k.2.2.1, k.1, k.2.2.2.1, k.2.2.2.2⟩
      have free : H5 s3.heap.objs.size = none := loc ▸ (I6.free : H5 ce.locals = none)
      obtain ⟨m, hn, _⟩ := I6.loc
      have hn' : s6.heap.Ns s3.heap.objs.size m := loc ▸ (hn : s6.heap.Ns ce.locals m)
      obtain ⟨k0, k1, k2, k3, k4, k5⟩ := I3.fpOk (Nat.le_refl _) free
      exact ⟨m, hn', fun h'' sb => hF D M H5 _ (I7.turned (t' := s6.toks) (fun b o hb e => (sb.2 b hb).trans e) k0 k1 k3 k4 k5) hM tM qq⟩
    · refine thnF (T.item (X.blk s3 H3 scope ce fp) rfl rfl rfl hc i [] s5 _ H5 (fun _ _ => False) I5 (fpk I5 no5) st5 go) fun r s6 ⟨u, hr, h6⟩ => ?_
      subst hr
      refine thnF h6 fun _ s7 ⟨x, H7, I7, r7, y7, st7, no7⟩ => ?_
      refine thnF (kg.run _ s7 _ H7 x u _ (I7.pinned (fpk I7 no7) (T.obj _ _ st7)) r7 (step x H7 y7)) fun _ s8 ⟨σ8, H8, I8, ew, q8⟩ => ?_
      refine thnF (kt.run _ s8 σ8 H8 _ I8 q8) fun b s9 ⟨H9, I9, q9⟩ => ?_
      have fin : ∀ {t : Shared} {J' : Hp}, Inv (X.blk s3 H3 scope ce fp) ([] ++ pinsAt fp s7.heap) σ8 J' t → Nx J' → ∃ m, m < n ∧ ∃ i J', Inv (X.blk s3 H3 scope ce fp) [] (wipe σ (own.map (·.2))) J' t ∧ tn i t.heap ∧ (∀ b ∈ fp, J' b = none) ∧ W i m J' := fun {t J'} I' nx => by
        obtain ⟨m', hm, w'⟩ := hNx J' nx
        have pin : ∀ b ∈ fp, ∀ o, s7.heap.get? b = some o → t.heap.get? b = some o ∧ J' b = none := fun b hb o e =>
          have z := I'.pin (b, o) (List.mem_append_right _ (List.mem_append_right _ (mem_pinsAt hb e)))
          ⟨z.1, z.2.1⟩
        refine ⟨m', hm, i + 1, J', (I'.unpinned (pins := [])).weak (by rw [← ew, wipe_length]) (fun j v e => ?_), T.keep _ _ _ st7 fun b hb o e => (pin b hb o e).1, fun b hb => ?_, w'⟩
        · rw [← ew] at e
          exact (wipe_some e).1
        · obtain ⟨o, e, _⟩ := T.obj _ _ st7 b hb
          exact (pin b hb o e).2
      cases b with
      | false =>
        simp only [Bool.false_eq_true, if_false] at q9 ⊢
        exact fin I9 q9
      | true =>
        simp only [if_true] at q9 ⊢
        refine thnF (ke.run _ s9 σ8 H9 _ I9 q9) fun z s10 ⟨yv, H10, I10, r10, a, k, M, ey, ta, hM, tM, few, nx⟩ => ?_
        subst ey
        cases (show z = Value.ref a from r10)
        exact add_tuple (X := X.blk s3 H3 scope ce fp) hu I10 hM ta tM few fun s11 M' c1 c2 I11 => fin I11 (nx M' c1 c2)
  exact PpSet.codeAny_compStart_set loop (T.self X.A 0 _ _ _ st4 loop)
/-- len of it -/
theorem pe_ls {elt tg iter : Expr} {ifs : List Expr} {scope : Scope} {own : List (PySem.Str × Nat)} {p pos pos2 : Pos} {wi : TI} {g : TG} {tt : TT} {te : TE} (hc : X.calm = true) (hu : X.A.units + 64 < cLine) (hN : X.N.Nodup) (hl : Gl X "len") (hm : X.mg "len" = none) (hi : PI X tg iter wi) (ok : BlkOk X.N X.env.scope scope own)
    (hg : ∀ (s : Shared) (H : Hp) (C : Addr) (cl : List (PySem.Str × Addr)) (fp : List Addr), PG (X.blk s H scope (compEnvC scope cl C X.env) fp) tg g)
    (ht : ∀ (s : Shared) (H : Hp) (C : Addr) (cl : List (PySem.Str × Addr)) (fp : List Addr), PTs (X.blk s H scope (compEnvC scope cl C X.env) fp) ifs tt)
    (he : ∀ (s : Shared) (H : Hp) (C : Addr) (cl : List (PySem.Str × Addr)) (fp : List Addr), PE (X.blk s H scope (compEnvC scope cl C X.env) fp) elt te) (hs : ∀ x, foldedSetIterable iter X.env x = pure x := by intro _; rfl) :
    PE X (.Call (.Name "len" p) [.SetComp elt [⟨tg, iter, ifs, 0⟩] scope pos] [] pos2) (tLs X.prog X.w X.K wi g tt te (own.map (·.2))) := by
  refine ⟨fun pins s σ H Q I h => Call_ (ld_blt I hl hm PySem.boot_len (PyProof.Rows.callWith_builtin1 (PyProof.Rows.args_cons ?_ rfl) rfl rfl))⟩
  refine run_sc hc hu hN I hi ok hg ht he hs h fun D M H' s' I' hM tM q => PyProof.Rows.args_nil ?_
  have R0 : SetT0 X.prog X.w s'.heap D M := (I'.hok D _ hM).1
  obtain ⟨es, ep, t, R⟩ := R0.full fun p hp => I'.isT (tM p hp)
  obtain ⟨o, h1, h2, h3⟩ := R.ob
  have few := R.few
  refine call_len_set h1 h2 h3 R.fits (by rw [R.size]; omega) ⟨.int M.length, H', I'.tok _, ⟨_, by rw [R.size]⟩, q⟩
end
end Tv

namespace Tv
open PySem L2
section
variable {E : En} {xb : XB} {w w0 w1 w2 : Wd} {L0 L L' l Lk : List Ow} {st st0 st1 st2 : Sto} {H H1 H2 B B' : Hp} {env env1 env' : Env} {σ σ1 σ' σ2 : L2.St} {v : V} {s : SV} {vs : List V} {ss : List SV} {j i : Nat} {p : Addr} {P : Prog} {n : Nat} {W : WX} {X : Cx} {a b d : Fs} {c : Ss} {q : Addr}
theorem SR.mutN {o u : HO} (S : SR E w L st H) (n : ¬ Owd w st p) (z : ¬ Zad w st H p) (e0 : H p = some u) (nt : ∀ xs, u ≠ .tup xs) : SR E w L st (upd H p o) := by
  have tm : Tm E.K H (upd H p o) := tm_mut e0 nt
  refine ⟨S.len, S.inj, fun k x e => ?_, fun q a h1 h2 h3 => ?_, S.nd⟩
  · obtain ⟨a, e1, h⟩ := S.cell k x e
    refine ⟨a, e1, ?_⟩
    have ha : Owd w st a := ⟨.c k, (List.getElem?_eq_some_iff.mp e).1, e1⟩
    have na : a ≠ p := fun y => n (y ▸ ha)
    cases x with
    | con x => exact CoR.mono (List.prefix_refl _) tm (upd_ne na) h
    | ins C fs =>
      obtain ⟨dx, fv, h1, h2⟩ := h
      refine ⟨dx, fv, (upd_ne na).trans h1, ?_⟩
      refine h2.to (List.prefix_refl _) tm (fun _ => rfl) (fun m f y b' k1 k2 k3 => k3) fun m f t y b' k1 k2 => upd_ne fun y' => ?_
      subst y'
      obtain ⟨u, q1, q2⟩ := h2.getI k1
      rw [k2] at q1
      cases q1
      cases t with
      | true => exact z ⟨k, a, C, fs, _, dx, fv, f, y, m, e, e1, h1, k1, k2⟩
      | false =>
        have e3 : b' = w.fd k f := by cases q2; rfl
        exact n ⟨.f k f, ⟨C, fs, y, e, List.mem_of_getElem? k1⟩, by rw [e3]; rfl⟩
  · obtain ⟨u, e, m⟩ := S.ex q a h1 h2 h3
    have na : a ≠ p := fun y => n (by rw [← y]; exact ⟨q, h1, h3⟩)
    exact ⟨u, (upd_ne na).trans e, m⟩
theorem Fr.mutN {o u : HO} {s0 : Ss} (n : ¬ Owd w st p) (S : SR E w L' st H) (e0 : H p = some u) (nt : ∀ xs, u ≠ .tup xs) (f : Fr E L s0 ⟨w, st, H⟩) (h : s0.H p = none) : Fr E L s0 ⟨w, st, upd H p o⟩ := by
  refine ⟨f.ad, f.tm.tr (tm_mut e0 nt), fun a u e k => (upd_ne (ne_of_none e h)).trans (f.out a u e k), f.new, fun a z => f.newz a (zadU S n z), fun a z => ?_, fun q h1 h2 => ?_⟩
  · have z' : upd H p o a = none := z
    unfold upd at z'
    split at z'
    · cases z'
    · exact f.dom a z'
  · obtain ⟨k1, k2, k3⟩ := f.lk q h1 h2
    refine ⟨k1, k2, fun a e => ?_⟩
    have na : a ≠ p := fun y => n (by rw [← y]; exact ⟨q, k1, k2.trans e⟩)
    exact (upd_ne na).trans (k3 a e)
/-- the keys of the set are the keys met -/
def KsR (E : En) (H : Hp) (M : List (Addr × List Int)) (acc : List (List Int)) : Prop := (M.map (·.2)).Perm acc ∧ ∀ p ∈ M, TuR E H p.1 (p.2.map V.int) (p.2.map D.int)
theorem KsR.mono {M : List (Addr × List Int)} {acc : List (List Int)} (h : KsR E H M acc) (t : Tm E.K H H1) : KsR E H1 M acc := ⟨h.1, fun p hp => (h.2 p hp).mono t⟩
theorem KsR.len {M : List (Addr × List Int)} {acc : List (List Int)} (h : KsR E H M acc) : M.length = acc.length := by
  have := h.1.length_eq
  rw [List.length_map] at this
  exact this
theorem KsR.put {M M' : List (Addr × List Int)} {acc : List (List Int)} {x : Addr} {k : List Int} (h : KsR E H M acc) (t : TuR E H x (k.map V.int) (k.map D.int)) (c1 : k ∈ M.map (·.2) → M' = M) (c2 : k ∉ M.map (·.2) → M'.Perm ((x, k) :: M)) : KsR E H M' (putI acc k) := by
  unfold putI
  by_cases m : k ∈ acc
  · rw [if_pos m]
    rw [c1 (h.1.mem_iff.mpr m)]
    exact h
  · rw [if_neg m]
    have pm := c2 fun z => m (h.1.mem_iff.mp z)
    refine ⟨(pm.map (·.2)).trans ?_, fun p hp => ?_⟩
    · rw [List.map_cons]
      exact (h.1.cons k).trans (List.perm_append_singleton k acc).symm
    · rcases List.mem_cons.mp (pm.mem_iff.mp hp) with e | hp
      · subst e
        exact t
      · exact h.2 p hp
theorem se_ls {Pg : Program} {wd : World} {wi : TI} {g : TG} {tt : TT} {te : TE} {t : Tg} {it : Tv.It} {k : Tx} {e : Ex} {own : List Nat} (hi : SIt P n E xb W wi it) (hg : TgS E g t) (ht : STe P n E xb WF tt k) (he : SE P n E xb WF te e) (ho : own = t.own) :
    SE P n E xb W (tLs Pg wd E.K wi g tt te own) (.lenset t it k e) := by
  subst ho
  intro L0 L w env st σ H h0 S R r h Q hQ
  show wi σ H fun J H1 => ∀ D, H1 D = none → ∃ W : Nat → Nat → Hp → Prop, (∃ m, W 0 m (upd H1 D (SetTO Pg wd D []))) ∧ ∀ i m H, W i m H →
    (J.stop i H ∧ ∃ M, H D = some (SetTO Pg wd D M) ∧ (∀ p ∈ M, SqT E.K H p.1 (p.2.map V.int)) ∧ Q (.int M.length) H) ∨ (J.go i H ∧ ∃ Nx : Hp → Prop, (∀ H', Nx H' → ∃ m', m' < m ∧ W (i + 1) m' H') ∧ ∀ x H', J.yld i H x H' → g x (wipe σ t.own) H' fun σ2 H2 => wipe σ2 t.own = wipe σ t.own ∧ tt σ2 H2 fun b H3 =>
      if b = true then te σ2 H3 fun y H4 => ∃ (a : Addr) (k : List Int) (M : List (Addr × List Int)), y = .ref a ∧ SqT E.K H4 a (k.map V.int) ∧ H4 D = some (SetTO Pg wd D M) ∧ (∀ p ∈ M, SqT E.K H4 p.1 (p.2.map V.int)) ∧ M.length + 1 < 64 ∧
        ∀ M', (k ∈ M.map (·.2) → M' = M) → (k ∉ M.map (·.2) → M'.Perm ((a, k) :: M)) → Nx (upd H4 D (SetTO Pg wd D M')) else Nx H3)
  refine sg_go hi h0 S R h hQ fun j st1 w1 H1 J S1 R1 f1 v1 h2 hQ => fun Da hD => ?_
  clear h
  obtain ⟨hl, Hl, hh, hst, its⟩ := v1
  have h0' : ∀ o ∈ L0, o ∈ j.locks ++ L := fun o z => mem_r (h0 o z)
  have hlk : ∀ o ∈ j.locks ++ L0, o ∈ j.locks ++ L := fun o z => (List.mem_append.mp z).elim (fun z => List.mem_append.mpr (.inl z)) fun z => mem_r (h0 o z)
  have R1' : ER E xb L0 w1 (j.locks ++ L) st1 H1 env σ := R1.lk fun o z => mem_r z
  have e0 : (P.cl (P.call n) L).lk j.locks = P.cl (P.call n) (j.locks ++ L) := rfl
  rw [e0] at h2
  generalize hT : (fun x st => match t.set (wipeE env t.own) x with
        | some env => rb (evT (P.cl (P.call n) (j.locks ++ L)) k env st) fun b st => if b then rb (ev (P.cl (P.call n) (j.locks ++ L)) e env st) fun v st => ok (some v) st else ok none st
        | none => none) = T at h2
  let Inv' : Nat → Hp → Prop := fun i H' => ∃ (w' : Wd) (st' : Sto) (acc : List (List Int)) (M : List (Addr × List Int)), SR E w' (j.locks ++ L) st' H' ∧ Fr E (j.locks ++ L) ⟨w1, st1, H1⟩ ⟨w', st', H'⟩ ∧ H' Da = some (SetTO Pg wd Da M) ∧ KsR E H' M acc ∧ ¬ Owd w' st' Da ∧ ¬ Zad w' st' H' Da ∧
    rb (compS T (j.xs.drop i) acc st') (fun ks st => ok (SV.d (.int ks.length)) st) = some r
  refine ⟨fun i m H' => m = j.xs.length - i ∧ Inv' i H', ⟨j.xs.length, rfl, w1, st1, [], [], S1.lkApp.lay hD, Fr.lay S1.lkApp hD (L' := j.locks ++ L), upd_same, ⟨List.Perm.refl _, fun p hp => by cases hp⟩, S1.nowd hD, nozad_lay S1 hD, h2⟩, ?_⟩
  rintro i m H' ⟨rfl, w', st', acc, M, S', g', hDa, ra, no, nz, h'⟩
  have hh' := hst _ _ ((Stp.of R1' g').less hlk) hh
  cases ex : j.xs.drop i with
  | nil =>
    rw [ex] at h'
    cases (show some (Out.ok (SV.d (.int acc.length)) st') = some r from h')
    refine .inl ⟨its.stop ⟨w', env, st', σ, H'⟩ i hh' (List.drop_eq_nil_iff.mp ex), M, hDa, fun p hp => (ra.2 p hp).sq, ?_⟩
    rw [ra.len]
    exact hQ w' H' _ (S1.unlk g' S' hl) (g'.less fun o z => mem_r z) (.d (.int _))
  | cons x rest =>
    rw [ex] at h'
    have hx : j.xs[i]? = some x := by
      have := congrArg List.head? ex
      rw [List.head?_drop] at this
      exact this
    have hlt : i < j.xs.length := (List.getElem?_eq_some_iff.mp hx).1
    have hr : rest = j.xs.drop (i + 1) := by
      have := congrArg List.tail ex
      rw [List.tail_drop] at this
      exact this.symm
    obtain ⟨go, yl⟩ := its.go (j.locks ++ L) w' env st' σ H' i x S' hh' hx
    refine .inr ⟨go, fun H2 => j.xs.length - (i + 1) < j.xs.length - i ∧ Inv' (i + 1) H2, fun H2 z => ⟨_, z.1, rfl, z.2⟩, fun u H2 y => ?_⟩
    obtain ⟨S2, f2, rx⟩ := yl u H2 y
    have g2 := g'.tr f2
    have R2 : ER E xb L0 w' (j.locks ++ L) st' H2 env σ := R1'.fr S1.lkApp h0' g2
    have dk : ∀ {w3 : Wd} {st3 : Sto} {H3 : Hp}, Fr E (j.locks ++ L) ⟨w', st', H2⟩ ⟨w3, st3, H3⟩ → H3 Da = some (SetTO Pg wd Da M) ∧ KsR E H3 M acc ∧ ¬ Owd w3 st3 Da ∧ ¬ Zad w3 st3 H3 Da := fun {w3 st3 H3} f3 => by
      have f4 := f2.tr f3
      have hn : H' Da ≠ none := by rw [hDa]; intro z; cases z
      exact ⟨f4.out _ _ hDa no, ra.mono f4.tm, f4.nowd no hn, f4.nozad no nz hn⟩
    have h3 : rb (match T x st' with
      | some (.ok none st) => compS T rest acc st
      | some (.ok (some (.d (.tup ds))) st) => match allInt ds with
        | some k => if acc.length + 1 < 64 then compS T rest (putI acc k) st else none
        | none => none
      | _ => none) (fun ks st => ok (SV.d (.int ks.length)) st) = some r := h'
    cases eT : T x st' with
    | none => rw [eT] at h3; cases h3
    | some oT =>
      rw [eT] at h3
      have eT' := eT
      rw [← hT] at eT'
      dsimp only at eT'
      cases e3 : t.set (wipeE env t.own) x with
      | none => rw [e3] at eT'; cases eT'
      | some env3 =>
        rw [e3] at eT'
        dsimp only at eT'
        refine hg xb L0 (j.locks ++ L) w' (wipeE env t.own) env3 st' (wipe σ t.own) H2 u x (R2.wipe _) rx e3 _ fun σ3 k3 => ⟨?_, ?_⟩
        · have hlen : σ3.length = (wipe σ t.own).length := by
            have a1 := k3.er.len
            have a2 := (R2.wipe t.own).len
            have a3 : env3.length = (wipeE env t.own).length := set_len e3
            omega
          rw [← wipe_wipe (σ := σ)]
          exact wipe_eq hlen fun j hj => (k3.off j fun z => hj (mem_dup z)).2
        · cases e5 : evT (P.cl (P.call n) (j.locks ++ L)) k env3 st' with
          | none => rw [e5] at eT'; cases eT'
          | some ob =>
            rw [e5] at eT'
            cases ob with
            | ex y st5 => cases (show some (Out.ex y st5) = some oT from eT'); cases h3
            | ok b st5 =>
              refine ht L0 (j.locks ++ L) w' env3 st' σ3 H2 h0' S2 k3.er _ e5 _ fun w5 H5 b' S5 f5 eb => ?_
              subst eb
              have R5 : ER E xb L0 w5 (j.locks ++ L) st5 H5 env3 σ3 := k3.er.fr S2 h0' f5
              cases b' with
              | false =>
                rw [if_neg Bool.false_ne_true]
                cases (show some (Out.ok none st5) = some oT from eT')
                obtain ⟨q1, q2, q3, q4⟩ := dk f5
                exact ⟨by omega, w5, st5, acc, M, S5, g2.tr f5, q1, q2, q3, q4, by rw [← hr]; exact h3⟩
              | true =>
                rw [if_pos rfl]
                have e6 : rb (ev (P.cl (P.call n) (j.locks ++ L)) e env3 st5) (fun v st => ok (some v) st) = some oT := eT'
                cases e7 : ev (P.cl (P.call n) (j.locks ++ L)) e env3 st5 with
                | none => rw [e7] at e6; cases e6
                | some ov =>
                  rw [e7] at e6
                  cases ov with
                  | ex y st7 => cases (show some (Out.ex y st7) = some oT from e6); cases h3
                  | ok sv st7 =>
                    cases (show some (Out.ok (some sv) st7) = some oT from e6)
                    refine he L0 (j.locks ++ L) w5 env3 st5 σ3 H5 h0' S5 R5 _ e7 _ fun w7 H7 v7 S7 f7 r7 => ?_
                    cases sv with
                    | c z1 z2 => cases h3
                    | x z => cases h3
                    | d dv =>
                      cases dv with
                      | tup ds =>
                        have h4 : rb (match allInt ds with
                          | some k => if acc.length + 1 < 64 then compS T rest (putI acc k) st7 else none
                          | none => none) (fun ks st => ok (SV.d (.int ks.length)) st) = some r := h3
                        cases e8 : allInt ds with
                        | none => rw [e8] at h4; cases h4
                        | some kk =>
                          rw [e8] at h4
                          dsimp only at h4
                          split at h4
                          · rename_i few
                            rw [allInt_inv e8] at r7
                            obtain ⟨aa, us, rfl, t1, t2⟩ := r7.tup
                            rw [t2.ints_of] at t1
                            obtain ⟨q1, q2, q3, q4⟩ := dk (f5.tr f7)
                            have nt : ∀ xs, SetTO Pg wd Da M ≠ .tup xs := fun xs z => by cases z
                            refine ⟨aa, kk, M, rfl, t1.sq, q1, fun p hp => (q2.2 p hp).sq, by rw [q2.len]; exact few, fun M' c1 c2 => ⟨by omega, w7, st7, putI acc kk, M', S7.mutN q3 q4 q1 nt, Fr.mutN q3 S7 q1 nt (g2.tr (f5.tr f7)) hD, upd_same, (q2.put t1 c1 c2).mono (tm_mut q1 nt), q3, fun z => q4 (zadU S7 q3 z), by rw [← hr]; exact h4⟩⟩
                          · cases h4
                      | _ => cases h3
end
end Tv

namespace Tv
open PySem L2 PySem.Spec PyProof.Rows
section
variable {X : Cx} {g : Gm} {pa pb pe tg : Expr} {a b e : Ex} {t : Tx} {pos pos2 : Pos} {ta tb : TE} {tt : TT} {wi : TI} {gt : TG} {it : Tv.It} {t1 : Tg}
theorem di_zip {np tpos : Pos} {elts : List Expr} {kk : Nat} (hK : X.K = g.E.K) (hg : Gl X "zip") (hm : X.mg "zip" = none) (h : De X g pa a ta) (h2 : De X g pb b tb)
    (hs : starEach [pa, pb] X.env = (false, eval pa X.env) :: starEach [pb] X.env := by rfl) (hs2 : starEach [pb] X.env = (false, eval pb X.env) :: starEach [] X.env := by rfl) (hpl : (backTo pos (starEach [pb] X.env)).any (·.1) = false := by rfl) :
    Di X g (.Tuple elts kk tpos) (.Call (.Name "zip" np) [pa, pb] [] pos) (.zip a b) (iZipG g.E.K (tCons ta (tCons tb tNil))) := ⟨hK ▸ pi_zipG hg hm (pa_cons h.p (pa_cons h2.p pa_nil hs2) hs) hs hpl, si_zip h.s h2.s⟩
theorem de_ls {elt iter : Expr} {ifs : List Expr} {scope : Scope} {own : List (Str × Nat)} {e1 : Ex} {k : Nat} {np : Pos} (hr : Room k X.A) (hK : X.K = g.E.K) (hc : X.calm = true) (hN : X.N.Nodup) (hl : Gl X "len") (hm : X.mg "len" = none) (ok : BlkOk X.N X.env.scope scope own) (hi : Di X g tg iter it wi)
    (hg : ∀ (s : Shared) (H : Hp) (C : Addr) (cl : List (Str × Addr)) (fp : List Addr), Dg (X.blk s H scope (compEnvC scope cl C X.env) fp) g.inC tg t1 gt)
    (ht : ∀ (s : Shared) (H : Hp) (C : Addr) (cl : List (Str × Addr)) (fp : List Addr), Dts (X.blk s H scope (compEnvC scope cl C X.env) fp) g.inC ifs t tt)
    (he : ∀ (s : Shared) (H : Hp) (C : Addr) (cl : List (Str × Addr)) (fp : List Addr), De (X.blk s H scope (compEnvC scope cl C X.env) fp) g.inC elt e1 ta) (ho : own.map (·.2) = t1.own) (hs : ∀ x, foldedSetIterable iter X.env x = pure x := by intro _; rfl) :
    De X g (.Call (.Name "len" np) [.SetComp elt [⟨tg, iter, ifs, 0⟩] scope pos] [] pos2) (.lenset t1 it t e1) (tLs X.prog X.w g.E.K wi gt tt ta (own.map (·.2))) :=
  ⟨hK ▸ pe_ls hc (by have := hr.un; omega) hN hl hm hi.p ok (fun s H C cl fp => (hg s H C cl fp).p) (fun s H C cl fp => (ht s H C cl fp).p) (fun s H C cl fp => (he s H C cl fp).p) hs,
   se_ls hi.s (hg (PySem.start X.prog).1 (fun _ => none) 0 [] []).s (ht (PySem.start X.prog).1 (fun _ => none) 0 [] []).s (he (PySem.start X.prog).1 (fun _ => none) 0 [] []).s ho⟩
end
end Tv

namespace Tv
open PySem L2
section
variable {E : En} {xb : XB} {w w0 w1 w2 : Wd} {L0 L L' l Lk : List Ow} {st st0 st1 st2 : Sto} {H H1 H2 B B' : Hp} {env env1 env' : Env} {σ σ1 σ' σ2 : L2.St} {v : V} {s : SV} {vs : List V} {ss : List SV} {j i : Nat} {p : Addr} {P : Prog} {n : Nat} {W : WX} {X : Cx} {a b d : Fs} {c : Ss} {q : Addr} {ad : List Addr}
/-! dicts that change -/
section
variable {κ : Type} [DecidableEq κ]
theorem any_keys {α β : Type} {k : κ} : ∀ {ps : List (κ × α)} {kvs : List (κ × β)}, ps.map (·.1) = kvs.map (·.1) → (ps.any fun p => decide (p.1 = k)) = kvs.any fun p => decide (p.1 = k)
  | [], [], _ => rfl
  | p :: ps, q :: kvs, h => by
    rw [List.map_cons, List.map_cons] at h
    injection h with h1 h2
    have h1' : p.1 = q.1 := h1
    rw [List.any_cons, List.any_cons, h1', any_keys h2]
  | [], q :: kvs, h => by simp at h
  | p :: ps, [], h => by simp at h
theorem keys_repl {α : Type} {k : κ} {v : α} : ∀ {ps : List (κ × α)}, (ps.map fun kv => if kv.1 = k then (kv.1, v) else kv).map (·.1) = ps.map (·.1)
  | [] => rfl
  | p :: ps => by
    rw [List.map_cons, List.map_cons, List.map_cons, keys_repl]
    congr 1
    split <;> rfl
theorem vals_repl {k : κ} {v : V} {x : D} (r : Rv E ad H v x) : ∀ {ps : List (κ × V)} {kvs : List (κ × D)}, ps.map (·.1) = kvs.map (·.1) → RvA E ad H (ps.map (·.2)) (kvs.map (·.2)) →
    RvA E ad H ((ps.map fun kv => if kv.1 = k then (kv.1, v) else kv).map (·.2)) ((kvs.map fun kv => if kv.1 = k then (kv.1, x) else kv).map (·.2))
  | [], [], _, _ => .nil
  | p :: ps, q :: kvs, h, t => by
    rw [List.map_cons, List.map_cons] at h
    injection h with h1 h2
    have h1' : p.1 = q.1 := h1
    rw [List.map_cons, List.map_cons] at t
    cases t with
    | cons t1 t2 =>
      rw [List.map_cons, List.map_cons, List.map_cons, List.map_cons, ← h1']
      by_cases e : p.1 = k
      · rw [if_pos e, if_pos e]
        exact .cons r (vals_repl r h2 t2)
      · rw [if_neg e, if_neg e]
        exact .cons t1 (vals_repl r h2 t2)
  | [], q :: kvs, h, _ => by simp at h
  | p :: ps, [], h, _ => by simp at h
theorem rkv_put {k : κ} {v : V} {x : D} {ps : List (κ × V)} {kvs : List (κ × D)} (h : Rkv E ad H ps kvs) (r : Rv E ad H v x) : Rkv E ad H (putK ps k v) (put kvs k x) := by
  unfold putK put
  have e := any_keys (k := k) h.1
  by_cases c : (kvs.any fun p => decide (p.1 = k)) = true
  · rw [if_pos c, if_pos (e.trans c)]
    exact ⟨by rw [keys_repl, keys_repl]; exact h.1, vals_repl r h.1 h.2⟩
  · rw [if_neg c, if_neg (by rw [e]; exact c)]
    exact ⟨by rw [List.map_append, List.map_append, h.1]; rfl, by rw [List.map_append, List.map_append]; exact h.2.app (.cons r .nil)⟩
end
theorem rv_keyOf {v : V} {x : D} {k : Key} (r : Rv E ad H v x) (e : keyOf x = some k) : v = kV k := by
  cases r <;> cases e <;> rfl
theorem rkv_merge : ∀ {qs : List (Key × V)} {more : List (Key × D)} {ps : List (Key × V)} {kvs : List (Key × D)}, Rkv E ad H qs more → Rkv E ad H ps kvs → Rkv E ad H (mergeK ps qs) (putAll kvs more)
  | [], [], _, _, _, h => h
  | q :: qs, m :: more, ps, kvs, h, k => by
    obtain ⟨h1, h2⟩ := h
    rw [List.map_cons, List.map_cons] at h1 h2
    injection h1 with e1 e2
    cases h2 with
    | cons t1 t2 =>
      have e1' : q.1 = m.1 := e1
      show Rkv E ad H (mergeK (putK ps q.1 q.2) qs) (putAll (put kvs m.1 m.2) more)
      rw [e1']
      exact rkv_merge ⟨e2, t2⟩ (rkv_put k t1)
  | [], m :: more, _, _, h, _ => by have := h.1; simp at this
  | q :: qs, [], _, _, h, _ => by have := h.1; simp at this
theorem LcR.cell' {l : Lc} (h : LcR w env st σ v l) (k : ∀ o : Ow, o.live st → o.live st1 ∧ w1.at o = w.at o) : LcR w1 env st1 σ v l := by
  cases l with
  | slot i => exact h
  | fld i nm =>
    obtain ⟨rfl, h2⟩ := h
    obtain ⟨k1, k2⟩ := k (.f i nm) h2
    have e : w1.fd i nm = w.fd i nm := Option.some.inj k2
    exact ⟨by rw [e], k1⟩
  | cell m =>
    obtain ⟨a, rfl, h2, h3⟩ := h
    obtain ⟨k1, k2⟩ := k (.c m) h3
    exact ⟨a, rfl, (show w1.ad[m]? = w.ad[m]? from k2).trans h2, k1⟩
/-- d[k] = v -/
theorem ss_put {td ty tv : TE} {pl : Pl} {k e : Ex} (hkt : P.kts = E.kt) (hp : PlS P n E xb W td pl) (hk : SE P n E xb W ty k) (hv : SE P n E xb W tv e) : SS P n E xb W (sDPut td ty tv) (.put pl k e) := by
  intro L0 L w env st σ H h0 S R r h D hD
  show tv σ H fun v H1 => td σ H1 fun x H2 => ty σ H2 fun y H3 => ∃ a H4, x = .ref a ∧ DPut H3 a y v H4 ∧ D.nx σ H4
  refine sb_go hv h0 S R h hD fun u st1 w1 H1 v S1 R1 f1 v1 h2 hD1 => ?_
  refine sb_golk hp h0 S1 R1 v1.live h2 hD1 fun lc st2 w2 H2 x S2 R2 f2 lr h3 hD2 => ?_
  have f2' := f2.less (L' := L) fun o z => mem_r z
  have v2 := v1.fr f2 (fun o z => mem_r (h0 o z)) (fun o z => List.mem_append.mpr (.inl z))
  have live2 : ∀ o ∈ lc.ow :: lockOf u, ∀ st', o.live st' → o.live st2 := fun o ho st' z => by
    rcases List.mem_cons.mp ho with e | ho
    · subst e
      exact lc_live S2 lr _ (List.mem_singleton.mpr rfl) st' z
    · exact v2.live o ho st' z
  refine sb_golk hk h0 S2 R2 live2 h3 hD2 fun kv st3 w3 H3 y S3 R3 f3 k3 h4 hD3 => ?_
  have f3' := f3.less (L' := L) fun o z => mem_r z
  have v3 := v2.fr f3 (fun o z => mem_r (h0 o z)) (fun o z => List.mem_append.mpr (.inl (List.mem_cons_of_mem _ z)))
  have lr3 := lr.fr f3 S3 (List.mem_append.mpr (.inl List.mem_cons_self))
  cases e8 : toD u st3 with
  | none => rw [e8] at h4; cases h4
  | some od =>
    obtain ⟨yd, st4, w4, rfl, S4, R4, f4, p4, rv4, ho4, hz4, hl4⟩ := toD_ok (s0 := ⟨w, st, H⟩) h0 S R S3 R3 (f1.tr (f2'.tr f3')) v3 e8
    rw [e8] at h4
    have h5 : (match (lc.get (P.cl (P.call n) L) env st4).bind fun x => putD P.kts x kv yd with
        | some x => some (SO.nx (lc.set x env st4).1 (lc.set x env st4).2)
        | none => none) = some r := h4
    cases eg : lc.get (P.cl (P.call n) L) env st4 with
    | none => rw [eg] at h5; cases h5
    | some xc =>
      rw [eg] at h5
      have h6 : (match putD P.kts xc kv yd with
        | some x => some (SO.nx (lc.set x env st4).1 (lc.set x env st4).2)
        | none => none) = some r := h5
      cases ep : putD P.kts xc kv yd with
      | none => rw [ep] at h6; cases h6
      | some x' =>
        rw [ep] at h6
        cases (show some (SO.nx (lc.set x' env st4).1 (lc.set x' env st4).2) = some r from h6)
        obtain ⟨q, uo, rfl, hu, hr, go⟩ := mut_ok h0 S4 R4 (lr3.cell' hl4) eg
        have tm : ∀ {u' : HO}, Tm E.K H3 (upd H3 q u') := fun {u'} => tm_mut (E := E) hu hr.ntup
        have fin : ∀ u', HoR E w4.ad (upd H3 q u') u' x' → D.nx σ (upd H3 q u') := fun u' r' => by
          obtain ⟨a1, a2, a3⟩ := go u' x' r'
          exact hD w4 σ _ a1 a2 ((Stp.of R f4).tr a3)
        unfold putD at ep
        split at ep
        · cases ep
        · cases xc with
          | l xs => rename_i hnl; exact absurd rfl hnl
          | m kvs =>
            cases uo <;> try exact hr.elim
            rename_i ps
            cases kv with
            | c z1 z2 => cases ep
            | x z => cases ep
            | d kd =>
              have ep' : (match keyOf kd with
                | some k => if kvs.length < sizeLine then some (Cn.m (put kvs k yd)) else none
                | none => none) = some x' := ep
              split at ep'
              · rename_i kk ek
                split at ep'
                · rename_i hs
                  cases ep'
                  have ey := rv_keyOf k3.dd ek
                  subst ey
                  exact ⟨q, _, rfl, DPut.k hu (by rw [rkv_len hr]; exact hs), fin _ (rkv_put (Rkv.mono (List.prefix_refl _) tm hr) (rv4.mono (List.prefix_refl _) tm))⟩
                · cases ep'
              · cases ep'
          | t kvs =>
            cases uo <;> try exact hr.elim
            rename_i ps
            cases kv with
            | c z1 z2 => cases ep
            | x z => cases ep
            | d kd =>
              cases kd with
              | tup ds =>
                have ep' : (match keysT P.kts ds with
                  | some k => if kvs.length < sizeLine then some (Cn.t (put kvs k yd)) else none
                  | none => none) = some x' := ep
                split at ep'
                · rename_i kk ek
                  split at ep'
                  · rename_i hs
                    cases ep'
                    rw [hkt] at ek
                    obtain ⟨bb, rfl, hb⟩ := key_tup k3 ek
                    exact ⟨q, _, rfl, DPut.t hu hb (by rw [rkv_len hr]; exact hs), fin _ (rkv_put (Rkv.mono (List.prefix_refl _) tm hr) (rv4.mono (List.prefix_refl _) tm))⟩
                  · cases ep'
                · cases ep'
              | _ => cases ep
end
end Tv

namespace Tv
open PySem L2
section
variable {E : En} {xb : XB} {w w0 w1 w2 : Wd} {L0 L L' l Lk : List Ow} {st st0 st1 st2 : Sto} {H H1 H2 B B' : Hp} {env env1 env' : Env} {σ σ1 σ' σ2 : L2.St} {v : V} {s : SV} {vs : List V} {ss : List SV} {j i : Nat} {p : Addr} {P : Prog} {n : Nat} {W : WX} {X : Cx} {a b d : Fs} {c : Ss} {q : Addr} {ad : List Addr}
theorem vr_newC {u : HO} {x : Cn} (S : SR E w L st H) (hp : H p = none) (h : HoR E w.ad (upd H p u) u x) : VR E L0 w st (upd H p u) env σ H (.ref p) (.c .own x) :=
  .own ⟨_, .inl upd_same, h⟩ ⟨_, upd_same, h.mut⟩ (S.nowd hp) hp (nozad_lay S hp)
theorem se_dctK : SE P n E xb W tDNewK (.dct0 false) := by
  intro L0 L w env st σ H h0 S R r h Q hQ
  cases (show some (Out.ok (SV.c .own (.m [])) st) = some r from h)
  show ∀ p, H p = none → Q (.ref p) (upd H p (.dK []))
  exact fun p hp => hQ w _ _ (S.lay hp) (Fr.lay S hp) (vr_newC S hp ⟨rfl, .nil⟩)
theorem se_dctT : SE P n E xb W tDNewT (.dct0 true) := by
  intro L0 L w env st σ H h0 S R r h Q hQ
  cases (show some (Out.ok (SV.c .own (.t [])) st) = some r from h)
  show ∀ p, H p = none → Q (.ref p) (upd H p (.dT []))
  exact fun p hp => hQ w _ _ (S.lay hp) (Fr.lay S hp) (vr_newC S hp ⟨rfl, .nil⟩)
/-! displays -/
def flat (ps : List (V × V)) : List V := ps.flatMap fun p => [p.1, p.2]
abbrev RFl {β : Type} (E : En) (fl : β → List V) : List Ow → Wd → Sto → Hp → Env → L2.St → Hp → β → List SV → Prop := fun L0 w st H env σ B b a => VRs E L0 w st H env σ B (fl b) a
theorem sg_cons {β : Type} {fl : β → List V} {te : TE} {T : L2.St → Hp → (β → Hp → Prop) → Prop} {e : Ex} {es : Exs} (he : SE P n E xb W te e) (hes : SG P n E xb W (RFl E fl) T (fun c env st => evs c es env st)) :
    SG P n E xb W (RFl E fun z : V × β => z.1 :: fl z.2) (fun σ H Q => te σ H fun x H1 => T σ H1 fun b H2 => Q (x, b) H2) (fun c env st => evs c (.cons e es) env st) := by
  intro L0 L w env st σ H h0 S R r h Q hQ
  show te σ H fun x H1 => T σ H1 fun b H2 => Q (x, b) H2
  refine sg_go he h0 S R h hQ fun u st1 w1 H1 x S1 R1 f1 v1 h hQ => ?_
  refine sg_golk hes h0 S1 R1 v1.live h hQ fun us st2 w2 H2 xs S2 R2 f2 v2 h hQ => ?_
  have e' : some (Out.ok (u :: us) st2) = some r := h
  cases e'
  refine hQ w2 H2 (x, xs) S2 (Fr.rfl' _) (.cons (v1.fr f2 (fun o z => List.mem_append.mpr (.inr (h0 o z))) (fun o z => List.mem_append.mpr (.inl z))) (v2.base f1.dom) fun a y e1 e2 k => ?_)
  subst e1 e2
  have h1 := v2.own k
  cases v1 with
  | own k1 _ _ _ _ => obtain ⟨o, k2⟩ := k1.has; have h1' : H1 a = none := h1; rw [k2] at h1'; cases h1'
abbrev SPs (P : Prog) (n : Nat) (E : En) (xb : XB) (W : WX) (trs : List (TE × TE)) (es : Exs) : Prop := SG P n E xb W (RFl E flat) (tPairs trs) (fun c env st => evs c es env st)
theorem sps_nil : SPs P n E xb W [] .nil := fun L0 L w env st σ H h0 S R r e Q hQ => by
  have e' : some (Out.ok [] st) = some r := e
  cases e'
  exact hQ w H [] S (Fr.rfl' _) .nil
theorem sps_cons {tk tv : TE} {trs : List (TE × TE)} {k e : Ex} {es : Exs} (hk : SE P n E xb W tk k) (hv : SE P n E xb W tv e) (hr : SPs P n E xb W trs es) : SPs P n E xb W ((tk, tv) :: trs) (.cons k (.cons e es)) := by
  intro L0 L w env st σ H h0 S R r h Q hQ
  refine sg_cons hk (sg_cons hv hr) L0 L w env st σ H h0 S R r h (fun z H => Q ((z.1, z.2.1) :: z.2.2) H) ?_
  cases r with
  | ok a st' => exact fun w' H' b S' f' r' => hQ w' H' ((b.1, b.2.1) :: b.2.2) S' f' r'
  | ex x st' => exact hQ
theorem pair_up : ∀ {ps : List (V × V)} {xs : List D} {qs : List (Key × D)}, RvA E ad H (flat ps) xs → pairUp xs = some qs → ∃ kvs : List (Key × V), ps = kvs.map (fun kv => (kV kv.1, kv.2)) ∧ Rkv E ad H kvs qs
  | [], xs, qs, h, e => by
    cases h
    cases e
    exact ⟨[], rfl, rfl, .nil⟩
  | p :: ps, xs, qs, h, e => by
    have h' : RvA E ad H (p.1 :: p.2 :: flat ps) xs := h
    cases h' with
    | cons h1 h2 =>
      cases h2 with
      | cons h2 h3 =>
        rename_i x y xs
        have e' : (match keyOf x, pairUp xs with | some k, some ps => some ((k, y) :: ps) | _, _ => none) = some qs := e
        split at e'
        · rename_i k qs' e1 e2
          cases e'
          obtain ⟨kvs, rfl, h4⟩ := pair_up h3 e2
          refine ⟨(k, p.2) :: kvs, ?_, ?_⟩
          · rw [List.map_cons]
            have := rv_keyOf h1 e1
            rw [← this]
          · exact ⟨by rw [List.map_cons, List.map_cons, h4.1], by rw [List.map_cons, List.map_cons]; exact .cons h2 h4.2⟩
        · cases e'
theorem se_dct {trs : List (TE × TE)} {es : Exs} (hs : SPs P n E xb W trs es) : SE P n E xb W (tDisp trs) (.dct es) := by
  intro L0 L w env st σ H h0 S R r h Q hQ
  show ∀ p, H p = none → tPairs trs σ (upd H p (.dK [])) fun ps H2 => H2 p = some (.dK []) ∧ ∃ kvs : List (Key × V), ps = kvs.map (fun kv => (kV kv.1, kv.2)) ∧ kvs.length ≤ 15 ∧ Q (.ref p) (upd H2 p (.dK (mergeK [] kvs)))
  intro p hp
  have S' : SR E w L st (upd H p (.dK [])) := S.lay hp
  have R' : ER E xb L0 w L st (upd H p (.dK [])) env σ := R.fr S h0 (Fr.lay S hp)
  refine sg_go hs h0 S' R' h (hQ.from (Fr.lay S hp) fun _ _ _ _ _ z => z) fun as st1 w1 H1 ps S1 R1 f1 v1 h hQ' => ?_
  cases e : toDs as st1 with
  | none => rw [e] at h; cases h
  | some o =>
    obtain ⟨xs, st2, w2, rfl, S2, R2, f2, p2, q2⟩ := toDs_ok (s0 := ⟨w, st, upd H p (.dK [])⟩) h0 S' R' S1 R1 f1 v1 e
    rw [e] at h
    have h' : (match pairUp xs with
      | some ps => if ps.length ≤ 15 then ok (SV.c .own (.m (putAll [] ps))) st2 else none
      | none => none) = some r := h
    split at h'
    · rename_i qs eq
      split at h'
      · rename_i hl
        cases ok_inj h'
        obtain ⟨kvs, rfl, hk⟩ := pair_up q2 eq
        have no0 : ¬ Owd w st p := S.nowd hp
        have up : H1 p = some (.dK []) := f2.out p _ upd_same no0
        have hn : (upd H p (.dK [])) p ≠ none := by rw [upd_same]; intro z; cases z
        have no2 := f2.nowd no0 hn
        have nz2 := f2.nozad no0 (nozad_lay S hp) hn
        have nt : ∀ xs, HO.dK [] ≠ .tup xs := fun xs z => by cases z
        have tm : Tm E.K H1 (upd H1 p (.dK (mergeK [] kvs))) := tm_mut (E := E) up nt
        refine ⟨up, kvs, rfl, by rw [rkv_len hk]; exact hl, hQ w2 _ _ (S2.mutN no2 nz2 up nt) (Fr.mutN no2 S2 up nt ((Fr.lay S hp).tr f2) hp) ?_⟩
        refine .own ⟨_, .inl upd_same, rkv_merge (Rkv.mono (List.prefix_refl _) tm hk) ⟨rfl, .nil⟩⟩ ⟨_, upd_same, trivial⟩ no2 hp fun z => nz2 (zadU S2 no2 z)
      · cases h'
    · cases h'
end
end Tv

namespace Tv
open PySem L2 PySem.Spec PyProof.Rows
section
variable {E : En} {ad : List Addr} {H : Hp}
def rDictX (K : PySem.W.Frag) : RC := fun xs H Q => (∃ (a : Addr) (kvs : List (Key × V)), xs = [.ref a] ∧ Rd H a (.dK kvs) ∧ ∀ p, H p = none → Q (.ref p) (upd H p (.dK kvs))) ∨
  ∃ (a : Addr) (ps : List Addr) (kvs : List (Key × V)), xs = [.ref a] ∧ SqL K H a (ps.map V.ref) ∧ Paired (fun p kv => SqT K H p [kV kv.1, kv.2]) ps kvs ∧ ∀ p, H p = none → Q (.ref p) (upd H p (.dK (mergeK [] kvs)))
theorem c_dict {X : Cx} (hc : X.calm = true) : CallR X (.type "dict") (rDictX X.K) := cr_or call_dictD (call_dictP hc)
theorem pairs_of : ∀ {vs : List V} {xs : List D} {qs : List (Key × D)}, RvA E ad H vs xs → pairsOf xs = some qs → ∃ (ps : List Addr) (kvs : List (Key × V)), vs = ps.map V.ref ∧ Paired (fun p kv => SqT E.K H p [kV kv.1, kv.2]) ps kvs ∧ Rkv E ad H kvs qs
  | _, [], _, .nil, e => by cases e; exact ⟨[], [], rfl, .nil, rfl, .nil⟩
  | _, x :: xs, qs, .cons h t, e => by
    have e' : (match pairOf x, pairsOf xs with | some p, some ps => some (p :: ps) | _, _ => none) = some qs := e
    split at e'
    · rename_i pr qs' e1 e2
      cases e'
      obtain ⟨ps, kvs, rfl, h2, h3⟩ := pairs_of t e2
      unfold pairOf at e1
      split at e1
      · rename_i k y
        obtain ⟨a, us, rfl, t1, t2⟩ := h.tup_of
        cases t2 with
        | cons r1 t2 =>
          cases t2 with
          | cons r2 t2 =>
            cases t2
            cases ek : keyOf k with
            | none => rw [ek] at e1; cases e1
            | some kk =>
              rw [ek] at e1
              cases e1
              have := rv_keyOf r1 ek
              subst this
              exact ⟨a :: ps, (kk, _) :: kvs, rfl, .cons t1.sq h2, by rw [List.map_cons, List.map_cons, h3.1], by rw [List.map_cons, List.map_cons]; exact .cons r2 h3.2⟩
      · cases e1
    · cases e'
theorem cs_dict : CaS E (rDictX E.K) (biF .dict) := by
  intro L0 L w env st σ H vs ss B S hv hB r' h W Q hQ
  unfold biF at h
  split at h <;> try (rename_i e; cases e; done)
  all_goals try (cases h; done)
  all_goals rename_i u _
  obtain ⟨x, rfl, hx⟩ := vrs1 hv
  split at h
  · rename_i kvs e
    cases ok_inj h
    obtain ⟨a, ps, rfl, h1, h2⟩ := hx.dic S e
    exact .inl ⟨a, ps, rfl, h1, fun p hp => okr_lay hQ S hp ((vr_newC (u := .dK ps) (x := .m kvs) S hp (Rkv.mono (List.prefix_refl _) (tm_lay hp) h2)).base hB)⟩
  · rename_i xs e
    split at h
    · rename_i qs e2
      cases ok_inj h
      obtain ⟨a, us, rfl, h1, h2⟩ := hx.lst S e
      obtain ⟨ps, kvs, rfl, h3, h4⟩ := pairs_of h2 e2
      exact .inr ⟨a, ps, kvs, rfl, h1, h3, fun p hp => okr_lay hQ S hp ((vr_newC (u := .dK (mergeK [] kvs)) (x := .m (putAll [] qs)) S hp (Rkv.mono (List.prefix_refl _) (tm_lay hp) (rkv_merge (ps := []) (kvs := []) h4 ⟨rfl, .nil⟩))).base hB)⟩
    · cases h
  · cases h
end
section
variable {X : Cx} {g : Gm} {pa pb pe po pi tg : Expr} {a b e k : Ex} {pos pos2 : Pos} {ta tb to ti : TE} {es : Exs}
theorem bi_dict (hK : X.K = g.E.K) (hc : X.calm = true := by rfl) : BiO X g (.type "dict") .dict (rDictX g.E.K) := ⟨hK ▸ c_dict hc, cs_dict⟩
theorem de_dct0K : De X g (.Dict [] [] pos) (.dct0 false) tDNewK := ⟨pe_dnewK, se_dctK⟩
theorem de_dct0T : De X g (.Dict [] [] pos) (.dct0 true) tDNewT := ⟨pe_dnewT, se_dctT⟩
structure Dps (X : Cx) (g : Gm) (pos : Pos) (keys : List (Option Expr)) (values : List Expr) (es : Exs) (trs : List (TE × TE)) : Prop where
  p : PPs X pos keys values trs
  s : SPs g.P g.n g.E g.xb g.W trs es
theorem dps_nil : Dps X g pos [] [] .nil [] := ⟨pps_nil, sps_nil⟩
theorem dps_cons {ks : List (Option Expr)} {vs : List Expr} {trs : List (TE × TE)} (h1 : De X g pa a ta) (h2 : De X g pb b tb) (h3 : Dps X g pos ks vs es trs) : Dps X g pos (some pa :: ks) (pb :: vs) (.cons a (.cons b es)) ((ta, tb) :: trs) := ⟨pps_cons h1.p h2.p h3.p, sps_cons h1.s h2.s h3.s⟩
theorem de_dct {keys : List (Option Expr)} {values : List Expr} {trs : List (TE × TE)} (h : Dps X g pos keys values es trs) (hall : keys.all (·.isSome) = true := by rfl) (hl : keys.length = values.length := by rfl) (h0 : keys ≠ [] := by exact List.cons_ne_nil _ _) (h15 : keys.length ≤ 15 := by decide) :
    De X g (.Dict keys values pos) (.dct es) (tDisp trs) := ⟨pe_disp h.p hall hl h0 h15, se_dct h.s⟩
theorem ds_put {kk : Nat} {p : Pl} {spos : Pos} (hr : Room kk X.A) (hkt : g.P.kts = g.E.kt) (ho : Dpl X g po p to) (hi : De X g pi k ti) (hv : De X g pa a ta) (hs : swapsWith pa (some (.Subscript po pi spos)) pos.line X.env = pure false := by rfl) :
    Ds X g (.Assign [.Subscript po pi spos] pa pos) (.put p k a) (sDPut to ti ta) := ⟨ps_dput (hu1 hr) ho.p hi.p hv.p hs, ss_put hkt ho.s hi.s hv.s⟩
end
end Tv

/-! calls with keywords -/
namespace Tv
open PySem L2 PySem.Spec PyProof.Rows
theorem fun_kbn {K : PySem.W.Frag} {x qual : Str} {st : Stmt} {f : Addr} {fd : FuncData} {ps : List Str} (F : Fun K x qual st f fd) (n : Nat) (ks : List Str)
    (h : ∀ (kV doc pm : Value) (an : Option Addr) (cdv ct : Value) (us ws : List Value), us.length = n → ws.length = ks.length → bindArgs (PySem.W.fnOf x qual (defArgs st) (defBody st) (defScope st) .none kV doc pm an cdv ct) ⟨us, ks.zip ws⟩ = pure (ps.zip (us ++ ws))) :
    KBn K fd ps n ks (fun us ws => us ++ ws) (fun vs zs => vs ++ zs) := by
  obtain ⟨oc, od, kV, doc, pm, an, cdv, ct, osl, rfl, lk, hcd⟩ := F.ex
  exact ⟨fun s us ws X l1 l2 => .of_eq (h kV doc pm an cdv ct us ws l1 l2), fun r1 r2 => r1.append r2⟩
def tCallK (n m : Nat) (sp : Sp) (E : L2.St → XK) (t tk : TA) : TE := fun σ H Q => t σ H fun vs H1 => tk σ H1 fun zs H2 => vs.length = n ∧ zs.length = m ∧ sp (vs ++ zs) H2 Q (E σ)
section
variable {X : Cx} {CX : CXT} {k n : Nat} {f : Addr} {fd : FuncData} {ps ks : List Str} {sp : Sp} {E : L2.St → XK} {x : Str} {p pos : Pos} {e : Expr} {es : List Expr} {kws : List Keyword} {t tk : TA}
theorem run_fnK {pins : List (Addr × Obj)} {σ : L2.St} {H : Hp} {s : Shared} {Q : VK} {us ws : List Value} {vs zs : List V} (F : FnOk X.prog X.w X.K X.mg X.base CX k f fd ps sp) (hr : Room k X.A) (hb : KBn X.K fd ps n ks (fun us ws => us ++ ws) (fun vs zs => vs ++ zs)) (hx : PassesAt CX X σ (E σ))
    (I : Inv X pins σ H s) (r : Vals vs us) (rz : Vals zs ws) (l1 : vs.length = n) (l2 : zs.length = ks.length) (h : sp (vs ++ zs) H Q (E σ)) : wpAny (model X.prog X.w) X.A (call (.ref f) us (ks.zip ws)) (EP X pins σ Q) X.xe s := by
  have r2 : Vals (vs ++ zs) (us ++ ws) := hb.rel r rz
  refine wpAny_call (codeAny_mono (F.run X.A X.stack s H ⟨us, ks.zip ws⟩ (us ++ ws) (vs ++ zs) Q (E σ) hr I.env0 (hb.to s us ws I.kIn (r.length.symm.trans l1) (rz.length.symm.trans l2)) r2 h) fun r s' hq => ?_)
  cases r with
  | error e => exact hx pins H s e s' I hq
  | ok fl =>
    cases fl with
    | ret u => exact I.after hq
    | next => exact False.elim hq
    | brk => exact False.elim hq
    | cont => exact False.elim hq
theorem pe_callKW (F : FnOk X.prog X.w X.K X.mg X.base CX k f fd ps sp) (hr : Room k X.A) (hg : Gl X x) (hm : X.mg x = some (.ref f)) (hk : PySem.W.keepIn X.K (.ref f) = true) (hb : KBn X.K fd ps n ks (fun us ws => us ++ ws) (fun vs zs => vs ++ zs)) (hx : ∀ σ, PassesAt CX X σ (E σ))
    (ha : PA X (e :: es) t) (hkw : PK X kws tk) (hall : (backToKw pos (keywordEach kws X.env)).all (·.1.isSome) = true := by rfl) (hks : (backToKw pos (keywordEach kws X.env)).filterMap (·.1) = ks := by rfl)
    (hdb : (x == ("__debug__" : Str)) = false := by decide) (he : starEach (e :: es) X.env = (false, eval e X.env) :: starEach es X.env := by rfl)
    (hpl : ((backTo pos (starEach (e :: es) X.env)).any (·.1) || (backToKw pos (keywordEach kws X.env)).any (·.1.isNone)) = false := by rfl) :
    PE X (.Call (.Name x p) (e :: es) kws pos) (tCallK n ks.length sp E t tk) := by
  refine ⟨fun pins s σ H Q I h => wpAny_Call_Name_kw (ld_glob I hg hm ?_ hdb)⟩
  refine PySem.W.callWith_KW (h₀ := X.base) I.ok.mod.kin hk hall (thn (ha.run pos pins s σ H _ I h) fun us s1 ⟨vs, H1, I1, r, q⟩ => ?_) hpl he
  refine thn (hkw.run pos pins s1 σ H1 _ I1 q) fun ws s2 ⟨zs, H2, I2, rz, l1, l2, q2⟩ => ⟨I2.kIn, ?_⟩
  rw [hks]
  exact run_fnK F hr hb (hx σ) I2 r rz l1 l2 q2
end
section
variable {E : En} {xb : XB} {w w0 w1 w2 : Wd} {L0 L : List Ow} {st st1 st2 : Sto} {H H1 H2 : Hp} {env : Env} {σ : L2.St} {P : Prog} {n : Nat} {W : WX}
abbrev RK (E : En) (n m : Nat) : List Ow → Wd → Sto → Hp → Env → L2.St → Hp → List V × List V → List SV → Prop := fun L0 w st H env σ B b a => VRs E L0 w st H env σ B (b.1 ++ b.2) a ∧ b.1.length = n ∧ b.2.length = m
abbrev SK (P : Prog) (n : Nat) (E : En) (xb : XB) (W : WX) (j m : Nat) (t tk : TA) (es : Exs) : Prop := SG P n E xb W (RK E j m) (fun σ H Q => t σ H fun vs H1 => tk σ H1 fun zs H2 => Q (vs, zs) H2) (fun c env st => evs c es env st)
theorem sk_nil {m : Nat} {tk : TA} {es : Exs} (h : SA P n E xb W tk es) (hm : es.len = m) : SK P n E xb W 0 m tNil tk es := by
  intro L0 L w env st σ H h0 S R r e Q hQ
  show tk σ H fun zs H2 => Q ([], zs) H2
  refine h L0 L w env st σ H h0 S R r e _ ?_
  cases r with
  | ex x st' => exact hQ
  | ok a st' => exact fun w' H' b S' f' r' => hQ w' H' ([], b) S' f' ⟨r', rfl, by rw [VRs.length r', evs_len e]; exact hm⟩
theorem sk_cons {j m : Nat} {te : TE} {t tk : TA} {e : Ex} {es : Exs} (he : SE P n E xb W te e) (hes : SK P n E xb W j m t tk es) : SK P n E xb W (j + 1) m (tCons te t) tk (.cons e es) := by
  intro L0 L w env st σ H h0 S R r h Q hQ
  show te σ H fun x H1 => t σ H1 fun vs H2 => tk σ H2 fun zs H3 => Q (x :: vs, zs) H3
  refine sg_go he h0 S R h hQ fun u st1 w1 H1 x S1 R1 f1 v1 h hQ => ?_
  have := sg_golk (Qt := fun b H => Q (x :: b.1, b.2) H) hes h0 S1 R1 v1.live h hQ fun us st2 w2 H2 xs S2 R2 f2 v2 h hQ => ?_
  · exact this
  · have e' : some (Out.ok (u :: us) st2) = some r := h
    cases e'
    obtain ⟨v2, k1, k2⟩ := v2
    refine hQ w2 H2 (x :: xs.1, xs.2) S2 (Fr.rfl' _) ⟨.cons (v1.fr f2 (fun o z => List.mem_append.mpr (.inr (h0 o z))) (fun o z => List.mem_append.mpr (.inl z))) (v2.base f1.dom) fun a y e1 e2 k => ?_, by show xs.1.length + 1 = _; rw [k1], k2⟩
    subst e1 e2
    have h1 := v2.own k
    cases v1 with
    | own k1 _ _ _ _ => obtain ⟨o, k2⟩ := k1.has; have h1' : H1 a = none := h1; rw [k2] at h1'; cases h1'
theorem se_callK {f j m : Nat} {t tk : TA} {es : Exs} (ha : SK P n E xb W j m t tk es) (hn : es.len = (P.fn f).np) : SE P n E xb W (tCallK j m (spT P E n f) (WE W) t tk) (.call f es) := by
  intro L0 L w env st σ H h0 S R r h Q hQ
  show t σ H fun vs H1 => tk σ H1 fun zs H2 => vs.length = j ∧ zs.length = m ∧ spT P E n f (vs ++ zs) H2 Q (WE W σ)
  have h' : rb (evs (P.cl (P.call n) L) es env st) (fun as st => (P.cl (P.call n) L).go f as st) = some r := h
  cases e : evs (P.cl (P.call n) L) es env st with
  | none => rw [e] at h'; cases h'
  | some o =>
    refine ha L0 L w env st σ H h0 S R o e (fun b H => b.1.length = j ∧ b.2.length = m ∧ spT P E n f (b.1 ++ b.2) H Q (WE W σ)) ?_
    rw [e] at h'
    cases o with
    | ex x st1 =>
      cases (show some (Out.ex x st1) = some r from h')
      exact hQ
    | ok as st1 =>
      intro w1 H1 vs S1 f1 v1
      exact ⟨v1.2.1, v1.2.2, go_ok h0 S1 v1.1 f1.dom ((evs_len e).trans hn) h' (hQ.from f1 fun _ _ _ _ _ z => z)⟩
end
section
variable {X : Cx} {g : Gm} {pa pb pe : Expr} {ps : List Expr} {a b e : Ex} {es : Exs} {pos pos2 : Pos} {ta tb : TE} {t tk : TA} {kws : List Keyword}
/-- the values behind the keywords -/
structure Dk (X : Cx) (g : Gm) (kws : List Keyword) (es : Exs) (m : Nat) (tk : TA) : Prop where
  p : PK X kws tk
  s : SA g.P g.n g.E g.xb g.W tk es
  l : es.len = m
theorem dk_nil : Dk X g [] .nil 0 tNil := ⟨pk_nil, sa_nil, rfl⟩
theorem dk_cons {m : Nat} {nm : Option Str} {kp : Pos} (h : De X g pa a ta) (h2 : Dk X g kws es m tk) : Dk X g (⟨nm, pa, kp⟩ :: kws) (.cons a es) (m + 1) (tCons ta tk) := ⟨pk_cons h.p h2.p, sa_cons h.s h2.s, by show es.len + 1 = _; rw [h2.l]⟩
structure Dak (X : Cx) (g : Gm) (ps : List Expr) (kws : List Keyword) (es : Exs) (j m : Nat) (t tk : TA) : Prop where
  p : PA X ps t
  k : PK X kws tk
  s : SK g.P g.n g.E g.xb g.W j m t tk es
theorem dak_nil {m : Nat} (h : Dk X g kws es m tk) : Dak X g [] kws es 0 m tNil tk := ⟨pa_nil, h.p, sk_nil h.s h.l⟩
theorem dak_cons {j m : Nat} (h : De X g pa a ta) (h2 : Dak X g ps kws es j m t tk) (hs : starEach (pa :: ps) X.env = (false, eval pa X.env) :: starEach ps X.env := by rfl) : Dak X g (pa :: ps) kws (.cons a es) (j + 1) m (tCons ta t) tk := ⟨pa_cons h.p h2.p hs, h2.k, sk_cons h.s h2.s⟩
theorem de_callK {kk j m : Nat} {x : Str} {f : Addr} {fi : Nat} {fd : FuncData} {nps ks : List Str} {np : Pos} (tkp : Takes X g.W) (F : FnOk X.prog X.w X.K X.mg X.base (L2.CX X.prog X.w) kk f fd nps (spT g.P g.E g.n fi)) (hr : Room kk X.A) (hg : Gl X x) (hm : X.mg x = some (.ref f)) (hkp : PySem.W.keepIn X.K (.ref f) = true) (hb : KBn X.K fd nps j ks (fun us ws => us ++ ws) (fun vs zs => vs ++ zs))
    (h : Dak X g (pa :: ps) kws es j m t tk) (hm2 : ks.length = m) (hn : es.len = (g.P.fn fi).np) (hall : (backToKw pos (keywordEach kws X.env)).all (·.1.isSome) = true := by rfl) (hks : (backToKw pos (keywordEach kws X.env)).filterMap (·.1) = ks := by rfl)
    (hdb : (x == ("__debug__" : Str)) = false := by decide) (he : starEach (pa :: ps) X.env = (false, eval pa X.env) :: starEach ps X.env := by rfl)
    (hpl : ((backTo pos (starEach (pa :: ps) X.env)).any (·.1) || (backToKw pos (keywordEach kws X.env)).any (·.1.isNone)) = false := by rfl) :
    De X g (.Call (.Name x np) (pa :: ps) kws pos) (.call fi es) (tCallK j m (spT g.P g.E g.n fi) (WE g.W) t tk) := by
  subst hm2
  exact ⟨pe_callKW F hr hg hm hkp hb (fun σ => passAt tkp σ) h.p h.k hall hks hdb he hpl, se_callK h.s hn⟩
end
end Tv

/-! enumerate of a list or a tuple -/
namespace Tv
open PySem L2 PySem.Spec PyProof.Rows
theorem meets_et (l : Addr) (xs : Array Value) (n : Nat) (dct : Option Addr) (sl : Array (Option Value)) : Meets (Builtin.«enumerate.__new__» ⟨[.type "enumerate", .ref l], []⟩) (fun _ R s => s.heap.get? l = some { cls := .type "tuple", dict := dct, data := .seq xs n, slots := sl } ∧
      R (.ok (.ret (.ref (zh1 true s.heap l).objs.size))) { s with heap := (zh1 true s.heap l).push { cls := .type "enumerate", data := .fields #[.none, .bool false, .ref s.heap.objs.size, rawInt 0, .none, .none] } }) :=
  .of_wp fun prog w A R s h => by
    obtain ⟨hp, g, d, tk, os⟩ := s
    obtain ⟨hl, h⟩ := h
    have hsub := sub_enumerate
    have f1 : Heap.IsTuple (Shared.heap ⟨hp, g, d, tk, os⟩) l xs := ⟨_, hl, rfl, n, rfl⟩
    wp_walk using wpAny_loadPart' hl
    refine wpAny_stack_any fun st => wpAny_pure ?_
    split
    · rename_i c _ _ _ _ _
      cases (c == Value.type "enumerate")
      · wp_walk using wpAny_loadPart' hl, wpAny_pyIter_tuple f1
        exact ⟨_, rfl, h⟩
      · wp_walk using wpAny_loadPart' hl, wpAny_pyIter_tuple f1
        exact ⟨_, rfl, h⟩
    · wp_walk using wpAny_loadPart' hl, wpAny_pyIter_tuple f1
      exact ⟨_, rfl, h⟩
section
variable {prog : Program} {w : World} {A : Around} {E : Value → Shared → Prop} {s : Shared}
theorem call_eg {b : Bool} {l : Addr} {xs : Array Value} {Q : Value → Shared → Prop} (hl : Sqg b s.heap l xs)
    (h : ∀ g, IsEnum g (s.heap.objs.size + 1) s.heap.objs.size 0 .none → Itg b g s.heap.objs.size l 0 → (∀ a t, s.heap.get? a = some t → g.get? a = some t) → Q (.ref (s.heap.objs.size + 1)) { s with heap := g }) :
    wpAny (model prog w) A (call (.type "enumerate") [.ref l]) Q E s := by
  cases b
  · exact call_enumerate_list hl fun g h1 h2 _ h3 => h g h1 h2 h3
  · obtain ⟨⟨c, dct, dt, sl⟩, ho, hc, n, hd⟩ := hl
    have hc' : c = .type "tuple" := hc
    have hd' : dt = .seq xs n := hd
    subst hc' hd'
    refine callType_new F.called_enumerate (by decide) (F.typeCall_enumerate_1 _) (F.newCall_enumerate_1 _) (fun o => F.args_object_init_2 o _) F.entry_enumerate_new (meets_et l xs n dct sl) ⟨ho, ?_⟩
    have n1 : (zh1 true s.heap l).objs.size = s.heap.objs.size + 1 := Heap.size_push ..
    have up {g : Heap} {o : Obj} {a : Addr} {t : Obj} (e : g.get? a = some t) : (g.push o).get? a = some t := Heap.get?_push_of_some _ e
    have e2 : ((zh1 true s.heap l).push { cls := .type "enumerate", data := .fields #[.none, .bool false, .ref s.heap.objs.size, rawInt 0, .none, .none] }).get? (zh1 true s.heap l).objs.size = some _ := Heap.get?_push_size _ rfl
    have e1 : ((zh1 true s.heap l).push { cls := .type "enumerate", data := .fields #[.none, .bool false, .ref s.heap.objs.size, rawInt 0, .none, .none] }).get? s.heap.objs.size = some (ob1 true l) := up (Heap.get?_push_size _ rfl)
    show _ ∧ _
    rw [n1] at e2 ⊢
    exact ⟨⟨_, e2, rfl⟩, h _ e2 (itg_ob1 e1) fun a t q => up (up q)⟩
theorem eg_item {b : Bool} {e i l : Addr} {n : Nat} {xs : Array Value} {x old : Value} {Q : Value → Shared → Prop} (he : IsEnum s.heap e i n old) (hi : Itg b s.heap i l n) (hl : Sqg b s.heap l xs) (hx : xs[n]? = some x) (hne : e ≠ i)
    (hQ : ∀ g, IsEnumOut g e i ((n : Int) + 1) x s.heap.objs.size → Itg b g i l (n + 1) → g.get? s.heap.objs.size = some { cls := .type "tuple", data := .seq #[.int n s.toks, x] } → g.objs.size = s.heap.objs.size + 1 →
      (∀ a t, a ≠ e → a ≠ i → s.heap.get? a = some t → g.get? a = some t) → Q (.ref s.heap.objs.size) { s with heap := g, toks := s.toks + 1 }) :
    wpAny (model prog w) A (Builtin.«enumerate.__next__» ⟨[.ref e], []⟩) (fun fin s1 => ∃ r, fin = .done (.ret r) ∧ Q r s1) E s := by
  obtain ⟨hp, gn, dr, tk, os⟩ := s
  show wpAny _ _ (field (.ref e) 2 >>= _) _ _ _
  apply wpAny_bind
  apply wpAny_field he rfl (x := .ref i) rfl
  apply wpAny_bind
  refine nxg_item hi hl hx fun g1 i1 s1 => ?_
  have s1' : Heap.SameBut i hp g1 := s1
  clear s1
  have e1 : IsEnum g1 e i n old := (s1'.2 e hne).trans he
  show wpAny _ _ (field (.ref e) 3 >>= _) _ _ ⟨g1, gn, dr, tk, os⟩
  apply wpAny_bind
  apply wpAny_field e1 rfl (x := rawInt n) rfl
  show wpAny _ _ (field (.ref e) 4 >>= _) _ _ ⟨g1, gn, dr, tk, os⟩
  apply wpAny_bind
  apply wpAny_field e1 rfl (x := .none) rfl
  show wpAny _ _ (mkInt n >>= _) _ _ ⟨g1, gn, dr, tk, os⟩
  apply wpAny_bind
  apply wpAny_mkInt
  show wpAny _ _ (setField (.ref e) 3 (rawInt ((n : Int) + 1)) >>= _) _ _ ⟨g1, gn, dr, tk + 1, os⟩
  apply wpAny_bind
  refine wpAny_setField_rec e1 (by simp) fun g2 e2 s2 => ?_
  have s2' : Heap.SameBut e g1 g2 := s2
  have e2' : IsEnum g2 e i ((n : Int) + 1) old := e2
  clear s2 e2
  show wpAny _ _ (setField (.ref e) 4 .none >>= _) _ _ ⟨g2, gn, dr, tk + 1, os⟩
  apply wpAny_bind
  refine wpAny_setField_rec e2' (by simp) fun g3 e3 s3 => ?_
  have s3' : Heap.SameBut e g2 g3 := s3
  have e3' : IsEnum g3 e i ((n : Int) + 1) old := e3
  clear s3 e3
  show wpAny _ _ (newTuple [.int n tk, x] >>= _) _ _ ⟨g3, gn, dr, tk + 1, os⟩
  apply wpAny_bind
  refine wpAny_newTuple ?_
  have e4 : IsEnum (g3.push { cls := .type "tuple", data := .seq #[.int n tk, x] }) e i ((n : Int) + 1) old := Heap.get?_push_of_some _ e3'
  have size3 : g3.objs.size = hp.objs.size := by rw [s3'.1, s2'.1, s1'.1]
  have elt : e < hp.objs.size := Heap.lt_size he
  have t4 : (g3.push { cls := .type "tuple", data := .seq #[.int n tk, x] }).get? hp.objs.size = some { cls := .type "tuple", data := .seq #[.int n tk, x] } := by rw [← size3]; exact Heap.get?_push_size _ rfl
  have size4 : (g3.push { cls := .type "tuple", data := .seq #[.int n tk, x] }).objs.size = hp.objs.size + 1 := by rw [Heap.size_push, size3]
  have k4 : ∀ a t, a ≠ e → a ≠ i → hp.get? a = some t → (g3.push { cls := .type "tuple", data := .seq #[.int n tk, x] }).get? a = some t := fun a t na ni q => Heap.get?_push_of_some _ (s3'.extBut a t na (s2'.extBut a t na (s1'.extBut a t ni q)))
  have i4 : Itg b (g3.push { cls := .type "tuple", data := .seq #[.int n tk, x] }) i l (n + 1) := i1.to fun t q => Heap.get?_push_of_some _ (s3'.extBut _ _ (Ne.symm hne) (s2'.extBut _ _ (Ne.symm hne) q))
  show wpAny _ _ (Builtin.SmallTypes.ownedTupleIsFree (.ref e) >>= _) _ _ ⟨(g3.push { cls := .type "tuple", data := .seq #[.int n tk, x] }), gn, dr, tk + 1, os⟩
  rw [size3]
  generalize (g3.push { cls := .type "tuple", data := .seq #[.int n tk, x] }) = g4 at *
  apply wpAny_bind
  unfold Builtin.SmallTypes.ownedTupleIsFree
  apply wpAny_bind
  apply wpAny_field e4 rfl (x := .none) rfl
  apply wpAny_pure
  simp only [if_true]
  apply wpAny_bind
  apply wpAny_rule
  apply wpAny_bind
  apply wpAny_field e4 rfl (x := old) rfl
  apply wpAny_bind
  refine wpAny_setField_rec e4 (by simp) fun g5 e5 s5 => ?_
  have s5' : Heap.SameBut e g4 g5 := s5
  have e5' : IsEnum g5 e i ((n : Int) + 1) x := e5
  clear s5 e5
  show wpAny _ _ (Builtin.SmallTypes.ownedTupleHandOut (.ref e) (.ref hp.objs.size) >>= _) _ _ ⟨g5, gn, dr, tk + 1, os⟩
  apply wpAny_bind
  unfold Builtin.SmallTypes.ownedTupleHandOut
  apply wpAny_bind
  refine wpAny_setField_rec e5' (by simp) fun g6 e6 s6 => ?_
  have s6' : Heap.SameBut e g5 g6 := s6
  have e6' : IsEnumOut g6 e i ((n : Int) + 1) x hp.objs.size := e6
  clear s6 e6
  refine wpAny_setField_rec e6' (by simp) fun g7 e7 s7 => ?_
  have s7' : Heap.SameBut e g6 g7 := s7
  have e7' : IsEnumOut g7 e i ((n : Int) + 1) x hp.objs.size := e7
  clear s7 e7
  have up : ∀ a t, a ≠ e → g4.get? a = some t → g7.get? a = some t := fun a t na q => s7'.extBut _ _ na (s6'.extBut _ _ na (s5'.extBut _ _ na q))
  apply wpAny_bind
  apply wpAny_letGo
  refine wpAny_pure ⟨_, rfl, hQ g7 e7' (i4.to fun t q => up _ t (Ne.symm hne) q) (up _ _ (Nat.ne_of_gt elt) t4) ?_ fun a t na ni q => up a t na (k4 a t na ni q)⟩
  rw [s7'.1, s6'.1, s5'.1, size4]
theorem next_eg {b : Bool} {e i l : Addr} {n : Nat} {xs : Array Value} {x old : Value} {Q : Option Value → Shared → Prop} (he : IsEnum s.heap e i n old) (hi : Itg b s.heap i l n) (hl : Sqg b s.heap l xs) (hx : xs[n]? = some x) (hne : e ≠ i)
    (hQ : ∀ g, IsEnumOut g e i ((n : Int) + 1) x s.heap.objs.size → Itg b g i l (n + 1) → g.get? s.heap.objs.size = some { cls := .type "tuple", data := .seq #[.int n s.toks, x] } → g.objs.size = s.heap.objs.size + 1 →
      (∀ a t, a ≠ e → a ≠ i → s.heap.get? a = some t → g.get? a = some t) → Q (some (.ref s.heap.objs.size)) { s with heap := g, toks := s.toks + 1 }) : wpAny (model prog w) A (pyNext (.ref e)) Q E s := by
  have ty : s.TypeIs (.ref e) "enumerate" := ⟨_, he, rfl⟩
  unfold pyNext
  refine wpAny_bind (wpAny_attempt (wpAny_callSpecial?_slot (name := Str.ofString "__next__") ty F.slot_enumerate_next ?_))
  exact wpAny_call_entry F.slot_enumerate_next ty F.entry_enumerate_next (eg_item he hi hl hx hne fun g a1 a2 a3 a4 a5 => wpAny_pure (hQ g a1 a2 a3 a4 a5)) (F.args_enumerate_next_1 _)
theorem stop_eg {b : Bool} {e i l : Addr} {n : Nat} {xs : Array Value} {old : Value} {Q : Option Value → Shared → Prop} (hh : A.handled = none) (he : IsEnum s.heap e i n old) (hi : Itg b s.heap i l n) (hl : Sqg b s.heap l xs) (hx : xs[n]? = none)
    (hQ : ∀ g, Heap.ExtBut i s.heap g → Q none { s with heap := g }) : wpAny (model prog w) A (pyNext (.ref e)) Q E s := by
  have ty : s.TypeIs (.ref e) "enumerate" := ⟨_, he, rfl⟩
  unfold pyNext
  refine wpAny_bind (wpAny_attempt (wpAny_callSpecial?_slot (name := Str.ofString "__next__") ty F.slot_enumerate_next ?_))
  refine wpAny_call_entry F.slot_enumerate_next ty F.entry_enumerate_next ?_ (F.args_enumerate_next_1 _)
  show wpAny _ _ (field (.ref e) 2 >>= _) _ _ _
  apply wpAny_bind
  apply wpAny_field he rfl (x := .ref i) rfl
  apply wpAny_bind
  refine nxg_end hh hi hl hx fun g x hg ⟨t, h1, h2⟩ => ?_
  exact wpAny_bind (wpAny_isInstance (T := "StopIteration") (b := true) ⟨t, h1, h2⟩ isSubtype_stop (wpAny_pure (hQ _ hg)))
end
/-- the rows at l, with their places -/
def Iteg (b : Bool) (K : PySem.W.Frag) (l : Addr) : L2.It where
  go i H := ∃ (xs : List V) (x : V), SqG b K H l xs ∧ xs[i]? = some x
  yld i H v H' := ∃ (t : Addr) (x : V), v = .ref t ∧ H t = none ∧ H' = upd H t (.tup [.int (i : Nat), x]) ∧ ∀ xs, SqG b K H l xs → xs[i]? = some x
  stop i H := ∃ xs : List V, SqG b K H l xs ∧ xs.length ≤ i
theorem turn_eg {P : Program} {w : World} {K : PySem.W.Frag} {elts : List Expr} {kk : Nat} {tpos : Pos} {b : Bool} {l e i1 : Addr} (D : e ≠ i1) :
    Turn P w K (.Tuple elts kk tpos) (Iteg b K l) [e, i1] e (fun i h => ∃ old, IsEnum h e i1 ((i : Nat) : Int) old ∧ Itg b h i1 l i) := by
  have two : ∀ {a : Addr}, a ∈ [e, i1] → a = e ∨ a = i1 := fun {a} h => by simpa using h
  refine ⟨by simp, fun i h st a ha => ?_, fun i h g st k => ?_, ?_, ?_, fun A i s Q E st h => ?_⟩
  · obtain ⟨old, h1, h2⟩ := st
    rcases two ha with q | q <;> subst q
    · exact ⟨_, h1, nofun⟩
    · exact h2.obj
  · obtain ⟨old, h1, h2⟩ := st
    exact ⟨old, k e (by simp) _ h1, h2.to fun t q => k i1 (by simp) t q⟩
  · intro X hP hw hK hc i pins s σ H E I hf st hg
    subst hP hw hK
    obtain ⟨old, he, hi⟩ := st
    obtain ⟨xs, x, q1, hx⟩ := hg
    obtain ⟨as, ra, pa⟩ := sqg_raw I q1
    obtain ⟨u, hu, ru⟩ := ra.get hx
    have elt : e < s.heap.objs.size := Heap.lt_size he
    refine next_eg he hi pa (x := u) (by simpa using hu) D fun g ge gi gt gs gk => ⟨_, rfl, wpAny_letOwnedTupleGo_enum (s := { s with heap := g, toks := s.toks + 1 }) ge fun g' ge' sb => ?_⟩
    have new : ObjOk X.prog X.w (upd H s.heap.objs.size (.tup [.int (i : Nat), x])) g' s.heap.objs.size (.tup [.int (i : Nat), x]) :=
      ⟨by show 2 ≤ sizeLine; decide, [.int i s.toks, u], .cons ⟨_, rfl⟩ (.cons ru .nil), _, (sb.2 _ (Nat.ne_of_gt elt)).trans gt, rfl, _, rfl⟩
    have old' : ∀ a t, a ∉ [e, i1] → s.heap.get? a = some t → g'.get? a = some t := fun a t na q => by
      have ne' : a ≠ e := fun z => na (by simp [z])
      exact (sb.2 a ne').trans (gk a t ne' (fun z => na (by simp [z])) q)
    refine ⟨.ref s.heap.objs.size, _, I.turnedNew (t' := s.toks + 1) (ch := [e, i1]) old' hf (Nat.le_refl _) new, rfl, ⟨_, x, rfl, I.hok.fresh (Nat.le_refl _), rfl, fun r hr => by rw [sqg_inj I hr q1]; exact hx⟩, ⟨u, ?_, gi.to fun t q => (sb.2 _ (Ne.symm D)).trans q⟩, fun a ha => ?_⟩
    · have e1 : ((i + 1 : Nat) : Int) = (i : Int) + 1 := by omega
      rw [e1]; exact ge'
    · have lt : a < s.heap.objs.size := by
        obtain ⟨t, h1, _⟩ := hi.obj
        rcases two ha with q | q <;> subst q
        · exact elt
        · exact Heap.lt_size h1
      rw [upd_ne (Nat.ne_of_lt lt)]
      exact (hf a ha).1
  · intro X hP hw hK hc i pins s σ H E I hf st hg
    subst hP hw hK
    obtain ⟨old, he, hi⟩ := st
    obtain ⟨xs, q1, hend⟩ := hg
    obtain ⟨as, ra, pa⟩ := sqg_raw I q1
    have n1 := ra.length
    obtain ⟨f0, f1, f2, f3, f4, f5⟩ := hf i1 (by simp)
    exact stop_eg (I.ok.hd hc) he hi pa (by simp; omega) fun g gk => ⟨rfl, I.turned (t' := s.toks) (fun a t na q => gk a t na q) f0 f1 f3 f4 f5⟩
  · obtain ⟨old, he, _⟩ := st
    exact wpAny_pyIter_enum he h
def iEnumG (K : PySem.W.Frag) (te : TE) : TI := fun σ H R => te σ H fun v H1 => ∃ (b : Bool) (l : Addr) (xs : List V), v = .ref l ∧ SqG b K H1 l xs ∧ R (Iteg b K l) H1
theorem pi_enumG {X : Cx} {e : Expr} {te : TE} {p pos tpos : Pos} {elts : List Expr} {kk : Nat} (hg : Gl X "enumerate") (hm : X.mg "enumerate" = none) (he : PE X e te) (hs : starEach [e] X.env = (false, eval e X.env) :: starEach [] X.env := by rfl) :
    PI X (.Tuple elts kk tpos) (.Call (.Name "enumerate" p) [e] [] pos) (iEnumG X.K te) := by
  refine ⟨fun pins s σ H R I h => ?_⟩
  refine Call_ (ld_blt I hg hm boot_enumerate (PyProof.Rows.callWith_type1 (PyProof.Rows.args_cons (thn (he.run pins s σ H _ I h) fun u s1 ⟨v, H1, I1, r1, q1⟩ => PyProof.Rows.args_nil ?_) hs) hs rfl))
  obtain ⟨b, l, xs, ex, h1, q⟩ := q1
  subst ex
  cases r1
  obtain ⟨as, ra, pa⟩ := sqg_raw I1 h1
  refine call_eg pa fun g ge gi gk => wpAny_pyIter_enum ge ?_
  have I2 : Inv X pins σ H1 { s1 with heap := g } := I1.kept (t' := s1.toks) gk
  refine ⟨_, [s1.heap.objs.size + 1, s1.heap.objs.size], _, _, H1, rfl, I2, turn_eg (Nat.succ_ne_self _), ⟨_, ge, gi⟩, fun a ha => ?_, q⟩
  have e' : a = s1.heap.objs.size + 1 ∨ a = s1.heap.objs.size := by simpa using ha
  have le : s1.heap.objs.size ≤ a := by rcases e' with q | q <;> rw [q] <;> simp
  exact I1.fpOk le (I1.hok.fresh le)
section
variable {E : En} {xb : XB} {w w0 w1 w2 : Wd} {L0 L L' l Lk Lm : List Ow} {st st0 st1 st2 : Sto} {H H1 H2 B B' : Hp} {env env1 env' : Env} {σ σ1 σ' : L2.St} {v : V} {s : SV} {j i : Nat} {p q : Addr} {P : Prog} {n : Nat} {W : WX} {b : Bool}
theorem its_enum {xs : List D} : ItS E (Iteg b E.K q) (xs.zipIdx.map fun p => .tup [.int (0 + p.2), p.1]) (fun s => Vw E Lk b q xs s) := by
  refine ⟨fun L w env st σ H i x S h e => ?_, fun s i h hi => ?_⟩
  · obtain ⟨us, h1, h2⟩ := h.sqg
    rw [List.getElem?_map, List.getElem?_zipIdx] at e
    cases ez : xs[i]? with
    | none => rw [ez] at e; cases e
    | some z =>
      rw [ez] at e
      have e' : D.tup [.int (0 + ((0 + i : Nat) : Int)), z] = x := Option.some.inj e
      have e2 : D.tup [.int (i : Int), z] = x := by
        rw [← e']
        congr 3
        omega
      subst e2
      obtain ⟨u, h3, h4⟩ := h1.get ez
      refine ⟨⟨us, u, h2, h3⟩, fun y H' hy => ?_⟩
      obtain ⟨t, y1, rfl, ht, rfl, f1⟩ := hy
      have e1 := f1 us h2
      rw [h3] at e1
      cases e1
      exact ⟨S.lay ht, Fr.lay S ht, .tup (.inl upd_same) (.cons (.int _) (.cons (h4.mono (List.prefix_refl _) (tm_lay ht)) .nil))⟩
  · obtain ⟨us, h1, h2⟩ := h.sqg
    refine ⟨us, h2, ?_⟩
    rw [h1.length]
    rw [List.length_map, List.length_zipIdx] at hi
    exact hi
theorem si_enum {te : TE} {e : Ex} (h : SE P n E xb W te e) : SIt P n E xb W (iEnumG E.K te) (.enum e 0) := by
  intro L0 L w env st σ H h0 S R r h2 Q hQ
  show te σ H fun v H1 => ∃ (b : Bool) (l : Addr) (xs : List V), v = .ref l ∧ SqG b E.K H1 l xs ∧ Q (Iteg b E.K l) H1
  refine sg_go h h0 S R h2 hQ fun u st1 w1 H1 x S1 R1 f1 v1 h3 hQ => ?_
  cases e0 : itRow u st1 with
  | none => rw [e0] at h3; cases h3
  | some o =>
    rw [e0] at h3
    unfold itRow at e0
    split at e0
    · rename_i t xs e1
      cases ok_inj e0
      cases ok_inj (show ok (⟨xs.zipIdx.map fun p => .tup [.int (0 + p.2), p.1], stayOf u⟩ : Ito) st1 = some r from h3)
      obtain ⟨q, rfl, h4⟩ := v1.vw S1 (sod_base R) e1
      obtain ⟨us, _, h5⟩ := h4.sqg
      exact ⟨t, q, us, rfl, h5, okr_now hQ S1 ⟨stay_live v1 e1, _, h4, fun s s' f k => k.stp f, its_enum⟩⟩
    · cases e0
end
section
variable {X : Cx} {g : Gm} {pa : Expr} {a : Ex} {pos : Pos} {ta : TE}
theorem di_enum {np tpos : Pos} {elts : List Expr} {kk : Nat} (hK : X.K = g.E.K) (hg : Gl X "enumerate") (hm : X.mg "enumerate" = none) (h : De X g pa a ta) (hs : starEach [pa] X.env = (false, eval pa X.env) :: starEach [] X.env := by rfl) :
    Di X g (.Tuple elts kk tpos) (.Call (.Name "enumerate" np) [pa] [] pos) (.enum a 0) (iEnumG g.E.K ta) := ⟨hK ▸ pi_enumG hg hm h.p hs, si_enum h.s⟩
end
end Tv

/-! instances: fields read, methods, properties -/
namespace Tv
open PySem L2 PySem.Spec PyProof.Rows
/-- what the text says of the classes and their fields -/
def Enk (E : En) : Prop := ∀ C f, (C, f) ∈ E.fl → Cls E.K (E.cls C) ∧ NoAttr E.K (E.cls C) f
section
variable {E : En} {xb : XB} {w w0 w1 w2 w' : Wd} {L0 L L' l Lk : List Ow} {st st0 st1 st2 st' : Sto} {H H1 H2 B B' J : Hp} {env env1 env' : Env} {σ σ1 σ' σ2 : L2.St} {v : V} {s : SV} {vs : List V} {ss as : List SV} {j i k C : Nat} {p : Addr} {P : Prog} {n : Nat} {W : WX} {X : Cx} {f : Str} {fs : List (Str × FV)}
theorem ins_inv (e : insAt st s = some (i, C, fs)) : s = .d (.ref i) ∧ st[i]? = some (.ins C fs) := by
  unfold insAt at e
  split at e
  · split at e
    · rename_i k C' fs' e2
      cases e
      exact ⟨rfl, e2⟩
    · cases e
  · cases e
theorem ins_of (S : SR E w L st H) (hx : Rv E w.ad H v (.ref i)) (e : st[i]? = some (.ins C fs)) : ∃ a dx fv, v = .ref a ∧ w.ad[i]? = some a ∧ H a = some (.ins (E.cls C) dx fv) ∧ FsR E w st H i fv fs := by
  obtain ⟨a, rfl, e1⟩ := hx.ref_of
  obtain ⟨b, e2, dx, fv, h1, h2⟩ := S.cell i _ e
  rw [e1] at e2
  cases e2
  exact ⟨a, dx, fv, rfl, e1, h1, h2⟩
theorem ok_names (hE : Enk E) (S : SR E w L st H) (e : st[i]? = some (.ins C fs)) {x : FV} (hf : fs.lookup f = some x) : Cls E.K (E.cls C) ∧ NoAttr E.K (E.cls C) f :=
  hE C f ((S.nd i C fs e).2 f (List.mem_map.mpr ⟨_, mem_lookup hf, rfl⟩))
theorem se_attr {ta : TE} {a : Ex} (hE : Enk E) (ha : SE P n E xb W ta a) : SE P n E xb W (tFld E.K ta f) (.attr a f) := by
  intro L0 L w env st σ H h0 S R r h Q hQ
  show ta σ H fun x H1 => ∃ a C dx fs v, x = .ref a ∧ H1 a = some (.ins C dx fs) ∧ Cls E.K C ∧ NoAttr E.K C f ∧ fs.lookup f = some v ∧ Q v H1
  refine sg_go ha h0 S R h hQ fun u st1 w1 H1 x S1 R1 f1 v1 h hQ => ?_
  unfold attr at h
  split at h
  · rename_i i
    split at h
    · rename_i C fs e
      obtain ⟨a, dx, fv, rfl, e1, h1, h2⟩ := ins_of S1 v1.dd e
      split at h
      · rename_i y e2
        cases ok_inj h
        obtain ⟨c1, c2⟩ := ok_names hE S1 e e2
        obtain ⟨v, k1, k2⟩ := h2.get e2
        cases k2 with
        | d k2 => exact ⟨a, _, dx, fv, v, rfl, h1, c1, c2, k1, okr_now hQ S1 (.d k2)⟩
      · rename_i y e2
        cases ok_inj h
        obtain ⟨c1, c2⟩ := ok_names hE S1 e e2
        obtain ⟨v, k1, k2⟩ := h2.get e2
        cases k2 with
        | c k2 => exact ⟨a, _, dx, fv, _, rfl, h1, c1, c2, k1, okr_now hQ S1 (.atF k2 ⟨C, fs, y, e, mem_lookup e2⟩)⟩
      · rename_i y e2
        cases ok_inj h
        obtain ⟨c1, c2⟩ := ok_names hE S1 e e2
        obtain ⟨m, v, i1, i2, k1, k2⟩ := h2.idx e2
        cases k2 with
        | z k2 k3 => exact ⟨a, _, dx, fv, _, rfl, h1, c1, c2, k1, okr_now hQ S1 (.par k2 (.inl k3) (R1.zs _ ⟨i, a, C, fs, _, dx, fv, f, y, m, e, e1, h1, i1, i2⟩))⟩
      · cases h
    · cases h
  · cases h
/-! methods -/
def tMth (C : Addr) (m : Str) (sp : Sp) (Y : L2.St → XK) (ta : TE) (t : TA) : TE := fun σ H Q => ta σ H fun x H1 => ∃ a dx fs, x = .ref a ∧ H1 a = some (.ins C dx fs) ∧ fs.lookup m = none ∧ t σ H1 fun vs H2 => sp (x :: vs) H2 Q (Y σ)
section
variable {CX : CXT} {C f : Addr} {fd : FuncData} {ps : List Str} {sp : Sp} {Y : L2.St → XK} {x m : Str} {p pos apos : Pos} {e o : Expr} {es : List Expr} {ta : TE} {t : TA}
theorem pe_mthT {pl : Sem Bool} (he : PE X o ta) (c : Cls X.K C) (hm : Meth X.K C m f) (F : FnOk X.prog X.w X.K X.mg X.base CX k f fd ps sp) (hr : Room k X.A) (hb : Binds X.K fd ps []) (hx : ∀ σ, PassesAt CX X σ (Y σ)) (ha : PA X (e :: es) t)
    (hst : starEach (e :: es) X.env = (false, eval e X.env) :: starEach es X.env := by rfl) (hpl : (backTo pos (starEach es X.env)).any (·.1) = false := by rfl)
    (ht : eval (.Call (.Attribute o m apos) (e :: es) [] pos) X.env = (do
      let ov ← eval o X.env
      standAt apos.atName
      let (f, first) ← holding [ov] (getMethod ov m pl)
      callWith pos f first (backTo pos (starEach (e :: es) X.env)) (backToKw pos (keywordEach [] X.env))) := by rfl) :
    PE X (.Call (.Attribute o m apos) (e :: es) [] pos) (tMth C m sp Y ta t) := by
  refine ⟨fun pins s σ H Q I h => ?_⟩
  refine PySem.W.methodCall_KW (pl := pl) (thn (he.run pins s σ H _ I h) fun u s1 ⟨x, H1, I1, rx, a, dx, fs, ex, ea, l, q⟩ => ?_) ht
  subst ex
  obtain rfl : u = Value.ref a := rx
  refine getmeth_ok I1 ea c hm l ?_
  refine PySem.W.callWith_K (first := [.ref a]) (h₀ := X.base) I.ok.mod.kin hm.kp (thn (ha.run pos pins s1 σ H1 _ I1 q) fun us s2 ⟨vs, H2, I2, r, q2⟩ => ⟨I2.kIn, ?_⟩) hst hpl
  exact run_fnS (us := .ref a :: us) (vs := .ref a :: vs) F hr hb (hx σ) I2 (.cons rfl r) q2
theorem pe_mthT0 {pl : Sem Bool} (he : PE X o ta) (c : Cls X.K C) (hm : Meth X.K C m f) (F : FnOk X.prog X.w X.K X.mg X.base CX k f fd ps sp) (hr : Room k X.A) (hb : Binds X.K fd ps []) (hx : ∀ σ, PassesAt CX X σ (Y σ))
    (ht : eval (.Call (.Attribute o m apos) [] [] pos) X.env = (do
      let ov ← eval o X.env
      standAt apos.atName
      let (f, first) ← holding [ov] (getMethod ov m pl)
      callWith pos f first (backTo pos (starEach [] X.env)) (backToKw pos (keywordEach [] X.env))) := by rfl) :
    PE X (.Call (.Attribute o m apos) [] [] pos) (tMth C m sp Y ta tNil) := by
  refine ⟨fun pins s σ H Q I h => ?_⟩
  refine PySem.W.methodCall_KW (pl := pl) (thn (he.run pins s σ H _ I h) fun u s1 ⟨x, H1, I1, rx, a, dx, fs, ex, ea, l, q⟩ => ?_) ht
  subst ex
  obtain rfl : u = Value.ref a := rx
  refine getmeth_ok I1 ea c hm l ?_
  exact PySem.W.callWith_K0 (first := [.ref a]) I1.kIn hm.kp (run_fnS (us := [.ref a]) (vs := [.ref a]) F hr hb (hx σ) I1 (.cons rfl .nil) q)
theorem pe_either {t1 t2 : TE} (h1 : PE X e t1) (h2 : PE X e t2) : PE X e (fun σ H Q => t1 σ H Q ∨ t2 σ H Q) := ⟨fun pins s σ H Q I h => h.elim (h1.run pins s σ H Q I) (h2.run pins s σ H Q I)⟩
end
theorem se_meth {a : Ex} {fi : Nat} {m : Str} {ta : TE} {t : TA} {es : Exs} (hm : (C, m) ∉ E.fl) (ha : SE P n E xb W ta a) (hes : SA P n E xb W t es) (hn : es.len + 1 = (P.fn fi).np) : SE P n E xb W (tMth (E.cls C) m (spT P E n fi) (WE W) ta t) (.meth a [(C, fi)] es) := by
  intro L0 L w env st σ H h0 S R r h Q hQ
  show ta σ H fun x H1 => ∃ a dx fs, x = .ref a ∧ H1 a = some (.ins (E.cls C) dx fs) ∧ fs.lookup m = none ∧ t σ H1 fun vs H2 => spT P E n fi (x :: vs) H2 Q (WE W σ)
  refine sg_go ha h0 S R h hQ fun u st1 w1 H1 x S1 R1 f1 v1 h hQ => ?_
  split at h
  · rename_i i C' fs e
    obtain ⟨rfl, e0⟩ := ins_inv e
    obtain ⟨a, dx, fv, rfl, e1, h1, h2⟩ := ins_of S1 v1.dd e0
    split at h
    · rename_i f' e2
      have e2' : (match C' == C with | true => some fi | false => List.lookup C' []) = some f' := by rw [List.lookup_cons] at e2; exact e2
      have hC : C = C' ∧ fi = f' := by
        cases hb : C' == C with
        | true => rw [hb] at e2'; cases e2'; exact ⟨(by simpa using hb : C' = C).symm, rfl⟩
        | false => rw [hb] at e2'; cases e2'
      obtain ⟨rfl, rfl⟩ := hC
      · have hl' : fs.lookup m = none := by
          cases hl : fs.lookup m with
          | none => rfl
          | some y => exact absurd ((S1.nd i _ fs e0).2 m (List.mem_map.mpr ⟨_, mem_lookup hl, rfl⟩)) hm
        refine ⟨a, dx, fv, rfl, h1, h2.none hl', ?_⟩
        have h' : rb (evs (P.cl (P.call n) L) es env st1) (fun as st => (P.cl (P.call n) L).go fi (.d (.ref i) :: as) st) = some r := h
        cases e3 : evs (P.cl (P.call n) L) es env st1 with
        | none => rw [e3] at h'; cases h'
        | some o =>
          refine hes L0 L w1 env st1 σ H1 h0 S1 R1 o e3 _ ?_
          rw [e3] at h'
          cases o with
          | ex y st2 =>
            cases (show some (Out.ex y st2) = some r from h')
            exact hQ
          | ok as st2 =>
            intro w2 H2 vs S2 f2 v2
            refine go_ok (ss := .d (.ref i) :: as) (B := H) h0 S2 (.cons (.d (.ref (pre_get f2.ad e1))) (v2.base f1.dom) fun b y _ e4 => by cases e4) (fun q z => f1.dom q (f2.dom q z)) (by rw [List.length_cons, evs_len e3]; exact hn) h' (hQ.from f2 fun _ _ _ _ _ z => z)
    · cases h
  · cases h
/-- several classes have the method -/
theorem se_methOr {a : Ex} {es : Exs} {q : Nat × Nat} {cs : List (Nat × Nat)} {t1 t2 : TE} (h1 : SE P n E xb W t1 (.meth a [q] es)) (h2 : SE P n E xb W t2 (.meth a cs es)) : SE P n E xb W (fun σ H Q => t1 σ H Q ∨ t2 σ H Q) (.meth a (q :: cs) es) := by
  intro L0 L w env st σ H h0 S R r h Q hQ
  have key : ev (P.cl (P.call n) L) (.meth a [q] es) env st = some r ∨ ev (P.cl (P.call n) L) (.meth a cs es) env st = some r := by
    have h' : rb (ev (P.cl (P.call n) L) a env st) (fun u st => match insAt st u with
      | some (i, C, fs) => match (q :: cs).lookup C with
        | some f => rb (evs (P.cl (P.call n) L) es env st) fun as st => (P.cl (P.call n) L).go f (.d (.ref i) :: as) st
        | none => none
      | none => none) = some r := h
    show rb (ev (P.cl (P.call n) L) a env st) (fun u st => match insAt st u with
      | some (i, C, fs) => match [q].lookup C with
        | some f => rb (evs (P.cl (P.call n) L) es env st) fun as st => (P.cl (P.call n) L).go f (.d (.ref i) :: as) st
        | none => none
      | none => none) = some r ∨ rb (ev (P.cl (P.call n) L) a env st) (fun u st => match insAt st u with
      | some (i, C, fs) => match cs.lookup C with
        | some f => rb (evs (P.cl (P.call n) L) es env st) fun as st => (P.cl (P.call n) L).go f (.d (.ref i) :: as) st
        | none => none
      | none => none) = some r
    generalize ev (P.cl (P.call n) L) a env st = ra at h' ⊢
    cases ra with
    | none => cases h'
    | some o =>
      cases o with
      | ex y st1 => exact .inl h'
      | ok u st1 =>
        have h2 : (match insAt st1 u with
          | some (i, C, fs) => match (q :: cs).lookup C with
            | some f => rb (evs (P.cl (P.call n) L) es env st1) fun as st => (P.cl (P.call n) L).go f (.d (.ref i) :: as) st
            | none => none
          | none => none) = some r := h'
        show (match insAt st1 u with
          | some (i, C, fs) => match [q].lookup C with
            | some f => rb (evs (P.cl (P.call n) L) es env st1) fun as st => (P.cl (P.call n) L).go f (.d (.ref i) :: as) st
            | none => none
          | none => none) = some r ∨ (match insAt st1 u with
          | some (i, C, fs) => match cs.lookup C with
            | some f => rb (evs (P.cl (P.call n) L) es env st1) fun as st => (P.cl (P.call n) L).go f (.d (.ref i) :: as) st
            | none => none
          | none => none) = some r
        generalize insAt st1 u = ri at h2 ⊢
        cases ri with
        | none => cases h2
        | some t =>
          obtain ⟨i, C, fs⟩ := t
          obtain ⟨c, f⟩ := q
          simp only [List.lookup_cons] at h2 ⊢
          generalize (C == c) = bb at h2 ⊢
          cases bb with
          | true => exact .inl h2
          | false => exact .inr h2
  rcases key with key | key
  · exact .inl (h1 L0 L w env st σ H h0 S R r key Q hQ)
  · exact .inr (h2 L0 L w env st σ H h0 S R r key Q hQ)
/-! properties -/
theorem se_prop {a : Ex} {fi : Nat} {m : Str} {ta : TE} (ha : SE P n E xb W ta a) (hn : 1 = (P.fn fi).np) : SE P n E xb W (tProp (E.cls C) (spT P E n fi) [] (fun _ _ _ => False) ta) (.prop a [(C, fi)]) := by
  intro L0 L w env st σ H h0 S R r h Q hQ
  show ta σ H fun x H1 => ∃ a dx fs, x = .ref a ∧ H1 a = some (.ins (E.cls C) dx fs) ∧ spT P E n fi (.ref a :: []) H1 Q fun _ _ _ => False
  refine sg_go ha h0 S R h hQ fun u st1 w1 H1 x S1 R1 f1 v1 h hQ => ?_
  split at h
  · rename_i i C' fs e
    obtain ⟨rfl, e0⟩ := ins_inv e
    obtain ⟨a, dx, fv, rfl, e1, h1, h2⟩ := ins_of S1 v1.dd e0
    split at h
    · rename_i f' e2
      have e2' : (match C' == C with | true => some fi | false => List.lookup C' []) = some f' := by rw [List.lookup_cons] at e2; exact e2
      have hC : C = C' ∧ fi = f' := by
        cases hb : C' == C with
        | true => rw [hb] at e2'; cases e2'; exact ⟨(by simpa using hb : C' = C).symm, rfl⟩
        | false => rw [hb] at e2'; cases e2'
      obtain ⟨rfl, rfl⟩ := hC
      · refine ⟨a, dx, fv, rfl, h1, ?_⟩
        cases eg : (P.cl (P.call n) L).go fi [.d (.ref i)] st1 with
        | none => rw [eg] at h; cases h
        | some o =>
          rw [eg] at h
          cases o with
          | ex y st2 => cases h
          | ok sv st2 =>
            cases (show some (Out.ok sv st2) = some r from h)
            have := go_ok (W := WF) (Q := Q) (ss := [.d (.ref i)]) (vs := [.ref a]) (B := H) h0 S1 (.cons (.d (.ref e1)) .nil fun b y _ e4 => by cases e4) f1.dom hn eg hQ
            exact this
    · cases h
  · cases h
end
section
variable {X : Cx} {g : Gm} {pa pb pe : Expr} {ps : List Expr} {a b e : Ex} {es : Exs} {pos apos : Pos} {ta tb : TE} {f : Str}
theorem de_attr (hE : Enk g.E) (hK : X.K = g.E.K) (h : De X g pa a ta) (hb : attributeBase pa f X.env (eval pa X.env) = eval pa X.env := by rfl) : De X g (.Attribute pa f pos) (.attr a f) (tFld g.E.K ta f) := ⟨hK ▸ pe_fld h.p hb, se_attr hE h.s⟩
theorem de_prop {kk C fi : Nat} {fa p : Addr} {fd : FuncData} {nps : List Str} (cl : Cls X.K (g.E.cls C)) (hp : PropOf X.K (g.E.cls C) f p fa) (F : FnOk X.prog X.w X.K X.mg X.base (L2.CX X.prog X.w) kk fa fd nps (spT g.P g.E g.n fi)) (hr : Room (kk + 1) X.A) (hb : Binds X.K fd nps [])
    (h : De X g pa a ta) (hn : 1 = (g.P.fn fi).np) (hab : attributeBase pa f X.env (eval pa X.env) = eval pa X.env := by rfl) : De X g (.Attribute pa f pos) (.prop a [(C, fi)]) (tProp (g.E.cls C) (spT g.P g.E g.n fi) [] (fun _ _ _ => False) ta) :=
  ⟨pe_prop h.p cl hp F hr hb .nil (fun _ _ _ _ _ _ _ z => (cx_false z).elim) hab, se_prop (m := f) h.s hn⟩
theorem de_meth {kk C fi : Nat} {m : Str} {fa : Addr} {fd : FuncData} {nps : List Str} {tas : TA} (tk : Takes X g.W) (cl : Cls X.K (g.E.cls C)) (hm : Meth X.K (g.E.cls C) m fa) (F : FnOk X.prog X.w X.K X.mg X.base (L2.CX X.prog X.w) kk fa fd nps (spT g.P g.E g.n fi)) (hr : Room kk X.A) (hb : Binds X.K fd nps []) (hnm : (C, m) ∉ g.E.fl)
    (h : De X g pa a ta) (h2 : Da X g (pb :: ps) es tas) (hn : es.len + 1 = (g.P.fn fi).np) (hst : starEach (pb :: ps) X.env = (false, eval pb X.env) :: starEach ps X.env := by rfl) (hpl : (backTo pos (starEach ps X.env)).any (·.1) = false := by rfl) {pl : Sem Bool}
    (ht : eval (.Call (.Attribute pa m apos) (pb :: ps) [] pos) X.env = (do
      let ov ← eval pa X.env
      standAt apos.atName
      let (f, first) ← holding [ov] (getMethod ov m pl)
      callWith pos f first (backTo pos (starEach (pb :: ps) X.env)) (backToKw pos (keywordEach [] X.env))) := by rfl) :
    De X g (.Call (.Attribute pa m apos) (pb :: ps) [] pos) (.meth a [(C, fi)] es) (tMth (g.E.cls C) m (spT g.P g.E g.n fi) (WE g.W) ta tas) :=
  ⟨pe_mthT (pl := pl) h.p cl hm F hr hb (fun σ => passAt tk σ) h2.p hst hpl ht, se_meth hnm h.s h2.s hn⟩
theorem de_meth0 {kk C fi : Nat} {m : Str} {fa : Addr} {fd : FuncData} {nps : List Str} (tk : Takes X g.W) (cl : Cls X.K (g.E.cls C)) (hm : Meth X.K (g.E.cls C) m fa) (F : FnOk X.prog X.w X.K X.mg X.base (L2.CX X.prog X.w) kk fa fd nps (spT g.P g.E g.n fi)) (hr : Room kk X.A) (hb : Binds X.K fd nps []) (hnm : (C, m) ∉ g.E.fl)
    (h : De X g pa a ta) (hn : 1 = (g.P.fn fi).np) {pl : Sem Bool}
    (ht : eval (.Call (.Attribute pa m apos) [] [] pos) X.env = (do
      let ov ← eval pa X.env
      standAt apos.atName
      let (f, first) ← holding [ov] (getMethod ov m pl)
      callWith pos f first (backTo pos (starEach [] X.env)) (backToKw pos (keywordEach [] X.env))) := by rfl) :
    De X g (.Call (.Attribute pa m apos) [] [] pos) (.meth a [(C, fi)] .nil) (tMth (g.E.cls C) m (spT g.P g.E g.n fi) (WE g.W) ta tNil) :=
  ⟨pe_mthT0 (pl := pl) h.p cl hm F hr hb (fun σ => passAt tk σ) ht, se_meth hnm h.s sa_nil hn⟩
theorem de_methOr {q : Nat × Nat} {cs : List (Nat × Nat)} {t1 t2 : TE} (h1 : De X g pe (.meth a [q] es) t1) (h2 : De X g pe (.meth a cs es) t2) : De X g pe (.meth a (q :: cs) es) (fun σ H Q => t1 σ H Q ∨ t2 σ H Q) := ⟨pe_either h1.p h2.p, se_methOr h1.s h2.s⟩
end
end Tv

/-! instances made -/
namespace Tv
open PySem L2 PySem.Spec PyProof.Rows
def tMkS (C : Addr) (sp : Sp) (dvs : List V) (Y : L2.St → XK) (t : TA) : TE := fun σ H Q => t σ H fun vs H1 => ∀ x dx, H1 x = none → H1 dx = none → dx ≠ x →
  sp (.ref x :: (vs ++ dvs)) (upd (upd H1 dx (.own x)) x (.ins C dx [])) (fun v H2 => v = .non ∧ Q (.ref x) H2) (Y σ)
def tMkK (C : Addr) (n m : Nat) (sp : Sp) (gV : List V → List V → List V) (Y : L2.St → XK) (t tk : TA) : TE := fun σ H Q => t σ H fun vs H1 => tk σ H1 fun zs H2 => vs.length = n ∧ zs.length = m ∧ ∀ x dx, H2 x = none → H2 dx = none → dx ≠ x →
  sp (gV (.ref x :: vs) zs) (upd (upd H2 dx (.own x)) x (.ins C dx [])) (fun v H3 => v = .non ∧ Q (.ref x) H3) (Y σ)
section
variable {X : Cx} {CX : CXT} {k n : Nat} {C f : Addr} {fd : FuncData} {ps ks : List Str} {sp : Sp} {dvs : List V} {ds : List Value} {Y : L2.St → XK} {x : Str} {p pos : Pos} {e : Expr} {es : List Expr} {kws : List Keyword} {t tk : TA} {g : List Value → List Value → List Value} {gV : List V → List V → List V}
theorem run_mkS {pins : List (Addr × Obj)} {σ : L2.St} {H : Hp} {s : Shared} {Q : VK} {us : List Value} {vs : List V} (M : Mk X.K C f) (F : FnOk X.prog X.w X.K X.mg X.base CX k f fd ps sp) (hr : Room (k + 1) X.A) (hb : Binds X.K fd ps ds) (hd : Vals dvs ds)
    (hx : ∀ σ, PassesAt CX X σ (Y σ)) (I : Inv X pins σ H s) (r : Vals vs us)
    (h : ∀ x dx, H x = none → H dx = none → dx ≠ x → sp (.ref x :: (vs ++ dvs)) (upd (upd H dx (.own x)) x (.ins C dx [])) (fun v H2 => v = .non ∧ Q (.ref x) H2) (Y σ)) :
    wpAny (model X.prog X.w) X.A (call (.ref C) us) (EP X pins σ Q) X.xe s := by
  have hq := h (s.heap.objs.size + 1) s.heap.objs.size (I.hok.fresh (Nat.le_succ _)) (I.hok.fresh (Nat.le_refl _)) (Nat.ne_of_lt (Nat.lt_succ_self _))
  have I2 := Inv.made (C := C) I
  have r2 : Vals (V.ref (s.heap.objs.size + 1) :: (vs ++ dvs)) (Value.ref (s.heap.objs.size + 1) :: (us ++ ds)) := .cons rfl (r.append hd)
  have hl : (Value.ref (s.heap.objs.size + 1) :: us ++ ds).length = ps.length := by
    have e := r2.length
    rw [F.len _ _ _ _ hq] at e
    exact e.symm
  refine wpAny_call (make_map (f := f) I.kIn M.makes M.init (beq_iff_eq.mp M.fn) (codeAny_mono (F.run _ X.stack _ _ ⟨Value.ref (s.heap.objs.size + 1) :: us, []⟩ (Value.ref (s.heap.objs.size + 1) :: (us ++ ds)) _ _ (Y σ) (hr.make C us [])
    (I2.env0.make C us []) (hb _ (Value.ref (s.heap.objs.size + 1) :: us) I2.kIn hl) r2 hq) fun r s' hq' => ?_))
  cases r with
  | error e => exact hx σ pins _ _ e s' I2 hq'
  | ok fl =>
    cases fl with
    | ret u =>
      obtain ⟨v, H', I3, rv, ev, q3⟩ := I2.after hq'
      subst ev
      exact ⟨rv, ⟨V.ref (s.heap.objs.size + 1), H', I3, rfl, q3⟩⟩
    | next => exact False.elim hq'
    | brk => exact False.elim hq'
    | cont => exact False.elim hq'
theorem run_mkK {pins : List (Addr × Obj)} {σ : L2.St} {H : Hp} {s : Shared} {Q : VK} {us ws : List Value} {vs zs : List V} (M : Mk X.K C f) (F : FnOk X.prog X.w X.K X.mg X.base CX k f fd ps sp) (hr : Room (k + 1) X.A) (hb : KBn X.K fd ps (n + 1) ks g gV) (hx : ∀ σ, PassesAt CX X σ (Y σ))
    (I : Inv X pins σ H s) (r : Vals vs us) (rz : Vals zs ws) (l1 : vs.length = n) (l2 : zs.length = ks.length)
    (h : ∀ x dx, H x = none → H dx = none → dx ≠ x → sp (gV (.ref x :: vs) zs) (upd (upd H dx (.own x)) x (.ins C dx [])) (fun v H2 => v = .non ∧ Q (.ref x) H2) (Y σ)) :
    wpAny (model X.prog X.w) X.A (call (.ref C) us (ks.zip ws)) (EP X pins σ Q) X.xe s := by
  have hq := h (s.heap.objs.size + 1) s.heap.objs.size (I.hok.fresh (Nat.le_succ _)) (I.hok.fresh (Nat.le_refl _)) (Nat.ne_of_lt (Nat.lt_succ_self _))
  have I2 := Inv.made (C := C) I
  have r1 : Vals (V.ref (s.heap.objs.size + 1) :: vs) (Value.ref (s.heap.objs.size + 1) :: us) := .cons rfl r
  have r2 := hb.rel r1 rz
  have n1 : (Value.ref (s.heap.objs.size + 1) :: us).length = n + 1 := by
    rw [List.length_cons, ← r.length, l1]
  refine wpAny_call (make_map (f := f) I.kIn M.makes M.init (beq_iff_eq.mp M.fn) (codeAny_mono (F.run _ X.stack _ _ ⟨Value.ref (s.heap.objs.size + 1) :: us, ks.zip ws⟩ (g (Value.ref (s.heap.objs.size + 1) :: us) ws) _ _ (Y σ) (hr.make C us (ks.zip ws))
    (I2.env0.make C us (ks.zip ws)) (hb.to _ (Value.ref (s.heap.objs.size + 1) :: us) ws I2.kIn n1 (rz.length.symm.trans l2)) r2 hq) fun r s' hq' => ?_))
  cases r with
  | error e => exact hx σ pins _ _ e s' I2 hq'
  | ok fl =>
    cases fl with
    | ret u =>
      obtain ⟨v, H', I3, rv, ev, q3⟩ := I2.after hq'
      subst ev
      exact ⟨rv, ⟨V.ref (s.heap.objs.size + 1), H', I3, rfl, q3⟩⟩
    | next => exact False.elim hq'
    | brk => exact False.elim hq'
    | cont => exact False.elim hq'
/-- C(e, ..) -/
theorem pe_mkS (M : Mk X.K C f) (F : FnOk X.prog X.w X.K X.mg X.base CX k f fd ps sp) (hr : Room (k + 1) X.A) (hg : Gl X x) (hm : X.mg x = some (.ref C)) (hb : Binds X.K fd ps ds) (hd : Vals dvs ds) (hx : ∀ σ, PassesAt CX X σ (Y σ))
    (ha : PA X (e :: es) t) (hdb : (x == ("__debug__" : Str)) = false := by decide) (he : starEach (e :: es) X.env = (false, eval e X.env) :: starEach es X.env := by rfl) (hpl : (backTo pos (starEach es X.env)).any (·.1) = false := by rfl) :
    PE X (.Call (.Name x p) (e :: es) [] pos) (tMkS C sp dvs Y t) := by
  refine ⟨fun pins s σ H Q I h => ?_⟩
  refine wpAny_Call_Name_kw (ld_glob I hg hm ?_ hdb)
  refine PySem.W.callWith_K (h₀ := X.base) I.ok.mod.kin M.kp (thn (ha.run pos pins s σ H _ I h) fun us s1 ⟨vs, H1, I1, r, q⟩ => ⟨I1.kIn, ?_⟩) he hpl
  exact run_mkS M F hr hb hd hx I1 r q
/-- C() -/
theorem pe_mkS0 (M : Mk X.K C f) (F : FnOk X.prog X.w X.K X.mg X.base CX k f fd ps sp) (hr : Room (k + 1) X.A) (hg : Gl X x) (hm : X.mg x = some (.ref C)) (hb : Binds X.K fd ps ds) (hd : Vals dvs ds) (hx : ∀ σ, PassesAt CX X σ (Y σ)) (hdb : (x == ("__debug__" : Str)) = false := by decide) :
    PE X (.Call (.Name x p) [] [] pos) (tMkS C sp dvs Y tNil) := by
  refine ⟨fun pins s σ H Q I h => ?_⟩
  refine wpAny_Call_Name_kw (ld_glob I hg hm ?_ hdb)
  exact PySem.W.callWith_K0 I.kIn M.kp (run_mkS (us := []) (vs := []) M F hr hb hd hx I .nil h)
/-- C(k = v, ..) -/
theorem pe_mkK0 (M : Mk X.K C f) (F : FnOk X.prog X.w X.K X.mg X.base CX k f fd ps sp) (hr : Room (k + 1) X.A) (hg : Gl X x) (hm : X.mg x = some (.ref C)) (hb : KBn X.K fd ps 1 ks g gV) (hx : ∀ σ, PassesAt CX X σ (Y σ)) (hkw : PK X kws tk)
    (hall : (backToKw pos (keywordEach kws X.env)).all (·.1.isSome) = true := by rfl) (hks : (backToKw pos (keywordEach kws X.env)).filterMap (·.1) = ks := by rfl) (hdb : (x == ("__debug__" : Str)) = false := by decide)
    (hpl : ((backTo pos (starEach [] X.env)).any (·.1) || (backToKw pos (keywordEach kws X.env)).any (·.1.isNone)) = false := by rfl) :
    PE X (.Call (.Name x p) [] kws pos) (tMkK C 0 ks.length sp gV Y tNil tk) := by
  refine ⟨fun pins s σ H Q I h => ?_⟩
  refine wpAny_Call_Name_kw (ld_glob I hg hm ?_ hdb)
  refine PySem.W.callWith_KW0 (h₀ := X.base) I.ok.mod.kin M.kp hall ?_ hpl
  refine thn (hkw.run pos pins s σ H _ I h) fun ws s2 ⟨zs, H2, I2, rz, l1, l2, q2⟩ => ⟨I2.kIn, ?_⟩
  rw [hks]
  exact run_mkK (us := []) (vs := []) M F hr hb hx I2 .nil rz rfl l2 q2
/-- C(e, .., k = v, ..) -/
theorem pe_mkK (M : Mk X.K C f) (F : FnOk X.prog X.w X.K X.mg X.base CX k f fd ps sp) (hr : Room (k + 1) X.A) (hg : Gl X x) (hm : X.mg x = some (.ref C)) (hb : KBn X.K fd ps (n + 1) ks g gV) (hx : ∀ σ, PassesAt CX X σ (Y σ)) (ha : PA X (e :: es) t) (hkw : PK X kws tk)
    (hall : (backToKw pos (keywordEach kws X.env)).all (·.1.isSome) = true := by rfl) (hks : (backToKw pos (keywordEach kws X.env)).filterMap (·.1) = ks := by rfl) (hdb : (x == ("__debug__" : Str)) = false := by decide)
    (he : starEach (e :: es) X.env = (false, eval e X.env) :: starEach es X.env := by rfl) (hpl : ((backTo pos (starEach (e :: es) X.env)).any (·.1) || (backToKw pos (keywordEach kws X.env)).any (·.1.isNone)) = false := by rfl) :
    PE X (.Call (.Name x p) (e :: es) kws pos) (tMkK C n ks.length sp gV Y t tk) := by
  refine ⟨fun pins s σ H Q I h => ?_⟩
  refine wpAny_Call_Name_kw (ld_glob I hg hm ?_ hdb)
  refine PySem.W.callWith_KW (h₀ := X.base) I.ok.mod.kin M.kp hall (thn (ha.run pos pins s σ H _ I h) fun us s1 ⟨vs, H1, I1, r, q⟩ => ?_) hpl he
  refine thn (hkw.run pos pins s1 σ H1 _ I1 q) fun ws s2 ⟨zs, H2, I2, rz, l1, l2, q2⟩ => ⟨I2.kIn, ?_⟩
  rw [hks]
  exact run_mkK M F hr hb hx I2 r rz l1 l2 q2
end
section
variable {E : En} {xb : XB} {w w0 w1 w2 w' : Wd} {L0 L L' l Lk : List Ow} {st st0 st1 st2 st' : Sto} {H H1 H2 B B' J : Hp} {env env1 env' : Env} {σ σ1 σ' σ2 : L2.St} {v : V} {s : SV} {vs : List V} {ss as : List SV} {j i k C : Nat} {p a : Addr} {P : Prog} {n : Nat} {W : WX} {X : Cx} {f : Str} {fs : List (Str × FV)}
/-! a new instance has a place -/
theorem live_popI {o : Ow} (h : o.live (st ++ [.ins C []])) : o.live st ∨ o = .c st.length := by
  cases o with
  | c k =>
    have h' : k < (st ++ [Cell.ins C []]).length := h
    rw [List.length_append] at h'
    by_cases e : k = st.length
    · subst e; exact .inr rfl
    · exact .inl (show k < st.length by simp at h'; omega)
  | f i nm =>
    obtain ⟨C', fs, y, h1, h2⟩ := h
    by_cases hi : i < st.length
    · rw [List.getElem?_append_left hi] at h1; exact .inl ⟨C', fs, y, h1, h2⟩
    · rw [List.getElem?_append_right (by omega)] at h1
      cases e : i - st.length with
      | zero => rw [e] at h1; cases h1; cases h2
      | succ m => rw [e] at h1; simp at h1
  | s j => exact h.elim
theorem owd_pushI (hl : w.ad.length = st.length) (h : Owd (w.push a) (st ++ [.ins C []]) p) : Owd w st p ∨ p = a := by
  obtain ⟨o, h1, h2⟩ := h
  rcases live_popI h1 with h1 | rfl
  · rw [at_push hl h1] at h2
    exact .inl ⟨o, h1, h2⟩
  · have h3 : (w.ad ++ [a])[st.length]? = some p := h2
    rw [List.getElem?_append_right (by omega)] at h3
    simp [hl] at h3
    exact .inr h3.symm
theorem zad_pushI (hl : w.ad.length = st.length) (h : Zad (w.push a) (st ++ [.ins C []]) H p) : Zad w st H p := by
  obtain ⟨k, c', C', fs, c, dx, fv, f, y, m, h1, h2, h3, h4, h5⟩ := h
  by_cases hk : k < st.length
  · rw [List.getElem?_append_left hk] at h1
    have h2' : (w.ad ++ [a])[k]? = some c' := h2
    rw [List.getElem?_append_left (by omega)] at h2'
    exact ⟨k, c', C', fs, c, dx, fv, f, y, m, h1, h2', h3, h4, h5⟩
  · rw [List.getElem?_append_right (by omega)] at h1
    cases e : k - st.length with
    | zero => rw [e] at h1; cases h1; simp at h4
    | succ m => rw [e] at h1; simp at h1
theorem SR.pushI {dx : Addr} (S : SR E w L st H) (e0 : H a = some (.ins (E.cls C) dx [])) (n : ¬ Owd w st a) (z : ¬ Zad w st H a) : SR E (w.push a) L (st ++ [.ins C []]) H := by
  have pre : w.ad <+: (w.push a).ad := ⟨[a], rfl⟩
  have hn : w.ad.length = st.length := S.len
  refine ⟨by show (w.ad ++ [a]).length = (st ++ [Cell.ins C []]).length; rw [List.length_append, List.length_append, S.len]; rfl, fun o p b h1 h2 h3 h4 => ?_, fun k y e => ?_, fun o b h1 h2 h3 => ?_, fun k C' fs e => ?_⟩
  · rcases live_popI h1 with h1 | rfl <;> rcases live_popI h2 with h2 | rfl
    · rw [at_push hn h1] at h3
      rw [at_push hn h2] at h4
      exact S.inj o p b h1 h2 h3 h4
    · rw [at_push hn h1] at h3
      have h5 : (w.ad ++ [a])[st.length]? = some b := h4
      rw [List.getElem?_append_right (by omega)] at h5
      simp [hn] at h5
      subst h5
      exact absurd ⟨o, h1, h3⟩ n
    · rw [at_push hn h2] at h4
      have h5 : (w.ad ++ [a])[st.length]? = some b := h3
      rw [List.getElem?_append_right (by omega)] at h5
      simp [hn] at h5
      subst h5
      exact absurd ⟨p, h2, h4⟩ n
    · rfl
  · by_cases hk : k < st.length
    · rw [List.getElem?_append_left hk] at e
      obtain ⟨b, e1, h⟩ := S.cell k y e
      refine ⟨b, pre_get pre e1, ?_⟩
      cases y with
      | con y => exact CoR.mono pre (Tm.rfl' _) rfl h
      | ins C' fs =>
        obtain ⟨dx, fv, h1, h2⟩ := h
        refine ⟨dx, fv, h1, h2.to pre (Tm.rfl' _) (fun _ => rfl) (fun m f y b' k1 k2 k3 k4 => ?_) (fun _ _ _ _ _ _ _ => rfl)⟩
        rcases owd_pushI hn k4 with k4 | rfl
        · exact k3 k4
        · exact z ⟨k, b, C', fs, _, dx, fv, f, y, m, e, e1, h1, k1, k2⟩
    · have e' : k = st.length := by
        have := (List.getElem?_eq_some_iff.mp e).1
        rw [List.length_append] at this
        simp at this
        omega
      subst e'
      rw [List.getElem?_append_right (by omega)] at e
      simp at e
      subst e
      refine ⟨a, ?_, dx, [], e0, .nil⟩
      show (w.ad ++ [a])[st.length]? = some a
      rw [List.getElem?_append_right (by omega)]
      simp [hn]
  · rcases live_popI h1 with h1 | rfl
    · rw [at_push hn h1] at h3
      exact S.ex o b h1 h2 h3
    · have h5 : (w.ad ++ [a])[st.length]? = some b := h3
      rw [List.getElem?_append_right (by omega)] at h5
      simp [hn] at h5
      subst h5
      exact ⟨_, e0, trivial⟩
  · by_cases hk : k < st.length
    · rw [List.getElem?_append_left hk] at e
      exact S.nd k C' fs e
    · rw [List.getElem?_append_right (by omega)] at e
      cases e2 : k - st.length with
      | zero => rw [e2] at e; cases e; exact ⟨List.nodup_nil, fun f hf => by cases hf⟩
      | succ m => rw [e2] at e; simp at e
theorem Fr.pushI {s0 : Ss} (hl : w.ad.length = st.length) (f : Fr E L s0 ⟨w, st, H⟩) (e : s0.H a = none) : Fr E L s0 ⟨w.push a, st ++ [.ins C []], H⟩ := by
  refine ⟨f.ad.trans ⟨[a], rfl⟩, f.tm, f.out, fun p h => ?_, fun p h => f.newz p (zad_pushI hl h), f.dom, fun o h1 h2 => ?_⟩
  · rcases owd_pushI hl h with h | rfl
    · exact f.new p h
    · exact .inr e
  · obtain ⟨k1, k2, k3⟩ := f.lk o h1 h2
    exact ⟨live_push k1, (at_push hl k1).trans k2, k3⟩
/-- the world with a new instance -/
theorem made (S : SR E w L st H) {x dx : Addr} (hx : H x = none) (hd : H dx = none) (ne : dx ≠ x) :
    SR E (w.push x) L (st ++ [.ins C []]) (upd (upd H dx (.own x)) x (.ins (E.cls C) dx [])) ∧ Fr E L' ⟨w, st, H⟩ ⟨w.push x, st ++ [.ins C []], upd (upd H dx (.own x)) x (.ins (E.cls C) dx [])⟩ ∧ (w.push x).ad[st.length]? = some x := by
  have S1 := S.lay (o := .own x) hd
  have f1 : Fr E L' ⟨w, st, H⟩ ⟨w, st, upd H dx (.own x)⟩ := Fr.lay S hd
  have hx1 : upd H dx (.own x) x = none := by rw [upd_ne (fun z => ne z.symm)]; exact hx
  have S2 := S1.lay (o := .ins (E.cls C) dx []) hx1
  have f2 : Fr E L' ⟨w, st, upd H dx (.own x)⟩ ⟨w, st, upd (upd H dx (.own x)) x (.ins (E.cls C) dx [])⟩ := Fr.lay S1 hx1
  have n : ¬ Owd w st x := S.nowd hx
  have z : ¬ Zad w st (upd (upd H dx (.own x)) x (.ins (E.cls C) dx [])) x := nozad_lay S1 hx1
  refine ⟨S2.pushI upd_same n z, Fr.pushI S.len (f1.tr f2) hx, ?_⟩
  show (w.ad ++ [x])[st.length]? = some x
  rw [List.getElem?_append_right (by rw [S.len]; exact Nat.le_refl _)]
  simp [S.len]
theorem VRs.frs (S : SR E w L' st H) (f : Fr E L ⟨w, st, H⟩ ⟨w1, st1, H1⟩) (h0 : ∀ o ∈ L0, o ∈ L) (h : VRs E L0 w st H env σ B vs ss) (hl : ∀ o ∈ ss.flatMap lockOf, o ∈ L) : VRs E L0 w1 st1 H1 env σ B vs ss := by
  induction h with
  | nil => exact .nil
  | cons h t d ih => exact .cons (h.fr f h0 fun o z => hl o (List.mem_flatMap.mpr ⟨_, List.mem_cons_self, z⟩)) (ih fun o z => hl o (by rw [List.flatMap_cons]; exact List.mem_append.mpr (.inr z))) d
/-- __init__ of a new instance -/
theorem make_ok {fi : Nat} {r : Out SV} {Q : VK} (h0 : ∀ o ∈ L0, o ∈ L) (S : SR E w L st H) (hv : VRs E L0 w st H env σ B vs ss) (hB : ∀ p, H p = none → B p = none) (hn : ss.length + 1 = (P.fn fi).np)
    (h : rb ((P.cl (P.call n) L).go fi (.d (.ref st.length) :: ss) (st ++ [.ins C []])) (fun u st' => match u with | .d .non => ok (.d (.ref st.length)) st' | _ => none) = some r)
    (hQ : OkR E W L w st σ H (fun w' st' H' b a => VR E L0 w' st' H' env σ B b a) Q r) {x dx : Addr} (hx : H x = none) (hd : H dx = none) (ne : dx ≠ x) :
    spT P E n fi (.ref x :: vs) (upd (upd H dx (.own x)) x (.ins (E.cls C) dx [])) (fun v H2 => v = .non ∧ Q (.ref x) H2) (WE W σ) := by
  obtain ⟨S1, f1, e1⟩ := made (C := C) (L' := ss.flatMap lockOf ++ L) S hx hd ne
  have hv1 := hv.frs S f1 (fun o z => mem_r (h0 o z)) fun o z => List.mem_append.mpr (.inl z)
  have f1' : Fr E L _ _ := f1.less fun o z => mem_r z
  cases eg : (P.cl (P.call n) L).go fi (.d (.ref st.length) :: ss) (st ++ [.ins C []]) with
  | none => rw [eg] at h; cases h
  | some o =>
    rw [eg] at h
    refine go_ok (ss := .d (.ref st.length) :: ss) (B := B) h0 S1 (.cons (.d (.ref e1)) hv1 fun b y _ e4 => by cases e4) (fun q z => hB q (f1.dom q z)) (by rw [List.length_cons]; exact hn) eg ?_
    cases o with
    | ex y st2 =>
      cases (show some (Out.ex y st2) = some r from h)
      exact fun w' H' cls d S' f' k => hQ w' H' cls d S' (f1'.tr f') k
    | ok u st2 =>
      have key : u = .d .non ∧ r = .ok (.d (.ref st.length)) st2 := by
        clear hQ eg
        cases u with
        | d y => cases y <;> first | exact ⟨rfl, ok_inj h⟩ | cases h
        | c a b => cases h
        | x e => cases h
      obtain ⟨rfl, rfl⟩ := key
      exact fun w' H' b S' f' rv => ⟨rv.non, hQ w' H' _ S' (f1'.tr f') (.d (.ref (pre_get f'.ad e1)))⟩
/-- constants behind the written arguments -/
inductive Cs (E : En) : List V → List D → Prop
  | nil : Cs E [] []
  | cons {v : V} {x : D} {vs : List V} {xs : List D} : (∀ ad H, Rv E ad H v x) → Cs E vs xs → Cs E (v :: vs) (x :: xs)
def csts : List D → Exs
  | [] => .nil
  | x :: xs => .cons (.cst x) (csts xs)
theorem evs_csts {c : Cl} : ∀ {xs : List D}, evs c (csts xs) env st = ok (xs.map .d) st
  | [] => rfl
  | x :: xs => by
    show rb (ok (SV.d x) st) (fun u st => rb (evs (c.lk (lockOf u)) (csts xs) env st) fun us st => ok (u :: us) st) = _
    show rb (evs (c.lk []) (csts xs) env st) (fun us st => ok (SV.d x :: us) st) = _
    rw [evs_csts]
    rfl
theorem evs_app {xs : List D} : ∀ {es : Exs} {c : Cl} {st : Sto}, evs c (es.app (csts xs)) env st = rb (evs c es env st) fun as st => ok (as ++ xs.map .d) st
  | .nil, c, st => evs_csts
  | .cons e es, c, st => by
    show rb (ev c e env st) (fun u st => rb (evs (c.lk (lockOf u)) (es.app (csts xs)) env st) fun us st => ok (u :: us) st) = rb (rb (ev c e env st) fun u st => rb (evs (c.lk (lockOf u)) es env st) fun us st => ok (u :: us) st) fun as st => ok (as ++ xs.map .d) st
    cases ev c e env st with
    | none => rfl
    | some o =>
      cases o with
      | ex y st1 => rfl
      | ok u st1 =>
        show rb (evs (c.lk (lockOf u)) (es.app (csts xs)) env st1) (fun us st => ok (u :: us) st) = rb (rb (evs (c.lk (lockOf u)) es env st1) fun us st => ok (u :: us) st) fun as st => ok (as ++ xs.map .d) st
        rw [evs_app]
        cases evs (c.lk (lockOf u)) es env st1 with
        | none => rfl
        | some o2 => cases o2 <;> rfl
theorem vrs_cs {dvs : List V} {xs : List D} (h : Cs E dvs xs) : VRs E L0 w st H env σ B dvs (xs.map .d) := by
  induction h with
  | nil => exact .nil
  | cons h t ih => exact .cons (.d (h _ _)) ih fun a y _ e => by cases e
theorem VRs.app {ws : List V} {zs : List SV} (hz : ∀ z ∈ zs, ∀ x, z ≠ .c .own x) (h : VRs E L0 w st H env σ B vs ss) (h2 : VRs E L0 w st H env σ B ws zs) : VRs E L0 w st H env σ B (vs ++ ws) (ss ++ zs) := by
  induction h with
  | nil => exact h2
  | cons h t d ih =>
    refine .cons h ih fun a y e1 e2 o => d a y e1 e2 ?_
    obtain ⟨i, x, k1, k2⟩ := o
    rename_i vs' ss'
    have hlen := t.length
    have k1 : (vs' ++ ws)[i]? = some (.ref a) := k1
    have k2 : (ss' ++ zs)[i]? = some (.c .own x) := k2
    by_cases hi : i < ss'.length
    · exact ⟨i, x, by rw [List.getElem?_append_left (by omega)] at k1; exact k1, by rw [List.getElem?_append_left hi] at k2; exact k2⟩
    · rw [List.getElem?_append_right (by omega)] at k2
      exact absurd rfl (hz _ (List.mem_of_getElem? k2) x)
theorem cs_nown {xs : List D} : ∀ z ∈ xs.map SV.d, ∀ x, z ≠ .c .own x := fun z h x e => by
  subst e
  obtain ⟨y, _, h⟩ := List.mem_map.mp h
  cases h
theorem Exs.len_app : ∀ {es fs : Exs}, (es.app fs).len = es.len + fs.len
  | .nil, fs => (Nat.zero_add _).symm
  | .cons e es, fs => by show (es.app fs).len + 1 = es.len + 1 + fs.len; rw [Exs.len_app]; omega
theorem csts_len : ∀ {xs : List D}, (csts xs).len = xs.length
  | [] => rfl
  | x :: xs => by show (csts xs).len + 1 = xs.length + 1; rw [csts_len]
theorem se_mk {fi : Nat} {t : TA} {es es' : Exs} {dvs : List V} {xs : List D} (he : es' = es.app (csts xs)) (ha : SA P n E xb W t es) (hd : Cs E dvs xs) (hn : es'.len + 1 = (P.fn fi).np) : SE P n E xb W (tMkS (E.cls C) (spT P E n fi) dvs (WE W) t) (.make C fi es') := by
  subst he
  intro L0 L w env st σ H h0 S R r h Q hQ
  show t σ H fun vs H1 => ∀ x dx, H1 x = none → H1 dx = none → dx ≠ x → spT P E n fi (.ref x :: (vs ++ dvs)) (upd (upd H1 dx (.own x)) x (.ins (E.cls C) dx [])) (fun v H2 => v = .non ∧ Q (.ref x) H2) (WE W σ)
  have h' : rb (evs (P.cl (P.call n) L) (es.app (csts xs)) env st) (fun as st => rb ((P.cl (P.call n) L).go fi (.d (.ref st.length) :: as) (st ++ [.ins C []])) fun u st' => match u with | .d .non => ok (.d (.ref st.length)) st' | _ => none) = some r := h
  rw [evs_app] at h'
  cases e : evs (P.cl (P.call n) L) es env st with
  | none => rw [e] at h'; cases h'
  | some o =>
    refine ha L0 L w env st σ H h0 S R o e _ ?_
    rw [e] at h'
    cases o with
    | ex x st1 =>
      cases (show some (Out.ex x st1) = some r from h')
      exact hQ
    | ok as st1 =>
      intro w1 H1 vs S1 f1 v1 x dx hx hdx ne
      refine make_ok h0 S1 (v1.app cs_nown (vrs_cs hd)) f1.dom ?_ h' (hQ.from f1 fun _ _ _ _ _ z => z) hx hdx ne
      rw [List.length_append, List.length_map, evs_len e, ← hn, Exs.len_app, csts_len]
/-- with keywords -/
theorem se_mkK {fi jn m : Nat} {t tk : TA} {es es' : Exs} {dvs : List V} {xs : List D} {gV : List V → List V → List V} (he : es' = es.app (csts xs)) (ha : SK P n E xb W jn m t tk es) (hd : Cs E dvs xs) (hg : ∀ us ws, us.length = jn + 1 → gV us ws = us ++ ws ++ dvs) (hn : es'.len + 1 = (P.fn fi).np) :
    SE P n E xb W (tMkK (E.cls C) jn m (spT P E n fi) gV (WE W) t tk) (.make C fi es') := by
  subst he
  intro L0 L w env st σ H h0 S R r h Q hQ
  show t σ H fun vs H1 => tk σ H1 fun zs H2 => vs.length = jn ∧ zs.length = m ∧ ∀ x dx, H2 x = none → H2 dx = none → dx ≠ x → spT P E n fi (gV (.ref x :: vs) zs) (upd (upd H2 dx (.own x)) x (.ins (E.cls C) dx [])) (fun v H2 => v = .non ∧ Q (.ref x) H2) (WE W σ)
  have h' : rb (evs (P.cl (P.call n) L) (es.app (csts xs)) env st) (fun as st => rb ((P.cl (P.call n) L).go fi (.d (.ref st.length) :: as) (st ++ [.ins C []])) fun u st' => match u with | .d .non => ok (.d (.ref st.length)) st' | _ => none) = some r := h
  rw [evs_app] at h'
  cases e : evs (P.cl (P.call n) L) es env st with
  | none => rw [e] at h'; cases h'
  | some o =>
    refine ha L0 L w env st σ H h0 S R o e (fun b H2 => b.1.length = jn ∧ b.2.length = m ∧ ∀ x dx, H2 x = none → H2 dx = none → dx ≠ x → spT P E n fi (gV (.ref x :: b.1) b.2) (upd (upd H2 dx (.own x)) x (.ins (E.cls C) dx [])) (fun v H2 => v = .non ∧ Q (.ref x) H2) (WE W σ)) ?_
    rw [e] at h'
    cases o with
    | ex x st1 =>
      cases (show some (Out.ex x st1) = some r from h')
      exact hQ
    | ok as st1 =>
      intro w1 H1 vs S1 f1 v1
      obtain ⟨v1, l1, l2⟩ := v1
      refine ⟨l1, l2, fun x dx hx hdx ne => ?_⟩
      have eg : gV (.ref x :: vs.1) vs.2 = .ref x :: (vs.1 ++ vs.2 ++ dvs) := by rw [hg _ _ (by rw [List.length_cons, l1])]; rfl
      rw [eg]
      refine make_ok h0 S1 (v1.app cs_nown (vrs_cs hd)) f1.dom ?_ h' (hQ.from f1 fun _ _ _ _ _ z => z) hx hdx ne
      rw [List.length_append, List.length_map, evs_len e, ← hn, Exs.len_app, csts_len]
/-- a call whose last parameters keep their defaults -/
theorem se_callD {fi : Nat} {t : TA} {es es' : Exs} {dvs : List V} {xs : List D} (he : es' = es.app (csts xs)) (ha : SA P n E xb W t es) (hd : Cs E dvs xs) (hn : es'.len = (P.fn fi).np) : SE P n E xb W (tCallSD (spT P E n fi) dvs (WE W) t) (.call fi es') := by
  subst he
  intro L0 L w env st σ H h0 S R r h Q hQ
  show t σ H fun vs H1 => spT P E n fi (vs ++ dvs) H1 Q (WE W σ)
  have h' : rb (evs (P.cl (P.call n) L) (es.app (csts xs)) env st) (fun as st => (P.cl (P.call n) L).go fi as st) = some r := h
  rw [evs_app] at h'
  cases e : evs (P.cl (P.call n) L) es env st with
  | none => rw [e] at h'; cases h'
  | some o =>
    refine ha L0 L w env st σ H h0 S R o e _ ?_
    rw [e] at h'
    cases o with
    | ex x st1 =>
      cases (show some (Out.ex x st1) = some r from h')
      exact hQ
    | ok as st1 =>
      intro w1 H1 vs S1 f1 v1
      exact go_ok h0 S1 (v1.app cs_nown (vrs_cs hd)) f1.dom (by rw [List.length_append, List.length_map, evs_len e, ← hn, Exs.len_app, csts_len]) h' (hQ.from f1 fun _ _ _ _ _ z => z)
end
end Tv

/-! fields stored -/
namespace Tv
open PySem L2 PySem.Spec PyProof.Rows
section
variable {E : En} {xb : XB} {w w0 w1 w2 w' : Wd} {L0 L L' l Lk : List Ow} {st st0 st1 st2 st' : Sto} {H H1 H2 H' B B' J : Hp} {env env0 env1 env' : Env} {σ σ0 σ1 σ' σ2 : L2.St} {v : V} {s : SV} {vs : List V} {ss as : List SV} {j i k C : Nat} {p a q : Addr} {P : Prog} {n : Nat} {W : WX} {X : Cx} {f : Str} {fs : List (Str × FV)} {y : FV}
/-- what a step does that may take a new container in at an address of the kind nw -/
structure FrQ (E : En) (L : List Ow) (a b : Ss) (nw : Addr → Prop) : Prop where
  ad : a.w.ad <+: b.w.ad
  tm : Tm E.K a.H b.H
  out : ∀ p o, a.H p = some o → ¬ Owd a.w a.st p → b.H p = some o
  new : ∀ p, Owd b.w b.st p → Owd a.w a.st p ∨ nw p
  newz : ∀ p, Zad b.w b.st b.H p → Zad a.w a.st a.H p
  dom : ∀ p, b.H p = none → a.H p = none
  lk : ∀ o ∈ L, o.live a.st → o.live b.st ∧ b.w.at o = a.w.at o ∧ ∀ p, a.w.at o = some p → b.H p = a.H p
variable {nw : Addr → Prop}
theorem Fr.frq {s0 : Ss} (g : Fr E L s0 ⟨w, st, H⟩) (f : FrQ E L ⟨w, st, H⟩ ⟨w', st', H'⟩ nw) (hn : ∀ p, nw p → s0.H p = none) : Fr E L s0 ⟨w', st', H'⟩ := by
  refine ⟨g.ad.trans f.ad, g.tm.tr f.tm, fun p o e h => ?_, fun p h => ?_, fun p h => g.newz p (f.newz p h), fun p h => g.dom p (f.dom p h), fun o h hl => ?_⟩
  · refine f.out p o (g.out p o e h) fun z => ?_
    rcases g.new p z with z | z
    · exact h z
    · rw [e] at z; cases z
  · rcases f.new p h with h | h
    · exact g.new p h
    · exact .inr (hn p h)
  · obtain ⟨h1, h2, h3⟩ := g.lk o h hl
    obtain ⟨k1, k2, k3⟩ := f.lk o h h1
    exact ⟨k1, k2.trans h2, fun p e => (k3 p (h2.trans e)).trans (h3 p e)⟩
/-- a name's own container goes into a field -/
theorem ER.moved {x0 : Cn} (S : SR E w L' st H) (f : FrQ E L ⟨w, st, H⟩ ⟨w', st', H'⟩ (fun p => p = q)) (h0 : ∀ o ∈ L0, o ∈ L) (R : ER E xb L0 w L st H env σ) (ej : env[j]? = some (some (.c .own x0))) (sj : σ[j]? = some (some (.ref q))) : ER E xb L0 w' L st' H' (env.set j none) σ := by
  have nowd : ∀ {p : Addr}, ¬ Owd w st p → p ≠ q → ¬ Owd w' st' p := fun n1 n2 z => (f.new _ z).elim n1 n2
  have sq : Sod env σ q := sod_slot ej sj
  refine ⟨by rw [List.length_set]; exact R.len, fun k s e => ?_, fun i' k x y p e1 e2 e3 e4 => ?_, fun b z k => R.zs b (f.newz b z) (sod_unset k)⟩
  · rcases get_set e with ⟨_, e2, _⟩ | ⟨ne, e2⟩
    · cases e2
    · obtain ⟨v, h1, h2⟩ := R.ok k s e2
      refine ⟨v, h1, ?_⟩
      cases h2 with
      | d k => exact .d (k.mono f.ad f.tm)
      | @own p x k1 k2 k3 =>
        have np : p ≠ q := fun z => by subst z; exact ne (R.inj k j x x0 p e2 ej h1 sj)
        obtain ⟨o, ho⟩ := k1.has
        have e1 : H' p = H p := (f.out p o ho k2).trans ho.symm
        exact .own (k1.mono f.ad f.tm e1) (nowd k2 np) fun z => by obtain ⟨u, e2, m⟩ := k3 z; exact ⟨u, e1.trans e2, m⟩
      | @par p x k1 k2 k3 =>
        have np : p ≠ q := fun z => by subst z; exact k3 sq
        rcases k2 with k2 | ⟨o, o1, o2, o3⟩
        · obtain ⟨u, hu⟩ := k1.has
          have e1 : H' p = H p := (f.out p u hu k2).trans hu.symm
          exact .par (k1.mono f.ad f.tm e1) (.inl (nowd k2 np)) fun z => k3 (sod_unset z)
        · obtain ⟨l1, l2, l3⟩ := f.lk o (h0 o o1) o2
          exact .par (k1.mono f.ad f.tm (l3 p o3)) (.inr ⟨o, o1, l1, l2.trans o3⟩) fun z => k3 (sod_unset z)
      | @scr p vs xs k1 k2 =>
        refine .scr ?_ (k2.mono f.ad f.tm)
        rcases k1 with k1 | ⟨k1, k3, k4⟩
        · exact .inl k1
        · have np : p ≠ q := fun z => by subst z; exact k4 sq
          refine .inr ⟨?_, nowd k3 np, fun z => k4 (sod_unset z)⟩
          rcases k1 with k1 | ⟨o, k1⟩
          · exact .inl (f.out _ _ k1 k3)
          · exact .inr ⟨o, f.out _ _ k1 k3⟩
      | x k1 k2 => exact .x k1 (xr_mono f.ad f.tm (fun a fs e => f.out a _ e (S.nxd e)) k2)
  · rcases get_set e1 with ⟨_, z, _⟩ | ⟨_, e1⟩
    · cases z
    · rcases get_set e2 with ⟨_, z, _⟩ | ⟨_, e2⟩
      · cases z
      · exact R.inj i' k x y p e1 e2 e3 e4
theorem Stp.frq {a0 : Fs} (R : ER E xb L0 w L st H env σ) (g : Stp E L a0 ⟨w, env, st, σ, H⟩) (f : FrQ E L ⟨w, st, H⟩ ⟨w', st', H'⟩ nw) (hn : ∀ p, nw p → Sod a0.env a0.σ p ∨ a0.H p = none) : Stp E L a0 ⟨w', env, st', σ, H'⟩ := by
  refine ⟨⟨g.ad.trans f.ad, g.tm.tr f.tm, fun p o e h1 h2 => ?_, fun p h => ?_, fun p h => g.newz p (f.newz p h), fun p h => g.dom p (f.dom p h), fun o h hl => ?_⟩, g.newS, fun j hj => ?_⟩
  · refine f.out p o (g.out p o e h1 h2) fun z => ?_
    rcases g.new p z with z | z | z
    · exact h1 z
    · exact h2 z
    · rw [e] at z; cases z
  · rcases f.new p h with h | h
    · exact g.new p h
    · rcases hn p h with h | h
      · exact .inr (.inl h)
      · exact .inr (.inr h)
  · obtain ⟨h1, h2, h3⟩ := g.lk o h hl
    obtain ⟨k1, k2, k3⟩ := f.lk o h h1
    exact ⟨k1, k2.trans h2, fun p e => (k3 p (h2.trans e)).trans (h3 p e)⟩
  · obtain ⟨e1, e2, e3⟩ := g.lkS j hj
    refine ⟨e1, e2, fun p x h1 h2 => ?_⟩
    have q1 : env[j]? = some (some (.c .own x)) := e1.trans h1
    have q2 : σ[j]? = some (some (.ref p)) := e2.trans h2
    obtain ⟨v, q3, q4⟩ := R.ok j _ q1
    rw [q2] at q3
    cases q3
    cases q4 with
    | own k1 k2 k3 =>
      obtain ⟨o, ho⟩ := k1.has
      exact ((f.out p o ho k2).trans ho.symm).trans (e3 p x h1 h2)
/-- the world behind the store of a field: where the container of the field stands -/
def Wd.put (w : Wd) (i : Nat) (f : Str) (q : Addr) : Wd := ⟨w.ad, fun k g => if k = i ∧ g = f then q else w.fd k g⟩
theorem put_fd {g : Str} (h : ¬ (k = i ∧ g = f)) : (w.put i f q).fd k g = w.fd k g := if_neg h
theorem put_fd' : (w.put i f q).fd i f = q := if_pos ⟨rfl, rfl⟩
theorem setFld_eq (e : st[i]? = some (.ins C fs)) : setFld st i f y = st.set i (.ins C (putFs f y fs)) := by unfold setFld; rw [e]
theorem putFs_mem {f g : Str} {y z : FV} (h : (g, z) ∈ putFs f y fs) : (g = f ∧ z = y) ∨ (g, z) ∈ fs := by
  obtain ⟨m, hm⟩ := List.mem_iff_getElem?.mp h
  rcases putFs_get hm with e | ⟨_, e⟩ | e
  · exact .inl e
  · exact .inr (List.mem_of_getElem? e)
  · exact .inr (List.mem_of_getElem? e)
theorem mem_putFs {f g : Str} {y z : FV} (hg : g ≠ f) : ∀ {fs : List (Str × FV)}, (g, z) ∈ fs → (g, z) ∈ putFs f y fs
  | (h, x) :: r, e => by
    show (g, z) ∈ (if h = f then (h, y) :: r else (h, x) :: putFs f y r)
    split
    · rename_i e2
      rcases List.mem_cons.mp e with e | e
      · cases e; exact absurd e2 hg
      · exact List.mem_cons_of_mem _ e
    · rcases List.mem_cons.mp e with e | e
      · cases e; exact List.mem_cons_self
      · exact List.mem_cons_of_mem _ (mem_putFs hg e)
theorem putFs_names : ∀ {fs : List (Str × FV)}, (putFs f y fs).map (·.1) = if f ∈ fs.map (·.1) then fs.map (·.1) else fs.map (·.1) ++ [f]
  | [] => rfl
  | (g, x) :: r => by
    show (if g = f then (g, y) :: r else (g, x) :: putFs f y r).map (·.1) = _
    by_cases e : g = f
    · subst e
      rw [if_pos rfl, List.map_cons, List.map_cons, if_pos List.mem_cons_self]
    · rw [if_neg e, List.map_cons, List.map_cons, putFs_names]
      by_cases m : f ∈ r.map (·.1)
      · rw [if_pos m, if_pos (List.mem_cons_of_mem _ m)]
      · rw [if_neg m, if_neg (fun z => by rcases List.mem_cons.mp z with z | z; exact e z.symm; exact m z)]
        rfl
theorem putF_get {g : Str} {u : V} : ∀ {fv : List (Str × V)} {m : Nat}, (putF f v fv)[m]? = some (g, u) → g = f ∧ u = v ∨ fv[m]? = some (g, u)
  | [], 0, h => by cases (show some (f, v) = some (g, u) from h); exact .inl ⟨rfl, rfl⟩
  | [], m + 1, h => by cases (show (none : Option (Str × V)) = some (g, u) from h)
  | (g', x) :: r, m, h => by
    have h' : ((if g' = f then (g', v) :: r else (g', x) :: putF f v r) : List (Str × V))[m]? = some (g, u) := h
    split at h'
    · rename_i e
      cases m with
      | zero =>
        have h2 : some (g', v) = some (g, u) := h'
        cases h2
        exact .inl ⟨e, rfl⟩
      | succ m => exact .inr h'
    · cases m with
      | zero => exact .inr h'
      | succ m => exact putF_get (fv := r) (m := m) h'
theorem nd_put (h : Nd E C (fs.map (·.1))) (hf : (C, f) ∈ E.fl) : Nd E C ((putFs f y fs).map (·.1)) := by
  rw [putFs_names]
  split
  · exact h
  · rename_i m
    refine ⟨?_, fun g hg => ?_⟩
    · rw [List.nodup_append]
      exact ⟨h.1, by simp, fun a ha b hb => by have := List.mem_singleton.mp hb; subst this; intro z; subst z; exact m ha⟩
    · rcases List.mem_append.mp hg with hg | hg
      · exact h.2 g hg
      · rw [List.mem_singleton.mp hg]; exact hf
/-- the field's value as the heap shows it; q: where its container stands -/
inductive NewF (E : En) (w : Wd) (st : Sto) (H : Hp) (q : Addr) : V → FV → Prop
  | d {v : V} {x : D} : Rv E w.ad H v x → NewF E w st H q v (.d x)
  | c {x : Cn} : CoR E w.ad H q x → Xt H q → ¬ Owd w st q → ¬ Zad w st H q → NewF E w st H q (.ref q) (.c false x)
def FV.isC : FV → Bool
  | .c false _ => true
  | _ => false
theorem putFs_own {z : FV} : ∀ {fs : List (Str × FV)}, (fs.map (·.1)).Nodup → (f, z) ∈ putFs f y fs → z = y
  | [], _, h => by cases List.mem_singleton.mp (show (f, z) ∈ [(f, y)] from h); rfl
  | (g, x) :: r, nd, h => by
    rw [List.map_cons, List.nodup_cons] at nd
    have h' : (f, z) ∈ (if g = f then (g, y) :: r else (g, x) :: putFs f y r) := h
    split at h'
    · rename_i e
      rcases List.mem_cons.mp h' with h' | h'
      · cases h'; rfl
      · exact absurd (List.mem_map.mpr ⟨_, h', rfl⟩) (e ▸ nd.1)
    · rename_i e
      rcases List.mem_cons.mp h' with h' | h'
      · cases h'; exact absurd rfl e
      · exact putFs_own nd.2 h'
theorem live_fld {o : Ow} (nd : (fs.map (·.1)).Nodup) (e : st[i]? = some (.ins C fs)) (h : o.live (setFld st i f y)) : (o.live st ∧ o ≠ .f i f) ∨ (o = .f i f ∧ y.isC = true) := by
  rw [setFld_eq e] at h
  cases o with
  | c m =>
    have h' : m < (st.set i _).length := h
    rw [List.length_set] at h'
    exact .inl ⟨h', fun z => by cases z⟩
  | f m g =>
    obtain ⟨C', fs', z, h1, h2⟩ := h
    by_cases hm : m = i ∧ g = f
    · obtain ⟨rfl, rfl⟩ := hm
      rcases get_set h1 with ⟨_, e2, _⟩ | ⟨ne, _⟩
      · cases e2
        have := putFs_own nd h2
        subst this
        exact .inr ⟨rfl, rfl⟩
      · exact absurd rfl ne
    · refine .inl ⟨?_, fun z => by cases z; exact hm ⟨rfl, rfl⟩⟩
      rcases get_set h1 with ⟨rfl, e2, _⟩ | ⟨_, e2⟩
      · cases e2
        rcases putFs_mem h2 with ⟨rfl, _⟩ | h2
        · exact absurd ⟨rfl, rfl⟩ hm
        · exact ⟨C, fs, z, e, h2⟩
      · exact ⟨C', fs', z, e2, h2⟩
  | s j => exact h.elim
theorem live_fld' {o : Ow} (e : st[i]? = some (.ins C fs)) (ho : o ≠ .f i f) (h : o.live st) : o.live (setFld st i f y) := by
  rw [setFld_eq e]
  cases o with
  | c m => show m < (st.set i _).length; rw [List.length_set]; exact h
  | f m g =>
    obtain ⟨C', fs', z, h1, h2⟩ := h
    by_cases hm : m = i
    · subst hm
      rw [e] at h1
      cases h1
      have hg : g ≠ f := fun z => ho (by rw [z])
      exact ⟨C, _, z, set_eq (List.getElem?_eq_some_iff.mp e).1, mem_putFs hg h2⟩
    · exact ⟨C', fs', z, by rw [set_ne hm]; exact h1, h2⟩
  | s j => exact h.elim
theorem at_put {o : Ow} (ho : o ≠ .f i f) : (w.put i f q).at o = w.at o := by
  cases o with
  | c m => rfl
  | f m g => exact congrArg some (put_fd fun z => ho (by rw [z.1, z.2]))
  | s j => rfl
theorem owd_fld (nd : (fs.map (·.1)).Nodup) (e : st[i]? = some (.ins C fs)) (h : Owd (w.put i f q) (setFld st i f y) p) : Owd w st p ∨ (p = q ∧ y.isC = true) := by
  obtain ⟨o, h1, h2⟩ := h
  rcases live_fld nd e h1 with ⟨k1, k2⟩ | ⟨rfl, hc⟩
  · exact .inl ⟨o, k1, by rw [← at_put (q := q) k2]; exact h2⟩
  · have h3 : (w.put i f q).fd i f = p := Option.some.inj h2
    rw [put_fd'] at h3
    exact .inr ⟨h3.symm, hc⟩
theorem zad_fld {dx a : Addr} {fv : List (Str × V)} {v : V} (S : SR E w L st H) (e : st[i]? = some (.ins C fs)) (ea : w.ad[i]? = some a) (eh : H a = some (.ins (E.cls C) dx fv)) (hy : ∀ x, y ≠ .c true x) (h : Zad (w.put i f q) (setFld st i f y) (upd H a (.ins (E.cls C) dx (putF f v fv))) p) (hr : FsR E w st H i fv fs) : Zad w st H p := by
  rw [setFld_eq e] at h
  obtain ⟨m, b, C', fs', c, dx', fv', g, x, t, h1, h2, h3, h4, h5⟩ := h
  have h2' : w.ad[m]? = some b := h2
  rcases get_set h1 with ⟨rfl, e2, _⟩ | ⟨ne, e2⟩
  · cases e2
    rw [ea] at h2'
    cases h2'
    rw [upd_same] at h3
    cases h3
    rcases putFs_get h4 with ⟨_, e3⟩ | ⟨hg, e3⟩ | e3
    · exact absurd e3.symm (hy x)
    · have hv : fv[t]? = some (g, .ref p) := by
        rcases putF_get h5 with ⟨e4, _⟩ | e4
        · exact absurd e4 hg
        · exact e4
      exact ⟨m, a, C, fs, _, dx, fv, g, x, t, e, ea, eh, e3, hv⟩
    · by_cases hg : g = f
      · subst hg
        have hm : (g, FV.c true x) ∈ putFs g y fs := List.mem_of_getElem? h4
        exact absurd (putFs_own (S.nd m C fs e).1 hm).symm (hy x)
      · have hv : fv[t]? = some (g, .ref p) := by
          rcases putF_get h5 with ⟨e4, _⟩ | e4
          · exact absurd e4 hg
          · exact e4
        exact ⟨m, a, C, fs, _, dx, fv, g, x, t, e, ea, eh, e3, hv⟩
  · have nb : b ≠ a := fun z => by
      subst z
      have := S.inj (.c m) (.c i) b (List.getElem?_eq_some_iff.mp e2).1 (List.getElem?_eq_some_iff.mp e).1 h2' ea
      cases this
      exact ne rfl
    rw [upd_ne nb] at h3
    exact ⟨m, b, C', fs', c, dx', fv', g, x, t, e2, h2', h3, h4, h5⟩
theorem fvr_c {x : Cn} (h : w.fd i f = q) (c : CoR E w.ad H q x) : FVR E w st H i f (.ref q) (.c false x) := by subst h; exact .c c
/-- a field is stored -/
theorem fld_st {dx : Addr} {fv : List (Str × V)} (S : SR E w L st H) (e : st[i]? = some (.ins C fs)) (ea : w.ad[i]? = some a) (eh : H a = some (.ins (E.cls C) dx fv)) (hr : FsR E w st H i fv fs) (hl : .f i f ∉ L) (hlc : .c i ∉ L) (hf : (C, f) ∈ E.fl) (hv : NewF E w st H q v y) :
    SR E (w.put i f q) L (setFld st i f y) (upd H a (.ins (E.cls C) dx (putF f v fv))) ∧ FrQ E L ⟨w, st, H⟩ ⟨w.put i f q, setFld st i f y, upd H a (.ins (E.cls C) dx (putF f v fv))⟩ (fun p => p = q ∧ y.isC = true) := by
  have nd := (S.nd i C fs e).1
  have hi : i < st.length := (List.getElem?_eq_some_iff.mp e).1
  have oa : Owd w st a := ⟨.c i, hi, ea⟩
  have hy : ∀ x, y ≠ .c true x := fun x z => by subst z; cases hv
  have nt : ∀ xs, HO.ins (E.cls C) dx fv ≠ .tup xs := fun xs z => by cases z
  have tm : Tm E.K H (upd H a (.ins (E.cls C) dx (putF f v fv))) := tm_mut (E := E) eh nt
  have nq : y.isC = true → q ≠ a ∧ ¬ Owd w st q ∧ ¬ Zad w st H q ∧ Xt H q := fun hc => by
    cases hv with
    | d => cases hc
    | c k1 k2 k3 k4 => exact ⟨fun z => k3 (z ▸ oa), k3, k4, k2⟩
  have zd : ∀ p, Zad (w.put i f q) (setFld st i f y) (upd H a (.ins (E.cls C) dx (putF f v fv))) p → Zad w st H p := fun p z => zad_fld S e ea eh hy z hr
  have ow : ∀ p, Owd (w.put i f q) (setFld st i f y) p → Owd w st p ∨ (p = q ∧ y.isC = true) := fun p z => owd_fld nd e z
  refine ⟨⟨?_, fun o o' b h1 h2 h3 h4 => ?_, fun k x hx => ?_, fun o b h1 h2 h3 => ?_, fun k C' fs' hx => ?_⟩, ⟨List.prefix_refl _, tm, fun p o h1 h2 => ?_, ow, zd, fun p h => ?_, fun o h1 h2 => ?_⟩⟩
  · show w.ad.length = (setFld st i f y).length
    rw [setFld_eq e, List.length_set]
    exact S.len
  · rcases live_fld nd e h1 with ⟨a1, a2⟩ | ⟨rfl, hc⟩ <;> rcases live_fld nd e h2 with ⟨b1, b2⟩ | ⟨rfl, hc2⟩
    · rw [at_put a2] at h3
      rw [at_put b2] at h4
      exact S.inj o o' b a1 b1 h3 h4
    · rw [at_put a2] at h3
      have h5 : (w.put i f q).fd i f = b := Option.some.inj h4
      rw [put_fd'] at h5
      subst h5
      exact absurd ⟨o, a1, h3⟩ (nq hc2).2.1
    · rw [at_put b2] at h4
      have h5 : (w.put i f q).fd i f = b := Option.some.inj h3
      rw [put_fd'] at h5
      subst h5
      exact absurd ⟨o', b1, h4⟩ (nq hc).2.1
    · rfl
  · rw [setFld_eq e] at hx
    rcases get_set hx with ⟨rfl, e2, _⟩ | ⟨ne, e2⟩
    · cases e2
      refine ⟨a, ea, dx, putF f v fv, upd_same, ?_⟩
      refine FsR.put ?_ hr nd fun m g v' y' hg k1 k2 k3 => ?_
      · cases hv with
        | d k => exact .d (k.mono (List.prefix_refl _) tm)
        | c k1 k2 k3 k4 =>
          exact fvr_c put_fd' (CoR.mono (E := E) (ad' := (w.put k f q).ad) (List.prefix_refl _) tm (upd_ne (nq rfl).1) k1)
      · cases k3 with
        | d kk => exact .d (kk.mono (List.prefix_refl _) tm)
        | @c z kk =>
          have nb : w.fd k g ≠ a := fun z' => by
            have := S.inj (.f k g) (.c k) a ⟨C, fs, z, e, List.mem_of_getElem? k1⟩ hi (by rw [← z']; rfl) ea
            cases this
          exact fvr_c (put_fd fun z' => hg z'.2) (CoR.mono (E := E) (ad' := (w.put k f q).ad) (List.prefix_refl _) tm (upd_ne nb) kk)
        | @z b x kk kn =>
          have nb : b ≠ a := fun z' => kn (z' ▸ oa)
          refine .z (kk.mono (List.prefix_refl _) tm (upd_ne nb)) fun z' => ?_
          rcases ow b z' with z' | ⟨rfl, hc⟩
          · exact kn z'
          · exact (nq hc).2.2.1 ⟨k, a, C, fs, _, dx, fv, g, x, m, e, ea, eh, k1, k2⟩
    · obtain ⟨b, e3, h⟩ := S.cell k x e2
      have nb : b ≠ a := fun z => by
        subst z
        have := S.inj (.c k) (.c i) b (List.getElem?_eq_some_iff.mp e2).1 hi e3 ea
        cases this
        exact ne rfl
      refine ⟨b, e3, ?_⟩
      cases x with
      | con x => exact CoR.mono (List.prefix_refl _) tm (upd_ne nb) h
      | ins C' fs' =>
        obtain ⟨dx', fv', h1, h2⟩ := h
        refine ⟨dx', fv', (upd_ne nb).trans h1, FsR.to (w := w) (w' := w.put i f q) (List.prefix_refl _) tm (fun g => put_fd fun z => ne z.1) h2 (fun m g x b' k1 k2 k3 k4 => ?_) fun m g t x b' k1 k2 => upd_ne fun z => ?_⟩
        · rcases ow b' k4 with k4 | ⟨rfl, hc⟩
          · exact k3 k4
          · exact (nq hc).2.2.1 ⟨k, b, C', fs', _, dx', fv', g, x, m, e2, e3, h1, k1, k2⟩
        · subst z
          obtain ⟨u, q1, q2⟩ := h2.getI k1
          rw [k2] at q1
          cases q1
          cases t with
          | true => cases q2 with | z r1 r2 => exact r2 oa
          | false =>
            have e4 : b' = w.fd k g := by cases q2; rfl
            have := S.inj (.f k g) (.c i) b' ⟨C', fs', x, e2, List.mem_of_getElem? k1⟩ hi (by rw [e4]; rfl) ea
            cases this
  · rcases live_fld nd e h1 with ⟨a1, a2⟩ | ⟨rfl, hc⟩
    · rw [at_put a2] at h3
      by_cases hb : b = a
      · subst hb
        exact ⟨_, upd_same, trivial⟩
      · obtain ⟨u, e1, m⟩ := S.ex o b a1 h2 h3
        exact ⟨u, (upd_ne hb).trans e1, m⟩
    · have h5 : (w.put i f q).fd i f = b := Option.some.inj h3
      rw [put_fd'] at h5
      subst h5
      obtain ⟨u, e1, m⟩ := (nq hc).2.2.2
      exact ⟨u, (upd_ne (nq hc).1).trans e1, m⟩
  · rw [setFld_eq e] at hx
    rcases get_set hx with ⟨rfl, e2, _⟩ | ⟨ne, e2⟩
    · cases e2
      exact nd_put (S.nd k C fs e) hf
    · exact S.nd k C' fs' e2
  · have nb : p ≠ a := fun z => h2 (z ▸ oa)
    exact (upd_ne nb).trans h1
  · have h' : upd H a (.ins (E.cls C) dx (putF f v fv)) p = none := h
    unfold upd at h'
    split at h'
    · cases h'
    · exact h'
  · have no : o ≠ .f i f := fun z => hl (z ▸ h1)
    refine ⟨live_fld' e no h2, at_put no, fun p hp => upd_ne fun z => ?_⟩
    subst z
    have := S.inj o (.c i) p h2 hi hp ea
    subst this
    exact hlc h1
end
end Tv

/-! statements that store fields; places -/
namespace Tv
open PySem L2 PySem.Spec PyProof.Rows
section
variable {E : En} {xb : XB} {w w0 w1 w2 w' : Wd} {L0 L L' l Lk : List Ow} {st st0 st1 st2 st' : Sto} {H H1 H2 H' B B' J : Hp} {env env0 env1 env' : Env} {σ σ0 σ1 σ' σ2 : L2.St} {v : V} {s : SV} {vs : List V} {ss as : List SV} {j i k C : Nat} {p a q : Addr} {P : Prog} {n : Nat} {W : WX} {X : Cx} {f g : Str} {fs : List (Str × FV)} {y : FV} {r : SO} {te tv tw : TE} {e ev1 ev2 : Ex}
theorem not_lock {o : Ow} (h : (P.cl (P.call n) L).locks.contains o = false) : o ∉ L := fun z => by
  have : L.contains o = true := List.contains_iff_mem.mpr z
  rw [show (P.cl (P.call n) L).locks = L from rfl, this] at h
  cases h
theorem may_inv (h : mayFld (P.cl (P.call n) L) i f = true) : .f i f ∉ L ∧ .c i ∉ L := by
  unfold mayFld at h
  rw [Bool.and_eq_true, Bool.not_eq_true', Bool.not_eq_true'] at h
  exact ⟨not_lock h.1, not_lock h.2⟩
theorem okFld_inv (hfl : P.flds = E.fl) (S : SR E w L' st H) (e : st[i]? = some (.ins C fs)) (h : okFld (P.cl (P.call n) L) C f fs = true) : (C, f) ∈ E.fl := by
  unfold okFld at h
  rw [Bool.or_eq_true] at h
  rcases h with h | h
  · obtain ⟨x, hx⟩ := Option.isSome_iff_exists.mp h
    exact (S.nd i C fs e).2 f (List.mem_map.mpr ⟨_, mem_lookup hx, rfl⟩)
  · have h' : P.flds.contains (C, f) = true := h
    rw [hfl] at h'
    exact List.contains_iff_mem.mp h'
/-- what the store asks and does -/
theorem store_inv {u u2 : SV} {x : V} {kk : Env → Sto → Option SO} (hE : Enk E) (hfl : P.flds = E.fl) (S2 : SR E w2 L st2 H2) (v2 : VR E L0 w2 st2 H2 env σ B x u2)
    (h : (match insAt st2 u2 with
      | some (i, C, fs) => if mayFld (P.cl (P.call n) L) i f && (decide (fs.length < 1000) && okFld (P.cl (P.call n) L) C f fs) then match fvOf u with
          | some x => kk env (setFld st2 i f x)
          | none => none
        else none
      | none => none) = some r) :
    ∃ i C fs a dx fv y, x = .ref a ∧ st2[i]? = some (.ins C fs) ∧ w2.ad[i]? = some a ∧ H2 a = some (.ins (E.cls C) dx fv) ∧ FsR E w2 st2 H2 i fv fs ∧ .f i f ∉ L ∧ .c i ∉ L ∧ fv.length < 1000 ∧ (C, f) ∈ E.fl ∧ Cls E.K (E.cls C) ∧ NoAttr E.K (E.cls C) f ∧ fvOf u = some y ∧ kk env (setFld st2 i f y) = some r := by
  split at h
  · rename_i i C fs e0
    obtain ⟨rfl, e⟩ := ins_inv e0
    obtain ⟨a, dx, fv, rfl, e1, h1, h2⟩ := ins_of S2 v2.dd e
    split at h
    · rename_i hc
      rw [Bool.and_eq_true, Bool.and_eq_true] at hc
      obtain ⟨m1, m2⟩ := may_inv hc.1
      have hf := okFld_inv hfl S2 e hc.2.2
      split at h
      · rename_i y ey
        exact ⟨i, C, fs, a, dx, fv, y, rfl, e, e1, h1, h2, m1, m2, by rw [h2.length]; exact of_decide_eq_true hc.2.1, hf, (hE C f hf).1, (hE C f hf).2, ey, h⟩
      · cases h
    · cases h
  · cases h
theorem ss_fld (hE : Enk E) (hfl : P.flds = E.fl) (he : SE P n E xb W te e) (hv : SE P n E xb W tv ev1) : SS P n E xb W (sFld E.K te tv f) (.fld e f ev1) := by
  intro L0 L w env st σ H h0 S R r h D hD
  show tv σ H fun y H1 => te σ H1 fun x H2 => ∃ a C dx fs, x = .ref a ∧ H2 a = some (.ins C dx fs) ∧ Cls E.K C ∧ NoAttr E.K C f ∧ fs.length < 1000 ∧ D.nx σ (upd H2 a (.ins C dx (putF f y fs)))
  refine sb_go hv h0 S R h hD fun u st1 w1 H1 y S1 R1 f1 v1 h2 hD1 => ?_
  refine sb_go he h0 S1 R1 (show sb (ev (P.cl (P.call n) L) e env st1) env _ = some r from h2) hD1 fun u2 st2 w2 H2 x S2 R2 f2 v2 h3 hD2 => ?_
  obtain ⟨i, C, fs, a, dx, fv, z, rfl, e0, e1, h1, hr, m1, m2, hl, hf, c1, c2, ez, hk⟩ := store_inv (n := n) (f := f) (u := u) (kk := fun env st => some (.nx env st)) hE hfl S2 v2 h3
  cases hk
  have key : ∃ q, NewF E w2 st2 H2 q y z ∧ ∀ p, (p = q ∧ z.isC = true) → H p = none := by
    cases v1 with
    | d k => cases ez; exact ⟨0, .d (k.mono f2.ad f2.tm), fun p hp => by cases hp.2⟩
    | @own q x k1 k2 k3 k4 k5 =>
      cases ez
      obtain ⟨b1, b2, b3⟩ := f2.stay k3 k1
      have hn : H1 q ≠ none := by obtain ⟨u, hu, _⟩ := k2; rw [hu]; intro z; cases z
      refine ⟨q, .c b1 ?_ b2 (f2.nozad k3 k5 hn), fun p hp => by rw [hp.1]; exact k4⟩
      obtain ⟨u, hu, mu⟩ := k2
      exact ⟨u, b3.trans hu, mu⟩
    | atS => cases ez
    | atF => cases ez
    | par => cases ez
    | scr => cases ez
  obtain ⟨q, nf, hq⟩ := key
  obtain ⟨S3, fq⟩ := fld_st S2 e0 e1 h1 hr m1 m2 hf nf
  have f3 : Fr E L ⟨w, st, H⟩ _ := Fr.frq (f1.tr f2) fq hq
  exact ⟨a, _, dx, fv, rfl, h1, c1, c2, hl, hD _ σ _ S3 (R.fr S h0 f3) (Stp.of R f3)⟩
theorem ss_fldMv (hE : Enk E) (hfl : P.flds = E.fl) (he : SE P n E xb W te e) : SS P n E xb W (sFld E.K te (tVar j) f) (.fldMv e f j) := by
  intro L0 L w env st σ H h0 S R r h D hD
  show ∃ y, σ[j]? = some (some y) ∧ te σ H fun x H2 => ∃ a C dx fs, x = .ref a ∧ H2 a = some (.ins C dx fs) ∧ Cls E.K C ∧ NoAttr E.K C f ∧ fs.length < 1000 ∧ D.nx σ (upd H2 a (.ins C dx (putF f y fs)))
  have h' : (match env[j]? with
    | some (some (.c .own x)) => if free (P.cl (P.call n) L) j then store (P.cl (P.call n) L) env e f (.c .own x) st fun env st => some (.nx (env.set j none) st) else none
    | some (some (.d x)) => store (P.cl (P.call n) L) env e f (.d x) st fun env st => some (.nx env st)
    | _ => none) = some r := h
  split at h'
  · rename_i x0 ej
    split at h'
    · rename_i hfr
      have hsj := free_s hfr
      obtain ⟨y, sj, sl⟩ := R.ok j _ ej
      refine ⟨y, sj, ?_⟩
      cases sl with
      | @own q x k1 k2 k3 =>
        refine sb_go he h0 S R (show sb (ev (P.cl (P.call n) L) e env st) env _ = some r from h') hD fun u2 st2 w2 H2 x S2 R2 f2 v2 h3 hD2 => ?_
        obtain ⟨i, C, fs, a, dx, fv, z, rfl, e0, e1, h1, hr, m1, m2, hl, hf, c1, c2, ez, hk⟩ := store_inv (n := n) (f := f) (u := .c .own x0) (kk := fun env st => some (.nx (env.set j none) st)) hE hfl S2 v2 h3
        cases ez
        cases hk
        obtain ⟨y2, sj2, sl2⟩ := R2.ok j _ ej
        rw [sj] at sj2
        cases sj2
        cases sl2 with
        | own b1 b2 b3 =>
          have nf : NewF E w2 st2 H2 q (.ref q) (.c false x0) := .c b1 (b3 hsj) b2 fun z => R2.zs q z (sod_slot ej sj)
          obtain ⟨S3, fq⟩ := fld_st S2 e0 e1 h1 hr m1 m2 hf nf
          have fq' : FrQ E L _ _ (fun p => p = q) := ⟨fq.ad, fq.tm, fq.out, fun p hp => (fq.new p hp).imp id (·.1), fq.newz, fq.dom, fq.lk⟩
          refine ⟨a, _, dx, fv, rfl, h1, c1, c2, hl, hD _ σ _ S3 (ER.moved S2 fq' h0 R2 ej sj) ?_⟩
          exact Stp.nameU hsj (Stp.frq R2 (Stp.of R f2) fq' fun p hp => by subst hp; exact .inl (sod_slot ej sj))
    · cases h'
  · rename_i x0 ej
    obtain ⟨y, sj, sl⟩ := R.ok j _ ej
    refine ⟨y, sj, ?_⟩
    cases sl with
    | d k1 =>
      refine sb_go he h0 S R (show sb (ev (P.cl (P.call n) L) e env st) env _ = some r from h') hD fun u2 st2 w2 H2 x S2 R2 f2 v2 h3 hD2 => ?_
      obtain ⟨i, C, fs, a, dx, fv, z, rfl, e0, e1, h1, hr, m1, m2, hl, hf, c1, c2, ez, hk⟩ := store_inv (n := n) (f := f) (u := .d x0) (kk := fun env st => some (.nx env st)) hE hfl S2 v2 h3
      cases ez
      cases hk
      obtain ⟨S3, fq⟩ := fld_st (q := 0) S2 e0 e1 h1 hr m1 m2 hf (.d (k1.mono f2.ad f2.tm))
      have f3 : Fr E L ⟨w, st, H⟩ _ := Fr.frq f2 fq fun p hp => by cases hp.2
      exact ⟨a, _, dx, fv, rfl, h1, c1, c2, hl, hD _ σ _ S3 (R.fr S h0 f3) (Stp.of R f3)⟩
  · cases h'
/-- e.f op= v, ints -/
def augRd (o : Bo) : V → V → Hp → VK → Prop := fun x y H Q => ∃ i j z, x = .int i ∧ y = .int j ∧ augI o i j = some z ∧ Q (.int z) H
theorem ss_augFld {o : Bo} (hE : Enk E) (hfl : P.flds = E.fl) (he : SE P n E xb W te e) (hv : SE P n E xb W tv ev1) : SS P n E xb W (sFldAug E.K te tv (augRd o) f) (.augFld e f o ev1) := by
  intro L0 L w env st σ H h0 S R r h D hD
  show te σ H fun x H1 => ∃ a C dx fs v, x = .ref a ∧ H1 a = some (.ins C dx fs) ∧ Cls E.K C ∧ NoAttr E.K C f ∧ fs.lookup f = some v ∧
    tv σ H1 fun y H2 => augRd o v y H2 fun z H3 => ∃ dx' fs', H3 a = some (.ins C dx' fs') ∧ fs'.length < 1000 ∧ D.nx σ (upd H3 a (.ins C dx' (putF f z fs')))
  refine sb_go he h0 S R h hD fun u st1 w1 H1 x S1 R1 f1 v1 h2 hD1 => ?_
  split at h2
  · rename_i i C fs e00
    obtain ⟨rfl, e0⟩ := ins_inv e00
    obtain ⟨a, dx, fv, rfl, e1, h1, hr⟩ := ins_of S1 v1.dd e0
    split at h2
    · rename_i p0 ef
      obtain ⟨c1, c2⟩ := ok_names hE S1 e0 ef
      obtain ⟨vf, k1, k2⟩ := hr.get ef
      have hvf : vf = .int p0 := by cases k2 with | d k2 => exact k2.int_of
      subst hvf
      refine ⟨a, _, dx, fv, _, rfl, h1, c1, c2, k1, ?_⟩
      refine sb_go hv h0 S1 R1 h2 hD1 fun u2 st2 w2 H2 y S2 R2 f2 v2 h3 hD2 => ?_
      split at h3
      · rename_i q0
        rw [v2.int]
        split at h3
        · rename_i z ez
          refine ⟨p0, q0, z, rfl, rfl, ez, ?_⟩
          split at h3
          · rename_i C' fs' e0'
            split at h3
            · rename_i hc
              cases h3
              rw [Bool.and_eq_true, Bool.and_eq_true, Bool.and_eq_true] at hc
              obtain ⟨m1, m2⟩ := may_inv hc.1
              have hC : C' = C := of_decide_eq_true hc.2.2.1
              subst hC
              obtain ⟨yy, hy⟩ := Option.isSome_iff_exists.mp hc.2.2.2
              have hf : (C', f) ∈ E.fl := (S2.nd i C' fs' e0').2 f (List.mem_map.mpr ⟨_, mem_lookup hy, rfl⟩)
              obtain ⟨b, dx', fv', eb, e1', h1', hr'⟩ := ins_of S2 (.ref (pre_get f2.ad e1)) e0'
              cases eb
              obtain ⟨S3, fq⟩ := fld_st (q := 0) S2 e0' e1' h1' hr' m1 m2 hf (.d (.int z))
              have f3 : Fr E L ⟨w, st, H⟩ _ := Fr.frq (f1.tr f2) fq fun p hp => by cases hp.2
              exact ⟨dx', fv', h1', by rw [hr'.length]; exact of_decide_eq_true hc.2.1, hD _ σ _ S3 (R.fr S h0 f3) (Stp.of R f3)⟩
            · cases h3
          · cases h3
        · cases h3
      · cases h3
    · cases h2
  · cases h2
/-! places -/
theorem pl_fld (hE : Enk E) (he : SE P n E xb W te e) : PlS P n E xb W (tFld E.K te f) (.fld e f) := by
  intro L0 L w env st σ H h0 S R r h Q hQ
  show te σ H fun x H1 => ∃ a C dx fs v, x = .ref a ∧ H1 a = some (.ins C dx fs) ∧ Cls E.K C ∧ NoAttr E.K C f ∧ fs.lookup f = some v ∧ Q v H1
  refine sg_go he h0 S R h hQ fun u st1 w1 H1 x S1 R1 f1 v1 h hQ => ?_
  split at h
  · rename_i i C fs e00
    obtain ⟨rfl, e0⟩ := ins_inv e00
    obtain ⟨a, dx, fv, rfl, e1, h1, hr⟩ := ins_of S1 v1.dd e0
    split at h
    · rename_i x ef
      cases ok_inj h
      obtain ⟨c1, c2⟩ := ok_names hE S1 e0 ef
      obtain ⟨vf, k1, k2⟩ := hr.get ef
      cases k2 with
      | c k2 => exact ⟨a, _, dx, fv, _, rfl, h1, c1, c2, k1, okr_now hQ S1 ⟨rfl, C, fs, x, e0, mem_lookup ef⟩⟩
    · rename_i k ef
      cases ok_inj h
      obtain ⟨c1, c2⟩ := ok_names hE S1 e0 ef
      obtain ⟨vf, k1, k2⟩ := hr.get ef
      cases k2 with
      | d k2 =>
        obtain ⟨b, rfl, e2⟩ := k2.ref_of
        exact ⟨a, _, dx, fv, _, rfl, h1, c1, c2, k1, okr_now hQ S1 ⟨b, rfl, e2, by rw [← S1.len]; exact (List.getElem?_eq_some_iff.mp e2).1⟩⟩
    · cases h
  · cases h
theorem pl_ex (he : SE P n E xb W te e) : PlS P n E xb W te (.ex e) := by
  intro L0 L w env st σ H h0 S R r h Q hQ
  have h' : rb (ev (P.cl (P.call n) L) e env st) (fun u st => match u with
    | .d (.ref k) => ok (Lc.cell k) st
    | _ => none) = some r := h
  cases e1 : ev (P.cl (P.call n) L) e env st with
  | none => rw [e1] at h'; cases h'
  | some o =>
    rw [e1] at h'
    refine he L0 L w env st σ H h0 S R o e1 Q ?_
    cases o with
    | ex y st1 => cases (show some (Out.ex y st1) = some r from h'); exact hQ
    | ok u st1 =>
      intro w1 H1 x S1 f1 v1
      cases u with
      | d dd =>
        cases dd with
        | ref k =>
          cases ok_inj (show ok (Lc.cell k) st1 = some r from h')
          obtain ⟨b, rfl, e2⟩ := v1.dd.ref_of
          exact hQ w1 H1 _ S1 f1 ⟨b, rfl, e2, by rw [← S1.len]; exact (List.getElem?_eq_some_iff.mp e2).1⟩
        | _ => cases h'
      | c _ _ => cases h'
      | x _ => cases h'
end
end Tv

/-! the code over instances, piece by piece -/
namespace Tv
open PySem L2 PySem.Spec PyProof.Rows
section
variable {X : Cx} {g : Gm} {pa pb po pe pv : Expr} {ps : List Expr} {a b e o v : Ex} {es es0 : Exs} {pos pos' apos tpos : Pos} {ta tb te tv : TE} {t tk tas : TA} {f x : Str} {kk C fi : Nat} {fa : Addr} {fd : FuncData} {nps ks : List Str} {np : Pos} {kws : List Keyword}
/-! C(..) -/
theorem de_mk {dvs : List V} {ds : List Value} {xs : List D} (tkp : Takes X g.W) (M : Mk X.K (g.E.cls C) fa) (F : FnOk X.prog X.w X.K X.mg X.base (L2.CX X.prog X.w) kk fa fd nps (spT g.P g.E g.n fi)) (hr : Room (kk + 1) X.A) (hg : Gl X x) (hm : X.mg x = some (.ref (g.E.cls C))) (hb : Binds X.K fd nps ds) (hd : Vals dvs ds) (hc : Cs g.E dvs xs)
    (h : Da X g (pa :: ps) es0 t) (he : es = es0.app (csts xs)) (hn : es.len + 1 = (g.P.fn fi).np) (hdb : (x == ("__debug__" : Str)) = false := by decide) (hst : starEach (pa :: ps) X.env = (false, eval pa X.env) :: starEach ps X.env := by rfl) (hpl : (backTo pos (starEach ps X.env)).any (·.1) = false := by rfl) :
    De X g (.Call (.Name x np) (pa :: ps) [] pos) (.make C fi es) (tMkS (g.E.cls C) (spT g.P g.E g.n fi) dvs (WE g.W) t) := ⟨pe_mkS M F hr hg hm hb hd (fun σ => passAt tkp σ) h.p hdb hst hpl, se_mk he h.s hc hn⟩
theorem de_mk0 {dvs : List V} {ds : List Value} {xs : List D} (tkp : Takes X g.W) (M : Mk X.K (g.E.cls C) fa) (F : FnOk X.prog X.w X.K X.mg X.base (L2.CX X.prog X.w) kk fa fd nps (spT g.P g.E g.n fi)) (hr : Room (kk + 1) X.A) (hg : Gl X x) (hm : X.mg x = some (.ref (g.E.cls C))) (hb : Binds X.K fd nps ds) (hd : Vals dvs ds) (hc : Cs g.E dvs xs)
    (he : es = Exs.app .nil (csts xs)) (hn : es.len + 1 = (g.P.fn fi).np) (hdb : (x == ("__debug__" : Str)) = false := by decide) :
    De X g (.Call (.Name x np) [] [] pos) (.make C fi es) (tMkS (g.E.cls C) (spT g.P g.E g.n fi) dvs (WE g.W) tNil) := ⟨pe_mkS0 M F hr hg hm hb hd (fun σ => passAt tkp σ) hdb, se_mk he sa_nil hc hn⟩
theorem de_mkK {j m : Nat} {dvs : List V} {xs : List D} {gU : List Value → List Value → List Value} {gV : List V → List V → List V} (tkp : Takes X g.W) (M : Mk X.K (g.E.cls C) fa) (F : FnOk X.prog X.w X.K X.mg X.base (L2.CX X.prog X.w) kk fa fd nps (spT g.P g.E g.n fi)) (hr : Room (kk + 1) X.A) (hg : Gl X x) (hm : X.mg x = some (.ref (g.E.cls C))) (hb : KBn X.K fd nps (j + 1) ks gU gV) (hc : Cs g.E dvs xs) (hgv : ∀ us ws, gV us ws = us ++ ws ++ dvs)
    (h : Dak X g (pa :: ps) kws es0 j m t tk) (hm2 : ks.length = m) (he : es = es0.app (csts xs)) (hn : es.len + 1 = (g.P.fn fi).np) (hall : (backToKw pos (keywordEach kws X.env)).all (·.1.isSome) = true := by rfl) (hks : (backToKw pos (keywordEach kws X.env)).filterMap (·.1) = ks := by rfl)
    (hdb : (x == ("__debug__" : Str)) = false := by decide) (hst : starEach (pa :: ps) X.env = (false, eval pa X.env) :: starEach ps X.env := by rfl)
    (hpl : ((backTo pos (starEach (pa :: ps) X.env)).any (·.1) || (backToKw pos (keywordEach kws X.env)).any (·.1.isNone)) = false := by rfl) :
    De X g (.Call (.Name x np) (pa :: ps) kws pos) (.make C fi es) (tMkK (g.E.cls C) j m (spT g.P g.E g.n fi) gV (WE g.W) t tk) := by
  subst hm2
  exact ⟨pe_mkK M F hr hg hm hb (fun σ => passAt tkp σ) h.p h.k hall hks hdb hst hpl, se_mkK he h.s hc (fun us ws _ => hgv us ws) hn⟩
theorem de_mkK0 {m : Nat} {dvs : List V} {xs : List D} {gU : List Value → List Value → List Value} {gV : List V → List V → List V} (tkp : Takes X g.W) (M : Mk X.K (g.E.cls C) fa) (F : FnOk X.prog X.w X.K X.mg X.base (L2.CX X.prog X.w) kk fa fd nps (spT g.P g.E g.n fi)) (hr : Room (kk + 1) X.A) (hg : Gl X x) (hm : X.mg x = some (.ref (g.E.cls C))) (hb : KBn X.K fd nps 1 ks gU gV) (hc : Cs g.E dvs xs) (hgv : ∀ us ws, gV us ws = us ++ ws ++ dvs)
    (h : Dak X g [] kws es0 0 m tNil tk) (hm2 : ks.length = m) (he : es = es0.app (csts xs)) (hn : es.len + 1 = (g.P.fn fi).np) (hall : (backToKw pos (keywordEach kws X.env)).all (·.1.isSome) = true := by rfl) (hks : (backToKw pos (keywordEach kws X.env)).filterMap (·.1) = ks := by rfl)
    (hdb : (x == ("__debug__" : Str)) = false := by decide) (hpl : ((backTo pos (starEach [] X.env)).any (·.1) || (backToKw pos (keywordEach kws X.env)).any (·.1.isNone)) = false := by rfl) :
    De X g (.Call (.Name x np) [] kws pos) (.make C fi es) (tMkK (g.E.cls C) 0 m (spT g.P g.E g.n fi) gV (WE g.W) tNil tk) := by
  subst hm2
  exact ⟨pe_mkK0 M F hr hg hm hb (fun σ => passAt tkp σ) h.k hall hks hdb hpl, se_mkK he h.s hc (fun us ws _ => hgv us ws) hn⟩
/-- a call that leaves its last parameters their defaults -/
theorem de_callD {dvs : List V} {ds : List Value} {xs : List D} (tkp : Takes X g.W) (F : FnOk X.prog X.w X.K X.mg X.base (L2.CX X.prog X.w) kk fa fd nps (spT g.P g.E g.n fi)) (hr : Room kk X.A) (hg : Gl X x) (hm : X.mg x = some (.ref fa)) (hkp : PySem.W.keepIn X.K (.ref fa) = true) (hb : Binds X.K fd nps ds) (hd : Vals dvs ds) (hc : Cs g.E dvs xs)
    (h : Da X g (pa :: ps) es0 t) (he : es = es0.app (csts xs)) (hn : es.len = (g.P.fn fi).np) (hdb : (x == ("__debug__" : Str)) = false := by decide) (hst : starEach (pa :: ps) X.env = (false, eval pa X.env) :: starEach ps X.env := by rfl) (hpl : (backTo pos (starEach ps X.env)).any (·.1) = false := by rfl) :
    De X g (.Call (.Name x np) (pa :: ps) [] pos) (.call fi es) (tCallSD (spT g.P g.E g.n fi) dvs (WE g.W) t) := ⟨pe_callSD F hr hg hm hkp hb hd (fun σ => passAt tkp σ) h.p hdb hst hpl, se_callD he h.s hc hn⟩
/-! stores -/
theorem ds_fld (hE : Enk g.E) (hfl : g.P.flds = g.E.fl) (hK : X.K = g.E.K) (h : De X g po o te) (hv : De X g pv v tv) (hs : swapsWith pv (some (.Attribute po f pos')) pos.line X.env = pure false := by rfl) : Ds X g (.Assign [.Attribute po f pos'] pv pos) (.fld o f v) (sFld g.E.K te tv f) := ⟨hK ▸ ps_fld h.p hv.p hs, ss_fld hE hfl h.s hv.s⟩
theorem ds_fldMv {j : Nat} (hE : Enk g.E) (hfl : g.P.flds = g.E.fl) (hK : X.K = g.E.K) (h : De X g po o te) (hv : PE X pv (tVar j)) (hs : swapsWith pv (some (.Attribute po f pos')) pos.line X.env = pure false := by rfl) : Ds X g (.Assign [.Attribute po f pos'] pv pos) (.fldMv o f j) (sFld g.E.K te (tVar j) f) := ⟨hK ▸ ps_fld h.p hv hs, ss_fldMv hE hfl h.s⟩
theorem in_add : InOp X .Add (augRd .add) := fun pins s σ H x y u v Q I r1 r2 h => by
  obtain ⟨i, j, z, rfl, rfl, ez, q⟩ := h
  cases ez
  exact ip_add pins s σ H _ _ u v Q I r1 r2 ⟨i, j, rfl, rfl, q⟩
theorem in_sub : InOp X .Sub (augRd .sub) := fun pins s σ H x y u v Q I r1 r2 h => by
  obtain ⟨i, j, z, rfl, rfl, ez, q⟩ := h
  cases ez
  exact ip_sub pins s σ H _ _ u v Q I r1 r2 ⟨i, j, rfl, rfl, q⟩
theorem ds_augFld {op : Operator} {bo : Bo} (hop : InOp X op (augRd bo)) (hE : Enk g.E) (hfl : g.P.flds = g.E.fl) (hK : X.K = g.E.K) (h : De X g po o te) (hv : De X g pv v tv) : Ds X g (.AugAssign (.Attribute po f tpos) op pv pos) (.augFld o f bo v) (sFldAug g.E.K te tv (augRd bo) f) := ⟨hK ▸ ps_fldaug h.p hv.p hop, ss_augFld hE hfl h.s hv.s⟩
/-! places -/
theorem dpl_fld (hE : Enk g.E) (hK : X.K = g.E.K) (h : De X g pe e te) (hb : attributeBase pe f X.env (eval pe X.env) = eval pe X.env := by rfl) : Dpl X g (.Attribute pe f pos) (.fld e f) (tFld g.E.K te f) := ⟨hK ▸ pe_fld h.p hb, pl_fld hE h.s⟩
theorem dpl_ex (h : De X g pe e te) : Dpl X g pe (.ex e) te := ⟨h.p, pl_ex h.s⟩
end
end Tv

/-! what a for walks: rows, dicts (which are known while they are walked) -/
namespace Tv
open PySem L2 PySem.Spec PyProof.Rows
/-- where a dict is known no more -/
def Unl (H0 H : Hp) (Q : Hp → Prop) : Prop := Q H ∨ ∃ d o u, H d = some (.frz o u) ∧ (∀ o' u', H0 d ≠ some (.frz o' u')) ∧ Q (upd H d u)
def tUnl (H0 : Hp) (t : TS) : TS := fun D σ H => t ⟨fun σ' H' => Unl H0 H' (D.nx σ'), fun v H' => Unl H0 H' (D.rt v), fun σ' H' => Unl H0 H' (D.bk σ'), fun σ' H' => Unl H0 H' (D.ct σ')⟩ σ H
def tUnlE (H0 : Hp) (t : TE) : TE := fun σ H Q => t σ H fun v H' => Unl H0 H' (Q v)
abbrev WU (H0 : Hp) (W : WX) : WX := fun cls d σ H => Unl H0 H (W cls d σ)
def iKeysL (H0 : Hp) (td : TE) : TI := fun σ H R => td σ H fun x H1 => ∃ d kvs, x = .ref d ∧ ((∃ o, H1 d = some (.frz o (.dK kvs)) ∧ R (Itk d o kvs) H1) ∨ (H1 d = some (.dK kvs) ∧ ∀ o, (∀ o' u', H0 d ≠ some (.frz o' u')) → R (Itk d o kvs) (upd H1 d (.frz o (.dK kvs)))))
def iValsL (H0 : Hp) (td : TE) : TI := fun σ H R => td σ H fun x H1 => ∃ d kvs, x = .ref d ∧ ((∃ o, H1 d = some (.frz o (.dK kvs)) ∧ R (Itd d o kvs) H1) ∨ (H1 d = some (.dK kvs) ∧ ∀ o, (∀ o' u', H0 d ≠ some (.frz o' u')) → R (Itd d o kvs) (upd H1 d (.frz o (.dK kvs)))))
def iItemsL (H0 : Hp) (td : TE) : TI := fun σ H R => td σ H fun x H1 => ∃ d kvs, x = .ref d ∧ ((∃ o, H1 d = some (.frz o (.dK kvs)) ∧ R (Iti d o kvs) H1) ∨ (H1 d = some (.dK kvs) ∧ ∀ o, (∀ o' u', H0 d ≠ some (.frz o' u')) → R (Iti d o kvs) (upd H1 d (.frz o (.dK kvs)))))
section
variable {X : Cx} {tg e : Expr} {td : TE} {apos cpos : Pos} {st : Stmt} {t : TS}
theorem unl_inv {pins : List (Addr × Obj)} {σ : L2.St} {H : Hp} {s : Shared} {Q : Hp → Prop} (I : Inv X pins σ H s) (h : Unl X.H_0 H Q) : ∃ H', Inv X pins σ H' s ∧ Q H' := by
  rcases h with h | ⟨d, o, u, e, hn, q⟩
  · exact ⟨H, I, h⟩
  · exact ⟨_, I.unlock e hn, q⟩
theorem ps_unl (h : PS X st t) : PS X st (tUnl X.H_0 t) := by
  refine ⟨fun pins s σ H D I hw => ?_⟩
  refine thn (h.run pins s σ _ _ I hw) fun f s1 q => ?_
  cases f with
  | next => obtain ⟨σ', H', I2, q⟩ := q; obtain ⟨H2, I3, q⟩ := unl_inv I2 q; exact ⟨σ', _, I3, q⟩
  | brk => obtain ⟨σ', H', I2, q⟩ := q; obtain ⟨H2, I3, q⟩ := unl_inv I2 q; exact ⟨σ', _, I3, q⟩
  | cont => obtain ⟨σ', H', I2, q⟩ := q; obtain ⟨H2, I3, q⟩ := unl_inv I2 q; exact ⟨σ', _, I3, q⟩
  | ret v => obtain ⟨x, σ', H', I2, r, q⟩ := q; obtain ⟨H2, I3, q⟩ := unl_inv I2 q; exact ⟨x, σ', _, I3, r, q⟩
theorem pe_unl {t : TE} (h : PE X e t) : PE X e (tUnlE X.H_0 t) := by
  refine ⟨fun pins s σ H Q I hw => ?_⟩
  refine thn (h.run pins s σ _ _ I hw) fun v s1 ⟨x, H1, I2, r, q⟩ => ?_
  obtain ⟨H2, I3, q⟩ := unl_inv I2 q
  exact ⟨x, _, I3, r, q⟩
theorem takes_unl {W : WX} (tk : Takes X W) : Takes X (WU X.H_0 W) := fun u s' ⟨a, B, sI, pins, σ, H, cls, d, e, I, nb, up, sky, na, os, ag, w⟩ => by
  rcases w with w | ⟨d', o, uu, e2, hn, q⟩
  · exact tk u s' ⟨a, B, sI, pins, σ, H, cls, d, e, I, nb, up, sky, na, os, ag, w⟩
  · refine tk u s' ⟨a, B, sI, pins, σ, upd H d' uu, cls, d, e, I.unlock e2 hn, nb, up, sky, ?_, os, ag, q⟩
    rw [upd_ne (fun z => by rw [z, e2] at na; cases na)]
    exact na
theorem ps_either {t1 t2 : TS} (h1 : PS X st t1) (h2 : PS X st t2) : PS X st (fun D σ H => t1 D σ H ∨ t2 D σ H) := ⟨fun pins s σ H D I h => h.elim (h1.run pins s σ H D I) (h2.run pins s σ H D I)⟩
theorem pi_keysL (he : PE X e td) : PI X tg e (iKeysL X.H_0 td) := by
  refine ⟨fun pins s σ H R I h => ?_⟩
  refine thn (he.run pins s σ H _ I h) fun u s1 ⟨x, H1, I1, rx, d, kvs, ex, q⟩ => ?_
  subst ex
  obtain rfl : u = Value.ref d := rx
  rcases q with ⟨o, hd, q⟩ | ⟨hd, q⟩
  · obtain ⟨hs, hgd, hx, es, ep, vs, hdt, hsz, kv, hm⟩ := I1.frzK hd
    refine iter_keys hs hgd hx hdt (pi_one (tk := s1.toks) I1 _ (turn_keys _ hdt) ⟨_, Heap.get?_push_size _ rfl, rfl, ?_⟩ q)
    rw [hsz] <;> rfl
  · obtain ⟨od, I2⟩ := I1.lock hd trivial
    have q := q od (I1.nofrz hd trivial)
    obtain ⟨hs, hgd, hx, es, ep, vs, hdt, hsz, kv, hm⟩ := I2.frzK upd_same
    refine iter_keys hs hgd hx hdt (pi_one (tk := s1.toks) I2 _ (turn_keys _ hdt) ⟨_, Heap.get?_push_size _ rfl, rfl, ?_⟩ q)
    rw [hsz] <;> rfl
theorem pi_valsL (he : PE X e td) (hbase : attributeBase e "values" X.env (eval e X.env) = eval e X.env := by rfl) (hline : (apos.endLine == cpos.line) = true := by rfl) : PI X tg (.Call (.Attribute e "values" apos) [] [] cpos) (iValsL X.H_0 td) := by
  refine ⟨fun pins s σ H R I h => ?_⟩
  refine wpAny_Call_method (T := "dict") (id := "dict.values") hbase rfl hline F.plainAttrs_dict F.slot_dict_values F.type_dict_values (thn (he.run pins s σ H _ I h) fun u s1 ⟨x, H1, I1, rx, d, kvs, ex, q⟩ => ?_)
  subst ex
  obtain rfl : u = Value.ref d := rx
  have key : ∃ (o : Obj) (H1' : Hp), Inv X pins σ H1' s1 ∧ H1' d = some (.frz o (.dK kvs)) ∧ R (Itd d o kvs) H1' := by
    rcases q with ⟨o, hd, q⟩ | ⟨hd, q⟩
    · exact ⟨o, H1, I1, hd, q⟩
    · obtain ⟨od, I2⟩ := I1.lock hd trivial
      exact ⟨od, _, I2, upd_same, q od (I1.nofrz hd trivial)⟩
  obtain ⟨o, H1', I1', hd, q⟩ := key
  obtain ⟨hs, hgd, hx, es, ep, vs, hdt, hsz, kv, hm⟩ := I1'.frzK hd
  have hl : kvs.length = vs.length := Paired.length kv
  refine ⟨hm.dictOf.typeIs, hm.dictOf.mapOf.noDict, ?_⟩
  have I2 : Inv X pins σ H1' { s1 with heap := s1.heap.push { cls := .type "dict_values", data := .fields #[.ref d] } } := I1'.kept (t' := s1.toks) fun b ob q => Heap.get?_push_of_some _ q
  have fin : wpAny (model X.prog X.w) X.A (pyIter (.ref s1.heap.objs.size)) (PIE X pins σ tg R) X.xe { s1 with heap := s1.heap.push { cls := .type "dict_values", data := .fields #[.ref d] } } := by
    refine wpAny_pyIter_values (d := d) (knd := mixKind X.prog X.w) ⟨_, Heap.get?_push_size _ rfl, rfl, rfl⟩ (hm.push _) (pi_one (tk := s1.toks) I2 _ (turn_vals _ hdt) ⟨_, Heap.get?_push_size _ rfl, rfl, ?_⟩ q)
    rw [hl] <;> rfl
  show wpAny _ _ (callWith cpos (.builtin "dict.values") [.ref d] [] []) _ X.xe s1
  exact method_meetsIn F.slot_dict_values F.entry_dict_values rfl (PySem.evalArgs_none ⟨rfl, hm.dictOf.typeIs, F.args_dict_values_1 _, _, meets_dict_values (mixKind X.prog X.w) d hs, ⟨vs, hm.dictOf⟩, fin⟩)
theorem pi_itemsL {elts : List Expr} {kk : Nat} {tpos : Pos} (he : PE X e td) (hbase : attributeBase e "items" X.env (eval e X.env) = eval e X.env := by rfl) (hline : (apos.endLine == cpos.line) = true := by rfl) :
    PI X (.Tuple elts kk tpos) (.Call (.Attribute e "items" apos) [] [] cpos) (iItemsL X.H_0 td) := by
  refine ⟨fun pins s σ H R I h => ?_⟩
  refine wpAny_Call_method (T := "dict") (id := "dict.items") hbase rfl hline F.plainAttrs_dict F.slot_dict_items F.type_dict_items (thn (he.run pins s σ H _ I h) fun u s1 ⟨x, H1, I1, rx, d, kvs, ex, q⟩ => ?_)
  subst ex
  obtain rfl : u = Value.ref d := rx
  have key : ∃ (o : Obj) (H1' : Hp), Inv X pins σ H1' s1 ∧ H1' d = some (.frz o (.dK kvs)) ∧ R (Iti d o kvs) H1' := by
    rcases q with ⟨o, hd, q⟩ | ⟨hd, q⟩
    · exact ⟨o, H1, I1, hd, q⟩
    · obtain ⟨od, I2⟩ := I1.lock hd trivial
      exact ⟨od, _, I2, upd_same, q od (I1.nofrz hd trivial)⟩
  obtain ⟨o, H1', I1', hd, q⟩ := key
  obtain ⟨hs, hgd, hx, es, ep, vs, hdt, hsz, kv, hm⟩ := I1'.frzK hd
  have hl : kvs.length = vs.length := Paired.length kv
  refine ⟨hm.dictOf.typeIs, hm.dictOf.mapOf.noDict, ?_⟩
  have I2 : Inv X pins σ H1' { s1 with heap := s1.heap.push { cls := .type "dict_items", data := .fields #[.ref d] } } := I1'.kept (t' := s1.toks) fun b ob q => Heap.get?_push_of_some _ q
  have fin : wpAny (model X.prog X.w) X.A (pyIter (.ref s1.heap.objs.size)) (PIE X pins σ (.Tuple elts kk tpos) R) X.xe { s1 with heap := s1.heap.push { cls := .type "dict_items", data := .fields #[.ref d] } } := by
    refine wpAny_pyIter_items (d := d) (knd := mixKind X.prog X.w) ⟨_, Heap.get?_push_size _ rfl, rfl, rfl⟩ (hm.push _) (pi_one (tk := s1.toks) I2 _ (turn_items _ hdt) ⟨.none, .none, ?_⟩ q)
    rw [hl]
    exact Heap.get?_push_size _ rfl
  show wpAny _ _ (callWith cpos (.builtin "dict.items") [.ref d] [] []) _ X.xe s1
  exact method_meetsIn F.slot_dict_items F.entry_dict_items rfl (PySem.evalArgs_none ⟨rfl, hm.dictOf.typeIs, F.args_dict_items_1 _, _, meets_dict_items (mixKind X.prog X.w) d hs, ⟨vs, hm.dictOf⟩, fin⟩)
end
/-! ### a dict is known, and is known no more -/
/-- the dict ps, known or not -/
def Pz (ps : List (Key × V)) (u : HO) : Prop := u = .dK ps ∨ ∃ o, u = .frz o (.dK ps)
section
variable {E : En} {xb : XB} {w w0 w1 w2 w' : Wd} {L0 L L' l Lk : List Ow} {st st0 st1 st2 st' : Sto} {H H1 H2 H' B B' J : Hp} {env env0 env1 env' : Env} {σ σ0 σ1 σ' σ2 : L2.St} {v : V} {s : SV} {vs : List V} {ss as : List SV} {j i k C : Nat} {p a q : Addr} {P : Prog} {n : Nat} {W : WX} {X : Cx} {ad : List Addr} {x : Cn} {ps : List (Key × V)} {u1 u2 : HO}
theorem Pz.ntup (h : Pz ps u1) : ∀ xs, u1 ≠ .tup xs := fun xs z => by subst z; rcases h with h | ⟨o, h⟩ <;> cases h
theorem Pz.nlst (h : Pz ps u1) : ∀ xs, u1 ≠ .lst xs := fun xs z => by subst z; rcases h with h | ⟨o, h⟩ <;> cases h
theorem Pz.nins (h : Pz ps u1) : ∀ c dx fv, u1 ≠ .ins c dx fv := fun c dx fv z => by subst z; rcases h with h | ⟨o, h⟩ <;> cases h
theorem Pz.nxd (h : Pz ps u1) : ∀ fs, u1 ≠ .xd fs := fun fs z => by subst z; rcases h with h | ⟨o, h⟩ <;> cases h
theorem Pz.rdc (h : Pz ps u1) (e : H a = some u1) : RdC H a (.dK ps) := by
  rcases h with rfl | ⟨o, rfl⟩
  · exact .inl e
  · exact .inr ⟨o, e, fun vs z => by cases z⟩
theorem tm_z (h1 : Pz ps u1) (e : H a = some u1) : Tm E.K H (upd H a u2) := tm_mut (E := E) e h1.ntup
theorem co_z (h1 : Pz ps u1) (h2 : Pz ps u2) (e : H a = some u1) (c : CoR E ad H p x) : CoR E ad (upd H a u2) p x := by
  have tm : Tm E.K H (upd H a u2) := tm_z h1 e
  by_cases hp : p = a
  · subst hp
    obtain ⟨u, r, q⟩ := c
    have hu : u = .dK ps := by
      rcases r with r | ⟨o, r, _⟩
      · rw [e] at r
        cases r
        rcases h1 with h1 | ⟨o, rfl⟩
        · exact h1
        · cases x <;> exact q.elim
      · rw [e] at r
        cases r
        rcases h1 with h1 | ⟨o, h1⟩
        · cases h1
        · cases h1; rfl
    subst hu
    exact ⟨_, h2.rdc upd_same, q.mono (List.prefix_refl _) tm⟩
  · exact c.mono (List.prefix_refl _) tm (upd_ne hp)
theorem FsR.z (h1 : Pz ps u1) (h2 : Pz ps u2) (e : H a = some u1) : ∀ {fv : List (Str × V)} {fs : List (Str × FV)}, FsR E w st H i fv fs → FsR E w st (upd H a u2) i fv fs
  | _, _, .nil => .nil
  | _, _, .cons r t => by
    refine .cons ?_ (FsR.z h1 h2 e t)
    cases r with
    | d r => exact .d (r.mono (List.prefix_refl _) (tm_z h1 e))
    | c r => exact .c (co_z h1 h2 e r)
    | z r n => exact .z (co_z h1 h2 e r) n
theorem SR.z (h1 : Pz ps u1) (h2 : Pz ps u2) (e : H a = some u1) (S : SR E w L st H) (hx : ∀ o p, o.live st → o ∉ L' → w.at o = some p → Xt (upd H a u2) p) : SR E w L' st (upd H a u2) := by
  refine ⟨S.len, S.inj, fun k y ey => ?_, hx, S.nd⟩
  obtain ⟨b, eb, h⟩ := S.cell k y ey
  refine ⟨b, eb, ?_⟩
  cases y with
  | con y => exact co_z h1 h2 e h
  | ins C fs =>
    obtain ⟨dx, fv, k1, k2⟩ := h
    have nb : b ≠ a := fun z => by subst z; rw [e] at k1; cases k1; exact h1.nins _ _ _ rfl
    exact ⟨dx, fv, (upd_ne nb).trans k1, k2.z h1 h2 e⟩
theorem zad_z (h1 : Pz ps u1) (h2 : Pz ps u2) (e : H a = some u1) (z : Zad w st (upd H a u2) p) : Zad w st H p := by
  obtain ⟨m, b, C', fs', c, dx', fv', g, x, t, k1, k2, k3, k4, k5⟩ := z
  refine ⟨m, b, C', fs', c, dx', fv', g, x, t, k1, k2, ?_, k4, k5⟩
  by_cases hb : b = a
  · subst hb
    rw [upd_same] at k3
    cases k3
    exact absurd rfl (h2.nins _ _ _)
  · rw [upd_ne hb] at k3; exact k3
theorem ER.z (h1 : Pz ps u1) (h2 : Pz ps u2) (e : H a = some u1) (S : SR E w L st H) (R : ER E xb L0 w L st H env σ) (hx : ∀ j x p, env[j]? = some (some (.c .own x)) → σ[j]? = some (some (.ref p)) → .s j ∉ L' → Xt (upd H a u2) p) : ER E xb L0 w L' st (upd H a u2) env σ := by
  refine ⟨R.len, fun j s es => ?_, R.inj, fun b z => R.zs b (zad_z h1 h2 e z)⟩
  obtain ⟨v, k1, k2⟩ := R.ok j s es
  refine ⟨v, k1, ?_⟩
  cases k2 with
  | d r => exact .d (r.mono (List.prefix_refl _) (tm_z h1 e))
  | own r1 r2 r3 => exact .own (co_z h1 h2 e r1) r2 fun z => hx j _ _ es k1 z
  | par r1 r2 r3 => exact .par (co_z h1 h2 e r1) r2 r3
  | @scr b vs xs r1 r2 =>
    refine .scr ?_ (r2.mono (List.prefix_refl _) (tm_z h1 e))
    rcases r1 with r1 | ⟨r1, r3, r4⟩
    · exact .inl r1
    · refine .inr ⟨?_, r3, r4⟩
      have nb : b ≠ a := fun z => by
        subst z
        rcases r1 with r1 | ⟨o, r1⟩
        · rw [e] at r1; cases r1; exact h1.nlst _ rfl
        · rw [e] at r1
          cases r1
          rcases h1 with h1 | ⟨o, h1⟩ <;> cases h1
      rcases r1 with r1 | ⟨o, r1⟩
      · exact .inl ((upd_ne nb).trans r1)
      · exact .inr ⟨o, (upd_ne nb).trans r1⟩
  | x r1 r2 => exact .x r1 (xr_mono (List.prefix_refl _) (tm_z h1 e) (fun b fs z => (upd_ne (fun y => by subst y; rw [e] at z; cases z; exact h1.nxd _ rfl)).trans z) r2)
/-- the dict at a is walked, and nobody may change it meanwhile -/
theorem stk_o (S : SR E w L st H) (R : ER E xb L0 w L st H env σ) (k : StK Lk ⟨w, env, st, σ, H⟩ a) : (∀ o, o.live st → w.at o = some a → o ∈ Lk) ∧ ∀ j x, env[j]? = some (some (.c .own x)) → σ[j]? = some (some (.ref a)) → .s j ∈ Lk := by
  rcases k with ⟨o, k1, k2, k3⟩ | ⟨j, x, k1, k2, k3⟩ | ⟨k1, k2⟩
  · refine ⟨fun o' h1 h2 => ?_, fun j x h1 h2 => ?_⟩
    · rw [S.inj o' o a h1 k2 h2 k3]; exact k1
    · exact absurd ⟨o, k2, k3⟩ (R.sod (sod_slot h1 h2)).1
  · refine ⟨fun o' h1 h2 => ?_, fun j' x' h1 h2 => ?_⟩
    · exact absurd ⟨o', h1, h2⟩ (R.sod (sod_slot k2 k3)).1
    · rw [R.inj j' j x' x a h1 k2 h2 k3]; exact k1
  · exact ⟨fun o' h1 h2 => absurd ⟨o', h1, h2⟩ k1, fun j x h1 h2 => absurd (sod_slot h1 h2) k2⟩
theorem frz_ok {ob : Obj} (e : H a = some (.dK ps)) (S : SR E w L st H) (R : ER E xb L0 w L st H env σ) (k : StK Lk ⟨w, env, st, σ, H⟩ a) (hl : ∀ o ∈ Lk, o ∈ L') (hL : ∀ o ∈ L, o ∈ L') :
    SR E w L' st (upd H a (.frz ob (.dK ps))) ∧ ER E xb L0 w L' st (upd H a (.frz ob (.dK ps))) env σ := by
  obtain ⟨q1, q2⟩ := stk_o S R k
  refine ⟨SR.z (.inl rfl) (.inr ⟨ob, rfl⟩) e S fun o p h1 h2 h3 => ?_, ER.z (.inl rfl) (.inr ⟨ob, rfl⟩) e S R fun j x p h1 h2 h3 => ?_⟩
  · have np : p ≠ a := fun z => by subst z; exact h2 (hl _ (q1 o h1 h3))
    obtain ⟨u, y1, y2⟩ := S.ex o p h1 (fun z => h2 (hL _ z)) h3
    exact ⟨u, (upd_ne np).trans y1, y2⟩
  · have np : p ≠ a := fun z => by subst z; exact h3 (hl _ (q2 j x h1 h2))
    obtain ⟨v, y1, y2⟩ := R.ok j _ h1
    rw [h2] at y1
    cases y1
    cases y2 with
    | own r1 r2 r3 =>
      obtain ⟨u, z1, z2⟩ := r3 fun z => h3 (hL _ z)
      exact ⟨u, (upd_ne np).trans z1, z2⟩
/-- what was done while the dict was known -/
theorem FrS.thaw {ob : Obj} {A : Fs} {Bs : Ss} (e : A.H a = some (.dK ps)) (e2 : Bs.H a = some (.frz ob (.dK ps))) (hl : ∀ o ∈ L', o ∈ L) (f : FrS E L ⟨A.w, A.env, A.st, A.σ, upd A.H a (.frz ob (.dK ps))⟩ Bs) : FrS E L' A ⟨Bs.w, Bs.st, upd Bs.H a (.dK ps)⟩ := by
  have up : ∀ p, p ≠ a → upd A.H a (.frz ob (.dK ps)) p = A.H p := fun p hp => upd_ne hp
  refine ⟨f.ad, fun b xs z => ?_, fun p o h1 h2 h3 => ?_, fun p h => ?_, fun p h => ?_, fun p h => ?_, fun o h1 h2 => ?_⟩
  · have nb : b ≠ a := fun y => by subst y; rw [show A.H b = _ from e] at z; cases z
    show upd Bs.H a (.dK ps) b = _
    rw [upd_ne nb]
    exact f.tm b xs ((up b nb).trans z)
  · show upd Bs.H a (.dK ps) p = some o
    by_cases hp : p = a
    · subst hp; rw [upd_same, ← h1, e]
    · rw [upd_ne hp]; exact f.out p o ((up p hp).trans h1) h2 h3
  · rcases f.new p h with h | h | h
    · exact .inl h
    · exact .inr (.inl h)
    · have np : p ≠ a := fun y => by subst y; have h' : upd A.H p (.frz ob (.dK ps)) p = none := h; rw [upd_same] at h'; cases h'
      exact .inr (.inr ((up p np).symm.trans h))
  · have h' := zad_z (.inr ⟨ob, rfl⟩) (.inl rfl) e2 h
    rcases f.newz p h' with h | h | h | h
    · exact .inl (zad_z (.inl rfl) (.inr ⟨ob, rfl⟩) e h)
    · exact .inr (.inl h)
    · exact .inr (.inr (.inl h))
    · have np : p ≠ a := fun y => by subst y; have h' : upd A.H p (.frz ob (.dK ps)) p = none := h; rw [upd_same] at h'; cases h'
      exact .inr (.inr (.inr ((up p np).symm.trans h)))
  · have np : p ≠ a := fun y => by subst y; have h' : upd Bs.H p (.dK ps) p = none := h; rw [upd_same] at h'; cases h'
    have h' : upd Bs.H a (.dK ps) p = none := h
    rw [upd_ne np] at h'
    exact (up p np).symm.trans (f.dom p h')
  · obtain ⟨k1, k2, k3⟩ := f.lk o (hl o h1) h2
    refine ⟨k1, k2, fun p hp => ?_⟩
    show upd Bs.H a (.dK ps) p = A.H p
    by_cases hpa : p = a
    · subst hpa; rw [upd_same, e]
    · rw [upd_ne hpa]; exact (k3 p hp).trans (up p hpa)
theorem Stp.thaw {ob : Obj} {A b : Fs} (e : A.H a = some (.dK ps)) (e2 : b.H a = some (.frz ob (.dK ps))) (hl : ∀ o ∈ L', o ∈ L) (f : Stp E L ⟨A.w, A.env, A.st, A.σ, upd A.H a (.frz ob (.dK ps))⟩ b) : Stp E L' A ⟨b.w, b.env, b.st, b.σ, upd b.H a (.dK ps)⟩ := by
  refine ⟨FrS.thaw (A := A) (Bs := ⟨b.w, b.st, b.H⟩) e e2 hl f.toFrS, fun p h => ?_, fun j hj => ?_⟩
  · rcases f.newS p h with h | h
    · exact .inl h
    · have np : p ≠ a := fun y => by subst y; have h' : upd A.H p (.frz ob (.dK ps)) p = none := h; rw [upd_same] at h'; cases h'
      have h' : upd A.H a (.frz ob (.dK ps)) p = none := h
      rw [upd_ne np] at h'
      exact .inr h'
  · obtain ⟨h1, h2, h3⟩ := f.lkS j (hl _ hj)
    refine ⟨h1, h2, fun p x k1 k2 => ?_⟩
    show upd b.H a (.dK ps) p = A.H p
    by_cases hpa : p = a
    · subst hpa; rw [upd_same, e]
    · rw [upd_ne hpa]; exact (h3 p x k1 k2).trans (upd_ne hpa)
/-- known no more, with the locks of before -/
theorem thaw_ok {ob : Obj} {A b : Fs} (e : A.H a = some (.dK ps)) (e2 : b.H a = some (.frz ob (.dK ps))) (S0 : SR E A.w L A.st A.H) (R0 : ER E xb L0 A.w L A.st A.H A.env A.σ) (hlv : ∀ o ∈ l, ∀ st', o.live st' → o.live A.st)
    (f : Stp E (l ++ L) ⟨A.w, A.env, A.st, A.σ, upd A.H a (.frz ob (.dK ps))⟩ b) (S : SR E b.w (l ++ L) b.st b.H) :
    SR E b.w L b.st (upd b.H a (.dK ps)) := by
  have g := Stp.thaw (A := A) (b := b) (L' := l ++ L) e e2 (fun o z => z) f
  have S1 : SR E b.w (l ++ L) b.st (upd b.H a (.dK ps)) := SR.z (.inr ⟨ob, rfl⟩) (.inl rfl) e2 S fun o p h1 h2 h3 => by
    obtain ⟨u, y1, y2⟩ := S.ex o p h1 h2 h3
    have np : p ≠ a := fun z => by subst z; rw [e2] at y1; cases y1; exact y2.elim
    exact ⟨u, (upd_ne np).trans y1, y2⟩
  exact SR.unlkS S0 g S1 hlv
theorem thaw_okR {ob : Obj} {A b : Fs} (e : A.H a = some (.dK ps)) (e2 : b.H a = some (.frz ob (.dK ps))) (S0 : SR E A.w L A.st A.H) (R0 : ER E xb L0 A.w L A.st A.H A.env A.σ) (hlv : ∀ o ∈ l, ∀ st', o.live st' → o.live A.st)
    (f : Stp E (l ++ L) ⟨A.w, A.env, A.st, A.σ, upd A.H a (.frz ob (.dK ps))⟩ b) (S : SR E b.w (l ++ L) b.st b.H) (R : ER E xb L0 b.w (l ++ L) b.st b.H b.env b.σ) :
    ER E xb L0 b.w L b.st (upd b.H a (.dK ps)) b.env b.σ := by
  have g := Stp.thaw (A := A) (b := b) (L' := l ++ L) e e2 (fun o z => z) f
  have R1 : ER E xb L0 b.w (l ++ L) b.st (upd b.H a (.dK ps)) b.env b.σ := ER.z (.inr ⟨ob, rfl⟩) (.inl rfl) e2 S R fun j x p h1 h2 h3 => by
    obtain ⟨v, y1, y2⟩ := R.ok j _ h1
    rw [h2] at y1
    cases y1
    cases y2 with
    | own r1 r2 r3 =>
      obtain ⟨u, z1, z2⟩ := r3 h3
      have np : p ≠ a := fun z => by subst z; rw [e2] at z1; cases z1; exact z2.elim
      exact ⟨u, (upd_ne np).trans z1, z2⟩
  exact R0.unlk g R1
end
end Tv

/-! pairs of fields; del; d.get(k, v) -/
namespace Tv
open PySem L2 PySem.Spec PyProof.Rows
/-- o.f as a target -/
def gFld (K : PySem.W.Frag) (to : TE) (f : Str) : TG := fun v σ H Q => to σ H fun x H1 => ∃ a C dx fs, x = .ref a ∧ H1 a = some (.ins C dx fs) ∧ Cls K C ∧ NoAttr K C f ∧ fs.length < 1000 ∧ Q σ (upd H1 a (.ins C dx (putF f v fs)))
theorem pg_fld {X : Cx} {o : Expr} {to : TE} {f : Str} {pos : Pos} (ho : PE X o to) : PG X (.Attribute o f pos) (gFld X.K to f) := by
  refine ⟨fun pins s σ H v u Q I r h => PySem.W.kas_attr (thn (ho.run pins s σ H _ I h) fun ov s1 ⟨x, H1, I1, r1, a, C, dx, fs, ex, ea, c, n, l, q⟩ => ?_)⟩
  subst ex
  obtain rfl : ov = Value.ref a := r1
  exact setattr_ok I1 ea c n l r fun s2 I2 => ⟨σ, _, I2, q⟩
section
variable {E : En} {xb : XB} {w w0 w1 w2 w' : Wd} {L0 L L' l Lk : List Ow} {st st0 st1 st2 st' : Sto} {H H1 H2 H' B B' J : Hp} {env env0 env1 env' : Env} {σ σ0 σ1 σ' σ2 : L2.St} {v : V} {s : SV} {vs : List V} {ss as : List SV} {j i k C : Nat} {p a q : Addr} {P : Prog} {n : Nat} {W : WX} {X : Cx} {f g : Str} {fs : List (Str × FV)} {y : FV} {r : SO} {te tv tw td ty tx : TE} {e ev1 ev2 : Ex}
theorem gfld_ok {x : D} {kk : Env → Sto → Option SO} {D : Ends} {Q : L2.St → Hp → Prop} (hE : Enk E) (hfl : P.flds = E.fl) (he : SE P n E xb W te e) (h0 : ∀ o ∈ L0, o ∈ L) (S : SR E w L st H) (R : ER E xb L0 w L st H env σ) (hv : Rv E w.ad H v x)
    (h : store (P.cl (P.call n) L) env e f (.d x) st kk = some r) (hD : OkS E xb W L0 L ⟨w, env, st, σ, H⟩ D r)
    (hQ : ∀ w' st' H', SR E w' L st' H' → ER E xb L0 w' L st' H' env σ → Stp E L ⟨w, env, st, σ, H⟩ ⟨w', env, st', σ, H'⟩ → kk env st' = some r → Q σ H') : gFld E.K te f v σ H Q := by
  show te σ H fun x H1 => ∃ a C dx fs, x = .ref a ∧ H1 a = some (.ins C dx fs) ∧ Cls E.K C ∧ NoAttr E.K C f ∧ fs.length < 1000 ∧ Q σ (upd H1 a (.ins C dx (putF f v fs)))
  refine sb_go he h0 S R (show sb (ev (P.cl (P.call n) L) e env st) env _ = some r from h) hD fun u2 st2 w2 H2 x2 S2 R2 f2 v2 h3 hD2 => ?_
  obtain ⟨i, C, fs, a, dx, fv, z, rfl, e0, e1, h1, hr, m1, m2, hl, hf, c1, c2, ez, hk⟩ := store_inv (n := n) (f := f) (u := .d x) (kk := kk) hE hfl S2 v2 h3
  cases ez
  obtain ⟨S3, fq⟩ := fld_st (q := 0) S2 e0 e1 h1 hr m1 m2 hf (.d (hv.mono f2.ad f2.tm))
  have f3 : Fr E L ⟨w, st, H⟩ _ := Fr.frq f2 fq fun p hp => by cases hp.2
  exact ⟨a, _, dx, fv, rfl, h1, c1, c2, hl, hQ _ _ _ S3 (R.fr S h0 f3) (Stp.of R f3) hk⟩
/-- e.f, e.g = v, w -/
theorem ss_fld2 {te2 : TE} (hE : Enk E) (hfl : P.flds = E.fl) (he : SE P n E xb W te e) (he2 : SE P n E xb W te2 e) (hv : SE P n E xb W tv ev1) (hw : SE P n E xb W tw ev2) :
    SS P n E xb W (tAsg (tTup (tCons tv (tCons tw tNil))) (gTup E.K 2 (gCons (gFld E.K te f) (gCons (gFld E.K te2 g) gNil)))) (.fld2 e f g ev1 ev2) := by
  intro L0 L w env st σ H h0 S R r h D hD
  show tv σ H fun x1 H1 => tw σ H1 fun x2 H2 => [x1, x2].length ≤ sizeLine ∧ ∀ p, H2 p = none → gTup E.K 2 (gCons (gFld E.K te f) (gCons (gFld E.K te2 g) gNil)) (.ref p) σ (upd H2 p (.tup [x1, x2])) D.nx
  refine sb_go hv h0 S R h hD fun u st1 w1 H1 x1 S1 R1 f1 v1 h2 hD1 => ?_
  refine sb_golk hw h0 S1 R1 v1.live h2 hD1 fun u2 st2 w2 H2 x2 S2 R2 f2 v2 h3 hD2 => ?_
  cases u with
  | c _ _ => cases h3
  | x _ => cases h3
  | d d1 =>
    cases u2 with
    | c _ _ => cases h3
    | x _ => cases h3
    | d d2 =>
      refine ⟨Nat.le_trans (by decide : 2 ≤ 1000) (by decide), fun p hp => ⟨p, [x1, x2], rfl, .of upd_same, rfl, x1, [x2], rfl, ?_⟩⟩
      have r1 : Rv E w2.ad H2 x1 d1 := v1.dd.mono f2.ad f2.tm
      have S3 := S2.lay (o := .tup [x1, x2]) hp
      have f3 : Fr E L ⟨w2, st2, H2⟩ ⟨w2, st2, upd H2 p (.tup [x1, x2])⟩ := Fr.lay S2 hp
      have R3 := R2.fr S2 h0 f3
      have h4 : store (P.cl (P.call n) L) env e f (.d d1) st2 (fun env st => store (P.cl (P.call n) L) env e g (.d d2) st fun env st => some (.nx env st)) = some r := h3
      refine gfld_ok hE hfl he h0 S3 R3 (r1.mono f3.ad f3.tm) h4 (hD2.from (Stp.of R2 f3)) fun w4 st4 H4 S4 R4 g4 h5 => ⟨x2, [], rfl, ?_⟩
      refine gfld_ok hE hfl he2 h0 S4 R4 ((v2.dd.mono f3.ad f3.tm).mono g4.ad g4.tm) h5 ((hD2.from (Stp.of R2 f3)).from g4) fun w5 st5 H5 S5 R5 g5 h6 => ?_
      cases h6
      exact ⟨rfl, (hD2.from (Stp.of R2 f3)) w5 σ H5 S5 R5 (g4.tr g5)⟩
/-! del -/
def tDelX (to ti : TE) : TS := fun D σ H => to σ H fun x H1 => ti σ H1 fun y H2 => (∃ (l : Addr) (xs : List V) (i : Int) (k : Nat), x = .ref l ∧ y = .int i ∧ H2 l = some (.lst xs) ∧ -(2 ^ 63) ≤ i ∧ i < 2 ^ 63 ∧ seqIndex? i xs.length = some k ∧ D.nx σ (upd H2 l (.lst (xs.eraseIdx k)))) ∨
  ∃ a kvs k, x = .ref a ∧ H2 a = some (.dK kvs) ∧ y = kV k ∧ (valV kvs k).isSome = true ∧ D.nx σ (upd H2 a (.dK (dropK kvs k)))
theorem ps_delX {o i : Expr} {to ti : TE} {tpos pos : Pos} (ho : PE X o to) (hi : PE X i ti) : PS X (.Delete [.Subscript o i tpos] pos) (tDelX to ti) := by
  refine ⟨fun pins s σ H D I h => ?_⟩
  refine wpAny_Delete (wpAny_deleteEach_cons (wpAny_delete_Subscript (thn (ho.run pins s σ H _ I h) fun u s1 ⟨x, H1, I1, rx, q1⟩ => thn (hi.run pins s1 σ H1 _ I1 q1) fun iv s2 ⟨y, H2, I2, ry, q2⟩ => ?_)))
  rcases q2 with ⟨l, xs, j, k, ex, ey, hH, h1, h2, hk, q2⟩ | ⟨a, kvs, k, ex, e, ey, l, q2⟩
  · subst ex
    subst ey
    cases (show u = Value.ref l from rx)
    obtain ⟨t, rfl⟩ := (show ∃ t, iv = Value.int j t from ry)
    exact del_list I2 hH h1 h2 hk fun s3 I3 => wpAny_deleteEach_nil ⟨σ, _, I3, q2⟩
  · subst ex ey
    obtain rfl : u = Value.ref a := rx
    exact d_delItem I2 e ry l fun s3 I3 => wpAny_deleteEach_nil ⟨σ, _, I3, q2⟩
theorem tm_upd {u u' : HO} (e : H p = some u) (nt : ∀ xs, u ≠ .tup xs) : Tm E.K H (upd H p u') := tm_mut (E := E) e nt
theorem rkv_drop {w : Wd} {ps : List (Key × V)} {kvs : List (Key × D)} {k : Key} (h : Rkv E w.ad H ps kvs) : Rkv E w.ad H (dropK ps k) (rem kvs k) := by
  obtain ⟨h1, h2⟩ := h
  induction ps generalizing kvs with
  | nil => cases kvs with | nil => exact ⟨rfl, .nil⟩ | cons q kvs => cases h1
  | cons p ps ih =>
    cases kvs with
    | nil => cases h1
    | cons q kvs =>
      rw [List.map_cons, List.map_cons, List.cons.injEq] at h1
      rw [List.map_cons, List.map_cons] at h2
      cases h2 with
      | cons r t =>
        obtain ⟨i1, i2⟩ := ih h1.2 t
        have e1 : dropK (p :: ps) k = if p.1 = k then dropK ps k else p :: dropK ps k := by
          unfold dropK
          by_cases hk : p.1 = k <;> simp [hk]
        have e2 : rem (q :: kvs) k = if q.1 = k then rem kvs k else q :: rem kvs k := by
          unfold rem
          by_cases hk : q.1 = k <;> simp [hk]
        rw [e1, e2, h1.1]
        by_cases hk : q.1 = k
        · rw [if_pos hk, if_pos hk]; exact ⟨i1, i2⟩
        · rw [if_neg hk, if_neg hk]
          exact ⟨by rw [List.map_cons, List.map_cons, h1.1, i1], by rw [List.map_cons, List.map_cons]; exact .cons r i2⟩
theorem rkv_val {w : Wd} {ps : List (Key × V)} {kvs : List (Key × D)} {k : Key} (h : Rkv E w.ad H ps kvs) (e : (look kvs k).isSome = true) : (valV ps k).isSome = true := by
  obtain ⟨y, hy⟩ := Option.isSome_iff_exists.mp e
  obtain ⟨v, hv, _⟩ := rva_find h.1 h.2 (show lookK kvs k = some y from hy)
  rw [hv]; rfl
theorem ss_del {to ti : TE} {pl : Pl} (hp : PlS P n E xb W to pl) (hk : SE P n E xb W ti e) : SS P n E xb W (tDelX to ti) (.del pl e) := by
  intro L0 L w env st σ H h0 S R r h D hD
  show to σ H fun x H1 => ti σ H1 fun y H2 => (∃ (l : Addr) (xs : List V) (i : Int) (k : Nat), x = .ref l ∧ y = .int i ∧ H2 l = some (.lst xs) ∧ -(2 ^ 63) ≤ i ∧ i < 2 ^ 63 ∧ seqIndex? i xs.length = some k ∧ D.nx σ (upd H2 l (.lst (xs.eraseIdx k)))) ∨
    ∃ a kvs k, x = .ref a ∧ H2 a = some (.dK kvs) ∧ y = kV k ∧ (valV kvs k).isSome = true ∧ D.nx σ (upd H2 a (.dK (dropK kvs k)))
  refine sb_go hp h0 S R h hD fun l st1 w1 H1 x S1 R1 f1 lr h2 hD1 => ?_
  have live := lc_live S1 lr
  refine sb_golk hk h0 S1 R1 live h2 hD1 fun ku st2 w2 H2 y S2 R2 f2 v2 h3 hD2 => ?_
  have lr2 := lr.fr f2 S2 (List.mem_append.mpr (.inl (List.mem_singleton.mpr rfl)))
  cases eg : l.get (P.cl (P.call n) L) env st2 with
  | none => rw [eg] at h3; cases h3
  | some xc =>
    rw [eg] at h3
    have h4 : (match delAt xc ku with | some x => some (SO.nx (l.set x env st2).1 (l.set x env st2).2) | none => none) = some r := h3
    obtain ⟨p, u, rfl, hu, hr, go⟩ := mut_ok h0 S2 R2 lr2 eg
    split at h4
    · rename_i xn ed
      cases h4
      unfold delAt at ed
      split at ed
      · rename_i xs i
        cases u <;> try exact hr.elim
        rename_i vs
        split at ed
        · rename_i hb
          cases es : seqIndex? i xs.length with
          | none => rw [es] at ed; cases ed
          | some m =>
            rw [es] at ed
            cases ed
            rw [v2.int]
            have hlen : vs.length = xs.length := RvA.length hr
            obtain ⟨a1, a2, a3⟩ := go (.lst (vs.eraseIdx m)) (.l (xs.eraseIdx m)) (RvA.erase m (RvA.mono (List.prefix_refl _) (tm_upd hu fun xs z => by cases z) hr))
            exact .inl ⟨p, vs, i, m, rfl, rfl, hu, hb.1, hb.2, by rw [hlen]; exact es, hD2 _ _ _ a1 a2 a3⟩
        · cases ed
      · rename_i kvs k
        cases u <;> try exact hr.elim
        rename_i ps
        cases ek : keyOf k with
        | none => rw [ek] at ed; cases ed
        | some kk =>
          rw [ek] at ed
          have ed' : (if (look kvs kk).isSome then some (Cn.m (rem kvs kk)) else none) = some xn := ed
          split at ed'
          · rename_i hs
            cases ed'
            have hy := rv_keyOf v2.dd ek
            obtain ⟨a1, a2, a3⟩ := go (.dK (dropK ps kk)) (.m (rem kvs kk)) (Rkv.mono (List.prefix_refl _) (tm_upd hu fun xs z => by cases z) (rkv_drop hr))
            exact .inr ⟨p, ps, kk, rfl, hu, hy, rkv_val hr hs, hD2 _ _ _ a1 a2 a3⟩
          · cases ed'
      · cases ed
    · cases h4
/-! d.get(k, v) -/
theorem dget_ok {kvs : List (Key × D)} {k0 : D} {kk : Key} {x y : V} {u : SV} (S : SR E w L st H) (hu : VR E L0 w st H env σ B x u) (e : cnOf u st = some (.m kvs)) (hy : Rv E w.ad H y k0) (ek : keyOf k0 = some kk) :
    ∃ a o, x = .ref a ∧ DGet H a y o ∧ ((∃ v d, o = some v ∧ look kvs kk = some d ∧ Rv E w.ad H v d) ∨ (o = none ∧ look kvs kk = none)) := by
  obtain ⟨a, ps, rfl, h1, h2⟩ := hu.dic S e
  have hy' := rv_keyOf hy ek
  refine ⟨a, valV ps kk, rfl, .inl ⟨ps, kk, h1, hy', rfl⟩, ?_⟩
  cases e2 : look kvs kk with
  | some d =>
    obtain ⟨v, v1, v2⟩ := rva_find h2.1 h2.2 (show lookK kvs kk = some d from e2)
    exact .inl ⟨v, d, v1, rfl, v2⟩
  | none =>
    refine .inr ⟨?_, rfl⟩
    unfold look at e2
    rw [Option.map_eq_none_iff, List.find?_eq_none] at e2
    unfold valV
    rw [Option.map_eq_none_iff, List.find?_eq_none]
    intro p hp hpk
    have hm : p.1 ∈ ps.map (·.1) := List.mem_map.mpr ⟨p, hp, rfl⟩
    rw [h2.1] at hm
    obtain ⟨q, hq, e3⟩ := List.mem_map.mp hm
    refine e2 q hq ?_
    rw [decide_eq_true_eq] at hpk ⊢
    exact e3.trans hpk
theorem sa_two {Q : List V → Hp → Prop} (h : tCons ty (tCons tx tNil) σ H Q) : ty σ H fun y H2 => tx σ H2 fun z H3 => Q [y, z] H3 := h
theorem se_get {a : Ex} {ek ex : Ex} (ha : SE P n E xb W td a) (hk : SE P n E xb W ty ek) (hx : SE P n E xb W tx ex) : SE P n E xb W (tDGet2 td ty tx) (.bm .get a (.cons ek (.cons ex .nil))) := by
  intro L0 L w env st σ H h0 S R r h Q hQ
  show td σ H fun x H1 => ∃ a, x = .ref a ∧ IsD H1 a ∧ ty σ H1 fun y H2 => tx σ H2 fun z H3 => ∃ o, DGet H3 a y o ∧ Q (o.getD z) H3
  refine sg_go ha h0 S R h hQ fun u st1 w1 H1 x S1 R1 f1 v1 h hQ1 => ?_
  split at h
  · rename_i hpre
    have key : ∃ kvs, cnOf u st1 = some (.m kvs) := by
      unfold bmPre at hpre
      simp only at hpre
      split at hpre
      · rename_i kvs e; exact ⟨kvs, e⟩
      · cases hpre
    obtain ⟨kvs0, hc⟩ := key
    obtain ⟨a0, ps0, rfl, d1, d2⟩ := v1.dic S1 hc
    refine ⟨a0, rfl, .inl ⟨ps0, d1⟩, ?_⟩
    have hes : SA P n E xb W (tCons ty (tCons tx tNil)) (.cons ek (.cons ex .nil)) := sa_cons hk (sa_cons hx sa_nil)
    have h' : rb (evs ((P.cl (P.call n) L).lk (lockOf u)) (.cons ek (.cons ex .nil)) env st1) (fun as st => bmf .get u as st) = some r := h
    have go : tCons ty (tCons tx tNil) σ H1 fun vs H3 => (match vs with | [y, z] => ∃ o, DGet H3 a0 y o ∧ Q (o.getD z) H3 | _ => False) := by
      refine sg_golk hes h0 S1 R1 v1.live h' hQ1 fun as st2 w2 H2 vs S2 R2 f2 v2 h3 hQ2 => ?_
      have vu := v1.fr f2 (fun o z => List.mem_append.mpr (.inr (h0 o z))) (fun o z => List.mem_append.mpr (.inl z))
      unfold bmf at h3
      split at h3 <;> try (rename_i e; cases e; done)
      all_goals try (cases h3; done)
      · rename_i k0 z0 _
        obtain ⟨y, z, rfl, vy, vz⟩ := vrs2 v2
        split at h3
        · rename_i kvs kk e1 e2
          cases ok_inj h3
          obtain ⟨a, o, ea, g1, g2⟩ := dget_ok S2 vu e1 vy.dd e2
          cases ea
          refine ⟨o, g1, ?_⟩
          rcases g2 with ⟨v, d, rfl, e3, rv⟩ | ⟨rfl, e3⟩
          · rw [e3] at hQ2
            exact okr_now hQ2 S2 (.d rv)
          · rw [e3] at hQ2
            exact okr_now hQ2 S2 (.d vz.dd)
        · cases h3
    exact go
  · cases h
end
section
variable {X : Cx} {g : Gm} {pa pb pc po pe pv : Expr} {ps : List Expr} {a b e o v : Ex} {pos pos' apos tpos cpos : Pos} {ta tb tc te tv tw : TE} {f h2 : Str} {ev1 ev2 : Ex} {pv pw : Expr} {kk : Nat}
theorem ds_del {p : Pl} {to : TE} (hp : Dpl X g po p to) (h : De X g pa a ta) : Ds X g (.Delete [.Subscript po pa tpos] pos) (.del p a) (tDelX to ta) := ⟨ps_delX hp.p h.p, ss_del hp.s h.s⟩
end
end Tv

/-! loops over dicts -/
namespace Tv
open PySem L2 PySem.Spec PyProof.Rows
def iDL (J : Addr → Obj → List (Key × V) → L2.It) (H0 : Hp) (td : TE) : TI := fun σ H R => td σ H fun x H1 => ∃ d kvs, x = .ref d ∧ ((∃ o, H1 d = some (.frz o (.dK kvs)) ∧ R (J d o kvs) H1) ∨ (H1 d = some (.dK kvs) ∧ ∀ o, (∀ o' u', H0 d ≠ some (.frz o' u')) → R (J d o kvs) (upd H1 d (.frz o (.dK kvs)))))
section
variable {E : En} {xb : XB} {w w0 w1 w2 w' : Wd} {L0 L L' l Lk : List Ow} {st st0 st1 st2 st' : Sto} {H H1 H2 H' B B' J : Hp} {env env0 env1 env' : Env} {σ σ0 σ1 σ' σ2 : L2.St} {v : V} {s : SV} {vs : List V} {ss as : List SV} {j i k C : Nat} {p a q : Addr} {P : Prog} {n : Nat} {W : WX} {X : Cx} {ad : List Addr} {x : Cn} {ps : List (Key × V)} {kvs : List (Key × D)} {u1 u2 : HO} {te : TE} {e : Ex}
/-- the known dict at a -/
def HlK (E : En) (Lk : List Ow) (a : Addr) (o : Obj) (ps : List (Key × V)) (kvs : List (Key × D)) (s : Fs) : Prop := s.H a = some (.frz o (.dK ps)) ∧ Rkv E s.w.ad s.H ps kvs ∧ StK Lk s a
theorem HlK.stp {o : Obj} {s s' : Fs} (f : Stp E Lk s s') (h : HlK E Lk a o ps kvs s) : HlK E Lk a o ps kvs s' := by
  obtain ⟨h1, h2, h3⟩ := h
  obtain ⟨k1, k2⟩ := h3.stp f (by rw [h1]; intro z; cases z)
  exact ⟨k2.trans h1, h2.mono f.ad f.tm, k1⟩
theorem rkv_at {m : Nat} {k : Key} {d : D} (h : Rkv E ad H ps kvs) (e : kvs[m]? = some (k, d)) : ∃ v, ps[m]? = some (k, v) ∧ Rv E ad H v d := by
  have h2 : (kvs.map (·.2))[m]? = some d := by rw [List.getElem?_map, e]; rfl
  obtain ⟨v, e3, r⟩ := h.2.get h2
  have h1 : (kvs.map (·.1))[m]? = some k := by rw [List.getElem?_map, e]; rfl
  rw [← h.1] at h1
  rw [List.getElem?_map] at h1 e3
  cases ep : ps[m]? with
  | none => rw [ep] at h1; cases h1
  | some p =>
    rw [ep] at h1 e3
    obtain ⟨p1, p2⟩ := p
    cases (show some p1 = some k from h1)
    cases (show some p2 = some v from e3)
    exact ⟨_, rfl, r⟩
theorem kmap_at {α β : Type} {f : α → β} {xs : List α} {m : Nat} {y : β} (e : (xs.map f)[m]? = some y) : ∃ x, xs[m]? = some x ∧ f x = y := by
  rw [List.getElem?_map] at e
  cases h : xs[m]? with
  | none => rw [h] at e; cases e
  | some x => rw [h] at e; exact ⟨x, rfl, Option.some.inj e⟩
/-- how a dict is walked -/
structure Kw (E : En) (J : Addr → Obj → List (Key × V) → L2.It) (f : List (Key × D) → List D) : Prop where
  its : ∀ (Lk : List Ow) (a : Addr) (o : Obj) (ps : List (Key × V)) (kvs : List (Key × D)), ItS E (J a o ps) (f kvs) (HlK E Lk a o ps kvs)
theorem kw_keys : Kw E Itk (fun kvs => kvs.map fun p => keyD p.1) := ⟨fun Lk a o ps kvs => ⟨fun L w env st σ H i x S hh hx => by
  obtain ⟨⟨k, d⟩, e1, rfl⟩ := kmap_at hx
  obtain ⟨v, e2, r⟩ := rkv_at hh.2.1 e1
  refine ⟨⟨hh.1, (List.getElem?_eq_some_iff.mp e2).1⟩, fun y H' hy => ?_⟩
  obtain ⟨rfl, k', v', e3, rfl⟩ := hy
  rw [e2] at e3
  cases e3
  exact ⟨S, Fr.rfl' _, rv_key k⟩, fun s i hh hi => ⟨hh.1, by rw [List.length_map] at hi; rw [rkv_len hh.2.1]; exact hi⟩⟩⟩
theorem kw_vals : Kw E Itd (fun kvs => kvs.map (·.2)) := ⟨fun Lk a o ps kvs => ⟨fun L w env st σ H i x S hh hx => by
  obtain ⟨⟨k, d⟩, e1, rfl⟩ := kmap_at hx
  obtain ⟨v, e2, r⟩ := rkv_at hh.2.1 e1
  refine ⟨⟨hh.1, (List.getElem?_eq_some_iff.mp e2).1⟩, fun y H' hy => ?_⟩
  obtain ⟨rfl, k', e3⟩ := hy
  rw [e2] at e3
  cases e3
  exact ⟨S, Fr.rfl' _, r⟩, fun s i hh hi => ⟨hh.1, by rw [List.length_map] at hi; rw [rkv_len hh.2.1]; exact hi⟩⟩⟩
theorem kw_items : Kw E Iti (fun kvs => kvs.map itemD) := ⟨fun Lk a o ps kvs => ⟨fun L w env st σ H i x S hh hx => by
  obtain ⟨⟨k, d⟩, e1, rfl⟩ := kmap_at hx
  obtain ⟨v, e2, r⟩ := rkv_at hh.2.1 e1
  refine ⟨⟨hh.1, (List.getElem?_eq_some_iff.mp e2).1⟩, fun y H' hy => ?_⟩
  obtain ⟨T, k', v', e3, rfl, hT, rfl⟩ := hy
  rw [e2] at e3
  cases e3
  exact ⟨S.lay hT, Fr.lay S hT, .tup (.inl upd_same) (.cons (rv_key k) (.cons (r.mono (List.prefix_refl _) (tm_lay hT)) .nil))⟩, fun s i hh hi => ⟨hh.1, by rw [List.length_map] at hi; rw [rkv_len hh.2.1]; exact hi⟩⟩⟩
/-- a dict's place, as it is had -/
theorem VR.stk (S : SR E w L st H) (hB : ∀ p, Sod env σ p → B p ≠ none) (h : VR E L0 w st H env σ B v s) (e : cnOf s st = some (.m kvs)) :
    ∃ a ps, v = .ref a ∧ (H a = some (.dK ps) ∨ ∃ o, H a = some (.frz o (.dK ps))) ∧ Rkv E w.ad H ps kvs ∧ StK (stayOf s ++ L0) ⟨w, env, st, σ, H⟩ a ∧ ∀ o ∈ stayOf s, ∀ st', o.live st' → o.live st := by
  have go : ∀ {a : Addr}, CoR E w.ad H a (.m kvs) → ∃ ps, (H a = some (.dK ps) ∨ ∃ o, H a = some (.frz o (.dK ps))) ∧ Rkv E w.ad H ps kvs := fun {a} c => by
    obtain ⟨u, r, q⟩ := c
    cases u <;> try exact q.elim
    rename_i ps
    rcases r with r | ⟨o, r, _⟩
    · exact ⟨ps, .inl r, q⟩
    · exact ⟨ps, .inr ⟨o, r⟩, q⟩
  cases h with
  | @d v x r =>
    cases x <;> try (cases e; done)
    rename_i k
    obtain ⟨a, rfl, e2⟩ := r.ref_of
    change (match st[k]? with | some (.con x) => some x | _ => none) = some (.m kvs) at e
    split at e
    · rename_i x e3
      cases e
      obtain ⟨b, k1, k2⟩ := S.cell _ _ e3
      rw [e2] at k1
      cases k1
      obtain ⟨ps, g1, g2⟩ := go k2
      have hk := (List.getElem?_eq_some_iff.mp e3).1
      exact ⟨a, ps, rfl, g1, g2, .inl ⟨.c k, List.mem_append.mpr (.inl (List.mem_singleton.mpr rfl)), hk, e2⟩, fun o ho st' z => by cases List.mem_singleton.mp ho; exact hk⟩
    · cases e
  | own h1 h2 h3 h4 h5 =>
    cases e
    obtain ⟨ps, g1, g2⟩ := go h1
    exact ⟨_, ps, rfl, g1, g2, .inr (.inr ⟨h3, fun z => hB _ z h4⟩), fun o ho => by cases ho⟩
  | @atS j a x h1 h2 h3 h4 =>
    cases e
    obtain ⟨ps, g1, g2⟩ := go h3
    exact ⟨_, ps, rfl, g1, g2, .inr (.inl ⟨j, _, List.mem_append.mpr (.inl (List.mem_singleton.mpr rfl)), h1, h2⟩), fun o ho st' z => by cases List.mem_singleton.mp ho; exact z.elim⟩
  | @atF i f x h1 h2 =>
    cases e
    obtain ⟨ps, g1, g2⟩ := go h1
    exact ⟨_, ps, rfl, g1, g2, .inl ⟨.f i f, List.mem_append.mpr (.inl (List.mem_singleton.mpr rfl)), h2, rfl⟩, fun o ho st' z => by cases List.mem_singleton.mp ho; exact h2⟩
  | par h1 h2 h3 =>
    cases e
    obtain ⟨ps, g1, g2⟩ := go h1
    refine ⟨_, ps, rfl, g1, g2, ?_, fun o ho => by cases ho⟩
    rcases h2 with h2 | ⟨o, o1, o2, o3⟩
    · exact .inr (.inr ⟨h2, h3⟩)
    · exact .inl ⟨o, o1, o2, o3⟩
  | scr h1 h2 => cases e
/-- a dict of a name's own: where the names are gone, it is nobody's -/
theorem FrS.unf {ob : Obj} {A : Fs} {Bs : Ss} (e : A.H a = some (.dK ps)) (hs : Sod A.env A.σ a) (hn : ¬ Owd A.w A.st a) (hl : ∀ o ∈ L', o ∈ L) (f : FrS E L ⟨A.w, A.env, A.st, A.σ, upd A.H a (.frz ob (.dK ps))⟩ Bs) : FrS E L' A Bs := by
  have none' : ∀ p, upd A.H a (.frz ob (.dK ps)) p = none → A.H p = none := fun p h => by
    have np : p ≠ a := fun y => by subst y; rw [upd_same] at h; cases h
    rw [upd_ne np] at h; exact h
  refine ⟨f.ad, fun b xs z => ?_, fun p o h1 h2 h3 => ?_, fun p h => (f.new p h).imp id fun z => z.imp id (none' p), fun p h => ?_, fun p h => none' p (f.dom p h), fun o h1 h2 => ?_⟩
  · have nb : b ≠ a := fun y => by subst y; rw [show A.H b = _ from e] at z; cases z
    exact f.tm b xs ((upd_ne nb).trans z)
  · have np : p ≠ a := fun y => h3 (y ▸ hs)
    exact f.out p o ((upd_ne np).trans h1) h2 h3
  · rcases f.newz p h with h | h | h | h
    · exact .inl (zad_z (.inl rfl) (.inr ⟨ob, rfl⟩) e h)
    · exact .inr (.inl h)
    · exact .inr (.inr (.inl h))
    · exact .inr (.inr (.inr (none' p h)))
  · obtain ⟨k1, k2, k3⟩ := f.lk o (hl o h1) h2
    refine ⟨k1, k2, fun p hp => ?_⟩
    have np : p ≠ a := fun y => hn (y ▸ ⟨o, h2, hp⟩)
    exact (k3 p hp).trans (upd_ne np)
theorem rt_conv {A : Fs} {A' : Fs} {sv : SV} {v : V} {H'' : Hp} (h : RtR E A w st H v sv) (hs : ∀ p, Sod A.env A.σ p ∨ A.H p = none → Sod A'.env A'.σ p ∨ A'.H p = none) (hp : ∀ p x, (Sod A.env A.σ p ∨ A.H p = none) → CoR E w.ad H p x → CoR E w.ad H'' p x ∧ (Xt H p → Xt H'' p)) (tm : Tm E.K H H'') (hz : ∀ p, Zad w st H'' p → Zad w st H p) : RtR E A' w st H'' v sv := by
  cases sv with
  | d x => exact Rv.mono (List.prefix_refl _) tm h
  | c kd x =>
    cases kd <;> try exact h.elim
    obtain ⟨p, e, k1, k2, k3, k4, k5⟩ := h
    obtain ⟨c1, c2⟩ := hp p x k5 k1
    exact ⟨p, e, c1, c2 k2, k3, fun z => k4 (hz p z), hs p k5⟩
  | x e => exact h.elim
/-- what is asked behind a loop over a dict that was not known -/
theorem oks_thaw {ob : Obj} {A : Fs} {D : Ends} {H0 : Hp} {r : SO} (e : A.H a = some (.dK ps)) (k : StK (l ++ L0) A a) (h0 : ∀ o ∈ L0, o ∈ L) (hn : ∀ o' u', H0 a ≠ some (.frz o' u')) (S0 : SR E A.w L A.st A.H) (R0 : ER E xb L0 A.w L A.st A.H A.env A.σ) (hlv : ∀ o ∈ l, ∀ st', o.live st' → o.live A.st)
    (hD : OkS E xb W L0 L A D r) : OkS E xb (WU H0 W) L0 (l ++ L) ⟨A.w, A.env, A.st, A.σ, upd A.H a (.frz ob (.dK ps))⟩ ⟨fun σ' H' => Unl H0 H' (D.nx σ'), fun v H' => Unl H0 H' (D.rt v), fun σ' H' => Unl H0 H' (D.bk σ'), fun σ' H' => Unl H0 H' (D.ct σ')⟩ r := by
  have hll : ∀ o ∈ L, o ∈ l ++ L := fun o z => mem_r z
  have hl0 : ∀ o ∈ l ++ L0, o ∈ l ++ L := fun o z => (List.mem_append.mp z).elim (fun z => List.mem_append.mpr (.inl z)) fun z => mem_r (h0 o z)
  have kf : StK (l ++ L0) ⟨A.w, A.env, A.st, A.σ, upd A.H a (.frz ob (.dK ps))⟩ a := k
  have frz : ∀ {b : Fs}, Stp E (l ++ L) ⟨A.w, A.env, A.st, A.σ, upd A.H a (.frz ob (.dK ps))⟩ b → b.H a = some (.frz ob (.dK ps)) := fun {b} g => by
    have := (kf.stp (g.less hl0) (by show upd A.H a _ a ≠ none; rw [upd_same]; intro z; cases z)).2
    exact this.trans upd_same
  have go : ∀ {Q : L2.St → Hp → Prop} {env' : Env} {st' : Sto}, (∀ w' σ' H', SR E w' L st' H' → ER E xb L0 w' L st' H' env' σ' → Stp E L A ⟨w', env', st', σ', H'⟩ → Q σ' H') → ∀ w' σ' H', SR E w' (l ++ L) st' H' → ER E xb L0 w' (l ++ L) st' H' env' σ' → Stp E (l ++ L) ⟨A.w, A.env, A.st, A.σ, upd A.H a (.frz ob (.dK ps))⟩ ⟨w', env', st', σ', H'⟩ → Unl H0 H' (Q σ') := fun {Q env' st'} h w' σ' H' S' R' g => by
    have e2 := frz g
    exact .inr ⟨a, ob, .dK ps, e2, hn, h w' σ' _ (thaw_ok e e2 S0 R0 hlv g S') (thaw_okR e e2 S0 R0 hlv g S' R') (Stp.thaw e e2 hll g)⟩
  cases r with
  | nx env' st' => exact go hD
  | bk env' st' => exact go hD
  | ct env' st' => exact go hD
  | ex y env' st' =>
    intro w' σ' H' cls d S' R' g ye
    have e2 := frz g
    refine .inr ⟨a, ob, .dK ps, e2, hn, hD w' σ' _ cls d (thaw_ok e e2 S0 R0 hlv g S') (thaw_okR e e2 S0 R0 hlv g S' R') (Stp.thaw e e2 hll g) ?_⟩
    exact xr_mono (List.prefix_refl _) (tm_z (.inr ⟨ob, rfl⟩) e2) (fun b fs z => (upd_ne (fun y => by subst y; rw [show H' b = _ from e2] at z; cases z)).trans z) ye
  | rt sv st' =>
    intro w' H' v S' g rr
    have noneU : ∀ p, upd A.H a (.frz ob (.dK ps)) p = none → A.H p = none := fun p h => by
      have np : p ≠ a := fun y => by subst y; rw [upd_same] at h; cases h
      rw [upd_ne np] at h; exact h
    have Sl : SR E w' (l ++ L) st' H' := S'
    by_cases hs : Sod A.env A.σ a
    · have na : ¬ Owd A.w A.st a := (R0.sod hs).1
      have g2 : FrS E (l ++ L) A ⟨w', st', H'⟩ := FrS.unf e hs na (fun o z => z) g
      refine .inl (hD w' H' v ?_ (g2.less hll) (rt_conv rr (fun p h => h.imp id (noneU p)) (fun p x _ c => ⟨c, id⟩) (Tm.rfl' _) fun p z => z))
      refine ⟨S'.len, S'.inj, S'.cell, fun o b h1 h2 h3 => ?_, S'.nd⟩
      by_cases hm : o ∈ l
      · have h4 := hlv o hm st' h1
        obtain ⟨k1, k2, k3⟩ := g2.lk o (List.mem_append.mpr (.inl hm)) h4
        have e5 := k2.symm.trans h3
        obtain ⟨u, y1, y2⟩ := S0.ex o b h4 h2 e5
        exact ⟨u, (k3 b e5).trans y1, y2⟩
      · exact S'.ex o b h1 (fun z => by rcases List.mem_append.mp z with z | z; exact hm z; exact h2 z) h3
    · have e2 : H' a = some (.frz ob (.dK ps)) := by
        rcases k with ⟨o, k1, k2, k3⟩ | ⟨j, x, k1, k2, k3⟩ | ⟨k1, k2⟩
        · exact ((g.lk o (hl0 o k1) k2).2.2 a k3).trans upd_same
        · exact absurd (sod_slot k2 k3) hs
        · exact g.out a _ upd_same k1 k2
      have g2 : FrS E (l ++ L) A ⟨w', st', upd H' a (.dK ps)⟩ := FrS.thaw e e2 (fun o z => z) g
      refine .inr ⟨a, ob, .dK ps, e2, hn, hD w' _ v ?_ (g2.less hll) (rt_conv rr (fun p h => h.imp id (noneU p)) (fun p x h c => ⟨co_z (.inr ⟨ob, rfl⟩) (.inl rfl) e2 c, fun ⟨u, y1, y2⟩ => ⟨u, ?_, y2⟩⟩) (tm_z (.inr ⟨ob, rfl⟩) e2) fun p z => zad_z (.inr ⟨ob, rfl⟩) (.inl rfl) e2 z)⟩
      · have S1 : SR E w' (l ++ L) st' (upd H' a (.dK ps)) := SR.z (.inr ⟨ob, rfl⟩) (.inl rfl) e2 S' fun o p h1 h2 h3 => by
          obtain ⟨u, y1, y2⟩ := S'.ex o p h1 h2 h3
          have np : p ≠ a := fun z => by subst z; rw [e2] at y1; cases y1; exact y2.elim
          exact ⟨u, (upd_ne np).trans y1, y2⟩
        refine ⟨S1.len, S1.inj, S1.cell, fun o b h1 h2 h3 => ?_, S1.nd⟩
        by_cases hm : o ∈ l
        · have h4 := hlv o hm st' h1
          obtain ⟨k1, k2, k3⟩ := g2.lk o (List.mem_append.mpr (.inl hm)) h4
          have e5 := k2.symm.trans h3
          obtain ⟨u, y1, y2⟩ := S0.ex o b h4 h2 e5
          exact ⟨u, (k3 b e5).trans y1, y2⟩
        · exact S1.ex o b h1 (fun z => by rcases List.mem_append.mp z with z | z; exact hm z; exact h2 z) h3
      · have np : p ≠ a := fun z => by subst z; rw [e2] at y1; cases y1; exact y2.elim
        exact (upd_ne np).trans y1
theorem oks_known {A : Fs} {D : Ends} {H0 : Hp} {r : SO} (hD : OkS E xb W L0 L A D r) : OkS E xb (WU H0 W) L0 L A ⟨fun σ' H' => Unl H0 H' (D.nx σ'), fun v H' => Unl H0 H' (D.rt v), fun σ' H' => Unl H0 H' (D.bk σ'), fun σ' H' => Unl H0 H' (D.ct σ')⟩ r := by
  cases r with
  | nx env' st' => exact fun w' σ' H' S' R' g => .inl (hD w' σ' H' S' R' g)
  | bk env' st' => exact fun w' σ' H' S' R' g => .inl (hD w' σ' H' S' R' g)
  | ct env' st' => exact fun w' σ' H' S' R' g => .inl (hD w' σ' H' S' R' g)
  | rt sv st' => exact fun w' H' v S' g k => .inl (hD w' H' v S' g k)
  | ex y env' st' => exact fun w' σ' H' cls d S' R' g k => .inl (hD w' σ' H' cls d S' R' g k)
/-- a loop over a dict -/
theorem forK {Jt : Addr → Obj → List (Key × V) → L2.It} {f : List (Key × D) → List D} {H0 : Hp} {g : TG} {tb : TS} {t : Tg} {b : Stts} {D : Ends} {r : SO} (hJ : Kw E Jt f) (he : SE P n E xb W te e) (hg : TgS E g t) (hb : SSs P n E xb (WU H0 W) tb b) (h0 : ∀ o ∈ L0, o ∈ L) (S : SR E w L st H) (R : ER E xb L0 w L st H env σ)
    (h : sb (ev (P.cl (P.call n) L) e env st) env (fun u st => match cnOf u st with
      | some (.m kvs) => forL (fun x env st => match t.put ((P.cl (P.call n) L).lk (stayOf u)) env x with
        | some env => execs ((P.cl (P.call n) L).lk (stayOf u)) b env st
        | none => none) (f kvs) env st
      | _ => none) = some r) (hD : OkS E xb W L0 L ⟨w, env, st, σ, H⟩ D r) : tUnl H0 (tFor (iDL Jt H0 te) g tb) D σ H := by
  show te σ H fun x H1 => ∃ d kvs, x = .ref d ∧ ((∃ o, H1 d = some (.frz o (.dK kvs)) ∧ ∃ W : Nat → Nat → L2.St → Hp → Prop, (∃ m, W 0 m σ H1) ∧ ∀ i m σ H, W i m σ H →
    ((Jt d o kvs).stop i H ∧ Unl H0 H (D.nx σ)) ∨ ((Jt d o kvs).go i H ∧ ∃ N : L2.St → Hp → Prop, (∀ σ' H', N σ' H' → ∃ m', m' < m ∧ W (i + 1) m' σ' H') ∧ ∀ x H', (Jt d o kvs).yld i H x H' → g x σ H' fun σ2 H2 => tb ⟨N, fun v H' => Unl H0 H' (D.rt v), fun σ' H' => Unl H0 H' (D.nx σ'), N⟩ σ2 H2)) ∨
    (H1 d = some (.dK kvs) ∧ ∀ o, (∀ o' u', H0 d ≠ some (.frz o' u')) → ∃ W : Nat → Nat → L2.St → Hp → Prop, (∃ m, W 0 m σ (upd H1 d (.frz o (.dK kvs)))) ∧ ∀ i m σ H, W i m σ H →
    ((Jt d o kvs).stop i H ∧ Unl H0 H (D.nx σ)) ∨ ((Jt d o kvs).go i H ∧ ∃ N : L2.St → Hp → Prop, (∀ σ' H', N σ' H' → ∃ m', m' < m ∧ W (i + 1) m' σ' H') ∧ ∀ x H', (Jt d o kvs).yld i H x H' → g x σ H' fun σ2 H2 => tb ⟨N, fun v H' => Unl H0 H' (D.rt v), fun σ' H' => Unl H0 H' (D.nx σ'), N⟩ σ2 H2)))
  refine sb_go he h0 S R h hD fun u st1 w1 H1 x S1 R1 f1 v1 h2 hD1 => ?_
  split at h2
  · rename_i kvs e1
    obtain ⟨a, ps, rfl, rd, rk, stk, hl⟩ := VR.stk S1 (sod_base R) v1 e1
    have hl0 : ∀ o ∈ stayOf u ++ L0, o ∈ stayOf u ++ L := fun o z => (List.mem_append.mp z).elim (fun z => List.mem_append.mpr (.inl z)) fun z => mem_r (h0 o z)
    rcases rd with hdk | ⟨o, hfz⟩
    · refine ⟨a, ps, rfl, .inr ⟨hdk, fun o hn => ?_⟩⟩
      obtain ⟨S1f, R1f⟩ := frz_ok (ob := o) (L' := stayOf u ++ L) hdk S1 R1 stk hl0 fun o z => mem_r z
      exact for_core (D := ⟨fun σ' H' => Unl H0 H' (D.nx σ'), fun v H' => Unl H0 H' (D.rt v), fun σ' H' => Unl H0 H' (D.bk σ'), fun σ' H' => Unl H0 H' (D.ct σ')⟩) (j := ⟨f kvs, stayOf u⟩) (Hl := HlK E (stayOf u ++ L0) a o ps kvs) hg hb h0 S1f R1f ⟨upd_same, rk.mono (List.prefix_refl _) (tm_z (.inl rfl) hdk), stk⟩ (fun s s' g' z => z.stp g') (hJ.its _ a o ps kvs) h2 (oks_thaw (A := ⟨w1, env, st1, σ, H1⟩) hdk stk h0 hn S1 R1 hl hD1)
    · refine ⟨a, ps, rfl, .inl ⟨o, hfz, ?_⟩⟩
      exact for_core (D := ⟨fun σ' H' => Unl H0 H' (D.nx σ'), fun v H' => Unl H0 H' (D.rt v), fun σ' H' => Unl H0 H' (D.bk σ'), fun σ' H' => Unl H0 H' (D.ct σ')⟩) (j := ⟨f kvs, stayOf u⟩) (Hl := HlK E (stayOf u ++ L0) a o ps kvs) hg hb h0 S1.lkApp (R1.lk fun o z => mem_r z) ⟨hfz, rk, stk⟩ (fun s s' g' z => z.stp g') (hJ.its _ a o ps kvs) h2 (oks_known (OkS.lk (l := stayOf u) S1 R1 hl hD1))
  · cases h2
end
end Tv

/-! what a for and a comprehension walk: rows and dicts -/
namespace Tv
open PySem L2 PySem.Spec PyProof.Rows
/-- rows, or the keys of a dict -/
def iSeqD (K : PySem.W.Frag) (H0 : Hp) (te : TE) : TI := fun σ H R => iSeqX K te σ H R ∨ iDL Itk H0 te σ H R
theorem pi_either {X : Cx} {tg e : Expr} {t1 t2 : TI} (h1 : PI X tg e t1) (h2 : PI X tg e t2) : PI X tg e (fun σ H R => t1 σ H R ∨ t2 σ H R) := ⟨fun pins s σ H R I h => h.elim (h1.run pins s σ H R I) (h2.run pins s σ H R I)⟩
section
variable {E : En} {xb : XB} {w w0 w1 w2 w' : Wd} {L0 L L' l Lk : List Ow} {st st0 st1 st2 st' : Sto} {H H1 H2 H' B B' J : Hp} {env env0 env1 env' : Env} {σ σ0 σ1 σ' σ2 : L2.St} {v : V} {s : SV} {vs : List V} {ss as : List SV} {j i C : Nat} {p a q : Addr} {P : Prog} {n : Nat} {W : WX} {X : Cx} {ad : List Addr} {x : Cn} {ps : List (Key × V)} {kvs : List (Key × D)} {te tv : TE} {e e1 : Ex} {H0 : Hp} {g : TG} {tb : TS} {t : Tg} {b : Stts} {tt : TT} {k : Tx}
/-- a piece is a dict, or it is none -/
theorem dict_or (c : Cl) (e : Ex) (env : Env) (st : Sto) : (∃ u st1 kvs, ev c e env st = some (.ok u st1) ∧ cnOf u st1 = some (.m kvs)) ∨ ∀ u st1, ev c e env st = some (.ok u st1) → ∀ kvs, cnOf u st1 ≠ some (.m kvs) := by
  by_cases h : ∃ u st1 kvs, ev c e env st = some (.ok u st1) ∧ cnOf u st1 = some (.m kvs)
  · exact .inl h
  · exact .inr fun u st1 h1 kvs h2 => h ⟨u, st1, kvs, h1, h2⟩
theorem ss_forS (he : SE P n E xb W te e) (hg : TgS E g t) (hb : SSs P n E xb (WU H0 W) tb b) : SS P n E xb W (tUnl H0 (tFor (iSeqD E.K H0 te) g tb)) (.for_ t (.seq e) b) := by
  intro L0 L w env st σ H h0 S R r h D hD
  have h' : sb (rb (ev (P.cl (P.call n) L) e env st) fun u st => itSeq u st) env (fun j st => forL (fun x env st => match t.put ((P.cl (P.call n) L).lk j.locks) env x with
        | some env => execs ((P.cl (P.call n) L).lk j.locks) b env st
        | none => none) j.xs env st) = some r := h
  rcases dict_or (P.cl (P.call n) L) e env st with ⟨u, st1, kvs, e1, e2⟩ | nd
  · refine .inr (forK kw_keys he hg hb h0 S R ?_ hD)
    rw [e1] at h' ⊢
    have h2 : sb (itSeq u st1) env (fun j st => forL (fun x env st => match t.put ((P.cl (P.call n) L).lk j.locks) env x with
        | some env => execs ((P.cl (P.call n) L).lk j.locks) b env st
        | none => none) j.xs env st) = some r := h'
    have e3 : itSeq u st1 = some (.ok ⟨kvs.map fun p => keyD p.1, stayOf u⟩ st1) := by
      unfold itSeq
      have e4 : rowOf u st1 = none := by
        unfold rowOf
        split
        · cases e2
        · rw [e2]
      rw [e4, e2]
    rw [e3] at h2
    show (match cnOf u st1 with
      | some (.m kvs) => forL (fun x env st => match t.put ((P.cl (P.call n) L).lk (stayOf u)) env x with
        | some env => execs ((P.cl (P.call n) L).lk (stayOf u)) b env st
        | none => none) (kvs.map fun p => keyD p.1) env st1
      | _ => none) = some r
    rw [e2]
    exact h2
  · have key : ∀ r', rb (ev (P.cl (P.call n) L) e env st) (fun u st => itSeq u st) = some r' → rb (ev (P.cl (P.call n) L) e env st) (fun u st => itRow u st) = some r' := fun r' hr' => by
      cases e1 : ev (P.cl (P.call n) L) e env st with
      | none => rw [e1] at hr'; cases hr'
      | some o =>
        rw [e1] at hr'
        cases o with
        | ex y st1 => exact hr'
        | ok u st1 =>
          have hr2 : itSeq u st1 = some r' := hr'
          show itRow u st1 = some r'
          cases r' with
          | ok j st2 => exact itSeq_row (nd u st1 e1) hr2
          | ex y st2 =>
            unfold itSeq at hr2
            split at hr2
            · cases hr2
            · split at hr2 <;> cases hr2
    refine .inl ?_
    cases er : rb (ev (P.cl (P.call n) L) e env st) (fun u st => itSeq u st) with
    | none => rw [er] at h'; cases h'
    | some r' =>
      refine si_row he L0 L w env st σ H h0 S R r' (key r' er) _ ?_
      rw [er] at h'
      cases r' with
      | ex y st1 =>
        cases (show some (SO.ex y env st1) = some r from h')
        exact fun w1 H1 cls d S1 f1 yr => hD w1 σ H1 cls d S1 (R.fr S h0 f1) (Stp.of R f1) yr
      | ok j st1 =>
        intro w1 H1 J S1 f1 v1
        obtain ⟨hl, Hl, hh, hst, its⟩ := v1
        have R1 := R.fr S h0 f1
        exact for_core (D := ⟨fun σ' H' => Unl H0 H' (D.nx σ'), fun v H' => Unl H0 H' (D.rt v), fun σ' H' => Unl H0 H' (D.bk σ'), fun σ' H' => Unl H0 H' (D.ct σ')⟩) hg hb h0 S1.lkApp (R1.lk fun o z => mem_r z) hh hst its h' (oks_known (OkS.lk (l := j.locks) S1 R1 hl (hD.from (Stp.of R f1))))
theorem ss_forD {Jt : Addr → Obj → List (Key × V) → L2.It} {f : List (Key × D) → List D} {it : Tv.It} (hJ : Kw E Jt f) (hit : ∀ c env st, evI c it env st = rb (ev c e env st) fun u st => match cnOf u st with | some (.m kvs) => ok ⟨f kvs, stayOf u⟩ st | _ => none)
    (he : SE P n E xb W te e) (hg : TgS E g t) (hb : SSs P n E xb (WU H0 W) tb b) : SS P n E xb W (tUnl H0 (tFor (iDL Jt H0 te) g tb)) (.for_ t it b) := by
  intro L0 L w env st σ H h0 S R r h D hD
  have h' : sb (evI (P.cl (P.call n) L) it env st) env (fun j st => forL (fun x env st => match t.put ((P.cl (P.call n) L).lk j.locks) env x with
        | some env => execs ((P.cl (P.call n) L).lk j.locks) b env st
        | none => none) j.xs env st) = some r := h
  rw [hit] at h'
  refine forK hJ he hg hb h0 S R ?_ hD
  cases e1 : ev (P.cl (P.call n) L) e env st with
  | none => rw [e1] at h'; cases h'
  | some o =>
    rw [e1] at h'
    cases o with
    | ex y st1 => exact h'
    | ok u st1 =>
      have h2 : sb (match cnOf u st1 with | some (.m kvs) => ok ⟨f kvs, stayOf u⟩ st1 | _ => none) env (fun (j : Ito) st => forL (fun x env st => match t.put ((P.cl (P.call n) L).lk j.locks) env x with
        | some env => execs ((P.cl (P.call n) L).lk j.locks) b env st
        | none => none) j.xs env st) = some r := h'
      show (match cnOf u st1 with
      | some (.m kvs) => forL (fun x env st => match t.put ((P.cl (P.call n) L).lk (stayOf u)) env x with
        | some env => execs ((P.cl (P.call n) L).lk (stayOf u)) b env st
        | none => none) (f kvs) env st1
      | _ => none) = some r
      split at h2
      · rename_i kvs e2; exact h2
      · cases h2
/-! ### comprehensions -/
theorem Fr.thaw {ob : Obj} {A Bs : Ss} (e : A.H a = some (.dK ps)) (e2 : Bs.H a = some (.frz ob (.dK ps))) (hl : ∀ o ∈ L', o ∈ L) (f : Fr E L ⟨A.w, A.st, upd A.H a (.frz ob (.dK ps))⟩ Bs) : Fr E L' A ⟨Bs.w, Bs.st, upd Bs.H a (.dK ps)⟩ := by
  have none' : ∀ p, upd A.H a (.frz ob (.dK ps)) p = none → A.H p = none := fun p h => by
    have np : p ≠ a := fun y => by subst y; rw [upd_same] at h; cases h
    rw [upd_ne np] at h; exact h
  refine ⟨f.ad, fun b xs z => ?_, fun p o h1 h2 => ?_, fun p h => (f.new p h).imp id (none' p), fun p h => ?_, fun p h => ?_, fun o h1 h2 => ?_⟩
  · have nb : b ≠ a := fun y => by subst y; rw [show A.H b = _ from e] at z; cases z
    show upd Bs.H a (.dK ps) b = _
    rw [upd_ne nb]
    exact f.tm b xs ((upd_ne nb).trans z)
  · show upd Bs.H a (.dK ps) p = some o
    by_cases hp : p = a
    · subst hp; rw [upd_same, ← h1, e]
    · rw [upd_ne hp]; exact f.out p o ((upd_ne hp).trans h1) h2
  · have h' := zad_z (.inr ⟨ob, rfl⟩) (.inl rfl) e2 h
    rcases f.newz p h' with h | h | h
    · exact .inl (zad_z (.inl rfl) (.inr ⟨ob, rfl⟩) e h)
    · exact .inr (.inl h)
    · exact .inr (.inr (none' p h))
  · have np : p ≠ a := fun y => by subst y; have h' : upd Bs.H p (.dK ps) p = none := h; rw [upd_same] at h'; cases h'
    have h' : upd Bs.H a (.dK ps) p = none := h
    rw [upd_ne np] at h'
    exact none' p (f.dom p h')
  · obtain ⟨k1, k2, k3⟩ := f.lk o (hl o h1) h2
    refine ⟨k1, k2, fun p hp => ?_⟩
    show upd Bs.H a (.dK ps) p = A.H p
    by_cases hpa : p = a
    · subst hpa; rw [upd_same, e]
    · rw [upd_ne hpa]; exact (k3 p hp).trans (upd_ne hpa)
theorem lcK {Jt : Addr → Obj → List (Key × V) → L2.It} {f : List (Key × D) → List D} {r : Out SV} {Q : VK} (hJ : Kw E Jt f) (he : SE P n E xb W te e) (hg : TgS E g t) (ht : STe P n E xb WF tt k) (hv : SE P n E xb WF tv e1) (h0 : ∀ o ∈ L0, o ∈ L) (S : SR E w L st H) (R : ER E xb L0 w L st H env σ)
    (h : rb (ev (P.cl (P.call n) L) e env st) (fun u st => match cnOf u st with
      | some (.m kvs) => rb (compL (fun x st => match t.set (wipeE env t.own) x with
        | some env => rb (evT ((P.cl (P.call n) L).lk (stayOf u)) k env st) fun b st => if b then rb (ev ((P.cl (P.call n) L).lk (stayOf u)) e1 env st) fun v st => ok (some v) st else ok none st
        | none => none) (f kvs) [] st) fun xs st => ok (SV.c .own (.l xs)) st
      | _ => none) = some r) (hQ : OkR E W L w st σ H (fun w' st' H' b a => RV E L0 w' st' H' env σ H b a) Q r) : tUnlE H0 (tLc (iDL Jt H0 te) g tt tv t.own) σ H Q := by
  show te σ H fun x H1 => ∃ d kvs, x = .ref d ∧ ((∃ o, H1 d = some (.frz o (.dK kvs)) ∧ ∀ D, H1 D = none → ∃ W : Nat → Nat → Hp → Prop, (∃ m, W 0 m (upd H1 D (.lst []))) ∧ ∀ i m H, W i m H →
    ((Jt d o kvs).stop i H ∧ Unl H0 H (Q (.ref D))) ∨ ((Jt d o kvs).go i H ∧ ∃ Nx : Hp → Prop, (∀ H', Nx H' → ∃ m', m' < m ∧ W (i + 1) m' H') ∧ ∀ x H', (Jt d o kvs).yld i H x H' → g x (wipe σ t.own) H' fun σ2 H2 => wipe σ2 t.own = wipe σ t.own ∧ tt σ2 H2 fun b H3 =>
      if b = true then tv σ2 H3 fun y H4 => ∃ acc, H4 D = some (.lst acc) ∧ acc.length < sizeLine ∧ Nx (upd H4 D (.lst (acc ++ [y]))) else Nx H3)) ∨
    (H1 d = some (.dK kvs) ∧ ∀ o, (∀ o' u', H0 d ≠ some (.frz o' u')) → ∀ D, upd H1 d (.frz o (.dK kvs)) D = none → ∃ W : Nat → Nat → Hp → Prop, (∃ m, W 0 m (upd (upd H1 d (.frz o (.dK kvs))) D (.lst []))) ∧ ∀ i m H, W i m H →
    ((Jt d o kvs).stop i H ∧ Unl H0 H (Q (.ref D))) ∨ ((Jt d o kvs).go i H ∧ ∃ Nx : Hp → Prop, (∀ H', Nx H' → ∃ m', m' < m ∧ W (i + 1) m' H') ∧ ∀ x H', (Jt d o kvs).yld i H x H' → g x (wipe σ t.own) H' fun σ2 H2 => wipe σ2 t.own = wipe σ t.own ∧ tt σ2 H2 fun b H3 =>
      if b = true then tv σ2 H3 fun y H4 => ∃ acc, H4 D = some (.lst acc) ∧ acc.length < sizeLine ∧ Nx (upd H4 D (.lst (acc ++ [y]))) else Nx H3)))
  refine sg_go he h0 S R h hQ fun u st1 w1 H1 x S1 R1 f1 v1 h2 hQ1 => ?_
  split at h2
  · rename_i kvs e1'
    obtain ⟨a, ps, rfl, rd, rk, stk, hl⟩ := VR.stk S1 (sod_base R) v1 e1'
    have hl0 : ∀ o ∈ stayOf u ++ L0, o ∈ stayOf u ++ L := fun o z => (List.mem_append.mp z).elim (fun z => List.mem_append.mpr (.inl z)) fun z => mem_r (h0 o z)
    have hL : ∀ o ∈ L, o ∈ stayOf u ++ L := fun o z => mem_r z
    rcases rd with hdk | ⟨o, hfz⟩
    · refine ⟨a, ps, rfl, .inr ⟨hdk, fun o hn Da hD => ?_⟩⟩
      obtain ⟨S1f, R1f⟩ := frz_ok (ob := o) (L' := stayOf u ++ L) hdk S1 R1 stk hl0 hL
      have stkf : StK (stayOf u ++ L0) ⟨w1, env, st1, σ, upd H1 a (.frz o (.dK ps))⟩ a := stk
      have na : Da ≠ a := fun z => by subst z; rw [upd_same] at hD; cases hD
      have hD1 : H1 Da = none := by rw [upd_ne na] at hD; exact hD
      refine lc_core (j := ⟨f kvs, stayOf u⟩) (Hl := HlK E (stayOf u ++ L0) a o ps kvs) hg ht hv h0 S1f R1f ⟨upd_same, rk.mono (List.prefix_refl _) (tm_z (.inl rfl) hdk), stk⟩ (fun s s' g' z => z.stp g') (hJ.its _ a o ps kvs) h2 hD fun w' st' H' acc av S' g' hDa ra no nz hr => ?_
      subst hr
      have gs := Stp.of R1f g'
      have e2 : H' a = some (.frz o (.dK ps)) := ((stkf.stp (gs.less hl0) (by show upd H1 a _ a ≠ none; rw [upd_same]; intro z; cases z)).2).trans upd_same
      refine .inr ⟨a, o, .dK ps, e2, hn, hQ1 w' _ _ (thaw_ok (A := ⟨w1, env, st1, σ, H1⟩) (b := ⟨w', env, st', σ, H'⟩) hdk e2 S1 R1 hl gs S') (Fr.thaw (A := ⟨w1, st1, H1⟩) (Bs := ⟨w', st', H'⟩) hdk e2 hL g') ?_⟩
      exact .own (co_z (.inr ⟨o, rfl⟩) (.inl rfl) e2 ⟨_, .inl hDa, ra⟩) ⟨_, (upd_ne na).trans hDa, trivial⟩ no (f1.dom _ hD1) fun z => nz (zad_z (.inr ⟨o, rfl⟩) (.inl rfl) e2 z)
    · refine ⟨a, ps, rfl, .inl ⟨o, hfz, fun Da hD => ?_⟩⟩
      refine lc_core (j := ⟨f kvs, stayOf u⟩) (Hl := HlK E (stayOf u ++ L0) a o ps kvs) hg ht hv h0 S1.lkApp (R1.lk hL) ⟨hfz, rk, stk⟩ (fun s s' g' z => z.stp g') (hJ.its _ a o ps kvs) h2 hD fun w' st' H' acc av S' g' hDa ra no nz hr => .inl ?_
      subst hr
      exact hQ1 w' H' _ (S1.unlk g' S' hl) (g'.less hL) (.own ⟨_, .inl hDa, ra⟩ ⟨_, hDa, trivial⟩ no (f1.dom _ hD) nz)
  · cases h2
theorem rb_dict {c : Cl} {K : Ito → Sto → Res SV} {u : SV} {st1 : Sto} (e1 : ev c e env st = some (.ok u st1)) (e2 : cnOf u st1 = some (.m kvs)) : rb (rb (ev c e env st) fun u st => itSeq u st) K = K ⟨kvs.map fun p => keyD p.1, stayOf u⟩ st1 := by
  rw [e1]
  show rb (itSeq u st1) K = _
  have e3 : itSeq u st1 = some (.ok ⟨kvs.map fun p => keyD p.1, stayOf u⟩ st1) := by
    unfold itSeq
    have e4 : rowOf u st1 = none := by
      unfold rowOf
      split
      · cases e2
      · rw [e2]
    rw [e4, e2]
  rw [e3]
  rfl
theorem itRow_of {c : Cl} (nd : ∀ u st1, ev c e env st = some (.ok u st1) → ∀ kvs, cnOf u st1 ≠ some (.m kvs)) (r' : Out Ito) (hr' : rb (ev c e env st) (fun u st => itSeq u st) = some r') : rb (ev c e env st) (fun u st => itRow u st) = some r' := by
  cases e1 : ev c e env st with
  | none => rw [e1] at hr'; cases hr'
  | some o =>
    rw [e1] at hr'
    cases o with
    | ex y st1 => exact hr'
    | ok u st1 =>
      have hr2 : itSeq u st1 = some r' := hr'
      show itRow u st1 = some r'
      cases r' with
      | ok j st2 => exact itSeq_row (nd u st1 e1) hr2
      | ex y st2 =>
        unfold itSeq at hr2
        split at hr2
        · cases hr2
        · split at hr2 <;> cases hr2
theorem se_lcS {own : List Nat} (he : SE P n E xb W te e) (hg : TgS E g t) (ht : STe P n E xb WF tt k) (hv : SE P n E xb WF tv e1) (ho : own = t.own) : SE P n E xb W (tUnlE H0 (tLc (iSeqD E.K H0 te) g tt tv own)) (.lc t (.seq e) k e1) := by
  subst ho
  intro L0 L w env st σ H h0 S R r h Q hQ
  have h' : rb (rb (ev (P.cl (P.call n) L) e env st) fun u st => itSeq u st) (fun j st => rb (compL (fun x st => match t.set (wipeE env t.own) x with
        | some env => rb (evT ((P.cl (P.call n) L).lk j.locks) k env st) fun b st => if b then rb (ev ((P.cl (P.call n) L).lk j.locks) e1 env st) fun v st => ok (some v) st else ok none st
        | none => none) j.xs [] st) fun xs st => ok (SV.c .own (.l xs)) st) = some r := h
  rcases dict_or (P.cl (P.call n) L) e env st with ⟨u, st1, kvs, e1', e2⟩ | nd
  · refine .inr (lcK kw_keys he hg ht hv h0 S R ?_ hQ)
    rw [rb_dict e1' e2] at h'
    rw [e1']
    show (match cnOf u st1 with
      | some (.m kvs) => rb (compL (fun x st => match t.set (wipeE env t.own) x with
        | some env => rb (evT ((P.cl (P.call n) L).lk (stayOf u)) k env st) fun b st => if b then rb (ev ((P.cl (P.call n) L).lk (stayOf u)) e1 env st) fun v st => ok (some v) st else ok none st
        | none => none) (kvs.map fun p => keyD p.1) [] st1) fun xs st => ok (SV.c .own (.l xs)) st
      | _ => none) = some r
    rw [e2]
    exact h'
  · refine .inl ?_
    cases er : rb (ev (P.cl (P.call n) L) e env st) (fun u st => itSeq u st) with
    | none => rw [er] at h'; cases h'
    | some r' =>
      refine si_row he L0 L w env st σ H h0 S R r' (itRow_of nd r' er) _ ?_
      rw [er] at h'
      cases r' with
      | ex y st1 =>
        cases (show some (Out.ex y st1) = some r from h')
        exact fun w1 H1 cls d S1 f1 yr => hQ w1 H1 cls d S1 f1 yr
      | ok j st1 =>
        intro w1 H1 J S1 f1 v1 Da hD
        obtain ⟨hl, Hl, hh, hst, its⟩ := v1
        have R1 := R.fr S h0 f1
        refine lc_core hg ht hv h0 S1.lkApp (R1.lk fun o z => mem_r z) hh hst its h' hD fun w' st' H' acc av S' g' hDa ra no nz hr => .inl ?_
        subst hr
        exact hQ w' H' _ (S1.unlk g' S' hl) (f1.tr (g'.less fun o z => mem_r z)) (.own ⟨_, .inl hDa, ra⟩ ⟨_, hDa, trivial⟩ no (f1.dom _ hD) nz)
theorem se_lcD {Jt : Addr → Obj → List (Key × V) → L2.It} {f : List (Key × D) → List D} {it : Tv.It} {own : List Nat} (hJ : Kw E Jt f) (hit : ∀ c env st, evI c it env st = rb (ev c e env st) fun u st => match cnOf u st with | some (.m kvs) => ok ⟨f kvs, stayOf u⟩ st | _ => none)
    (he : SE P n E xb W te e) (hg : TgS E g t) (ht : STe P n E xb WF tt k) (hv : SE P n E xb WF tv e1) (ho : own = t.own) : SE P n E xb W (tUnlE H0 (tLc (iDL Jt H0 te) g tt tv own)) (.lc t it k e1) := by
  subst ho
  intro L0 L w env st σ H h0 S R r h Q hQ
  have h' : rb (evI (P.cl (P.call n) L) it env st) (fun j st => rb (compL (fun x st => match t.set (wipeE env t.own) x with
        | some env => rb (evT ((P.cl (P.call n) L).lk j.locks) k env st) fun b st => if b then rb (ev ((P.cl (P.call n) L).lk j.locks) e1 env st) fun v st => ok (some v) st else ok none st
        | none => none) j.xs [] st) fun xs st => ok (SV.c .own (.l xs)) st) = some r := h
  rw [hit] at h'
  refine lcK hJ he hg ht hv h0 S R ?_ hQ
  cases e1' : ev (P.cl (P.call n) L) e env st with
  | none => rw [e1'] at h'; cases h'
  | some o =>
    rw [e1'] at h'
    cases o with
    | ex y st1 => exact h'
    | ok u st1 =>
      have h2 : rb (match cnOf u st1 with | some (.m kvs) => ok ⟨f kvs, stayOf u⟩ st1 | _ => none) (fun (j : Ito) st => rb (compL (fun x st => match t.set (wipeE env t.own) x with
        | some env => rb (evT ((P.cl (P.call n) L).lk j.locks) k env st) fun b st => if b then rb (ev ((P.cl (P.call n) L).lk j.locks) e1 env st) fun v st => ok (some v) st else ok none st
        | none => none) j.xs [] st) fun xs st => ok (SV.c .own (.l xs)) st) = some r := h'
      show (match cnOf u st1 with
      | some (.m kvs) => rb (compL (fun x st => match t.set (wipeE env t.own) x with
        | some env => rb (evT ((P.cl (P.call n) L).lk (stayOf u)) k env st) fun b st => if b then rb (ev ((P.cl (P.call n) L).lk (stayOf u)) e1 env st) fun v st => ok (some v) st else ok none st
        | none => none) (f kvs) [] st1) fun xs st => ok (SV.c .own (.l xs)) st
      | _ => none) = some r
      split at h2
      · rename_i kvs e2; exact h2
      · cases h2
end
/-! ### the code, piece by piece -/
def Gm.unl (g : Gm) (H0 : Hp) : Gm := { g with W := WU H0 g.W }
section
variable {X : Cx} {g : Gm} {tg pa pe iter : Expr} {a e1 : Ex} {ta tv : TE} {t1 : Tg} {gt : TG} {xs : Stts} {sa : List Stmt} {sta : TS} {pos cpos apos : Pos} {it : Tv.It} {t : Tx} {tt : TT} {scope : Scope} {own : List (Str × Nat)} {elt : Expr} {ifs : List Expr}
theorem ds_forS (hp : PassesOwn (model X.prog X.w) X.A X.env X.xe) (hc : X.calm = true) (hK : X.K = g.E.K) (h : De X g pa a ta) (hg : Dg X g tg t1 gt) (hb : Dss X (g.unl X.H_0) sa xs sta) (hs : ∀ x, foldedSetIterable pa X.env x = pure x := by intro _; rfl) : Ds X g (.For tg pa sa [] pos) (.for_ t1 (.seq a) xs) (tUnl X.H_0 (tFor (iSeqD g.E.K X.H_0 ta) gt sta)) :=
  ⟨ps_unl (ps_for hp hc (pi_either (hK ▸ pi_X h.p) (pi_keysL h.p)) hg.p hb.p hs), ss_forS h.s hg.s hb.s⟩
theorem ds_forKeys (hp : PassesOwn (model X.prog X.w) X.A X.env X.xe) (hc : X.calm = true) (h : De X g pa a ta) (hg : Dg X g tg t1 gt) (hb : Dss X (g.unl X.H_0) sa xs sta) (hs : ∀ x, foldedSetIterable pa X.env x = pure x := by intro _; rfl) : Ds X g (.For tg pa sa [] pos) (.for_ t1 (.keys a) xs) (tUnl X.H_0 (tFor (iDL Itk X.H_0 ta) gt sta)) :=
  ⟨ps_unl (ps_for hp hc (pi_keysL h.p) hg.p hb.p hs), ss_forD kw_keys (fun _ _ _ => rfl) h.s hg.s hb.s⟩
theorem ds_forVals (hp : PassesOwn (model X.prog X.w) X.A X.env X.xe) (hc : X.calm = true) (h : De X g pa a ta) (hg : Dg X g tg t1 gt) (hb : Dss X (g.unl X.H_0) sa xs sta) (hbase : attributeBase pa "values" X.env (eval pa X.env) = eval pa X.env := by rfl) (hline : (apos.endLine == cpos.line) = true := by rfl) (hs : ∀ x, foldedSetIterable (.Call (.Attribute pa "values" apos) [] [] cpos) X.env x = pure x := by intro _; rfl) :
    Ds X g (.For tg (.Call (.Attribute pa "values" apos) [] [] cpos) sa [] pos) (.for_ t1 (.values a) xs) (tUnl X.H_0 (tFor (iDL Itd X.H_0 ta) gt sta)) :=
  ⟨ps_unl (ps_for hp hc (pi_valsL h.p hbase hline) hg.p hb.p hs), ss_forD kw_vals (fun _ _ _ => rfl) h.s hg.s hb.s⟩
theorem ds_forItems {elts : List Expr} {kk : Nat} {tpos : Pos} (hp : PassesOwn (model X.prog X.w) X.A X.env X.xe) (hc : X.calm = true) (h : De X g pa a ta) (hg : Dg X g (.Tuple elts kk tpos) t1 gt) (hb : Dss X (g.unl X.H_0) sa xs sta) (hbase : attributeBase pa "items" X.env (eval pa X.env) = eval pa X.env := by rfl) (hline : (apos.endLine == cpos.line) = true := by rfl) (hs : ∀ x, foldedSetIterable (.Call (.Attribute pa "items" apos) [] [] cpos) X.env x = pure x := by intro _; rfl) :
    Ds X g (.For (.Tuple elts kk tpos) (.Call (.Attribute pa "items" apos) [] [] cpos) sa [] pos) (.for_ t1 (.items a) xs) (tUnl X.H_0 (tFor (iDL Iti X.H_0 ta) gt sta)) :=
  ⟨ps_unl (ps_for hp hc (pi_itemsL h.p hbase hline) hg.p hb.p hs), ss_forD kw_items (fun _ _ _ => rfl) h.s hg.s hb.s⟩
/-! comprehensions -/
def tAllE (t : Hp → TE) : TE := fun σ H Q => ∀ H0, t H0 σ H Q
/-- what is walked, and how a comprehension over it goes -/
structure Dic (X : Cx) (g : Gm) (tg pe : Expr) (it : Tv.It) (wi : Hp → TI) : Prop where
  p : PI X tg pe (wi X.H_0)
  s : ∀ (H0 : Hp) {t1 : Tg} {gt : TG} {t : Tx} {tt : TT} {e1 : Ex} {tv : TE} {own : List Nat}, TgS g.E gt t1 → STe g.P g.n g.E g.xb WF tt t → SE g.P g.n g.E g.xb WF tv e1 → own = t1.own → SE g.P g.n g.E g.xb g.W (tUnlE H0 (tLc (wi H0) gt tt tv own)) (.lc t1 it t e1)
theorem dic_seq (hK : X.K = g.E.K) (h : De X g pa a ta) : Dic X g tg pa (.seq a) (fun H0 => iSeqD g.E.K H0 ta) := ⟨pi_either (hK ▸ pi_X h.p) (pi_keysL h.p), fun H0 _ _ _ _ _ _ _ hg ht hv ho => se_lcS h.s hg ht hv ho⟩
theorem dic_keys (h : De X g pa a ta) : Dic X g tg pa (.keys a) (fun H0 => iDL Itk H0 ta) := ⟨pi_keysL h.p, fun H0 _ _ _ _ _ _ _ hg ht hv ho => se_lcD kw_keys (fun _ _ _ => rfl) h.s hg ht hv ho⟩
theorem dic_vals (h : De X g pa a ta) (hbase : attributeBase pa "values" X.env (eval pa X.env) = eval pa X.env := by rfl) (hline : (apos.endLine == cpos.line) = true := by rfl) : Dic X g tg (.Call (.Attribute pa "values" apos) [] [] cpos) (.values a) (fun H0 => iDL Itd H0 ta) := ⟨pi_valsL h.p hbase hline, fun H0 _ _ _ _ _ _ _ hg ht hv ho => se_lcD kw_vals (fun _ _ _ => rfl) h.s hg ht hv ho⟩
theorem dic_items {elts : List Expr} {kk : Nat} {tpos : Pos} (h : De X g pa a ta) (hbase : attributeBase pa "items" X.env (eval pa X.env) = eval pa X.env := by rfl) (hline : (apos.endLine == cpos.line) = true := by rfl) : Dic X g (.Tuple elts kk tpos) (.Call (.Attribute pa "items" apos) [] [] cpos) (.items a) (fun H0 => iDL Iti H0 ta) := ⟨pi_itemsL h.p hbase hline, fun H0 _ _ _ _ _ _ _ hg ht hv ho => se_lcD kw_items (fun _ _ _ => rfl) h.s hg ht hv ho⟩
/-- any other -/
theorem se_unlE {P : Prog} {n : Nat} {E : En} {xb : XB} {W : WX} {te : TE} {e : Ex} {H0 : Hp} (h : SE P n E xb W te e) : SE P n E xb W (tUnlE H0 te) e := by
  intro L0 L w env st σ H h0 S R r h2 Q hQ
  refine h L0 L w env st σ H h0 S R r h2 _ ?_
  cases r with
  | ok a st1 => exact fun w' H' b S' f' r' => .inl (hQ w' H' b S' f' r')
  | ex y st1 => exact hQ
theorem dic_of {wi : TI} (h : Di X g tg pe it wi) : Dic X g tg pe it (fun _ => wi) := ⟨h.p, fun H0 _ _ _ _ _ _ _ hg ht hv ho => se_unlE (se_lc h.s hg ht hv ho)⟩
theorem pe_all {t : Hp → TE} {e : Expr} (h : PE X e (t X.H_0)) : PE X e (tAllE t) := ⟨fun pins s σ H Q I hw => h.run pins s σ H Q I (hw _)⟩
theorem se_all {t : Hp → TE} {P : Prog} {n : Nat} {E : En} {xb : XB} {W : WX} {e : Ex} (h : ∀ H0, SE P n E xb W (t H0) e) : SE P n E xb W (tAllE t) e := fun L0 L w env st σ H h0 S R r h2 Q hQ H0 => h H0 L0 L w env st σ H h0 S R r h2 Q hQ
theorem de_lcD {wi : Hp → TI} (hc : X.calm = true) (hN : X.N.Nodup) (ok : BlkOk X.N X.env.scope scope own) (hi : Dic X g tg iter it wi)
    (hg : ∀ (s : Shared) (H : Hp) (C : Addr) (cl : List (Str × Addr)) (fp : List Addr), Dg (X.blk s H scope (compEnvC scope cl C X.env) fp) g.inC tg t1 gt)
    (ht : ∀ (s : Shared) (H : Hp) (C : Addr) (cl : List (Str × Addr)) (fp : List Addr), Dts (X.blk s H scope (compEnvC scope cl C X.env) fp) g.inC ifs t tt)
    (he : ∀ (s : Shared) (H : Hp) (C : Addr) (cl : List (Str × Addr)) (fp : List Addr), De (X.blk s H scope (compEnvC scope cl C X.env) fp) g.inC elt e1 tv) (ho : own.map (·.2) = t1.own) (hs : ∀ x, foldedSetIterable iter X.env x = pure x := by intro _; rfl) :
    De X g (.ListComp elt [⟨tg, iter, ifs, 0⟩] scope pos) (.lc t1 it t e1) (tAllE fun H0 => tUnlE H0 (tLc (wi H0) gt tt tv (own.map (·.2)))) :=
  ⟨pe_all (pe_unl (pe_lc hc hN hi.p ok (fun s H C cl fp => (hg s H C cl fp).p) (fun s H C cl fp => (ht s H C cl fp).p) (fun s H C cl fp => (he s H C cl fp).p) hs)),
   se_all fun H0 => hi.s H0 (hg (PySem.start X.prog).1 (fun _ => none) 0 [] []).s (ht (PySem.start X.prog).1 (fun _ => none) 0 [] []).s (he (PySem.start X.prog).1 (fun _ => none) 0 [] []).s ho⟩
def tAllS (t : Hp → TS) : TS := fun D σ H => ∀ H0, t H0 D σ H
/-- x = [..]: a comprehension stored in a name -/
theorem ds_setLcD {wi : Hp → TI} {i : Nat} {y : Str} {py : Pos} {spos : Pos} (hc : X.calm = true) (hN : X.N.Nodup) (hy : X.N[i]? = some y) (hyl : X.env.scope.names.lookup y = some .local)
    (hsw : swapsWith (.ListComp elt [⟨tg, iter, ifs, 0⟩] scope pos) (some (.Name y py)) spos.line X.env = pure true) (ok : BlkOk X.N X.env.scope scope own) (hi : Dic X g tg iter it wi)
    (hg : ∀ (s : Shared) (H : Hp) (C : Addr) (cl : List (Str × Addr)) (fp : List Addr), Dg (X.blk s H scope (compEnvC scope cl C X.env) fp) g.inC tg t1 gt)
    (ht : ∀ (s : Shared) (H : Hp) (C : Addr) (cl : List (Str × Addr)) (fp : List Addr), Dts (X.blk s H scope (compEnvC scope cl C X.env) fp) g.inC ifs t tt)
    (he : ∀ (s : Shared) (H : Hp) (C : Addr) (cl : List (Str × Addr)) (fp : List Addr), De (X.blk s H scope (compEnvC scope cl C X.env) fp) g.inC elt e1 tv) (ho : own.map (·.2) = t1.own) (hs : ∀ x, foldedSetIterable iter X.env x = pure x := by intro _; rfl) :
    Ds X g (.Assign [.Name y py] (.ListComp elt [⟨tg, iter, ifs, 0⟩] scope pos) spos) (.asg (.nm i) (.lc t1 it t e1)) (tUnl X.H_0 (tAsg (tLc (wi X.H_0) gt tt tv (own.map (·.2))) (gName i))) := by
  refine ⟨ps_unl (ps_setLc hc hN hy hyl hsw hi.p ok (fun s H C cl fp => (hg s H C cl fp).p) (fun s H C cl fp => (ht s H C cl fp).p) (fun s H C cl fp => (he s H C cl fp).p) hs), ?_⟩
  have h1 := ss_asg (g := gName i) (t := .nm i) (hi.s X.H_0 (hg (PySem.start X.prog).1 (fun _ => none) 0 [] []).s (ht (PySem.start X.prog).1 (fun _ => none) 0 [] []).s (he (PySem.start X.prog).1 (fun _ => none) 0 [] []).s ho) tg_nm fun i e => by cases e; rfl
  intro L0 L w env st σ H h0 S R r h D hD
  exact h1 L0 L w env st σ H h0 S R r h D hD
end
end Tv

/-! two fields at once -/
namespace Tv
open PySem L2 PySem.Spec PyProof.Rows
section
variable {X : Cx} {g : Gm} {po po2 pv pw : Expr} {o v w : Ex} {te te2 tv tw : TE} {f f2 : Str} {pos pos1 pos2 pos3 pos4 : Pos}
theorem ds_fld2 {k1 k2 : Nat} (hc : X.calm = true) (hE : Enk g.E) (hfl : g.P.flds = g.E.fl) (hK : X.K = g.E.K) (h : De X g po o te) (h2 : De X g po2 o te2) (hv : De X g pv v tv) (hw : De X g pw w tw)
    (hst1 : starEach [pv, pw] X.env = (false, eval pv X.env) :: starEach [pw] X.env := by rfl) (hst2 : starEach [pw] X.env = (false, eval pw X.env) :: starEach [] X.env := by rfl)
    (ha1 : (assignEach [.Attribute po f pos1, .Attribute po2 f2 pos2] X.env).map (·.2) = assign (.Attribute po f pos1) X.env :: (assignEach [.Attribute po2 f2 pos2] X.env).map (·.2) := by rfl)
    (ha2 : (assignEach [.Attribute po2 f2 pos2] X.env).map (·.2) = assign (.Attribute po2 f2 pos2) X.env :: (assignEach [] X.env).map (·.2) := by rfl)
    (hn : (assignEach [.Attribute po f pos1, .Attribute po2 f2 pos2] X.env).length = 2 := by rfl) (hst : (assignEach [.Attribute po f pos1, .Attribute po2 f2 pos2] X.env).findIdx? (·.1) = none := by rfl)
    (hs : swapsWithSole [.Tuple [.Attribute po f pos1, .Attribute po2 f2 pos2] k1 pos3] (.Tuple [pv, pw] k2 pos4) pos.line X.env = pure false := by rfl) (hsw : swappedStores [.Tuple [.Attribute po f pos1, .Attribute po2 f2 pos2] k1 pos3] (.Tuple [pv, pw] k2 pos4) X.env = pure none := by rfl)
    (h1 : (assignEach [.Tuple [.Attribute po f pos1, .Attribute po2 f2 pos2] k1 pos3] X.env).map (·.2) = [assign (.Tuple [.Attribute po f pos1, .Attribute po2 f2 pos2] k1 pos3) X.env] := by rfl) :
    Ds X g (.Assign [.Tuple [.Attribute po f pos1, .Attribute po2 f2 pos2] k1 pos3] (.Tuple [pv, pw] k2 pos4) pos) (.fld2 o f f2 v w) (tAsg (tTup (tCons tv (tCons tw tNil))) (gTup g.E.K 2 (gCons (gFld g.E.K te f) (gCons (gFld g.E.K te2 f2) gNil)))) :=
  ⟨ps_asg (pe_tup (pa_cons hv.p (pa_cons hw.p pa_nil hst2) hst1)) (hK ▸ pg_tup hc (pgs_cons (pg_fld h.p) (pgs_cons (pg_fld h2.p) pgs_nil ha2) ha1) hn hst) hs hsw h1, ss_fld2 hE hfl h.s h2.s hv.s hw.s⟩
theorem st_ofT {K : PySem.W.Frag} {H : Hp} {a : Addr} {o : Obj} {its : Array Value} {n : Nat} {xs : List V} (l : K.lookup a = some o) (c : o.cls = .type "tuple") (d : o.data = .seq its n) (z : its.size ≤ sizeLine) (v : Vals xs its.toList) : SqT K H a xs := .inr ⟨o, its, n, l, c, d, z, v⟩
end
end Tv

/-! an instance made with keywords behind defaults -/
namespace Tv
open PySem L2 PySem.Spec PyProof.Rows
section
variable {P : Prog} {n : Nat} {E : En} {xb : XB} {W : WX} {L0 L : List Ow} {w : Wd} {st : Sto} {H B : Hp} {env : Env} {σ : L2.St} {vs ws : List V} {ss zs : List SV}
theorem evs_pre {c : Cl} {e2 : Exs} : ∀ {xs : List D}, evs c ((csts xs).app e2) env st = rb (evs c e2 env st) fun as st => ok (xs.map .d ++ as) st
  | [] => by
    show evs c e2 env st = _
    cases evs c e2 env st with
    | none => rfl
    | some o => cases o <;> rfl
  | x :: xs => by
    show rb (evs (c.lk []) ((csts xs).app e2) env st) (fun us st => ok (SV.d x :: us) st) = _
    have : c.lk [] = c := rfl
    rw [this, evs_pre]
    cases evs c e2 env st with
    | none => rfl
    | some o => cases o <;> rfl
theorem evs_mid {e2 : Exs} {xs : List D} : ∀ {e1 : Exs} {c : Cl} {st : Sto}, evs c (e1.app ((csts xs).app e2)) env st = rb (evs c (e1.app e2) env st) fun as st => ok (as.take e1.len ++ xs.map .d ++ as.drop e1.len) st
  | .nil, c, st => evs_pre
  | .cons e es, c, st => by
    show rb (ev c e env st) (fun u st => rb (evs (c.lk (lockOf u)) (es.app ((csts xs).app e2)) env st) fun us st => ok (u :: us) st) = rb (rb (ev c e env st) fun u st => rb (evs (c.lk (lockOf u)) (es.app e2) env st) fun us st => ok (u :: us) st) fun as st => ok (as.take (es.len + 1) ++ xs.map .d ++ as.drop (es.len + 1)) st
    cases ev c e env st with
    | none => rfl
    | some o =>
      cases o with
      | ex y st1 => rfl
      | ok u st1 =>
        show rb (evs (c.lk (lockOf u)) (es.app ((csts xs).app e2)) env st1) (fun us st => ok (u :: us) st) = rb (rb (evs (c.lk (lockOf u)) (es.app e2) env st1) fun us st => ok (u :: us) st) fun as st => ok (as.take (es.len + 1) ++ xs.map .d ++ as.drop (es.len + 1)) st
        rw [evs_mid]
        cases evs (c.lk (lockOf u)) (es.app e2) env st1 with
        | none => rfl
        | some o2 => cases o2 <;> rfl
theorem VRs.pre (hz : ∀ z ∈ zs, ∀ x, z ≠ .c .own x) (h2 : VRs E L0 w st H env σ B ws zs) (h : VRs E L0 w st H env σ B vs ss) : VRs E L0 w st H env σ B (ws ++ vs) (zs ++ ss) := by
  induction h2 with
  | nil => exact h
  | cons h1 t d ih => exact .cons h1 (ih fun z h => hz z (List.mem_cons_of_mem _ h)) fun a y _ e2 => absurd e2 (hz _ List.mem_cons_self y)
theorem VRs.mid (hz : ∀ z ∈ zs, ∀ x, z ≠ .c .own x) (h2 : VRs E L0 w st H env σ B ws zs) : ∀ {k : Nat} {vs : List V} {ss : List SV}, VRs E L0 w st H env σ B vs ss → VRs E L0 w st H env σ B (vs.take k ++ ws ++ vs.drop k) (ss.take k ++ zs ++ ss.drop k)
  | 0, vs, ss, h => VRs.pre hz h2 h
  | k + 1, _, _, .nil => by simpa using VRs.pre hz h2 .nil
  | k + 1, _, _, .cons (vs := vs) (ss := ss) h t d => by
    refine .cons h (VRs.mid hz h2 (k := k) t) fun a y e1 e2 o => d a y e1 e2 ?_
    obtain ⟨i, x, k1, k2⟩ := o
    have hlen := t.length
    have hlen2 := h2.length
    have k1 : (vs.take k ++ ws ++ vs.drop k)[i]? = some (.ref a) := k1
    have k2 : (ss.take k ++ zs ++ ss.drop k)[i]? = some (.c .own x) := k2
    have l1 : (vs.take k).length = (ss.take k).length := by rw [List.length_take, List.length_take, hlen]
    by_cases hi : i < (ss.take k).length
    · rw [List.append_assoc, List.getElem?_append_left hi] at k2
      rw [List.append_assoc, List.getElem?_append_left (by omega)] at k1
      rw [List.getElem?_take_of_lt (by rw [List.length_take] at hi; omega)] at k1 k2
      exact ⟨i, x, k1, k2⟩
    · by_cases hj : i < (ss.take k ++ zs).length
      · rw [List.getElem?_append_left hj, List.getElem?_append_right (by omega)] at k2
        exact absurd rfl (hz _ (List.mem_of_getElem? k2) x)
      · rw [List.getElem?_append_right (by omega)] at k2
        rw [List.getElem?_append_right (by rw [List.length_append] at hj ⊢; omega)] at k1
        rw [List.getElem?_drop] at k1 k2
        have e : i - (vs.take k ++ ws).length = i - (ss.take k ++ zs).length := by rw [List.length_append, List.length_append]; omega
        rw [e] at k1
        exact ⟨_, x, k1, k2⟩
/-- with keywords, defaults ahead of them -/
theorem se_mkKM {fi C jn m : Nat} {t tk : TA} {es es' e1 e2 : Exs} {dvs : List V} {xs : List D} {gV : List V → List V → List V} (h1 : es = e1.app e2) (he : es' = e1.app ((csts xs).app e2)) (hj : e1.len = jn) (ha : SK P n E xb W jn m t tk es) (hd : Cs E dvs xs) (hg : ∀ us ws, us.length = jn + 1 → gV us ws = us ++ dvs ++ ws) (hn : es'.len + 1 = (P.fn fi).np) :
    SE P n E xb W (tMkK (E.cls C) jn m (spT P E n fi) gV (WE W) t tk) (.make C fi es') := by
  subst he h1
  intro L0 L w env st σ H h0 S R r h Q hQ
  show t σ H fun vs H1 => tk σ H1 fun zs H2 => vs.length = jn ∧ zs.length = m ∧ ∀ x dx, H2 x = none → H2 dx = none → dx ≠ x → spT P E n fi (gV (.ref x :: vs) zs) (upd (upd H2 dx (.own x)) x (.ins (E.cls C) dx [])) (fun v H2 => v = .non ∧ Q (.ref x) H2) (WE W σ)
  have h' : rb (evs (P.cl (P.call n) L) (e1.app ((csts xs).app e2)) env st) (fun as st => rb ((P.cl (P.call n) L).go fi (.d (.ref st.length) :: as) (st ++ [.ins C []])) fun u st' => match u with | .d .non => ok (.d (.ref st.length)) st' | _ => none) = some r := h
  rw [evs_mid] at h'
  cases e : evs (P.cl (P.call n) L) (e1.app e2) env st with
  | none => rw [e] at h'; cases h'
  | some o =>
    refine ha L0 L w env st σ H h0 S R o e (fun b H2 => b.1.length = jn ∧ b.2.length = m ∧ ∀ x dx, H2 x = none → H2 dx = none → dx ≠ x → spT P E n fi (gV (.ref x :: b.1) b.2) (upd (upd H2 dx (.own x)) x (.ins (E.cls C) dx [])) (fun v H2 => v = .non ∧ Q (.ref x) H2) (WE W σ)) ?_
    rw [e] at h'
    cases o with
    | ex x st1 =>
      cases (show some (Out.ex x st1) = some r from h')
      exact hQ
    | ok as st1 =>
      intro w1 H1 vs S1 f1 v1
      obtain ⟨v1, l1, l2⟩ := v1
      refine ⟨l1, l2, fun x dx hx hdx ne => ?_⟩
      have v2 := VRs.mid cs_nown (vrs_cs hd) (k := jn) v1
      rw [List.take_left' l1, List.drop_left' l1, ← hj] at v2
      have eg : gV (.ref x :: vs.1) vs.2 = .ref x :: (vs.1 ++ dvs ++ vs.2) := by rw [hg _ _ (by rw [List.length_cons, l1])]; rfl
      rw [eg]
      refine make_ok h0 S1 v2 f1.dom ?_ h' (hQ.from f1 fun _ _ _ _ _ z => z) hx hdx ne
      have hl := evs_len e
      rw [Exs.len_app] at hl
      rw [List.length_append, List.length_append, List.length_take, List.length_drop, List.length_map, hl, ← hn, Exs.len_app, Exs.len_app, csts_len]
      omega
end
section
variable {X : Cx} {g : Gm} {x : Str} {pa : Expr} {ps : List Expr} {kws : List Keyword} {es es0 e1 e2 : Exs} {t : TA} {tk : TA} {ks nps : List Str} {np pos : Pos} {C fi kk : Nat} {fa : Addr} {fd : FuncData}
theorem de_mkKM {j m : Nat} {dvs : List V} {xs : List D} {gU : List Value → List Value → List Value} {gV : List V → List V → List V} (tkp : Takes X g.W) (M : Mk X.K (g.E.cls C) fa) (F : FnOk X.prog X.w X.K X.mg X.base (L2.CX X.prog X.w) kk fa fd nps (spT g.P g.E g.n fi)) (hr : Room (kk + 1) X.A) (hg : Gl X x) (hm : X.mg x = some (.ref (g.E.cls C))) (hb : KBn X.K fd nps (j + 1) ks gU gV) (hc : Cs g.E dvs xs) (hgv : ∀ us ws, gV us ws = us ++ dvs ++ ws)
    (h : Dak X g (pa :: ps) kws es0 j m t tk) (h1 : es0 = e1.app e2) (hm2 : ks.length = m) (hj : e1.len = j) (he : es = e1.app ((csts xs).app e2)) (hn : es.len + 1 = (g.P.fn fi).np) (hall : (backToKw pos (keywordEach kws X.env)).all (·.1.isSome) = true := by rfl) (hks : (backToKw pos (keywordEach kws X.env)).filterMap (·.1) = ks := by rfl)
    (hdb : (x == ("__debug__" : Str)) = false := by decide) (hst : starEach (pa :: ps) X.env = (false, eval pa X.env) :: starEach ps X.env := by rfl)
    (hpl : ((backTo pos (starEach (pa :: ps) X.env)).any (·.1) || (backToKw pos (keywordEach kws X.env)).any (·.1.isNone)) = false := by rfl) :
    De X g (.Call (.Name x np) (pa :: ps) kws pos) (.make C fi es) (tMkK (g.E.cls C) j m (spT g.P g.E g.n fi) gV (WE g.W) t tk) := by
  subst hm2
  exact ⟨pe_mkK M F hr hg hm hb (fun σ => passAt tkp σ) h.p h.k hall hks hdb hst hpl, se_mkKM h1 he hj h.s hc (fun us ws _ => hgv us ws) hn⟩
end
end Tv

/-! list(d.keys()) -/
namespace Tv
open PySem L2 PySem.Spec PyProof.Rows PySem.W
def rKeysL : V → Hp → VK → Prop := fun x H Q => ∃ (d : Addr) (kvs : List (Key × V)), x = .ref d ∧ Rd H d (.dK kvs) ∧ ∀ p, H p = none → Q (.ref p) (upd H p (.lst (kvs.map fun q => kV q.1)))
def tListKeys (te : TE) : TE := fun σ H Q => te σ H fun x H1 => rKeysL x H1 Q
theorem keys_vals : ∀ {kvs : List (Key × V)} {vs : List (Key × Value)} {us : List Value}, KV kvs vs → us.length = vs.length → (∀ (j : Nat) (v : Value), us[j]? = some v → ∃ k x, vs[j]? = some (k, x) ∧ keyIs k v = true) → Vals (kvs.map fun q => kV q.1) us
  | _, _, [], .nil, _, _ => .nil
  | _, _, u :: us, .nil, h, _ => by cases h
  | _, _, [], .cons h t, hl, _ => by cases hl
  | q :: kvs, p :: vs, u :: us, .cons h t, hl, hu => by
    refine .cons ?_ (keys_vals t (Nat.succ.inj hl) fun j v e => hu (j + 1) v e)
    obtain ⟨k, x, e1, e2⟩ := hu 0 u rfl
    cases e1
    show L2.RelV (kV q.1) u
    rw [h.1]
    exact relV_key e2
section
variable {X : Cx} {e : Expr} {te : TE} {p apos cpos pos : Pos}
theorem pe_listKeys (hc : X.calm = true) (he : PE X e te) (hg : Gl X "list") (hm : X.mg "list" = none) (hv : bootBuiltins "list" = some (.type "list") := by rfl) (hbase : attributeBase e "keys" X.env (eval e X.env) = eval e X.env := by rfl) (hline : (apos.endLine == cpos.line) = true := by rfl)
    (hs : starEach [.Call (.Attribute e "keys" apos) [] [] cpos] X.env = (false, eval (.Call (.Attribute e "keys" apos) [] [] cpos) X.env) :: starEach [] X.env := by rfl) :
    PE X (.Call (.Name "list" p) [.Call (.Attribute e "keys" apos) [] [] cpos] [] pos) (tListKeys te) := by
  refine ⟨fun pins s σ H Q I hq => ?_⟩
  refine wpAny_Call_Name_kw (ld_blt I hg hm hv ?_)
  refine PyProof.Rows.callWith_type1 ?_ hs rfl
  rw [hs]
  show wpAny _ _ (spliced ((false, eval (.Call (.Attribute e "keys" apos) [] [] cpos) X.env) :: backTo pos (starEach [] X.env))) _ _ s
  refine Calls.spliced_cons ?_
  refine wpAny_Call_method (T := "dict") (id := "dict.keys") hbase rfl hline F.plainAttrs_dict F.slot_dict_keys F.type_dict_keys (thn (he.run pins s σ H _ I hq) fun u s1 ⟨x, H1, I1, rx, d, kvs, ex, hd, q⟩ => ?_)
  subst ex
  obtain rfl : u = Value.ref d := rx
  obtain ⟨hz, hs0, vs, kv, hdo⟩ := hd.ok I1.hok
  obtain ⟨ep, hat⟩ := hdo.dictAt
  have lk : kvs.length = vs.length := Paired.length kv
  have I2 : Inv X pins σ H1 { s1 with heap := s1.heap.push { cls := .type "dict_keys", data := .fields #[.ref d] } } := I1.kept (t' := s1.toks) fun b ob q => Heap.get?_push_of_some _ q
  refine ⟨hdo.typeIs, hdo.mapOf.noDict, ?_⟩
  show wpAny _ _ (callWith cpos (.builtin "dict.keys") [.ref d] [] []) _ X.xe s1
  refine method_meetsIn F.slot_dict_keys F.entry_dict_keys rfl (PySem.evalArgs_none ⟨rfl, hdo.typeIs, F.args_dict_keys_1 _, _, kdl_meets_keys (mixKind X.prog X.w) d hs0, ⟨vs, hdo⟩, ?_⟩)
  refine Calls.spliced_nil ?_
  refine kdl_call (kdl_keys (knd := mixKind X.prog X.w) (kvs := vs) (ep := ep)) (I1.ok.hd hc) ⟨⟨_, Heap.get?_push_size _ rfl, rfl, rfl⟩, hat.push _⟩ (by omega) fun h' tk acc c hk hS hacc => ?_
  have hf : H1 (s1.heap.push { cls := .type "dict_keys", data := .fields #[.ref d] }).objs.size = none := I2.hok.fresh (Nat.le_refl _)
  refine ⟨.ref (s1.heap.push { cls := .type "dict_keys", data := .fields #[.ref d] }).objs.size, _, I2.laid (t' := tk) (o := .lst (kvs.map fun q => kV q.1)) hk (Nat.le_refl _) ?_, rfl, q _ hf⟩
  refine ⟨by rw [List.length_map]; omega, acc.toList, c, keys_vals kv (by rw [Array.length_toList]; exact hacc.1) (fun j v e => hacc.2 j v (by rw [← Array.getElem?_toList]; exact e)), ?_⟩
  rw [Array.toArray_toList]
  exact hS
end
section
variable {P : Prog} {n : Nat} {E : En} {xb : XB} {W : WX} {td : TE} {a : Ex}
theorem se_keysL (ha : SE P n E xb W td a) : SE P n E xb W (tListKeys td) (.bm .keys a .nil) := by
  intro L0 L w env st σ H h0 S R r h Q hQ
  show td σ H fun x H1 => rKeysL x H1 Q
  refine sg_go ha h0 S R h hQ fun u st1 w1 H1 x S1 R1 f1 v1 h hQ1 => ?_
  have h' : (match cnOf u st1 with
    | some (.m kvs) => ok (SV.c .own (.l (kvs.map fun p => keyD p.1))) st1
    | _ => none) = some r := h
  split at h'
  · rename_i kvs e
    cases ok_inj h'
    obtain ⟨a, ps, rfl, d1, d2⟩ := v1.dic S1 e
    exact ⟨a, ps, rfl, d1, fun p hp => okr_lay hQ1 S1 hp ((vr_new S1 hp (rva_keys d2.1)).base f1.dom)⟩
  · cases h'
end
section
variable {X : Cx} {g : Gm} {pa : Expr} {a : Ex} {td : TE} {p apos cpos pos : Pos}
theorem de_listKeys (hc : X.calm = true) (hg : Gl X "list") (hm : X.mg "list" = none) (h : De X g pa a td) (hv : bootBuiltins "list" = some (.type "list") := by rfl) (hbase : attributeBase pa "keys" X.env (eval pa X.env) = eval pa X.env := by rfl) (hline : (apos.endLine == cpos.line) = true := by rfl)
    (hs : starEach [.Call (.Attribute pa "keys" apos) [] [] cpos] X.env = (false, eval (.Call (.Attribute pa "keys" apos) [] [] cpos) X.env) :: starEach [] X.env := by rfl) :
    De X g (.Call (.Name "list" p) [.Call (.Attribute pa "keys" apos) [] [] cpos] [] pos) (.bm .keys a .nil) (tListKeys td) := ⟨pe_listKeys hc h.p hg hm hv hbase hline hs, se_keysL h.s⟩
end
end Tv

/-! d.get(k, v) -/
namespace Tv
open PySem L2 PySem.Spec PyProof.Rows
section
variable {X : Cx} {g : Gm} {po pk pv : Expr} {a k v : Ex} {td ty tx : TE} {apos cpos : Pos} {kk : Nat}
theorem de_get (hr : Room kk X.A) (ho : De X g po a td) (hk : De X g pk k ty) (hv : De X g pv v tx)
    (hbase : attributeBase po "get" X.env (eval po X.env) = eval po X.env := by rfl)
    (hfew : ((backTo cpos (starEach [pk, pv] X.env)).all (fun x => !x.1) && (backToKw cpos (keywordEach [] X.env)).all (fun x => x.1.isSome)
      && decide (([pk, pv] : List Expr).length + ([] : List Keyword).length + (if ([] : List Keyword).isEmpty then 0 else 1) < 30)) = true := by rfl)
    (hline : (apos.endLine == cpos.line) = true := by rfl) (htr : backTo cpos (starEach [pk, pv] X.env) = [(false, eval pk X.env), (false, eval pv X.env)] := by rfl) :
    De X g (.Call (.Attribute po "get" apos) [pk, pv] [] cpos) (.bm .get a (.cons k (.cons v .nil))) (tDGet2 td ty tx) :=
  ⟨pe_dget2 (hu1 hr) ho.p hk.p hv.p ⟨hbase, hfew, hline, htr⟩, se_get ho.s hk.s hv.s⟩
end
end Tv

/-! xs.pop(i) -/
namespace Tv
open PySem L2 PySem.Spec PyProof.Rows
section
variable {P : Prog} {n : Nat} {E : En} {xb : XB} {W : WX} {to ti td : TE} {a e : Ex}
theorem popAt_l {xs : List D} {k : SV} {d : D} {x : Cn} (h : popAt (.l xs) k = some (d, x)) : ∃ i m, k = .d (.int i) ∧ -(2 ^ 63) ≤ i ∧ i < 2 ^ 63 ∧ seqIndex? i xs.length = some m ∧ xs[m]? = some d ∧ x = .l (xs.eraseIdx m) := by
  unfold popAt at h
  split at h
  · rename_i xs' i e
    cases e
    split at h
    · rename_i hb
      cases es : seqIndex? i xs.length with
      | none => rw [es] at h; cases h
      | some m =>
        rw [es] at h
        have h2 : (xs[m]?).map (fun d => (d, Cn.l (xs.eraseIdx m))) = some (d, x) := h
        cases ed : xs[m]? with
        | none => rw [ed] at h2; cases h2
        | some y =>
          rw [ed] at h2
          cases h2
          exact ⟨i, m, rfl, hb.1, hb.2, es, ed, rfl⟩
    · cases h
  · rename_i e; cases e
  · cases h
theorem ss_pop {p : Pl} (hp : PlS P n E xb W to p) (he : SE P n E xb W ti e) : SS P n E xb W (tDrop (tBM E.K "list" rPopAt to (tCons ti tNil))) (.pop p e) := by
  intro L0 L w env st σ H h0 S R r h D hD
  show to σ H fun x H1 => tyV E.K "list" x H1 ∧ ti σ H1 fun y H2 => rPopAt x [y] H2 fun _ H3 => D.nx σ H3
  refine sb_go (pl_k (k := Cn.isL) hp) h0 S R h hD fun l st1 w1 H1 x S1 R1 f1 lr h2 hD1 => ?_
  clear h
  obtain ⟨lr, xc, ec, hk⟩ := lr
  have live := lc_live S1 lr
  refine ⟨?_, ?_⟩
  · obtain ⟨p, rfl, c⟩ := lc_con S1 R1 lr ec
    cases xc <;> try (cases hk; done)
    obtain ⟨u, r, z⟩ := c
    cases u <;> try exact z.elim
    exact .inl ⟨rfl, _, SqL.of r.lst⟩
  · refine sb_golk he h0 S1 R1 live h2 hD1 fun ku st2 w2 H2 y S2 R2 f2 v2 h3 hD2 => ?_
    have lr2 := lr.fr f2 S2 (List.mem_append.mpr (.inl (List.mem_singleton.mpr rfl)))
    split at h3
    · rename_i xs eg
      split at h3
      · rename_i d xn ep
        cases h3
        obtain ⟨i, m, rfl, b1, b2, es, ed, rfl⟩ := popAt_l ep
        obtain ⟨q, u, rfl, hu, hr, go⟩ := mut_ok h0 S2 R2 lr2 eg
        cases u <;> try exact hr.elim
        rename_i vs
        have hlen : vs.length = xs.length := RvA.length hr
        obtain ⟨yv, y1, y2⟩ := RvA.get hr ed
        obtain ⟨a1, a2, a3⟩ := go (.lst (vs.eraseIdx m)) (.l (xs.eraseIdx m)) (RvA.erase m (RvA.mono (List.prefix_refl _) (tm_upd hu fun xs z => by cases z) hr))
        rw [v2.int]
        exact ⟨q, vs, i, m, yv, rfl, rfl, hu, b1, b2, by rw [hlen]; exact es, y1, hD2 _ _ _ a1 a2 a3⟩
      · cases h3
    · cases h3
end
end Tv

/-! xs.pop(i), read -/
namespace Tv
open PySem L2 PySem.Spec PyProof.Rows
section
variable {P : Prog} {n : Nat} {E : En} {xb : XB} {W : WX} {to ti td : TE} {a e k : Ex}
theorem se_popc (ha : SE P n E xb W to a) (hk : SE P n E xb W ti k) : SE P n E xb W (tBM E.K "list" rPopAt to (tCons ti tNil)) (.popc a k) := by
  intro L0 L w env st σ H h0 S R r h Q hQ
  show to σ H fun x H1 => tyV E.K "list" x H1 ∧ ti σ H1 fun y H2 => rPopAt x [y] H2 Q
  refine sg_go ha h0 S R h hQ fun u st1 w1 H1 x S1 R1 f1 v1 h2 hQ1 => ?_
  clear h hQ
  cases u with
  | c _ _ => cases h2
  | x _ => cases h2
  | d d1 =>
    cases d1 <;> try (cases h2; done)
    rename_i i
    obtain ⟨p, rfl, e1⟩ := v1.dd.ref_of
    have h3 : (match st1[i]? with
      | some (.con (.l _)) => rb (ev ((P.cl (P.call n) L).lk [.c i]) k env st1) fun w st => match st[i]? with
        | some (.con (.l xs)) => if (P.cl (P.call n) L).locks.contains (.c i) then none else match popAt (.l xs) w with
          | some (d, x) => ok (SV.d d) (st.set i (.con x))
          | none => none
        | _ => none
      | _ => none) = some r := h2
    clear h2
    split at h3
    · rename_i xs0 e2
      have hlt : i < st1.length := (List.getElem?_eq_some_iff.mp e2).1
      obtain ⟨b, q1, q2⟩ := S1.cell _ _ e2
      rw [e1] at q1
      cases q1
      refine ⟨?_, ?_⟩
      · obtain ⟨u, r, z⟩ := q2
        cases u <;> try exact z.elim
        exact .inl ⟨rfl, _, SqL.of r.lst⟩
      · refine sg_golk hk h0 S1 R1 (l := [.c i]) (fun o ho st' _ => ?_) h3 hQ1 fun ku st2 w2 H2 y S2 R2 f2 v2 h4 hQ2 => ?_
        · rw [List.mem_singleton.mp ho]; exact hlt
        · split at h4
          · rename_i xs e3
            split at h4
            · cases h4
            · rename_i hc
              have hn : Ow.c i ∉ L := fun z => hc (by simpa using (show Ow.c i ∈ (P.cl (P.call n) L).locks from z))
              split at h4
              · rename_i d xn ep
                cases h4
                obtain ⟨j, m, rfl, b1, b2, es, ed, rfl⟩ := popAt_l ep
                have e4 : w2.ad[i]? = some p := pre_get f2.ad e1
                obtain ⟨b, q1, q2⟩ := S2.cell _ _ e3
                rw [e4] at q1
                cases q1
                obtain ⟨u, hu, hr⟩ := CoR.ex q2 (S2.ex (.c i) _ (List.getElem?_eq_some_iff.mp e3).1 hn e4)
                cases u <;> try exact hr.elim
                rename_i vs
                have hlen : vs.length = xs.length := RvA.length hr
                obtain ⟨yv, y1, y2⟩ := RvA.get hr ed
                have tm : Tm E.K H2 (upd H2 p (.lst (vs.eraseIdx m))) := tm_upd hu fun xs z => by cases z
                obtain ⟨a1, a2, a3⟩ := cell_mut h0 S2 R2 e3 e4 hn hu hr (u' := .lst (vs.eraseIdx m)) (x' := .l (xs.eraseIdx m)) (RvA.erase m (RvA.mono (List.prefix_refl _) tm hr))
                rw [v2.int]
                exact ⟨p, vs, j, m, yv, rfl, rfl, hu, b1, b2, by rw [hlen]; exact es, y1, hQ2 _ _ _ a1 a3 (.d (y2.mono (List.prefix_refl _) tm))⟩
              · cases h4
          · cases h4
    · cases h3
end
section
variable {X : Cx} {g : Gm} {po pi : Expr} {a k : Ex} {to ti : TE} {apos cpos pos : Pos} {p : Pl}
theorem de_popc (hK : X.K = g.E.K) (hp : De X g po a to) (hi : De X g pi k ti) (hbase : attributeBase po "pop" X.env (eval po X.env) = eval po X.env := by rfl)
    (hfew : ((backTo cpos (starEach (pi :: []) X.env)).all (fun x => !x.1) && (backToKw cpos (keywordEach [] X.env)).all (fun x => x.1.isSome)
      && decide ((pi :: []).length + ([] : List Keyword).length + (if ([] : List Keyword).isEmpty then 0 else 1) < 30)) = true := by rfl)
    (hline : (apos.endLine == cpos.line) = true := by rfl) (hs : starEach (pi :: []) X.env = (false, eval pi X.env) :: starEach [] X.env := by rfl) (hplain : (backTo cpos (starEach [] X.env)).any (·.1) = false := by rfl) :
    De X g (.Call (.Attribute po "pop" apos) [pi] [] cpos) (.popc a k) (tBM g.E.K "list" rPopAt to (tCons ti tNil)) :=
  ⟨hK ▸ pe_bm PySem.F.plainAttrs_list PySem.F.slot_list_pop PySem.F.type_list_pop mt_popAt hp.p (pa_cons hi.p pa_nil hs) hbase hfew hline hs hplain, se_popc hp.s hi.s⟩
theorem ds_pop (hK : X.K = g.E.K) (hp : Dpl X g po p to) (hi : De X g pi k ti) (hbase : attributeBase po "pop" X.env (eval po X.env) = eval po X.env := by rfl)
    (hfew : ((backTo cpos (starEach (pi :: []) X.env)).all (fun x => !x.1) && (backToKw cpos (keywordEach [] X.env)).all (fun x => x.1.isSome)
      && decide ((pi :: []).length + ([] : List Keyword).length + (if ([] : List Keyword).isEmpty then 0 else 1) < 30)) = true := by rfl)
    (hline : (apos.endLine == cpos.line) = true := by rfl) (hs : starEach (pi :: []) X.env = (false, eval pi X.env) :: starEach [] X.env := by rfl) (hplain : (backTo cpos (starEach [] X.env)).any (·.1) = false := by rfl) (hs2 : swapsWith (.Call (.Attribute po "pop" apos) [pi] [] cpos) none pos.line X.env = pure false := by rfl) :
    Ds X g (.Expr (.Call (.Attribute po "pop" apos) [pi] [] cpos) pos) (.pop p k) (tDrop (tBM g.E.K "list" rPopAt to (tCons ti tNil))) :=
  ⟨hK ▸ ps_expr (pe_bm PySem.F.plainAttrs_list PySem.F.slot_list_pop PySem.F.type_list_pop mt_popAt hp.p (pa_cons hi.p pa_nil hs) hbase hfew hline hs hplain) hs2, ss_pop hp.s hi.s⟩
end
end Tv

/-! try .. except X: .. except Y: .. -/
namespace Tv
open PySem L2 PySem.Spec PyProof.Rows
/-- what is known of the classes of errors -/
def Exk (P : Prog) (E : En) : Prop := ∀ a ∈ P.xs, ∀ b ∈ P.xs, ExK E.K (E.exc b) ∧ PySem.W.subIn E.K (.ref (E.exc a)) (.ref (E.exc b)) = some (a == b || P.sub.contains (a, b))
theorem ExK.exm {K : PySem.W.Frag} {C : Addr} {cls : Value} {b : Bool} (h : ExK K C) (h4 : PySem.W.subIn K cls (.ref C) = some b) : PySem.W.exmOne K cls (.ref C) = some b := PySem.W.exm_ref h.e.hs h.e.hd h.t h4
abbrev Clause := Value × (Addr → Value → Option Addr → TS)
section
variable {E : En} {xb : XB} {w w1 : Wd} {L0 L : List Ow} {st st1 : Sto} {H H1 : Hp} {env env1 : Env} {σ σ1 : L2.St} {P : Prog} {n : Nat} {W : WX}
theorem xs_mem {C : Nat} {x : Xc} (h : ((P.cl (P.call n) L).xs.contains x.c && (P.cl (P.call n) L).xs.contains C) = true) : x.c ∈ P.xs ∧ C ∈ P.xs := by
  rw [Bool.and_eq_true] at h
  exact ⟨by simpa using (show P.xs.contains x.c = true from h.1), by simpa using (show P.xs.contains C = true from h.2)⟩
/-- clauses and what they are read as -/
inductive HdS (P : Prog) (n : Nat) (E : En) (xb : XB) : Hds → List Clause → Prop
  | nil : HdS P n E xb .nil []
  | cons {C : Nat} {b : Stts} {hs : Hds} {ts : Addr → Value → Option Addr → TS} {l : List Clause} (hb : ∀ a cls d, SSs P n E xb WF (ts a cls d) b) (r : HdS P n E xb hs l) : HdS P n E xb (.cons C b hs) ((.ref (E.exc C), ts) :: l)
theorem okS_wf {a : Fs} {D : Ends} {r : SO} (h : OkS E xb W L0 L a D r) (hx : ∀ x env st, r ≠ .ex x env st) : OkS E xb WF L0 L a D r := by
  cases r with
  | ex x env st => exact absurd rfl (hx _ _ _)
  | nx _ _ => exact h
  | bk _ _ => exact h
  | ct _ _ => exact h
  | rt _ _ => exact h
theorem hd_go (hx : Exk P E) (h0 : ∀ o ∈ L0, o ∈ L) {D : Ends} {x : Xc} {cls : Value} {d : Option Addr} (S1 : SR E w1 L st1 H1) (R1 : ER E xb L0 w1 L st1 H1 env1 σ1) (X1 : XR E w1.ad H1 cls d x) : ∀ {hs : Hds} {l : List Clause} {r : SO}, HdS P n E xb hs l →
    handle (P.cl (P.call n) L) hs x env1 st1 = some r → OkS E xb W L0 L ⟨w1, env1, st1, σ1, H1⟩ D r → wMany E.K W D l cls d σ1 H1 := by
  intro hs l r hh
  induction hh generalizing r with
  | nil =>
    intro h hD
    cases (show some (SO.ex x env1 st1) = some r from h)
    exact hD w1 σ1 H1 cls d S1 R1 (Stp.rfl' _) X1
  | @cons C b hs ts l hb _ ih =>
    intro h hD
    have h' : (if (P.cl (P.call n) L).xs.contains x.c && (P.cl (P.call n) L).xs.contains C then
      (if (P.cl (P.call n) L).sub x.c C then match execs (P.cl (P.call n) L) b env1 st1 with
        | some (.ex _ _ _) => none
        | r => r
      else handle (P.cl (P.call n) L) hs x env1 st1) else none) = some r := h
    split at h'
    · rename_i hc
      obtain ⟨m1, m2⟩ := xs_mem hc
      obtain ⟨k1, k2⟩ := hx _ m1 _ m2
      have hs : (P.cl (P.call n) L).sub x.c C = (x.c == C || P.sub.contains (x.c, C)) := rfl
      refine ⟨(P.cl (P.call n) L).sub x.c C, by rw [X1.1, hs]; exact k1.exm k2, fun hb1 a ha => ?_, fun hb1 => ?_⟩
      · rw [if_pos hb1] at h'
        split at h'
        · cases h'
        · rename_i hne
          refine hb a cls d L0 L w1 env1 st1 σ1 H1 h0 S1 R1 r h' D (okS_wf hD fun y e s z => ?_)
          subst z
          exact hne y e s h'
      · rw [if_neg (by rw [hb1]; exact Bool.false_ne_true)] at h'
        exact ih h' hD
    · cases h'
theorem ss_try {b : Stts} {hs : Hds} {l : List Clause} {tb : WX → TS} (hx : Exk P E) (hb : ∀ W, SSs P n E xb W (tb W) b) (hh : HdS P n E xb hs l) : SS P n E xb W (fun D σ H => tb (wMany E.K W D l) D σ H) (.try_ b hs) := by
  intro L0 L w env st σ H h0 S R r h D hD
  show tb (wMany E.K W D l) D σ H
  have h' : (match execs (P.cl (P.call n) L) b env st with
    | some (.ex x env st) => handle (P.cl (P.call n) L) hs x env st
    | r => r) = some r := h
  cases e : execs (P.cl (P.call n) L) b env st with
  | none => rw [e] at h'; cases h'
  | some o =>
    rw [e] at h'
    refine hb _ L0 L w env st σ H h0 S R o e D ?_
    cases o with
    | nx _ _ => cases h'; exact hD
    | bk _ _ => cases h'; exact hD
    | ct _ _ => cases h'; exact hD
    | rt _ _ => cases h'; exact hD
    | ex x env1 st1 => exact fun w1 σ1 H1 cls d S1 R1 g1 x1 => hd_go hx h0 S1 R1 x1 hh h' (hD.from g1)
end
/-! ### the code -/
inductive Dhs (X : Cx) (g : Gm) : List ExceptHandler → Hds → List Clause → Prop
  | nil : Dhs X g [] .nil []
  | cons {x : Str} {C : Nat} {b₀ : Stmt} {suite : List Stmt} {b : Stts} {np pos' : Pos} {hds : List ExceptHandler} {hs : Hds} {ts : Addr → Value → Option Addr → TS} {l : List Clause} (hc : Names X x (.ref (g.E.exc C)))
      (hb : ∀ (a : Addr) (oe : Obj) (cls : Value) (d : Option Addr) (pn : List (Addr × Obj)), Zc cls d oe → (∃ vs, oe.data = .fields vs) → Dss (X.suite a ((a, oe) :: pn)) g.inC (b₀ :: suite) b (ts a cls d))
      (r : Dhs X g hds hs l) :
      Dhs X g (.ExceptHandler (some (.Name x np)) none (b₀ :: suite) pos' :: hds) (.cons C b hs) ((.ref (g.E.exc C), ts) :: l)
theorem Dhs.p {X : Cx} {g : Gm} {hds : List ExceptHandler} {hs : Hds} {l : List Clause} (h : Dhs X g hds hs l) : HdsOk X hds l := by
  induction h with
  | nil => exact .nil
  | cons hc hb r ih => exact .cons hc (fun a oe cls d pn z f => (hb a oe cls d pn z f).p) ih
theorem Dhs.s {X : Cx} {g : Gm} {hds : List ExceptHandler} {hs : Hds} {l : List Clause} (h : Dhs X g hds hs l) : HdS g.P g.n g.E g.xb hs l := by
  induction h with
  | nil => exact .nil
  | cons hc hb r ih => exact .cons (fun a cls d => (hb a { cls := cls, dict := d, data := .fields #[] } cls d [] ⟨rfl, rfl⟩ ⟨_, rfl⟩).s) ih
section
variable {X : Cx} {g : Gm} {body : List Stmt} {h₀ : ExceptHandler} {hds : List ExceptHandler} {b : Stts} {hs : Hds} {l : List Clause} {pos : Pos} {tb : WX → TS}
theorem ds_try (hx : Exk g.P g.E) (hK : X.K = g.E.K) (hst : X.stack = X.env :: X.outer) (hf : X.env.frame = some X.env.locals) (tk : Takes X g.W)
    (hb : ∀ (W : WX) (pn : List (Addr × Obj)) (xe : Value → Shared → Prop), Takes (X.tr pn xe) W → Dss (X.tr pn xe) { g with W := W } body b (tb W))
    (hh : Dhs X g (h₀ :: hds) hs l) : Ds X g (.Try body (h₀ :: hds) [] [] pos) (.try_ b hs) (fun D σ H => tb (wMany g.E.K g.W D l) D σ H) :=
  ⟨hK ▸ ps_try_many hst hf tk (fun W pn xe t _ => (hb W pn xe t).p) hh.p, ss_try hx (fun W => (hb W [] (fun _ _ => True) (fun _ _ _ => trivial)).s) hh.s⟩
end
end Tv

/-! try .. except X as e: .. except Y as e: .., all of one name; no other error comes -/
namespace Tv
open PySem L2 PySem.Spec PyProof.Rows
def sufD (i : Nat) (D : Ends) : Ends := { nx := fun σ H => D.nx (σ.set i none) H, rt := D.rt, bk := fun σ H => D.bk (σ.set i none) H, ct := fun σ H => D.ct (σ.set i none) H }
def wEach (K : PySem.W.Frag) (i : Nat) (D : Ends) : List Clause → WX
  | [], _, _, _, _ => False
  | (c, ts) :: r, cls, d, σ, H => ∃ b, PySem.W.exmOne K cls c = some b ∧ (b = true → ∀ a, H a = none → ts a cls d (sufD i D) (σ.set i (some (.ref a))) H) ∧ (b = false → wEach K i D r cls d σ H)
inductive Clauses (X : Cx) (n : Str) : List ExceptHandler → List Clause → Prop
  | nil : Clauses X n [] []
  | cons {x : Str} {c : Value} {ts : Addr → Value → Option Addr → TS} {b : Stmt} {bs : List Stmt} {p q : Pos} {hs : List ExceptHandler} {l : List Clause} (hc : Names X x c)
      (su : ∀ (a : Addr) (oe : Obj) (cls : Value) (d : Option Addr) (pn : List (Addr × Obj)), Zc cls d oe → (∃ vs, oe.data = .fields vs) → PSs (X.suite a ((a, oe) :: pn)) (b :: bs) (ts a cls d)) (r : Clauses X n hs l) :
      Clauses X n (.ExceptHandler (some (.Name x p)) (some n) (b :: bs) q :: hs) ((c, ts) :: l)
section
variable {X : Cx} {n : Str} {i : Nat}
/-- the clauses, one after the other, with the error in hand -/
theorem clauses_run {hds : List ExceptHandler} {l : List Clause} {pins : List (Addr × Obj)} {D : Ends} {a : Addr} {B : Heap} {cls : Value} {d : Option Addr} {σ : L2.St} {H : Hp} {sI s' : Shared} {h3 : Heap}
    (hf : X.env.frame = some X.env.locals) (hN : X.N.Nodup) (hi : X.N[i]? = some n) (hln : X.env.kindOf n = some .local) (ok : X.Ok)
    (J : Inv X pins σ H sI) (fl : HandSPX.FlyingZ B (X.env :: X.outer) a (Zc cls d) h3) (up : sI.heap.UpToSlots h3)
    (land : ∀ h4, HandSPX.FlyingZ B (X.env :: X.outer) a (Zc cls d) h4 → sI.heap.UpToSlots h4 → Inv X pins σ H { s' with heap := h4 })
    (na : H a = none) (nL : a ≠ X.env.locals) (nF : a ∉ X.fs) (C : Clauses X n hds l) (w : wEach X.K i D l cls d σ H) :
    wpAny (model X.prog X.w) X.A (handleBy (.ref a) X.env hds) (SP X pins D) X.xe { s' with heap := h3 } := by
  induction C with
  | nil => exact w.elim
  | @cons x c ts b₀ bs p q hs l hc su r ih =>
    obtain ⟨b, e1, yes, no⟩ := w
    have J3 := land h3 fl up
    obtain ⟨oe, vs, he, hz, hd⟩ := fl.there
    have S3 := J3.suite he hd na nL nF
    have asked : PySem.W.Looks (model X.prog X.w) h3 (typeOf (.ref a)) cls := fun A Q E s k q => wpAny_typeOf_ref (k _ _ he) (by rw [hz.1]; exact q)
    have same := PySem.W.exm_one (M := model X.prog X.w) J3.kIn asked e1
    refine wpAny_handleBy_cons (codeAny_handlers_test ?_) (by intro z; cases z)
    have name : ∀ {Q E : Value → Shared → Prop}, Q c { s' with heap := h3 } → wpAny (model X.prog X.w) (X.A.mark (some (.ref a))) (eval (.Name x p) X.env) Q E { s' with heap := h3 } := fun {Q E} z => by
      obtain ⟨g1, g2, g3 | ⟨g3, g4, g5⟩⟩ := hc
      · exact ld_glob (X := X.suite a ((a, oe) :: (X.pn ++ pins))) S3 g1 g3 z g2
      · exact ld_blt (X := X.suite a ((a, oe) :: (X.pn ++ pins))) S3 g1 g3 g4 z g5 g2
    refine name (same.here ?_)
    cases b with
    | false => exact ih (no rfl)
    | true =>
      refine codeAny_handlers_suite_as (HandSPX.lands_againZ fl fun h4 fl4 up4 => ?_)
      have J4 := land h4 fl4 (up.trans up4)
      obtain ⟨oe4, vs4, he4, hz4, hd4⟩ := fl4.there
      refine store_ok (X := X.suite a ((a, oe4) :: (X.pn ++ pins))) (v := .ref a) (J4.suite he4 hd4 na nL nF) hN hi (.inl hln) rfl (fun s5 S5 => ?_) (.inr hln)
      refine wpAny_mono ((su a oe4 cls d (X.pn ++ pins) hz4 ⟨_, hd4⟩).run [] s5 _ H _ S5 (yes rfl a na)) (fun f s6 hsp => ?_) (fun _ _ z => False.elim z)
      cases f with
      | next => obtain ⟨σ6, H6, S6, q6⟩ := hsp; exact gone_ok (S6.unsuite ok) hN hi hln fun s7 J7 => ⟨_, _, J7, q6⟩
      | brk => obtain ⟨σ6, H6, S6, q6⟩ := hsp; exact gone_ok (S6.unsuite ok) hN hi hln fun s7 J7 => ⟨_, _, J7, q6⟩
      | cont => obtain ⟨σ6, H6, S6, q6⟩ := hsp; exact gone_ok (S6.unsuite ok) hN hi hln fun s7 J7 => ⟨_, _, J7, q6⟩
      | ret u => obtain ⟨v6, σ6, H6, S6, r6, q6⟩ := hsp; exact gone_ok (S6.unsuite ok) hN hi hln fun s7 J7 => ⟨_, _, _, J7, r6, q6⟩
def tTryE (K : PySem.W.Frag) (i : Nat) (l : List Clause) (tb : WX → TS) : TS := fun D σ H => tb (wEach K i D l) D σ H
theorem ps_tryE {body : List Stmt} {h₀ : ExceptHandler} {hds : List ExceptHandler} {l : List Clause} {pos : Pos} {tb : WX → TS} (K : PySem.W.Frag) (e : X.K = K) (hs : X.stack = X.env :: X.outer) (hf : X.env.frame = some X.env.locals) (hN : X.N.Nodup) (hi : X.N[i]? = some n) (hln : X.env.kindOf n = some .local)
    (hb : ∀ (W : WX) (pn : List (Addr × Obj)) (xe : Value → Shared → Prop), Takes (X.tr pn xe) W → PassesOwn (model X.prog X.w) X.A X.env xe → PSs (X.tr pn xe) body (tb W))
    (C : Clauses X n (h₀ :: hds) l) : PS X (.Try body (h₀ :: hds) [] [] pos) (tTryE K i l tb) := by
  subst e
  refine ⟨fun pins s σ H D I h => ?_⟩
  have ok := I.ok
  have hfr : X.A.frames = some (X.env :: X.outer) := by rw [ok.frames, hs]
  have done : ∀ {f : Flow} {s1 : Shared}, SP (X.tr (X.pn ++ pins) (fun e s₁ => wpAny (model X.prog X.w) X.A (noteFrame e X.env) (fun _ s₂ => wpAny (model X.prog X.w) X.A (setFlight e none) (fun _ s₃ =>
    wpAny (model X.prog X.w) X.A (handleBy e X.env (h₀ :: hds)) (SP X pins D) X.xe s₃) X.xe s₂) X.xe s₁)) [] D f s1 → SP X pins D f s1 := fun {f s1} hsp => by
    cases f with
    | next => obtain ⟨σ', H', J', q⟩ := hsp; exact ⟨σ', H', J'.ofTry ok, q⟩
    | brk => obtain ⟨σ', H', J', q⟩ := hsp; exact ⟨σ', H', J'.ofTry ok, q⟩
    | cont => obtain ⟨σ', H', J', q⟩ := hsp; exact ⟨σ', H', J'.ofTry ok, q⟩
    | ret u => obtain ⟨v, σ', H', J', r, q⟩ := hsp; exact ⟨v, σ', H', J'.ofTry ok, r, q⟩
  refine wpAny_Try_except ?_
  refine wpAny_mono ((hb (wEach X.K i D l) (X.pn ++ pins) _ (fun u s' xx => ?_) PassesOwn.looking).run [] s σ H D (I.toTry _) h) (fun f s1 hsp => ?_) (fun e s1 he => he)
  · obtain ⟨a, B, sI, pins', σ', H', cls, d, rfl, J', nb, up, sky, na, os, ag, w⟩ := xx
    have J : Inv X pins σ' H' sI := J'.ofTry ok
    rw [show (X.tr (X.pn ++ pins) _).stack = X.env :: X.outer from hs] at sky
    show wpAny (model X.prog X.w) X.A (noteFrame (.ref a) X.env) _ _ _
    refine Sky.land Zc.steady hfr hf sky fun h3 fl up3 => ?_
    obtain ⟨oe, vs, he, hz, hd⟩ := fl.there
    have out : a ∉ frs (X.env :: X.outer) := fun m => by
      obtain ⟨_, o', e', k⟩ := fl.2.2.1.mem m
      rw [he] at e'
      cases e'
      exact k _ hd
    refine clauses_run hf hN hi hln ok J fl (up.trans up3) (fun h4 fl4 up4 => J.landed nb fl4.1 up4 os ag) na (fun z => out ?_) (fun m => out ?_) C w
    · exact List.mem_filterMap.mpr ⟨X.env, List.mem_cons_self, by rw [hf, z]⟩
    · obtain ⟨e, m1, m2⟩ := List.mem_filterMap.mp m
      exact List.mem_filterMap.mpr ⟨e, List.mem_cons_of_mem _ m1, m2⟩
  · cases f with
    | next => exact wpAny_execs_nil (done hsp)
    | brk => exact done hsp
    | cont => exact done hsp
    | ret u => exact done hsp
end
section
variable {E : En} {xb : XB} {w w1 : Wd} {L0 L : List Ow} {st st1 : Sto} {H H1 : Hp} {env env1 : Env} {σ σ1 : L2.St} {P : Prog} {n i : Nat} {W : WX}
/-- slot i holds the error -/
def xbN (xb : XB) (i : Nat) (a : Addr) (cls : Value) (d : Option Addr) : XB := fun j => if j = i then some (a, cls, d) else xb j
theorem SlR.chg {xb' : XB} {j : Nat} {v : V} {s : SV} (h : SlR E xb L0 w L st H env σ j v s) (e : xb' j = xb j) : SlR E xb' L0 w L st H env σ j v s := by
  cases h with
  | d h => exact .d h
  | own h1 h2 h3 => exact .own h1 h2 h3
  | par h1 h2 h3 => exact .par h1 h2 h3
  | scr h1 h2 => exact .scr h1 h2
  | x h1 h2 => exact .x (e.trans h1) h2
theorem ER.bindX {a : Addr} {cls : Value} {d : Option Addr} {x : Xc} (R : ER E xb L0 w L st H env σ) (X1 : XR E w.ad H cls d x) : ER E (xbN xb i a cls d) L0 w L st H (env.set i (some (.x x))) (σ.set i (some (.ref a))) := by
  have hsod : ∀ q, Sod (env.set i (some (.x x))) (σ.set i (some (.ref a))) q → Sod env σ q := fun q z => by
    rcases sod_set z with z | ⟨_, _, e⟩
    · exact z
    · cases e
  refine ⟨by rw [List.length_set, List.length_set]; exact R.len, fun j s e => ?_, fun j k x' y q e1 e2 e3 e4 => ?_, fun q z k => R.zs q z (hsod q k)⟩
  · rcases get_set e with ⟨rfl, e2, hl⟩ | ⟨e1, e2⟩
    · cases e2
      exact ⟨_, set_eq (by rw [← R.len]; exact hl), .x (by unfold xbN; rw [if_pos rfl]) X1⟩
    · obtain ⟨u, q1, q2⟩ := R.ok j s e2
      exact ⟨u, by rw [set_ne e1]; exact q1, (q2.re fun q _ k _ z => k (hsod q z)).chg (by unfold xbN; rw [if_neg e1])⟩
  · rcases get_set e1 with ⟨_, e5, _⟩ | ⟨n1, f1⟩
    · cases e5
    · rcases get_set e2 with ⟨_, e6, _⟩ | ⟨n2, f2⟩
      · cases e6
      · rw [set_ne n1] at e3
        rw [set_ne n2] at e4
        exact R.inj j k x' y q f1 f2 e3 e4
theorem ER.unbind {a : Addr} {cls : Value} {d : Option Addr} (R : ER E (xbN xb i a cls d) L0 w L st H env σ) : ER E xb L0 w L st H (env.set i none) (σ.set i none) := by
  have hsod : ∀ q, Sod (env.set i none) (σ.set i none) q → Sod env σ q := fun q z => by
    obtain ⟨j, x, h1, h2⟩ := z
    rcases get_set h1 with ⟨_, e2, _⟩ | ⟨ne, h1⟩
    · cases e2
    · rw [set_ne ne] at h2
      exact ⟨j, x, h1, h2⟩
  refine ⟨by rw [List.length_set, List.length_set]; exact R.len, fun j s e => ?_, fun j k x' y q e1 e2 e3 e4 => ?_, fun q z k => R.zs q z (hsod q k)⟩
  · rcases get_set e with ⟨_, e2, _⟩ | ⟨e1, e2⟩
    · cases e2
    · obtain ⟨u, q1, q2⟩ := R.ok j s e2
      exact ⟨u, by rw [set_ne e1]; exact q1, (q2.re fun q _ k _ z => k (hsod q z)).chg (by unfold xbN; rw [if_neg e1])⟩
  · rcases get_set e1 with ⟨_, e5, _⟩ | ⟨n1, f1⟩
    · cases e5
    · rcases get_set e2 with ⟨_, e6, _⟩ | ⟨n2, f2⟩
      · cases e6
      · rw [set_ne n1] at e3
        rw [set_ne n2] at e4
        exact R.inj j k x' y q f1 f2 e3 e4
/-- the error's name is bound -/
theorem stp_bind {a : Addr} {x : Xc} (hi : .s i ∉ L) : Stp E L ⟨w, env, st, σ, H⟩ ⟨w, env.set i (some (.x x)), st, σ.set i (some (.ref a)), H⟩ :=
  ⟨(Stp.rfl' _).toFrS, fun q z => by
    rcases sod_set z with z | ⟨_, _, e⟩
    · exact .inl z
    · (cases e), fun j hj => by
    have ne : j ≠ i := fun z => hi (z ▸ hj)
    exact ⟨set_ne ne, set_ne ne, fun _ _ _ _ => rfl⟩⟩
theorem stp_unbind (hi : .s i ∉ L) : Stp E L ⟨w, env, st, σ, H⟩ ⟨w, env.set i none, st, σ.set i none, H⟩ :=
  ⟨(Stp.rfl' _).toFrS, fun q z => by
    obtain ⟨j, x, h1, h2⟩ := z
    rcases get_set h1 with ⟨_, e2, _⟩ | ⟨ne, h1⟩
    · cases e2
    · have h2' : (σ.set i none)[j]? = some (some (.ref q)) := h2
      rw [set_ne ne] at h2'
      exact .inl ⟨j, x, h1, h2'⟩, fun j hj => by
    have ne : j ≠ i := fun z => hi (z ▸ hj)
    exact ⟨set_ne ne, set_ne ne, fun _ _ _ _ => rfl⟩⟩
inductive HdN (P : Prog) (n : Nat) (E : En) (xb : XB) (i : Nat) : Hds → List Clause → Prop
  | nil : HdN P n E xb i .nil []
  | cons {C : Nat} {b : Stts} {hs : Hds} {ts : Addr → Value → Option Addr → TS} {l : List Clause} (hb : ∀ a cls d, SSs P n E (xbN xb i a cls d) WF (ts a cls d) b) (r : HdN P n E xb i hs l) : HdN P n E xb i (.cons C b hs) ((.ref (E.exc C), ts) :: l)
theorem hn_go (hx : Exk P E) (h0 : ∀ o ∈ L0, o ∈ L) (hi : .s i ∉ L) {D : Ends} {x : Xc} {cls : Value} {d : Option Addr} (S1 : SR E w1 L st1 H1) (R1 : ER E xb L0 w1 L st1 H1 env1 σ1) (X1 : XR E w1.ad H1 cls d x) : ∀ {hs : Hds} {l : List Clause} {r : SO}, HdN P n E xb i hs l →
    handleN (P.cl (P.call n) L) i hs x env1 st1 = some r → OkS E xb W L0 L ⟨w1, env1, st1, σ1, H1⟩ D r → wEach E.K i D l cls d σ1 H1 := by
  intro hs l r hh
  induction hh generalizing r with
  | nil =>
    intro h hD
    cases (show (none : Option SO) = some r from h)
  | @cons C b hs ts l hb _ ih =>
    intro h hD
    have h' : (if (P.cl (P.call n) L).xs.contains x.c && (P.cl (P.call n) L).xs.contains C then
      (if (P.cl (P.call n) L).sub x.c C then match execs (P.cl (P.call n) L) b (env1.set i (some (.x x))) st1 with
        | some (.nx env st) => some (SO.nx (env.set i none) st)
        | some (.bk env st) => some (.bk (env.set i none) st)
        | some (.ct env st) => some (.ct (env.set i none) st)
        | some (.rt v st) => some (.rt v st)
        | _ => none
      else handleN (P.cl (P.call n) L) i hs x env1 st1) else none) = some r := h
    split at h'
    · rename_i hc
      obtain ⟨m1, m2⟩ := xs_mem hc
      obtain ⟨k1, k2⟩ := hx _ m1 _ m2
      have hs : (P.cl (P.call n) L).sub x.c C = (x.c == C || P.sub.contains (x.c, C)) := rfl
      refine ⟨(P.cl (P.call n) L).sub x.c C, by rw [X1.1, hs]; exact k1.exm k2, fun hb1 a ha => ?_, fun hb1 => ?_⟩
      · rw [if_pos hb1] at h'
        have gb := stp_bind (E := E) (w := w1) (env := env1) (st := st1) (σ := σ1) (H := H1) (a := a) (x := x) hi
        cases e : execs (P.cl (P.call n) L) b (env1.set i (some (.x x))) st1 with
        | none => rw [e] at h'; cases h'
        | some o =>
          rw [e] at h'
          refine hb a cls d L0 L w1 _ st1 _ H1 h0 S1 (R1.bindX X1) o e (sufD i D) ?_
          cases o with
          | nx _ _ => cases h'; exact fun w' σ' H' S R g => hD w' _ H' S R.unbind (gb.tr (g.tr (stp_unbind hi)))
          | bk _ _ => cases h'; exact fun w' σ' H' S R g => hD w' _ H' S R.unbind (gb.tr (g.tr (stp_unbind hi)))
          | ct _ _ => cases h'; exact fun w' σ' H' S R g => hD w' _ H' S R.unbind (gb.tr (g.tr (stp_unbind hi)))
          | rt v st2 =>
            cases h'
            exact (hD.from gb : OkS E xb W L0 L _ D (.rt v st2))
          | ex _ _ _ => cases h'
      · rw [if_neg (by rw [hb1]; exact Bool.false_ne_true)] at h'
        exact ih h' hD
    · cases h'
theorem ss_tryN {b : Stts} {hs : Hds} {l : List Clause} {tb : WX → TS} (hx : Exk P E) (hb : ∀ W, SSs P n E xb W (tb W) b) (hh : HdN P n E xb i hs l) : SS P n E xb W (tTryE E.K i l tb) (.tryN i b hs) := by
  intro L0 L w env st σ H h0 S R r h D hD
  show tb (wEach E.K i D l) D σ H
  have h' : (match execs (P.cl (P.call n) L) b env st with
    | some (.ex x env st) => if free (P.cl (P.call n) L) i then handleN (P.cl (P.call n) L) i hs x env st else none
    | r => r) = some r := h
  cases e : execs (P.cl (P.call n) L) b env st with
  | none => rw [e] at h'; cases h'
  | some o =>
    rw [e] at h'
    refine hb _ L0 L w env st σ H h0 S R o e D ?_
    cases o with
    | nx _ _ => cases h'; exact hD
    | bk _ _ => cases h'; exact hD
    | ct _ _ => cases h'; exact hD
    | rt _ _ => cases h'; exact hD
    | ex x env1 st1 =>
      refine fun w1 σ1 H1 cls d S1 R1 g1 x1 => ?_
      have h2 : (if free (P.cl (P.call n) L) i then handleN (P.cl (P.call n) L) i hs x env1 st1 else none) = some r := h'
      split at h2
      · rename_i hf
        exact hn_go hx h0 (free_s hf) S1 R1 x1 hh h2 (hD.from g1)
      · cases h2
/-! isinstance of the error in hand -/
theorem ExK.kit {K : PySem.W.Frag} {C D : Addr} {b : Bool} (h : ExK K C) (h4 : PySem.W.subIn K (.ref D) (.ref C) = some b) : PySem.W.kitOne K (.ref D) (.ref C) = some b := by
  by_cases e : D = C
  · subst e
    rw [h.s] at h4
    cases h4
    unfold PySem.W.kitOne
    rw [if_pos (by simp)]
  · unfold PySem.W.kitOne
    rw [if_neg (by simp [e])]
    have h2 : (PySem.W.clsIn K C).isSome = true := h.i
    show (if ((PySem.W.clsIn K C).isSome && PySem.W.typeIn K (.ref C) == some (.type "type")) = true then PySem.W.subIn K (.ref D) (.ref C) else none) = some b
    rw [if_pos (by rw [h2, h.t]; rfl)]
    exact h4
def rIsErr (K : PySem.W.Frag) (cls : Value) (d : Option Addr) (a : Addr) : List V → Hp → VK → Prop := fun xs H Q => ∃ D, cls = .ref D ∧ d = none ∧ ExcC K D ∧ rIsE K D a xs H Q
theorem call_isErr {X : Cx} {a : Addr} {oe : Obj} {cls : Value} {d : Option Addr} {pn : List (Addr × Obj)} (K : PySem.W.Frag) (e : X.K = K) (hz : Zc cls d oe) (hf : ∃ vs, oe.data = .fields vs) : CallR (X.suite a ((a, oe) :: pn)) (.builtin "isinstance") (rIsErr K cls d a) := by
  subst e
  intro pins s σ H xs us Q I r h
  obtain ⟨D, rfl, rfl, C, h⟩ := h
  exact call_isE C hz hf pins s σ H xs us Q I r h
theorem se_xis {C j : Nat} {a : Addr} {cls : Value} {d : Option Addr} (hx : Exk P E) (hb : xb j = some (a, cls, d)) : SE P n E xb W (tCB (rIsErr E.K cls d a) (tCons (tVar j) (tCons (tC (.ref (E.exc C))) tNil))) (.xis j C) := by
  intro L0 L w env st σ H h0 S R r h Q hQ
  have h' : (match env[j]? with
    | some (some (.x ⟨k, none⟩)) => if (P.cl (P.call n) L).xs.contains k && (P.cl (P.call n) L).xs.contains C then ok (SV.d (.bl ((P.cl (P.call n) L).sub k C))) st else none
    | _ => none) = some r := h
  split at h'
  · rename_i k e
    split at h'
    · rename_i hc
      cases h'
      obtain ⟨m1, m2⟩ := xs_mem (x := ⟨k, none⟩) hc
      obtain ⟨v, q1, q2⟩ := R.ok j _ e
      cases q2 with
      | x r1 r2 =>
        rw [hb] at r1
        cases r1
        obtain ⟨k1, k2⟩ := hx _ m1 _ m2
        exact ⟨_, q1, E.exc k, r2.1, r2.2.1 rfl, (hx _ m1 _ m1).1.e, .ref (E.exc C), .ref (E.exc C), _, rfl, (fun u z => by cases z; rfl), k1.kit k2, hQ w H _ S (Fr.rfl' _) (.d (.bl _))⟩
    · cases h'
  · cases h'
end
/-! ### the code -/
inductive Dhn (X : Cx) (g : Gm) (y : Str) (i : Nat) : List ExceptHandler → Hds → List Clause → Prop
  | nil : Dhn X g y i [] .nil []
  | cons {x : Str} {C : Nat} {b₀ : Stmt} {suite : List Stmt} {b : Stts} {np pos' : Pos} {hds : List ExceptHandler} {hs : Hds} {ts : Addr → Value → Option Addr → TS} {l : List Clause} (hc : Names X x (.ref (g.E.exc C)))
      (hb : ∀ (a : Addr) (oe : Obj) (cls : Value) (d : Option Addr) (pn : List (Addr × Obj)), Zc cls d oe → (∃ vs, oe.data = .fields vs) → Dss (X.suite a ((a, oe) :: pn)) { g with xb := xbN g.xb i a cls d, W := WF } (b₀ :: suite) b (ts a cls d))
      (r : Dhn X g y i hds hs l) :
      Dhn X g y i (.ExceptHandler (some (.Name x np)) (some y) (b₀ :: suite) pos' :: hds) (.cons C b hs) ((.ref (g.E.exc C), ts) :: l)
theorem Dhn.p {X : Cx} {g : Gm} {y : Str} {i : Nat} {hds : List ExceptHandler} {hs : Hds} {l : List Clause} (h : Dhn X g y i hds hs l) : Clauses X y hds l := by
  induction h with
  | nil => exact .nil
  | cons hc hb r ih => exact .cons hc (fun a oe cls d pn z f => (hb a oe cls d pn z f).p) ih
theorem Dhn.s {X : Cx} {g : Gm} {y : Str} {i : Nat} {hds : List ExceptHandler} {hs : Hds} {l : List Clause} (h : Dhn X g y i hds hs l) : HdN g.P g.n g.E g.xb i hs l := by
  induction h with
  | nil => exact .nil
  | cons hc hb r ih => exact .cons (fun a cls d => (hb a { cls := cls, dict := d, data := .fields #[] } cls d [] ⟨rfl, rfl⟩ ⟨_, rfl⟩).s) ih
section
variable {X : Cx} {g : Gm} {body : List Stmt} {h₀ : ExceptHandler} {hds : List ExceptHandler} {b : Stts} {hs : Hds} {l : List Clause} {pos : Pos} {tb : WX → TS} {i : Nat} {y : Str}
theorem ds_tryN (i : Nat) (hx : Exk g.P g.E) (hK : X.K = g.E.K) (hst : X.stack = X.env :: X.outer) (hf : X.env.frame = some X.env.locals) (hN : X.N.Nodup) (hi : X.N[i]? = some y) (hln : X.env.kindOf y = some .local)
    (hb : ∀ (W : WX) (pn : List (Addr × Obj)) (xe : Value → Shared → Prop), Takes (X.tr pn xe) W → Dss (X.tr pn xe) { g with W := W } body b (tb W))
    (hh : Dhn X g y i (h₀ :: hds) hs l) : Ds X g (.Try body (h₀ :: hds) [] [] pos) (.tryN i b hs) (tTryE g.E.K i l tb) :=
  ⟨ps_tryE g.E.K hK hst hf hN hi hln (fun W pn xe t _ => (hb W pn xe t).p) hh.p, ss_tryN hx (fun W => (hb W [] (fun _ _ => True) (fun _ _ _ => trivial)).s) hh.s⟩
/-- isinstance(e, C) within the clause -/
theorem de_xis {a : Addr} {oe : Obj} {cls : Value} {d : Option Addr} {pn : List (Addr × Obj)} {j C : Nat} {x z : Str} {p1 p2 p3 pos : Pos} (hx : Exk g.P g.E) (hK : X.K = g.E.K) (hz : Zc cls d oe) (hf : ∃ vs, oe.data = .fields vs)
    (hb : g.xb j = some (a, cls, d)) (hg : Gl (X.suite a ((a, oe) :: pn)) "isinstance") (hm : (X.suite a ((a, oe) :: pn)).mg "isinstance" = none) (hv : bootBuiltins "isinstance" = some (.builtin "isinstance")) (he : De (X.suite a ((a, oe) :: pn)) g (.Name x p1) (.var j) (tVar j)) (hgz : Gl (X.suite a ((a, oe) :: pn)) z) (hmz : (X.suite a ((a, oe) :: pn)).mg z = some (.ref (g.E.exc C))) (hd : (z == ("__debug__" : Str)) = false := by decide)
    (h1 : starEach [.Name x p1, .Name z p2] X.env = (false, eval (.Name x p1) X.env) :: starEach [.Name z p2] X.env := by rfl) (h2 : starEach [.Name z p2] X.env = (false, eval (.Name z p2) X.env) :: starEach [] X.env := by rfl) (hpl : (backTo pos (starEach [.Name z p2] X.env)).any (·.1) = false := by rfl) :
    De (X.suite a ((a, oe) :: pn)) g (.Call (.Name "isinstance" p3) [.Name x p1, .Name z p2] [] pos) (.xis j C) (tCB (rIsErr g.E.K cls d a) (tCons (tVar j) (tCons (tC (.ref (g.E.exc C))) tNil))) :=
  ⟨pe_callB (call_isErr g.E.K hK hz hf) hg hm hv (pa_cons he.p (pa_cons (pe_glob hgz hmz rfl hd) pa_nil h2) h1) (by decide) (by decide) h1 hpl, se_xis hx hb⟩
end
end Tv

/-! len({e for t in it if ..}), the items ints -/
namespace Tv
open PySem L2 PySem.Spec PyProof.Rows
section
variable {X : Cx}
/-- the set that the turns make; at the end Q of it -/
def tStZ (w : World) (wi : TI) (g : TG) (tt : TT) (te : TE) (vs : List Nat) : L2.St → Hp → (Addr → Nat → Hp → Prop) → Prop := fun σ H Q => wi σ H fun J H1 => ∀ D, H1 D = none → ∃ W : Nat → Nat → Hp → Prop, (∃ m, W 0 m (upd H1 D (SetO w D (fun _ => false) 0))) ∧ ∀ i m H, W i m H →
  (J.stop i H ∧ ∃ S n, H D = some (SetO w D S n) ∧ Q D n H) ∨ (J.go i H ∧ ∃ Nx : Hp → Prop, (∀ H', Nx H' → ∃ m', m' < m ∧ W (i + 1) m' H') ∧ ∀ x H', J.yld i H x H' → g x (wipe σ vs) H' fun σ2 H2 => wipe σ2 vs = wipe σ vs ∧ tt σ2 H2 fun b H3 =>
    if b = true then te σ2 H3 fun y H4 => ∃ (k : Int) (S : Int → Bool) (c : Nat), y = .int k ∧ H4 D = some (SetO w D S c) ∧ c + 1 < scanBound ∧
      Nx (upd H4 D (SetO w D (fun j => S j || decide (j = k)) (if S k = true then c else c + 1))) else Nx H3)
def tLsZ (w : World) (wi : TI) (g : TG) (tt : TT) (te : TE) (vs : List Nat) : TE := fun σ H Q => tStZ w wi g tt te vs σ H fun _ n H' => Q (.int n) H'
theorem run_scZ {pins : List (Addr × Obj)} {s : Shared} {σ : L2.St} {H : Hp} {elt tg iter : Expr} {ifs : List Expr} {scope : Scope} {own : List (PySem.Str × Nat)} {pos : Pos} {wi : TI} {g : TG} {tt : TT} {te : TE} {Q : Addr → Nat → Hp → Prop} {F : Value → Shared → Prop}
    (hc : X.calm = true) (hN : X.N.Nodup) (I : Inv X pins σ H s) (hi : PI X tg iter wi) (ok : BlkOk X.N X.env.scope scope own)
    (hg : ∀ (s : Shared) (H : Hp) (C : Addr) (cl : List (PySem.Str × Addr)) (fp : List Addr), PG (X.blk s H scope (compEnvC scope cl C X.env) fp) tg g)
    (ht : ∀ (s : Shared) (H : Hp) (C : Addr) (cl : List (PySem.Str × Addr)) (fp : List Addr), PTs (X.blk s H scope (compEnvC scope cl C X.env) fp) ifs tt)
    (he : ∀ (s : Shared) (H : Hp) (C : Addr) (cl : List (PySem.Str × Addr)) (fp : List Addr), PE (X.blk s H scope (compEnvC scope cl C X.env) fp) elt te) (hs : ∀ x, foldedSetIterable iter X.env x = pure x)
    (h : tStZ X.w wi g tt te (own.map (·.2)) σ H Q) (hF : ∀ D S n H' s', Inv X pins σ H' s' → H' D = some (SetO X.w D S n) → Q D n H' → F (.ref D) s') :
    wpAny (model X.prog X.w) X.A (eval (.SetComp elt [⟨tg, iter, ifs, 0⟩] scope pos) X.env) F X.xe s := by
  rw [PpSet.eval_SetComp]
  have cells : ∀ y ∈ scope.names, y.2 = .free → ∃ c, X.env.cells.lookup y.1 = some c := fun y hy e => (ok.free y hy e).elim (fun k => I.ok.has _ (.inl k)) fun k => I.ok.has _ (.inr k)
  refine wpAny_comprehension_free (use := none) rfl hs (closure_ok cells) ok.kind (fun y hy e => by rw [ok.uniq y hy, e]) (thn (hi.run pins s σ H _ I h) fun xv s1 hx => thn hx fun itv s2 ⟨it, fp, tn, J, H2, e, I2, T, st2, f2, q⟩ => ?_)
  subst e
  refine PpSet.newSet_ok (newEnv_comp ?_)
  generalize hD : s2.heap.objs.size = D
  obtain ⟨W, ⟨m0, w0⟩, turn⟩ := q D (I2.hok.fresh (Nat.le_of_eq hD))
  -- where the set is new
  generalize es3 : ({ s2 with heap := s2.heap.push (emptySet X.w) } : Shared) = s3
  have eh3 : s3.heap = s2.heap.push (emptySet X.w) := by rw [← es3]
  have I3 : Inv X pins σ (upd H2 D (SetO X.w D (fun _ => false) 0)) s3 := by
    subst es3
    refine I2.laid (t' := s2.toks) (fun b o e => Heap.get?_push_of_some _ e) (Nat.le_of_eq hD) (hD ▸ setO_new (setR_fresh X.w))
  have low : ∀ b ∈ fp, b < s2.heap.objs.size := fun b hb => by
    obtain ⟨o, e, _⟩ := T.obj _ _ st2 b hb
    exact Heap.lt_size e
  have f3 : ∀ b ∈ fp, FpOk X pins (upd H2 D (SetO X.w D (fun _ => false) 0)) b ∧ b < s3.heap.objs.size := fun b hb =>
    ⟨⟨by rw [upd_ne (by rw [← hD]; exact Nat.ne_of_lt (low b hb))]; exact (f2 b hb).1, (f2 b hb).2⟩, by rw [eh3, Heap.size_push]; exact Nat.lt_succ_of_lt (low b hb)⟩
  have st3 : tn 0 s3.heap := T.keep _ _ _ st2 fun b _ o e => by rw [eh3]; exact Heap.get?_push_of_some _ e
  have I4 := block_start I3 ok hN f3
  have kg := hg s3 (upd H2 D (SetO X.w D (fun _ => false) 0)) s3.heap.objs.size (cellsFrom (s3.heap.objs.size + 1) scope.names (cloFrom X.env.cells scope.names [])) fp
  have kt := ht s3 (upd H2 D (SetO X.w D (fun _ => false) 0)) s3.heap.objs.size (cellsFrom (s3.heap.objs.size + 1) scope.names (cloFrom X.env.cells scope.names [])) fp
  have ke := he s3 (upd H2 D (SetO X.w D (fun _ => false) 0)) s3.heap.objs.size (cellsFrom (s3.heap.objs.size + 1) scope.names (cloFrom X.env.cells scope.names [])) fp
  show codeAny _ _ (.compStart (.SetComp elt [⟨tg, iter, ifs, 0⟩] scope pos) 0 (.ref it) (.ref D) (compEnvC scope (cellsFrom (s3.heap.objs.size + 1) scope.names (cloFrom X.env.cells scope.names [])) s3.heap.objs.size X.env)) (compPost (model X.prog X.w) X.A X.xe none F (.ref D) s3.heap.objs.size) { s3 with heap := pushCells (s3.heap.push { cls := .type "dict", data := .dict #[] }) scope.names }
  have no3 : ∀ b ∈ fp, (upd H2 D (SetO X.w D (fun _ => false) 0)) b = none := fun b hb => (f3 b hb).1.1
  generalize ece : compEnvC scope (cellsFrom (s3.heap.objs.size + 1) scope.names (cloFrom X.env.cells scope.names [])) s3.heap.objs.size X.env = ce at I4 kg kt ke ⊢
  have loc : ce.locals = s3.heap.objs.size := by rw [← ece]; rfl
  generalize eH3 : upd H2 D (SetO X.w D (fun _ => false) 0) = H3 at I3 I4 kg kt ke w0 no3 f3
  generalize es4 : ({ s3 with heap := pushCells (s3.heap.push { cls := .type "dict", data := .dict #[] }) scope.names } : Shared) = s4 at I4 ⊢
  have st4 : tn 0 s4.heap := T.keep _ _ _ st3 fun b _ o e => by rw [← es4]; exact pushCells_keeps _ _ _ _ (Heap.get?_push_of_some _ e)
  have fpk : ∀ {τ : L2.St} {J' : Hp} {t : Shared}, Inv (X.blk s3 H3 scope ce fp) [] τ J' t → (∀ b ∈ fp, J' b = none) → ∀ b ∈ fp, FpOk (X.blk s3 H3 scope ce fp) [] J' b := fun I' hn b hb =>
    ⟨hn b hb, (I'.ok.exf b hb).1, I'.ok.exfs b hb, .inl hb, fun x c e => (I'.ok.exf b hb).2 x c e, fun p hp => absurd (show p ∈ ([] : List (Addr × Obj)) ++ [] from hp) (by simp)⟩
  have loop : codeAny (model X.prog X.w) X.A (.compLoop (.SetComp elt [⟨tg, iter, ifs, 0⟩] scope pos) 0 (.ref it) (.ref D) ce) (compPost (model X.prog X.w) X.A X.xe none F (.ref D) s3.heap.objs.size) s4 := by
    refine PpSet.compLoopS_any (fun n t => ∃ i J', Inv (X.blk s3 H3 scope ce fp) [] (wipe σ (own.map (·.2))) J' t ∧ tn i t.heap ∧ (∀ b ∈ fp, J' b = none) ∧ W i n J') ?_ m0 ⟨0, H3, I4, st4, no3, w0⟩
    rintro n s5 ⟨i, H5, I5, st5, no5, w5⟩
    rcases turn i n H5 w5 with ⟨stop, S, c, hM, qq⟩ | ⟨go, Nx, hNx, step⟩
    · refine thnF (T.done (X.blk s3 H3 scope ce fp) rfl rfl rfl hc i [] s5 _ H5 (fun _ _ => False) I5 (fpk I5 no5) st5 stop) fun r s6 ⟨hr, I6⟩ => ?_
      subst hr
      have I7 : Inv X pins σ H5 s6 := I3.call' (ch := fp) I6.os I6.base I6.hok I6.bare fun b hb =>
        have k := (f3 b hb).1.2
        ⟨k.2.2.1, k.1, k.2.2.2.1, k.2.2.2.2⟩
      have free : H5 s3.heap.objs.size = none := loc ▸ (I6.free : H5 ce.locals = none)
      obtain ⟨m, hn, _⟩ := I6.loc
      have hn' : s6.heap.Ns s3.heap.objs.size m := loc ▸ (hn : s6.heap.Ns ce.locals m)
      obtain ⟨k0, k1, k2, k3, k4, k5⟩ := I3.fpOk (Nat.le_refl _) free
      exact ⟨m, hn', fun h'' sb => hF D S c H5 _ (I7.turned (t' := s6.toks) (fun b o hb e => (sb.2 b hb).trans e) k0 k1 k3 k4 k5) hM qq⟩
    · refine thnF (T.item (X.blk s3 H3 scope ce fp) rfl rfl rfl hc i [] s5 _ H5 (fun _ _ => False) I5 (fpk I5 no5) st5 go) fun r s6 ⟨u, hr, h6⟩ => ?_
      subst hr
      refine thnF h6 fun _ s7 ⟨x, H7, I7, r7, y7, st7, no7⟩ => ?_
      refine thnF (kg.run _ s7 _ H7 x u _ (I7.pinned (fpk I7 no7) (T.obj _ _ st7)) r7 (step x H7 y7)) fun _ s8 ⟨σ8, H8, I8, ew, q8⟩ => ?_
      refine thnF (kt.run _ s8 σ8 H8 _ I8 q8) fun b s9 ⟨H9, I9, q9⟩ => ?_
      have fin : ∀ {t : Shared} {J' : Hp}, Inv (X.blk s3 H3 scope ce fp) ([] ++ pinsAt fp s7.heap) σ8 J' t → Nx J' → ∃ m, m < n ∧ ∃ i J', Inv (X.blk s3 H3 scope ce fp) [] (wipe σ (own.map (·.2))) J' t ∧ tn i t.heap ∧ (∀ b ∈ fp, J' b = none) ∧ W i m J' := fun {t J'} I' nx => by
        obtain ⟨m', hm, w'⟩ := hNx J' nx
        have pin : ∀ b ∈ fp, ∀ o, s7.heap.get? b = some o → t.heap.get? b = some o ∧ J' b = none := fun b hb o e =>
          have z := I'.pin (b, o) (List.mem_append_right _ (List.mem_append_right _ (mem_pinsAt hb e)))
          ⟨z.1, z.2.1⟩
        refine ⟨m', hm, i + 1, J', (I'.unpinned (pins := [])).weak (by rw [← ew, wipe_length]) (fun j v e => ?_), T.keep _ _ _ st7 fun b hb o e => (pin b hb o e).1, fun b hb => ?_, w'⟩
        · rw [← ew] at e
          exact (wipe_some e).1
        · obtain ⟨o, e, _⟩ := T.obj _ _ st7 b hb
          exact (pin b hb o e).2
      cases b with
      | false =>
        simp only [Bool.false_eq_true, if_false] at q9 ⊢
        exact fin I9 q9
      | true =>
        simp only [if_true] at q9 ⊢
        refine thnF (ke.run _ s9 σ8 H9 _ I9 q9) fun z s10 ⟨yv, H10, I10, r10, k, S, c, ey, hM, few, nx⟩ => ?_
        subst ey
        refine thnF (mt_sadd (X := X.blk s3 H3 scope ce fp) _ s10 σ8 H10 (.ref D) [.int k] (.ref D) [z] (fun _ H' => Nx H') I10 rfl (.cons r10 .nil) ⟨D, k, S, c, rfl, rfl, hM, few, nx⟩) fun _ s11 ⟨_, H11, I11, _, q11⟩ => ?_
        exact fin I11 q11
  exact PpSet.codeAny_compStart_set loop (T.self X.A 0 _ _ _ st4 loop)
/-- len of it -/
theorem pe_lsZ {elt tg iter : Expr} {ifs : List Expr} {scope : Scope} {own : List (PySem.Str × Nat)} {p pos pos2 : Pos} {wi : TI} {g : TG} {tt : TT} {te : TE} (hc : X.calm = true) (hN : X.N.Nodup) (hl : Gl X "len") (hm : X.mg "len" = none) (hi : PI X tg iter wi) (ok : BlkOk X.N X.env.scope scope own)
    (hg : ∀ (s : Shared) (H : Hp) (C : Addr) (cl : List (PySem.Str × Addr)) (fp : List Addr), PG (X.blk s H scope (compEnvC scope cl C X.env) fp) tg g)
    (ht : ∀ (s : Shared) (H : Hp) (C : Addr) (cl : List (PySem.Str × Addr)) (fp : List Addr), PTs (X.blk s H scope (compEnvC scope cl C X.env) fp) ifs tt)
    (he : ∀ (s : Shared) (H : Hp) (C : Addr) (cl : List (PySem.Str × Addr)) (fp : List Addr), PE (X.blk s H scope (compEnvC scope cl C X.env) fp) elt te) (hs : ∀ x, foldedSetIterable iter X.env x = pure x := by intro _; rfl) :
    PE X (.Call (.Name "len" p) [.SetComp elt [⟨tg, iter, ifs, 0⟩] scope pos] [] pos2) (tLsZ X.w wi g tt te (own.map (·.2))) := by
  refine ⟨fun pins s σ H Q I h => Call_ (ld_blt I hl hm PySem.boot_len (PyProof.Rows.callWith_builtin1 (PyProof.Rows.args_cons ?_ rfl) rfl rfl))⟩
  refine run_scZ hc hN I hi ok hg ht he hs h fun D S n H' s' I' hM q => PyProof.Rows.args_nil ?_
  obtain ⟨o, es, ep, t, h1, h2, h3, _, _, _, k1, k2, k3, _⟩ := setO_get I' hM
  have hb : scanBound < 2 ^ 62 := by decide
  exact call_len_set h1 h2 h3 k2 (by omega) ⟨.int n, H', I'.tok _, ⟨_, by rw [k3]⟩, q⟩
end
section
variable {E : En} {xb : XB} {w w0 w1 w2 : Wd} {L0 L L' l Lk : List Ow} {st st0 st1 st2 : Sto} {H H1 H2 B B' : Hp} {env env1 env' : Env} {σ σ1 σ' σ2 : L2.St} {v : V} {s : SV} {vs : List V} {ss : List SV} {j i : Nat} {p : Addr} {P : Prog} {n : Nat} {W : WX} {X : Cx} {a b d : Fs} {c : Ss} {q : Addr}
/-- the members of the set are the ints met -/
def KsZ (S : Int → Bool) (c : Nat) (acc : List Int) : Prop := (∀ k, S k = decide (k ∈ acc)) ∧ c = acc.length
theorem KsZ.put {S : Int → Bool} {c : Nat} {acc : List Int} {k : Int} (h : KsZ S c acc) : KsZ (fun j => S j || decide (j = k)) (if S k = true then c else c + 1) (putZ acc k) := by
  obtain ⟨h1, h2⟩ := h
  unfold putZ
  by_cases m : k ∈ acc
  · rw [if_pos m, if_pos (by rw [h1]; exact decide_eq_true m)]
    refine ⟨fun j => ?_, h2⟩
    show (S j || decide (j = k)) = decide (j ∈ acc)
    rw [h1]
    by_cases e : j = k
    · subst e; simp [m]
    · simp [e]
  · rw [if_neg m, if_neg (by rw [h1]; simpa using m)]
    refine ⟨fun j => ?_, by rw [List.length_append, h2]; rfl⟩
    show (S j || decide (j = k)) = decide (j ∈ acc ++ [k])
    rw [h1]
    simp
theorem se_lsZ {wd : World} {wi : TI} {g : TG} {tt : TT} {te : TE} {t : Tg} {it : Tv.It} {k : Tx} {e : Ex} {own : List Nat} (hi : SIt P n E xb W wi it) (hg : TgS E g t) (ht : STe P n E xb WF tt k) (he : SE P n E xb WF te e) (ho : own = t.own) :
    SE P n E xb W (tLsZ wd wi g tt te own) (.lensetI t it k e) := by
  subst ho
  intro L0 L w env st σ H h0 S R r h Q hQ
  show wi σ H fun J H1 => ∀ D, H1 D = none → ∃ W : Nat → Nat → Hp → Prop, (∃ m, W 0 m (upd H1 D (SetO wd D (fun _ => false) 0))) ∧ ∀ i m H, W i m H →
    (J.stop i H ∧ ∃ (S : Int → Bool) (n : Nat), H D = some (SetO wd D S n) ∧ Q (.int n) H) ∨ (J.go i H ∧ ∃ Nx : Hp → Prop, (∀ H', Nx H' → ∃ m', m' < m ∧ W (i + 1) m' H') ∧ ∀ x H', J.yld i H x H' → g x (wipe σ t.own) H' fun σ2 H2 => wipe σ2 t.own = wipe σ t.own ∧ tt σ2 H2 fun b H3 =>
      if b = true then te σ2 H3 fun y H4 => ∃ (k : Int) (S : Int → Bool) (c : Nat), y = .int k ∧ H4 D = some (SetO wd D S c) ∧ c + 1 < scanBound ∧
        Nx (upd H4 D (SetO wd D (fun j => S j || decide (j = k)) (if S k = true then c else c + 1))) else Nx H3)
  refine sg_go hi h0 S R h hQ fun j st1 w1 H1 J S1 R1 f1 v1 h2 hQ => fun Da hD => ?_
  clear h
  obtain ⟨hl, Hl, hh, hst, its⟩ := v1
  have h0' : ∀ o ∈ L0, o ∈ j.locks ++ L := fun o z => mem_r (h0 o z)
  have hlk : ∀ o ∈ j.locks ++ L0, o ∈ j.locks ++ L := fun o z => (List.mem_append.mp z).elim (fun z => List.mem_append.mpr (.inl z)) fun z => mem_r (h0 o z)
  have R1' : ER E xb L0 w1 (j.locks ++ L) st1 H1 env σ := R1.lk fun o z => mem_r z
  have e0 : (P.cl (P.call n) L).lk j.locks = P.cl (P.call n) (j.locks ++ L) := rfl
  rw [e0] at h2
  generalize hT : (fun x st => match t.set (wipeE env t.own) x with
        | some env => rb (evT (P.cl (P.call n) (j.locks ++ L)) k env st) fun b st => if b then rb (ev (P.cl (P.call n) (j.locks ++ L)) e env st) fun v st => ok (some v) st else ok none st
        | none => none) = T at h2
  let Inv' : Nat → Hp → Prop := fun i H' => ∃ (w' : Wd) (st' : Sto) (acc : List Int) (S : Int → Bool) (c : Nat), SR E w' (j.locks ++ L) st' H' ∧ Fr E (j.locks ++ L) ⟨w1, st1, H1⟩ ⟨w', st', H'⟩ ∧ H' Da = some (SetO wd Da S c) ∧ KsZ S c acc ∧ ¬ Owd w' st' Da ∧ ¬ Zad w' st' H' Da ∧
    rb (compZ T (j.xs.drop i) acc st') (fun ks st => ok (SV.d (.int ks.length)) st) = some r
  refine ⟨fun i m H' => m = j.xs.length - i ∧ Inv' i H', ⟨j.xs.length, rfl, w1, st1, [], fun _ => false, 0, S1.lkApp.lay hD, Fr.lay S1.lkApp hD (L' := j.locks ++ L), upd_same, ⟨fun k => by simp, rfl⟩, S1.nowd hD, nozad_lay S1 hD, h2⟩, ?_⟩
  rintro i m H' ⟨rfl, w', st', acc, SS, c, S', g', hDa, ra, no, nz, h'⟩
  have hh' := hst _ _ ((Stp.of R1' g').less hlk) hh
  cases ex : j.xs.drop i with
  | nil =>
    rw [ex] at h'
    cases (show some (Out.ok (SV.d (.int acc.length)) st') = some r from h')
    refine .inl ⟨its.stop ⟨w', env, st', σ, H'⟩ i hh' (List.drop_eq_nil_iff.mp ex), SS, c, hDa, ?_⟩
    rw [ra.2]
    exact hQ w' H' _ (S1.unlk g' S' hl) (g'.less fun o z => mem_r z) (.d (.int _))
  | cons x rest =>
    rw [ex] at h'
    have hx : j.xs[i]? = some x := by
      have := congrArg List.head? ex
      rw [List.head?_drop] at this
      exact this
    have hlt : i < j.xs.length := (List.getElem?_eq_some_iff.mp hx).1
    have hr : rest = j.xs.drop (i + 1) := by
      have := congrArg List.tail ex
      rw [List.tail_drop] at this
      exact this.symm
    obtain ⟨go, yl⟩ := its.go (j.locks ++ L) w' env st' σ H' i x S' hh' hx
    refine .inr ⟨go, fun H2 => j.xs.length - (i + 1) < j.xs.length - i ∧ Inv' (i + 1) H2, fun H2 z => ⟨_, z.1, rfl, z.2⟩, fun u H2 y => ?_⟩
    obtain ⟨S2, f2, rx⟩ := yl u H2 y
    have g2 := g'.tr f2
    have R2 : ER E xb L0 w' (j.locks ++ L) st' H2 env σ := R1'.fr S1.lkApp h0' g2
    have dk : ∀ {w3 : Wd} {st3 : Sto} {H3 : Hp}, Fr E (j.locks ++ L) ⟨w', st', H2⟩ ⟨w3, st3, H3⟩ → H3 Da = some (SetO wd Da SS c) ∧ ¬ Owd w3 st3 Da ∧ ¬ Zad w3 st3 H3 Da := fun {w3 st3 H3} f3 => by
      have f4 := f2.tr f3
      have hn : H' Da ≠ none := by rw [hDa]; intro z; cases z
      exact ⟨f4.out _ _ hDa no, f4.nowd no hn, f4.nozad no nz hn⟩
    have h3 : rb (match T x st' with
      | some (.ok none st) => compZ T rest acc st
      | some (.ok (some (.d (.int k))) st) => if acc.length + 1 < 64 then compZ T rest (putZ acc k) st else none
      | _ => none) (fun ks st => ok (SV.d (.int ks.length)) st) = some r := h'
    cases eT : T x st' with
    | none => rw [eT] at h3; cases h3
    | some oT =>
      rw [eT] at h3
      have eT' := eT
      rw [← hT] at eT'
      dsimp only at eT'
      cases e3 : t.set (wipeE env t.own) x with
      | none => rw [e3] at eT'; cases eT'
      | some env3 =>
        rw [e3] at eT'
        dsimp only at eT'
        refine hg xb L0 (j.locks ++ L) w' (wipeE env t.own) env3 st' (wipe σ t.own) H2 u x (R2.wipe _) rx e3 _ fun σ3 k3 => ⟨?_, ?_⟩
        · have hlen : σ3.length = (wipe σ t.own).length := by
            have a1 := k3.er.len
            have a2 := (R2.wipe t.own).len
            have a3 : env3.length = (wipeE env t.own).length := set_len e3
            omega
          rw [← wipe_wipe (σ := σ)]
          exact wipe_eq hlen fun j hj => (k3.off j fun z => hj (mem_dup z)).2
        · cases e5 : evT (P.cl (P.call n) (j.locks ++ L)) k env3 st' with
          | none => rw [e5] at eT'; cases eT'
          | some ob =>
            rw [e5] at eT'
            cases ob with
            | ex y st5 => cases (show some (Out.ex y st5) = some oT from eT'); cases h3
            | ok b st5 =>
              refine ht L0 (j.locks ++ L) w' env3 st' σ3 H2 h0' S2 k3.er _ e5 _ fun w5 H5 b' S5 f5 eb => ?_
              subst eb
              have R5 : ER E xb L0 w5 (j.locks ++ L) st5 H5 env3 σ3 := k3.er.fr S2 h0' f5
              cases b' with
              | false =>
                rw [if_neg Bool.false_ne_true]
                cases (show some (Out.ok none st5) = some oT from eT')
                obtain ⟨q1, q3, q4⟩ := dk f5
                exact ⟨by omega, w5, st5, acc, SS, c, S5, g2.tr f5, q1, ra, q3, q4, by rw [← hr]; exact h3⟩
              | true =>
                rw [if_pos rfl]
                have e6 : rb (ev (P.cl (P.call n) (j.locks ++ L)) e env3 st5) (fun v st => ok (some v) st) = some oT := eT'
                cases e7 : ev (P.cl (P.call n) (j.locks ++ L)) e env3 st5 with
                | none => rw [e7] at e6; cases e6
                | some ov =>
                  rw [e7] at e6
                  cases ov with
                  | ex y st7 => cases (show some (Out.ex y st7) = some oT from e6); cases h3
                  | ok sv st7 =>
                    cases (show some (Out.ok (some sv) st7) = some oT from e6)
                    refine he L0 (j.locks ++ L) w5 env3 st5 σ3 H5 h0' S5 R5 _ e7 _ fun w7 H7 v7 S7 f7 r7 => ?_
                    cases sv with
                    | c z1 z2 => cases h3
                    | x z => cases h3
                    | d dv =>
                      cases dv with
                      | int kk =>
                        have h4 : rb (if acc.length + 1 < 64 then compZ T rest (putZ acc kk) st7 else none) (fun ks st => ok (SV.d (.int ks.length)) st) = some r := h3
                        split at h4
                        · rename_i few
                          obtain ⟨q1, q3, q4⟩ := dk (f5.tr f7)
                          have nt : ∀ xs, SetO wd Da SS c ≠ .tup xs := fun xs z => by cases z
                          exact ⟨kk, SS, c, r7.int, q1, by rw [ra.2]; exact Nat.lt_trans few (by decide), by omega, w7, st7, putZ acc kk, _, _, S7.mutN q3 q4 q1 nt, Fr.mutN q3 S7 q1 nt (g2.tr (f5.tr f7)) hD, upd_same, ra.put, q3, fun z => q4 (zadU S7 q3 z), by rw [← hr]; exact h4⟩
                        · cases h4
                      | _ => cases h3
end
section
variable {X : Cx} {g : Gm} {pa pb pe tg : Expr} {a b e : Ex} {t : Tx} {pos pos2 : Pos} {ta tb : TE} {tt : TT} {wi : TI} {gt : TG} {it : Tv.It} {t1 : Tg}
theorem de_lsZ {elt iter : Expr} {ifs : List Expr} {scope : Scope} {own : List (Str × Nat)} {e1 : Ex} {np : Pos} (hK : X.K = g.E.K) (hc : X.calm = true) (hN : X.N.Nodup) (hl : Gl X "len") (hm : X.mg "len" = none) (ok : BlkOk X.N X.env.scope scope own) (hi : Di X g tg iter it wi)
    (hg : ∀ (s : Shared) (H : Hp) (C : Addr) (cl : List (Str × Addr)) (fp : List Addr), Dg (X.blk s H scope (compEnvC scope cl C X.env) fp) g.inC tg t1 gt)
    (ht : ∀ (s : Shared) (H : Hp) (C : Addr) (cl : List (Str × Addr)) (fp : List Addr), Dts (X.blk s H scope (compEnvC scope cl C X.env) fp) g.inC ifs t tt)
    (he : ∀ (s : Shared) (H : Hp) (C : Addr) (cl : List (Str × Addr)) (fp : List Addr), De (X.blk s H scope (compEnvC scope cl C X.env) fp) g.inC elt e1 ta) (ho : own.map (·.2) = t1.own) (hs : ∀ x, foldedSetIterable iter X.env x = pure x := by intro _; rfl) :
    De X g (.Call (.Name "len" np) [.SetComp elt [⟨tg, iter, ifs, 0⟩] scope pos] [] pos2) (.lensetI t1 it t e1) (tLsZ X.w wi gt tt ta (own.map (·.2))) :=
  ⟨pe_lsZ hc hN hl hm hi.p ok (fun s H C cl fp => (hg s H C cl fp).p) (fun s H C cl fp => (ht s H C cl fp).p) (fun s H C cl fp => (he s H C cl fp).p) hs,
   se_lsZ hi.s (hg (PySem.start X.prog).1 (fun _ => none) 0 [] []).s (ht (PySem.start X.prog).1 (fun _ => none) 0 [] []).s (he (PySem.start X.prog).1 (fun _ => none) 0 [] []).s ho⟩
end
end Tv

/-! xs[i] = v, xs a list -/
namespace Tv
open PySem L2 PySem.Spec PyProof.Rows
section
variable {P : Prog} {n : Nat} {E : En} {xb : XB} {W : WX} {td ty tv : TE} {pl : Pl} {k e : Ex}
theorem ss_putL (hp : PlS P n E xb W td pl) (hk : SE P n E xb W ty k) (hv : SE P n E xb W tv e) : SS P n E xb W (tAsg tv (gSub td ty rSetL)) (.putL pl k e) := by
  intro L0 L w env st σ H h0 S R r h D hD
  show tv σ H fun v H1 => td σ H1 fun x H2 => ty σ H2 fun y H3 => rSetL x y v H3 fun H4 => D.nx σ H4
  refine sb_go hv h0 S R h hD fun u st1 w1 H1 v S1 R1 f1 v1 h2 hD1 => ?_
  refine sb_golk hp h0 S1 R1 v1.live h2 hD1 fun lc st2 w2 H2 x S2 R2 f2 lr h3 hD2 => ?_
  have f2' := f2.less (L' := L) fun o z => mem_r z
  have v2 := v1.fr f2 (fun o z => mem_r (h0 o z)) (fun o z => List.mem_append.mpr (.inl z))
  have live2 : ∀ o ∈ lc.ow :: lockOf u, ∀ st', o.live st' → o.live st2 := fun o ho st' z => by
    rcases List.mem_cons.mp ho with e | ho
    · subst e
      exact lc_live S2 lr _ (List.mem_singleton.mpr rfl) st' z
    · exact v2.live o ho st' z
  refine sb_golk hk h0 S2 R2 live2 h3 hD2 fun kv st3 w3 H3 y S3 R3 f3 k3 h4 hD3 => ?_
  have f3' := f3.less (L' := L) fun o z => mem_r z
  have v3 := v2.fr f3 (fun o z => mem_r (h0 o z)) (fun o z => List.mem_append.mpr (.inl (List.mem_cons_of_mem _ z)))
  have lr3 := lr.fr f3 S3 (List.mem_append.mpr (.inl List.mem_cons_self))
  cases e8 : toD u st3 with
  | none => rw [e8] at h4; cases h4
  | some od =>
    obtain ⟨yd, st4, w4, rfl, S4, R4, f4, p4, rv4, ho4, hz4, hl4⟩ := toD_ok (s0 := ⟨w, st, H⟩) h0 S R S3 R3 (f1.tr (f2'.tr f3')) v3 e8
    rw [e8] at h4
    have h5 : (fun (o : Option Cn) (kv : SV) => match o, kv with
        | some (.l xs), .d (.int i) => match ixN xs.length i with
          | some n => some (SO.nx (lc.set (.l (xs.set n yd)) env st4).1 (lc.set (.l (xs.set n yd)) env st4).2)
          | none => none
        | _, _ => none) (lc.get (P.cl (P.call n) L) env st4) kv = some r := h4
    generalize eg : lc.get (P.cl (P.call n) L) env st4 = o at h5
    dsimp only at h5
    split at h5
    · rename_i xs i
      split at h5
      · rename_i m em
        cases h5
        obtain ⟨q, uo, rfl, hu, hr, go⟩ := mut_ok h0 S4 R4 (lr3.cell' hl4) eg
        cases uo <;> try exact hr.elim
        rename_i vs
        have hlen : vs.length = xs.length := RvA.length hr
        have tm : Tm E.K H3 (upd H3 q (.lst (vs.set m v))) := tm_mut (E := E) hu fun xs z => by cases z
        obtain ⟨a1, a2, a3⟩ := go (.lst (vs.set m v)) (.l (xs.set m yd)) (RvA.set (rv4.mono (List.prefix_refl _) tm) m (RvA.mono (List.prefix_refl _) tm hr))
        exact ⟨q, vs, i, m, rfl, k3.int, hu, by rw [hlen]; exact em, hD w4 σ _ a1 a2 ((Stp.of R f4).tr a3)⟩
      · cases h5
    · cases h5
end
section
variable {X : Cx} {g : Gm} {po pi pa : Expr} {k a : Ex} {to ti ta : TE} {p : Pl} {spos pos : Pos}
theorem ds_putL (ho : Dpl X g po p to) (hi : De X g pi k ti) (hv : De X g pa a ta) (hs : swapsWithSole [.Subscript po pi spos] pa pos.line X.env = pure false := by rfl) (hw : swappedStores [.Subscript po pi spos] pa X.env = pure none := by rfl)
    (h1 : (assignEach [.Subscript po pi spos] X.env).map (·.2) = [assign (.Subscript po pi spos) X.env] := by rfl)
    (ha : ∀ v, assign (.Subscript po pi spos) X.env v = (holding [v] (eval po X.env) >>= fun ov => holding [v, ov] (eval pi X.env) >>= fun iv => standAt spos >>= fun _ => holding [v, ov, iv] (setItem ov iv v) >>= fun _ => release [v, ov, iv] []) := by intro _; rfl) :
    Ds X g (.Assign [.Subscript po pi spos] pa pos) (.putL p k a) (tAsg ta (gSub to ti rSetL)) := ⟨ps_asg hv.p (pg_sub ho.p hi.p set_list (ha := ha)) hs hw h1, ss_putL ho.s hi.s hv.s⟩
end
end Tv

namespace Tv
open PySem L2
/-! ### how the evaluator answers -/
section
variable {α β : Type} {P : Prog} {n : Nat} {L l : List Ow} {env : Env} {st : Sto} {c : Cl} {a b d : Ex} {es : Exs}
theorem rb_ok {a : α} {k : α → Sto → Res β} : rb (some (.ok a st)) k = k a st := id rfl
theorem sb_ok {a : α} {k : α → Sto → Option SO} : sb (some (.ok a st)) env k = k a st := id rfl
theorem sq_nx {k : Env → Sto → Option SO} : sq (some (.nx env st)) k = k env st := id rfl
theorem sq_rt {v : SV} {k : Env → Sto → Option SO} : sq (some (.rt v st)) k = some (.rt v st) := id rfl
theorem sq_bk {k : Env → Sto → Option SO} : sq (some (.bk env st)) k = some (.bk env st) := id rfl
theorem sq_ct {k : Env → Sto → Option SO} : sq (some (.ct env st)) k = some (.ct env st) := id rfl
theorem rb_congr' {r r' : Res α} {k : α → Sto → Res β} (h : r = r') : rb r k = rb r' k := by rw [h]
theorem sb_congr' {r r' : Res α} {k : α → Sto → Option SO} (h : r = r') : sb r env k = sb r' env k := by rw [h]
theorem sq_congr' {r r' : Option SO} {k : Env → Sto → Option SO} (h : r = r') : sq r k = sq r' k := by rw [h]
theorem cl_lk : (P.cl (P.call n) L).lk l = P.cl (P.call n) (l ++ L) := id rfl
theorem cl_go {f : Nat} {as : List SV} : (P.cl (P.call n) L).go f as st = P.call n f (as.map argS) ((as.flatMap lockOf ++ L).filter Ow.inStore) st := id rfl
theorem cl_kts : (P.cl (P.call n) L).kts = P.kts := id rfl
theorem cl_locks : (P.cl (P.call n) L).locks = L := id rfl
theorem free_f {i : Nat} : free (P.cl (P.call n) (L.filter Ow.inStore)) i = true := by
  unfold free
  simp only [cl_locks]
  have : (L.filter Ow.inStore).contains (.s i) = false := by
    rw [Bool.eq_false_iff]
    intro h
    have := List.contains_iff_mem.mp h
    have := (List.mem_filter.mp this).2
    cases this
  rw [this]; rfl
theorem free_cons {i : Nat} {o : Ow} : free (P.cl (P.call n) (o :: L)) i = (!(Ow.s i == o) && free (P.cl (P.call n) L) i) := by
  unfold free
  simp only [cl_locks, List.contains_cons, Bool.not_or]
theorem call_succ {f np ns : Nat} {body : Stts} {as : List SV} (h : P.fn f = ⟨np, ns, body, false⟩) (hl : as.length = np) : P.call (n + 1) f as L st = result (execs (P.cl (P.call n) L) body (as.map some ++ List.replicate (ns - as.length) none) st) := by
  show (if as.length = (P.fn f).np then trimIf (P.fn f).tr st (result (execs (P.cl (P.call n) L) (P.fn f).body (as.map some ++ List.replicate ((P.fn f).ns - as.length) none) st)) else none) = _
  rw [h, if_pos hl]
  rfl
theorem call_succT {f np ns : Nat} {body : Stts} {as : List SV} (h : P.fn f = ⟨np, ns, body, true⟩) (hl : as.length = np) : P.call (n + 1) f as L st = trim st (result (execs (P.cl (P.call n) L) body (as.map some ++ List.replicate (ns - as.length) none) st)) := by
  show (if as.length = (P.fn f).np then trimIf (P.fn f).tr st (result (execs (P.cl (P.call n) L) (P.fn f).body (as.map some ++ List.replicate ((P.fn f).ns - as.length) none) st)) else none) = _
  rw [h, if_pos hl]
  rfl
theorem mulOkR {i j : Int} (h1 : -(2 ^ 64) < j) (h2 : j < 2 ^ 64) : mulOk i j = true := by
  unfold mulOk; rw [decide_eq_true h1, decide_eq_true h2]; simp
theorem mulOkL {i j : Int} (h1 : -(2 ^ 64) < i) (h2 : i < 2 ^ 64) : mulOk i j = true := by
  unfold mulOk; rw [decide_eq_true h1, decide_eq_true h2]; simp
theorem log2_lt {m k : Nat} (h : m < 2 ^ k) (hk : 0 < k) : m.log2 < k := by
  by_cases hm : m = 0
  · subst hm; simpa using hk
  · exact (Nat.log2_lt hm).mpr h
theorem divOkI {j : Int} (h1 : 0 < j) (h2 : j < 2 ^ 64) : divOk j = true := by
  unfold divOk
  rw [decide_eq_true h1, Bool.true_and, decide_eq_true_eq]
  have : j.natAbs < 2 ^ 64 := by omega
  exact Nat.lt_of_lt_of_le (log2_lt this (by decide)) (by decide)
theorem atI_pos {xs : List α} {i : Int} (h : 0 ≤ i) : atI xs i = xs[i.toNat]? := by
  unfold atI ixN
  rw [if_pos h]
  split
  · rfl
  · rename_i h2
    rw [List.getElem?_eq_none (by omega)]; rfl
theorem atI0 {x : α} {xs : List α} : atI (x :: xs) 0 = some x := by rw [atI_pos (by decide)]; rfl
theorem atI1 {x y : α} {xs : List α} : atI (x :: y :: xs) 1 = some y := by rw [atI_pos (by decide)]; rfl
theorem atI2 {x y z : α} {xs : List α} : atI (x :: y :: z :: xs) 2 = some z := by rw [atI_pos (by decide)]; rfl
theorem atI3 {x y z u : α} {xs : List α} : atI (x :: y :: z :: u :: xs) 3 = some u := by rw [atI_pos (by decide)]; rfl
theorem atI4 {x y z u v : α} {xs : List α} : atI (x :: y :: z :: u :: v :: xs) 4 = some v := by rw [atI_pos (by decide)]; rfl
theorem powC : powOk 10 9 = true := by decide +kernel
theorem powC15 : powOk 10 15 = true := by decide +kernel
theorem free_nil {i : Nat} : free (P.cl (P.call n) []) i = true := id rfl
theorem warm {c : Cl} {x : D} : ev c (.cst x) env st = ok (.d x) st ∧ evT c .yes env st = ok true st ∧ evs c .nil env st = ok [] st ∧ exec c .pass env st = some (.nx env st) ∧ execs c .nil env st = some (.nx env st) ∧ evI c (.range (.cst .non)) env st = none ∧ Tg.free c (.nm 0) = Tv.free c 0 ∧ Tg.frees c [] = true ∧ Tg.set env (.nm 0) x = some (env.set 0 (some (.d x))) ∧ Tg.sets env [] [] = some env := by
  refine ⟨?_, ?_, ?_, ?_, ?_, ?_, ?_, ?_, ?_, ?_⟩
  · simp only [ev]
  · simp only [evT]
  · simp only [evs]
  · simp only [exec]
  · simp only [execs]
  · simp only [evI, ev, rb_ok]
  · simp only [Tg.free]
  · simp only [Tg.frees]
  · simp only [Tg.set]
  · simp only [Tg.sets]
end
end Tv

namespace Tv
open PySem L2
/-! ### steps: what follows is kept closed until the answer is there -/
section
variable {α β : Type} {P : Prog} {n : Nat} {L l : List Ow} {env : Env} {st : Sto} {c : Cl} {a b d e : Ex} {es : Exs} {o : Bo} {p : Co} {u w : SV} {x : D} {i j : Nat} {t t2 : Tx} {g : Tg} {it : It} {sa sb' ss : Stts} {s : Stt} {bl : Bool}
def kBin2 (o : Bo) (u : SV) : SV → Sto → Res SV := fun w st => bin o u w st
def kBin (c : Cl) (o : Bo) (b : Ex) (env : Env) : SV → Sto → Res SV := fun u st => rb (ev (c.lk (lockOf u)) b env st) (kBin2 o u)
theorem e_bin : ev c (.bin o a b) env st = rb (ev c a env st) (kBin c o b env) := id rfl
theorem k_bin : kBin c o b env u st = rb (ev (c.lk (lockOf u)) b env st) (kBin2 o u) := id rfl
theorem k_bin2 : kBin2 o u w st = bin o u w st := id rfl
def kCmp2 (kt : List (List D)) (p : Co) (u : SV) : SV → Sto → Res SV := fun w st => match cmp kt p u w st with
    | some b => ok (.d (.bl b)) st
    | none => none
def kCmp (c : Cl) (p : Co) (b : Ex) (env : Env) : SV → Sto → Res SV := fun u st => rb (ev (c.lk (lockOf u)) b env st) (kCmp2 c.kts p u)
theorem e_cmp : ev c (.cmp p a b) env st = rb (ev c a env st) (kCmp c p b env) := id rfl
theorem k_cmp : kCmp c p b env u st = rb (ev (c.lk (lockOf u)) b env st) (kCmp2 c.kts p u) := id rfl
def bok (o : Option Bool) (st : Sto) : Res SV := match o with
    | some b => ok (.d (.bl b)) st
    | none => none
theorem bok_s : bok (some bl) st = ok (.d (.bl bl)) st := id rfl
theorem k_cmp2 {kt : List (List D)} : kCmp2 kt p u w st = bok (cmp kt p u w st) st := id rfl
theorem e_var : ev c (.var i) env st = match env[i]? with
    | some (some (.d x)) => ok (.d x) st
    | some (some (.c .own x)) => ok (.c (.at (.s i)) x) st
    | some (some (.c .par x)) => ok (.c .par x) st
    | some (some (.c .scr x)) => ok (.c .scr x) st
    | _ => none := rfl
theorem e_cst : ev c (.cst x) env st = ok (.d x) st := id rfl
theorem e_glob {y : Str} : ev c (.glob y x) env st = ok (.d x) st := id rfl
def kNeg : SV → Sto → Res SV := fun u st => match u with
    | .d (.int i) => ok (.d (.int (-i))) st
    | _ => none
theorem e_neg : ev c (.neg a) env st = rb (ev c a env st) kNeg := id rfl
theorem k_neg {i : Int} : kNeg (.d (.int i)) st = ok (.d (.int (-i))) st := id rfl
def kBl : SV → Sto → Res SV := fun w st => match w with
      | .d (.bl b) => ok (.d (.bl b)) st
      | _ => none
theorem k_bl : kBl (.d (.bl bl)) st = ok (.d (.bl bl)) st := id rfl
def kAnd (c : Cl) (b : Ex) (env : Env) : SV → Sto → Res SV := fun u st => match u with
    | .d (.bl true) => rb (ev c b env st) kBl
    | .d (.bl false) => ok (.d (.bl false)) st
    | _ => none
theorem e_and : ev c (.and a b) env st = rb (ev c a env st) (kAnd c b env) := id rfl
theorem k_andT : kAnd c b env (.d (.bl true)) st = rb (ev c b env st) kBl := id rfl
theorem k_andF : kAnd c b env (.d (.bl false)) st = ok (.d (.bl false)) st := id rfl
theorem k_andI : kAnd c b env (.d (.bl bl)) st = if bl = true then rb (ev c b env st) kBl else ok (.d (.bl false)) st := by cases bl <;> rfl
def kOr (c : Cl) (b : Ex) (env : Env) : SV → Sto → Res SV := fun u st => match u with
    | .d (.bl false) => rb (ev c b env st) kBl
    | .d (.bl true) => ok (.d (.bl true)) st
    | _ => none
theorem e_or : ev c (.or a b) env st = rb (ev c a env st) (kOr c b env) := id rfl
theorem k_orF : kOr c b env (.d (.bl false)) st = rb (ev c b env st) kBl := id rfl
theorem k_orT : kOr c b env (.d (.bl true)) st = ok (.d (.bl true)) st := id rfl
theorem k_orI : kOr c b env (.d (.bl bl)) st = if bl = true then ok (.d (.bl true)) st else rb (ev c b env st) kBl := by cases bl <;> rfl
def kNot : SV → Sto → Res SV := fun u st => match u with
    | .d (.bl b) => ok (.d (.bl !b)) st
    | _ => none
theorem e_not : ev c (.not a) env st = rb (ev c a env st) kNot := id rfl
theorem k_not : kNot (.d (.bl bl)) st = ok (.d (.bl !bl)) st := id rfl
def kIte (c : Cl) (a b : Ex) (env : Env) : Bool → Sto → Res SV := fun u st => if u then ev c a env st else ev c b env st
theorem e_ite : ev c (.ite t a b) env st = rb (evT c t env st) (kIte c a b env) := id rfl
theorem k_iteT : kIte c a b env true st = ev c a env st := id rfl
theorem k_iteF : kIte c a b env false st = ev c b env st := id rfl
theorem k_iteI : kIte c a b env bl st = if bl = true then ev c a env st else ev c b env st := id rfl
def dok (o : Option D) (st : Sto) : Res SV := match o with
    | some d => ok (.d d) st
    | none => none
theorem dok_s : dok (some x) st = ok (.d x) st := id rfl
def kIdx2 (kt : List (List D)) (u : SV) : SV → Sto → Res SV := fun w st => dok (idx kt u w st) st
def kIdx (c : Cl) (b : Ex) (env : Env) : SV → Sto → Res SV := fun u st => rb (ev (c.lk (lockOf u)) b env st) (kIdx2 c.kts u)
theorem e_idx : ev c (.idx a b) env st = rb (ev c a env st) (kIdx c b env) := id rfl
theorem k_idx : kIdx c b env u st = rb (ev (c.lk (lockOf u)) b env st) (kIdx2 c.kts u) := id rfl
theorem k_idx2 {kt : List (List D)} : kIdx2 kt u w st = dok (idx kt u w st) st := id rfl
def kSl3 (u : SV) (lo : Option Int) : Option Int → Sto → Res SV := fun h st => slc u lo h st
def kSl2 (c : Cl) (hi : Ex) (u : SV) (env : Env) : Option Int → Sto → Res SV := fun l st => rb (rb (ev (c.lk (lockOf u)) hi env st) (part hi.isNon)) (kSl3 u l)
def kSl (c : Cl) (lo hi : Ex) (env : Env) : SV → Sto → Res SV := fun u st => rb (rb (ev (c.lk (lockOf u)) lo env st) (part lo.isNon)) (kSl2 c hi u env)
theorem e_slice : ev c (.slice a b d) env st = rb (ev c a env st) (kSl c b d env) := id rfl
theorem k_sl : kSl c b d env u st = rb (rb (ev (c.lk (lockOf u)) b env st) (part b.isNon)) (kSl2 c d u env) := id rfl
theorem k_sl2 {lo : Option Int} : kSl2 c d u env lo st = rb (rb (ev (c.lk (lockOf u)) d env st) (part d.isNon)) (kSl3 u lo) := id rfl
theorem k_sl3 {lo hi : Option Int} : kSl3 u lo hi st = slc u lo hi st := id rfl
theorem part_i {z : Int} : part bl (.d (.int z)) st = ok (some z) st := id rfl
theorem part_n : part true (.d .non) st = ok none st := id rfl
theorem e_rev : ev c (.rev a) env st = rb (ev c a env st) revS := id rfl
def kTup2 : List D → Sto → Res SV := fun xs st => if xs.length ≤ sizeLine then ok (.d (.tup xs)) st else none
def kTup : List SV → Sto → Res SV := fun as st => rb (toDs as st) kTup2
theorem e_tup : ev c (.tup es) env st = rb (evs c es env st) kTup := id rfl
theorem k_tup {as : List SV} : kTup as st = rb (toDs as st) kTup2 := id rfl
theorem size_k : 1000 ≤ sizeLine := Nat.le_of_ble_eq_true rfl
theorem k_tup2 {xs : List D} (h : xs.length ≤ 1000) : kTup2 xs st = ok (.d (.tup xs)) st := if_pos (Nat.le_trans h size_k)
def kLst2 : List D → Sto → Res SV := fun xs st => if xs.length ≤ sizeLine then ok (.c .own (.l xs)) st else none
def kLst : List SV → Sto → Res SV := fun as st => rb (toDs as st) kLst2
theorem e_lst : ev c (.lst es) env st = rb (evs c es env st) kLst := id rfl
theorem k_lst {as : List SV} : kLst as st = rb (toDs as st) kLst2 := id rfl
theorem k_lst2 {xs : List D} (h : xs.length ≤ 1000) : kLst2 xs st = ok (.c .own (.l xs)) st := if_pos (Nat.le_trans h size_k)
theorem toDs_nil : toDs [] st = ok [] st := id rfl
def kDs2 (x : D) : List D → Sto → Res (List D) := fun xs st => ok (x :: xs) st
def kDs (as : List SV) : D → Sto → Res (List D) := fun x st => rb (toDs as st) (kDs2 x)
theorem toDs_cons {as : List SV} : toDs (u :: as) st = rb (toD u st) (kDs as) := id rfl
theorem k_ds {as : List SV} : kDs as x st = rb (toDs as st) (kDs2 x) := id rfl
theorem k_ds2 {xs : List D} : kDs2 x xs st = ok (x :: xs) st := id rfl
theorem toD_d : toD (.d x) st = ok x st := id rfl
theorem toD_c {y : Cn} : toD (.c .own y) st = ok (.ref st.length) (st ++ [.con y]) := id rfl
def kGo (c : Cl) (f : Nat) : List SV → Sto → Res SV := fun as st => c.go f as st
theorem e_call {f : Nat} : ev c (.call f es) env st = rb (evs c es env st) (kGo c f) := id rfl
theorem k_go {f : Nat} {as : List SV} : kGo c f as st = c.go f as st := id rfl
theorem e_bi {f : Bi} : ev c (.bi f es) env st = rb (evs c es env st) (biF f) := id rfl
theorem s_nil : evs c .nil env st = ok [] st := id rfl
def kEs2 (u : SV) : List SV → Sto → Res (List SV) := fun us st => ok (u :: us) st
def kEs (c : Cl) (es : Exs) (env : Env) : SV → Sto → Res (List SV) := fun u st => rb (evs (c.lk (lockOf u)) es env st) (kEs2 u)
theorem s_cons : evs c (.cons e es) env st = rb (ev c e env st) (kEs c es env) := id rfl
theorem k_es : kEs c es env u st = rb (evs (c.lk (lockOf u)) es env st) (kEs2 u) := id rfl
theorem k_es2 {us : List SV} : kEs2 u us st = ok (u :: us) st := id rfl
/-! tests -/
theorem t_yes : evT c .yes env st = ok true st := id rfl
def tok (o : Option Bool) (st : Sto) : Res Bool := match o with
    | some b => ok b st
    | none => none
theorem tok_s : tok (some bl) st = ok bl st := id rfl
def kVal : SV → Sto → Res Bool := fun u st => tok (truth u st) st
theorem t_val : evT c (.val e) env st = rb (ev c e env st) kVal := id rfl
theorem k_val : kVal u st = tok (truth u st) st := id rfl
def kTand (c : Cl) (t : Tx) (env : Env) : Bool → Sto → Res Bool := fun u st => if u then evT c t env st else ok false st
theorem t_and : evT c (.and t t2) env st = rb (evT c t env st) (kTand c t2 env) := id rfl
theorem k_tandT : kTand c t env true st = evT c t env st := id rfl
theorem k_tandF : kTand c t env false st = ok false st := id rfl
theorem k_tandI : kTand c t env bl st = if bl = true then evT c t env st else ok false st := id rfl
def kTor (c : Cl) (t : Tx) (env : Env) : Bool → Sto → Res Bool := fun u st => if u then ok true st else evT c t env st
theorem t_or : evT c (.or t t2) env st = rb (evT c t env st) (kTor c t2 env) := id rfl
theorem k_torT : kTor c t env true st = ok true st := id rfl
theorem k_torF : kTor c t env false st = evT c t env st := id rfl
theorem k_torI : kTor c t env bl st = if bl = true then ok true st else evT c t env st := id rfl
def kTnot : Bool → Sto → Res Bool := fun u st => ok (!u) st
theorem t_not : evT c (.not t) env st = rb (evT c t env st) kTnot := id rfl
theorem k_tnot : kTnot bl st = ok (!bl) st := id rfl
/-! iterators, comprehensions -/
theorem i_seq : evI c (.seq e) env st = rb (ev c e env st) itSeq := id rfl
def kRng : SV → Sto → Res Ito := fun u st => match u with
    | .d (.int n) => if smallI n then ok ⟨rangeD 0 n.toNat, []⟩ st else none
    | _ => none
theorem i_rng : evI c (.range e) env st = rb (ev c e env st) kRng := id rfl
theorem k_rng {z : Int} (h : smallI z = true) : kRng (.d (.int z)) st = ok ⟨rangeD 0 z.toNat, []⟩ st := if_pos h
def kRevI2 : Ito → Sto → Res Ito := fun j st => ok ⟨j.xs.reverse, j.locks⟩ st
def kRevI : SV → Sto → Res Ito := fun u st => rb (itRow u st) kRevI2
theorem i_rev : evI c (.rev e) env st = rb (ev c e env st) kRevI := id rfl
theorem k_revI : kRevI u st = rb (itRow u st) kRevI2 := id rfl
theorem k_revI2 {q : Ito} : kRevI2 q st = ok ⟨q.xs.reverse, q.locks⟩ st := id rfl
def kSome : SV → Sto → Res (Option SV) := fun v st => ok (some v) st
theorem k_some : kSome u st = ok (some u) st := id rfl
def kTurn (c : Cl) (e : Ex) (env : Env) : Bool → Sto → Res (Option SV) := fun b st => if b then rb (ev c e env st) kSome else ok none st
theorem k_turnT : kTurn c e env true st = rb (ev c e env st) kSome := id rfl
theorem k_turnF : kTurn c e env false st = ok none st := id rfl
theorem k_turnI : kTurn c e env bl st = if bl = true then rb (ev c e env st) kSome else ok none st := id rfl
def turnC (c : Cl) (g : Tg) (t : Tx) (e : Ex) (env : Env) : D → Sto → Res (Option SV) := fun x st => match g.set (wipeE env g.own) x with
        | some env => rb (evT c t env st) (kTurn c e env)
        | none => none
theorem turnC_s {env' : Env} (h : g.set (wipeE env g.own) x = some env') : turnC c g t e env x st = rb (evT c t env' st) (kTurn c e env') := by
  unfold turnC; rw [h]
def kOwn : List D → Sto → Res SV := fun xs st => ok (.c .own (.l xs)) st
theorem k_own {xs : List D} : kOwn xs st = ok (.c .own (.l xs)) st := id rfl
def kLc (c : Cl) (g : Tg) (t : Tx) (e : Ex) (env : Env) : Ito → Sto → Res SV := fun j st => rb (compL (turnC (c.lk j.locks) g t e env) j.xs [] st) kOwn
theorem e_lc : ev c (.lc g it t e) env st = rb (evI c it env st) (kLc c g t e env) := id rfl
theorem k_lc {q : Ito} : kLc c g t e env q st = rb (compL (turnC (c.lk q.locks) g t e env) q.xs [] st) kOwn := id rfl
/-! statements -/
theorem ss_nil' : execs c .nil env st = some (.nx env st) := id rfl
theorem ss_cons' : execs c (.cons s ss) env st = sq (exec c s env st) (execs c ss) := id rfl
def kAsg (c : Cl) (g : Tg) (env : Env) : SV → Sto → Option SO := fun v st => match v with
    | .d x => match g.put c env x with
      | some env => some (.nx env st)
      | none => none
    | .c .own x => match g with
      | .nm i => setV c i (.c .own x) env st
      | _ => none
    | .c .par x => match g with
      | .nm i => setV c i (.c .par x) env st
      | _ => none
    | _ => none
theorem x_asg : exec c (.asg g e) env st = sb (ev c e env st) env (kAsg c g env) := id rfl
def nxo (o : Option Env) (st : Sto) : Option SO := match o with
      | some env => some (.nx env st)
      | none => none
theorem nxo_s : nxo (some env) st = some (.nx env st) := id rfl
theorem k_asg : kAsg c g env (.d x) st = nxo (g.put c env x) st := id rfl
theorem k_asgO {y : Cn} : kAsg c (.nm i) env (.c .own y) st = setV c i (.c .own y) env st := id rfl
theorem k_asgP {y : Cn} : kAsg c (.nm i) env (.c .par y) st = setV c i (.c .par y) env st := id rfl
theorem g_put (h : g.free c = true) : g.put c env x = g.set env x := by unfold Tg.put; rw [if_pos h]
theorem x_mv : exec c (.mv i j) env st = match env[j]? with
    | some (some (.d x)) => setV c i (.d x) env st
    | some (some (.c .par x)) => setV c i (.c .par x) env st
    | some (some (.c .own x)) => if free c j then setV c i (.c .own x) (env.set j none) st else none
    | _ => none := rfl
theorem set_v (h : free c i = true) : setV c i u env st = some (.nx (env.set i (some u)) st) := by unfold setV; rw [if_pos h]
def kIf (c : Cl) (sa sb' : Stts) (env : Env) : Bool → Sto → Option SO := fun u st => if u then execs c sa env st else execs c sb' env st
theorem x_if : exec c (.ifs t sa sb') env st = sb (evT c t env st) env (kIf c sa sb' env) := id rfl
theorem k_ifT : kIf c sa sb' env true st = execs c sa env st := id rfl
theorem k_ifF : kIf c sa sb' env false st = execs c sb' env st := id rfl
theorem k_ifI : kIf c sa sb' env bl st = if bl = true then execs c sa env st else execs c sb' env st := id rfl
def turnF (c : Cl) (g : Tg) (ss : Stts) : D → Env → Sto → Option SO := fun x env st => match g.put c env x with
        | some env => execs c ss env st
        | none => none
theorem turnF_s {env' : Env} (h : g.put c env x = some env') : turnF c g ss x env st = execs c ss env' st := by unfold turnF; rw [h]
def kFor (c : Cl) (g : Tg) (ss : Stts) (env : Env) : Ito → Sto → Option SO := fun j st => forL (turnF (c.lk j.locks) g ss) j.xs env st
theorem x_for : exec c (.for_ g it ss) env st = sb (evI c it env st) env (kFor c g ss env) := id rfl
theorem k_for {q : Ito} : kFor c g ss env q st = forL (turnF (c.lk q.locks) g ss) q.xs env st := id rfl
def Ex.isV : Ex → Bool
  | .var _ => true
  | _ => false
def kRet : SV → Sto → Option SO := fun v st => match v with
      | .d x => some (.rt (.d x) st)
      | .c .own x => some (.rt (.c .own x) st)
      | _ => none
theorem k_retD : kRet (.d x) st = some (.rt (.d x) st) := id rfl
theorem k_retO {y : Cn} : kRet (.c .own y) st = some (.rt (.c .own y) st) := id rfl
theorem x_ret (h : e.isV = false) : exec c (.ret e) env st = sb (ev c e env st) env kRet := by cases e <;> first | rfl | cases h
theorem x_ret_bin : exec c (.ret (.bin o a b)) env st = sb (ev c (.bin o a b) env st) env kRet := id rfl
theorem x_ret_cmp : exec c (.ret (.cmp p a b)) env st = sb (ev c (.cmp p a b) env st) env kRet := id rfl
theorem x_ret_and : exec c (.ret (.and a b)) env st = sb (ev c (.and a b) env st) env kRet := id rfl
theorem x_ret_or : exec c (.ret (.or a b)) env st = sb (ev c (.or a b) env st) env kRet := id rfl
theorem x_ret_not : exec c (.ret (.not a)) env st = sb (ev c (.not a) env st) env kRet := id rfl
theorem x_ret_ite : exec c (.ret (.ite t a b)) env st = sb (ev c (.ite t a b) env st) env kRet := id rfl
theorem x_ret_cst : exec c (.ret (.cst x)) env st = sb (ev c (.cst x) env st) env kRet := id rfl
theorem x_ret_tup : exec c (.ret (.tup es)) env st = sb (ev c (.tup es) env st) env kRet := id rfl
theorem x_ret_lst : exec c (.ret (.lst es)) env st = sb (ev c (.lst es) env st) env kRet := id rfl
theorem x_ret_rev : exec c (.ret (.rev a)) env st = sb (ev c (.rev a) env st) env kRet := id rfl
theorem x_ret_idx : exec c (.ret (.idx a b)) env st = sb (ev c (.idx a b) env st) env kRet := id rfl
theorem x_ret_slice : exec c (.ret (.slice a b d)) env st = sb (ev c (.slice a b d) env st) env kRet := id rfl
theorem x_ret_neg : exec c (.ret (.neg a)) env st = sb (ev c (.neg a) env st) env kRet := id rfl
theorem x_ret_lc : exec c (.ret (.lc g it t e)) env st = sb (ev c (.lc g it t e) env st) env kRet := id rfl
theorem x_ret_call {f : Nat} : exec c (.ret (.call f es)) env st = sb (ev c (.call f es) env st) env kRet := id rfl
theorem x_ret_bi {f : Bi} : exec c (.ret (.bi f es)) env st = sb (ev c (.bi f es) env st) env kRet := id rfl
theorem x_retV : exec c (.ret (.var i)) env st = match env[i]? with
      | some (some (.d x)) => some (.rt (.d x) st)
      | some (some (.c .own x)) => if free c i then some (.rt (.c .own x) st) else none
      | _ => none := rfl
theorem x_retN : exec c .retN env st = some (.rt (.d .non) st) := id rfl
theorem x_brk : exec c .brk env st = some (.bk env st) := id rfl
theorem x_cnt : exec c .cnt env st = some (.ct env st) := id rfl
theorem x_pass : exec c .pass env st = some (.nx env st) := id rfl
def kApp2 (c : Cl) (l : Lc) (env : Env) : D → Sto → Option SO := fun y st => match l.get c env st with
    | some (.l xs) => if xs.length < sizeLine then some (.nx (l.set (.l (xs ++ [y])) env st).1 (l.set (.l (xs ++ [y])) env st).2) else none
    | _ => none
def kApp1 (c : Cl) (l : Lc) (env : Env) : SV → Sto → Option SO := fun v st => sb (toD v st) env (kApp2 c l env)
def kApp (c : Cl) (v : Ex) (env : Env) : Lc → Sto → Option SO := fun l st => sb (ev (c.lk [l.ow]) v env st) env (kApp1 c l env)
theorem x_app {q : Pl} : exec c (.app q e) env st = sb (resolveK Cn.isL c q env st) env (kApp c e env) := id rfl
theorem r_slot {xs : List D} (h : env[i]? = some (some (.c .own (.l xs)))) : resolveK Cn.isL c (.nm i) env st = ok (.slot i) st := by
  have h2 : resolve c (.nm i) env st = ok (.slot i) st := by simp only [resolve, h]
  unfold resolveK
  rw [h2, rb_ok]
  simp only [Lc.ow, Ow.cont, h, Cn.isL, if_true]
theorem k_app {q : Lc} : kApp c e env q st = sb (ev (c.lk [q.ow]) e env st) env (kApp1 c q env) := id rfl
theorem k_app1 {q : Lc} : kApp1 c q env u st = sb (toD u st) env (kApp2 c q env) := id rfl
theorem k_app2 {xs : List D} (hf : free c i = true) (h : env[i]? = some (some (.c .own (.l xs)))) (hl : xs.length < sizeLine) : kApp2 c (.slot i) env x st = some (.nx (env.set i (some (.c .own (.l (xs ++ [x]))))) st) := by
  have hf' : c.locks.contains (.s i) = false := by
    have : (!c.locks.contains (Ow.s i)) = true := hf
    simpa using this
  have h2 : (Lc.slot i).get c env st = some (.l xs) := by simp only [Lc.get, Lc.ow, hf', Ow.cont, h]; rfl
  unfold kApp2
  rw [h2]
  exact if_pos hl
def kTurnE (c : Cl) (t : Tx) (e : Ex) (o : Option Env) (st : Sto) : Res (Option SV) := match o with
        | some env => rb (evT c t env st) (kTurn c e env)
        | none => none
theorem turn_c : turnC c g t e env x st = kTurnE c t e (g.set (wipeE env g.own) x) st := id rfl
theorem k_turnE : kTurnE c t e (some env) st = rb (evT c t env st) (kTurn c e env) := id rfl
def kTurnF (c : Cl) (ss : Stts) (o : Option Env) (st : Sto) : Option SO := match o with
        | some env => execs c ss env st
        | none => none
theorem turn_f : turnF c g ss x env st = kTurnF c ss (g.put c env x) st := id rfl
theorem k_turnFE : kTurnF c ss (some env) st = execs c ss env st := id rfl
theorem compL_fm {turn : D → Sto → Res (Option SV)} {f : D → Option D} : ∀ {xs acc : List D}, (∀ x ∈ xs, turn x st = some (.ok ((f x).map .d) st)) → acc.length + xs.length ≤ sizeLine → compL turn xs acc st = ok (acc ++ xs.filterMap f) st
  | [], acc, _, _ => by simp [compL]
  | x :: xs, acc, h, hl => by
    have h1 := h x (List.mem_cons_self ..)
    have h2 : ∀ y ∈ xs, turn y st = some (.ok ((f y).map .d) st) := fun y z => h y (List.mem_cons_of_mem _ z)
    rw [List.length_cons] at hl
    unfold compL
    rw [h1]
    cases e : f x with
    | none =>
      show compL turn xs acc st = _
      rw [compL_fm h2 (by omega), List.filterMap_cons_none e]
    | some y =>
      show (match toD (.d y) st with | some (.ok y st) => if acc.length < sizeLine then compL turn xs (acc ++ [y]) st else none | _ => none) = _
      show (if acc.length < sizeLine then compL turn xs (acc ++ [y]) st else none) = _
      rw [if_pos (by omega), compL_fm h2 (by rw [List.length_append, List.length_singleton]; omega), List.filterMap_cons_some e, List.append_assoc]
      rfl
theorem compL_map {turn : D → Sto → Res (Option SV)} {f : D → D} {xs : List D} (h : ∀ x ∈ xs, turn x st = some (.ok (some (.d (f x))) st)) (hl : xs.length ≤ sizeLine) : compL turn xs [] st = ok (xs.map f) st := by
  rw [compL_fm (f := fun x => some (f x)) h (by simpa using hl)]
  have : List.filterMap (fun x => some (f x)) xs = xs.map f := by simp
  rw [this]
  rfl
/-- a loop, by what stands ahead of each turn -/
theorem forL_inv {turn : D → Env → Sto → Option SO} {Q : SO → Prop} {xs : List D} (I : Nat → Env → Sto → Prop) (h0 : I 0 env st)
    (h1 : ∀ k x, xs[k]? = some x → ∀ env st, I k env st → ∃ r, turn x env st = some r ∧ match r with
      | .nx env st => I (k + 1) env st
      | .ct env st => I (k + 1) env st
      | .bk env st => Q (.nx env st)
      | r => Q r)
    (h2 : ∀ env st, I xs.length env st → Q (.nx env st)) : ∃ r, forL turn xs env st = some r ∧ Q r := by
  induction xs generalizing I env st with
  | nil => exact ⟨_, rfl, h2 _ _ h0⟩
  | cons x xs ih =>
    obtain ⟨r, e, q⟩ := h1 0 x rfl env st h0
    have go : ∀ env st, I 1 env st → ∃ r, forL turn xs env st = some r ∧ Q r := fun env st h => ih (fun k => I (k + 1)) h (fun k y hy env st hI => h1 (k + 1) y (by simpa using hy) env st hI) h2
    unfold forL
    rw [e]
    cases r with
    | nx env st => exact go _ _ q
    | ct env st => exact go _ _ q
    | bk env st => exact ⟨_, rfl, q⟩
    | rt v st => exact ⟨_, rfl, q⟩
    | ex y env st => exact ⟨_, rfl, q⟩
theorem all_true {q : Kd} {xs : List D} (h : ∀ x ∈ xs, x = .bl true) : biF .all [.c q (.l xs)] st = ok (.d (.bl true)) st := by
  have h1 : xs.all D.isBl = true := List.all_eq_true.mpr fun x z => by rw [h x z]; rfl
  have h2 : (xs.map D.bl').all id = true := List.all_eq_true.mpr fun b z => by
    obtain ⟨x, z1, z2⟩ := List.mem_map.mp z
    rw [h x z1] at z2
    rw [← z2]; rfl
  show (match allBl xs with | some bs => ok (SV.d (.bl (bs.all id))) st | none => none) = _
  unfold allBl
  rw [if_pos h1]
  show ok (SV.d (.bl ((xs.map D.bl').all id))) st = _
  rw [h2]
theorem all_map {q : Kd} {xs : List D} : biF .all [.c q (.l (xs.map fun _ => .bl true))] st = ok (.d (.bl true)) st := all_true fun x z => by obtain ⟨y, _, e⟩ := List.mem_map.mp z; exact e.symm
theorem mem_rangeD {n : Nat} (h : x ∈ rangeD 0 n) : ∃ k : Nat, k < n ∧ x = .int k := by
  obtain ⟨k, h1, h2⟩ := List.mem_map.mp h
  exact ⟨k, List.mem_range.mp h1, by rw [← h2, Int.zero_add]⟩
theorem range_at {n k : Nat} (h : (rangeD 0 n)[k]? = some x) : k < n ∧ x = .int k := by
  unfold rangeD at h
  rw [List.getElem?_map] at h
  by_cases hk : k < n
  · rw [List.getElem?_range hk] at h
    cases h
    exact ⟨hk, by show D.int (0 + (k : Int)) = _; rw [Int.zero_add]⟩
  · rw [List.getElem?_eq_none (by rw [List.length_range]; omega)] at h
    cases h
theorem len_range {a : Int} {n : Nat} : (rangeD a n).length = n := by unfold rangeD; rw [List.length_map, List.length_range]
theorem toNatN {k : Nat} : ((k : Int)).toNat = k := Int.toNat_natCast k
theorem filN_nil {p : Nat → Bool} : List.filter p [] = [] := id rfl
theorem filN_cons {p : Nat → Bool} {k : Nat} {ks : List Nat} : List.filter p (k :: ks) = if p k = true then k :: List.filter p ks else List.filter p ks := List.filter_cons
theorem smallN {k : Nat} (h : k < 4611686018427387904) : smallI (k : Int) = true := by
  unfold smallI
  rw [decide_eq_true (by omega), decide_eq_true (by omega)]; rfl
def kSlot (i : Nat) (o : Option (Option SV)) (st : Sto) : Res Lc := match o with
    | some (some (.c .own x)) => if x.isL then ok (Lc.slot i) st else none
    | some (some (.d (.ref k))) => match st[k]? with
      | some (.con x) => if x.isL then ok (.cell k) st else none
      | _ => none
    | _ => none
theorem r_nm : resolveK Cn.isL c (.nm i) env st = kSlot i (env[i]?) st := by
  unfold resolveK kSlot
  cases e : env[i]? with
  | none => simp only [resolve, e]; rfl
  | some o =>
    cases o with
    | none => simp only [resolve, e]; rfl
    | some v =>
      cases v with
      | d x =>
        cases x with
        | ref k =>
          simp only [resolve, e, rb_ok, Lc.ow, Ow.cont]
          cases e2 : st[k]? with
          | none => rfl
          | some y => cases y <;> rfl
        | _ => simp only [resolve, e]; rfl
      | c kd x =>
        cases kd with
        | own => simp only [resolve, e, rb_ok, Lc.ow, Ow.cont]
        | _ => simp only [resolve, e]; rfl
      | x y => simp only [resolve, e]; rfl
theorem k_slot {xs : List D} : kSlot i (some (some (.c .own (.l xs)))) st = ok (.slot i) st := id rfl
theorem k_cellS {k : Nat} : kSlot i (some (some (.d (.ref k)))) st = match st[k]? with
      | some (.con x) => if x.isL then ok (.cell k) st else none
      | _ => none := id rfl
def kPush (i : Nat) (o : Option (Option SV)) (env : Env) (x : D) (st : Sto) : Option SO := match o with
    | some (some (.c .own (.l xs))) => if xs.length < sizeLine then some (.nx (env.set i (some (.c .own (.l (xs ++ [x]))))) st) else none
    | _ => none
theorem k_app3 (hf : free c i = true) : kApp2 c (.slot i) env x st = kPush i (env[i]?) env x st := by
  have hf' : c.locks.contains (.s i) = false := by
    have : (!c.locks.contains (Ow.s i)) = true := hf
    simpa using this
  unfold kApp2 Lc.get kPush
  cases e : env[i]? with
  | none => simp only [Lc.ow, hf', Ow.cont, e]; rfl
  | some o =>
    cases o with
    | none => simp only [Lc.ow, hf', Ow.cont, e]; rfl
    | some v =>
      cases v with
      | d x => simp only [Lc.ow, hf', Ow.cont, e]; rfl
      | c kd x =>
        cases kd with
        | own => cases x <;> simp only [Lc.ow, hf', Ow.cont, e] <;> rfl
        | _ => simp only [Lc.ow, hf', Ow.cont, e]; rfl
      | x y => simp only [Lc.ow, hf', Ow.cont, e]; rfl
theorem k_push {xs : List D} (h : xs.length < sizeLine) : kPush i (some (some (.c .own (.l xs)))) env x st = some (.nx (env.set i (some (.c .own (.l (xs ++ [x]))))) st) := if_pos h
theorem rev_c {q : Kd} {xs : List D} : revS (.c q (.l xs)) st = ok (.c .own (.l xs.reverse)) st := id rfl
theorem sl_tail {xs : List D} : slc (.d (.tup (x :: xs))) (some 1) none st = ok (.d (.tup xs)) st := by
  show ok (SV.d (.tup (cut (x :: xs) (some 1) none))) st = _
  have : cut (x :: xs) (some 1) none = xs := by
    unfold cut HT.sIx
    simp
  rw [this]
theorem cast0 : ((0 : Nat) : Int) = 0 := id rfl
/-! the same data -/
def Lay (n : Nat) (d : PyData) : Prop := d.canLay0 = true ∧ d.depth ≤ n
def LayA (n : Nat) (ds : List PyData) : Prop := PyData.canLayAll0 ds = true ∧ PyData.depthAll ds ≤ n
theorem lay_int {n : Nat} {i : Int} : Lay n (.int i) := ⟨rfl, Nat.zero_le _⟩
theorem lay_bool {n : Nat} {b : Bool} : Lay n (.bool b) := ⟨rfl, Nat.zero_le _⟩
theorem lay_none {n : Nat} : Lay n .none := ⟨rfl, Nat.zero_le _⟩
theorem layA_nil {n : Nat} : LayA n [] := ⟨rfl, Nat.zero_le _⟩
theorem layA_cons {n : Nat} {d : PyData} {ds : List PyData} (h : Lay n d) (t : LayA n ds) : LayA n (d :: ds) := by
  refine ⟨?_, Nat.max_le.mpr ⟨h.2, t.2⟩⟩
  show (d.canLay0 && PyData.canLayAll0 ds) = true
  rw [h.1, t.1]; rfl
theorem lay_tup {n : Nat} {ds : List PyData} (t : LayA n ds) : Lay (n + 1) (.tuple ds) := ⟨t.1, Nat.succ_le_succ t.2⟩
theorem lay_lst {n : Nat} {ds : List PyData} (t : LayA n ds) : Lay (n + 1) (.list ds) := ⟨t.1, Nat.succ_le_succ t.2⟩
theorem lay_shp {n : Nat} {d : PyData} (h : Lay n d) (le : n ≤ 64) : SeqAt.shaped d = true := by
  show (d.canLay0 && decide (d.depth ≤ 64)) = true
  rw [h.1, decide_eq_true (Nat.le_trans h.2 le)]; rfl
/-- data that == may look through -/
def Lk (n : Nat) (st : Sto) (x : D) : Prop := ∃ d, D.look st depthL x = some d ∧ Lay n d
theorem lk_list {m : Nat} {xs : List D} (h : ∀ x ∈ xs, Lk m st x) : ∃ ds, D.looks st depthL xs = some ds ∧ LayA m ds := by
  induction xs with
  | nil => exact ⟨[], rfl, layA_nil⟩
  | cons x xs ih =>
    obtain ⟨ds, h1, h2⟩ := ih fun y z => h y (List.mem_cons_of_mem _ z)
    obtain ⟨d, h3, h4⟩ := h x (List.mem_cons_self ..)
    refine ⟨d :: ds, ?_, layA_cons h4 h2⟩
    show (match D.look st depthL x, D.looks st depthL xs with | some d, some ds => some (d :: ds) | _, _ => none) = _
    rw [h3, h1]
theorem lk_int {m : Nat} {i : Int} : Lk m st (.int i) := ⟨_, rfl, lay_int⟩
theorem lk_non {m : Nat} : Lk m st .non := ⟨_, rfl, lay_none⟩
theorem lk_bl {m : Nat} {b : Bool} : Lk m st (.bl b) := ⟨_, rfl, lay_bool⟩
theorem lk_tup {m : Nat} {xs : List D} (h : ∀ x ∈ xs, Lk m st x) : Lk (m + 1) st (.tup xs) := by
  obtain ⟨ds, h1, h2⟩ := lk_list h
  refine ⟨.tuple ds, ?_, lay_tup h2⟩
  show (D.looks st depthL xs).map PyData.tuple = _
  rw [h1]; rfl
theorem or_some {o m : Option Bool} {b : Bool} (h : o = some b) : o.or m = some b := by rw [h]; rfl
theorem eq_same_l {p q : Kd} {kt : List (List D)} {xs : List D} (h : ∀ x ∈ xs, Lk 60 st x) : cmp kt .eq (.c p (.l xs)) (.c q (.l xs)) st = some true := by
  obtain ⟨ds, h1, h2⟩ := lk_list h
  have hs := lay_shp (lay_lst h2) (by decide)
  refine or_some (o := eqP (pyL st xs) (pyL st xs)) (m := eqM (some (.l xs)) (some (.l xs))) ?_
  unfold pyL
  rw [h1]
  show eqP (if SeqAt.shaped (.list ds) = true then some (.list ds) else none) (if SeqAt.shaped (.list ds) = true then some (.list ds) else none) = _
  rw [if_pos hs]
  exact congrArg some (SeqAt.eqv_refl _ (SeqAt.canLay_of_shaped hs))
/-- an answer, and what holds of it -/
def Wp (o : Option SO) (Q : SO → Prop) : Prop := ∃ r, o = some r ∧ Q r
theorem wp_some {r : SO} {Q : SO → Prop} (h : Q r) : Wp (some r) Q := ⟨r, rfl, h⟩
theorem wp_res {o : Option SO} {R : Res SV} (h : Wp o fun r => result (some r) = R) : result o = R := by obtain ⟨r, e, q⟩ := h; rw [e]; exact q
theorem wp_mono {o : Option SO} {Q Q' : SO → Prop} (h : Wp o Q) (hq : ∀ r, Q r → Q' r) : Wp o Q' := by obtain ⟨r, e, q⟩ := h; exact ⟨r, e, hq r q⟩
theorem wp_for {turn : D → Env → Sto → Option SO} {k : Env → Sto → Option SO} {Q : SO → Prop} {xs : List D} (I : Nat → Env → Sto → Prop) (h0 : I 0 env st)
    (h1 : ∀ i x, xs[i]? = some x → ∀ env st, I i env st → Wp (turn x env st) fun r => match r with
      | .nx env st => I (i + 1) env st
      | .ct env st => I (i + 1) env st
      | .bk env st => Wp (k env st) Q
      | r => Q r)
    (h2 : ∀ env st, I xs.length env st → Wp (k env st) Q) : Wp (sq (forL turn xs env st) k) Q := by
  obtain ⟨r, e, q⟩ := forL_inv (Q := fun r => Wp (sq (some r) k) Q) I h0 (fun i x hx env st hI => by
    obtain ⟨r, e, q⟩ := h1 i x hx env st hI
    refine ⟨r, e, ?_⟩
    cases r with
    | nx env st => exact q
    | ct env st => exact q
    | bk env st => exact q
    | rt v st => exact ⟨_, rfl, q⟩
    | ex y env st => exact ⟨_, rfl, q⟩) h2
  rw [e]; exact q
theorem map_at {γ : Type} {f : γ → D} {ls : List γ} {i : Nat} (h : (ls.map f)[i]? = some x) : ∃ l, ls[i]? = some l ∧ x = f l := by
  rw [List.getElem?_map] at h
  cases e : ls[i]? with
  | none => rw [e] at h; cases h
  | some l => rw [e] at h; cases h; exact ⟨l, rfl, rfl⟩
theorem stay_par {y : Cn} : stayOf (.c .par y) = [] := id rfl
theorem stay_scr {y : Cn} : stayOf (.c .scr y) = [] := id rfl
theorem stay_own {y : Cn} : stayOf (.c .own y) = [] := id rfl
theorem stay_at {w : Ow} {y : Cn} : stayOf (.c (.at w) y) = [w] := id rfl
theorem s_beq {i j : Nat} : (Ow.s i == Ow.s j) = decide (i = j) := by
  rw [Bool.eq_iff_iff, decide_eq_true_eq, beq_iff_eq]
  exact ⟨fun h => by cases h; rfl, fun h => by rw [h]⟩
theorem dlen {xs : List D} : (rangeD 0 xs.length).length = xs.length := by unfold rangeD; rw [List.length_map, List.length_range]
/-! operators -/
theorem b_add {z y : Int} : bin .add (.d (.int z)) (.d (.int y)) st = ok (.d (.int (z + y))) st := id rfl
theorem b_sub {z y : Int} : bin .sub (.d (.int z)) (.d (.int y)) st = ok (.d (.int (z - y))) st := id rfl
theorem b_mul {z y : Int} (h : mulOk z y = true) : bin .mul (.d (.int z)) (.d (.int y)) st = ok (.d (.int (z * y))) st := if_pos h
theorem b_div {z y : Int} (h : divOk y = true) : bin .div (.d (.int z)) (.d (.int y)) st = ok (.d (.int (z / y))) st := if_pos h
theorem b_mod {z y : Int} (h : 0 < y) : bin .mod (.d (.int z)) (.d (.int y)) st = ok (.d (.int (z % y))) st := if_pos h
theorem b_pow {z y : Int} (h : powOk z y = true) : bin .pow (.d (.int z)) (.d (.int y)) st = ok (.d (.int (z ^ y.toNat))) st := if_pos h
variable {kt : List (List D)} {z y : Int}
theorem c_lt : cmp kt .lt (.d (.int z)) (.d (.int y)) st = some (decide (z < y)) := id rfl
theorem c_le : cmp kt .le (.d (.int z)) (.d (.int y)) st = some (decide (z ≤ y)) := id rfl
theorem c_gt : cmp kt .gt (.d (.int z)) (.d (.int y)) st = some (decide (y < z)) := id rfl
theorem c_ge : cmp kt .ge (.d (.int z)) (.d (.int y)) st = some (decide (y ≤ z)) := id rfl
theorem c_eq : cmp kt .eq (.d (.int z)) (.d (.int y)) st = some (decide (z = y)) := id rfl
theorem c_ne : cmp kt .ne (.d (.int z)) (.d (.int y)) st = some (!decide (z = y)) := id rfl
theorem c_eqB {z y : Bool} : cmp kt .eq (.d (.bl z)) (.d (.bl y)) st = some (decide (z = y)) := id rfl
theorem c_eqS {z y : Str} : cmp kt .eq (.d (.str z)) (.d (.str y)) st = some (decide (z = y)) := id rfl
theorem c_isN : cmp kt .is (.d x) (.d .non) st = some (decide (x = .non)) := id rfl
theorem c_isntN : cmp kt .isnt (.d x) (.d .non) st = some (!decide (x = .non)) := id rfl
theorem ix_tup {xs : List D} : idx kt (.d (.tup xs)) (.d (.int z)) st = L2.atI xs z := id rfl
theorem ix_c {q : Kd} {xs : List D} : idx kt (.c q (.l xs)) (.d (.int z)) st = L2.atI xs z := id rfl
theorem bi_lenT {xs : List D} : biF .len [.d (.tup xs)] st = ok (.d (.int xs.length)) st := id rfl
theorem bi_lenC {q : Kd} {xs : List D} : biF .len [.c q (.l xs)] st = ok (.d (.int xs.length)) st := id rfl
theorem bi_int' : biF .int [.d (.int z)] st = ok (.d (.int z)) st := id rfl
theorem bi_listT {xs : List D} : biF .list [.d (.tup xs)] st = ok (.c .own (.l xs)) st := id rfl
theorem bi_listC {q : Kd} {xs : List D} : biF .list [.c q (.l xs)] st = ok (.c .own (.l xs)) st := id rfl
theorem bi_tupleT {xs : List D} : biF .tuple [.d (.tup xs)] st = ok (.d (.tup xs)) st := id rfl
theorem bi_tupleC {q : Kd} {xs : List D} : biF .tuple [.c q (.l xs)] st = ok (.d (.tup xs)) st := id rfl
theorem bi_isi {q : Ty} : biF (.isi q) [u] st = bok (isTy q u st) st := id rfl
theorem tr_bl : truth (.d (.bl bl)) st = some bl := id rfl
theorem tr_int : truth (.d (.int z)) st = some (decide (z ≠ 0)) := id rfl
theorem tr_tup {xs : List D} : truth (.d (.tup xs)) st = some (!xs.isEmpty) := id rfl
theorem tr_c {q : Kd} {xs : List D} : truth (.c q (.l xs)) st = some (!xs.isEmpty) := id rfl
theorem tr_non : truth (.d .non) st = some false := id rfl
theorem q_tupS {xs : List D} : itSeq (.d (.tup xs)) st = ok ⟨xs, []⟩ st := id rfl
theorem q_cS {q : Kd} {xs : List D} : itSeq (.c q (.l xs)) st = ok ⟨xs, stayOf (.c q (.l xs))⟩ st := id rfl
theorem q_cM {q : Kd} {kvs : List (Key × D)} : itSeq (.c q (.m kvs)) st = ok ⟨kvs.map fun p => keyD p.1, stayOf (.c q (.m kvs))⟩ st := id rfl
theorem q_tup {xs : List D} : itRow (.d (.tup xs)) st = ok ⟨xs, []⟩ st := id rfl
theorem q_c {q : Kd} {xs : List D} : itRow (.c q (.l xs)) st = ok ⟨xs, stayOf (.c q (.l xs))⟩ st := id rfl
theorem rt_nx : result (some (.nx env st)) = ok (.d .non) st := id rfl
theorem rt_rt : result (some (.rt u st)) = ok u st := id rfl
theorem res_congr {r r' : Option SO} (h : r = r') : result r = result r' := by rw [h]
end
end Tv

namespace Tv
open PySem L2
section
variable {c : Cl} {env : Env} {st : Sto} {a b e : Ex} {g : Tg} {it : Tv.It} {t : Tx} {u w : SV} {kt : List (List D)} {x y : D} {z m : Int}
theorem sq_assoc {r : Option SO} {k l : Env → Sto → Option SO} : sq (sq r k) l = sq r fun env st => sq (k env st) l := by
  cases r with
  | none => rfl
  | some o => cases o <;> rfl
/-! sets of pairs -/
def kCount : List (List Int) → Sto → Res SV := fun ks st => ok (.d (.int ks.length)) st
theorem k_count {ks : List (List Int)} : kCount ks st = ok (.d (.int ks.length)) st := id rfl
def kLs (c : Cl) (g : Tg) (t : Tx) (e : Ex) (env : Env) : Ito → Sto → Res SV := fun j st => rb (compS (turnC (c.lk j.locks) g t e env) j.xs [] st) kCount
theorem e_ls : ev c (.lenset g it t e) env st = rb (evI c it env st) (kLs c g t e env) := id rfl
theorem k_ls {q : Ito} : kLs c g t e env q st = rb (compS (turnC (c.lk q.locks) g t e env) q.xs [] st) kCount := id rfl
theorem compS_go {turn : D → Sto → Res (Option SV)} {f : D → List Int} : ∀ {xs : List D} {acc : List (List Int)}, (∀ x ∈ xs, turn x st = some (.ok (some (.d (.tup ((f x).map .int)))) st)) → (acc ++ xs.map f).Nodup → acc.length + xs.length < 64 → compS turn xs acc st = ok (acc ++ xs.map f) st
  | [], acc, _, _, _ => by rw [List.map_nil, List.append_nil]; rfl
  | x :: xs, acc, h, nd, hl => by
    have hx := h x List.mem_cons_self
    have e1 : allInt ((f x).map D.int) = some (f x) := by
      unfold allInt
      have h1 : ((f x).map D.int).all D.isInt = true := by rw [List.all_map]; exact List.all_eq_true.mpr fun _ _ => rfl
      rw [if_pos h1, List.map_map]
      exact congrArg some (by rw [show D.int' ∘ D.int = id from rfl, List.map_id])
    have h2 : f x ∉ acc := fun z => by
      have := List.nodup_append.mp nd
      exact this.2.2 _ z _ (List.mem_map.mpr ⟨x, List.mem_cons_self, rfl⟩) rfl
    rw [List.length_cons] at hl
    show (match turn x st with
      | some (.ok none st) => compS turn xs acc st
      | some (.ok (some (.d (.tup ds))) st) => match allInt ds with
        | some k => if acc.length + 1 < 64 then compS turn xs (putI acc k) st else none
        | none => none
      | _ => none) = _
    rw [hx]
    dsimp only
    rw [e1]
    dsimp only
    rw [if_pos (by omega)]
    have e3 : putI acc (f x) = acc ++ [f x] := if_neg h2
    rw [e3, compS_go (fun y hy => h y (List.mem_cons_of_mem _ hy)) (by rw [List.append_assoc]; exact nd) (by rw [List.length_append]; simp only [List.length_cons, List.length_nil]; omega), List.append_assoc]
    rfl
theorem compS_map {turn : D → Sto → Res (Option SV)} {f : D → List Int} {xs : List D} (h : ∀ x ∈ xs, turn x st = some (.ok (some (.d (.tup ((f x).map .int)))) st)) (nd : (xs.map f).Nodup) (hl : xs.length < 64) : compS turn xs [] st = ok (xs.map f) st :=
  compS_go (acc := []) h nd (by simpa using hl)
/-! two rows at once -/
def kZip4 (j : Ito) : Ito → Sto → Res Ito := fun k st => ok ⟨(j.xs.zip k.xs).map fun p => .tup [p.1, p.2], j.locks ++ k.locks⟩ st
def kZip3 (j : Ito) : SV → Sto → Res Ito := fun w st => rb (itRow w st) (kZip4 j)
def kZip2 (c : Cl) (b : Ex) (env : Env) : Ito → Sto → Res Ito := fun j st => rb (ev (c.lk j.locks) b env st) (kZip3 j)
def kZip1 (c : Cl) (b : Ex) (env : Env) : SV → Sto → Res Ito := fun u st => rb (itRow u st) (kZip2 c b env)
theorem i_zip : evI c (.zip a b) env st = rb (ev c a env st) (kZip1 c b env) := id rfl
theorem k_zip1 : kZip1 c b env u st = rb (itRow u st) (kZip2 c b env) := id rfl
theorem k_zip2 {j : Ito} : kZip2 c b env j st = rb (ev (c.lk j.locks) b env st) (kZip3 j) := id rfl
theorem k_zip3 {j : Ito} : kZip3 j w st = rb (itRow w st) (kZip4 j) := id rfl
theorem k_zip4 {j k : Ito} : kZip4 j k st = ok ⟨(j.xs.zip k.xs).map fun p => .tup [p.1, p.2], j.locks ++ k.locks⟩ st := id rfl
/-! a value dropped -/
def kDrop (env : Env) : SV → Sto → Option SO := fun _ st => some (.nx env st)
theorem x_drop : exec c (.drop e) env st = sb (ev c e env st) env (kDrop env) := id rfl
theorem k_drop : kDrop env u st = some (.nx env st) := id rfl
/-! operators -/
theorem bi_max2 : biF .max [.d (.int z), .d (.int m)] st = ok (.d (.int (if m > z then m else z))) st := id rfl
theorem bi_min2 : biF .min [.d (.int z), .d (.int m)] st = ok (.d (.int (if m < z then m else z))) st := id rfl
def maxF (a : Int) (xs : List Int) : Int := xs.foldl (fun a b => if b > a then b else a) a
theorem maxF_le {B : Int} : ∀ {xs : List Int} {a : Int}, a ≤ B → (∀ x ∈ xs, x ≤ B) → maxF a xs ≤ B
  | [], _, h, _ => h
  | x :: xs, a, h, hx => by
    show maxF (if x > a then x else a) xs ≤ B
    refine maxF_le ?_ fun y hy => hx y (List.mem_cons_of_mem _ hy)
    split
    · exact hx x List.mem_cons_self
    · exact h
theorem allInt_map {is : List Int} : allInt (is.map D.int) = some is := by
  unfold allInt
  have h1 : (is.map D.int).all D.isInt = true := by rw [List.all_map]; exact List.all_eq_true.mpr fun _ _ => rfl
  rw [if_pos h1, List.map_map]
  exact congrArg some (by rw [show D.int' ∘ D.int = id from rfl, List.map_id])
theorem bi_maxL {q : Kd} {is : List Int} {i : Int} : biF .max [.c q (.l (.int i :: is.map .int))] st = ok (.d (.int (maxF i is))) st := by
  show (match (allInt ((i :: is).map D.int)).bind maxL with
      | some i => ok (SV.d (.int i)) st
      | none => none) = _
  rw [allInt_map]
  rfl
theorem sl_two {xs : List D} : slc (.d (.tup (x :: y :: xs))) none (some 2) st = ok (.d (.tup [x, y])) st := by
  show ok (SV.d (.tup (cut (x :: y :: xs) none (some 2)))) st = _
  have : cut (x :: y :: xs) none (some 2) = [x, y] := by
    unfold cut HT.sIx
    simp
  rw [this]
theorem sl_take {xs : List D} (h : 0 ≤ z) : slc (.d (.tup xs)) none (some z) st = ok (.d (.tup (xs.take z.toNat))) st := by
  show ok (SV.d (.tup (cut xs none (some z)))) st = _
  have : cut xs none (some z) = xs.take z.toNat := by
    unfold cut HT.sIx
    simp only [List.drop_zero]
    rw [if_neg (by omega), List.take_eq_take_iff]
    simp
    try omega
  rw [this]
theorem sl_takeC {xs : List D} {q : Kd} (h : 0 ≤ z) : slc (.c q (.l xs)) none (some z) st = ok (.c .own (.l (xs.take z.toNat))) st := by
  show ok (SV.c .own (.l (cut xs none (some z)))) st = _
  have : cut xs none (some z) = xs.take z.toNat := by
    unfold cut HT.sIx
    simp only [List.drop_zero]
    rw [if_neg (by omega), List.take_eq_take_iff]
    simp
    try omega
  rw [this]
theorem c_eqT2 {i j : Int} : cmp kt .eq (.d (.tup [.int z, .int m])) (.d (.tup [.int i, .int j])) st = some (decide (z = i) && decide (m = j)) := by
  show some (PyData.eqv (.tuple [.int z, .int m]) (.tuple [.int i, .int j])) = _
  congr 1
  show ((z == i) && ((m == j) && true)) = _
  rw [Bool.and_true, Bool.eq_iff_iff]
  simp
theorem c_neT2 {i j : Int} : cmp kt .ne (.d (.tup [.int z, .int m])) (.d (.tup [.int i, .int j])) st = some (!(decide (z = i) && decide (m = j))) := by
  show (cmp kt .eq (.d (.tup [.int z, .int m])) (.d (.tup [.int i, .int j])) st).map (!·) = _
  rw [c_eqT2]
  rfl
theorem inP_ints {is : List Int} {q : Kd} : inS kt (.d (.int z)) (.c q (.l (is.map .int))) st = some (decide (z ∈ is)) := by
  have h1 : ∀ x ∈ is.map D.int, Lk 1 st x := fun x hx => by
    obtain ⟨i, _, rfl⟩ := List.mem_map.mp hx
    exact lk_int
  have e1 : D.looks st depthL (is.map D.int) = some (is.map PyData.int) := by
    clear h1
    induction is with
    | nil => rfl
    | cons i is ih =>
      show (match D.look st depthL (.int i), D.looks st depthL (is.map D.int) with | some d, some ds => some (d :: ds) | _, _ => none) = _
      rw [ih]
      rfl
  obtain ⟨ds, h2, h3⟩ := lk_list h1
  rw [e1] at h2
  cases h2
  have hs := lay_shp (lay_lst h3) (by decide)
  show inP (some (.int z)) (pyL st (is.map D.int)) = _
  have e2 : pyL st (is.map D.int) = some (.list (is.map PyData.int)) := by
    unfold pyL
    rw [e1]
    show (if SeqAt.shaped (.list (is.map PyData.int)) = true then some _ else none) = _
    rw [if_pos hs]
  rw [e2]
  show some ((is.map PyData.int).any fun y => PyData.eqv y (.int z)) = _
  congr 1
  rw [List.any_map, Bool.eq_iff_iff, List.any_eq_true, decide_eq_true_eq]
  constructor
  · rintro ⟨i, hi, e⟩
    have e' : (i == z) = true := e
    rw [eq_of_beq e'] at hi
    exact hi
  · exact fun h => ⟨z, h, (beq_self_eq_true z : (z == z) = true)⟩
theorem c_inI {is : List Int} {q : Kd} : cmp kt .in (.d (.int z)) (.c q (.l (is.map .int))) st = some (decide (z ∈ is)) := inP_ints (kt := kt) (q := q)
theorem c_notinI {is : List Int} {q : Kd} : cmp kt .notin (.d (.int z)) (.c q (.l (is.map .int))) st = some (!decide (z ∈ is)) := by
  show (inS kt (.d (.int z)) (.c q (.l (is.map .int))) st).map (!·) = _
  rw [inP_ints]
  rfl
theorem lk_str {m : Nat} {x : Str} (h : PyData.strOk x = true) : Lk m st (.str x) := ⟨_, rfl, h, Nat.zero_le _⟩
/-- == of two tuples that may be looked through -/
theorem c_eqTT {xs ys : List D} {a b : PyData} (h1 : D.look st depthL (.tup xs) = some a) (h2 : Lay 60 a) (h3 : D.look st depthL (.tup ys) = some b) (h4 : Lay 60 b) : cmp kt .eq (.d (.tup xs)) (.d (.tup ys)) st = some (PyData.eqv a b) := by
  refine or_some (o := eqP (pyD st (.tup xs)) (pyD st (.tup ys))) (m := eqM none none) ?_
  unfold pyD
  rw [h1, h3]
  show eqP (if SeqAt.shaped a = true then some a else none) (if SeqAt.shaped b = true then some b else none) = _
  rw [if_pos (lay_shp h2 (by decide)), if_pos (lay_shp h4 (by decide))]
  rfl
theorem c_eqSame {xs : List D} (h : Lk 60 st (.tup xs)) : cmp kt .eq (.d (.tup xs)) (.d (.tup xs)) st = some true := by
  obtain ⟨d, h1, h2⟩ := h
  rw [c_eqTT h1 h2 h1 h2]
  exact congrArg some (SeqAt.eqv_refl _ (SeqAt.canLay_of_shaped (lay_shp h2 (by decide))))
theorem c_neL {p q : Kd} {xs : List D} (h : ∀ x ∈ xs, Lk 60 st x) : cmp kt .ne (.c p (.l xs)) (.c q (.l xs)) st = some false := by
  show (cmp kt .eq (.c p (.l xs)) (.c q (.l xs)) st).map (!·) = _
  rw [eq_same_l h]
  rfl
end
end Tv

namespace Tv
open PySem L2
section
variable {c : Cl} {env : Env} {st : Sto} {a b e k : Ex} {es : Exs} {u w : SV} {kt : List (List D)} {x y : D} {z m : Int} {i : Nat}
/-! dicts -/
def kDct2 : List D → Sto → Res SV := fun xs st => match pairUp xs with
    | some ps => if ps.length ≤ 15 then ok (.c .own (.m (putAll [] ps))) st else none
    | none => none
def kDct : List SV → Sto → Res SV := fun as st => rb (toDs as st) kDct2
theorem e_dct : ev c (.dct es) env st = rb (evs c es env st) kDct := id rfl
theorem k_dct {as : List SV} : kDct as st = rb (toDs as st) kDct2 := id rfl
theorem k_dct1 : kDct2 [.int z, x] st = ok (.c .own (.m [(.inl z, x)])) st := id rfl
theorem e_dct0K : ev c (.dct0 false) env st = ok (.c .own (.m [])) st := id rfl
theorem e_dct0T : ev c (.dct0 true) env st = ok (.c .own (.t [])) st := id rfl
theorem bi_dictC {q : Kd} {kvs : List (Key × D)} : biF .dict [.c q (.m kvs)] st = ok (.c .own (.m kvs)) st := id rfl
theorem ix_m {q : Kd} {kvs : List (Key × D)} : idx kt (.c q (.m kvs)) (.d (.int z)) st = look kvs (.inl z) := id rfl
theorem c_inM {q : Kd} {kvs : List (Key × D)} : cmp kt .in (.d (.int z)) (.c q (.m kvs)) st = some (look kvs (.inl z)).isSome := id rfl
theorem c_notinM {q : Kd} {kvs : List (Key × D)} : cmp kt .notin (.d (.int z)) (.c q (.m kvs)) st = some (!(look kvs (.inl z)).isSome) := id rfl
theorem is_some {α : Type} {x : α} : (some x).isSome = true := id rfl
theorem is_none {α : Type} : (none : Option α).isSome = false := id rfl
def kPut4 (c : Cl) (l : Lc) (kv : SV) (env : Env) : D → Sto → Option SO := fun y st => match (l.get c env st).bind fun x => putD c.kts x kv y with
        | some x => some (.nx (l.set x env st).1 (l.set x env st).2)
        | none => none
def kPut3 (c : Cl) (l : Lc) (u : SV) (env : Env) : SV → Sto → Option SO := fun kv st => sb (toD u st) env (kPut4 c l kv env)
def kPut2 (c : Cl) (k : Ex) (u : SV) (env : Env) : Lc → Sto → Option SO := fun l st => sb (ev (c.lk (l.ow :: lockOf u)) k env st) env (kPut3 c l u env)
def kPut (c : Cl) (p : Pl) (k : Ex) (env : Env) : SV → Sto → Option SO := fun u st => sb (resolve (c.lk (lockOf u)) p env st) env (kPut2 c k u env)
theorem x_put {p : Pl} : exec c (.put p k e) env st = sb (ev c e env st) env (kPut c p k env) := id rfl
theorem k_put {p : Pl} : kPut c p k env u st = sb (resolve (c.lk (lockOf u)) p env st) env (kPut2 c k u env) := id rfl
theorem k_put2 {l : Lc} : kPut2 c k u env l st = sb (ev (c.lk (l.ow :: lockOf u)) k env st) env (kPut3 c l u env) := id rfl
theorem k_put3 {l : Lc} : kPut3 c l u env w st = sb (toD u st) env (kPut4 c l w env) := id rfl
def kSlot0 (i : Nat) (o : Option (Option SV)) (st : Sto) : Res Lc := match o with
    | some (some (.c .own _)) => ok (.slot i) st
    | some (some (.d (.ref k))) => ok (.cell k) st
    | _ => none
theorem r_nm0 : resolve c (.nm i) env st = kSlot0 i (env[i]?) st := id rfl
theorem k_slot0 {x : Cn} : kSlot0 i (some (some (.c .own x))) st = ok (.slot i) st := id rfl
def kPutM (c : Cl) (i : Nat) (o : Option (Option SV)) (kv : SV) (env : Env) (y : D) (st : Sto) : Option SO := match o with
    | some (some (.c .own x)) => match putD c.kts x kv y with
      | some x => some (.nx (env.set i (some (.c .own x))) st)
      | none => none
    | _ => none
theorem k_put4 (hf : free c i = true) : kPut4 c (.slot i) w env y st = kPutM c i (env[i]?) w env y st := by
  have hf' : c.locks.contains (.s i) = false := by
    have : (!c.locks.contains (Ow.s i)) = true := hf
    simpa using this
  have hf2 : c.locks.contains (Lc.slot i).ow = false := hf'
  unfold kPut4 Lc.get kPutM
  rw [hf2]
  have hc : (Lc.slot i).ow.cont env st = match env[i]? with | some (some (.c .own x)) => some x | _ => none := rfl
  rw [hc]
  cases e : env[i]? with
  | none => rfl
  | some o =>
    cases o with
    | none => rfl
    | some v =>
      cases v with
      | d x => rfl
      | x y => rfl
      | c kd x =>
        cases kd with
        | own =>
          show (match putD c.kts x w y with
            | some x => some (SO.nx ((Lc.slot i).set x env st).1 ((Lc.slot i).set x env st).2)
            | none => none) = (match putD c.kts x w y with
            | some x => some (SO.nx (env.set i (some (.c .own x))) st)
            | none => none)
          cases putD c.kts x w y <;> rfl
        | _ => rfl
theorem k_putM {kvs : List (Key × D)} (hl : kvs.length < sizeLine) : kPutM c i (some (some (.c .own (.m kvs)))) (.d (.int z)) env y st = some (.nx (env.set i (some (.c .own (.m (put kvs (.inl z) y))))) st) := by
  show (match (if kvs.length < sizeLine then some (Cn.m (put kvs (.inl z) y)) else none) with
      | some x => some (SO.nx (env.set i (some (.c .own x))) st)
      | none => none) = _
  rw [if_pos hl]
theorem b_addT {xs ys : List D} (h : xs.length + ys.length ≤ sizeLine) : bin .add (.d (.tup xs)) (.d (.tup ys)) st = ok (.d (.tup (xs ++ ys))) st := if_pos h
/-! a container gets a place of its own -/
def kProm (c : Cl) (i : Nat) (o : Option (Option SV)) (env : Env) (st : Sto) : Option SO := match o with
    | some (some (.c .own x)) => if free c i then some (.nx (env.set i (some (.d (.ref st.length)))) (st ++ [.con x])) else none
    | _ => some (.nx env st)
theorem x_prom : exec c (.prom i) env st = kProm c i (env[i]?) env st := id rfl
theorem k_promO {x : Cn} (h : free c i = true) : kProm c i (some (some (.c .own x))) env st = some (.nx (env.set i (some (.d (.ref st.length)))) (st ++ [.con x])) := if_pos h
theorem k_promD : kProm c i (some (some (.d x))) env st = some (.nx env st) := id rfl
end
end Tv
namespace Tv
open PySem L2
section
variable {st : Sto} {kt : List (List D)} {x : D} {z : Int} {k : Nat}
/-! what stands at a place of its own -/
def kRef (o : Option Cell) (z : Int) : Option D := match o with
  | some (.con (.l xs)) => L2.atI xs z
  | some (.con (.m kvs)) => look kvs (.inl z)
  | _ => none
theorem ix_ref : idx kt (.d (.ref k)) (.d (.int z)) st = kRef (st[k]?) z := by
  show (match (match st[k]? with | some (.con x) => some x | _ => none) with
      | some (.l xs) => L2.atI xs z
      | some (.m kvs) => look kvs (.inl z)
      | some (.t kvs) => none
      | none => none) = _
  cases st[k]? with
  | none => rfl
  | some c =>
    cases c with
    | ins C fs => rfl
    | con x => cases x <;> rfl
theorem k_refL {xs : List D} : kRef (some (.con (.l xs))) z = L2.atI xs z := id rfl
def kIsL (o : Option Cell) : Option Bool := match o with
  | some (.con (.l _)) => some true
  | some (.con (.m _)) => some false
  | _ => none
theorem ty_ref : isTy .list (.d (.ref k)) st = kIsL (st[k]?) := by
  show (match st[k]? with
    | some (.con (.l _)) => some (decide (Ty.list = Ty.list))
    | some (.con (.m _)) => some (decide (Ty.list = Ty.dict))
    | _ => none) = _
  cases st[k]? with
  | none => rfl
  | some c =>
    cases c with
    | ins C fs => rfl
    | con x => cases x <;> rfl
theorem k_isL {xs : List D} : kIsL (some (.con (.l xs))) = some true := id rfl
def kTupR (o : Option Cell) (st : Sto) : Res SV := match o with
  | some (.con (.l xs)) => ok (.d (.tup xs)) st
  | _ => none
theorem bi_tupleR : biF .tuple [.d (.ref k)] st = kTupR (st[k]?) st := by
  show (match (match st[k]? with | some (.con x) => some x | _ => none) with
      | some (.l xs) => ok (SV.d (.tup xs)) st
      | _ => none) = _
  cases st[k]? with
  | none => rfl
  | some c =>
    cases c with
    | ins C fs => rfl
    | con x => cases x <;> rfl
theorem k_tupR {xs : List D} : kTupR (some (.con (.l xs))) st = ok (.d (.tup xs)) st := id rfl
theorem last_at {c : Cell} : (st ++ [c])[st.length]? = some c := by rw [List.getElem?_append_right (Nat.le_refl _), Nat.sub_self]; rfl
/-- x in xs, x one of them -/
theorem c_in_mem {q : Kd} {xs : List D} {ys : List D} (h : .tup ys ∈ xs) (hl : ∀ y ∈ xs, Lk 60 st y) : cmp kt .in (.d (.tup ys)) (.c q (.l xs)) st = some true := by
  obtain ⟨ds, h1, h2⟩ := lk_list hl
  obtain ⟨d, h3, h4⟩ := hl _ h
  have hs := lay_shp (lay_lst h2) (by decide)
  have hs2 := lay_shp h4 (by decide)
  show inP (pyD st (.tup ys)) (pyL st xs) = _
  have e1 : pyD st (.tup ys) = some d := by
    unfold pyD
    rw [h3]
    show (if SeqAt.shaped d = true then some d else none) = _
    rw [if_pos hs2]
  have e2 : pyL st xs = some (PyData.list ds) := by
    unfold pyL
    rw [h1]
    show (if SeqAt.shaped (PyData.list ds) = true then some (PyData.list ds) else none) = _
    rw [if_pos hs]
  rw [e1, e2]
  show some (ds.any fun z => PyData.eqv z d) = _
  congr 1
  have hm : d ∈ ds := by
    clear hs e2 h2 e1
    induction xs generalizing ds with
    | nil => cases h
    | cons a xs ih =>
      have h1' : (match D.look st depthL a, D.looks st depthL xs with | some d, some ds => some (d :: ds) | _, _ => none) = some ds := h1
      split at h1'
      · rename_i d' ds' e1 e2
        cases h1'
        rcases List.mem_cons.mp h with e | h
        · subst e
          rw [h3] at e1
          cases e1
          exact List.mem_cons_self
        · exact List.mem_cons_of_mem _ (ih h (fun y hy => hl y (List.mem_cons_of_mem _ hy)) ds' e2)
      · cases h1'
  exact List.any_eq_true.mpr ⟨d, hm, SeqAt.eqv_refl _ (SeqAt.canLay_of_shaped hs2)⟩
theorem c_notin_mem {q : Kd} {xs : List D} {ys : List D} (h : .tup ys ∈ xs) (hl : ∀ y ∈ xs, Lk 60 st y) : cmp kt .notin (.d (.tup ys)) (.c q (.l xs)) st = some false := by
  show (cmp kt .in (.d (.tup ys)) (.c q (.l xs)) st).map (!·) = _
  rw [c_in_mem h hl]
  rfl
end
end Tv
namespace Tv
open PySem L2
section
variable {c : Cl} {env : Env} {st : Sto} {y : D} {z m : Int} {i : Nat} {a b : Ex} {u : SV}
/-! dicts by pairs -/
theorem ix_t {q : Kd} {kvs : List (List Key × D)} : idx [] (.c q (.t kvs)) (.d (.tup [.int z, .int m])) st = look kvs [.inl z, .inl m] := id rfl
theorem c_notinT {q : Kd} {kvs : List (List Key × D)} : cmp [] .notin (.d (.tup [.int z, .int m])) (.c q (.t kvs)) st = some (!(look kvs [.inl z, .inl m]).isSome) := id rfl
theorem k_putT {kvs : List (List Key × D)} (hk : c.kts = []) (hl : kvs.length < sizeLine) : kPutM c i (some (some (.c .own (.t kvs)))) (.d (.tup [.int z, .int m])) env y st = some (.nx (env.set i (some (.c .own (.t (put kvs [.inl z, .inl m] y))))) st) := by
  show (match putD c.kts (.t kvs) (.d (.tup [.int z, .int m])) y with
      | some x => some (SO.nx (env.set i (some (.c .own x))) st)
      | none => none) = _
  rw [hk]
  show (match (if kvs.length < sizeLine then some (Cn.t (put kvs [.inl z, .inl m] y)) else none) with
      | some x => some (SO.nx (env.set i (some (.c .own x))) st)
      | none => none) = _
  rw [if_pos hl]
/-! with their places -/
def kEnum2 (s : Int) : Ito → Sto → Res Ito := fun j st => ok ⟨(j.xs.zipIdx).map fun p => .tup [.int (s + p.2), p.1], j.locks⟩ st
def kEnum (s : Int) : SV → Sto → Res Ito := fun u st => rb (itRow u st) (kEnum2 s)
theorem i_enum {s : Int} : evI c (.enum a s) env st = rb (ev c a env st) (kEnum s) := id rfl
theorem k_enum {s : Int} : kEnum s u st = rb (itRow u st) (kEnum2 s) := id rfl
theorem k_enum2 {s : Int} {j : Ito} : kEnum2 s j st = ok ⟨(j.xs.zipIdx).map fun p => .tup [.int (s + p.2), p.1], j.locks⟩ st := id rfl
end
end Tv

/-! steps over instances -/
namespace Tv
open PySem L2
theorem ofS_inj {a b : String} (h : Str.ofString a = Str.ofString b) : a = b := by
  rw [Str.ofString_eq_toList, Str.ofString_eq_toList] at h
  have h1 : a.toList.map Char.toNat = b.toList.map Char.toNat := by
    injection h with h
    simpa using congrArg Array.toList h
  have h2 : a.toList = b.toList := by
    have inj : ∀ (l m : List Char), l.map Char.toNat = m.map Char.toNat → l = m := by
      intro l
      induction l with
      | nil => intro m hm; cases m with | nil => rfl | cons c m => cases hm
      | cons c l ih =>
        intro m hm
        cases m with
        | nil => cases hm
        | cons d m =>
          rw [List.map_cons, List.map_cons, List.cons.injEq] at hm
          rw [ih m hm.2, Char.toNat_inj.mp hm.1]
    exact inj _ _ h1
  exact String.toList_inj.mp h2
theorem s_eqP {a b : String} : (Str.ofString a = Str.ofString b) = (a = b) := propext ⟨ofS_inj, fun h => by rw [h]⟩
theorem s_eqB {a b : String} : (Str.ofString a == Str.ofString b) = decide (a = b) := by
  by_cases h : a = b
  · subst h; rw [decide_eq_true rfl]; exact beq_self_eq_true _
  · rw [decide_eq_false h]
    exact beq_eq_false_iff_ne.mpr fun z => h (ofS_inj z)
section
variable {α β : Type} {P : Prog} {n i j m C f : Nat} {L l : List Ow} {env : Env} {st : Sto} {c : Cl} {a b d e v : Ex} {es : Exs} {u w : SV} {x y : D} {fs : List (Str × FV)} {g h : Str} {cs : List (Nat × Nat)} {cn : Cn} {cell : Cell} {k : Env → Sto → Option SO}
/-! locks -/
def Ow.obj : Ow → Option Nat
  | .c k => some k
  | .f k _ => some k
  | .s _ => none
/-- nothing of the instance or the container i is locked -/
def LkF (L : List Ow) (i : Nat) : Prop := ∀ o ∈ L, o.obj ≠ some i
theorem lkf_nil : LkF [] i = True := propext ⟨fun _ => trivial, fun _ o h => by cases h⟩
theorem lkf_filter {p : Ow → Bool} (h : LkF L i) : LkF (L.filter p) i := fun o ho => h o (List.mem_filter.mp ho).1
theorem lkf_filt : LkF (L.filter Ow.inStore) i = LkF L i := propext ⟨fun h o ho z => by
  cases o with
  | s j => cases z
  | c k => exact h _ (List.mem_filter.mpr ⟨ho, rfl⟩) z
  | f k g => exact h _ (List.mem_filter.mpr ⟨ho, rfl⟩) z, lkf_filter⟩
theorem lkf_c : LkF (.c j :: L) i = (j ≠ i ∧ LkF L i) := propext ⟨fun h => ⟨fun z => h (.c j) List.mem_cons_self (by rw [z]; rfl), fun o ho => h o (List.mem_cons_of_mem _ ho)⟩, fun h o ho => by
  rcases List.mem_cons.mp ho with rfl | ho
  · intro z; exact h.1 (Option.some.inj z)
  · exact h.2 o ho⟩
theorem lkf_f : LkF (.f j g :: L) i = (j ≠ i ∧ LkF L i) := propext ⟨fun h => ⟨fun z => h (.f j g) List.mem_cons_self (by rw [z]; rfl), fun o ho => h o (List.mem_cons_of_mem _ ho)⟩, fun h o ho => by
  rcases List.mem_cons.mp ho with rfl | ho
  · intro z; exact h.1 (Option.some.inj z)
  · exact h.2 o ho⟩
theorem lkf_s : LkF (.s j :: L) i = LkF L i := propext ⟨fun h o ho => h o (List.mem_cons_of_mem _ ho), fun h o ho => by
  rcases List.mem_cons.mp ho with rfl | ho
  · intro z; cases z
  · exact h o ho⟩
theorem lkf_app {L M : List Ow} : LkF (L ++ M) i = (LkF L i ∧ LkF M i) := propext ⟨fun h => ⟨fun o ho => h o (List.mem_append.mpr (.inl ho)), fun o ho => h o (List.mem_append.mpr (.inr ho))⟩, fun h o ho => (List.mem_append.mp ho).elim (h.1 o) (h.2 o)⟩
theorem nlk {o : Ow} (h : LkF L i) (ho : o.obj = some i) : (P.cl (P.call n) L).locks.contains o = false := by
  rw [Bool.eq_false_iff]
  intro z
  exact h o (List.contains_iff_mem.mp z) ho
theorem may_ok (h : LkF L i) : mayFld (P.cl (P.call n) L) i g = true := by
  unfold mayFld
  rw [nlk h rfl, nlk h rfl]
  rfl
/-! fields read -/
def attrV (i : Nat) (f : Str) (o : Option FV) (st : Sto) : Res SV := match o with
  | some (FV.d x) => ok (SV.d x) st
  | some (FV.c false x) => ok (SV.c (.at (.f i f)) x) st
  | some (FV.c true x) => ok (SV.c .par x) st
  | none => none
def attrO (i : Nat) (f : Str) (o : Option Cell) (st : Sto) : Res SV := match o with
  | some (.ins _ fs) => attrV i f (fs.lookup f) st
  | _ => none
def kAttr (f : Str) : SV → Sto → Res SV := fun u st => attr u f st
theorem e_attr : ev c (.attr a g) env st = rb (ev c a env st) (kAttr g) := id rfl
theorem k_attr : kAttr g (.d (.ref i)) st = attrO i g (st[i]?) st := by
  unfold kAttr attr attrO
  cases e : st[i]? with
  | none => simp only [insAt, e]
  | some y =>
    cases y with
    | con x => simp only [insAt, e]
    | ins C fs =>
      simp only [insAt, e]
      unfold attrV
      cases fs.lookup g with
      | none => rfl
      | some y => cases y with
        | d x => rfl
        | c z x => cases z <;> rfl
theorem attr_o : attrO i g (some (Cell.ins C fs)) st = attrV i g (fs.lookup g) st := id rfl
theorem attr_d : attrV i g (some (FV.d x)) st = ok (SV.d x) st := id rfl
theorem attr_c : attrV i g (some (FV.c false cn)) st = ok (SV.c (.at (.f i g)) cn) st := id rfl
theorem attr_z : attrV i g (some (FV.c true cn)) st = ok (SV.c .par cn) st := id rfl
/-! instances at ids -/
def insO (i : Nat) (o : Option Cell) : Option (Nat × Nat × List (Str × FV)) := match o with
  | some (.ins C fs) => some (i, C, fs)
  | _ => none
theorem ins_at : insAt st (.d (.ref i)) = insO i (st[i]?) := by
  show (match st[i]? with | some (.ins C fs) => some (i, C, fs) | _ => none) = _
  cases st[i]? with
  | none => rfl
  | some y => cases y <;> rfl
theorem ins_o : insO i (some (Cell.ins C fs)) = some (i, C, fs) := id rfl
/-! methods -/
def kMeth1 (c : Cl) (cs : List (Nat × Nat)) (es : Exs) (env : Env) (o : Option (Nat × Nat × List (Str × FV))) (st : Sto) : Res SV := match o with
    | some (i, C, _) => match cs.lookup C with
      | some f => rb (evs c es env st) fun as st => c.go f (.d (.ref i) :: as) st
      | none => none
    | none => none
def kMeth (c : Cl) (cs : List (Nat × Nat)) (es : Exs) (env : Env) : SV → Sto → Res SV := fun u st => kMeth1 c cs es env (insAt st u) st
theorem e_meth : ev c (.meth a cs es) env st = rb (ev c a env st) (kMeth c cs es env) := id rfl
theorem k_meth : kMeth c cs es env (.d (.ref i)) st = kMeth1 c cs es env (insO i (st[i]?)) st := by rw [← ins_at]; rfl
def kMethG (c : Cl) (f i : Nat) : List SV → Sto → Res SV := fun as st => c.go f (.d (.ref i) :: as) st
def kMeth2 (c : Cl) (o : Option Nat) (es : Exs) (env : Env) (i : Nat) (st : Sto) : Res SV := match o with
      | some f => rb (evs c es env st) (kMethG c f i)
      | none => none
theorem k_meth1 : kMeth1 c cs es env (some (i, C, fs)) st = kMeth2 c (cs.lookup C) es env i st := id rfl
theorem k_meth2 : kMeth2 c (some f) es env i st = rb (evs c es env st) (kMethG c f i) := id rfl
theorem k_methG {as : List SV} : kMethG c f i as st = c.go f (.d (.ref i) :: as) st := id rfl
def kProp1 (c : Cl) (cs : List (Nat × Nat)) (o : Option (Nat × Nat × List (Str × FV))) (st : Sto) : Res SV := match o with
    | some (i, C, _) => match cs.lookup C with
      | some f => nox (c.go f [.d (.ref i)] st)
      | none => none
    | none => none
def kProp (c : Cl) (cs : List (Nat × Nat)) : SV → Sto → Res SV := fun u st => kProp1 c cs (insAt st u) st
theorem e_prop : ev c (.prop a cs) env st = rb (ev c a env st) (kProp c cs) := id rfl
theorem k_prop : kProp c cs (.d (.ref i)) st = kProp1 c cs (insO i (st[i]?)) st := by rw [← ins_at]; rfl
def kProp2 (c : Cl) (o : Option Nat) (i : Nat) (st : Sto) : Res SV := match o with
      | some f => nox (c.go f [.d (.ref i)] st)
      | none => none
theorem k_prop1 : kProp1 c cs (some (i, C, fs)) st = kProp2 c (cs.lookup C) i st := id rfl
theorem k_prop2 : kProp2 c (some f) i st = nox (c.go f [.d (.ref i)] st) := id rfl
theorem nox_ok {r : SV} : nox (some (.ok r st)) = ok r st := id rfl
theorem lk_hit : List.lookup C ((C, f) :: cs) = some f := by rw [List.lookup_cons, beq_self_eq_true]
theorem lk_cons {D : Nat} : List.lookup C ((D, f) :: cs) = if C = D then some f else cs.lookup C := by
  rw [List.lookup_cons]
  by_cases h : C = D
  · subst h; rw [if_pos rfl, beq_self_eq_true]
  · rw [if_neg h, beq_eq_false_iff_ne.mpr h]
/-! new instances -/
def kMade (n : Nat) : SV → Sto → Res SV := fun u st' => match u with
        | .d .non => ok (.d (.ref n)) st'
        | _ => none
def kMake (c : Cl) (C f : Nat) : List SV → Sto → Res SV := fun as st => rb (c.go f (.d (.ref st.length) :: as) (st ++ [.ins C []])) (kMade st.length)
theorem e_make : ev c (.make C f es) env st = rb (evs c es env st) (kMake c C f) := id rfl
theorem k_make {as : List SV} : kMake c C f as st = rb (c.go f (.d (.ref st.length) :: as) (st ++ [.ins C []])) (kMade st.length) := id rfl
theorem k_made : kMade m (.d .non) st = ok (.d (.ref m)) st := id rfl
/-! fields stored -/
def fldO (c : Cl) (i : Nat) (f : Str) (y : Option FV) (o : Option Cell) (env : Env) (st : Sto) (k : Env → Sto → Option SO) : Option SO := match o with
  | some (.ins C fs) => if mayFld c i f && (decide (fs.length < 1000) && okFld c C f fs) then match y with
        | some y => k env (st.set i (.ins C (putFs f y fs)))
        | none => none
      else none
  | _ => none
def kStore (c : Cl) (f : Str) (v : SV) (env : Env) (k : Env → Sto → Option SO) : SV → Sto → Option SO := fun u st => match insAt st u with
    | some (i, C, fs) => if mayFld c i f && (decide (fs.length < 1000) && okFld c C f fs) then match fvOf v with
        | some x => k env (setFld st i f x)
        | none => none
      else none
    | none => none
theorem e_store : store c env e g u st k = sb (ev c e env st) env (kStore c g u env k) := id rfl
theorem k_store : kStore c g u env k (.d (.ref i)) st = fldO c i g (fvOf u) (st[i]?) env st k := by
  unfold kStore fldO
  rw [ins_at]
  cases e : st[i]? with
  | none => rfl
  | some y =>
    cases y with
    | con x => rfl
    | ins C fs =>
      have : ∀ z, setFld st i g z = st.set i (.ins C (putFs g z fs)) := fun z => by unfold setFld; rw [e]
      simp only [insO, this]
theorem fld_o {z : FV} (h : LkF L i) (hl : fs.length < 1000) (ho : okFld (P.cl (P.call n) L) C g fs = true) : fldO (P.cl (P.call n) L) i g (some z) (some (.ins C fs)) env st k = k env (st.set i (.ins C (putFs g z fs))) := by
  show (if (mayFld (P.cl (P.call n) L) i g && (decide (fs.length < 1000) && okFld (P.cl (P.call n) L) C g fs)) = true then k env (st.set i (.ins C (putFs g z fs))) else none) = _
  rw [may_ok h, ho, decide_eq_true hl]
  rfl
theorem fv_d : fvOf (.d x) = some (.d x) := id rfl
theorem fv_c : fvOf (.c .own cn) = some (.c false cn) := id rfl
theorem okf_hit {z : FV} : okFld c C g ((g, z) :: fs) = true := by unfold okFld; rw [List.lookup_cons]; simp
theorem okf_cons {z : FV} : okFld c C g ((h, z) :: fs) = (g == h || okFld c C g fs) := by
  unfold okFld
  rw [List.lookup_cons]
  cases g == h <;> rfl
theorem okf_nil : okFld (P.cl (P.call n) L) C g [] = P.flds.contains (C, g) := id rfl
theorem put_nil {z : FV} : putFs g z [] = [(g, z)] := id rfl
theorem put_cons {z y : FV} : putFs g z ((h, y) :: fs) = if h = g then (h, z) :: fs else (h, y) :: putFs g z fs := id rfl
def kFld (c : Cl) (e : Ex) (f : Str) (env : Env) : SV → Sto → Option SO := fun v st => store c env e f v st fun env st => some (.nx env st)
def kNx : Env → Sto → Option SO := fun env st => some (.nx env st)
theorem x_fld : exec c (.fld e g v) env st = sb (ev c v env st) env (kFld c e g env) := id rfl
theorem k_fld : kFld c e g env u st = sb (ev c e env st) env (kStore c g u env kNx) := id rfl
theorem k_nx : kNx env st = some (.nx env st) := id rfl
def kNxU (j : Nat) : Env → Sto → Option SO := fun env st => some (.nx (env.set j none) st)
theorem k_nxU : kNxU j env st = some (.nx (env.set j none) st) := id rfl
def kFldMv (c : Cl) (e : Ex) (f : Str) (j : Nat) (o : Option (Option SV)) (env : Env) (st : Sto) : Option SO := match o with
    | some (some (.c .own x)) => if free c j then store c env e f (.c .own x) st fun env st => some (.nx (env.set j none) st) else none
    | some (some (.d x)) => store c env e f (.d x) st fun env st => some (.nx env st)
    | _ => none
theorem x_fldMv : exec c (.fldMv e g j) env st = kFldMv c e g j (env[j]?) env st := id rfl
theorem k_fldMvO : kFldMv c e g j (some (some (.c .own cn))) env st = if free c j = true then sb (ev c e env st) env (kStore c g (.c .own cn) env (kNxU j)) else none := id rfl
theorem k_fldMvD : kFldMv c e g j (some (some (.d x))) env st = sb (ev c e env st) env (kStore c g (.d x) env kNx) := id rfl
/-- e.f, e.g = v, w -/
def kFld22 (c : Cl) (e : Ex) (f h : Str) (env : Env) (v : SV) : SV → Sto → Option SO := fun w st => match v, w with
    | .d x, .d y => store c env e f (.d x) st fun env st => store c env e h (.d y) st fun env st => some (.nx env st)
    | _, _ => none
def kFld21 (c : Cl) (e : Ex) (f h : Str) (b : Ex) (env : Env) : SV → Sto → Option SO := fun v st => sb (ev (c.lk (lockOf v)) b env st) env (kFld22 c e f h env v)
theorem x_fld2 : exec c (.fld2 e g h a b) env st = sb (ev c a env st) env (kFld21 c e g h b env) := id rfl
theorem k_fld21 : kFld21 c e g h b env u st = sb (ev (c.lk (lockOf u)) b env st) env (kFld22 c e g h env u) := id rfl
def kSto (c : Cl) (e : Ex) (f : Str) (v : SV) (k : Env → Sto → Option SO) : Env → Sto → Option SO := fun env st => sb (ev c e env st) env (kStore c f v env k)
theorem k_sto : kSto c e g u k env st = sb (ev c e env st) env (kStore c g u env k) := id rfl
theorem k_fld22 : kFld22 c e g h env (.d x) (.d y) st = sb (ev c e env st) env (kStore c g (.d x) env (kSto c e h (.d y) kNx)) := id rfl
/-- e.f op= v -/
def kAugF3 (c : Cl) (i C : Nat) (f : Str) (z : Option Int) (o : Option Cell) (env : Env) (st : Sto) : Option SO := match z with
  | some z => match o with
    | some (.ins C' fs) => if mayFld c i f && (decide (fs.length < 1000) && (decide (C' = C) && (fs.lookup f).isSome)) then some (.nx env (setFld st i f (.d (.int z)))) else none
    | _ => none
  | none => none
def kAugF2 (c : Cl) (i C : Nat) (f : Str) (o : Bo) (p : Int) (env : Env) : SV → Sto → Option SO := fun w st => match w with
    | .d (.int q) => kAugF3 c i C f (augI o p q) (st[i]?) env st
    | _ => none
def kAugF1 (c : Cl) (f : Str) (o : Bo) (v : Ex) (i C : Nat) (w : Option FV) (env : Env) (st : Sto) : Option SO := match w with
  | some (.d (.int p)) => sb (ev c v env st) env (kAugF2 c i C f o p env)
  | _ => none
def kAugF (c : Cl) (f : Str) (o : Bo) (v : Ex) (env : Env) : SV → Sto → Option SO := fun u st => match insAt st u with
    | some (i, C, fs) => kAugF1 c f o v i C (fs.lookup f) env st
    | none => none
theorem x_augFld {o : Bo} : exec c (.augFld e g o v) env st = sb (ev c e env st) env (kAugF c g o v env) := id rfl
def kAugO (c : Cl) (f : Str) (o : Bo) (v : Ex) (env : Env) (q : Option (Nat × Nat × List (Str × FV))) (st : Sto) : Option SO := match q with
    | some (i, C, fs) => kAugF1 c f o v i C (fs.lookup f) env st
    | none => none
theorem k_augF {o : Bo} : kAugF c g o v env (.d (.ref i)) st = kAugO c g o v env (insO i (st[i]?)) st := by rw [← ins_at]; rfl
theorem k_augO {o : Bo} : kAugO c g o v env (some (i, C, fs)) st = kAugF1 c g o v i C (fs.lookup g) env st := id rfl
theorem k_augF1 {o : Bo} {p : Int} : kAugF1 c g o v i C (some (FV.d (.int p))) env st = sb (ev c v env st) env (kAugF2 c i C g o p env) := id rfl
theorem k_augF2 {o : Bo} {p q : Int} : kAugF2 c i C g o p env (.d (.int q)) st = kAugF3 c i C g (augI o p q) (st[i]?) env st := id rfl
theorem aug_add {p q : Int} : augI .add p q = some (p + q) := id rfl
theorem aug_sub {p q : Int} : augI .sub p q = some (p - q) := id rfl
theorem k_augF3 {z : Int} (h : LkF L i) (e : st[i]? = some (.ins C fs)) (hl : fs.length < 1000) (hs : (fs.lookup g).isSome = true) : kAugF3 (P.cl (P.call n) L) i C g (some z) (some (.ins C fs)) env st = some (.nx env (st.set i (.ins C (putFs g (.d (.int z)) fs)))) := by
  have : setFld st i g (.d (.int z)) = st.set i (.ins C (putFs g (.d (.int z)) fs)) := by unfold setFld; rw [e]
  unfold kAugF3
  simp only [may_ok h, hl, hs, this, decide_true, Bool.and_true, if_true]
/-! containers of fields as places -/
def resV (i : Nat) (g : Str) (o : Option FV) (st : Sto) : Res Lc := match o with
  | some (FV.c false _) => ok (Lc.fld i g) st
  | some (FV.d (.ref k)) => ok (Lc.cell k) st
  | _ => none
def resO (i : Nat) (g : Str) (o : Option (Nat × Nat × List (Str × FV))) (st : Sto) : Res Lc := match o with
  | some (i, _, fs) => resV i g (fs.lookup g) st
  | none => none
def kRes (g : Str) : SV → Sto → Res Lc := fun u st => match insAt st u with
    | some (i, _, fs) => match fs.lookup g with
      | some (.c false _) => ok (.fld i g) st
      | some (.d (.ref k)) => ok (.cell k) st
      | _ => none
    | none => none
theorem r_fld : resolve c (.fld a g) env st = rb (ev c a env st) (kRes g) := id rfl
theorem k_res : kRes g (.d (.ref i)) st = resO i g (insO i (st[i]?)) st := by
  unfold kRes
  rw [ins_at]
  unfold resO insO
  cases st[i]? with
  | none => rfl
  | some y =>
    cases y with
    | con x => rfl
    | ins C fs =>
      simp only
      unfold resV
      cases fs.lookup g with
      | none => rfl
      | some y => cases y with
        | d x => cases x <;> rfl
        | c z x => cases z <;> rfl
theorem res_o : resO j g (some (i, C, fs)) st = resV i g (fs.lookup g) st := id rfl
theorem res_c : resV i g (some (FV.c false cn)) st = ok (Lc.fld i g) st := id rfl
def kKd (k : Cn → Bool) (env : Env) : Lc → Sto → Res Lc := fun l st => match l.ow.cont env st with
  | some x => if k x then ok l st else none
  | none => none
theorem r_kind {k : Cn → Bool} : resolveK k c (.fld a g) env st = rb (resolve c (.fld a g) env st) (kKd k env) := id rfl
def conV (o : Option FV) : Option Cn := match o with
  | some (FV.c false x) => some x
  | _ => none
def conO (g : Str) (o : Option Cell) : Option Cn := match o with
  | some (.ins _ fs) => conV (fs.lookup g)
  | _ => none
theorem con_f : (Lc.fld i g).ow.cont env st = conO g (st[i]?) := by
  show (match st[i]? with
  | some (.ins _ fs) => match fs.lookup g with
      | some (.c false x) => some x
      | _ => none
  | _ => none) = _
  cases st[i]? with
  | none => rfl
  | some y =>
    cases y with
    | con x => rfl
    | ins C fs =>
      show (match fs.lookup g with
      | some (.c false x) => some x
      | _ => none) = conV (fs.lookup g)
      cases fs.lookup g with
      | none => rfl
      | some y => cases y with
        | d x => rfl
        | c z x => cases z <;> rfl
def kdO (k : Cn → Bool) (l : Lc) (o : Option Cn) (st : Sto) : Res Lc := match o with
  | some x => if k x then ok l st else none
  | none => none
theorem k_kd {k : Cn → Bool} : kKd k env (.fld i g) st = kdO k (.fld i g) (conO g (st[i]?)) st := by rw [← con_f (env := env)]; rfl
theorem con_o : conO g (some (Cell.ins C fs)) = conV (fs.lookup g) := id rfl
theorem con_v : conV (some (FV.c false cn)) = some cn := id rfl
theorem kd_o {k : Cn → Bool} {l : Lc} : kdO k l (some cn) st = if k cn = true then ok l st else none := id rfl
theorem isL_l {xs : List D} : Cn.isL (.l xs) = true := id rfl
def appF (i : Nat) (g : Str) (o : Option Cn) (env : Env) (x : D) (st : Sto) : Option SO := match o with
  | some (.l xs) => if xs.length < sizeLine then some (.nx env (setFld st i g (.c false (.l (xs ++ [x]))))) else none
  | _ => none
theorem get_f (h : LkF L i) : (Lc.fld i g).get (P.cl (P.call n) L) env st = conO g (st[i]?) := by
  unfold Lc.get
  rw [con_f]
  show (if L.contains (Ow.f i g) = true then none else _) = _
  rw [if_neg]
  intro z
  exact h _ (List.contains_iff_mem.mp z) rfl
theorem k_appF (h : LkF L i) : kApp2 (P.cl (P.call n) L) (.fld i g) env x st = appF i g (conO g (st[i]?)) env x st := by
  unfold kApp2
  simp only [get_f h]
  rfl
theorem set_fld (e : st[i]? = some (.ins C fs)) {z : FV} : setFld st i g z = st.set i (.ins C (putFs g z fs)) := by unfold setFld; rw [e]
theorem app_f {xs : List D} (hl : xs.length < sizeLine) : appF i g (some (.l xs)) env x st = some (.nx env (setFld st i g (.c false (.l (xs ++ [x]))))) := if_pos hl
def setO (st : Sto) (i : Nat) (g : Str) (z : FV) (o : Option Cell) : Sto := match o with
  | some (.ins C fs) => st.set i (.ins C (putFs g z fs))
  | _ => st
theorem set_o {z : FV} : setFld st i g z = setO st i g z (st[i]?) := id rfl
theorem set_p {z : FV} : setO st i g z (some (Cell.ins C fs)) = st.set i (.ins C (putFs g z fs)) := id rfl
theorem c_isC {kt : List (List D)} {q : Kd} : cmp kt .is (.c q cn) (.d .non) st = some false := id rfl
theorem c_isntC {kt : List (List D)} {q : Kd} : cmp kt .isnt (.c q cn) (.d .non) st = some true := id rfl
theorem trk_own : trk (.c .own cn) = true := id rfl
theorem trk_par : trk (.c .par cn) = true := id rfl
theorem trk_at {o : Ow} : trk (.c (.at o) cn) = true := id rfl
theorem trk_d : trk (.d x) = true := id rfl
theorem b_addL {p q : Kd} {xs ys : List D} (hp : trk (.c p (.l xs)) = true) (hq : trk (.c q (.l ys)) = true) (h : xs.length + ys.length ≤ sizeLine) : bin .add (.c p (.l xs)) (.c q (.l ys)) st = ok (.c .own (.l (xs ++ ys))) st := by
  show (if trk (.c p (.l xs)) && trk (.c q (.l ys)) && decide (xs.length + ys.length ≤ sizeLine) then ok (SV.c .own (.l (xs ++ ys))) st else none) = _
  rw [hp, hq, decide_eq_true h]
  rfl
theorem s_beqF : (Ow.s i == Ow.f j g) = false := by rw [beq_eq_false_iff_ne]; intro z; cases z
theorem s_beqC : (Ow.s i == Ow.c j) = false := by rw [beq_eq_false_iff_ne]; intro z; cases z
theorem x_ret_attr : exec c (.ret (.attr a g)) env st = sb (ev c (.attr a g) env st) env kRet := id rfl
theorem x_ret_meth : exec c (.ret (.meth a cs es)) env st = sb (ev c (.meth a cs es) env st) env kRet := id rfl
theorem x_ret_prop : exec c (.ret (.prop a cs)) env st = sb (ev c (.prop a cs) env st) env kRet := id rfl
theorem x_ret_make : exec c (.ret (.make C f es)) env st = sb (ev c (.make C f es) env st) env kRet := id rfl
theorem x_ret_glob : exec c (.ret (.glob g x)) env st = sb (ev c (.glob g x) env st) env kRet := id rfl
theorem x_ret_dct : exec c (.ret (.dct es)) env st = sb (ev c (.dct es) env st) env kRet := id rfl
theorem lku_hit {β : Type} {y : β} {a b : String} {r : List (Str × β)} : List.lookup (Str.ofString a) ((Str.ofString b, y) :: r) = if a = b then some y else List.lookup (Str.ofString a) r := by
  rw [List.lookup_cons, s_eqB]
  by_cases h : a = b
  · rw [if_pos h, decide_eq_true h]
  · rw [if_neg h, decide_eq_false h]
theorem compL_fmG {γ : Type} {turn : D → Sto → Res (Option SV)} {g : γ → D} {f : γ → Option D} : ∀ {xs : List γ} {acc : List D}, (∀ x ∈ xs, turn (g x) st = some (.ok ((f x).map .d) st)) → acc.length + xs.length ≤ sizeLine → compL turn (xs.map g) acc st = ok (acc ++ xs.filterMap f) st
  | [], acc, _, _ => by simp [compL]
  | x :: xs, acc, h, hl => by
    have h1 := h x (List.mem_cons_self ..)
    have h2 : ∀ y ∈ xs, turn (g y) st = some (.ok ((f y).map .d) st) := fun y z => h y (List.mem_cons_of_mem _ z)
    rw [List.length_cons] at hl
    rw [List.map_cons]
    unfold compL
    rw [h1]
    cases e : f x with
    | none =>
      show compL turn (xs.map g) acc st = _
      rw [compL_fmG h2 (by omega), List.filterMap_cons_none e]
    | some y =>
      show (if acc.length < sizeLine then compL turn (xs.map g) (acc ++ [y]) st else none) = _
      rw [if_pos (by omega), compL_fmG h2 (by rw [List.length_append, List.length_singleton]; omega), List.filterMap_cons_some e, List.append_assoc]
      rfl
theorem fm_filt {γ : Type} {g : γ → D} {p : γ → Bool} : ∀ {ls : List γ}, ls.filterMap (fun x => if p x = true then some (g x) else none) = (ls.filter p).map g
  | [] => rfl
  | x :: ls => by
    by_cases h : p x = true
    · rw [List.filterMap_cons_some (b := g x) (by rw [if_pos h]), List.filter_cons_of_pos h, List.map_cons, fm_filt]
    · rw [List.filterMap_cons_none (by rw [if_neg h]), List.filter_cons_of_neg h, fm_filt]
theorem compL_filt {γ : Type} {turn : D → Sto → Res (Option SV)} {g : γ → D} (p : γ → Bool) {ls : List γ} (h : ∀ x ∈ ls, turn (g x) st = some (.ok (if p x = true then some (.d (g x)) else none) st)) (hl : ls.length ≤ sizeLine) : compL turn (ls.map g) [] st = ok ((ls.filter p).map g) st := by
  rw [compL_fmG (f := fun x => if p x = true then some (g x) else none) (fun x hx => by rw [h x hx]; cases p x <;> rfl) (by simpa using hl), fm_filt, List.nil_append]
/-- a loop that leaves at the first hit -/
theorem wp_find {γ : Type} {turn : D → Env → Sto → Option SO} {kk : Env → Sto → Option SO} {Q : SO → Prop} {g : γ → D} {ls : List γ} (p : γ → Bool) (v : γ → SV) (I : Env → Prop) (h0 : I env)
    (h1 : ∀ x ∈ ls, ∀ env, I env → Wp (turn (g x) env st) fun r => if p x = true then r = .rt (v x) st else ∃ env', r = .nx env' st ∧ I env')
    (hF : ∀ x ∈ ls, p x = true → Q (.rt (v x) st)) (hT : ls.any p = false → ∀ env, I env → Wp (kk env st) Q) : Wp (sq (forL turn (ls.map g) env st) kk) Q := by
  refine wp_for (fun i env s => s = st ∧ (∀ j, j < i → ∀ x, ls[j]? = some x → p x = false) ∧ I env) ⟨rfl, fun j h => absurd h (Nat.not_lt_zero _), h0⟩ ?_ ?_
  · rintro i y hy env s ⟨rfl, hno, hI⟩
    obtain ⟨x, hx, rfl⟩ := map_at hy
    have hm := List.mem_of_getElem? hx
    refine wp_mono (h1 x hm env hI) fun r hr => ?_
    by_cases hp : p x = true
    · rw [if_pos hp] at hr
      subst hr
      exact hF x hm hp
    · rw [if_neg hp] at hr
      obtain ⟨env', rfl, hI'⟩ := hr
      refine ⟨rfl, fun j hj z hz => ?_, hI'⟩
      by_cases e : j = i
      · subst e; rw [hx] at hz; cases hz; exact Bool.eq_false_iff.mpr hp
      · exact hno j (by omega) z hz
  · rintro env s ⟨rfl, hno, hI⟩
    refine hT ?_ env hI
    rw [List.any_eq_false]
    intro x hx
    obtain ⟨j, hj, e⟩ := List.mem_iff_getElem.mp hx
    rw [List.length_map] at hno
    exact Bool.eq_false_iff.mp (hno j hj x (by rw [List.getElem?_eq_getElem hj, e]))
/-! the store -/
theorem st_set (h : i < st.length) : (st.set i cell)[i]? = some cell := List.getElem?_set_self h
theorem st_setN (h : i ≠ j) : (st.set i cell)[j]? = st[j]? := List.getElem?_set_ne h
theorem st_set2 {cell' : Cell} : (st.set i cell).set i cell' = st.set i cell' := List.set_set ..
theorem st_lt (h : st[i]? = some cell) : i < st.length := (List.getElem?_eq_some_iff.mp h).1
theorem st_setL : (st.set i cell).length = st.length := List.length_set ..
theorem st_app {g : Sto} (h : st[i]? = some cell) : (st ++ g)[i]? = some cell := by rw [List.getElem?_append_left (st_lt h)]; exact h
theorem st_new : (st ++ [cell])[st.length]? = some cell := by rw [List.getElem?_append_right (Nat.le_refl _), Nat.sub_self]; rfl
theorem st_newS {cell' : Cell} : (st ++ [cell]).set st.length cell' = st ++ [cell'] := by
  rw [List.set_append_right _ _ (Nat.le_refl _), Nat.sub_self]; rfl
/-! calls that forget -/
theorem trim_same {v : SV} : trim st (some (.ok v st)) = some (.ok v st) := by
  unfold trim
  split
  · rename_i v' st' h
    cases h
    split
    · rw [List.take_length]
    · rfl
  · rename_i h; cases h
  · rename_i h; cases h
theorem trim_len {v : SV} {st' : Sto} (h : st'.length = st.length) : trim st (some (.ok v st')) = some (.ok v st') := by
  unfold trim
  show (if v.cl st.length && stoCl st st' then _ else _) = _
  split
  · rw [← h, List.take_length]
  · rfl
theorem stoCl_app {g : Sto} : stoCl st (st ++ g) = true := by
  unfold stoCl
  rw [List.all_eq_true]
  intro k hk
  have hk' : k < st.length := List.mem_range.mp hk
  rw [List.getElem?_append_left hk', decide_eq_true rfl, Bool.true_or]
theorem trim_app {v : SV} {g : Sto} (h : v.cl st.length = true) : trim st (some (.ok v (st ++ g))) = some (.ok v st) := by
  show (if v.cl st.length && stoCl st (st ++ g) then some (Out.ok v ((st ++ g).take st.length)) else some (.ok v (st ++ g))) = _
  rw [h, stoCl_app, Bool.and_self, if_pos rfl, List.take_left']
  rfl
theorem trim_set {v : SV} {g : Sto} (hi : i < st.length) (hc : cell.cl st.length = true) (h : v.cl st.length = true) : trim st (some (.ok v (st.set i cell ++ g))) = some (.ok v (st.set i cell)) := by
  have hs : stoCl st (st.set i cell ++ g) = true := by
    unfold stoCl
    rw [List.all_eq_true]
    intro k hk
    have hk' : k < st.length := List.mem_range.mp hk
    rw [List.getElem?_append_left (by rw [List.length_set]; exact hk')]
    by_cases e : i = k
    · subst e
      rw [List.getElem?_set_self hk']
      show (_ || Cell.cl st.length cell) = true
      rw [hc, Bool.or_true]
    · rw [List.getElem?_set_ne e, decide_eq_true rfl, Bool.true_or]
  show (if v.cl st.length && stoCl st (st.set i cell ++ g) then some (Out.ok v ((st.set i cell ++ g).take st.length)) else some (.ok v (st.set i cell ++ g))) = _
  rw [h, hs, Bool.and_self, if_pos rfl, List.take_left']
  exact List.length_set
end
end Tv

/-! chains of comparisons, del, and what a def's garbage leaves -/
namespace Tv
open PySem L2
section
variable {α β : Type} {P : Prog} {n i j m C f : Nat} {L l : List Ow} {env : Env} {st : Sto} {c : Cl} {a b d e v : Ex} {u w : SV} {x y : D} {fs : List (Str × FV)} {g h : Str} {cn : Cn} {cell : Cell}
def kCh3 (p : Co) (w : SV) : SV → Sto → Res SV := fun z st => match cmpI p w z with
  | some b => ok (.d (.bl b)) st
  | none => none
def kCh2 (c : Cl) (o p : Co) (u : SV) (d : Ex) (env : Env) : SV → Sto → Res SV := fun w st => match cmpI o u w with
    | some true => rb (ev (c.lk (lockOf u)) d env st) (kCh3 p w)
    | some false => ok (.d (.bl false)) st
    | none => none
def kCh (c : Cl) (o p : Co) (b d : Ex) (env : Env) : SV → Sto → Res SV := fun u st => rb (ev (c.lk (lockOf u)) b env st) (kCh2 c o p u d env)
theorem e_chain {o p : Co} : ev c (.chain o p a b d) env st = rb (ev c a env st) (kCh c o p b d env) := id rfl
theorem k_ch {o p : Co} : kCh c o p b d env u st = rb (ev (c.lk (lockOf u)) b env st) (kCh2 c o p u d env) := id rfl
theorem k_ch2T {p : Co} {z y : Int} (h : z ≤ y) : kCh2 c .le p (.d (.int z)) d env (.d (.int y)) st = rb (ev (c.lk (lockOf (.d (.int z)))) d env st) (kCh3 p (.d (.int y))) := by
  have : cmpI .le (.d (.int z)) (.d (.int y)) = some true := by show some (decide (z ≤ y)) = _; rw [decide_eq_true h]
  unfold kCh2
  rw [this]
theorem k_ch2F {p : Co} {z y : Int} (h : ¬ z ≤ y) : kCh2 c .le p (.d (.int z)) d env (.d (.int y)) st = ok (.d (.bl false)) st := by
  have : cmpI .le (.d (.int z)) (.d (.int y)) = some false := by show some (decide (z ≤ y)) = _; rw [decide_eq_false h]
  unfold kCh2
  rw [this]
theorem k_ch3 {z y : Int} : kCh3 .le (.d (.int z)) (.d (.int y)) st = ok (.d (.bl (decide (z ≤ y)))) st := id rfl
/-! del -/
def kDel2 (c : Cl) (l : Lc) (env : Env) : SV → Sto → Option SO := fun k st => match (l.get c env st).bind fun x => delAt x k with
    | some x => some (.nx (l.set x env st).1 (l.set x env st).2)
    | none => none
def kDel (c : Cl) (k : Ex) (env : Env) : Lc → Sto → Option SO := fun l st => sb (ev (c.lk [l.ow]) k env st) env (kDel2 c l env)
theorem x_del {p : Pl} {k : Ex} : exec c (.del p k) env st = sb (resolve c p env st) env (kDel c k env) := id rfl
theorem k_del {q : Lc} : kDel c e env q st = sb (ev (c.lk [q.ow]) e env st) env (kDel2 c q env) := id rfl
def delF (i : Nat) (g : Str) (o : Option Cn) (k : SV) (env : Env) (st : Sto) : Option SO := match o.bind fun x => delAt x k with
  | some x => some (.nx env (setFld st i g (.c false x)))
  | none => none
theorem k_delF (h : LkF L i) : kDel2 (P.cl (P.call n) L) (.fld i g) env u st = delF i g (conO g (st[i]?)) u env st := by
  unfold kDel2
  simp only [get_f h]
  rfl
theorem del_f {p : Int} {xs : List D} (h0 : 0 ≤ p) (h1 : p < xs.length) (h2 : xs.length ≤ 1000) : delF i g (some (.l xs)) (.d (.int p)) env st = some (.nx env (setFld st i g (.c false (.l (xs.eraseIdx p.toNat))))) := by
  have e : delAt (.l xs) (.d (.int p)) = some (.l (xs.eraseIdx p.toNat)) := by
    show (if -(2 ^ 63) ≤ p ∧ p < 2 ^ 63 then (seqIndex? p xs.length).map fun n => Cn.l (xs.eraseIdx n) else none) = _
    rw [if_pos ⟨by omega, by omega⟩]
    have : seqIndex? p xs.length = some p.toNat := by
      unfold seqIndex?
      simp only
      rw [if_neg (by omega : ¬ p < 0), decide_eq_true h0, decide_eq_true h1]
      rfl
    rw [this]
    rfl
  unfold delF
  show (match delAt (.l xs) (.d (.int p)) with
  | some x => some (SO.nx env (setFld st i g (.c false x)))
  | none => none) = _
  rw [e]
theorem map_erase {γ δ : Type} {f : γ → δ} : ∀ {xs : List γ} {k : Nat}, (xs.map f).eraseIdx k = (xs.eraseIdx k).map f
  | [], _ => rfl
  | _ :: _, 0 => rfl
  | x :: xs, k + 1 => by
    show f x :: (xs.map f).eraseIdx k = f x :: (xs.eraseIdx k).map f
    rw [map_erase]
theorem set_same (h : st[i]? = some cell) : st.set i cell = st := by
  obtain ⟨hi, e⟩ := List.getElem?_eq_some_iff.mp h
  rw [← e, List.set_getElem_self]
theorem cls_all {xs : List D} (h : ∀ x ∈ xs, D.cl n x = true) : D.cls n xs = true := by
  induction xs with
  | nil => rfl
  | cons y r ih =>
    show (D.cl n y && D.cls n r) = true
    rw [h y List.mem_cons_self, ih fun x hx => h x (List.mem_cons_of_mem _ hx)]
    rfl
theorem c_neB {kt : List (List D)} {z y : Bool} : cmp kt .ne (.d (.bl z)) (.d (.bl y)) st = some (!decide (z = y)) := id rfl
def kPar2 (c : Cl) (i j : Nat) (u : SV) (env : Env) : SV → Sto → Option SO := fun w st => match u, w with
    | .d x, .d y => if free c i && free c j then some (.nx ((env.set i (some (.d x))).set j (some (.d y))) st) else none
    | _, _ => none
def kPar (c : Cl) (i j : Nat) (b : Ex) (env : Env) : SV → Sto → Option SO := fun u st => sb (ev (c.lk (lockOf u)) b env st) env (kPar2 c i j u env)
theorem x_par : exec c (.par i j a b) env st = sb (ev c a env st) env (kPar c i j b env) := id rfl
theorem k_par : kPar c i j b env u st = sb (ev (c.lk (lockOf u)) b env st) env (kPar2 c i j u env) := id rfl
theorem k_par2 (h1 : free c i = true) (h2 : free c j = true) : kPar2 c i j (.d x) env (.d y) st = some (.nx ((env.set i (some (.d x))).set j (some (.d y))) st) := by
  show (if free c i && free c j then some (SO.nx ((env.set i (some (.d x))).set j (some (.d y))) st) else none) = _
  rw [h1, h2]
  rfl
/-- what a def made and nobody keeps is forgotten -/
theorem trim_gone {v : SV} {g : Sto} (h : v.cl st.length = true) : trim st (some (.ok v (st ++ g))) = some (.ok v st) := trim_app h
theorem wp_trim {o : Option SO} {R : Res SV} (h : Wp o fun r => trim st (result (some r)) = R) : trim st (result o) = R := by obtain ⟨r, e, q⟩ := h; rw [e]; exact q
def minF (a : Int) (xs : List Int) : Int := xs.foldl (fun a b => if b < a then b else a) a
theorem bi_minL {q : Kd} {is : List Int} {i : Int} : biF .min [.c q (.l (.int i :: is.map .int))] st = ok (.d (.int (minF i is))) st := by
  show (match (allInt ((i :: is).map D.int)).bind minL with
      | some i => ok (SV.d (.int i)) st
      | none => none) = _
  rw [allInt_map]
  rfl
theorem compL_mapG {γ : Type} {turn : D → Sto → Res (Option SV)} {g : γ → D} (f : γ → D) {ls : List γ} (h : ∀ x ∈ ls, turn (g x) st = some (.ok (some (.d (f x))) st)) (hl : ls.length ≤ sizeLine) : compL turn (ls.map g) [] st = ok (ls.map f) st := by
  rw [compL_fmG (f := fun x => some (f x)) (fun x hx => by rw [h x hx]; rfl) (by simpa using hl), List.nil_append]
  congr 1
  have : ∀ l : List γ, l.filterMap (fun x => some (f x)) = l.map f := fun l => by
    induction l with
    | nil => rfl
    | cons y r ih => rw [List.map_cons, ← ih]; rfl
  exact this ls
theorem st_n1 {a b : Cell} : (st ++ [a] ++ [b])[st.length]? = some a := by rw [List.append_assoc, List.getElem?_append_right (Nat.le_refl _), Nat.sub_self]; rfl
theorem st_s1 {a b d : Cell} : (st ++ [a] ++ [b]).set st.length d = st ++ [d] ++ [b] := by rw [List.append_assoc, List.append_assoc, List.set_append_right _ _ (Nat.le_refl _), Nat.sub_self]; rfl
theorem st_n2 {a b : Cell} : (st ++ [a, b])[st.length]? = some a := by rw [List.getElem?_append_right (Nat.le_refl _), Nat.sub_self]; rfl
theorem st_s2 {a b d : Cell} : (st ++ [a, b]).set st.length d = st ++ [d, b] := by rw [List.set_append_right _ _ (Nat.le_refl _), Nat.sub_self]; rfl
theorem st_n3 {a b d : Cell} : (st ++ [a, b] ++ [d])[st.length]? = some a := by rw [List.append_assoc, List.getElem?_append_right (Nat.le_refl _), Nat.sub_self]; rfl
theorem st_s3 {a b d q : Cell} : (st ++ [a, b] ++ [d]).set st.length q = st ++ [q, b] ++ [d] := by rw [List.append_assoc, List.append_assoc, List.set_append_right _ _ (Nat.le_refl _), Nat.sub_self]; rfl
def kFl (turn : D → Env → Sto → Option SO) (xs : List D) (r : Option SO) : Option SO := match r with
  | some (.nx env st) => forL turn xs env st
  | some (.ct env st) => forL turn xs env st
  | some (.bk env st) => some (.nx env st)
  | r => r
theorem for_nil {turn : D → Env → Sto → Option SO} : forL turn [] env st = some (.nx env st) := by unfold forL; rfl
theorem for_cons {turn : D → Env → Sto → Option SO} {xs : List D} : forL turn (x :: xs) env st = kFl turn xs (turn x env st) := by
  rw [forL]
  unfold kFl
  cases turn x env st with
  | none => rfl
  | some r => cases r <;> rfl
theorem fl_nx {turn : D → Env → Sto → Option SO} {xs : List D} : kFl turn xs (some (.nx env st)) = forL turn xs env st := id rfl
def kCl (turn : D → Sto → Res (Option SV)) (xs acc : List D) (r : Res (Option SV)) : Res (List D) := match r with
      | some (.ok none st) => compL turn xs acc st
      | some (.ok (some v) st) => match toD v st with
        | some (.ok y st) => if acc.length < sizeLine then compL turn xs (acc ++ [y]) st else none
        | _ => none
      | _ => none
theorem comp_nil {turn : D → Sto → Res (Option SV)} {acc : List D} : compL turn [] acc st = ok acc st := by unfold compL; rfl
theorem comp_cons {turn : D → Sto → Res (Option SV)} {xs acc : List D} : compL turn (x :: xs) acc st = kCl turn xs acc (turn x st) := by
  rw [compL]
  unfold kCl
  cases turn x st with
  | none => rfl
  | some r => cases r with
    | ok o st => cases o <;> rfl
    | ex _ _ => rfl
theorem cl_y {turn : D → Sto → Res (Option SV)} {xs acc : List D} (h : acc.length < 1000) : kCl turn xs acc (some (.ok (some (.d x)) st)) = compL turn xs (acc ++ [x]) st := if_pos (Nat.lt_of_lt_of_le h size_k)
theorem cl_n {turn : D → Sto → Res (Option SV)} {xs acc : List D} : kCl turn xs acc (some (.ok none st)) = compL turn xs acc st := id rfl
theorem bi_maxT {is : List Int} {i : Int} : biF .max [.d (.tup (.int i :: is.map .int))] st = ok (.d (.int (maxF i is))) st := by
  show (match (allInt ((i :: is).map D.int)).bind maxL with
      | some i => ok (SV.d (.int i)) st
      | none => none) = _
  rw [allInt_map]
  rfl
theorem sl_tailC {xs : List D} {q : Kd} : slc (.c q (.l (x :: xs))) (some 1) none st = ok (.c .own (.l xs)) st := by
  show ok (SV.c .own (.l (cut (x :: xs) (some 1) none))) st = _
  have : cut (x :: xs) (some 1) none = xs := by
    unfold cut HT.sIx
    simp
  rw [this]
def kBm2 (m : Bm) (u : SV) : List SV → Sto → Res SV := fun as st => bmf m u as st
def kBm (c : Cl) (m : Bm) (es : Exs) (env : Env) : SV → Sto → Res SV := fun u st => if bmPre m u st then rb (evs (c.lk (lockOf u)) es env st) (kBm2 m u) else none
theorem e_bm {m : Bm} {es : Exs} : ev c (.bm m a es) env st = rb (ev c a env st) (kBm c m es env) := id rfl
theorem k_bmK : kBm c .keys .nil env u st = bmf .keys u [] st := id rfl
/-- a loop that folds -/
theorem wp_fold {γ A : Type} {turn : D → Env → Sto → Option SO} {kk : Env → Sto → Option SO} {Q : SO → Prop} {g : γ → D} {F : A → γ → A} {E : A → Option SV → Env} : ∀ {ls : List γ} {a0 : A} {o : Option SV}, (∀ a o x, x ∈ ls → ∃ o', turn (g x) (E a o) st = some (.nx (E (F a x) o') st)) → (∀ o', Wp (kk (E (ls.foldl F a0) o') st) Q) → Wp (sq (forL turn (ls.map g) (E a0 o) st) kk) Q
  | [], a0, o, _, hk => by rw [List.map_nil, for_nil]; exact hk o
  | x :: ls, a0, o, h, hk => by
    obtain ⟨o', e⟩ := h a0 o x List.mem_cons_self
    rw [List.map_cons, for_cons, e, fl_nx]
    exact wp_fold (fun a o y hy => h a o y (List.mem_cons_of_mem _ hy)) hk
/-- par: two names at once, by the data -/
theorem kk_ex : kMade m (.d .non) st = ok (.d (.ref m)) st := id rfl
end
end Tv

/-! containers at places of their own -/
namespace Tv
open PySem L2
section
variable {α β : Type} {P : Prog} {n i j m C f k : Nat} {L l : List Ow} {env : Env} {st : Sto} {c : Cl} {a b d e v : Ex} {u w : SV} {x y : D} {fs : List (Str × FV)} {g h : Str} {cn : Cn} {cell : Cell} {kt : List (List D)}
def kCellS (k : Nat) (o : Option Cell) (st : Sto) : Res Lc := match o with
  | some (.con x) => if x.isL then ok (.cell k) st else none
  | _ => none
theorem k_slotC : kSlot i (some (some (.d (.ref k)))) st = kCellS k (st[k]?) st := id rfl
theorem k_cellL {xs : List D} : kCellS k (some (.con (.l xs))) st = ok (.cell k) st := id rfl
theorem k_slot0C : kSlot0 i (some (some (.d (.ref k)))) st = ok (.cell k) st := id rfl
def conC (o : Option Cell) : Option Cn := match o with
  | some (.con x) => some x
  | _ => none
theorem con_c : (Lc.cell k).ow.cont env st = conC (st[k]?) := id rfl
theorem con_c1 : conC (some (.con cn)) = some cn := id rfl
theorem get_c (h : LkF L k) : (Lc.cell k).get (P.cl (P.call n) L) env st = conC (st[k]?) := by
  unfold Lc.get
  rw [con_c]
  show (if L.contains (Ow.c k) = true then none else _) = _
  rw [if_neg]
  intro z
  exact h _ (List.contains_iff_mem.mp z) rfl
def appC (k : Nat) (o : Option Cn) (env : Env) (x : D) (st : Sto) : Option SO := match o with
  | some (.l xs) => if xs.length < sizeLine then some (.nx env (st.set k (.con (.l (xs ++ [x]))))) else none
  | _ => none
theorem k_appC (h : LkF L k) : kApp2 (P.cl (P.call n) L) (.cell k) env x st = appC k (conC (st[k]?)) env x st := by
  unfold kApp2
  simp only [get_c h]
  rfl
theorem app_c {xs : List D} (hl : xs.length < sizeLine) : appC k (some (.l xs)) env x st = some (.nx env (st.set k (.con (.l (xs ++ [x]))))) := if_pos hl
/-! stores into a dict -/
def putC (k : Nat) (o : Option Cn) (kv : SV) (env : Env) (y : D) (kt : List (List D)) (st : Sto) : Option SO := match o.bind fun x => putD kt x kv y with
  | some x => some (.nx env (st.set k (.con x)))
  | none => none
theorem k_put4C (h : LkF L k) : kPut4 (P.cl (P.call n) L) (.cell k) w env y st = putC k (conC (st[k]?)) w env y (P.cl (P.call n) L).kts st := by
  unfold kPut4
  simp only [get_c h]
  rfl
theorem put_c {kvs : List (Key × D)} {z : Int} (hl : kvs.length < sizeLine) : putC k (some (.m kvs)) (.d (.int z)) env y kt st = some (.nx env (st.set k (.con (.m (put kvs (.inl z) y))))) := by
  show (match (if kvs.length < sizeLine then some (Cn.m (put kvs (.inl z) y)) else none) with
      | some x => some (SO.nx env (st.set k (.con x)))
      | none => none) = _
  rw [if_pos hl]
/-! pop -/
def kPop2 (c : Cl) (l : Lc) (env : Env) : SV → Sto → Option SO := fun k st => match l.get c env st with
    | some (.l xs) => match popAt (.l xs) k with
      | some (_, x) => some (.nx (l.set x env st).1 (l.set x env st).2)
      | none => none
    | _ => none
def kPop (c : Cl) (k : Ex) (env : Env) : Lc → Sto → Option SO := fun l st => sb (ev (c.lk [l.ow]) k env st) env (kPop2 c l env)
theorem x_pop {p : Pl} : exec c (.pop p e) env st = sb (resolveK Cn.isL c p env st) env (kPop c e env) := id rfl
theorem k_pop {q : Lc} : kPop c e env q st = sb (ev (c.lk [q.ow]) e env st) env (kPop2 c q env) := id rfl
def popC (k : Nat) (o : Option Cn) (w : SV) (env : Env) (st : Sto) : Option SO := match o with
    | some (.l xs) => match popAt (.l xs) w with
      | some (_, x) => some (.nx env (st.set k (.con x)))
      | none => none
    | _ => none
theorem k_popC (h : LkF L k) : kPop2 (P.cl (P.call n) L) (.cell k) env w st = popC k (conC (st[k]?)) w env st := by
  unfold kPop2
  simp only [get_c h]
  rfl
theorem pop_at {xs : List D} {p : Int} (h0 : 0 ≤ p) (h1 : p < xs.length) (h2 : xs.length ≤ 1000) : popAt (.l xs) (.d (.int p)) = (xs[p.toNat]?).map fun d => (d, .l (xs.eraseIdx p.toNat)) := by
  show (if -(2 ^ 63) ≤ p ∧ p < 2 ^ 63 then (seqIndex? p xs.length).bind fun n => (xs[n]?).map fun d => (d, Cn.l (xs.eraseIdx n)) else none) = _
  rw [if_pos ⟨by omega, by omega⟩]
  have : seqIndex? p xs.length = some p.toNat := by
    unfold seqIndex?
    simp only
    rw [if_neg (by omega : ¬ p < 0), decide_eq_true h0, decide_eq_true h1]
    rfl
  rw [this]
  rfl
theorem pop_c {xs : List D} {p : Int} (h0 : 0 ≤ p) (h1 : p < xs.length) (h2 : xs.length ≤ 1000) : popC k (some (.l xs)) (.d (.int p)) env st = some (.nx env (st.set k (.con (.l (xs.eraseIdx p.toNat))))) := by
  have hp : p.toNat < xs.length := by omega
  unfold popC
  simp only [pop_at h0 h1 h2, List.getElem?_eq_getElem hp, Option.map_some]
/-! pop as an argument -/
def popD (c : Cl) (i : Nat) (o : Option Cell) (w : SV) (st : Sto) : Res SV := match o with
        | some (.con (.l xs)) => if c.locks.contains (.c i) then none else match popAt (.l xs) w with
          | some (d, x) => ok (.d d) (st.set i (.con x))
          | none => none
        | _ => none
def kPopc2 (c : Cl) (i : Nat) : SV → Sto → Res SV := fun w st => match st[i]? with
        | some (.con (.l xs)) => if c.locks.contains (.c i) then none else match popAt (.l xs) w with
          | some (d, x) => ok (.d d) (st.set i (.con x))
          | none => none
        | _ => none
def kPopcO (c : Cl) (i : Nat) (k : Ex) (env : Env) (o : Option Cell) (st : Sto) : Res SV := match o with
      | some (.con (.l _)) => rb (ev (c.lk [.c i]) k env st) (kPopc2 c i)
      | _ => none
def kPopc (c : Cl) (k : Ex) (env : Env) : SV → Sto → Res SV := fun u st => match u with
    | .d (.ref i) => match st[i]? with
      | some (.con (.l _)) => rb (ev (c.lk [.c i]) k env st) (kPopc2 c i)
      | _ => none
    | _ => none
theorem e_popc : ev c (.popc a b) env st = rb (ev c a env st) (kPopc c b env) := id rfl
theorem k_popc : kPopc c b env (.d (.ref i)) st = kPopcO c i b env (st[i]?) st := id rfl
theorem k_popcO {xs : List D} : kPopcO c i b env (some (.con (.l xs))) st = rb (ev (c.lk [.c i]) b env st) (kPopc2 c i) := id rfl
theorem k_popc2 : kPopc2 c i w st = popD c i (st[i]?) w st := id rfl
def popR (i : Nat) (xs : List D) (p : Int) (o : Option D) (st : Sto) : Res SV := match o with
  | some y => ok (.d y) (st.set i (.con (.l (xs.eraseIdx p.toNat))))
  | none => none
theorem pop_d {xs : List D} {p : Int} (h : LkF L i) (h0 : 0 ≤ p) (h1 : p < xs.length) (h2 : xs.length ≤ 1000) : popD (P.cl (P.call n) L) i (some (.con (.l xs))) (.d (.int p)) st = popR i xs p (xs[p.toNat]?) st := by
  have hc : (P.cl (P.call n) L).locks.contains (Ow.c i) = false := nlk h rfl
  show (if (P.cl (P.call n) L).locks.contains (Ow.c i) = true then none else match popAt (.l xs) (.d (.int p)) with
          | some (d, x) => ok (SV.d d) (st.set i (.con x))
          | none => none) = _
  rw [hc, if_neg Bool.false_ne_true]
  simp only [pop_at h0 h1 h2]
  cases xs[p.toNat]? <;> rfl
theorem pop_r {xs : List D} {p : Int} {y : D} : popR i xs p (some y) st = ok (.d y) (st.set i (.con (.l (xs.eraseIdx p.toNat)))) := id rfl
/-! get -/
theorem k_bmG {q : Kd} {kvs : List (Key × D)} {es : Exs} : kBm c .get es env (.c q (.m kvs)) st = rb (evs (c.lk (lockOf (.c q (.m kvs)))) es env st) (kBm2 .get (.c q (.m kvs))) := id rfl
def kBmR (c : Cl) (m : Bm) (k : Nat) (es : Exs) (env : Env) (o : Option Cell) (st : Sto) : Res SV := match o with
  | some (.con (.m _)) => rb (evs c es env st) (kBm2 m (.d (.ref k)))
  | _ => none
theorem k_bmGR {es : Exs} : kBm c .get es env (.d (.ref k)) st = kBmR c .get k es env (st[k]?) st := by
  show (if (match (match st[k]? with | some (.con x) => some x | _ => none) with | some (Cn.m _) => true | _ => false) = true then rb (evs c es env st) (kBm2 .get (.d (.ref k))) else none) = kBmR c .get k es env (st[k]?) st
  cases st[k]? with
  | none => rfl
  | some o => cases o with
    | ins C fs => rfl
    | con x => cases x <;> rfl
theorem k_bmR1 {es : Exs} {kvs : List (Key × D)} : kBmR c .get k es env (some (.con (.m kvs))) st = rb (evs c es env st) (kBm2 .get (.d (.ref k))) := id rfl
def getR (o : Option Cell) (z : Int) (y : D) (st : Sto) : Res SV := match o with
  | some (.con (.m kvs)) => ok (.d ((look kvs (.inl z)).getD y)) st
  | _ => none
theorem k_bm2R {z : Int} : kBm2 .get (.d (.ref k)) [.d (.int z), .d y] st = getR (st[k]?) z y st := by
  show (match (match st[k]? with | some (.con x) => some x | _ => none), some (Sum.inl z : Key) with
    | some (Cn.m kvs), some k => ok (SV.d ((look kvs k).getD y)) st
    | _, _ => none) = getR (st[k]?) z y st
  cases st[k]? with
  | none => rfl
  | some o => cases o with
    | ins C fs => rfl
    | con x => cases x <;> rfl
theorem get_r {kvs : List (Key × D)} {z : Int} : getR (some (.con (.m kvs))) z y st = ok (.d ((look kvs (.inl z)).getD y)) st := id rfl
theorem k_bm2C {q : Kd} {kvs : List (Key × D)} {z : Int} : kBm2 .get (.c q (.m kvs)) [.d (.int z), .d y] st = ok (.d ((look kvs (.inl z)).getD y)) st := id rfl
/-! the length of what stands at a place of its own -/
def lenO (o : Option Cell) (st : Sto) : Res SV := match o with
  | some (.con (.l xs)) => ok (.d (.int xs.length)) st
  | some (.con (.m xs)) => ok (.d (.int xs.length)) st
  | _ => none
theorem bi_lenR : biF .len [.d (.ref k)] st = lenO (st[k]?) st := by
  show (match (match st[k]? with | some (.con x) => some x | _ => none) with
      | some (Cn.l xs) => ok (SV.d (.int xs.length)) st
      | some (Cn.m xs) => ok (SV.d (.int xs.length)) st
      | _ => none) = _
  cases st[k]? with
  | none => rfl
  | some o => cases o with
    | ins C fs => rfl
    | con x => cases x <;> rfl
theorem len_l {xs : List D} : lenO (some (.con (.l xs))) st = ok (.d (.int xs.length)) st := id rfl
theorem len_m {xs : List (Key × D)} : lenO (some (.con (.m xs))) st = ok (.d (.int xs.length)) st := id rfl
end
end Tv

/-! errors, clauses -/
namespace Tv
open PySem L2
section
variable {α β : Type} {P : Prog} {n i j m C f k : Nat} {L l : List Ow} {env : Env} {st : Sto} {c : Cl} {a b d e v : Ex} {u w : SV} {x y : D} {fs : List (Str × FV)} {g h : Str} {cn : Cn} {cell : Cell} {kt : List (List D)} {X : Xc} {ss sa : Stts} {hs : Hds}
theorem rb_ex {kk : α → Sto → Res β} : rb (some (.ex X st)) kk = some (.ex X st) := id rfl
theorem sb_ex {kk : α → Sto → Option SO} : sb (some (.ex X st)) env kk = some (.ex X env st) := id rfl
theorem sq_ex {kk : Env → Sto → Option SO} : sq (some (.ex X env st)) kk = some (.ex X env st) := id rfl
theorem rt_ex : result (some (.ex X env st)) = some (.ex X st) := id rfl
def kRaise (C : Nat) (own : Bool) (env : Env) : SV → Sto → Option SO := fun v st => match v with
    | .d x => some (.ex ⟨C, if own then some x else none⟩ env st)
    | _ => none
theorem x_raise {own : Bool} : exec c (.raise C e own) env st = sb (ev c e env st) env (kRaise C own env) := id rfl
theorem k_raise : kRaise C false env (.d x) st = some (.ex ⟨C, none⟩ env st) := id rfl
/-! try -/
def kTry (c : Cl) (hs : Hds) (o : Option SO) : Option SO := match o with
    | some (.ex x env st) => handle c hs x env st
    | r => r
theorem x_try : exec c (.try_ ss hs) env st = kTry c hs (execs c ss env st) := id rfl
theorem try_nx : kTry c hs (some (.nx env st)) = some (.nx env st) := id rfl
theorem try_rt : kTry c hs (some (.rt u st)) = some (.rt u st) := id rfl
theorem try_ct : kTry c hs (some (.ct env st)) = some (.ct env st) := id rfl
theorem try_bk : kTry c hs (some (.bk env st)) = some (.bk env st) := id rfl
theorem try_ex : kTry c hs (some (.ex X env st)) = handle c hs X env st := id rfl
/-- does an error of class k meet the class C? -/
def hdT (P : Prog) (k C : Nat) : Option Bool := if P.xs.contains k && P.xs.contains C then some (k == C || P.sub.contains (k, C)) else none
def noEx (o : Option SO) : Option SO := match o with
  | some (.ex _ _ _) => none
  | r => r
theorem nex_nx : noEx (some (.nx env st)) = some (.nx env st) := id rfl
theorem nex_rt : noEx (some (.rt u st)) = some (.rt u st) := id rfl
theorem nex_ct : noEx (some (.ct env st)) = some (.ct env st) := id rfl
def kHd (c : Cl) (o : Option Bool) (b : Stts) (hs : Hds) (x : Xc) (env : Env) (st : Sto) : Option SO := match o with
  | some true => noEx (execs c b env st)
  | some false => handle c hs x env st
  | none => none
theorem hd_cons : handle (P.cl (P.call n) L) (.cons C ss hs) X env st = kHd (P.cl (P.call n) L) (hdT P X.c C) ss hs X env st := by
  show (if (P.xs.contains X.c && P.xs.contains C) = true then
      (if (X.c == C || P.sub.contains (X.c, C)) = true then match execs (P.cl (P.call n) L) ss env st with
        | some (.ex _ _ _) => none
        | r => r
      else handle (P.cl (P.call n) L) hs X env st) else none) = _
  unfold hdT
  by_cases h1 : (P.xs.contains X.c && P.xs.contains C) = true
  · rw [if_pos h1, if_pos h1]
    cases (X.c == C || P.sub.contains (X.c, C)) <;> rfl
  · rw [if_neg h1, if_neg h1]
    rfl
theorem hd_y : kHd c (some true) ss hs X env st = noEx (execs c ss env st) := id rfl
theorem hd_n : kHd c (some false) ss hs X env st = handle c hs X env st := id rfl
theorem hd_nil : handle c .nil X env st = some (.ex X env st) := id rfl
/-! clauses of one name -/
def kTryN (c : Cl) (i : Nat) (hs : Hds) (o : Option SO) : Option SO := match o with
    | some (.ex x env st) => if free c i then handleN c i hs x env st else none
    | r => r
theorem x_tryN : exec c (.tryN i ss hs) env st = kTryN c i hs (execs c ss env st) := id rfl
theorem tryN_nx : kTryN c i hs (some (.nx env st)) = some (.nx env st) := id rfl
theorem tryN_rt : kTryN c i hs (some (.rt u st)) = some (.rt u st) := id rfl
theorem tryN_ex (hf : free c i = true) : kTryN c i hs (some (.ex X env st)) = handleN c i hs X env st := if_pos hf
def unX (i : Nat) (o : Option SO) : Option SO := match o with
        | some (.nx env st) => some (.nx (env.set i none) st)
        | some (.bk env st) => some (.bk (env.set i none) st)
        | some (.ct env st) => some (.ct (env.set i none) st)
        | some (.rt v st) => some (.rt v st)
        | _ => none
theorem unx_nx : unX i (some (.nx env st)) = some (.nx (env.set i none) st) := id rfl
theorem unx_rt : unX i (some (.rt u st)) = some (.rt u st) := id rfl
def kHdN (c : Cl) (i : Nat) (o : Option Bool) (b : Stts) (hs : Hds) (x : Xc) (env : Env) (st : Sto) : Option SO := match o with
  | some true => unX i (execs c b (env.set i (some (.x x))) st)
  | some false => handleN c i hs x env st
  | none => none
theorem hn_cons : handleN (P.cl (P.call n) L) i (.cons C ss hs) X env st = kHdN (P.cl (P.call n) L) i (hdT P X.c C) ss hs X env st := by
  show (if (P.xs.contains X.c && P.xs.contains C) = true then
      (if (X.c == C || P.sub.contains (X.c, C)) = true then match execs (P.cl (P.call n) L) ss (env.set i (some (.x X))) st with
        | some (.nx env st) => some (.nx (env.set i none) st)
        | some (.bk env st) => some (.bk (env.set i none) st)
        | some (.ct env st) => some (.ct (env.set i none) st)
        | some (.rt v st) => some (.rt v st)
        | _ => none
      else handleN (P.cl (P.call n) L) i hs X env st) else none) = _
  unfold hdT
  by_cases h1 : (P.xs.contains X.c && P.xs.contains C) = true
  · rw [if_pos h1, if_pos h1]
    cases (X.c == C || P.sub.contains (X.c, C)) <;> rfl
  · rw [if_neg h1, if_neg h1]
    rfl
theorem hn_y : kHdN c i (some true) ss hs X env st = unX i (execs c ss (env.set i (some (.x X))) st) := id rfl
theorem hn_n : kHdN c i (some false) ss hs X env st = handleN c i hs X env st := id rfl
def kXis (o : Option Bool) (st : Sto) : Res SV := match o with
  | some b => ok (.d (.bl b)) st
  | none => none
def xisO (P : Prog) (C : Nat) (o : Option (Option SV)) (st : Sto) : Res SV := match o with
    | some (some (.x ⟨k, none⟩)) => kXis (hdT P k C) st
    | _ => none
theorem e_xis : ev (P.cl (P.call n) L) (.xis i C) env st = xisO P C (env[i]?) st := by
  show (match env[i]? with
    | some (some (.x ⟨k, none⟩)) => if (P.xs.contains k && P.xs.contains C) = true then ok (SV.d (.bl (k == C || P.sub.contains (k, C)))) st else none
    | _ => none) = _
  unfold xisO
  split
  · rename_i k e
    unfold hdT kXis
    by_cases h1 : (P.xs.contains k && P.xs.contains C) = true
    · rw [if_pos h1]; simp only [h1, if_true]
    · rw [if_neg h1]; simp only [h1, if_false]; rfl
  · rfl
theorem xis_o : xisO P C (some (some (.x ⟨k, none⟩))) st = kXis (hdT P k C) st := id rfl
theorem k_xis {z : Bool} : kXis (some z) st = ok (.d (.bl z)) st := id rfl
/-! texts -/
def Exs.num : Exs → Nat
  | .nil => 0
  | .cons _ es => es.num + 1
/-- pieces of a text, none of them long -/
def JP (c : Cl) (env : Env) (st : Sto) : Exs → Prop
  | .nil => True
  | .cons e es => (∃ y : Str, ev c e env st = ok (.d (.str y)) st ∧ y.length ≤ 1000) ∧ JP c env st es
theorem j_ok : ∀ {es : Exs} {acc : Str}, JP c env st es → acc.length + 1000 * es.num ≤ sizeLine → ∃ y, evJ c es acc env st = ok (.d (.str y)) st
  | .nil, acc, _, _ => ⟨acc, rfl⟩
  | .cons e es, acc, ⟨⟨y, h1, h2⟩, h3⟩, hl => by
    have hl' : acc.length + 1000 * (es.num + 1) ≤ sizeLine := hl
    have ha : (acc ++ y).length = acc.length + y.length := PySem.Str.length_append _ _
    obtain ⟨z, hz⟩ := j_ok (es := es) (acc := acc ++ y) h3 (by rw [ha]; omega)
    refine ⟨z, ?_⟩
    show rb (ev c e env st) (fun u st => match u with
      | .d (.str y) => if (acc ++ y).length ≤ sizeLine then evJ c es (acc ++ y) env st else none
      | _ => none) = _
    rw [h1]
    show (if (acc ++ y).length ≤ sizeLine then evJ c es (acc ++ y) env st else none) = _
    rw [if_pos (by rw [ha]; omega), hz]
theorem ej_ok {es : Exs} (h : JP c env st es) (hl : es.num ≤ 40) : ∃ y, ev c (.joined es) env st = ok (.d (.str y)) st := by
  refine j_ok h ?_
  have : (Str.empty : Str).length = 0 := rfl
  rw [this]
  exact Nat.le_trans (by omega : 0 + 1000 * es.num ≤ 40000) (by decide)
/-- a text that comes up anywhere -/
theorem uni_j (h : ∀ (c : Cl) (env : Env) (st : Sto), ∃ y : Str, ev c e env st = ok (.d (.str y)) st) : ∃ f : Cl → Env → Sto → Str, ∀ (c : Cl) (env : Env) (st : Sto), ev c e env st = ok (.d (.str (f c env st))) st :=
  ⟨fun c env st => (h c env st).choose, fun c env st => (h c env st).choose_spec⟩
theorem x_raiseJ {es : Exs} (h : JP c env st es) (hl : es.num ≤ 40) : exec c (.raise C (.joined es) false) env st = some (.ex ⟨C, none⟩ env st) := by
  obtain ⟨y, e⟩ := ej_ok h hl
  rw [x_raise, e]
  rfl
theorem c_neSt {z y : Str} : cmp kt .ne (.d (.str z)) (.d (.str y)) st = some (!decide (z = y)) := id rfl
/-! sets of ints -/
def kCountZ : List Int → Sto → Res SV := fun ks st => ok (.d (.int ks.length)) st
theorem k_countZ {ks : List Int} : kCountZ ks st = ok (.d (.int ks.length)) st := id rfl
def kLsZ (c : Cl) (g : Tg) (t : Tx) (e : Ex) (env : Env) : Ito → Sto → Res SV := fun j st => rb (compZ (turnC (c.lk j.locks) g t e env) j.xs [] st) kCountZ
theorem e_lsZ {g : Tg} {t : Tx} {it : It} : ev c (.lensetI g it t e) env st = rb (evI c it env st) (kLsZ c g t e env) := id rfl
theorem k_lsZ {g : Tg} {t : Tx} {q : Ito} : kLsZ c g t e env q st = rb (compZ (turnC (c.lk q.locks) g t e env) q.xs [] st) kCountZ := id rfl
theorem compZ_map {γ : Type} {turn : D → Sto → Res (Option SV)} {g : γ → D} (f : γ → Int) : ∀ {ls : List γ} {acc : List Int}, (∀ x ∈ ls, turn (g x) st = some (.ok (some (.d (.int (f x)))) st)) → acc.length + ls.length < 64 → compZ turn (ls.map g) acc st = ok (ls.foldl (fun acc x => putZ acc (f x)) acc) st
  | [], acc, _, _ => by rw [List.map_nil]; unfold compZ; rfl
  | x :: ls, acc, h, hl => by
    have hl' : acc.length + (ls.length + 1) < 64 := hl
    have hp : (putZ acc (f x)).length ≤ acc.length + 1 := by
      unfold putZ
      split
      · omega
      · rw [List.length_append]; exact Nat.le_refl _
    rw [List.map_cons, compZ, h x List.mem_cons_self]
    show (if acc.length + 1 < 64 then compZ turn (ls.map g) (putZ acc (f x)) st else none) = _
    rw [if_pos (by omega)]
    exact compZ_map f (fun y hy => h y (List.mem_cons_of_mem _ hy)) (by omega)
/-- lists as places: a name's -/
def kPutL4 (c : Cl) (l : Lc) (k : SV) (env : Env) : D → Sto → Option SO := fun y st => match l.get c env st, k with
        | some (.l xs), .d (.int i) => match ixN xs.length i with
          | some n => some (.nx (l.set (.l (xs.set n y)) env st).1 (l.set (.l (xs.set n y)) env st).2)
          | none => none
        | _, _ => none
def kPutL3 (c : Cl) (l : Lc) (u : SV) (env : Env) : SV → Sto → Option SO := fun kv st => sb (toD u st) env (kPutL4 c l kv env)
def kPutL2 (c : Cl) (k : Ex) (u : SV) (env : Env) : Lc → Sto → Option SO := fun l st => sb (ev (c.lk (l.ow :: lockOf u)) k env st) env (kPutL3 c l u env)
def kPutL (c : Cl) (p : Pl) (k : Ex) (env : Env) : SV → Sto → Option SO := fun u st => sb (resolve (c.lk (lockOf u)) p env st) env (kPutL2 c k u env)
theorem x_putL {p : Pl} {kx : Ex} : exec c (.putL p kx e) env st = sb (ev c e env st) env (kPutL c p kx env) := id rfl
theorem k_putL {p : Pl} {kx : Ex} : kPutL c p kx env u st = sb (resolve (c.lk (lockOf u)) p env st) env (kPutL2 c kx u env) := id rfl
theorem k_putL2 {l : Lc} {kx : Ex} : kPutL2 c kx u env l st = sb (ev (c.lk (l.ow :: lockOf u)) kx env st) env (kPutL3 c l u env) := id rfl
theorem k_putL3 {l : Lc} : kPutL3 c l u env w st = sb (toD u st) env (kPutL4 c l w env) := id rfl
def putLV (i : Nat) (o : Option (Option SV)) (p : Int) (env : Env) (y : D) (st : Sto) : Option SO := match o with
  | some (some (.c .own (.l xs))) => match ixN xs.length p with
    | some n => some (.nx (env.set i (some (.c .own (.l (xs.set n y))))) st)
    | none => none
  | _ => none
theorem k_putL4 {p : Int} (hf : free c i = true) : kPutL4 c (.slot i) (.d (.int p)) env y st = putLV i (env[i]?) p env y st := by
  have hf' : c.locks.contains (.s i) = false := by
    have : (!c.locks.contains (Ow.s i)) = true := hf
    simpa using this
  have hf2 : c.locks.contains (Lc.slot i).ow = false := hf'
  unfold kPutL4 Lc.get putLV
  rw [hf2]
  have hc : (Lc.slot i).ow.cont env st = match env[i]? with | some (some (.c .own x)) => some x | _ => none := rfl
  rw [hc]
  cases e : env[i]? with
  | none => rfl
  | some o =>
    cases o with
    | none => rfl
    | some v =>
      cases v with
      | d x => rfl
      | x y => rfl
      | c kd x =>
        cases kd <;> cases x <;> rfl
theorem put_lv {xs : List D} {p : Int} (h0 : 0 ≤ p) (h1 : p < xs.length) : putLV i (some (some (.c .own (.l xs)))) p env y st = some (.nx (env.set i (some (.c .own (.l (xs.set p.toNat y))))) st) := by
  have : ixN xs.length p = some p.toNat := by unfold ixN; rw [if_pos h0, if_pos h1]
  unfold putLV
  simp only [this]
theorem map_set {γ δ : Type} {f : γ → δ} {xs : List γ} {k : Nat} {z : γ} : (xs.map f).set k (f z) = (xs.set k z).map f := (List.map_set ..).symm
end
end Tv

namespace Lw
open Tv PySem L2
def b_check_range : Stts :=
 (.cons (.ifs (.or (.val (.cmp .lt (.var 1) (.var 2))) (.val (.cmp .gt (.var 1) (.var 3))))
 (.cons (.raise 1 (.joined (.cons (.fmt (.var 0)) (.cons (.cst (.str " is not from ")) (.cons (.fmt (.var 2)) (.cons (.cst (.str " to ")) (.cons (.fmt (.var 3)) .nil)))))) false)
 .nil)
 .nil)
 .nil)
abbrev f_check_range : Nat := 0
def b_Book___init__ : Stts :=
 (.cons (.fld (.var 0) "purses" (.bi .dict (.cons (.var 1) .nil)))
 (.cons (.fld (.var 0) "vaults" (.dct0 false))
 (.cons (.fld (.var 0) "receipts" (.dct0 false))
 (.cons (.fld (.var 0) "ended" (.lst .nil))
 (.cons (.fld (.var 0) "done" (.lst .nil))
 (.cons (.fld (.var 0) "height" (.cst (.int 0)))
 (.cons (.fld (.var 0) "burnt" (.cst (.int 0)))
 .nil)))))))
abbrev f_Book___init__ : Nat := 1
def b_Ledger___init__ : Stts :=
 (.cons (.drop (.call 3 (.cons (.var 1) .nil)))
 (.cons (.drop (.call 0 (.cons (.cst (.str "the room")) (.cons (.var 2) (.cons (.cst (.int 1)) (.cons (.glob "GREATEST_ROOM" (.int 200)) .nil))))))
 (.cons (.fld (.var 0) "book" (.make 4 1 (.cons (.var 1) .nil)))
 (.cons (.fld (.var 0) "room" (.var 2))
 (.cons (.fld (.var 0) "waiting" (.lst .nil))
 .nil)))))
abbrev f_Ledger___init__ : Nat := 2
def b__check_purses : Stts :=
 (.cons (.ifs (.val (.cmp .gt (.bi .len (.cons (.var 0) .nil)) (.glob "MOST_PURSES" (.int 50))))
 (.cons (.raise 2 (.joined (.cons (.cst (.str "there are more than ")) (.cons (.fmt (.glob "MOST_PURSES" (.int 50))) (.cons (.cst (.str " purses")) .nil)))) false)
 .nil)
 .nil)
 (.cons (.ifs (.val (.cmp .lt (.lensetI (.tp [(.nm 3), (.nm 1)]) (.seq (.var 0)) .yes (.var 3)) (.bi .len (.cons (.var 0) .nil))))
 (.cons (.raise 2 (.cst (.str "two purses are of one party")) false)
 .nil)
 .nil)
 (.cons (.for_ (.tp [(.nm 1), (.nm 2)]) (.seq (.var 0))
 (.cons (.ifs (.or (.val (.cmp .lt (.var 2) (.cst (.int 0)))) (.val (.cmp .gt (.var 2) (.glob "GREATEST_AMOUNT" (.int 1000000000000000)))))
 (.cons (.raise 2 (.joined (.cons (.cst (.str "an amount is not from 0 to ")) (.cons (.fmt (.glob "GREATEST_AMOUNT" (.int 1000000000000000))) .nil))) false)
 .nil)
 .nil)
 .nil))
 (.cons (.ifs (.val (.cmp .gt (.bi .sum (.cons (.lc (.tp [(.nm 1), (.nm 2)]) (.seq (.var 0)) .yes (.var 2)) .nil)) (.glob "GREATEST_AMOUNT" (.int 1000000000000000))))
 (.cons (.raise 3 (.joined (.cons (.cst (.str "the amounts are together more than ")) (.cons (.fmt (.glob "GREATEST_AMOUNT" (.int 1000000000000000))) .nil))) false)
 .nil)
 .nil)
 .nil))))
abbrev f__check_purses : Nat := 3
def b__law_rows : Stts :=
 (.cons (.asg (.nm 2) (.lst .nil))
 (.cons (.for_ (.nm 3) (.range (.var 1))
 (.cons (.asg (.nm 4) (.cst (.int 0)))
 (.cons (.ifs (.val (.cmp .gt (.bi .len (.cons (.var 0) .nil)) (.cst (.int 0))))
 (.cons (.asg (.nm 4) (.bi .int (.cons (.idx (.var 0) (.bin .mod (.bi .int (.cons (.var 3) .nil)) (.bi .len (.cons (.var 0) .nil)))) .nil)))
 .nil)
 .nil)
 (.cons (.ifs (.val (.cmp .lt (.var 4) (.cst (.int 0))))
 (.cons (.asg (.nm 4) (.bin .sub (.bin .sub (.cst (.int 0)) (.bin .mul (.cst (.int 2)) (.var 4))) (.cst (.int 1))))
 .nil)
 .nil)
 (.cons (.ifs (.or (.val (.cmp .ge (.var 3) (.bi .len (.cons (.var 0) .nil)))) (.val (.cmp .lt (.var 4) (.cst (.int 1000000000)))))
 (.cons (.asg (.nm 4) (.bin .mod (.bi .int (.cons (.bin .add (.bin .add (.bin .mul (.bin .add (.bin .add (.var 4) (.bin .mul (.cst (.int 137)) (.var 3))) (.cst (.int 5))) (.cst (.int 48271))) (.bin .mul (.bin .mul (.var 3) (.var 3)) (.cst (.int 69621)))) (.cst (.int 3))) .nil)) (.cst (.int 2147483647))))
 (.cons (.asg (.nm 4) (.bin .mod (.bi .int (.cons (.bin .add (.bin .mul (.bin .add (.bin .add (.var 4) (.bin .mul (.cst (.int 19)) (.var 3))) (.cst (.int 1))) (.cst (.int 3202034522624059733))) (.cst (.int 7))) .nil)) (.cst (.int 18446744073709551557))))
 .nil))
 .nil)
 (.cons (.app (.nm 2) (.var 4))
 .nil))))))
 (.cons (.ret (.var 2))
 .nil)))
abbrev f__law_rows : Nat := 4
def b__law_made : Stts :=
 (.cons (.try_ (.cons (.asg (.nm 2) (.make 5 2 (.cons (.var 0) (.cons (.var 1) .nil))))
 .nil)
 (.cons 2 (.cons (.ret (.cst (.str "purses")))
 .nil)
 (.cons 3 (.cons (.ret (.cst (.str "money")))
 .nil)
 (.cons 1 (.cons (.ret (.cst (.str "room")))
 .nil)
 (.cons 0 (.cons (.ret (.cst (.str "other")))
 .nil)
 .nil)))))
 (.cons (.asg (.nm 3) (.attr (.var 2) "book"))
 (.cons (.ifs (.or (.val (.cmp .ne (.lc (.nm 4) (.seq (.attr (.var 3) "purses")) .yes (.tup (.cons (.var 4) (.cons (.idx (.attr (.var 3) "purses") (.var 4)) .nil)))) (.var 0))) (.val (.cmp .ne (.attr (.var 2) "room") (.var 1))))
 (.cons (.ret (.cst (.str "wrong")))
 .nil)
 .nil)
 (.cons (.ifs (.or (.val (.cmp .ne (.attr (.var 3) "vaults") (.dct0 false))) (.or (.val (.cmp .ne (.attr (.var 3) "receipts") (.dct0 false))) (.or (.val (.cmp .ne (.attr (.var 3) "ended") (.lst .nil))) (.or (.val (.cmp .ne (.attr (.var 3) "done") (.lst .nil))) (.val (.cmp .ne (.attr (.var 2) "waiting") (.lst .nil)))))))
 (.cons (.ret (.cst (.str "wrong")))
 .nil)
 .nil)
 (.cons (.ret (.ite (.and (.val (.cmp .eq (.attr (.var 3) "height") (.cst (.int 0)))) (.val (.cmp .eq (.attr (.var 3) "burnt") (.cst (.int 0))))) (.cst (.str "made")) (.cst (.str "wrong"))))
 .nil)))))
abbrev f__law_made : Nat := 5
def b__law_due : Stts :=
 (.cons (.asg (.nm 2) (.lc (.nm 7) (.seq (.var 0)) .yes (.idx (.var 7) (.cst (.int 0)))))
 (.cons (.for_ (.nm 3) (.range (.bi .len (.cons (.var 2) .nil)))
 (.cons (.ifs (.val (.cmp .in (.idx (.var 2) (.var 3)) (.slice (.var 2) (.cst .non) (.var 3))))
 (.cons (.ret (.cst (.str "purses")))
 .nil)
 .nil)
 .nil))
 (.cons (.ifs (.val (.cmp .gt (.bi .len (.cons (.var 0) .nil)) (.cst (.int 50))))
 (.cons (.ret (.cst (.str "purses")))
 .nil)
 .nil)
 (.cons (.asg (.nm 4) (.cst (.int 0)))
 (.cons (.for_ (.tp [(.nm 5), (.nm 6)]) (.seq (.var 0))
 (.cons (.ifs (.or (.val (.cmp .lt (.var 6) (.cst (.int 0)))) (.val (.cmp .gt (.var 6) (.cst (.int 1000000000000000)))))
 (.cons (.ret (.cst (.str "purses")))
 .nil)
 .nil)
 (.cons (.asg (.nm 4) (.bin .add (.var 4) (.var 6)))
 .nil)))
 (.cons (.ifs (.val (.cmp .gt (.var 4) (.cst (.int 1000000000000000))))
 (.cons (.ret (.cst (.str "money")))
 .nil)
 .nil)
 (.cons (.ret (.ite (.val (.chain .le .le (.cst (.int 1)) (.var 1) (.cst (.int 200)))) (.cst (.str "made")) (.cst (.str "room"))))
 .nil)))))))
abbrev f__law_due : Nat := 6
def b_law : Stts :=
 (.cons (.asg (.nm 1) (.call 4 (.cons (.var 0) (.cons (.cst (.int 24)) .nil))))
 (.cons (.for_ (.nm 2) (.seq (.var 1))
 (.cons (.asg (.nm 3) (.idx (.tup (.cons (.cst (.int 0)) (.cons (.cst (.int 1)) (.cons (.cst (.int 2)) (.cons (.cst (.int 3)) (.cons (.cst (.int 49)) (.cons (.cst (.int 50)) (.cons (.cst (.int 51)) .nil)))))))) (.bin .mod (.bi .int (.cons (.var 2) .nil)) (.cst (.int 7)))))
 (.cons (.asg (.nm 4) (.lc (.nm 6) (.range (.var 3)) .yes (.tup (.cons (.bin .add (.var 6) (.cst (.int 1))) (.cons (.bin .mod (.bi .int (.cons (.bin .div (.var 2) (.bin .add (.cst (.int 7)) (.var 6))) .nil)) (.cst (.int 9))) .nil)))))
 (.cons (.ifs (.and (.val (.cmp .gt (.var 3) (.cst (.int 1)))) (.val (.cmp .eq (.bin .mod (.bi .int (.cons (.bin .div (.var 2) (.cst (.int 7))) .nil)) (.cst (.int 4))) (.cst (.int 0)))))
 (.cons (.putL (.nm 4) (.bin .sub (.var 3) (.cst (.int 1))) (.tup (.cons (.bin .add (.cst (.int 1)) (.bin .mod (.bi .int (.cons (.bin .div (.var 2) (.cst (.int 28))) .nil)) (.var 3))) (.cons (.cst (.int 3)) .nil))))
 .nil)
 .nil)
 (.cons (.ifs (.and (.val (.cmp .gt (.var 3) (.cst (.int 0)))) (.val (.cmp .eq (.bin .mod (.bi .int (.cons (.bin .div (.var 2) (.cst (.int 7))) .nil)) (.cst (.int 4))) (.cst (.int 1)))))
 (.cons (.putL (.nm 4) (.cst (.int 0)) (.tup (.cons (.cst (.int 1)) (.cons (.idx (.tup (.cons (.cst (.int 1000000000000000)) (.cons (.cst (.int 1000000000000001)) (.cons (.bin .sub (.cst (.int 0)) (.cst (.int 1))) (.cons (.cst (.int 999999999999990)) .nil))))) (.bin .mod (.bi .int (.cons (.bin .div (.var 2) (.cst (.int 28))) .nil)) (.cst (.int 4)))) .nil))))
 .nil)
 .nil)
 (.cons (.asg (.nm 5) (.idx (.tup (.cons (.cst (.int 1)) (.cons (.cst (.int 200)) (.cons (.cst (.int 201)) (.cons (.cst (.int 0)) (.cons (.bin .sub (.cst (.int 0)) (.cst (.int 1))) (.cons (.cst (.int 7)) .nil))))))) (.bin .mod (.bi .int (.cons (.bin .div (.var 2) (.cst (.int 112))) .nil)) (.cst (.int 6)))))
 (.cons (.ifs (.val (.cmp .ne (.call 5 (.cons (.var 4) (.cons (.var 5) .nil))) (.call 6 (.cons (.var 4) (.cons (.var 5) .nil)))))
 (.cons (.ret (.cst (.bl false)))
 .nil)
 .nil)
 .nil)))))))
 (.cons (.ret (.cst (.bl true)))
 .nil)))
abbrev f_law : Nat := 7
def fldsL : List (Nat × Str) := [(4, Str.ofString "purses"), (4, Str.ofString "vaults"), (4, Str.ofString "receipts"), (4, Str.ofString "ended"), (4, Str.ofString "done"), (4, Str.ofString "height"), (4, Str.ofString "burnt"), (5, Str.ofString "book"), (5, Str.ofString "room"), (5, Str.ofString "waiting")]
def ktsL : List (List D) := []
def exsL : List Nat := [0, 1, 2, 3]
def prog : Prog := ⟨[⟨4, 4, b_check_range, false⟩,
 ⟨2, 2, b_Book___init__, false⟩,
 ⟨3, 3, b_Ledger___init__, false⟩,
 ⟨1, 4, b__check_purses, false⟩,
 ⟨2, 5, b__law_rows, false⟩,
 ⟨2, 5, b__law_made, false⟩,
 ⟨2, 8, b__law_due, false⟩,
 ⟨1, 7, b_law, false⟩], List.map Str.ofString ["check_range", "__init__", "__init__", "_check_purses", "_law_rows", "_law_made", "_law_due", "law"], [], [(1, 0), (2, 0), (3, 0)], ktsL, fldsL, exsL⟩
end Lw
namespace Lw
open Tv
open L2 (atI)
theorem mulR {i j : Int} (h1 : -18446744073709551616 < j) (h2 : j < 18446744073709551616) : mulOk i j = true := mulOkR h1 h2
theorem mulL {i j : Int} (h1 : -18446744073709551616 < i) (h2 : i < 18446744073709551616) : mulOk i j = true := mulOkL h1 h2
theorem divR {j : Int} (h1 : 0 < j) (h2 : j < 18446744073709551616) : divOk j = true := divOkI h1 h2
theorem atI_at {xs : List D} {k : Nat} {x : D} (h : xs[k]? = some x) : atI xs (k : Int) = some x := by rw [atI_pos (by omega)]; exact h

theorem fk_0 : prog.flds.contains (4, PySem.Str.ofString "purses") = true := by decide +kernel
theorem fk_1 : prog.flds.contains (4, PySem.Str.ofString "vaults") = true := by decide +kernel
theorem fk_2 : prog.flds.contains (4, PySem.Str.ofString "receipts") = true := by decide +kernel
theorem fk_3 : prog.flds.contains (4, PySem.Str.ofString "ended") = true := by decide +kernel
theorem fk_4 : prog.flds.contains (4, PySem.Str.ofString "done") = true := by decide +kernel
theorem fk_5 : prog.flds.contains (4, PySem.Str.ofString "height") = true := by decide +kernel
theorem fk_6 : prog.flds.contains (4, PySem.Str.ofString "burnt") = true := by decide +kernel
theorem fk_7 : prog.flds.contains (5, PySem.Str.ofString "book") = true := by decide +kernel
theorem fk_8 : prog.flds.contains (5, PySem.Str.ofString "room") = true := by decide +kernel
theorem fk_9 : prog.flds.contains (5, PySem.Str.ofString "waiting") = true := by decide +kernel
theorem ht_0_0 : hdT prog 0 0 = some true := by decide +kernel
theorem ht_0_1 : hdT prog 0 1 = some false := by decide +kernel
theorem ht_0_2 : hdT prog 0 2 = some false := by decide +kernel
theorem ht_0_3 : hdT prog 0 3 = some false := by decide +kernel
theorem ht_1_0 : hdT prog 1 0 = some true := by decide +kernel
theorem ht_1_1 : hdT prog 1 1 = some true := by decide +kernel
theorem ht_1_2 : hdT prog 1 2 = some false := by decide +kernel
theorem ht_1_3 : hdT prog 1 3 = some false := by decide +kernel
theorem ht_2_0 : hdT prog 2 0 = some true := by decide +kernel
theorem ht_2_1 : hdT prog 2 1 = some false := by decide +kernel
theorem ht_2_2 : hdT prog 2 2 = some true := by decide +kernel
theorem ht_2_3 : hdT prog 2 3 = some false := by decide +kernel
theorem ht_3_0 : hdT prog 3 0 = some true := by decide +kernel
theorem ht_3_1 : hdT prog 3 1 = some false := by decide +kernel
theorem ht_3_2 : hdT prog 3 2 = some false := by decide +kernel
theorem ht_3_3 : hdT prog 3 3 = some true := by decide +kernel
theorem cs_check_range {n : Nat} {as : List SV} {L : List Ow} {st : Sto} (hl : as.length = 4 := by rfl) : prog.call (n + 1) 0 as L st = result (execs (prog.cl (prog.call n) L) b_check_range (as.map some ++ List.replicate (4 - as.length) none) st) := call_succ (np := 4) (ns := 4) (body := b_check_range) rfl hl
theorem cs_Book___init__ {n : Nat} {as : List SV} {L : List Ow} {st : Sto} (hl : as.length = 2 := by rfl) : prog.call (n + 1) 1 as L st = result (execs (prog.cl (prog.call n) L) b_Book___init__ (as.map some ++ List.replicate (2 - as.length) none) st) := call_succ (np := 2) (ns := 2) (body := b_Book___init__) rfl hl
theorem cs_Ledger___init__ {n : Nat} {as : List SV} {L : List Ow} {st : Sto} (hl : as.length = 3 := by rfl) : prog.call (n + 1) 2 as L st = result (execs (prog.cl (prog.call n) L) b_Ledger___init__ (as.map some ++ List.replicate (3 - as.length) none) st) := call_succ (np := 3) (ns := 3) (body := b_Ledger___init__) rfl hl
theorem cs__check_purses {n : Nat} {as : List SV} {L : List Ow} {st : Sto} (hl : as.length = 1 := by rfl) : prog.call (n + 1) 3 as L st = result (execs (prog.cl (prog.call n) L) b__check_purses (as.map some ++ List.replicate (4 - as.length) none) st) := call_succ (np := 1) (ns := 4) (body := b__check_purses) rfl hl
theorem cs__law_rows {n : Nat} {as : List SV} {L : List Ow} {st : Sto} (hl : as.length = 2 := by rfl) : prog.call (n + 1) 4 as L st = result (execs (prog.cl (prog.call n) L) b__law_rows (as.map some ++ List.replicate (5 - as.length) none) st) := call_succ (np := 2) (ns := 5) (body := b__law_rows) rfl hl
theorem cs__law_made {n : Nat} {as : List SV} {L : List Ow} {st : Sto} (hl : as.length = 2 := by rfl) : prog.call (n + 1) 5 as L st = result (execs (prog.cl (prog.call n) L) b__law_made (as.map some ++ List.replicate (5 - as.length) none) st) := call_succ (np := 2) (ns := 5) (body := b__law_made) rfl hl
theorem cs__law_due {n : Nat} {as : List SV} {L : List Ow} {st : Sto} (hl : as.length = 2 := by rfl) : prog.call (n + 1) 6 as L st = result (execs (prog.cl (prog.call n) L) b__law_due (as.map some ++ List.replicate (8 - as.length) none) st) := call_succ (np := 2) (ns := 8) (body := b__law_due) rfl hl
theorem cs_law {n : Nat} {as : List SV} {L : List Ow} {st : Sto} (hl : as.length = 1 := by rfl) : prog.call (n + 1) 7 as L st = result (execs (prog.cl (prog.call n) L) b_law (as.map some ++ List.replicate (7 - as.length) none) st) := call_succ (np := 1) (ns := 7) (body := b_law) rfl hl
section
local macro_rules | `(tactic| walk_at "sv") => `(tactic| simp only [e_bin, k_bin, k_bin2, e_cmp, k_cmp, bok_s, k_cmp2, e_var, e_cst, e_glob, e_neg, k_neg, k_bl, e_and, k_andT, k_andF, e_or, k_orF, k_orT, e_not, k_not, e_ite, k_iteT, k_iteF, dok_s, e_idx, k_idx, k_idx2, e_slice, k_sl, k_sl2, k_sl3, part_i, part_n, e_rev, e_tup, k_tup, k_tup2, e_lst, k_lst, k_lst2, toDs_nil, toDs_cons, k_ds, k_ds2, toD_d, e_call, k_go, e_bi, s_nil, s_cons, k_es, k_es2, t_yes, tok_s, t_val, k_val, t_and, k_tandT, k_tandF, t_or, k_torT, k_torF, t_not, k_tnot, i_seq, i_rng, k_rng, i_rev, k_revI, k_revI2, k_some, k_turnT, k_turnF, k_own, e_lc, k_lc, ss_nil', ss_cons', x_asg, nxo_s, k_asg, k_asgO, k_asgP, g_put, x_mv, set_v, x_if, k_ifT, k_ifF, x_for, k_for, k_retD, k_retO, x_ret_bin, x_ret_cmp, x_ret_and, x_ret_or, x_ret_not, x_ret_ite, x_ret_cst, x_ret_tup, x_ret_lst, x_ret_rev, x_ret_idx, x_ret_slice, x_ret_neg, x_ret_lc, x_ret_call, x_ret_bi, x_retV, x_retN, x_brk, x_cnt, x_pass, x_app, r_nm, k_slot, k_push, rev_c, cast0, List.isEmpty_cons, List.isEmpty_nil, sl_tail, k_app, k_app1, k_app3, Lc.ow, b_add, b_sub, b_mul, b_div, b_mod, b_pow, c_lt, c_le, c_gt, c_ge, c_eq, c_ne, c_isN, c_eqB, c_eqS, all_map, toNatN, c_isntN, ix_tup, ix_c, bi_lenT, bi_lenC, bi_int', bi_listT, bi_listC, bi_tupleT, bi_tupleC, bi_isi, tr_bl, tr_int, tr_tup, tr_c, tr_non, q_tup, q_c, q_tupS, q_cS, q_cM, rt_nx, rt_rt,
  List.map, List.append, List.cons_append, List.nil_append, turn_c, k_turnE, turn_f, k_turnFE, filN_nil, filN_cons, Nat.reduceEqDiff, Nat.reduceLeDiff, wipeE, Tg.own, Tg.names, Tg.namess, dupN, List.length_cons, List.length_nil, List.length_map, List.length_reverse, decide_true, decide_false, List.replicate, Nat.reduceSub, Nat.reduceAdd, Nat.zero_add, List.getElem?_cons_zero, List.getElem?_cons_succ, List.set_cons_zero, List.set_cons_succ, rb_ok, sb_ok, sq_nx, sq_rt, sq_bk, sq_ct, Tg.free, Tg.frees, free_f, free_nil, free_cons, Tg.set, Tg.sets, Bool.and_true, Bool.true_and, Bool.not_true, Bool.not_false, if_true, cl_lk, cl_go, cl_kts, cl_locks, lockOf, argS, List.flatMap_cons, List.flatMap_nil, isTy, atI0, atI1, atI2, atI3, atI4, mulR, mulL, divR, powC, powC15, Ex.isV, Ex.isNon, if_false, Int.reduceNeg, Int.reducePow, Int.reduceLT, Int.reduceLE, Int.reduceToNat, reduceCtorEq, s_beq, stay_par, stay_scr, stay_own, stay_at, Int.zero_add, e_ls, k_ls, k_count, i_zip, k_zip1, k_zip2, k_zip3, k_zip4, x_drop, k_drop, bi_max2, bi_min2, sl_two, c_neT2, c_eqT2, c_inI, c_notinI, Bool.false_and, Bool.and_false, e_dct, k_dct, k_dct1, e_dct0K, bi_dictC, ix_m, c_inM, c_notinM, is_some, is_none, x_put, k_put, k_put2, k_put3, k_put4, k_putM, r_nm0, k_slot0, x_prom, k_promO, k_promD, ix_ref, k_refL, ty_ref, k_isL, bi_tupleR, k_tupR, last_at, ix_t, c_notinT, k_putT, i_enum, k_enum, k_enum2, e_dct0T, e_attr, k_attr, attr_o, attr_d, attr_c, attr_z, ins_o, e_meth, k_meth, k_meth1, k_meth2, k_methG, e_prop, k_prop, k_prop1, k_prop2, nox_ok, lk_cons, e_make, k_make, k_made, x_fld, k_fld, k_store, fld_o, fv_d, fv_c, okf_cons, okf_nil, put_nil, put_cons, k_nx, k_nxU, x_fldMv, k_fldMvO, k_fldMvD, x_fld2, k_fld21, k_sto, k_fld22, x_augFld, k_augF, k_augO, k_augF1, k_augF2, aug_add, aug_sub, k_augF3, st_set, st_setN, st_set2, st_setL, st_new, st_newS, lkf_nil, lkf_filt, lkf_c, lkf_f, lkf_s, lkf_app, r_fld, k_res, res_o, res_c, r_kind, k_kd, con_o, con_v, kd_o, isL_l, k_appF, app_f, set_o, set_p, s_beqF, b_addL, ne_eq, bi_minL, c_neB, eq_self, not_false_eq_true, e_chain, k_ch, k_ch2T, k_ch2F, k_ch3, x_del, k_del, k_delF, del_f, map_erase, x_par, k_par, k_par2, c_isC, c_isntC, trk_own, trk_par, trk_at, trk_d, s_beqC, x_ret_attr, x_ret_meth, x_ret_prop, x_ret_make, x_ret_glob, x_ret_dct, lku_hit, s_eqP, s_eqB, String.reduceEq, Nat.reduceLT, Bool.or_true, Bool.or_false, Bool.true_or, Bool.false_or, reduceIte, rb_ex, sb_ex, sq_ex, rt_ex, x_raise, k_raise, x_try, try_nx, try_rt, try_ct, try_ex, hd_cons, hd_y, hd_n, hd_nil, nex_nx, nex_rt, nex_ct, x_tryN, tryN_nx, tryN_rt, tryN_ex, unx_nx, unx_rt, hn_cons, hn_y, hn_n, e_xis, xis_o, k_xis, e_lsZ, k_lsZ, k_countZ, x_putL, k_putL, k_putL2, k_putL3, k_putL4, put_lv, c_neSt, k_slotC, k_cellL, k_slot0C, con_c1, k_appC, app_c, k_put4C, put_c, x_pop, k_pop, k_popC, pop_c, e_popc, k_popc, k_popcO, k_popc2, pop_d, pop_r, e_bm, k_bmG, k_bmGR, k_bmR1, k_bm2R, get_r, k_bm2C, bi_lenR, len_l, len_m, fk_0, fk_1, fk_2, fk_3, fk_4, fk_5, fk_6, fk_7, fk_8, fk_9, ht_0_0, ht_0_1, ht_0_2, ht_0_3, ht_1_0, ht_1_1, ht_1_2, ht_1_3, ht_2_0, ht_2_1, ht_2_2, ht_2_3, ht_3_0, ht_3_1, ht_3_2, ht_3_3, *])
/-- the law's rows -/
def rowF (ns : List Int) (k : Int) : Int :=
  let c := if 0 < ns.length then (atI ns (k % ns.length)).getD 0 else 0
  let c := if c < 0 then 0 - 2 * c - 1 else c
  if (ns.length : Int) ≤ k ∨ c < 1000000000 then
    let c := ((c + 137 * k + 5) * 48271 + k * k * 69621 + 3) % 2147483647
    ((c + 19 * k + 1) * 3202034522624059733 + 7) % 18446744073709551557
  else c
def rowsF (ns : List Int) (m : Nat) : List Int := (List.range m).map fun (k : Nat) => rowF ns k
theorem rows_len {ns : List Int} {m : Nat} : (rowsF ns m).length = m := by unfold rowsF; rw [List.length_map, List.length_range]
theorem atI_int {ns : List Int} {k : Int} (h : 0 ≤ k) (h2 : k < ns.length) : atI (ns.map D.int) k = some (.int ((atI ns k).getD 0)) := by
  rw [atI_pos h, atI_pos h, List.getElem?_map]
  have h3 : k.toNat < ns.length := by omega
  rw [List.getElem?_eq_getElem h3]
  rfl
theorem sp_rows {n m : Nat} {ns : List Int} {L : List Ow} {st : Sto} (hm : m ≤ 900) : prog.call (n + 1) 4 [.c .scr (.l (ns.map .int)), .d (.int m)] (L.filter Ow.inStore) st = some (.ok (.c .own (.l ((rowsF ns m).map .int))) st) := by
  rw [cs__law_rows]; simp only [b__law_rows]
  have hsm : smallI (m : Int) = true := smallN (by omega)
  walk_at "sv"
  refine wp_res (wp_for (fun i env s => s = st ∧ i ≤ m ∧ ∃ o3 o4, env = [some (.c .scr (.l (ns.map .int))), some (.d (.int m)), some (.c .own (.l ((rowsF ns i).map .int))), o3, o4]) ⟨rfl, Nat.zero_le _, _, _, rfl⟩ ?_ ?_)
  · rintro i x hx env s ⟨rfl, him, o3, o4, rfl⟩
    obtain ⟨hi, rfl⟩ := range_at hx
    have hz : (rowsF ns i).length < PySem.sizeLine := by rw [rows_len]; exact Nat.lt_of_lt_of_le (by omega : _ < 1000) size_k
    have hk1 : mulOk (i : Int) (i : Int) = true := mulOkL (by omega) (by omega)
    have hk2 : mulOk 137 (i : Int) = true := mulOkL (by omega) (by omega)
    have hk3 : mulOk 19 (i : Int) = true := mulOkL (by omega) (by omega)
    have hk4 : ∀ z : Int, mulOk z 3202034522624059733 = true := fun z => mulOkR (by omega) (by omega)
    have hnext : (rowsF ns (i + 1)).map D.int = (rowsF ns i).map D.int ++ [.int (rowF ns i)] := by
      unfold rowsF
      rw [List.range_succ, List.map_append, List.map_append]
      rfl
    generalize rowsF ns i = R at hz hnext ⊢
    generalize rowsF ns (i + 1) = R' at hnext ⊢
    rw [hnext]
    clear hnext
    unfold rowF
    by_cases hl : (0 : Int) < ns.length
    · have hl' : 0 < ns.length := by omega
      have hi0 : 0 ≤ (i : Int) % ns.length := Int.emod_nonneg _ (by omega)
      have hi1 : (i : Int) % ns.length < ns.length := Int.emod_lt_of_pos _ hl
      have e := atI_int hi0 hi1
      simp only [if_pos hl']
      generalize (atI ns ((i : Int) % ns.length)).getD 0 = z at e
      by_cases h1 : z < 0
      · simp only [if_pos h1]
        by_cases h2 : (ns.length : Int) ≤ i
        · simp only [if_pos (Or.inl h2 : (ns.length : Int) ≤ i ∨ 0 - 2 * z - 1 < 1000000000)]
          walk_at "sv"
          exact wp_some ⟨rfl, by omega, _, _, rfl⟩
        · by_cases h3 : 0 - 2 * z - 1 < 1000000000
          · simp only [if_pos (Or.inr h3 : (ns.length : Int) ≤ i ∨ 0 - 2 * z - 1 < 1000000000)]
            walk_at "sv"
            exact wp_some ⟨rfl, by omega, _, _, rfl⟩
          · simp only [if_neg (fun o => Or.elim o h2 h3 : ¬ ((ns.length : Int) ≤ i ∨ 0 - 2 * z - 1 < 1000000000))]
            walk_at "sv"
            exact wp_some ⟨rfl, by omega, _, _, rfl⟩
      · simp only [if_neg h1]
        by_cases h2 : (ns.length : Int) ≤ i
        · simp only [if_pos (Or.inl h2 : (ns.length : Int) ≤ i ∨ z < 1000000000)]
          walk_at "sv"
          exact wp_some ⟨rfl, by omega, _, _, rfl⟩
        · by_cases h3 : z < 1000000000
          · simp only [if_pos (Or.inr h3 : (ns.length : Int) ≤ i ∨ z < 1000000000)]
            walk_at "sv"
            exact wp_some ⟨rfl, by omega, _, _, rfl⟩
          · simp only [if_neg (fun o => Or.elim o h2 h3 : ¬ ((ns.length : Int) ≤ i ∨ z < 1000000000))]
            walk_at "sv"
            exact wp_some ⟨rfl, by omega, _, _, rfl⟩
    · have hl' : ¬ 0 < ns.length := by omega
      have h2 : (ns.length : Int) ≤ i := by omega
      simp only [if_neg hl', if_pos (Or.inl h2 : (ns.length : Int) ≤ i ∨ (if (0 : Int) < 0 then 0 - 2 * 0 - 1 else 0 : Int) < 1000000000)]
      have h00 : ¬ (0 : Int) < 0 := by omega
      simp only [if_neg h00]
      walk_at "sv"
      exact wp_some ⟨rfl, by omega, _, _, rfl⟩
  · rintro env s ⟨rfl, _, o3, o4, rfl⟩
    rw [len_range]
    walk_at "sv"
    exact wp_some rfl
end
section
local macro_rules | `(tactic| walk_at "sv") => `(tactic| simp only [e_bin, k_bin, k_bin2, e_cmp, k_cmp, bok_s, k_cmp2, e_var, e_cst, e_glob, e_neg, k_neg, k_bl, e_and, k_andT, k_andF, e_or, k_orF, k_orT, e_not, k_not, e_ite, k_iteT, k_iteF, dok_s, e_idx, k_idx, k_idx2, e_slice, k_sl, k_sl2, k_sl3, part_i, part_n, e_rev, e_tup, k_tup, k_tup2, e_lst, k_lst, k_lst2, toDs_nil, toDs_cons, k_ds, k_ds2, toD_d, e_call, k_go, e_bi, s_nil, s_cons, k_es, k_es2, t_yes, tok_s, t_val, k_val, t_and, k_tandT, k_tandF, t_or, k_torT, k_torF, t_not, k_tnot, i_seq, i_rng, k_rng, i_rev, k_revI, k_revI2, k_some, k_turnT, k_turnF, k_own, e_lc, k_lc, ss_nil', ss_cons', x_asg, nxo_s, k_asg, k_asgO, k_asgP, g_put, x_mv, set_v, x_if, k_ifT, k_ifF, x_for, k_for, k_retD, k_retO, x_ret_bin, x_ret_cmp, x_ret_and, x_ret_or, x_ret_not, x_ret_ite, x_ret_cst, x_ret_tup, x_ret_lst, x_ret_rev, x_ret_idx, x_ret_slice, x_ret_neg, x_ret_lc, x_ret_call, x_ret_bi, x_retV, x_retN, x_brk, x_cnt, x_pass, x_app, r_nm, k_slot, k_push, rev_c, cast0, List.isEmpty_cons, List.isEmpty_nil, sl_tail, k_app, k_app1, k_app3, Lc.ow, b_add, b_sub, b_mul, b_div, b_mod, b_pow, c_lt, c_le, c_gt, c_ge, c_eq, c_ne, c_isN, c_eqB, c_eqS, all_map, toNatN, c_isntN, ix_tup, ix_c, bi_lenT, bi_lenC, bi_int', bi_listT, bi_listC, bi_tupleT, bi_tupleC, bi_isi, tr_bl, tr_int, tr_tup, tr_c, tr_non, q_tup, q_c, q_tupS, q_cS, q_cM, rt_nx, rt_rt,
  List.map, List.append, List.cons_append, List.nil_append, turn_c, k_turnE, turn_f, k_turnFE, filN_nil, filN_cons, Nat.reduceEqDiff, Nat.reduceLeDiff, wipeE, Tg.own, Tg.names, Tg.namess, dupN, List.length_cons, List.length_nil, List.length_map, List.length_reverse, decide_true, decide_false, List.replicate, Nat.reduceSub, Nat.reduceAdd, Nat.zero_add, List.getElem?_cons_zero, List.getElem?_cons_succ, List.set_cons_zero, List.set_cons_succ, rb_ok, sb_ok, sq_nx, sq_rt, sq_bk, sq_ct, Tg.free, Tg.frees, free_f, free_nil, free_cons, Tg.set, Tg.sets, Bool.and_true, Bool.true_and, Bool.not_true, Bool.not_false, if_true, cl_lk, cl_go, cl_kts, cl_locks, lockOf, argS, List.flatMap_cons, List.flatMap_nil, isTy, atI0, atI1, atI2, atI3, atI4, mulR, mulL, divR, powC, powC15, Ex.isV, Ex.isNon, if_false, Int.reduceNeg, Int.reducePow, Int.reduceLT, Int.reduceLE, Int.reduceToNat, reduceCtorEq, s_beq, stay_par, stay_scr, stay_own, stay_at, Int.zero_add, e_ls, k_ls, k_count, i_zip, k_zip1, k_zip2, k_zip3, k_zip4, x_drop, k_drop, bi_max2, bi_min2, sl_two, c_neT2, c_eqT2, c_inI, c_notinI, Bool.false_and, Bool.and_false, e_dct, k_dct, k_dct1, e_dct0K, bi_dictC, ix_m, c_inM, c_notinM, is_some, is_none, x_put, k_put, k_put2, k_put3, k_put4, k_putM, r_nm0, k_slot0, x_prom, k_promO, k_promD, ix_ref, k_refL, ty_ref, k_isL, bi_tupleR, k_tupR, last_at, ix_t, c_notinT, k_putT, i_enum, k_enum, k_enum2, e_dct0T, e_attr, k_attr, attr_o, attr_d, attr_c, attr_z, ins_o, e_meth, k_meth, k_meth1, k_meth2, k_methG, e_prop, k_prop, k_prop1, k_prop2, nox_ok, lk_cons, e_make, k_make, k_made, x_fld, k_fld, k_store, fld_o, fv_d, fv_c, okf_cons, okf_nil, put_nil, put_cons, k_nx, k_nxU, x_fldMv, k_fldMvO, k_fldMvD, x_fld2, k_fld21, k_sto, k_fld22, x_augFld, k_augF, k_augO, k_augF1, k_augF2, aug_add, aug_sub, k_augF3, st_set, st_setN, st_set2, st_setL, st_new, st_newS, lkf_nil, lkf_filt, lkf_c, lkf_f, lkf_s, lkf_app, r_fld, k_res, res_o, res_c, r_kind, k_kd, con_o, con_v, kd_o, isL_l, k_appF, app_f, set_o, set_p, s_beqF, b_addL, ne_eq, bi_minL, c_neB, eq_self, not_false_eq_true, e_chain, k_ch, k_ch2T, k_ch2F, k_ch3, x_del, k_del, k_delF, del_f, map_erase, x_par, k_par, k_par2, c_isC, c_isntC, trk_own, trk_par, trk_at, trk_d, s_beqC, x_ret_attr, x_ret_meth, x_ret_prop, x_ret_make, x_ret_glob, x_ret_dct, lku_hit, s_eqP, s_eqB, String.reduceEq, Nat.reduceLT, Bool.or_true, Bool.or_false, Bool.true_or, Bool.false_or, reduceIte, rb_ex, sb_ex, sq_ex, rt_ex, x_raise, k_raise, x_try, try_nx, try_rt, try_ct, try_ex, hd_cons, hd_y, hd_n, hd_nil, nex_nx, nex_rt, nex_ct, x_tryN, tryN_nx, tryN_rt, tryN_ex, unx_nx, unx_rt, hn_cons, hn_y, hn_n, e_xis, xis_o, k_xis, e_lsZ, k_lsZ, k_countZ, x_putL, k_putL, k_putL2, k_putL3, k_putL4, put_lv, c_neSt, k_slotC, k_cellL, k_slot0C, con_c1, k_appC, app_c, k_put4C, put_c, x_pop, k_pop, k_popC, pop_c, e_popc, k_popc, k_popcO, k_popc2, pop_d, pop_r, e_bm, k_bmG, k_bmGR, k_bmR1, k_bm2R, get_r, k_bm2C, bi_lenR, len_l, len_m, fk_0, fk_1, fk_2, fk_3, fk_4, fk_5, fk_6, fk_7, fk_8, fk_9, ht_0_0, ht_0_1, ht_0_2, ht_0_3, ht_1_0, ht_1_1, ht_1_2, ht_1_3, ht_2_0, ht_2_1, ht_2_2, ht_2_3, ht_3_0, ht_3_1, ht_3_2, ht_3_3, *])
theorem rangeD_map' {m : Nat} : rangeD 0 m = (List.range m).map fun (k : Nat) => D.int k := by
  unfold rangeD
  refine List.map_congr_left fun k _ => ?_
  rw [Int.zero_add]
end
section
local macro_rules | `(tactic| walk_at "sv") => `(tactic| simp only [e_bin, k_bin, k_bin2, e_cmp, k_cmp, bok_s, k_cmp2, e_var, e_cst, e_glob, e_neg, k_neg, k_bl, e_and, k_andT, k_andF, e_or, k_orF, k_orT, e_not, k_not, e_ite, k_iteT, k_iteF, dok_s, e_idx, k_idx, k_idx2, e_slice, k_sl, k_sl2, k_sl3, part_i, part_n, e_rev, e_tup, k_tup, k_tup2, e_lst, k_lst, k_lst2, toDs_nil, toDs_cons, k_ds, k_ds2, toD_d, e_call, k_go, e_bi, s_nil, s_cons, k_es, k_es2, t_yes, tok_s, t_val, k_val, t_and, k_tandT, k_tandF, t_or, k_torT, k_torF, t_not, k_tnot, i_seq, i_rng, k_rng, i_rev, k_revI, k_revI2, k_some, k_turnT, k_turnF, k_own, e_lc, k_lc, ss_nil', ss_cons', x_asg, nxo_s, k_asg, k_asgO, k_asgP, g_put, x_mv, set_v, x_if, k_ifT, k_ifF, x_for, k_for, k_retD, k_retO, x_ret_bin, x_ret_cmp, x_ret_and, x_ret_or, x_ret_not, x_ret_ite, x_ret_cst, x_ret_tup, x_ret_lst, x_ret_rev, x_ret_idx, x_ret_slice, x_ret_neg, x_ret_lc, x_ret_call, x_ret_bi, x_retV, x_retN, x_brk, x_cnt, x_pass, x_app, r_nm, k_slot, k_push, rev_c, cast0, List.isEmpty_cons, List.isEmpty_nil, sl_tail, k_app, k_app1, k_app3, Lc.ow, b_add, b_sub, b_mul, b_div, b_mod, b_pow, c_lt, c_le, c_gt, c_ge, c_eq, c_ne, c_isN, c_eqB, c_eqS, all_map, toNatN, c_isntN, ix_tup, ix_c, bi_lenT, bi_lenC, bi_int', bi_listT, bi_listC, bi_tupleT, bi_tupleC, bi_isi, tr_bl, tr_int, tr_tup, tr_c, tr_non, q_tup, q_c, q_tupS, q_cS, q_cM, rt_nx, rt_rt,
  List.map, List.append, List.cons_append, List.nil_append, turn_c, k_turnE, turn_f, k_turnFE, filN_nil, filN_cons, Nat.reduceEqDiff, Nat.reduceLeDiff, wipeE, Tg.own, Tg.names, Tg.namess, dupN, List.length_cons, List.length_nil, List.length_map, List.length_reverse, decide_true, decide_false, List.replicate, Nat.reduceSub, Nat.reduceAdd, Nat.zero_add, List.getElem?_cons_zero, List.getElem?_cons_succ, List.set_cons_zero, List.set_cons_succ, rb_ok, sb_ok, sq_nx, sq_rt, sq_bk, sq_ct, Tg.free, Tg.frees, free_f, free_nil, free_cons, Tg.set, Tg.sets, Bool.and_true, Bool.true_and, Bool.not_true, Bool.not_false, if_true, cl_lk, cl_go, cl_kts, cl_locks, lockOf, argS, List.flatMap_cons, List.flatMap_nil, isTy, atI0, atI1, atI2, atI3, atI4, mulR, mulL, divR, powC, powC15, Ex.isV, Ex.isNon, if_false, Int.reduceNeg, Int.reducePow, Int.reduceLT, Int.reduceLE, Int.reduceToNat, reduceCtorEq, s_beq, stay_par, stay_scr, stay_own, stay_at, Int.zero_add, e_ls, k_ls, k_count, i_zip, k_zip1, k_zip2, k_zip3, k_zip4, x_drop, k_drop, bi_max2, bi_min2, sl_two, c_neT2, c_eqT2, c_inI, c_notinI, Bool.false_and, Bool.and_false, e_dct, k_dct, k_dct1, e_dct0K, bi_dictC, ix_m, c_inM, c_notinM, is_some, is_none, x_put, k_put, k_put2, k_put3, k_put4, k_putM, r_nm0, k_slot0, x_prom, k_promO, k_promD, ix_ref, k_refL, ty_ref, k_isL, bi_tupleR, k_tupR, last_at, ix_t, c_notinT, k_putT, i_enum, k_enum, k_enum2, e_dct0T, e_attr, k_attr, attr_o, attr_d, attr_c, attr_z, ins_o, e_meth, k_meth, k_meth1, k_meth2, k_methG, e_prop, k_prop, k_prop1, k_prop2, nox_ok, lk_cons, e_make, k_make, k_made, x_fld, k_fld, k_store, fld_o, fv_d, fv_c, okf_cons, okf_nil, put_nil, put_cons, k_nx, k_nxU, x_fldMv, k_fldMvO, k_fldMvD, x_fld2, k_fld21, k_sto, k_fld22, x_augFld, k_augF, k_augO, k_augF1, k_augF2, aug_add, aug_sub, k_augF3, st_set, st_setN, st_set2, st_setL, st_new, st_newS, lkf_nil, lkf_filt, lkf_c, lkf_f, lkf_s, lkf_app, r_fld, k_res, res_o, res_c, r_kind, k_kd, con_o, con_v, kd_o, isL_l, k_appF, app_f, set_o, set_p, s_beqF, b_addL, ne_eq, bi_minL, c_neB, eq_self, not_false_eq_true, e_chain, k_ch, k_ch2T, k_ch2F, k_ch3, x_del, k_del, k_delF, del_f, map_erase, x_par, k_par, k_par2, c_isC, c_isntC, trk_own, trk_par, trk_at, trk_d, s_beqC, x_ret_attr, x_ret_meth, x_ret_prop, x_ret_make, x_ret_glob, x_ret_dct, lku_hit, s_eqP, s_eqB, String.reduceEq, Nat.reduceLT, Bool.or_true, Bool.or_false, Bool.true_or, Bool.false_or, reduceIte, rb_ex, sb_ex, sq_ex, rt_ex, x_raise, k_raise, x_try, try_nx, try_rt, try_ct, try_ex, hd_cons, hd_y, hd_n, hd_nil, nex_nx, nex_rt, nex_ct, x_tryN, tryN_nx, tryN_rt, tryN_ex, unx_nx, unx_rt, hn_cons, hn_y, hn_n, e_xis, xis_o, k_xis, e_lsZ, k_lsZ, k_countZ, x_putL, k_putL, k_putL2, k_putL3, k_putL4, put_lv, c_neSt, k_slotC, k_cellL, k_slot0C, con_c1, k_appC, app_c, k_put4C, put_c, x_pop, k_pop, k_popC, pop_c, e_popc, k_popc, k_popcO, k_popc2, pop_d, pop_r, e_bm, k_bmG, k_bmGR, k_bmR1, k_bm2R, get_r, k_bm2C, bi_lenR, len_l, len_m, fk_0, fk_1, fk_2, fk_3, fk_4, fk_5, fk_6, fk_7, fk_8, fk_9, ht_0_0, ht_0_1, ht_0_2, ht_0_3, ht_1_0, ht_1_1, ht_1_2, ht_1_3, ht_2_0, ht_2_1, ht_2_2, ht_2_3, ht_3_0, ht_3_1, ht_3_2, ht_3_3, *])
/-- purses: parties and amounts -/
abbrev Pu := Int × Int
def puD (p : Pu) : D := .tup [.int p.1, .int p.2]
def badP (p : Pu) : Bool := decide (p.2 < 0) || decide (1000000000000000 < p.2)
def uqP (ps : List Pu) : List Int := ps.foldl (fun acc p => putZ acc p.1) []
def sumP (ps : List Pu) : Int := (ps.map (·.2)).sum
theorem bi_sumI {q : Kd} {is : List Int} {st : Sto} : biF .sum [.c q (.l (is.map .int))] st = ok (.d (.int is.sum)) st := by
  show (match allInt (is.map D.int) with
      | some ns => ok (SV.d (.int ns.sum)) st
      | none => none) = _
  rw [allInt_map]
theorem putZ_nd {acc : List Int} {k : Int} (h : acc.Nodup) : (putZ acc k).Nodup := by
  unfold putZ
  split
  · exact h
  · rename_i hk
    rw [List.nodup_append]
    exact ⟨h, by simp, fun a ha b hb => by rw [List.mem_singleton.mp hb]; exact fun z => hk (z ▸ ha)⟩
theorem uqG_eq : ∀ {ps : List Pu} {acc : List Int}, (acc ++ ps.map (·.1)).Nodup → ps.foldl (fun acc p => putZ acc p.1) acc = acc ++ ps.map (·.1)
  | [], acc, _ => by simp
  | p :: ps, acc, h => by
    have hp : p.1 ∉ acc := fun z => by
      rw [List.nodup_append] at h
      exact h.2.2 _ z _ (by simp) rfl
    have e : putZ acc p.1 = acc ++ [p.1] := if_neg hp
    show ps.foldl _ (putZ acc p.1) = _
    rw [e, uqG_eq (by rw [List.append_assoc]; exact h), List.append_assoc]
    rfl
theorem uqG_len : ∀ {ps : List Pu} {acc : List Int}, (ps.foldl (fun acc p => putZ acc p.1) acc).length ≤ acc.length + ps.length
  | [], acc => Nat.le_refl _
  | p :: ps, acc => by
    have h1 : (putZ acc p.1).length ≤ acc.length + 1 := by
      unfold putZ
      split
      · omega
      · rw [List.length_append]; exact Nat.le_refl _
    have h2 := uqG_len (ps := ps) (acc := putZ acc p.1)
    show (ps.foldl _ (putZ acc p.1)).length ≤ acc.length + (ps.length + 1)
    omega
theorem uqG_lt : ∀ {ps : List Pu} {acc : List Int}, acc.Nodup → ¬ (acc ++ ps.map (·.1)).Nodup → (ps.foldl (fun acc p => putZ acc p.1) acc).length < acc.length + ps.length
  | [], acc, h, hn => absurd (by simpa using h) hn
  | p :: ps, acc, h, hn => by
    show (ps.foldl _ (putZ acc p.1)).length < acc.length + (ps.length + 1)
    by_cases hp : p.1 ∈ acc
    · have e : putZ acc p.1 = acc := if_pos hp
      rw [e]
      have := uqG_len (ps := ps) (acc := acc)
      omega
    · have e : putZ acc p.1 = acc ++ [p.1] := if_neg hp
      rw [e]
      have h2 : (acc ++ [p.1]).Nodup := by have := putZ_nd (k := p.1) h; rwa [e] at this
      have := uqG_lt (ps := ps) (acc := acc ++ [p.1]) h2 (by rw [List.append_assoc]; exact hn)
      rw [List.length_append] at this
      simp only [List.length_singleton] at this
      omega
theorem uq_iff {ps : List Pu} : (uqP ps).length < ps.length ↔ ¬ (ps.map (·.1)).Nodup := by
  constructor
  · intro h hn
    have := uqG_eq (ps := ps) (acc := []) (by simpa using hn)
    unfold uqP at h
    rw [this] at h
    simp at h
  · intro hn
    have := uqG_lt (ps := ps) (acc := []) List.nodup_nil (by simpa using hn)
    simpa [uqP] using this
/-- one of the parties stands earlier, too -/
def againF (xs : List Int) (k : Nat) : Bool := decide (xs.getD k 0 ∈ xs.take k)
theorem again_iff {xs : List Int} : (List.range xs.length).any (againF xs) = true ↔ ¬ xs.Nodup := by
  rw [List.any_eq_true]
  constructor
  · rintro ⟨k, hk, h⟩ hn
    have hk : k < xs.length := List.mem_range.mp hk
    unfold againF at h
    rw [decide_eq_true_eq] at h
    obtain ⟨j, hj, e⟩ := List.mem_iff_getElem.mp h
    rw [List.length_take] at hj
    rw [List.getElem_take] at e
    have e2 : xs.getD k 0 = xs[k] := by rw [List.getD_eq_getElem?_getD, List.getElem?_eq_getElem hk]; rfl
    rw [e2] at e
    exact List.pairwise_iff_getElem.mp (List.nodup_iff_pairwise_ne.mp hn) j k (by omega) hk (by omega) e
  · intro hn
    by_cases h : ∃ k, k < xs.length ∧ againF xs k = true
    · obtain ⟨k, h1, h2⟩ := h
      exact ⟨k, List.mem_range.mpr h1, h2⟩
    · exfalso
      apply hn
      rw [List.nodup_iff_pairwise_ne, List.pairwise_iff_getElem]
      intro i j hi hj hij e
      apply h
      refine ⟨j, hj, ?_⟩
      unfold againF
      rw [decide_eq_true_eq]
      have e2 : xs.getD j 0 = xs[j] := by rw [List.getD_eq_getElem?_getD, List.getElem?_eq_getElem hj]; rfl
      rw [e2, ← e]
      exact List.mem_iff_getElem.mpr ⟨i, by rw [List.length_take]; omega, by rw [List.getElem_take]⟩
/-- the dict of the purses -/
def kvP (ps : List Pu) : List (L2.Key × D) := ps.map fun p => (.inl p.1, .int p.2)
theorem pairs_pu : ∀ {ps : List Pu}, pairsOf (ps.map puD) = some (kvP ps)
  | [] => rfl
  | p :: ps => by
    show (match pairOf (puD p), pairsOf (ps.map puD) with
      | some q, some qs => some (q :: qs)
      | _, _ => none) = _
    rw [pairs_pu]
    rfl
theorem putAll_nd : ∀ {ps : List Pu} {kvs : List (L2.Key × D)}, (∀ p ∈ ps, ∀ q ∈ kvs, q.1 ≠ .inl p.1) → (ps.map (·.1)).Nodup → putAll kvs (kvP ps) = kvs ++ kvP ps
  | [], kvs, _, _ => by simp [putAll, kvP]
  | p :: ps, kvs, h, hn => by
    have e : put kvs (.inl p.1) (D.int p.2) = kvs ++ [(.inl p.1, .int p.2)] := by
      unfold put
      rw [if_neg]
      intro z
      obtain ⟨q, hq, hd⟩ := List.any_eq_true.mp z
      exact h p List.mem_cons_self q hq (by simpa using hd)
    show putAll (put kvs (.inl p.1) (.int p.2)) (kvP ps) = _
    rw [List.map_cons, List.nodup_cons] at hn
    rw [e, putAll_nd (fun r hr q hq => ?_) hn.2, List.append_assoc]
    · rfl
    · rcases List.mem_append.mp hq with hq | hq
      · exact h r (List.mem_cons_of_mem _ hr) q hq
      · rw [List.mem_singleton.mp hq]
        intro z
        have z' : p.1 = r.1 := by simpa using z
        exact hn.1 (z' ▸ List.mem_map_of_mem hr)
theorem look_nd : ∀ {ps : List Pu} {p : Pu}, (ps.map (·.1)).Nodup → p ∈ ps → look (kvP ps) (.inl p.1) = some (.int p.2)
  | [], p, _, h => by cases h
  | q :: ps, p, hn, h => by
    rw [List.map_cons, List.nodup_cons] at hn
    unfold look kvP
    rw [List.map_cons, List.find?_cons]
    rcases List.mem_cons.mp h with rfl | h
    · simp
    · have hne : ¬ q.1 = p.1 := fun z => hn.1 (z ▸ List.mem_map_of_mem h)
      have : (decide ((Sum.inl q.1 : L2.Key) = .inl p.1)) = false := by simpa using hne
      rw [this]
      exact look_nd hn.2 h
theorem lk_pu {n : Nat} {st : Sto} {p : Pu} : Lk (n + 1) st (puD p) := lk_tup fun x hx => by
  simp only [List.mem_cons, List.not_mem_nil, or_false] at hx
  rcases hx with rfl | rfl
  · exact lk_int
  · exact lk_int
def purS : PySem.Str := PySem.Str.ofString "purses"
def monS : PySem.Str := PySem.Str.ofString "money"
def rooS : PySem.Str := PySem.Str.ofString "room"
def madS : PySem.Str := PySem.Str.ofString "made"
def noP (ps : List Pu) : Bool := decide (50 < ps.length) || (!decide (ps.map (·.1)).Nodup || ps.any badP)
def resF (ps : List Pu) (r : Int) : PySem.Str := if noP ps = true then purS else if 1000000000000000 < sumP ps then monS else if 1 ≤ r ∧ r ≤ 200 then madS else rooS
end
section
local macro_rules | `(tactic| walk_at "sv") => `(tactic| simp only [e_bin, k_bin, k_bin2, e_cmp, k_cmp, bok_s, k_cmp2, e_var, e_cst, e_glob, e_neg, k_neg, k_bl, e_and, k_andT, k_andF, e_or, k_orF, k_orT, e_not, k_not, e_ite, k_iteT, k_iteF, dok_s, e_idx, k_idx, k_idx2, e_slice, k_sl, k_sl2, k_sl3, part_i, part_n, e_rev, e_tup, k_tup, k_tup2, e_lst, k_lst, k_lst2, toDs_nil, toDs_cons, k_ds, k_ds2, toD_d, e_call, k_go, e_bi, s_nil, s_cons, k_es, k_es2, t_yes, tok_s, t_val, k_val, t_and, k_tandT, k_tandF, t_or, k_torT, k_torF, t_not, k_tnot, i_seq, i_rng, k_rng, i_rev, k_revI, k_revI2, k_some, k_turnT, k_turnF, k_own, e_lc, k_lc, ss_nil', ss_cons', x_asg, nxo_s, k_asg, k_asgO, k_asgP, g_put, x_mv, set_v, x_if, k_ifT, k_ifF, x_for, k_for, k_retD, k_retO, x_ret_bin, x_ret_cmp, x_ret_and, x_ret_or, x_ret_not, x_ret_ite, x_ret_cst, x_ret_tup, x_ret_lst, x_ret_rev, x_ret_idx, x_ret_slice, x_ret_neg, x_ret_lc, x_ret_call, x_ret_bi, x_retV, x_retN, x_brk, x_cnt, x_pass, x_app, r_nm, k_slot, k_push, rev_c, cast0, List.isEmpty_cons, List.isEmpty_nil, sl_tail, k_app, k_app1, k_app3, Lc.ow, b_add, b_sub, b_mul, b_div, b_mod, b_pow, c_lt, c_le, c_gt, c_ge, c_eq, c_ne, c_isN, c_eqB, c_eqS, all_map, toNatN, c_isntN, ix_tup, ix_c, bi_lenT, bi_lenC, bi_int', bi_listT, bi_listC, bi_tupleT, bi_tupleC, bi_isi, tr_bl, tr_int, tr_tup, tr_c, tr_non, q_tup, q_c, q_tupS, q_cS, q_cM, rt_nx, rt_rt,
  List.map, List.append, List.cons_append, List.nil_append, turn_c, k_turnE, turn_f, k_turnFE, filN_nil, filN_cons, Nat.reduceEqDiff, Nat.reduceLeDiff, wipeE, Tg.own, Tg.names, Tg.namess, dupN, List.length_cons, List.length_nil, List.length_map, List.length_reverse, decide_true, decide_false, List.replicate, Nat.reduceSub, Nat.reduceAdd, Nat.zero_add, List.getElem?_cons_zero, List.getElem?_cons_succ, List.set_cons_zero, List.set_cons_succ, rb_ok, sb_ok, sq_nx, sq_rt, sq_bk, sq_ct, Tg.free, Tg.frees, free_f, free_nil, free_cons, Tg.set, Tg.sets, Bool.and_true, Bool.true_and, Bool.not_true, Bool.not_false, if_true, cl_lk, cl_go, cl_kts, cl_locks, lockOf, argS, List.flatMap_cons, List.flatMap_nil, isTy, atI0, atI1, atI2, atI3, atI4, mulR, mulL, divR, powC, powC15, Ex.isV, Ex.isNon, if_false, Int.reduceNeg, Int.reducePow, Int.reduceLT, Int.reduceLE, Int.reduceToNat, reduceCtorEq, s_beq, stay_par, stay_scr, stay_own, stay_at, Int.zero_add, e_ls, k_ls, k_count, i_zip, k_zip1, k_zip2, k_zip3, k_zip4, x_drop, k_drop, bi_max2, bi_min2, sl_two, c_neT2, c_eqT2, c_inI, c_notinI, Bool.false_and, Bool.and_false, e_dct, k_dct, k_dct1, e_dct0K, bi_dictC, ix_m, c_inM, c_notinM, is_some, is_none, x_put, k_put, k_put2, k_put3, k_put4, k_putM, r_nm0, k_slot0, x_prom, k_promO, k_promD, ix_ref, k_refL, ty_ref, k_isL, bi_tupleR, k_tupR, last_at, ix_t, c_notinT, k_putT, i_enum, k_enum, k_enum2, e_dct0T, e_attr, k_attr, attr_o, attr_d, attr_c, attr_z, ins_o, e_meth, k_meth, k_meth1, k_meth2, k_methG, e_prop, k_prop, k_prop1, k_prop2, nox_ok, lk_cons, e_make, k_make, k_made, x_fld, k_fld, k_store, fld_o, fv_d, fv_c, okf_cons, okf_nil, put_nil, put_cons, k_nx, k_nxU, x_fldMv, k_fldMvO, k_fldMvD, x_fld2, k_fld21, k_sto, k_fld22, x_augFld, k_augF, k_augO, k_augF1, k_augF2, aug_add, aug_sub, k_augF3, st_set, st_setN, st_set2, st_setL, st_new, st_newS, lkf_nil, lkf_filt, lkf_c, lkf_f, lkf_s, lkf_app, r_fld, k_res, res_o, res_c, r_kind, k_kd, con_o, con_v, kd_o, isL_l, k_appF, app_f, set_o, set_p, s_beqF, b_addL, ne_eq, bi_minL, c_neB, eq_self, not_false_eq_true, e_chain, k_ch, k_ch2T, k_ch2F, k_ch3, x_del, k_del, k_delF, del_f, map_erase, x_par, k_par, k_par2, c_isC, c_isntC, trk_own, trk_par, trk_at, trk_d, s_beqC, x_ret_attr, x_ret_meth, x_ret_prop, x_ret_make, x_ret_glob, x_ret_dct, lku_hit, s_eqP, s_eqB, String.reduceEq, Nat.reduceLT, Bool.or_true, Bool.or_false, Bool.true_or, Bool.false_or, reduceIte, rb_ex, sb_ex, sq_ex, rt_ex, x_raise, k_raise, x_try, try_nx, try_rt, try_ct, try_ex, hd_cons, hd_y, hd_n, hd_nil, nex_nx, nex_rt, nex_ct, x_tryN, tryN_nx, tryN_rt, tryN_ex, unx_nx, unx_rt, hn_cons, hn_y, hn_n, e_xis, xis_o, k_xis, e_lsZ, k_lsZ, k_countZ, x_putL, k_putL, k_putL2, k_putL3, k_putL4, put_lv, c_neSt, k_slotC, k_cellL, k_slot0C, con_c1, k_appC, app_c, k_put4C, put_c, x_pop, k_pop, k_popC, pop_c, e_popc, k_popc, k_popcO, k_popc2, pop_d, pop_r, e_bm, k_bmG, k_bmGR, k_bmR1, k_bm2R, get_r, k_bm2C, bi_lenR, len_l, len_m, fk_0, fk_1, fk_2, fk_3, fk_4, fk_5, fk_6, fk_7, fk_8, fk_9, ht_0_0, ht_0_1, ht_0_2, ht_0_3, ht_1_0, ht_1_1, ht_1_2, ht_1_3, ht_2_0, ht_2_1, ht_2_2, ht_2_3, ht_3_0, ht_3_1, ht_3_2, ht_3_3, puD, Int.reduceEq, Int.reduceLE, sl_takeC, e_glob, Int.natCast_nonneg, *])
theorem sum_take {ps : List Pu} {i : Nat} {p : Pu} (h : ps[i]? = some p) : sumP (ps.take (i + 1)) = sumP (ps.take i) + p.2 := by
  unfold sumP
  rw [List.take_succ, h]
  simp
theorem any_take {ps : List Pu} (h : ∀ (i : Nat) (p : Pu), ps[i]? = some p → badP p = false) : ps.any badP = false := by
  rw [List.any_eq_false]
  intro p hp
  obtain ⟨i, hi, e⟩ := List.mem_iff_getElem.mp hp
  rw [h i p (by rw [List.getElem?_eq_getElem hi, e])]
  exact Bool.false_ne_true
theorem sp_due {n : Nat} {ps : List Pu} {r : Int} {L : List Ow} {st : Sto} (hl : ps.length ≤ 900) : prog.call (n + 1) 6 [.c .par (.l (ps.map puD)), .d (.int r)] (L.filter Ow.inStore) st = some (.ok (.d (.str (resF ps r))) st) := by
  have hz : ps.length ≤ PySem.sizeLine := Nat.le_trans (by omega : _ ≤ 1000) size_k
  have hsm : smallI ((ps.map (·.1)).length : Int) = true := smallN (by rw [List.length_map]; omega)
  rw [cs__law_due]; simp only [b__law_due]
  refine wp_res ?_
  walk_at "sv"
  rw [compL_mapG (fun p : Pu => D.int p.1)]
  · have e1 : ps.map (fun p : Pu => D.int p.1) = (ps.map (·.1)).map D.int := by rw [List.map_map]; rfl
    rw [e1]
    generalize hxs : ps.map (·.1) = xs at *
    clear e1
    have hll : (xs.map D.int).length = xs.length := List.length_map ..
    walk_at "sv"
    rw [rangeD_map']
    refine wp_find (againF xs) (fun _ => .d (.str (resF ps r))) (fun env => ∃ o3, env = [some (.c .par (.l (ps.map puD))), some (.d (.int r)), some (.c .own (.l (xs.map D.int))), o3, none, none, none, none]) ⟨_, rfl⟩ ?_ ?_ ?_
    · rintro k hk env ⟨o3, rfl⟩
      have hk' : k < xs.length := List.mem_range.mp hk
      have hat : atI (xs.map D.int) (k : Int) = some (.int (xs.getD k 0)) := atI_at (by rw [List.getElem?_map, List.getElem?_eq_getElem hk', List.getD_eq_getElem?_getD, List.getElem?_eq_getElem hk']; rfl)
      have htk : (xs.map D.int).take k = (xs.take k).map D.int := by rw [List.map_take]
      have hk0 : 0 ≤ (k : Int) := by omega
      by_cases h : xs.getD k 0 ∈ xs.take k
      · have e : againF xs k = true := decide_eq_true h
        have hr : resF ps r = PySem.Str.ofString "purses" := by
          have : ¬ (ps.map (·.1)).Nodup := by rw [hxs]; exact again_iff.mp (List.any_eq_true.mpr ⟨k, hk, e⟩)
          unfold resF noP
          rw [decide_eq_false this]
          simp
          rfl
        rw [e, hr]
        clear hr e
        walk_at "sv"
        exact wp_some rfl
      · have e : againF xs k = false := decide_eq_false h
        rw [e]
        clear e
        walk_at "sv"
        exact wp_some ⟨_, rfl, _, rfl⟩
    · intro k _ _
      rfl
    · rintro hno env ⟨o3, rfl⟩
      have hnd : (ps.map (·.1)).Nodup := by
        rw [hxs]
        by_cases h : xs.Nodup
        · exact h
        · rw [again_iff.mpr h] at hno; cases hno
      by_cases h50 : (50 : Int) < ps.length
      · have hr : resF ps r = PySem.Str.ofString "purses" := by
          unfold resF noP
          rw [decide_eq_true (by omega : 50 < ps.length)]
          rfl
        rw [hr]
        walk_at "sv"
        exact wp_some rfl
      · have h50' : ¬ 50 < ps.length := by omega
        walk_at "sv"
        refine wp_for (fun i env s => s = st ∧ (∀ (j : Nat) (p : Pu), j < i → ps[j]? = some p → badP p = false) ∧ ∃ o5 o6, env = [some (.c .par (.l (ps.map puD))), some (.d (.int r)), some (.c .own (.l (xs.map D.int))), o3, some (.d (.int (sumP (ps.take i)))), o5, o6, none]) ⟨rfl, fun j p h => absurd h (Nat.not_lt_zero _), _, _, rfl⟩ ?_ ?_
        · rintro i y hy env s ⟨rfl, hok, o5, o6, rfl⟩
          obtain ⟨p, hp, rfl⟩ := map_at hy
          have hst := sum_take hp
          cases hb : badP p with
          | true =>
            have hr : resF ps r = PySem.Str.ofString "purses" := by
              unfold resF noP
              rw [List.any_eq_true.mpr ⟨p, List.mem_of_getElem? hp, hb⟩]
              simp
              rfl
            rw [hr]
            clear hr
            unfold badP at hb
            by_cases h1 : p.2 < 0
            · clear hb hok
              walk_at "sv"
              exact wp_some rfl
            · have h2 : 1000000000000000 < p.2 := by
                rw [decide_eq_false h1, Bool.false_or, decide_eq_true_eq] at hb
                exact hb
              clear hb hok
              walk_at "sv"
              exact wp_some rfl
          | false =>
            have hb0 := hb
            unfold badP at hb
            rw [Bool.or_eq_false_iff, decide_eq_false_iff_not, decide_eq_false_iff_not] at hb
            obtain ⟨h1, h2⟩ := hb
            refine wp_mono (Q := fun q => q = .nx [some (.c .par (.l (ps.map puD))), some (.d (.int r)), some (.c .own (.l (xs.map D.int))), o3, some (.d (.int (sumP (ps.take i) + p.2))), some (.d (.int p.1)), some (.d (.int p.2)), none] s) ?_ ?_
            · clear hok hb0
              walk_at "sv"
              exact wp_some rfl
            · rintro q rfl
              rw [← hst]
              refine ⟨rfl, fun j q hj hq => ?_, _, _, rfl⟩
              by_cases e : j = i
              · subst e; rw [hp] at hq; cases hq; exact hb0
              · exact hok j q (by omega) hq
        · rintro env s ⟨rfl, hok, o5, o6, rfl⟩
          rw [List.length_map, List.take_length]
          have hb : ps.any badP = false := any_take fun i p h => hok i p (by rw [List.length_map]; exact (List.getElem?_eq_some_iff.mp h).1) h
          have hno2 : noP ps = false := by
            unfold noP
            rw [hb, decide_eq_false h50', decide_eq_true hnd]
            rfl
          unfold resF
          rw [hno2, if_neg Bool.false_ne_true]
          clear hok
          by_cases h1 : 1000000000000000 < sumP ps
          · rw [if_pos h1]
            walk_at "sv"
            exact wp_some rfl
          · rw [if_neg h1]
            by_cases h2 : 1 ≤ r
            · by_cases h3 : r ≤ 200
              · rw [if_pos ⟨h2, h3⟩]
                walk_at "sv"
                exact wp_some rfl
              · rw [if_neg (fun z => h3 z.2)]
                walk_at "sv"
                exact wp_some rfl
            · rw [if_neg (fun z => h2 z.1)]
              walk_at "sv"
              exact wp_some rfl
  · intro p hp
    walk_at "sv"
  · exact hz
end
section
local macro_rules | `(tactic| walk_at "sv") => `(tactic| simp only [e_bin, k_bin, k_bin2, e_cmp, k_cmp, bok_s, k_cmp2, e_var, e_cst, e_glob, e_neg, k_neg, k_bl, e_and, k_andT, k_andF, e_or, k_orF, k_orT, e_not, k_not, e_ite, k_iteT, k_iteF, dok_s, e_idx, k_idx, k_idx2, e_slice, k_sl, k_sl2, k_sl3, part_i, part_n, e_rev, e_tup, k_tup, k_tup2, e_lst, k_lst, k_lst2, toDs_nil, toDs_cons, k_ds, k_ds2, toD_d, e_call, k_go, e_bi, s_nil, s_cons, k_es, k_es2, t_yes, tok_s, t_val, k_val, t_and, k_tandT, k_tandF, t_or, k_torT, k_torF, t_not, k_tnot, i_seq, i_rng, k_rng, i_rev, k_revI, k_revI2, k_some, k_turnT, k_turnF, k_own, e_lc, k_lc, ss_nil', ss_cons', x_asg, nxo_s, k_asg, k_asgO, k_asgP, g_put, x_mv, set_v, x_if, k_ifT, k_ifF, x_for, k_for, k_retD, k_retO, x_ret_bin, x_ret_cmp, x_ret_and, x_ret_or, x_ret_not, x_ret_ite, x_ret_cst, x_ret_tup, x_ret_lst, x_ret_rev, x_ret_idx, x_ret_slice, x_ret_neg, x_ret_lc, x_ret_call, x_ret_bi, x_retV, x_retN, x_brk, x_cnt, x_pass, x_app, r_nm, k_slot, k_push, rev_c, cast0, List.isEmpty_cons, List.isEmpty_nil, sl_tail, k_app, k_app1, k_app3, Lc.ow, b_add, b_sub, b_mul, b_div, b_mod, b_pow, c_lt, c_le, c_gt, c_ge, c_eq, c_ne, c_isN, c_eqB, c_eqS, all_map, toNatN, c_isntN, ix_tup, ix_c, bi_lenT, bi_lenC, bi_int', bi_listT, bi_listC, bi_tupleT, bi_tupleC, bi_isi, tr_bl, tr_int, tr_tup, tr_c, tr_non, q_tup, q_c, q_tupS, q_cS, q_cM, rt_nx, rt_rt,
  List.map, List.append, List.cons_append, List.nil_append, turn_c, k_turnE, turn_f, k_turnFE, filN_nil, filN_cons, Nat.reduceEqDiff, Nat.reduceLeDiff, wipeE, Tg.own, Tg.names, Tg.namess, dupN, List.length_cons, List.length_nil, List.length_map, List.length_reverse, decide_true, decide_false, List.replicate, Nat.reduceSub, Nat.reduceAdd, Nat.zero_add, List.getElem?_cons_zero, List.getElem?_cons_succ, List.set_cons_zero, List.set_cons_succ, rb_ok, sb_ok, sq_nx, sq_rt, sq_bk, sq_ct, Tg.free, Tg.frees, free_f, free_nil, free_cons, Tg.set, Tg.sets, Bool.and_true, Bool.true_and, Bool.not_true, Bool.not_false, if_true, cl_lk, cl_go, cl_kts, cl_locks, lockOf, argS, List.flatMap_cons, List.flatMap_nil, isTy, atI0, atI1, atI2, atI3, atI4, mulR, mulL, divR, powC, powC15, Ex.isV, Ex.isNon, if_false, Int.reduceNeg, Int.reducePow, Int.reduceLT, Int.reduceLE, Int.reduceToNat, reduceCtorEq, s_beq, stay_par, stay_scr, stay_own, stay_at, Int.zero_add, e_ls, k_ls, k_count, i_zip, k_zip1, k_zip2, k_zip3, k_zip4, x_drop, k_drop, bi_max2, bi_min2, sl_two, c_neT2, c_eqT2, c_inI, c_notinI, Bool.false_and, Bool.and_false, e_dct, k_dct, k_dct1, e_dct0K, bi_dictC, ix_m, c_inM, c_notinM, is_some, is_none, x_put, k_put, k_put2, k_put3, k_put4, k_putM, r_nm0, k_slot0, x_prom, k_promO, k_promD, ix_ref, k_refL, ty_ref, k_isL, bi_tupleR, k_tupR, last_at, ix_t, c_notinT, k_putT, i_enum, k_enum, k_enum2, e_dct0T, e_attr, k_attr, attr_o, attr_d, attr_c, attr_z, ins_o, e_meth, k_meth, k_meth1, k_meth2, k_methG, e_prop, k_prop, k_prop1, k_prop2, nox_ok, lk_cons, e_make, k_make, k_made, x_fld, k_fld, k_store, fld_o, fv_d, fv_c, okf_cons, okf_nil, put_nil, put_cons, k_nx, k_nxU, x_fldMv, k_fldMvO, k_fldMvD, x_fld2, k_fld21, k_sto, k_fld22, x_augFld, k_augF, k_augO, k_augF1, k_augF2, aug_add, aug_sub, k_augF3, st_set, st_setN, st_set2, st_setL, st_new, st_newS, lkf_nil, lkf_filt, lkf_c, lkf_f, lkf_s, lkf_app, r_fld, k_res, res_o, res_c, r_kind, k_kd, con_o, con_v, kd_o, isL_l, k_appF, app_f, set_o, set_p, s_beqF, b_addL, ne_eq, bi_minL, c_neB, eq_self, not_false_eq_true, e_chain, k_ch, k_ch2T, k_ch2F, k_ch3, x_del, k_del, k_delF, del_f, map_erase, x_par, k_par, k_par2, c_isC, c_isntC, trk_own, trk_par, trk_at, trk_d, s_beqC, x_ret_attr, x_ret_meth, x_ret_prop, x_ret_make, x_ret_glob, x_ret_dct, lku_hit, s_eqP, s_eqB, String.reduceEq, Nat.reduceLT, Bool.or_true, Bool.or_false, Bool.true_or, Bool.false_or, reduceIte, rb_ex, sb_ex, sq_ex, rt_ex, x_raise, k_raise, x_try, try_nx, try_rt, try_ct, try_ex, hd_cons, hd_y, hd_n, hd_nil, nex_nx, nex_rt, nex_ct, x_tryN, tryN_nx, tryN_rt, tryN_ex, unx_nx, unx_rt, hn_cons, hn_y, hn_n, e_xis, xis_o, k_xis, e_lsZ, k_lsZ, k_countZ, x_putL, k_putL, k_putL2, k_putL3, k_putL4, put_lv, c_neSt, k_slotC, k_cellL, k_slot0C, con_c1, k_appC, app_c, k_put4C, put_c, x_pop, k_pop, k_popC, pop_c, e_popc, k_popc, k_popcO, k_popc2, pop_d, pop_r, e_bm, k_bmG, k_bmGR, k_bmR1, k_bm2R, get_r, k_bm2C, bi_lenR, len_l, len_m, fk_0, fk_1, fk_2, fk_3, fk_4, fk_5, fk_6, fk_7, fk_8, fk_9, ht_0_0, ht_0_1, ht_0_2, ht_0_3, ht_1_0, ht_1_1, ht_1_2, ht_1_3, ht_2_0, ht_2_1, ht_2_2, ht_2_3, ht_3_0, ht_3_1, ht_3_2, ht_3_3, puD, Int.reduceEq, Int.reduceLE, e_glob, st_n1, st_s1, st_n2, st_s2, st_n3, st_s3, *])
def bookC (ps : List Pu) : Cell := .ins 4 [(PySem.Str.ofString "purses", .c false (.m (putAll [] (kvP ps)))), (PySem.Str.ofString "vaults", .c false (.m [])), (PySem.Str.ofString "receipts", .c false (.m [])), (PySem.Str.ofString "ended", .c false (.l [])), (PySem.Str.ofString "done", .c false (.l [])), (PySem.Str.ofString "height", .d (.int 0)), (PySem.Str.ofString "burnt", .d (.int 0))]
def ledC (b : Nat) (r : Int) : Cell := .ins 5 [(PySem.Str.ofString "book", .d (.ref b)), (PySem.Str.ofString "room", .d (.int r)), (PySem.Str.ofString "waiting", .c false (.l []))]
theorem bi_dictP {ps : List Pu} {q : Kd} {st : Sto} : biF .dict [.c q (.l (ps.map puD))] st = ok (.c .own (.m (putAll [] (kvP ps)))) st := by
  show (match pairsOf (ps.map puD) with
      | some ps => ok (SV.c .own (.m (putAll [] ps))) st
      | none => none) = _
  rw [pairs_pu]
theorem sp_binit {n : Nat} {ps : List Pu} {L : List Ow} {st : Sto} (hL : LkF L st.length) : prog.call (n + 1) 1 [.d (.ref st.length), .c .par (.l (ps.map puD))] (L.filter Ow.inStore) (st ++ [.ins 4 []]) = some (.ok (.d .non) (st ++ [bookC ps])) := by
  have hd := fun (q : Kd) (st : Sto) => bi_dictP (ps := ps) (q := q) (st := st)
  rw [cs_Book___init__]; simp only [b_Book___init__]
  walk_at "sv"
  rfl
def errP (ps : List Pu) : Option Nat := if noP ps = true then some 2 else if 1000000000000000 < sumP ps then some 3 else none
theorem j_1 : ∃ f : Cl → Tv.Env → Sto → PySem.Str, ∀ (c : Cl) (env : Tv.Env) (st : Sto), ev c (.joined (.cons (.cst (.str (PySem.Str.ofString "there are more than "))) (.cons (.fmt (.glob (PySem.Str.ofString "MOST_PURSES") (.int 50))) (.cons (.cst (.str (PySem.Str.ofString " purses"))) .nil)))) env st = ok (.d (.str (f c env st))) st :=
  uni_j fun c env st => ej_ok ⟨⟨_, rfl, by decide +kernel⟩, ⟨_, rfl, by decide +kernel⟩, ⟨_, rfl, by decide +kernel⟩, trivial⟩ (by decide)
theorem j_2 : ∃ f : Cl → Tv.Env → Sto → PySem.Str, ∀ (c : Cl) (env : Tv.Env) (st : Sto), ev c (.joined (.cons (.cst (.str (PySem.Str.ofString "an amount is not from 0 to "))) (.cons (.fmt (.glob (PySem.Str.ofString "GREATEST_AMOUNT") (.int 1000000000000000))) .nil))) env st = ok (.d (.str (f c env st))) st :=
  uni_j fun c env st => ej_ok ⟨⟨_, rfl, by decide +kernel⟩, ⟨_, rfl, by decide +kernel⟩, trivial⟩ (by decide)
theorem j_3 : ∃ f : Cl → Tv.Env → Sto → PySem.Str, ∀ (c : Cl) (env : Tv.Env) (st : Sto), ev c (.joined (.cons (.cst (.str (PySem.Str.ofString "the amounts are together more than "))) (.cons (.fmt (.glob (PySem.Str.ofString "GREATEST_AMOUNT") (.int 1000000000000000))) .nil))) env st = ok (.d (.str (f c env st))) st :=
  uni_j fun c env st => ej_ok ⟨⟨_, rfl, by decide +kernel⟩, ⟨_, rfl, by decide +kernel⟩, trivial⟩ (by decide)
theorem sp_check {n : Nat} {ps : List Pu} {L : List Ow} {st : Sto} (hl : ps.length ≤ 60) : prog.call (n + 1) 3 [.c .par (.l (ps.map puD))] (L.filter Ow.inStore) st = some (match errP ps with | some k => .ex ⟨k, none⟩ st | none => .ok (.d .non) st) := by
  have hz : ps.length ≤ PySem.sizeLine := Nat.le_trans (by omega : _ ≤ 1000) size_k
  obtain ⟨f1, j1⟩ := j_1
  obtain ⟨f2, j2⟩ := j_2
  obtain ⟨f3, j3⟩ := j_3
  rw [cs__check_purses]; simp only [b__check_purses]
  refine wp_res ?_
  by_cases h50 : (50 : Int) < ps.length
  · have e : errP ps = some 2 := by unfold errP noP; rw [decide_eq_true (by omega : 50 < ps.length)]; rfl
    rw [e]
    walk_at "sv"
    exact wp_some rfl
  · have h50' : ¬ 50 < ps.length := by omega
    walk_at "sv"
    rw [compZ_map (fun p : Pu => p.1) (fun p hp => by walk_at "sv") (by simpa using by omega)]
    have hu : ps.foldl (fun acc p => putZ acc p.1) [] = uqP ps := rfl
    rw [hu]
    by_cases hn : (ps.map (·.1)).Nodup
    · have h1 : ¬ ((uqP ps).length : Int) < ps.length := fun z => uq_iff.mp (by omega) hn
      clear hu
      walk_at "sv"
      refine wp_for (fun i env s => s = st ∧ (∀ (j : Nat) (p : Pu), j < i → ps[j]? = some p → badP p = false) ∧ ∃ o1 o2, env = [some (.c .par (.l (ps.map puD))), o1, o2, none]) ⟨rfl, fun j p h => absurd h (Nat.not_lt_zero _), _, _, rfl⟩ ?_ ?_
      · rintro i y hy env s ⟨rfl, hok, o1, o2, rfl⟩
        obtain ⟨p, hp, rfl⟩ := map_at hy
        cases hb : badP p with
        | true =>
          have e : errP ps = some 2 := by unfold errP noP; rw [List.any_eq_true.mpr ⟨p, List.mem_of_getElem? hp, hb⟩]; simp
          rw [e]
          unfold badP at hb
          by_cases h1 : p.2 < 0
          · clear hb hok
            walk_at "sv"
            exact wp_some rfl
          · have h2 : 1000000000000000 < p.2 := by
              rw [decide_eq_false h1, Bool.false_or, decide_eq_true_eq] at hb
              exact hb
            clear hb hok
            walk_at "sv"
            exact wp_some rfl
        | false =>
          have hb0 := hb
          unfold badP at hb
          rw [Bool.or_eq_false_iff, decide_eq_false_iff_not, decide_eq_false_iff_not] at hb
          obtain ⟨h1, h2⟩ := hb
          refine wp_mono (Q := fun q => q = .nx [some (.c .par (.l (ps.map puD))), some (.d (.int p.1)), some (.d (.int p.2)), none] s) ?_ ?_
          · clear hok hb0
            walk_at "sv"
            exact wp_some rfl
          · rintro q rfl
            refine ⟨rfl, fun j q hj hq => ?_, _, _, rfl⟩
            by_cases e : j = i
            · subst e; rw [hp] at hq; cases hq; exact hb0
            · exact hok j q (by omega) hq
      · rintro env s ⟨rfl, hok, o1, o2, rfl⟩
        have hb : ps.any badP = false := any_take fun i p h => hok i p (by rw [List.length_map]; exact (List.getElem?_eq_some_iff.mp h).1) h
        have hno2 : noP ps = false := by
          unfold noP
          rw [hb, decide_eq_false h50', decide_eq_true hn]
          rfl
        unfold errP
        rw [hno2, if_neg Bool.false_ne_true]
        clear hok
        walk_at "sv"
        rw [compL_mapG (fun p : Pu => D.int p.2) (fun p hp => by walk_at "sv") hz]
        have e1 : ps.map (fun p : Pu => D.int p.2) = (ps.map (·.2)).map D.int := by rw [List.map_map]; rfl
        rw [e1]
        have hs : biF .sum [.c .own (.l ((ps.map (·.2)).map .int))] s = ok (.d (.int (sumP ps))) s := bi_sumI
        generalize (ps.map (·.2)).map D.int = q at *
        by_cases h1 : 1000000000000000 < sumP ps
        · rw [if_pos h1]
          walk_at "sv"
          exact wp_some rfl
        · rw [if_neg h1]
          walk_at "sv"
          exact wp_some rfl
    · have e : errP ps = some 2 := by unfold errP noP; rw [decide_eq_false hn]; simp
      have h1 : ((uqP ps).length : Int) < ps.length := by have := uq_iff.mpr hn; omega
      rw [e]
      clear hu
      walk_at "sv"
      exact wp_some rfl
theorem j_4 : ∃ f : Cl → Tv.Env → Sto → PySem.Str, ∀ (c : Cl) (r : Int) (st : Sto), ev c (.joined (.cons (.fmt (.var 0)) (.cons (.cst (.str (PySem.Str.ofString " is not from "))) (.cons (.fmt (.var 2)) (.cons (.cst (.str (PySem.Str.ofString " to "))) (.cons (.fmt (.var 3)) .nil)))))) [some (.d (.str (PySem.Str.ofString "the room"))), some (.d (.int r)), some (.d (.int 1)), some (.d (.int 200))] st = ok (.d (.str (f c [some (.d (.int r))] st))) st := by
  have h : ∀ (c : Cl) (r : Int) (st : Sto), ∃ y : PySem.Str, ev c (.joined (.cons (.fmt (.var 0)) (.cons (.cst (.str (PySem.Str.ofString " is not from "))) (.cons (.fmt (.var 2)) (.cons (.cst (.str (PySem.Str.ofString " to "))) (.cons (.fmt (.var 3)) .nil)))))) [some (.d (.str (PySem.Str.ofString "the room"))), some (.d (.int r)), some (.d (.int 1)), some (.d (.int 200))] st = ok (.d (.str y)) st := fun c r st =>
    ej_ok ⟨⟨_, rfl, by decide +kernel⟩, ⟨_, rfl, by decide +kernel⟩, ⟨_, rfl, by decide +kernel⟩, ⟨_, rfl, by decide +kernel⟩, ⟨_, rfl, by decide +kernel⟩, trivial⟩ (by decide)
  refine ⟨fun c env st => (h c (match env with | [some (.d (.int r))] => r | _ => 0) st).choose, fun c r st => (h c r st).choose_spec⟩
theorem sp_room {n : Nat} {r : Int} {L : List Ow} {st : Sto} : prog.call (n + 1) 0 [.d (.str (PySem.Str.ofString "the room")), .d (.int r), .d (.int 1), .d (.int 200)] (L.filter Ow.inStore) st = some (if 1 ≤ r ∧ r ≤ 200 then .ok (.d .non) st else .ex ⟨1, none⟩ st) := by
  obtain ⟨f, hj⟩ := j_4
  rw [cs_check_range]; simp only [b_check_range]
  by_cases h1 : r < 1
  · rw [if_neg (by omega)]
    walk_at "sv"
  · by_cases h2 : 200 < r
    · rw [if_neg (by omega)]
      walk_at "sv"
    · rw [if_pos (by omega)]
      walk_at "sv"
theorem sp_linit {n : Nat} {ps : List Pu} {r : Int} {L : List Ow} {st : Sto} (hl : ps.length ≤ 60) (hL : LkF L st.length) (hL2 : LkF L (st.length + 1)) : prog.call (n + 2) 2 [.d (.ref st.length), .c .par (.l (ps.map puD)), .d (.int r)] (L.filter Ow.inStore) (st ++ [.ins 5 []]) = some (match errP ps with | some k => .ex ⟨k, none⟩ (st ++ [.ins 5 []]) | none => if 1 ≤ r ∧ r ≤ 200 then .ok (.d .non) (st ++ [ledC (st.length + 1) r, bookC ps]) else .ex ⟨1, none⟩ (st ++ [.ins 5 []])) := by
  have hc := fun (L : List Ow) (st : Sto) => sp_check (n := n) (ps := ps) (L := L) (st := st) hl
  have hr := fun (L : List Ow) (st : Sto) => sp_room (n := n) (r := r) (L := L) (st := st)
  have hb := fun (c : Cell) (L : List Ow) (hL : LkF L (st ++ [c]).length) => sp_binit (n := n) (ps := ps) (L := L) (st := st ++ [c]) hL
  have hL3 : ∀ c : Cell, LkF L (st ++ [c]).length := fun c => by rw [List.length_append]; exact hL2
  rw [cs_Ledger___init__]; simp only [b_Ledger___init__]
  cases e : errP ps with
  | some k =>
    rw [e] at hc
    walk_at "sv"
  | none =>
    rw [e] at hc
    by_cases h : 1 ≤ r ∧ r ≤ 200
    · simp only [if_pos h] at hr ⊢
      clear h
      walk_at "sv"
      rw [List.append_assoc, List.length_append]
      rfl
    · simp only [if_neg h] at hr ⊢
      clear h
      walk_at "sv"
theorem err_cases {ps : List Pu} {r : Int} : (errP ps = some 2 ∧ resF ps r = PySem.Str.ofString "purses") ∨ (errP ps = some 3 ∧ resF ps r = PySem.Str.ofString "money") ∨ (errP ps = none ∧ (ps.map (·.1)).Nodup ∧ ((¬ (1 ≤ r ∧ r ≤ 200) ∧ resF ps r = PySem.Str.ofString "room") ∨ ((1 ≤ r ∧ r ≤ 200) ∧ resF ps r = PySem.Str.ofString "made"))) := by
  unfold errP resF
  by_cases h1 : noP ps = true
  · rw [if_pos h1, if_pos h1]
    exact .inl ⟨rfl, rfl⟩
  · rw [if_neg h1, if_neg h1]
    have hn : (ps.map (·.1)).Nodup := by
      by_cases h : (ps.map (·.1)).Nodup
      · exact h
      · exact absurd (by unfold noP; rw [decide_eq_false h]; simp) h1
    by_cases h2 : 1000000000000000 < sumP ps
    · rw [if_pos h2, if_pos h2]
      exact .inr (.inl ⟨rfl, rfl⟩)
    · rw [if_neg h2, if_neg h2]
      by_cases h3 : 1 ≤ r ∧ r ≤ 200
      · rw [if_pos h3]
        exact .inr (.inr ⟨rfl, hn, .inr ⟨h3, rfl⟩⟩)
      · rw [if_neg h3]
        exact .inr (.inr ⟨rfl, hn, .inl ⟨h3, rfl⟩⟩)
theorem c_neMe {kt : List (List D)} {p q : Kd} {st : Sto} : cmp kt .ne (.c p (.m [])) (.c q (.m [])) st = some false := rfl
theorem c_neLe {kt : List (List D)} {p q : Kd} {st : Sto} : cmp kt .ne (.c p (.l [])) (.c q (.l [])) st = some false := c_neL fun x z => by cases z
theorem sp_made {n : Nat} {ps : List Pu} {r : Int} {st : Sto} (hl : ps.length ≤ 60) : ∃ g : Sto, ∀ L : List Ow, (∀ j, LkF L j) → prog.call (n + 3) 5 [.c .par (.l (ps.map puD)), .d (.int r)] (L.filter Ow.inStore) st = some (.ok (.d (.str (resF ps r))) (st ++ g)) := by
  have hi := fun (L : List Ow) (h1 : LkF L st.length) (h2 : LkF L (st.length + 1)) => sp_linit (n := n) (ps := ps) (r := r) (L := L) (st := st) hl h1 h2
  rcases err_cases (ps := ps) (r := r) with ⟨e1, e2⟩ | ⟨e1, e2⟩ | ⟨e1, hn, ⟨e3, e2⟩ | ⟨e3, e2⟩⟩
  · refine ⟨[.ins 5 []], fun L hL => ?_⟩
    have l1 := hL st.length
    have l2 := hL (st.length + 1)
    rw [e1] at hi
    rw [e2, cs__law_made]; simp only [b__law_made]
    walk_at "sv"
  · refine ⟨[.ins 5 []], fun L hL => ?_⟩
    have l1 := hL st.length
    have l2 := hL (st.length + 1)
    rw [e1] at hi
    rw [e2, cs__law_made]; simp only [b__law_made]
    walk_at "sv"
  · refine ⟨[.ins 5 []], fun L hL => ?_⟩
    have l1 := hL st.length
    have l2 := hL (st.length + 1)
    rw [e1] at hi
    simp only [if_neg e3] at hi
    rw [e2, cs__law_made]; simp only [b__law_made]
    clear e3
    walk_at "sv"
  · refine ⟨[ledC (st.length + 1) r, bookC ps], fun L hL => ?_⟩
    have l1 := hL st.length
    have l2 := hL (st.length + 1)
    rw [e1] at hi
    simp only [if_pos e3] at hi
    have h1 : (st ++ [ledC (st.length + 1) r, bookC ps])[st.length]? = some (ledC (st.length + 1) r) := st_n2
    have h2 : (st ++ [ledC (st.length + 1) r, bookC ps])[st.length + 1]? = some (bookC ps) := by rw [List.getElem?_append_right (Nat.le_succ _)]; simp
    have hp : putAll [] (kvP ps) = kvP ps := by rw [putAll_nd (fun p _ q z => by cases z) hn]; rfl
    have hne : ∀ (p q : Kd) (st : Sto), cmp prog.kts .ne (.c p (.l (ps.map puD))) (.c q (.l (ps.map puD))) st = some false := fun p q st => c_neL fun x hx => by obtain ⟨y, _, rfl⟩ := List.mem_map.mp hx; exact lk_pu (n := 59)
    have hne' : ∀ (p q : Kd) (st : Sto), cmp prog.kts .ne (.c p (.l (ps.map fun p => D.tup [.int p.1, .int p.2]))) (.c q (.l (ps.map puD))) st = some false := hne
    have hkm : (kvP ps).map (fun p => keyD p.1) = ps.map fun p => D.int p.1 := by unfold kvP; rw [List.map_map]; rfl
    have hz : ps.length ≤ PySem.sizeLine := Nat.le_trans (by omega : _ ≤ 1000) size_k
    have nm : ∀ (p q : Kd) (st : Sto), cmp prog.kts .ne (.c p (.m [])) (.c q (.m [])) st = some false := fun _ _ _ => c_neMe
    have nl : ∀ (p q : Kd) (st : Sto), cmp prog.kts .ne (.c p (.l [])) (.c q (.l [])) st = some false := fun _ _ _ => c_neLe
    rw [e2, cs__law_made]; simp only [b__law_made]
    clear e1 e2 e3
    refine wp_res ?_
    unfold bookC ledC at *
    rw [hp] at hi h1 h2 ⊢
    generalize hg : st ++ [Cell.ins 5 [(PySem.Str.ofString "book", .d (.ref (st.length + 1))), (PySem.Str.ofString "room", .d (.int r)), (PySem.Str.ofString "waiting", .c false (.l []))], .ins 4 [(PySem.Str.ofString "purses", .c false (.m (kvP ps))), (PySem.Str.ofString "vaults", .c false (.m [])), (PySem.Str.ofString "receipts", .c false (.m [])), (PySem.Str.ofString "ended", .c false (.l [])), (PySem.Str.ofString "done", .c false (.l [])), (PySem.Str.ofString "height", .d (.int 0)), (PySem.Str.ofString "burnt", .d (.int 0))]] = s2 at *
    clear hg hp
    walk_at "sv"
    rw [compL_mapG (fun p : Pu => puD p)]
    · walk_at "sv"
      exact wp_some rfl
    · intro p hp
      have hlk := look_nd hn hp
      unfold puD
      walk_at "sv"
    · exact hz
end
section
local macro_rules | `(tactic| walk_at "sv") => `(tactic| simp only [e_bin, k_bin, k_bin2, e_cmp, k_cmp, bok_s, k_cmp2, e_var, e_cst, e_glob, e_neg, k_neg, k_bl, e_and, k_andT, k_andF, e_or, k_orF, k_orT, e_not, k_not, e_ite, k_iteT, k_iteF, dok_s, e_idx, k_idx, k_idx2, e_slice, k_sl, k_sl2, k_sl3, part_i, part_n, e_rev, e_tup, k_tup, k_tup2, e_lst, k_lst, k_lst2, toDs_nil, toDs_cons, k_ds, k_ds2, toD_d, e_call, k_go, e_bi, s_nil, s_cons, k_es, k_es2, t_yes, tok_s, t_val, k_val, t_and, k_tandT, k_tandF, t_or, k_torT, k_torF, t_not, k_tnot, i_seq, i_rng, k_rng, i_rev, k_revI, k_revI2, k_some, k_turnT, k_turnF, k_own, e_lc, k_lc, ss_nil', ss_cons', x_asg, nxo_s, k_asg, k_asgO, k_asgP, g_put, x_mv, set_v, x_if, k_ifT, k_ifF, x_for, k_for, k_retD, k_retO, x_ret_bin, x_ret_cmp, x_ret_and, x_ret_or, x_ret_not, x_ret_ite, x_ret_cst, x_ret_tup, x_ret_lst, x_ret_rev, x_ret_idx, x_ret_slice, x_ret_neg, x_ret_lc, x_ret_call, x_ret_bi, x_retV, x_retN, x_brk, x_cnt, x_pass, x_app, r_nm, k_slot, k_push, rev_c, cast0, List.isEmpty_cons, List.isEmpty_nil, sl_tail, k_app, k_app1, k_app3, Lc.ow, b_add, b_sub, b_mul, b_div, b_mod, b_pow, c_lt, c_le, c_gt, c_ge, c_eq, c_ne, c_isN, c_eqB, c_eqS, all_map, toNatN, c_isntN, ix_tup, ix_c, bi_lenT, bi_lenC, bi_int', bi_listT, bi_listC, bi_tupleT, bi_tupleC, bi_isi, tr_bl, tr_int, tr_tup, tr_c, tr_non, q_tup, q_c, q_tupS, q_cS, q_cM, rt_nx, rt_rt,
  List.map, List.append, List.cons_append, List.nil_append, turn_c, k_turnE, turn_f, k_turnFE, filN_nil, filN_cons, Nat.reduceEqDiff, Nat.reduceLeDiff, wipeE, Tg.own, Tg.names, Tg.namess, dupN, List.length_cons, List.length_nil, List.length_map, List.length_reverse, decide_true, decide_false, List.replicate, Nat.reduceSub, Nat.reduceAdd, Nat.zero_add, List.getElem?_cons_zero, List.getElem?_cons_succ, List.set_cons_zero, List.set_cons_succ, rb_ok, sb_ok, sq_nx, sq_rt, sq_bk, sq_ct, Tg.free, Tg.frees, free_f, free_nil, free_cons, Tg.set, Tg.sets, Bool.and_true, Bool.true_and, Bool.not_true, Bool.not_false, if_true, cl_lk, cl_go, cl_kts, cl_locks, lockOf, argS, List.flatMap_cons, List.flatMap_nil, isTy, atI0, atI1, atI2, atI3, atI4, mulR, mulL, divR, powC, powC15, Ex.isV, Ex.isNon, if_false, Int.reduceNeg, Int.reducePow, Int.reduceLT, Int.reduceLE, Int.reduceToNat, reduceCtorEq, s_beq, stay_par, stay_scr, stay_own, stay_at, Int.zero_add, e_ls, k_ls, k_count, i_zip, k_zip1, k_zip2, k_zip3, k_zip4, x_drop, k_drop, bi_max2, bi_min2, sl_two, c_neT2, c_eqT2, c_inI, c_notinI, Bool.false_and, Bool.and_false, e_dct, k_dct, k_dct1, e_dct0K, bi_dictC, ix_m, c_inM, c_notinM, is_some, is_none, x_put, k_put, k_put2, k_put3, k_put4, k_putM, r_nm0, k_slot0, x_prom, k_promO, k_promD, ix_ref, k_refL, ty_ref, k_isL, bi_tupleR, k_tupR, last_at, ix_t, c_notinT, k_putT, i_enum, k_enum, k_enum2, e_dct0T, e_attr, k_attr, attr_o, attr_d, attr_c, attr_z, ins_o, e_meth, k_meth, k_meth1, k_meth2, k_methG, e_prop, k_prop, k_prop1, k_prop2, nox_ok, lk_cons, e_make, k_make, k_made, x_fld, k_fld, k_store, fld_o, fv_d, fv_c, okf_cons, okf_nil, put_nil, put_cons, k_nx, k_nxU, x_fldMv, k_fldMvO, k_fldMvD, x_fld2, k_fld21, k_sto, k_fld22, x_augFld, k_augF, k_augO, k_augF1, k_augF2, aug_add, aug_sub, k_augF3, st_set, st_setN, st_set2, st_setL, st_new, st_newS, lkf_nil, lkf_filt, lkf_c, lkf_f, lkf_s, lkf_app, r_fld, k_res, res_o, res_c, r_kind, k_kd, con_o, con_v, kd_o, isL_l, k_appF, app_f, set_o, set_p, s_beqF, b_addL, ne_eq, bi_minL, c_neB, eq_self, not_false_eq_true, e_chain, k_ch, k_ch2T, k_ch2F, k_ch3, x_del, k_del, k_delF, del_f, map_erase, x_par, k_par, k_par2, c_isC, c_isntC, trk_own, trk_par, trk_at, trk_d, s_beqC, x_ret_attr, x_ret_meth, x_ret_prop, x_ret_make, x_ret_glob, x_ret_dct, lku_hit, s_eqP, s_eqB, String.reduceEq, Nat.reduceLT, Bool.or_true, Bool.or_false, Bool.true_or, Bool.false_or, reduceIte, rb_ex, sb_ex, sq_ex, rt_ex, x_raise, k_raise, x_try, try_nx, try_rt, try_ct, try_ex, hd_cons, hd_y, hd_n, hd_nil, nex_nx, nex_rt, nex_ct, x_tryN, tryN_nx, tryN_rt, tryN_ex, unx_nx, unx_rt, hn_cons, hn_y, hn_n, e_xis, xis_o, k_xis, e_lsZ, k_lsZ, k_countZ, x_putL, k_putL, k_putL2, k_putL3, k_putL4, put_lv, c_neSt, k_slotC, k_cellL, k_slot0C, con_c1, k_appC, app_c, k_put4C, put_c, x_pop, k_pop, k_popC, pop_c, e_popc, k_popc, k_popcO, k_popc2, pop_d, pop_r, e_bm, k_bmG, k_bmGR, k_bmR1, k_bm2R, get_r, k_bm2C, bi_lenR, len_l, len_m, fk_0, fk_1, fk_2, fk_3, fk_4, fk_5, fk_6, fk_7, fk_8, fk_9, ht_0_0, ht_0_1, ht_0_2, ht_0_3, ht_1_0, ht_1_1, ht_1_2, ht_1_3, ht_2_0, ht_2_1, ht_2_2, ht_2_3, ht_3_0, ht_3_1, ht_3_2, ht_3_3, Int.reduceEq, Int.reduceLE, Int.reduceAdd, Int.reduceSub, *])
def manyF (r : Int) : Nat := ([0, 1, 2, 3, 49, 50, 51] : List Nat).getD (r % 7).toNat 0
theorem many_le {r : Int} : manyF r ≤ 51 := by
  unfold manyF
  have : (r % 7).toNat = 0 ∨ (r % 7).toNat = 1 ∨ (r % 7).toNat = 2 ∨ (r % 7).toNat = 3 ∨ (r % 7).toNat = 4 ∨ (r % 7).toNat = 5 ∨ (r % 7).toNat = 6 := by omega
  rcases this with h | h | h | h | h | h | h <;> rw [h] <;> decide
theorem many_at {r : Int} : atI [D.int 0, .int 1, .int 2, .int 3, .int 49, .int 50, .int 51] (r % 7) = some (.int (manyF r)) := by
  unfold manyF
  rw [atI_pos (by omega)]
  have : (r % 7).toNat = 0 ∨ (r % 7).toNat = 1 ∨ (r % 7).toNat = 2 ∨ (r % 7).toNat = 3 ∨ (r % 7).toNat = 4 ∨ (r % 7).toNat = 5 ∨ (r % 7).toNat = 6 := by omega
  rcases this with h | h | h | h | h | h | h <;> rw [h] <;> rfl
theorem at4 {r : Int} {a b c d : Int} : ∃ z, atI [D.int a, .int b, .int c, .int d] (r % 4) = some (.int z) := by
  rw [atI_pos (by omega)]
  have : (r % 4).toNat = 0 ∨ (r % 4).toNat = 1 ∨ (r % 4).toNat = 2 ∨ (r % 4).toNat = 3 := by omega
  rcases this with h | h | h | h <;> rw [h] <;> exact ⟨_, rfl⟩
theorem at6 {r : Int} {a b c d e f : Int} : ∃ z, atI [D.int a, .int b, .int c, .int d, .int e, .int f] (r % 6) = some (.int z) := by
  rw [atI_pos (by omega)]
  have : (r % 6).toNat = 0 ∨ (r % 6).toNat = 1 ∨ (r % 6).toNat = 2 ∨ (r % 6).toNat = 3 ∨ (r % 6).toNat = 4 ∨ (r % 6).toNat = 5 := by omega
  rcases this with h | h | h | h | h | h <;> rw [h] <;> exact ⟨_, rfl⟩
def pu0 (r : Int) (k : Nat) : Pu := (k + 1, r / (7 + (k : Int)) % 9)
abbrev lenv (ns R : List Int) (o2 o3 o4 o5 o6 : Option SV) : Tv.Env := [some (.c .scr (.l (ns.map .int))), some (.c .own (.l (R.map .int))), o2, o3, o4, o5, o6]
theorem law_pureE {n : Nat} (ns : List Int) : ∃ st', prog.call (n + 10) 7 [.c .scr (.l (ns.map .int))] (List.filter Ow.inStore []) [] = some (.ok (.d (.bl true)) st') := by
  have hL0 : ∀ j, LkF (List.filter Ow.inStore []) j := fun j => by rw [lkf_filt, lkf_nil]; trivial
  have hrows := fun (L : List Ow) (st : Sto) => sp_rows (n := n + 8) (m := 24) (ns := ns) (L := L) (st := st) (by omega)
  have key : Wp (execs (prog.cl (prog.call (n + 9)) (List.filter Ow.inStore [])) b_law [some (.c .scr (.l (ns.map .int))), none, none, none, none, none, none] []) (fun r => ∃ st', r = .rt (.d (.bl true)) st') := by
    generalize rowsF ns 24 = R at *
    have hrows' : ∀ (L : List Ow) (st : Sto), prog.call (n + 9) 4 [.c .scr (.l (ns.map .int)), .d (.int 24)] (L.filter Ow.inStore) st = some (.ok (.c .own (.l (R.map .int))) st) := hrows
    clear hrows
    simp only [b_law]
    walk_at "sv"
    refine wp_for (fun i env s => ∃ o2 o3 o4 o5 o6, env = lenv ns R o2 o3 o4 o5 o6) ⟨_, _, _, _, _, rfl⟩ ?_ ?_
    · rintro i z hz env s ⟨o2, o3, o4, o5, o6, rfl⟩
      obtain ⟨r, _, rfl⟩ := map_at hz
      clear hrows'
      have hma := many_at (r := r)
      have hml := many_le (r := r)
      have hsm : smallI (manyF r : Int) = true := smallN (by omega)
      obtain ⟨z4, h4⟩ := at4 (r := r / 28) (a := 1000000000000000) (b := 1000000000000001) (c := 0 - 1) (d := 999999999999990)
      obtain ⟨z6, h6⟩ := at6 (r := r / 112) (a := 1) (b := 200) (c := 201) (d := 0) (e := 0 - 1) (f := 7)
      simp only [Int.reduceSub] at h4 h6
      have hmade := fun (ps : List Pu) (hl : ps.length ≤ 60) => sp_made (n := n + 6) (ps := ps) (r := z6) (st := s) hl
      have hdue := fun (ps : List Pu) (hl : ps.length ≤ 60) (L : List Ow) (st : Sto) => sp_due (n := n + 8) (ps := ps) (r := z6) (L := L) (st := st) (by omega)
      refine wp_mono (Q := fun q => ∃ o2 o3 o4 o5 o6 s', q = .nx (lenv ns R o2 o3 o4 o5 o6) s') ?_ ?_
      · have hps : ((List.range (manyF r)).map (pu0 r)).length = manyF r := by rw [List.length_map, List.length_range]
        have e1 : (List.range (manyF r)).map (fun k => puD (pu0 r k)) = ((List.range (manyF r)).map (pu0 r)).map puD := by rw [List.map_map]; rfl
        have hrd := rangeD_map' (m := manyF r)
        have hturn : ∀ (L : List Ow) (m : Nat), m ≤ 51 → compL (turnC (prog.cl (prog.call (n + 9)) L) (.nm 6) .yes (.tup (.cons (.bin .add (.var 6) (.cst (.int 1))) (.cons (.bin .mod (.bi .int (.cons (.bin .div (.var 2) (.bin .add (.cst (.int 7)) (.var 6))) .nil)) (.cst (.int 9))) .nil))) (lenv ns R (some (.d (.int r))) (some (.d (.int m))) o4 o5 o6)) (rangeD 0 m) [] s = ok (((List.range m).map (pu0 r)).map puD) s := by
          intro L m hm
          rw [rangeD_map', compL_mapG (fun k => puD (pu0 r k))]
          · rw [List.map_map]; rfl
          · intro k hk
            have hk' : k < m := List.mem_range.mp hk
            have h2 : divOk (7 + (k : Int)) = true := divOkI (by omega) (by omega)
            unfold puD pu0 lenv
            walk_at "sv"
          · rw [List.length_range]; exact Nat.le_trans (by omega : _ ≤ 1000) size_k
        replace hturn := hturn (Ow.s 1 :: List.filter Ow.inStore []) (manyF r) hml
        have hset : ∀ (ps : List Pu) (k : Nat) (a b : Int), (ps.map puD).set k (.tup [.int a, .int b]) = (ps.set k (a, b)).map puD := fun ps k a b => Tv.map_set (f := puD) (z := (a, b))
        generalize manyF r = m at *
        generalize (List.range m).map (pu0 r) = ps0 at *
        clear e1 hrd
        have hg0 := hmade ps0 (by omega)
        have hd0 := hdue ps0 (by omega)
        unfold lenv at hturn ⊢
        by_cases c1 : r / 7 % 4 = 0
        · have c2 : ¬ r / 7 % 4 = 1 := by omega
          by_cases c3 : (1 : Int) < m
          · obtain ⟨g, hg⟩ := hmade (ps0.set (m - 1) (1 + r / 28 % (m : Int), 3)) (by rw [List.length_set]; omega)
            have hd := hdue (ps0.set (m - 1) (1 + r / 28 % (m : Int), 3)) (by rw [List.length_set]; omega)
            have hg1 := hg (Ow.s 4 :: Ow.s 1 :: List.filter Ow.inStore []) (fun j => by rw [lkf_s, lkf_s]; exact hL0 j)
            have ht : ((m : Int) - 1).toNat = m - 1 := by omega
            have q1 : 0 ≤ (m : Int) - 1 := by omega
            have q2 : (m : Int) - 1 < ps0.length := by omega
            have q3 : (0 : Int) < m := by omega
            clear hmade hdue hg hg0 hd0 h4 hps
            walk_at "sv"
            exact wp_some ⟨_, _, _, _, _, _, rfl⟩
          · obtain ⟨g, hg⟩ := hg0
            have hg1 := hg (Ow.s 4 :: Ow.s 1 :: List.filter Ow.inStore []) (fun j => by rw [lkf_s, lkf_s]; exact hL0 j)
            clear hmade hdue hg h4 hps hset
            by_cases c4 : (0 : Int) < m
            · walk_at "sv"
              exact wp_some ⟨_, _, _, _, _, _, rfl⟩
            · walk_at "sv"
              exact wp_some ⟨_, _, _, _, _, _, rfl⟩
        · by_cases c2 : r / 7 % 4 = 1
          · by_cases c3 : (0 : Int) < m
            · obtain ⟨g, hg⟩ := hmade (ps0.set 0 (1, z4)) (by rw [List.length_set]; omega)
              have hd := hdue (ps0.set 0 (1, z4)) (by rw [List.length_set]; omega)
              have hg1 := hg (Ow.s 4 :: Ow.s 1 :: List.filter Ow.inStore []) (fun j => by rw [lkf_s, lkf_s]; exact hL0 j)
              have q2 : (0 : Int) < ps0.length := by omega
              by_cases c4 : (1 : Int) < m
              · clear hmade hdue hg hg0 hd0 hps
                walk_at "sv"
                exact wp_some ⟨_, _, _, _, _, _, rfl⟩
              · clear hmade hdue hg hg0 hd0 hps
                walk_at "sv"
                exact wp_some ⟨_, _, _, _, _, _, rfl⟩
            · obtain ⟨g, hg⟩ := hg0
              have hg1 := hg (Ow.s 4 :: Ow.s 1 :: List.filter Ow.inStore []) (fun j => by rw [lkf_s, lkf_s]; exact hL0 j)
              have c4 : ¬ (1 : Int) < m := by omega
              clear hmade hdue hg h4 hps hset
              walk_at "sv"
              exact wp_some ⟨_, _, _, _, _, _, rfl⟩
          · obtain ⟨g, hg⟩ := hg0
            have hg1 := hg (Ow.s 4 :: Ow.s 1 :: List.filter Ow.inStore []) (fun j => by rw [lkf_s, lkf_s]; exact hL0 j)
            by_cases c4 : (1 : Int) < m
            · have c3 : (0 : Int) < m := by omega
              clear hmade hdue hg h4 hps hset
              walk_at "sv"
              exact wp_some ⟨_, _, _, _, _, _, rfl⟩
            · by_cases c3 : (0 : Int) < m
              · clear hmade hdue hg h4 hps hset
                walk_at "sv"
                exact wp_some ⟨_, _, _, _, _, _, rfl⟩
              · clear hmade hdue hg h4 hps hset
                walk_at "sv"
                exact wp_some ⟨_, _, _, _, _, _, rfl⟩
      · rintro q ⟨o2, o3, o4, o5, o6, s', rfl⟩
        exact ⟨_, _, _, _, _, rfl⟩
    · rintro env s ⟨o2, o3, o4, o5, o6, rfl⟩
      unfold lenv
      walk_at "sv"
      exact wp_some ⟨_, rfl⟩
  obtain ⟨r, e, st', rfl⟩ := key
  refine ⟨st', ?_⟩
  rw [cs_law]
  show result (execs (prog.cl (prog.call (n + 9)) (List.filter Ow.inStore [])) b_law [some (.c .scr (.l (ns.map .int))), none, none, none, none, none, none] []) = _
  rw [e]
  rfl
end
end Lw
namespace Tw
open PySem L2 Tv Lw PySem.Spec PyProof.Rows
def top (i : Nat) : Stmt := PySem.Challenge.pw_turnpike_k39_new_ledgers_are_refused.main.body.getD i (.Pass ⟨0, 0, 0, 0⟩)
abbrev s_check_range : Stmt := (top 9)
abbrev N_check_range : List Str := ["name", "number", "least", "greatest"]
theorem sc_check_range : FnScope N_check_range ["name", "number", "least", "greatest"] (defScope s_check_range) := ⟨rfl, rfl, rfl, by decide +kernel, rfl, by decide +kernel, by decide +kernel⟩
abbrev s_Book___init__ : Stmt := (inClass (top 11) 0)
abbrev N_Book___init__ : List Str := ["self", "purses"]
theorem sc_Book___init__ : FnScope N_Book___init__ ["self", "purses"] (defScope s_Book___init__) := ⟨rfl, rfl, rfl, by decide +kernel, rfl, by decide +kernel, by decide +kernel⟩
abbrev s_Ledger___init__ : Stmt := (inClass (top 14) 0)
abbrev N_Ledger___init__ : List Str := ["self", "purses", "room"]
theorem sc_Ledger___init__ : FnScope N_Ledger___init__ ["self", "purses", "room"] (defScope s_Ledger___init__) := ⟨rfl, rfl, rfl, by decide +kernel, rfl, by decide +kernel, by decide +kernel⟩
abbrev s__check_purses : Stmt := (top 15)
abbrev N__check_purses : List Str := ["purses", "_", "amount", "party"]
theorem sc__check_purses : FnScope N__check_purses ["purses"] (defScope s__check_purses) := ⟨rfl, rfl, rfl, by decide +kernel, rfl, by decide +kernel, by decide +kernel⟩
abbrev s__law_rows : Stmt := (top 17)
abbrev N__law_rows : List Str := ["script", "count", "rows", "k", "cell"]
theorem sc__law_rows : FnScope N__law_rows ["script", "count"] (defScope s__law_rows) := ⟨rfl, rfl, rfl, by decide +kernel, rfl, by decide +kernel, by decide +kernel⟩
abbrev s__law_made : Stmt := (top 18)
abbrev N__law_made : List Str := ["purses", "room", "ledger", "book", "party"]
theorem sc__law_made : FnScope N__law_made ["purses", "room"] (defScope s__law_made) := ⟨rfl, rfl, rfl, by decide +kernel, rfl, by decide +kernel, by decide +kernel⟩
abbrev s__law_due : Stmt := (top 19)
abbrev N__law_due : List Str := ["purses", "room", "parties", "k", "money", "party", "amount", "pair"]
theorem sc__law_due : FnScope N__law_due ["purses", "room"] (defScope s__law_due) := ⟨rfl, rfl, rfl, by decide +kernel, rfl, by decide +kernel, by decide +kernel⟩
abbrev s_law : Stmt := (top 20)
abbrev N_law : List Str := ["script", "rows", "row", "many", "purses", "room", "k"]
theorem sc_law : FnScope N_law ["script"] (defScope s_law) := ⟨rfl, rfl, rfl, by decide +kernel, rfl, by decide +kernel, by decide +kernel⟩
structure Txt (K : PySem.W.Frag) (mg : Str → Option Value) where
  a_Book : Addr
  cl_Book : Cls K a_Book
  m_Book : mg "Book" = some (.ref a_Book)
  n_Book_purses : NoAttr K a_Book "purses"
  n_Book_vaults : NoAttr K a_Book "vaults"
  n_Book_receipts : NoAttr K a_Book "receipts"
  n_Book_ended : NoAttr K a_Book "ended"
  n_Book_done : NoAttr K a_Book "done"
  n_Book_height : NoAttr K a_Book "height"
  n_Book_burnt : NoAttr K a_Book "burnt"
  a_Ledger : Addr
  cl_Ledger : Cls K a_Ledger
  m_Ledger : mg "Ledger" = some (.ref a_Ledger)
  n_Ledger_book : NoAttr K a_Ledger "book"
  n_Ledger_room : NoAttr K a_Ledger "room"
  n_Ledger_waiting : NoAttr K a_Ledger "waiting"
  a_check_range : Addr
  fd_check_range : FuncData
  F_check_range : Fun K "check_range" "check_range" s_check_range a_check_range fd_check_range
  b_check_range : Binds K fd_check_range ["name", "number", "least", "greatest"] []
  m_check_range : mg "check_range" = some (.ref a_check_range)
  a_Book___init__ : Addr
  fd_Book___init__ : FuncData
  F_Book___init__ : Fun K "__init__" "Book.__init__" s_Book___init__ a_Book___init__ fd_Book___init__
  b_Book___init__ : Binds K fd_Book___init__ ["self", "purses"] []
  mk_Book : Mk K a_Book a_Book___init__
  a_Ledger___init__ : Addr
  fd_Ledger___init__ : FuncData
  F_Ledger___init__ : Fun K "__init__" "Ledger.__init__" s_Ledger___init__ a_Ledger___init__ fd_Ledger___init__
  kb_Ledger___init__ : KBn K fd_Ledger___init__ ["self", "purses", "room"] 2 ["room"] (fun us ws => us ++ ws) (fun vs zs => vs ++ zs)
  mk_Ledger : Mk K a_Ledger a_Ledger___init__
  a__check_purses : Addr
  fd__check_purses : FuncData
  F__check_purses : Fun K "_check_purses" "_check_purses" s__check_purses a__check_purses fd__check_purses
  b__check_purses : Binds K fd__check_purses ["purses"] []
  m__check_purses : mg "_check_purses" = some (.ref a__check_purses)
  a__law_rows : Addr
  fd__law_rows : FuncData
  F__law_rows : Fun K "_law_rows" "_law_rows" s__law_rows a__law_rows fd__law_rows
  b__law_rows : Binds K fd__law_rows ["script", "count"] []
  m__law_rows : mg "_law_rows" = some (.ref a__law_rows)
  a__law_made : Addr
  fd__law_made : FuncData
  F__law_made : Fun K "_law_made" "_law_made" s__law_made a__law_made fd__law_made
  b__law_made : Binds K fd__law_made ["purses", "room"] []
  m__law_made : mg "_law_made" = some (.ref a__law_made)
  a__law_due : Addr
  fd__law_due : FuncData
  F__law_due : Fun K "_law_due" "_law_due" s__law_due a__law_due fd__law_due
  b__law_due : Binds K fd__law_due ["purses", "room"] []
  m__law_due : mg "_law_due" = some (.ref a__law_due)
  a_law : Addr
  fd_law : FuncData
  F_law : Fun K "law" "law" s_law a_law fd_law
  b_law : Binds K fd_law ["script"] []
  m_law : mg "law" = some (.ref a_law)
  t_GREATEST_AMOUNT : Tok
  m_GREATEST_AMOUNT : mg "GREATEST_AMOUNT" = some (.int 1000000000000000 t_GREATEST_AMOUNT)
  t_GREATEST_ROOM : Tok
  m_GREATEST_ROOM : mg "GREATEST_ROOM" = some (.int 200 t_GREATEST_ROOM)
  t_MOST_PURSES : Tok
  m_MOST_PURSES : mg "MOST_PURSES" = some (.int 50 t_MOST_PURSES)
  m_dict : mg "dict" = none
  m_int : mg "int" = none
  m_len : mg "len" = none
  m_range : mg "range" = none
  m_sum : mg "sum" = none
  a_InvalidPurses : Addr
  m_InvalidPurses : mg "InvalidPurses" = some (.ref a_InvalidPurses)
  e_InvalidPurses : ExK K a_InvalidPurses
  a_OutOfBounds : Addr
  m_OutOfBounds : mg "OutOfBounds" = some (.ref a_OutOfBounds)
  e_OutOfBounds : ExK K a_OutOfBounds
  a_TooMuchMoney : Addr
  m_TooMuchMoney : mg "TooMuchMoney" = some (.ref a_TooMuchMoney)
  e_TooMuchMoney : ExK K a_TooMuchMoney
  a_TurnpikeError : Addr
  m_TurnpikeError : mg "TurnpikeError" = some (.ref a_TurnpikeError)
  e_TurnpikeError : ExK K a_TurnpikeError
  u_InvalidPurses_OutOfBounds : PySem.W.subIn K (.ref a_InvalidPurses) (.ref a_OutOfBounds) = some false
  u_InvalidPurses_TooMuchMoney : PySem.W.subIn K (.ref a_InvalidPurses) (.ref a_TooMuchMoney) = some false
  u_InvalidPurses_TurnpikeError : PySem.W.subIn K (.ref a_InvalidPurses) (.ref a_TurnpikeError) = some true
  u_OutOfBounds_InvalidPurses : PySem.W.subIn K (.ref a_OutOfBounds) (.ref a_InvalidPurses) = some false
  u_OutOfBounds_TooMuchMoney : PySem.W.subIn K (.ref a_OutOfBounds) (.ref a_TooMuchMoney) = some false
  u_OutOfBounds_TurnpikeError : PySem.W.subIn K (.ref a_OutOfBounds) (.ref a_TurnpikeError) = some true
  u_TooMuchMoney_InvalidPurses : PySem.W.subIn K (.ref a_TooMuchMoney) (.ref a_InvalidPurses) = some false
  u_TooMuchMoney_OutOfBounds : PySem.W.subIn K (.ref a_TooMuchMoney) (.ref a_OutOfBounds) = some false
  u_TooMuchMoney_TurnpikeError : PySem.W.subIn K (.ref a_TooMuchMoney) (.ref a_TurnpikeError) = some true
  u_TurnpikeError_InvalidPurses : PySem.W.subIn K (.ref a_TurnpikeError) (.ref a_InvalidPurses) = some false
  u_TurnpikeError_OutOfBounds : PySem.W.subIn K (.ref a_TurnpikeError) (.ref a_OutOfBounds) = some false
  u_TurnpikeError_TooMuchMoney : PySem.W.subIn K (.ref a_TurnpikeError) (.ref a_TooMuchMoney) = some false
section
variable {P : Program} {w : World} {K : PySem.W.Frag} {mg : Str → Option Value} {base : Heap}
def ET (T : Txt K mg) : Tv.En := ⟨K, fun n => [0, 0, 0, 0, T.a_Book, T.a_Ledger].getD n 0, fun n => [T.a_check_range, T.a_Book___init__, T.a_Ledger___init__, T.a__check_purses, T.a__law_rows, T.a__law_made, T.a__law_due, T.a_law].getD n 0, fun n => [T.a_TurnpikeError, T.a_OutOfBounds, T.a_InvalidPurses, T.a_TooMuchMoney].getD n 0, fun _ => Str.empty, ktsL, fldsL⟩
theorem enk (T : Txt K mg) : Enk (ET T) := fun C f h => by
  have h : (C, f) ∈ fldsL := h
  unfold fldsL at h
  rcases List.mem_cons.mp h with e | h
  · cases e; exact ⟨T.cl_Book, T.n_Book_purses⟩
  rcases List.mem_cons.mp h with e | h
  · cases e; exact ⟨T.cl_Book, T.n_Book_vaults⟩
  rcases List.mem_cons.mp h with e | h
  · cases e; exact ⟨T.cl_Book, T.n_Book_receipts⟩
  rcases List.mem_cons.mp h with e | h
  · cases e; exact ⟨T.cl_Book, T.n_Book_ended⟩
  rcases List.mem_cons.mp h with e | h
  · cases e; exact ⟨T.cl_Book, T.n_Book_done⟩
  rcases List.mem_cons.mp h with e | h
  · cases e; exact ⟨T.cl_Book, T.n_Book_height⟩
  rcases List.mem_cons.mp h with e | h
  · cases e; exact ⟨T.cl_Book, T.n_Book_burnt⟩
  rcases List.mem_cons.mp h with e | h
  · cases e; exact ⟨T.cl_Ledger, T.n_Ledger_book⟩
  rcases List.mem_cons.mp h with e | h
  · cases e; exact ⟨T.cl_Ledger, T.n_Ledger_room⟩
  rcases List.mem_cons.mp h with e | h
  · cases e; exact ⟨T.cl_Ledger, T.n_Ledger_waiting⟩
  cases h
theorem exk (T : Txt K mg) : Exk prog (ET T) := by
  intro a ha b hb
  have ha : a ∈ exsL := ha
  have hb : b ∈ exsL := hb
  simp only [exsL, List.mem_cons, List.not_mem_nil, or_false] at ha hb
  rcases ha with rfl | rfl | rfl | rfl <;> rcases hb with rfl | rfl | rfl | rfl
  · exact ⟨T.e_TurnpikeError, T.e_TurnpikeError.s⟩
  · exact ⟨T.e_OutOfBounds, T.u_TurnpikeError_OutOfBounds⟩
  · exact ⟨T.e_InvalidPurses, T.u_TurnpikeError_InvalidPurses⟩
  · exact ⟨T.e_TooMuchMoney, T.u_TurnpikeError_TooMuchMoney⟩
  · exact ⟨T.e_TurnpikeError, T.u_OutOfBounds_TurnpikeError⟩
  · exact ⟨T.e_OutOfBounds, T.e_OutOfBounds.s⟩
  · exact ⟨T.e_InvalidPurses, T.u_OutOfBounds_InvalidPurses⟩
  · exact ⟨T.e_TooMuchMoney, T.u_OutOfBounds_TooMuchMoney⟩
  · exact ⟨T.e_TurnpikeError, T.u_InvalidPurses_TurnpikeError⟩
  · exact ⟨T.e_OutOfBounds, T.u_InvalidPurses_OutOfBounds⟩
  · exact ⟨T.e_InvalidPurses, T.e_InvalidPurses.s⟩
  · exact ⟨T.e_TooMuchMoney, T.u_InvalidPurses_TooMuchMoney⟩
  · exact ⟨T.e_TurnpikeError, T.u_TooMuchMoney_TurnpikeError⟩
  · exact ⟨T.e_OutOfBounds, T.u_TooMuchMoney_OutOfBounds⟩
  · exact ⟨T.e_InvalidPurses, T.u_TooMuchMoney_InvalidPurses⟩
  · exact ⟨T.e_TooMuchMoney, T.e_TooMuchMoney.s⟩
structure All (P : Program) (w : World) (base : Heap) (T : Txt K mg) (n k : Nat) : Prop where
  c_check_range : FnOk P w K mg base (L2.CX P w) k T.a_check_range T.fd_check_range ["name", "number", "least", "greatest"] (spT prog (ET T) n 0)
  c_Book___init__ : FnOk P w K mg base (L2.CX P w) k T.a_Book___init__ T.fd_Book___init__ ["self", "purses"] (spT prog (ET T) n 1)
  c_Ledger___init__ : FnOk P w K mg base (L2.CX P w) k T.a_Ledger___init__ T.fd_Ledger___init__ ["self", "purses", "room"] (spT prog (ET T) n 2)
  c__check_purses : FnOk P w K mg base (L2.CX P w) k T.a__check_purses T.fd__check_purses ["purses"] (spT prog (ET T) n 3)
  c__law_rows : FnOk P w K mg base (L2.CX P w) k T.a__law_rows T.fd__law_rows ["script", "count"] (spT prog (ET T) n 4)
  c__law_made : FnOk P w K mg base (L2.CX P w) k T.a__law_made T.fd__law_made ["purses", "room"] (spT prog (ET T) n 5)
  c__law_due : FnOk P w K mg base (L2.CX P w) k T.a__law_due T.fd__law_due ["purses", "room"] (spT prog (ET T) n 6)
  c_law : FnOk P w K mg base (L2.CX P w) k T.a_law T.fd_law ["script"] (spT prog (ET T) n 7)
theorem ok_check_range {n k : Nat} (T : Txt K mg) (ih : All P w base T n k) : FnOk P w K mg base (L2.CX P w) (k + 2) T.a_check_range T.fd_check_range ["name", "number", "least", "greatest"] (spT prog (ET T) (n + 1) 0) := by
  refine fn_T (N := N_check_range) (body := b_check_range) T.F_check_range sc_check_range rfl (by decide) fun cdv A outer s H Y hr => ?_
  have hr0 := hr.mono (Nat.le_succ k)
  have hE := enk T
  have tk := takes_of (X := cxOf (L2.CX P w) P w K mg base N_check_range "check_range" (defScope s_check_range) T.a_check_range cdv A outer s H Y) rfl rfl rfl rfl
  have po : PassesOwn (model P w) _ _ _ := passes_of (X := cxOf (L2.CX P w) P w K mg base N_check_range "check_range" (defScope s_check_range) T.a_check_range cdv A outer s H Y) rfl
  have d : Dss (cxOf (L2.CX P w) P w K mg base N_check_range "check_range" (defScope s_check_range) T.a_check_range cdv A outer s H Y) ⟨prog, n, ET T, fun _ => none, fun cls d _ H => Y cls d H⟩ (defBody s_check_range) b_check_range _ :=
   (dss_cons (ds_if (dt_w (dw_or (dt_cmp rfl co_lt (de_var 1) (de_var 2) (by first | exact nomark _ | rfl)) (dw_or1 (dt_cmp rfl co_gt (de_var 1) (de_var 3) (by first | exact nomark _ | rfl)))))
    (dss_cons (ds_raise (k := 1) rfl tk PySem.F.excBase_ValueError T.e_OutOfBounds.x T.m_OutOfBounds T.e_OutOfBounds.k (raises_own T.e_OutOfBounds.e.hs T.e_OutOfBounds.t) rfl rfl (de_joined (dj_cons (de_fmt (de_var 0)) (dj_cons de_str (dj_cons (de_fmt (de_var 2)) (dj_cons de_str (dj_cons (de_fmt (de_var 3)) dj_nil)))))))
    dss_nil)
    dss_nil)
    dss_nil)
  exact ⟨_, d.p, d.s⟩
theorem ok_Book___init__ {n k : Nat} (T : Txt K mg) (ih : All P w base T n k) : FnOk P w K mg base (L2.CX P w) (k + 2) T.a_Book___init__ T.fd_Book___init__ ["self", "purses"] (spT prog (ET T) (n + 1) 1) := by
  refine fn_T (N := N_Book___init__) (body := b_Book___init__) T.F_Book___init__ sc_Book___init__ rfl (by decide) fun cdv A outer s H Y hr => ?_
  have hr0 := hr.mono (Nat.le_succ k)
  have hE := enk T
  have tk := takes_of (X := cxOf (L2.CX P w) P w K mg base N_Book___init__ "Book.__init__" (defScope s_Book___init__) T.a_Book___init__ cdv A outer s H Y) rfl rfl rfl rfl
  have po : PassesOwn (model P w) _ _ _ := passes_of (X := cxOf (L2.CX P w) P w K mg base N_Book___init__ "Book.__init__" (defScope s_Book___init__) T.a_Book___init__ cdv A outer s H Y) rfl
  have d : Dss (cxOf (L2.CX P w) P w K mg base N_Book___init__ "Book.__init__" (defScope s_Book___init__) T.a_Book___init__ cdv A outer s H Y) ⟨prog, n, ET T, fun _ => none, fun cls d _ H => Y cls d H⟩ (defBody s_Book___init__) b_Book___init__ _ :=
   (dss_cons (ds_fld hE rfl rfl (de_var 0) (de_ty (bi_dict rfl) rfl T.m_dict b_dict (da_cons (de_var 1) da_nil)))
    (dss_cons (ds_fld hE rfl rfl (de_var 0) de_dct0K)
    (dss_cons (ds_fld hE rfl rfl (de_var 0) de_dct0K)
    (dss_cons (ds_fld hE rfl rfl (de_var 0) (de_lst da_nil))
    (dss_cons (ds_fld hE rfl rfl (de_var 0) (de_lst da_nil))
    (dss_cons (ds_fld hE rfl rfl (de_var 0) de_int)
    (dss_cons (ds_fld hE rfl rfl (de_var 0) de_int)
    dss_nil)))))))
  exact ⟨_, d.p, d.s⟩
theorem ok_Ledger___init__ {n k : Nat} (T : Txt K mg) (ih : All P w base T n k) : FnOk P w K mg base (L2.CX P w) (k + 2) T.a_Ledger___init__ T.fd_Ledger___init__ ["self", "purses", "room"] (spT prog (ET T) (n + 1) 2) := by
  refine fn_T (N := N_Ledger___init__) (body := b_Ledger___init__) T.F_Ledger___init__ sc_Ledger___init__ rfl (by decide) fun cdv A outer s H Y hr => ?_
  have hr0 := hr.mono (Nat.le_succ k)
  have hE := enk T
  have tk := takes_of (X := cxOf (L2.CX P w) P w K mg base N_Ledger___init__ "Ledger.__init__" (defScope s_Ledger___init__) T.a_Ledger___init__ cdv A outer s H Y) rfl rfl rfl rfl
  have po : PassesOwn (model P w) _ _ _ := passes_of (X := cxOf (L2.CX P w) P w K mg base N_Ledger___init__ "Ledger.__init__" (defScope s_Ledger___init__) T.a_Ledger___init__ cdv A outer s H Y) rfl
  have d : Dss (cxOf (L2.CX P w) P w K mg base N_Ledger___init__ "Ledger.__init__" (defScope s_Ledger___init__) T.a_Ledger___init__ cdv A outer s H Y) ⟨prog, n, ET T, fun _ => none, fun cls d _ H => Y cls d H⟩ (defBody s_Ledger___init__) b_Ledger___init__ _ :=
   (dss_cons (ds_drop (de_call tk ih.c__check_purses hr0 rfl T.m__check_purses T.F__check_purses.kp T.b__check_purses (da_cons (de_var 1) da_nil) rfl))
    (dss_cons (ds_drop (de_call tk ih.c_check_range hr0 rfl T.m_check_range T.F_check_range.kp T.b_check_range (da_cons de_str (da_cons (de_var 2) (da_cons de_int (da_cons (de_glob (v := .int 200) rfl T.m_GREATEST_ROOM ⟨_, rfl⟩ (fun _ _ => .int _)) da_nil)))) rfl))
    (dss_cons (ds_fld hE rfl rfl (de_var 0) (de_mk (C := 4) tk T.mk_Book ih.c_Book___init__ hr rfl T.m_Book T.b_Book___init__ .nil .nil (da_cons (de_var 1) da_nil) rfl rfl))
    (dss_cons (ds_fld hE rfl rfl (de_var 0) (de_var 2))
    (dss_cons (ds_fld hE rfl rfl (de_var 0) (de_lst da_nil))
    dss_nil)))))
  exact ⟨_, d.p, d.s⟩
theorem ok__check_purses {n k : Nat} (T : Txt K mg) (ih : All P w base T n k) : FnOk P w K mg base (L2.CX P w) (k + 2) T.a__check_purses T.fd__check_purses ["purses"] (spT prog (ET T) (n + 1) 3) := by
  refine fn_T (N := N__check_purses) (body := b__check_purses) T.F__check_purses sc__check_purses rfl (by decide) fun cdv A outer s H Y hr => ?_
  have hr0 := hr.mono (Nat.le_succ k)
  have hE := enk T
  have tk := takes_of (X := cxOf (L2.CX P w) P w K mg base N__check_purses "_check_purses" (defScope s__check_purses) T.a__check_purses cdv A outer s H Y) rfl rfl rfl rfl
  have po : PassesOwn (model P w) _ _ _ := passes_of (X := cxOf (L2.CX P w) P w K mg base N__check_purses "_check_purses" (defScope s__check_purses) T.a__check_purses cdv A outer s H Y) rfl
  have d : Dss (cxOf (L2.CX P w) P w K mg base N__check_purses "_check_purses" (defScope s__check_purses) T.a__check_purses cdv A outer s H Y) ⟨prog, n, ET T, fun _ => none, fun cls d _ H => Y cls d H⟩ (defBody s__check_purses) b__check_purses _ :=
   (dss_cons (ds_if (dt_cmp rfl co_gt (de_bi (bi_len rfl) rfl T.m_len b_len (da_cons (de_var 0) da_nil)) (de_glob (v := .int 50) rfl T.m_MOST_PURSES ⟨_, rfl⟩ (fun _ _ => .int _)) (by first | exact nomark _ | rfl))
    (dss_cons (ds_raise (k := 2) rfl tk PySem.F.excBase_ValueError T.e_InvalidPurses.x T.m_InvalidPurses T.e_InvalidPurses.k (raises_own T.e_InvalidPurses.e.hs T.e_InvalidPurses.t) rfl rfl (de_joined (dj_cons de_str (dj_cons (de_fmt (de_glob (v := .int 50) rfl T.m_MOST_PURSES ⟨_, rfl⟩ (fun _ _ => .int _))) (dj_cons de_str dj_nil)))))
    dss_nil)
    dss_nil)
    (dss_cons (ds_if (dt_cmp rfl co_lt (de_lsZ rfl rfl sc__check_purses.nd rfl T.m_len (blkOk_by (own := [("party", 3), ("_", 1)]) (N := N__check_purses) (sc := defScope s__check_purses) (by decide +kernel)) (dic_seq rfl (de_var 0)) (fun _ _ _ _ _ => (dg_tp (n := 2) rfl rfl (dgs_cons (dg_nm (i := 3) sc__check_purses.nd rfl (.inl rfl)) (dgs_cons (dg_nm (i := 1) sc__check_purses.nd rfl (.inl rfl)) dgs_nil)) rfl rfl rfl)) (fun _ _ _ _ _ => dts_nil) (fun _ _ _ _ _ => (de_var 3)) rfl) (de_bi (bi_len rfl) rfl T.m_len b_len (da_cons (de_var 0) da_nil)) (by first | exact nomark _ | rfl))
    (dss_cons (ds_raise (k := 2) rfl tk PySem.F.excBase_ValueError T.e_InvalidPurses.x T.m_InvalidPurses T.e_InvalidPurses.k (raises_own T.e_InvalidPurses.e.hs T.e_InvalidPurses.t) rfl rfl de_str)
    dss_nil)
    dss_nil)
    (dss_cons (ds_forS po rfl rfl (de_var 0) (dg_tp (n := 2) rfl rfl (dgs_cons (dg_nm (i := 1) sc__check_purses.nd rfl (.inl rfl)) (dgs_cons (dg_nm (i := 2) sc__check_purses.nd rfl (.inl rfl)) dgs_nil)) rfl rfl rfl)
    (dss_cons (ds_if (dt_w (dw_or (dt_cmp rfl co_lt (de_var 2) de_int (by first | exact nomark _ | rfl)) (dw_or1 (dt_cmp rfl co_gt (de_var 2) (de_glob (v := .int 1000000000000000) rfl T.m_GREATEST_AMOUNT ⟨_, rfl⟩ (fun _ _ => .int _)) (by first | exact nomark _ | rfl)))))
    (dss_cons (ds_raise (k := 2) rfl tk PySem.F.excBase_ValueError T.e_InvalidPurses.x T.m_InvalidPurses T.e_InvalidPurses.k (raises_own T.e_InvalidPurses.e.hs T.e_InvalidPurses.t) rfl rfl (de_joined (dj_cons de_str (dj_cons (de_fmt (de_glob (v := .int 1000000000000000) rfl T.m_GREATEST_AMOUNT ⟨_, rfl⟩ (fun _ _ => .int _))) dj_nil))))
    dss_nil)
    dss_nil)
    dss_nil))
    (dss_cons (ds_if (dt_cmp rfl co_gt (de_bi (bi_sum rfl) rfl T.m_sum b_sum (da_cons (de_lcD rfl sc__check_purses.nd (blkOk_by (own := [("_", 1), ("amount", 2)]) (N := N__check_purses) (sc := defScope s__check_purses) (by decide +kernel)) (dic_seq rfl (de_var 0)) (fun _ _ _ _ _ => (dg_tp (n := 2) rfl rfl (dgs_cons (dg_nm (i := 1) sc__check_purses.nd rfl (.inl rfl)) (dgs_cons (dg_nm (i := 2) sc__check_purses.nd rfl (.inl rfl)) dgs_nil)) rfl rfl rfl)) (fun _ _ _ _ _ => dts_nil) (fun _ _ _ _ _ => (de_var 2)) rfl) da_nil)) (de_glob (v := .int 1000000000000000) rfl T.m_GREATEST_AMOUNT ⟨_, rfl⟩ (fun _ _ => .int _)) (by first | exact nomark _ | rfl))
    (dss_cons (ds_raise (k := 3) rfl tk PySem.F.excBase_ValueError T.e_TooMuchMoney.x T.m_TooMuchMoney T.e_TooMuchMoney.k (raises_own T.e_TooMuchMoney.e.hs T.e_TooMuchMoney.t) rfl rfl (de_joined (dj_cons de_str (dj_cons (de_fmt (de_glob (v := .int 1000000000000000) rfl T.m_GREATEST_AMOUNT ⟨_, rfl⟩ (fun _ _ => .int _))) dj_nil))))
    dss_nil)
    dss_nil)
    dss_nil))))
  exact ⟨_, d.p, d.s⟩
theorem ok__law_rows {n k : Nat} (T : Txt K mg) (ih : All P w base T n k) : FnOk P w K mg base (L2.CX P w) (k + 2) T.a__law_rows T.fd__law_rows ["script", "count"] (spT prog (ET T) (n + 1) 4) := by
  refine fn_T (N := N__law_rows) (body := b__law_rows) T.F__law_rows sc__law_rows rfl (by decide) fun cdv A outer s H Y hr => ?_
  have hr0 := hr.mono (Nat.le_succ k)
  have hE := enk T
  have tk := takes_of (X := cxOf (L2.CX P w) P w K mg base N__law_rows "_law_rows" (defScope s__law_rows) T.a__law_rows cdv A outer s H Y) rfl rfl rfl rfl
  have po : PassesOwn (model P w) _ _ _ := passes_of (X := cxOf (L2.CX P w) P w K mg base N__law_rows "_law_rows" (defScope s__law_rows) T.a__law_rows cdv A outer s H Y) rfl
  have d : Dss (cxOf (L2.CX P w) P w K mg base N__law_rows "_law_rows" (defScope s__law_rows) T.a__law_rows cdv A outer s H Y) ⟨prog, n, ET T, fun _ => none, fun cls d _ H => Y cls d H⟩ (defBody s__law_rows) b__law_rows _ :=
   (dss_cons (ds_asg (de_lst da_nil) (dg_nm (i := 2) sc__law_rows.nd rfl (.inl rfl)) (fun _ e => by cases e; rfl))
    (dss_cons (ds_for po rfl (di_range rfl T.m_range (de_var 1)) (dg_nm (i := 3) sc__law_rows.nd rfl (.inl rfl))
    (dss_cons (ds_asg de_int (dg_nm (i := 4) sc__law_rows.nd rfl (.inl rfl)) (fun _ e => by cases e; rfl))
    (dss_cons (ds_if (dt_cmp rfl co_gt (de_bi (bi_len rfl) rfl T.m_len b_len (da_cons (de_var 0) da_nil)) de_int (by first | exact nomark _ | rfl))
    (dss_cons (ds_asg (de_ty bi_int rfl T.m_int b_int (da_cons (de_idx rfl rfl hr (de_var 0) (de_bin bo_mod (de_ty bi_int rfl T.m_int b_int (da_cons (de_var 3) da_nil)) (de_bi (bi_len rfl) rfl T.m_len b_len (da_cons (de_var 0) da_nil))) (fun _ _ => rfl)) da_nil)) (dg_nm (i := 4) sc__law_rows.nd rfl (.inl rfl)) (fun _ e => by cases e; rfl))
    dss_nil)
    dss_nil)
    (dss_cons (ds_if (dt_cmp rfl co_lt (de_var 4) de_int (by first | exact nomark _ | rfl))
    (dss_cons (ds_asg (de_bin bo_sub (de_bin bo_sub de_int (de_bin bo_mul de_int (de_var 4))) de_int) (dg_nm (i := 4) sc__law_rows.nd rfl (.inl rfl)) (fun _ e => by cases e; rfl))
    dss_nil)
    dss_nil)
    (dss_cons (ds_if (dt_w (dw_or (dt_cmp rfl co_ge (de_var 3) (de_bi (bi_len rfl) rfl T.m_len b_len (da_cons (de_var 0) da_nil)) (by first | exact nomark _ | rfl)) (dw_or1 (dt_cmp rfl co_lt (de_var 4) de_int (by first | exact nomark _ | rfl)))))
    (dss_cons (ds_asg (de_bin bo_mod (de_ty bi_int rfl T.m_int b_int (da_cons (de_bin (bo_add rfl) (de_bin (bo_add rfl) (de_bin bo_mul (de_bin (bo_add rfl) (de_bin (bo_add rfl) (de_var 4) (de_bin bo_mul de_int (de_var 3))) de_int) de_int) (de_bin bo_mul (de_bin bo_mul (de_var 3) (de_var 3)) de_int)) de_int) da_nil)) de_int) (dg_nm (i := 4) sc__law_rows.nd rfl (.inl rfl)) (fun _ e => by cases e; rfl))
    (dss_cons (ds_asg (de_bin bo_mod (de_ty bi_int rfl T.m_int b_int (da_cons (de_bin (bo_add rfl) (de_bin bo_mul (de_bin (bo_add rfl) (de_bin (bo_add rfl) (de_var 4) (de_bin bo_mul de_int (de_var 3))) de_int) de_int) de_int) da_nil)) de_int) (dg_nm (i := 4) sc__law_rows.nd rfl (.inl rfl)) (fun _ e => by cases e; rfl))
    dss_nil))
    dss_nil)
    (dss_cons (ds_app rfl (dpl_nm 2 (pv 2)) (de_var 4))
    dss_nil))))))
    (dss_cons (ds_retV (pv 2))
    dss_nil)))
  exact ⟨_, d.p, d.s⟩
theorem ok__law_made {n k : Nat} (T : Txt K mg) (ih : All P w base T n k) : FnOk P w K mg base (L2.CX P w) (k + 2) T.a__law_made T.fd__law_made ["purses", "room"] (spT prog (ET T) (n + 1) 5) := by
  refine fn_T (N := N__law_made) (body := b__law_made) T.F__law_made sc__law_made rfl (by decide) fun cdv A outer s H Y hr => ?_
  have hr0 := hr.mono (Nat.le_succ k)
  have hE := enk T
  have tk := takes_of (X := cxOf (L2.CX P w) P w K mg base N__law_made "_law_made" (defScope s__law_made) T.a__law_made cdv A outer s H Y) rfl rfl rfl rfl
  have po : PassesOwn (model P w) _ _ _ := passes_of (X := cxOf (L2.CX P w) P w K mg base N__law_made "_law_made" (defScope s__law_made) T.a__law_made cdv A outer s H Y) rfl
  have d : Dss (cxOf (L2.CX P w) P w K mg base N__law_made "_law_made" (defScope s__law_made) T.a__law_made cdv A outer s H Y) ⟨prog, n, ET T, fun _ => none, fun cls d _ H => Y cls d H⟩ (defBody s__law_made) b__law_made _ :=
   (dss_cons (ds_try (exk T) rfl rfl rfl tk (fun W pn xe tk => (dss_cons (ds_asg (de_mkK (dvs := []) (C := 5) tk T.mk_Ledger ih.c_Ledger___init__ hr rfl T.m_Ledger T.kb_Ledger___init__ .nil (fun us ws => (List.append_nil _).symm) (dak_cons (de_var 0) (dak_nil (dk_cons (de_var 1) dk_nil))) rfl rfl rfl) (dg_nm (i := 2) sc__law_made.nd rfl (.inl rfl)) (fun _ e => by cases e; rfl))
    dss_nil))
    (.cons ⟨rfl, rfl, .inl T.m_InvalidPurses⟩ (fun ea eo ec ed en hz hf => (dss_cons (ds_ret de_str)
    dss_nil))
    (.cons ⟨rfl, rfl, .inl T.m_TooMuchMoney⟩ (fun ea eo ec ed en hz hf => (dss_cons (ds_ret de_str)
    dss_nil))
    (.cons ⟨rfl, rfl, .inl T.m_OutOfBounds⟩ (fun ea eo ec ed en hz hf => (dss_cons (ds_ret de_str)
    dss_nil))
    (.cons ⟨rfl, rfl, .inl T.m_TurnpikeError⟩ (fun ea eo ec ed en hz hf => (dss_cons (ds_ret de_str)
    dss_nil))
    .nil)))))
    (dss_cons (ds_asg (de_attr hE rfl (de_var 2)) (dg_nm (i := 3) sc__law_made.nd rfl (.inr rfl)) (fun _ e => by cases e; rfl))
    (dss_cons (ds_if (dt_w (dw_or (dt_cmp rfl (co_ne rfl hr) (de_lcD rfl sc__law_made.nd (blkOk_by (own := [("party", 4)]) (N := N__law_made) (sc := defScope s__law_made) (by decide +kernel)) (dic_seq rfl (de_attr hE rfl (de_var 3))) (fun _ _ _ _ _ => (dg_nm (i := 4) sc__law_made.nd rfl (.inl rfl))) (fun _ _ _ _ _ => dts_nil) (fun _ _ _ _ _ => (de_tup (da_cons (de_var 4) (da_cons (de_idx rfl rfl hr (de_attr hE rfl (de_var 3)) (de_var 4) (fun _ _ => rfl)) da_nil)))) rfl) (de_var 0) (by first | exact nomark _ | rfl)) (dw_or1 (dt_cmp rfl (co_ne rfl hr) (de_attr hE rfl (de_var 2)) (de_var 1) (by first | exact nomark _ | rfl)))))
    (dss_cons (ds_ret de_str)
    dss_nil)
    dss_nil)
    (dss_cons (ds_if (dt_w (dw_or (dt_cmp rfl (co_ne rfl hr) (de_attr hE rfl (de_var 3)) de_dct0K (by first | exact nomark _ | rfl)) (dw_or (dt_cmp rfl (co_ne rfl hr) (de_attr hE rfl (de_var 3)) de_dct0K (by first | exact nomark _ | rfl)) (dw_or (dt_cmp rfl (co_ne rfl hr) (de_attr hE rfl (de_var 3)) (de_lst da_nil) (by first | exact nomark _ | rfl)) (dw_or (dt_cmp rfl (co_ne rfl hr) (de_attr hE rfl (de_var 3)) (de_lst da_nil) (by first | exact nomark _ | rfl)) (dw_or1 (dt_cmp rfl (co_ne rfl hr) (de_attr hE rfl (de_var 2)) (de_lst da_nil) (by first | exact nomark _ | rfl))))))))
    (dss_cons (ds_ret de_str)
    dss_nil)
    dss_nil)
    (dss_cons (ds_ret (de_ite (dt_w (dw_and (dt_cmp rfl (co_eq rfl hr) (de_attr hE rfl (de_var 3)) de_int (by first | exact nomark _ | rfl)) (dw_and1 (dt_cmp rfl (co_eq rfl hr) (de_attr hE rfl (de_var 3)) de_int (by first | exact nomark _ | rfl))))) de_str de_str))
    dss_nil)))))
  exact ⟨_, d.p, d.s⟩
theorem ok__law_due {n k : Nat} (T : Txt K mg) (ih : All P w base T n k) : FnOk P w K mg base (L2.CX P w) (k + 2) T.a__law_due T.fd__law_due ["purses", "room"] (spT prog (ET T) (n + 1) 6) := by
  refine fn_T (N := N__law_due) (body := b__law_due) T.F__law_due sc__law_due rfl (by decide) fun cdv A outer s H Y hr => ?_
  have hr0 := hr.mono (Nat.le_succ k)
  have hE := enk T
  have tk := takes_of (X := cxOf (L2.CX P w) P w K mg base N__law_due "_law_due" (defScope s__law_due) T.a__law_due cdv A outer s H Y) rfl rfl rfl rfl
  have po : PassesOwn (model P w) _ _ _ := passes_of (X := cxOf (L2.CX P w) P w K mg base N__law_due "_law_due" (defScope s__law_due) T.a__law_due cdv A outer s H Y) rfl
  have d : Dss (cxOf (L2.CX P w) P w K mg base N__law_due "_law_due" (defScope s__law_due) T.a__law_due cdv A outer s H Y) ⟨prog, n, ET T, fun _ => none, fun cls d _ H => Y cls d H⟩ (defBody s__law_due) b__law_due _ :=
   (dss_cons (ds_setLcD (i := 2) rfl sc__law_due.nd rfl rfl (sw_true rfl rfl rfl (by decide +kernel)) (blkOk_by (own := [("pair", 7)]) (N := N__law_due) (sc := defScope s__law_due) (by decide +kernel)) (dic_seq rfl (de_var 0)) (fun _ _ _ _ _ => (dg_nm (i := 7) sc__law_due.nd rfl (.inl rfl))) (fun _ _ _ _ _ => dts_nil) (fun _ _ _ _ _ => (de_idx rfl rfl hr (de_var 7) de_int (fun _ _ => rfl))) rfl)
    (dss_cons (ds_for po rfl (di_range rfl T.m_range (de_bi (bi_len rfl) rfl T.m_len b_len (da_cons (de_var 2) da_nil))) (dg_nm (i := 3) sc__law_due.nd rfl (.inl rfl))
    (dss_cons (ds_if (dt_cmp rfl (co_in rfl hr) (de_idx rfl rfl hr (de_var 2) (de_var 3) (fun _ _ => rfl)) (de_slice rfl (de_var 2) do_none (do_some (de_var 3))) (by first | exact nomark _ | rfl))
    (dss_cons (ds_ret de_str)
    dss_nil)
    dss_nil)
    dss_nil))
    (dss_cons (ds_if (dt_cmp rfl co_gt (de_bi (bi_len rfl) rfl T.m_len b_len (da_cons (de_var 0) da_nil)) de_int (by first | exact nomark _ | rfl))
    (dss_cons (ds_ret de_str)
    dss_nil)
    dss_nil)
    (dss_cons (ds_asg de_int (dg_nm (i := 4) sc__law_due.nd rfl (.inl rfl)) (fun _ e => by cases e; rfl))
    (dss_cons (ds_forS po rfl rfl (de_var 0) (dg_tp (n := 2) rfl rfl (dgs_cons (dg_nm (i := 5) sc__law_due.nd rfl (.inl rfl)) (dgs_cons (dg_nm (i := 6) sc__law_due.nd rfl (.inl rfl)) dgs_nil)) rfl rfl rfl)
    (dss_cons (ds_if (dt_w (dw_or (dt_cmp rfl co_lt (de_var 6) de_int (by first | exact nomark _ | rfl)) (dw_or1 (dt_cmp rfl co_gt (de_var 6) de_int (by first | exact nomark _ | rfl)))))
    (dss_cons (ds_ret de_str)
    dss_nil)
    dss_nil)
    (dss_cons (ds_asg (de_bin (bo_add rfl) (de_var 4) (de_var 6)) (dg_nm (i := 4) sc__law_due.nd rfl (.inl rfl)) (fun _ e => by cases e; rfl))
    dss_nil)))
    (dss_cons (ds_if (dt_cmp rfl co_gt (de_var 4) de_int (by first | exact nomark _ | rfl))
    (dss_cons (ds_ret de_str)
    dss_nil)
    dss_nil)
    (dss_cons (ds_ret (de_ite (dt_chain co_le co_le de_int (de_var 1) de_int) de_str de_str))
    dss_nil)))))))
  exact ⟨_, d.p, d.s⟩
theorem ok_law {n k : Nat} (T : Txt K mg) (ih : All P w base T n k) : FnOk P w K mg base (L2.CX P w) (k + 2) T.a_law T.fd_law ["script"] (spT prog (ET T) (n + 1) 7) := by
  refine fn_T (N := N_law) (body := b_law) T.F_law sc_law rfl (by decide) fun cdv A outer s H Y hr => ?_
  have hr0 := hr.mono (Nat.le_succ k)
  have hE := enk T
  have tk := takes_of (X := cxOf (L2.CX P w) P w K mg base N_law "law" (defScope s_law) T.a_law cdv A outer s H Y) rfl rfl rfl rfl
  have po : PassesOwn (model P w) _ _ _ := passes_of (X := cxOf (L2.CX P w) P w K mg base N_law "law" (defScope s_law) T.a_law cdv A outer s H Y) rfl
  have d : Dss (cxOf (L2.CX P w) P w K mg base N_law "law" (defScope s_law) T.a_law cdv A outer s H Y) ⟨prog, n, ET T, fun _ => none, fun cls d _ H => Y cls d H⟩ (defBody s_law) b_law _ :=
   (dss_cons (ds_asg (de_call tk ih.c__law_rows hr0 rfl T.m__law_rows T.F__law_rows.kp T.b__law_rows (da_cons (de_var 0) (da_cons de_int da_nil)) rfl) (dg_nm (i := 1) sc_law.nd rfl (.inl rfl)) (fun _ e => by cases e; rfl))
    (dss_cons (ds_forS po rfl rfl (de_var 1) (dg_nm (i := 2) sc_law.nd rfl (.inr rfl))
    (dss_cons (ds_asg (de_idx rfl rfl hr (de_tup (da_cons de_int (da_cons de_int (da_cons de_int (da_cons de_int (da_cons de_int (da_cons de_int (da_cons de_int da_nil)))))))) (de_bin bo_mod (de_ty bi_int rfl T.m_int b_int (da_cons (de_var 2) da_nil)) de_int) (fun _ _ => rfl)) (dg_nm (i := 3) sc_law.nd rfl (.inl rfl)) (fun _ e => by cases e; rfl))
    (dss_cons (ds_setLcD (i := 4) rfl sc_law.nd rfl rfl (sw_true rfl rfl rfl (by decide +kernel)) (blkOk_by (own := [("k", 6)]) (N := N_law) (sc := defScope s_law) (by decide +kernel)) (dic_of (di_range rfl T.m_range (de_var 3))) (fun _ _ _ _ _ => (dg_nm (i := 6) sc_law.nd rfl (.inl rfl))) (fun _ _ _ _ _ => dts_nil) (fun _ _ _ _ _ => (de_tup (da_cons (de_bin (bo_add rfl) (de_var 6) de_int) (da_cons (de_bin bo_mod (de_ty bi_int rfl T.m_int b_int (da_cons (de_bin bo_div (de_var 2) (de_bin (bo_add rfl) de_int (de_var 6))) da_nil)) de_int) da_nil)))) rfl)
    (dss_cons (ds_if (dt_w (dw_and (dt_cmp rfl co_gt (de_var 3) de_int (by first | exact nomark _ | rfl)) (dw_and1 (dt_cmp rfl (co_eq rfl hr) (de_bin bo_mod (de_ty bi_int rfl T.m_int b_int (da_cons (de_bin bo_div (de_var 2) de_int) da_nil)) de_int) de_int (by first | exact nomark _ | rfl)))))
    (dss_cons (ds_putL (dpl_nm 4 (pv 4)) (de_bin bo_sub (de_var 3) de_int) (de_tup (da_cons (de_bin (bo_add rfl) de_int (de_bin bo_mod (de_ty bi_int rfl T.m_int b_int (da_cons (de_bin bo_div (de_var 2) de_int) da_nil)) (de_var 3))) (da_cons de_int da_nil))))
    dss_nil)
    dss_nil)
    (dss_cons (ds_if (dt_w (dw_and (dt_cmp rfl co_gt (de_var 3) de_int (by first | exact nomark _ | rfl)) (dw_and1 (dt_cmp rfl (co_eq rfl hr) (de_bin bo_mod (de_ty bi_int rfl T.m_int b_int (da_cons (de_bin bo_div (de_var 2) de_int) da_nil)) de_int) de_int (by first | exact nomark _ | rfl)))))
    (dss_cons (ds_putL (dpl_nm 4 (pv 4)) de_int (de_tup (da_cons de_int (da_cons (de_idx rfl rfl hr (de_tup (da_cons de_int (da_cons de_int (da_cons (de_bin bo_sub de_int de_int) (da_cons de_int da_nil))))) (de_bin bo_mod (de_ty bi_int rfl T.m_int b_int (da_cons (de_bin bo_div (de_var 2) de_int) da_nil)) de_int) (fun _ _ => rfl)) da_nil))))
    dss_nil)
    dss_nil)
    (dss_cons (ds_asg (de_idx rfl rfl hr (de_tup (da_cons de_int (da_cons de_int (da_cons de_int (da_cons de_int (da_cons (de_bin bo_sub de_int de_int) (da_cons de_int da_nil))))))) (de_bin bo_mod (de_ty bi_int rfl T.m_int b_int (da_cons (de_bin bo_div (de_var 2) de_int) da_nil)) de_int) (fun _ _ => rfl)) (dg_nm (i := 5) sc_law.nd rfl (.inl rfl)) (fun _ e => by cases e; rfl))
    (dss_cons (ds_if (dt_cmp rfl (co_ne rfl hr) (de_call (takes_unl tk) ih.c__law_made hr0 rfl T.m__law_made T.F__law_made.kp T.b__law_made (da_cons (de_var 4) (da_cons (de_var 5) da_nil)) rfl) (de_call (takes_unl tk) ih.c__law_due hr0 rfl T.m__law_due T.F__law_due.kp T.b__law_due (da_cons (de_var 4) (da_cons (de_var 5) da_nil)) rfl) (by first | exact nomark _ | rfl))
    (dss_cons (ds_ret de_bl)
    dss_nil)
    dss_nil)
    dss_nil)))))))
    (dss_cons (ds_ret de_bl)
    dss_nil)))
  exact ⟨_, d.p, d.s⟩
theorem all_0 (T : Txt K mg) : All P w base T 0 0 := ⟨fn_0, fn_0, fn_0, fn_0, fn_0, fn_0, fn_0, fn_0⟩
theorem all_n (T : Txt K mg) : ∀ n, All P w base T n (2 * n)
  | 0 => all_0 T
  | n + 1 => have ih := all_n T n
    ⟨ok_check_range T ih, ok_Book___init__ T ih, ok_Ledger___init__ T ih, ok__check_purses T ih, ok__law_rows T ih, ok__law_made T ih, ok__law_due T ih, ok_law T ih⟩
end
/-- what the law promises over its script -/
theorem law_pure (ns : List Int) (h : ns.length ≤ 63) : ∃ st', prog.call 40 f_law [.c .scr (.l (ns.map .int))] [] [] = some (.ok (.d (.bl true)) st') := by
  exact law_pureE (n := 30) ns
theorem all_mk {l : PySem.W.OpenLaw} {w : World} {K : PySem.W.Frag} {h : Heap} {mg : Str → Option Value} {fa f_check_range f_Book___init__ f_Ledger___init__ f__check_purses f__law_rows f__law_made f__law_due f_law f_InvalidPurses f_OutOfBounds f_TooMuchMoney f_TurnpikeError k_Book k_Ledger : Addr} (X : K.In h) (G : h.Ns mainGlobals mg) (hfa : mg "law" = some (.ref fa))
    {od_check_range an_check_range : Option Addr} {sl_check_range : Array (Option Value)} {oc_check_range dc_check_range pm_check_range cd_check_range ct_check_range : Value}
    {kV_check_range : Value}
    {od_Book___init__ an_Book___init__ : Option Addr} {sl_Book___init__ : Array (Option Value)} {oc_Book___init__ dc_Book___init__ pm_Book___init__ cd_Book___init__ ct_Book___init__ : Value}
    {kV_Book___init__ : Value}
    {od_Ledger___init__ an_Ledger___init__ : Option Addr} {sl_Ledger___init__ : Array (Option Value)} {oc_Ledger___init__ dc_Ledger___init__ pm_Ledger___init__ cd_Ledger___init__ ct_Ledger___init__ : Value}
    {kV_Ledger___init__ : Value}
    {od__check_purses an__check_purses : Option Addr} {sl__check_purses : Array (Option Value)} {oc__check_purses dc__check_purses pm__check_purses cd__check_purses ct__check_purses : Value}
    {kV__check_purses : Value}
    {od__law_rows an__law_rows : Option Addr} {sl__law_rows : Array (Option Value)} {oc__law_rows dc__law_rows pm__law_rows cd__law_rows ct__law_rows : Value}
    {kV__law_rows : Value}
    {od__law_made an__law_made : Option Addr} {sl__law_made : Array (Option Value)} {oc__law_made dc__law_made pm__law_made cd__law_made ct__law_made : Value}
    {kV__law_made : Value}
    {od__law_due an__law_due : Option Addr} {sl__law_due : Array (Option Value)} {oc__law_due dc__law_due pm__law_due cd__law_due ct__law_due : Value}
    {kV__law_due : Value}
    {od_law an_law : Option Addr} {sl_law : Array (Option Value)} {oc_law dc_law pm_law cd_law ct_law : Value}
    {kV_law : Value}
    {t_GREATEST_AMOUNT : Tok}
    {t_GREATEST_ROOM : Tok}
    {t_MOST_PURSES : Tok}
    (aC_Book : PySem.W.nsIn K mainGlobals "Book" = some (some (.ref k_Book)))
    (pg_Book : PySem.W.plainGet K k_Book Str.empty = true) (hd_Book : PySem.W.hasDictIn K k_Book = true) (po_Book : PySem.W.plainOver K k_Book = true) (sa_Book : PySem.W.findIn K (.ref k_Book) "__setattr__" = some (some (.builtin "object.__setattr__"))) (mk_Book : PySem.W.makesIn K k_Book = true) (kc_Book : PySem.W.keepIn K (.ref k_Book) = true)
    (n_Book_purses : PySem.W.findIn K (.ref k_Book) "purses" = some none)
    (n_Book_vaults : PySem.W.findIn K (.ref k_Book) "vaults" = some none)
    (n_Book_receipts : PySem.W.findIn K (.ref k_Book) "receipts" = some none)
    (n_Book_ended : PySem.W.findIn K (.ref k_Book) "ended" = some none)
    (n_Book_done : PySem.W.findIn K (.ref k_Book) "done" = some none)
    (n_Book_height : PySem.W.findIn K (.ref k_Book) "height" = some none)
    (n_Book_burnt : PySem.W.findIn K (.ref k_Book) "burnt" = some none)
    (aC_Ledger : PySem.W.nsIn K mainGlobals "Ledger" = some (some (.ref k_Ledger)))
    (pg_Ledger : PySem.W.plainGet K k_Ledger Str.empty = true) (hd_Ledger : PySem.W.hasDictIn K k_Ledger = true) (po_Ledger : PySem.W.plainOver K k_Ledger = true) (sa_Ledger : PySem.W.findIn K (.ref k_Ledger) "__setattr__" = some (some (.builtin "object.__setattr__"))) (mk_Ledger : PySem.W.makesIn K k_Ledger = true) (kc_Ledger : PySem.W.keepIn K (.ref k_Ledger) = true)
    (n_Ledger_book : PySem.W.findIn K (.ref k_Ledger) "book" = some none)
    (n_Ledger_room : PySem.W.findIn K (.ref k_Ledger) "room" = some none)
    (n_Ledger_waiting : PySem.W.findIn K (.ref k_Ledger) "waiting" = some none)
    (g_check_range : PySem.W.nsIn K mainGlobals "check_range" = some (some (.ref f_check_range)))
    (l_check_range : K.lookup f_check_range = some ⟨oc_check_range, od_check_range, .func (PySem.W.fnOf "check_range" "check_range" (defArgs s_check_range) (defBody s_check_range) (defScope s_check_range) .none kV_check_range dc_check_range pm_check_range an_check_range cd_check_range ct_check_range), sl_check_range⟩)
    (c_check_range : PySem.W.codeIn K cd_check_range "check_range" = true) (k_check_range : PySem.W.keepIn K (.ref f_check_range) = true)
    (g_Book___init__ : PySem.W.findIn K (.ref k_Book) "__init__" = some (some (.ref f_Book___init__))) (i_Book___init__ : PySem.W.isFn K (.ref f_Book___init__) = true)
    (l_Book___init__ : K.lookup f_Book___init__ = some ⟨oc_Book___init__, od_Book___init__, .func (PySem.W.fnOf "__init__" "Book.__init__" (defArgs s_Book___init__) (defBody s_Book___init__) (defScope s_Book___init__) .none kV_Book___init__ dc_Book___init__ pm_Book___init__ an_Book___init__ cd_Book___init__ ct_Book___init__), sl_Book___init__⟩)
    (c_Book___init__ : PySem.W.codeIn K cd_Book___init__ "Book.__init__" = true) (k_Book___init__ : PySem.W.keepIn K (.ref f_Book___init__) = true)
    (g_Ledger___init__ : PySem.W.findIn K (.ref k_Ledger) "__init__" = some (some (.ref f_Ledger___init__))) (i_Ledger___init__ : PySem.W.isFn K (.ref f_Ledger___init__) = true)
    (l_Ledger___init__ : K.lookup f_Ledger___init__ = some ⟨oc_Ledger___init__, od_Ledger___init__, .func (PySem.W.fnOf "__init__" "Ledger.__init__" (defArgs s_Ledger___init__) (defBody s_Ledger___init__) (defScope s_Ledger___init__) .none kV_Ledger___init__ dc_Ledger___init__ pm_Ledger___init__ an_Ledger___init__ cd_Ledger___init__ ct_Ledger___init__), sl_Ledger___init__⟩)
    (c_Ledger___init__ : PySem.W.codeIn K cd_Ledger___init__ "Ledger.__init__" = true) (k_Ledger___init__ : PySem.W.keepIn K (.ref f_Ledger___init__) = true)
    (g__check_purses : PySem.W.nsIn K mainGlobals "_check_purses" = some (some (.ref f__check_purses)))
    (l__check_purses : K.lookup f__check_purses = some ⟨oc__check_purses, od__check_purses, .func (PySem.W.fnOf "_check_purses" "_check_purses" (defArgs s__check_purses) (defBody s__check_purses) (defScope s__check_purses) .none kV__check_purses dc__check_purses pm__check_purses an__check_purses cd__check_purses ct__check_purses), sl__check_purses⟩)
    (c__check_purses : PySem.W.codeIn K cd__check_purses "_check_purses" = true) (k__check_purses : PySem.W.keepIn K (.ref f__check_purses) = true)
    (g__law_rows : PySem.W.nsIn K mainGlobals "_law_rows" = some (some (.ref f__law_rows)))
    (l__law_rows : K.lookup f__law_rows = some ⟨oc__law_rows, od__law_rows, .func (PySem.W.fnOf "_law_rows" "_law_rows" (defArgs s__law_rows) (defBody s__law_rows) (defScope s__law_rows) .none kV__law_rows dc__law_rows pm__law_rows an__law_rows cd__law_rows ct__law_rows), sl__law_rows⟩)
    (c__law_rows : PySem.W.codeIn K cd__law_rows "_law_rows" = true) (k__law_rows : PySem.W.keepIn K (.ref f__law_rows) = true)
    (g__law_made : PySem.W.nsIn K mainGlobals "_law_made" = some (some (.ref f__law_made)))
    (l__law_made : K.lookup f__law_made = some ⟨oc__law_made, od__law_made, .func (PySem.W.fnOf "_law_made" "_law_made" (defArgs s__law_made) (defBody s__law_made) (defScope s__law_made) .none kV__law_made dc__law_made pm__law_made an__law_made cd__law_made ct__law_made), sl__law_made⟩)
    (c__law_made : PySem.W.codeIn K cd__law_made "_law_made" = true) (k__law_made : PySem.W.keepIn K (.ref f__law_made) = true)
    (g__law_due : PySem.W.nsIn K mainGlobals "_law_due" = some (some (.ref f__law_due)))
    (l__law_due : K.lookup f__law_due = some ⟨oc__law_due, od__law_due, .func (PySem.W.fnOf "_law_due" "_law_due" (defArgs s__law_due) (defBody s__law_due) (defScope s__law_due) .none kV__law_due dc__law_due pm__law_due an__law_due cd__law_due ct__law_due), sl__law_due⟩)
    (c__law_due : PySem.W.codeIn K cd__law_due "_law_due" = true) (k__law_due : PySem.W.keepIn K (.ref f__law_due) = true)
    (g_law : PySem.W.nsIn K mainGlobals "law" = some (some (.ref f_law)))
    (l_law : K.lookup f_law = some ⟨oc_law, od_law, .func (PySem.W.fnOf "law" "law" (defArgs s_law) (defBody s_law) (defScope s_law) .none kV_law dc_law pm_law an_law cd_law ct_law), sl_law⟩)
    (c_law : PySem.W.codeIn K cd_law "law" = true) (k_law : PySem.W.keepIn K (.ref f_law) = true)
    (v_GREATEST_AMOUNT : PySem.W.nsIn K mainGlobals "GREATEST_AMOUNT" = some (some (.int 1000000000000000 t_GREATEST_AMOUNT)))
    (v_GREATEST_ROOM : PySem.W.nsIn K mainGlobals "GREATEST_ROOM" = some (some (.int 200 t_GREATEST_ROOM)))
    (v_MOST_PURSES : PySem.W.nsIn K mainGlobals "MOST_PURSES" = some (some (.int 50 t_MOST_PURSES)))
    (z_dict : PySem.W.nsIn K mainGlobals "dict" = some none)
    (z_int : PySem.W.nsIn K mainGlobals "int" = some none)
    (z_len : PySem.W.nsIn K mainGlobals "len" = some none)
    (z_range : PySem.W.nsIn K mainGlobals "range" = some none)
    (z_sum : PySem.W.nsIn K mainGlobals "sum" = some none)
    (xn : PySem.W.specialIn K (.builtin "object.__class__") "__get__" = some (some (.builtin "getset_descriptor.__get__"))) (xtk : PySem.W.takesIn K (.builtin "object.__class__") = some true)
    (g_InvalidPurses : PySem.W.nsIn K mainGlobals "InvalidPurses" = some (some (.ref f_InvalidPurses)))
    (xx_InvalidPurses : PySem.W.excIn K f_InvalidPurses [.type "ValueError", .type "Exception", .type "BaseException", .type "object"] "ValueError.__new__" = true)
    (xk_InvalidPurses : PySem.W.keepIn K (.ref f_InvalidPurses) = true)
    (xg_InvalidPurses : PySem.W.findIn K (.ref f_InvalidPurses) "__getattribute__" = some (some (.builtin "BaseException.__getattribute__")))
    (xh_InvalidPurses : PySem.W.findIn K (.ref f_InvalidPurses) "__getattr__" = some none)
    (xs_InvalidPurses : PySem.W.subIn K (.ref f_InvalidPurses) (.type "BaseException") = some true)
    (xd_InvalidPurses : PySem.W.hasDictIn K f_InvalidPurses = true)
    (xa_InvalidPurses : PySem.W.findIn K (.ref f_InvalidPurses) "__class__" = some (some (.builtin "object.__class__")))
    (xm_InvalidPurses : PySem.W.mroIn K f_InvalidPurses (.type "object") = some true)
    (xt_InvalidPurses : PySem.W.typeIn K (.ref f_InvalidPurses) = some (.type "type"))
    (xi_InvalidPurses : PySem.W.isClsIn K f_InvalidPurses = true)
    (xu_InvalidPurses : PySem.W.subIn K (.ref f_InvalidPurses) (.ref f_InvalidPurses) = some true)
    (g_OutOfBounds : PySem.W.nsIn K mainGlobals "OutOfBounds" = some (some (.ref f_OutOfBounds)))
    (xx_OutOfBounds : PySem.W.excIn K f_OutOfBounds [.type "ValueError", .type "Exception", .type "BaseException", .type "object"] "ValueError.__new__" = true)
    (xk_OutOfBounds : PySem.W.keepIn K (.ref f_OutOfBounds) = true)
    (xg_OutOfBounds : PySem.W.findIn K (.ref f_OutOfBounds) "__getattribute__" = some (some (.builtin "BaseException.__getattribute__")))
    (xh_OutOfBounds : PySem.W.findIn K (.ref f_OutOfBounds) "__getattr__" = some none)
    (xs_OutOfBounds : PySem.W.subIn K (.ref f_OutOfBounds) (.type "BaseException") = some true)
    (xd_OutOfBounds : PySem.W.hasDictIn K f_OutOfBounds = true)
    (xa_OutOfBounds : PySem.W.findIn K (.ref f_OutOfBounds) "__class__" = some (some (.builtin "object.__class__")))
    (xm_OutOfBounds : PySem.W.mroIn K f_OutOfBounds (.type "object") = some true)
    (xt_OutOfBounds : PySem.W.typeIn K (.ref f_OutOfBounds) = some (.type "type"))
    (xi_OutOfBounds : PySem.W.isClsIn K f_OutOfBounds = true)
    (xu_OutOfBounds : PySem.W.subIn K (.ref f_OutOfBounds) (.ref f_OutOfBounds) = some true)
    (g_TooMuchMoney : PySem.W.nsIn K mainGlobals "TooMuchMoney" = some (some (.ref f_TooMuchMoney)))
    (xx_TooMuchMoney : PySem.W.excIn K f_TooMuchMoney [.type "ValueError", .type "Exception", .type "BaseException", .type "object"] "ValueError.__new__" = true)
    (xk_TooMuchMoney : PySem.W.keepIn K (.ref f_TooMuchMoney) = true)
    (xg_TooMuchMoney : PySem.W.findIn K (.ref f_TooMuchMoney) "__getattribute__" = some (some (.builtin "BaseException.__getattribute__")))
    (xh_TooMuchMoney : PySem.W.findIn K (.ref f_TooMuchMoney) "__getattr__" = some none)
    (xs_TooMuchMoney : PySem.W.subIn K (.ref f_TooMuchMoney) (.type "BaseException") = some true)
    (xd_TooMuchMoney : PySem.W.hasDictIn K f_TooMuchMoney = true)
    (xa_TooMuchMoney : PySem.W.findIn K (.ref f_TooMuchMoney) "__class__" = some (some (.builtin "object.__class__")))
    (xm_TooMuchMoney : PySem.W.mroIn K f_TooMuchMoney (.type "object") = some true)
    (xt_TooMuchMoney : PySem.W.typeIn K (.ref f_TooMuchMoney) = some (.type "type"))
    (xi_TooMuchMoney : PySem.W.isClsIn K f_TooMuchMoney = true)
    (xu_TooMuchMoney : PySem.W.subIn K (.ref f_TooMuchMoney) (.ref f_TooMuchMoney) = some true)
    (g_TurnpikeError : PySem.W.nsIn K mainGlobals "TurnpikeError" = some (some (.ref f_TurnpikeError)))
    (xx_TurnpikeError : PySem.W.excIn K f_TurnpikeError [.type "ValueError", .type "Exception", .type "BaseException", .type "object"] "ValueError.__new__" = true)
    (xk_TurnpikeError : PySem.W.keepIn K (.ref f_TurnpikeError) = true)
    (xg_TurnpikeError : PySem.W.findIn K (.ref f_TurnpikeError) "__getattribute__" = some (some (.builtin "BaseException.__getattribute__")))
    (xh_TurnpikeError : PySem.W.findIn K (.ref f_TurnpikeError) "__getattr__" = some none)
    (xs_TurnpikeError : PySem.W.subIn K (.ref f_TurnpikeError) (.type "BaseException") = some true)
    (xd_TurnpikeError : PySem.W.hasDictIn K f_TurnpikeError = true)
    (xa_TurnpikeError : PySem.W.findIn K (.ref f_TurnpikeError) "__class__" = some (some (.builtin "object.__class__")))
    (xm_TurnpikeError : PySem.W.mroIn K f_TurnpikeError (.type "object") = some true)
    (xt_TurnpikeError : PySem.W.typeIn K (.ref f_TurnpikeError) = some (.type "type"))
    (xi_TurnpikeError : PySem.W.isClsIn K f_TurnpikeError = true)
    (xu_TurnpikeError : PySem.W.subIn K (.ref f_TurnpikeError) (.ref f_TurnpikeError) = some true)
    (xp_InvalidPurses_OutOfBounds : PySem.W.subIn K (.ref f_InvalidPurses) (.ref f_OutOfBounds) = some false)
    (xp_InvalidPurses_TooMuchMoney : PySem.W.subIn K (.ref f_InvalidPurses) (.ref f_TooMuchMoney) = some false)
    (xp_InvalidPurses_TurnpikeError : PySem.W.subIn K (.ref f_InvalidPurses) (.ref f_TurnpikeError) = some true)
    (xp_OutOfBounds_InvalidPurses : PySem.W.subIn K (.ref f_OutOfBounds) (.ref f_InvalidPurses) = some false)
    (xp_OutOfBounds_TooMuchMoney : PySem.W.subIn K (.ref f_OutOfBounds) (.ref f_TooMuchMoney) = some false)
    (xp_OutOfBounds_TurnpikeError : PySem.W.subIn K (.ref f_OutOfBounds) (.ref f_TurnpikeError) = some true)
    (xp_TooMuchMoney_InvalidPurses : PySem.W.subIn K (.ref f_TooMuchMoney) (.ref f_InvalidPurses) = some false)
    (xp_TooMuchMoney_OutOfBounds : PySem.W.subIn K (.ref f_TooMuchMoney) (.ref f_OutOfBounds) = some false)
    (xp_TooMuchMoney_TurnpikeError : PySem.W.subIn K (.ref f_TooMuchMoney) (.ref f_TurnpikeError) = some true)
    (xp_TurnpikeError_InvalidPurses : PySem.W.subIn K (.ref f_TurnpikeError) (.ref f_InvalidPurses) = some false)
    (xp_TurnpikeError_OutOfBounds : PySem.W.subIn K (.ref f_TurnpikeError) (.ref f_OutOfBounds) = some false)
    (xp_TurnpikeError_TooMuchMoney : PySem.W.subIn K (.ref f_TurnpikeError) (.ref f_TooMuchMoney) = some false)
    : ∃ fd : FuncData, (∀ (s : Shared) (v : Value), BindsTo s fd ⟨[v], []⟩ [("script", v)]) ∧ ∀ base : Heap, K.In base → base.Ns mainGlobals mg → FnOk l.prog w K mg base (L2.CX l.prog w) 80 fa fd ["script"] (spL K) := by
  have e := hfa.symm.trans (PySem.W.mg_of X G g_law)
  cases e
  have F_check_range := fun_mk (st := s_check_range) l_check_range c_check_range k_check_range
  have b_check_range := F_check_range.binds (ps := ["name", "number", "least", "greatest"]) fun _ _ _ _ _ _ us hl => match us, hl with | [_, _, _, _], _ => rfl
  have F_Book___init__ := fun_mk (st := s_Book___init__) l_Book___init__ c_Book___init__ k_Book___init__
  have b_Book___init__ := F_Book___init__.binds (ps := ["self", "purses"]) fun _ _ _ _ _ _ us hl => match us, hl with | [_, _], _ => rfl
  have F_Ledger___init__ := fun_mk (st := s_Ledger___init__) l_Ledger___init__ c_Ledger___init__ k_Ledger___init__
  have kb_Ledger___init__ := Tv.fun_kbn F_Ledger___init__ (ps := ["self", "purses", "room"]) 2 ["room"] fun _ _ _ _ _ _ us ws h1 h2 => match us, h1, ws, h2 with | [_, _], _, [_], _ => rfl
  have F__check_purses := fun_mk (st := s__check_purses) l__check_purses c__check_purses k__check_purses
  have b__check_purses := F__check_purses.binds (ps := ["purses"]) fun _ _ _ _ _ _ us hl => match us, hl with | [_], _ => rfl
  have F__law_rows := fun_mk (st := s__law_rows) l__law_rows c__law_rows k__law_rows
  have b__law_rows := F__law_rows.binds (ps := ["script", "count"]) fun _ _ _ _ _ _ us hl => match us, hl with | [_, _], _ => rfl
  have F__law_made := fun_mk (st := s__law_made) l__law_made c__law_made k__law_made
  have b__law_made := F__law_made.binds (ps := ["purses", "room"]) fun _ _ _ _ _ _ us hl => match us, hl with | [_, _], _ => rfl
  have F__law_due := fun_mk (st := s__law_due) l__law_due c__law_due k__law_due
  have b__law_due := F__law_due.binds (ps := ["purses", "room"]) fun _ _ _ _ _ _ us hl => match us, hl with | [_, _], _ => rfl
  have F_law := fun_mk (st := s_law) l_law c_law k_law
  have b_law := F_law.binds (ps := ["script"]) fun _ _ _ _ _ _ us hl => match us, hl with | [_], _ => rfl
  let T : Txt K mg := {
    a_Book := _, cl_Book := ⟨pg_Book, hd_Book, po_Book, sa_Book⟩, m_Book := PySem.W.mg_of X G aC_Book,
    n_Book_purses := n_Book_purses,
    n_Book_vaults := n_Book_vaults,
    n_Book_receipts := n_Book_receipts,
    n_Book_ended := n_Book_ended,
    n_Book_done := n_Book_done,
    n_Book_height := n_Book_height,
    n_Book_burnt := n_Book_burnt,
    a_Ledger := _, cl_Ledger := ⟨pg_Ledger, hd_Ledger, po_Ledger, sa_Ledger⟩, m_Ledger := PySem.W.mg_of X G aC_Ledger,
    n_Ledger_book := n_Ledger_book,
    n_Ledger_room := n_Ledger_room,
    n_Ledger_waiting := n_Ledger_waiting,
    a_check_range := _, fd_check_range := _, F_check_range := F_check_range, b_check_range := b_check_range,
    m_check_range := PySem.W.mg_of X G g_check_range,
    a_Book___init__ := _, fd_Book___init__ := _, F_Book___init__ := F_Book___init__, b_Book___init__ := b_Book___init__,
    mk_Book := ⟨mk_Book, g_Book___init__, i_Book___init__, kc_Book⟩,
    a_Ledger___init__ := _, fd_Ledger___init__ := _, F_Ledger___init__ := F_Ledger___init__,
    mk_Ledger := ⟨mk_Ledger, g_Ledger___init__, i_Ledger___init__, kc_Ledger⟩,
    kb_Ledger___init__ := kb_Ledger___init__,
    a__check_purses := _, fd__check_purses := _, F__check_purses := F__check_purses, b__check_purses := b__check_purses,
    m__check_purses := PySem.W.mg_of X G g__check_purses,
    a__law_rows := _, fd__law_rows := _, F__law_rows := F__law_rows, b__law_rows := b__law_rows,
    m__law_rows := PySem.W.mg_of X G g__law_rows,
    a__law_made := _, fd__law_made := _, F__law_made := F__law_made, b__law_made := b__law_made,
    m__law_made := PySem.W.mg_of X G g__law_made,
    a__law_due := _, fd__law_due := _, F__law_due := F__law_due, b__law_due := b__law_due,
    m__law_due := PySem.W.mg_of X G g__law_due,
    a_law := _, fd_law := _, F_law := F_law, b_law := b_law,
    m_law := PySem.W.mg_of X G g_law,
    t_GREATEST_AMOUNT := _, m_GREATEST_AMOUNT := PySem.W.mg_of X G v_GREATEST_AMOUNT,
    t_GREATEST_ROOM := _, m_GREATEST_ROOM := PySem.W.mg_of X G v_GREATEST_ROOM,
    t_MOST_PURSES := _, m_MOST_PURSES := PySem.W.mg_of X G v_MOST_PURSES,
    m_dict := PySem.W.mg_none_of X G z_dict,
    m_int := PySem.W.mg_none_of X G z_int,
    m_len := PySem.W.mg_none_of X G z_len,
    m_range := PySem.W.mg_none_of X G z_range,
    m_sum := PySem.W.mg_none_of X G z_sum,
    a_InvalidPurses := _, m_InvalidPurses := PySem.W.mg_of X G g_InvalidPurses, e_InvalidPurses := ⟨xx_InvalidPurses, xk_InvalidPurses, ⟨xg_InvalidPurses, xh_InvalidPurses, xs_InvalidPurses, xd_InvalidPurses, xa_InvalidPurses, xn, xtk, xm_InvalidPurses⟩, xt_InvalidPurses, xi_InvalidPurses, xu_InvalidPurses⟩,
    a_OutOfBounds := _, m_OutOfBounds := PySem.W.mg_of X G g_OutOfBounds, e_OutOfBounds := ⟨xx_OutOfBounds, xk_OutOfBounds, ⟨xg_OutOfBounds, xh_OutOfBounds, xs_OutOfBounds, xd_OutOfBounds, xa_OutOfBounds, xn, xtk, xm_OutOfBounds⟩, xt_OutOfBounds, xi_OutOfBounds, xu_OutOfBounds⟩,
    a_TooMuchMoney := _, m_TooMuchMoney := PySem.W.mg_of X G g_TooMuchMoney, e_TooMuchMoney := ⟨xx_TooMuchMoney, xk_TooMuchMoney, ⟨xg_TooMuchMoney, xh_TooMuchMoney, xs_TooMuchMoney, xd_TooMuchMoney, xa_TooMuchMoney, xn, xtk, xm_TooMuchMoney⟩, xt_TooMuchMoney, xi_TooMuchMoney, xu_TooMuchMoney⟩,
    a_TurnpikeError := _, m_TurnpikeError := PySem.W.mg_of X G g_TurnpikeError, e_TurnpikeError := ⟨xx_TurnpikeError, xk_TurnpikeError, ⟨xg_TurnpikeError, xh_TurnpikeError, xs_TurnpikeError, xd_TurnpikeError, xa_TurnpikeError, xn, xtk, xm_TurnpikeError⟩, xt_TurnpikeError, xi_TurnpikeError, xu_TurnpikeError⟩,
    u_InvalidPurses_OutOfBounds := xp_InvalidPurses_OutOfBounds,
    u_InvalidPurses_TooMuchMoney := xp_InvalidPurses_TooMuchMoney,
    u_InvalidPurses_TurnpikeError := xp_InvalidPurses_TurnpikeError,
    u_OutOfBounds_InvalidPurses := xp_OutOfBounds_InvalidPurses,
    u_OutOfBounds_TooMuchMoney := xp_OutOfBounds_TooMuchMoney,
    u_OutOfBounds_TurnpikeError := xp_OutOfBounds_TurnpikeError,
    u_TooMuchMoney_InvalidPurses := xp_TooMuchMoney_InvalidPurses,
    u_TooMuchMoney_OutOfBounds := xp_TooMuchMoney_OutOfBounds,
    u_TooMuchMoney_TurnpikeError := xp_TooMuchMoney_TurnpikeError,
    u_TurnpikeError_InvalidPurses := xp_TurnpikeError_InvalidPurses,
    u_TurnpikeError_OutOfBounds := xp_TurnpikeError_OutOfBounds,
    u_TurnpikeError_TooMuchMoney := xp_TurnpikeError_TooMuchMoney,
  }
  exact ⟨PySem.W.fnOf "law" "law" (defArgs s_law) (defBody s_law) (defScope s_law) .none kV_law dc_law pm_law an_law cd_law ct_law, fun s v => .of_eq rfl, fun base _ _ => to_spL rfl rfl (all_n T 40).c_law law_pure⟩

theorem sp_of {K : PySem.W.Frag} {H : Hp} {a : Addr} {ns : List Int} (hl : ns.length ≤ 63) (hS : SqL K H a (ns.map V.int)) : spL K [.ref a] H (fun v _ => v = .bl true) (fun _ _ _ => False) :=
  ⟨a, ns, rfl, hl, hS, fun _ => rfl⟩
theorem walk {l : PySem.W.OpenLaw} {q : Program} {loose : List Str} {XP : (Str → Option Value) → Heap → Prop} {YP : World → Heap → Prop} {d : DefRec} {K : Params → PySem.W.Frag} (hn : l.most = some 63) (hdf : d.params.defaults = [])
    (hY : ∀ (w : World) (h : Heap), YP w h → (K w.params).In h)
    (F : ∀ (w : World) (mg : Str → Option Value) (fa : Addr) (h : Heap), (K w.params).In h → h.Ns mainGlobals mg → mg d.name = some (.ref fa) →
      ∃ fd : FuncData, (∀ (s : Shared) (u : Value), BindsTo s fd ⟨[u], []⟩ [("script", u)]) ∧ ∀ base : Heap, (K w.params).In base → base.Ns mainGlobals mg → FnOk l.prog w (K w.params) mg base (L2.CX l.prog w) 80 fa fd ["script"] (spL (K w.params))) :
    PySem.W.WalkO q loose XP YP l.row.toRowW d [] (fun f vs => PySem.call f vs) :=
  L2.walk_of (n := 63) (k := 80) (x := "script") (CX := fun w => L2.CX l.prog w) (sp := fun w => spL (K w.params)) hn (by decide) hdf ⟨rfl, by decide, by decide⟩ hY F (fun _ _ _ _ hl _ hS => sp_of hl hS) fun _ _ _ _ _ z => cx_false z
end Tw
open PySem PySem.W PyProof.Rows
set_option maxRecDepth 100000 in
set_option maxHeartbeats 0 in
theorem PySem.Challenge.cw_turnpike_k39_new_ledgers_are_refused_holds : PySem.Challenge.rw_turnpike_k39_new_ledgers_are_refused.Holds := by
  w_on; o_law; k_head; (case hw => w_witness2)
  k_fill
  refine Tw.walk (l := PySem.Challenge.rw_turnpike_k39_new_ledgers_are_refused) rfl rfl (fun w h Y => PySem.W.kIn_of Y) ?F
  case F =>
    intro w mg fa h KX G hmg
    refine' Tw.all_mk KX G hmg ?aC_Book ?pg_Book ?hd_Book ?po_Book ?sa_Book ?mk_Book ?kc_Book ?n_Book_purses ?n_Book_vaults ?n_Book_receipts ?n_Book_ended ?n_Book_done ?n_Book_height ?n_Book_burnt ?aC_Ledger ?pg_Ledger ?hd_Ledger ?po_Ledger ?sa_Ledger ?mk_Ledger ?kc_Ledger ?n_Ledger_book ?n_Ledger_room ?n_Ledger_waiting ?g_check_range ?l_check_range ?c_check_range ?k_check_range ?g_Book___init__ ?i_Book___init__ ?l_Book___init__ ?c_Book___init__ ?k_Book___init__ ?g_Ledger___init__ ?i_Ledger___init__ ?l_Ledger___init__ ?c_Ledger___init__ ?k_Ledger___init__ ?g__check_purses ?l__check_purses ?c__check_purses ?k__check_purses ?g__law_rows ?l__law_rows ?c__law_rows ?k__law_rows ?g__law_made ?l__law_made ?c__law_made ?k__law_made ?g__law_due ?l__law_due ?c__law_due ?k__law_due ?g_law ?l_law ?c_law ?k_law ?v_GREATEST_AMOUNT ?v_GREATEST_ROOM ?v_MOST_PURSES ?z_dict ?z_int ?z_len ?z_range ?z_sum ?xn ?xtk ?g_InvalidPurses ?xx_InvalidPurses ?xk_InvalidPurses ?xg_InvalidPurses ?xh_InvalidPurses ?xs_InvalidPurses ?xd_InvalidPurses ?xa_InvalidPurses ?xm_InvalidPurses ?xt_InvalidPurses ?xi_InvalidPurses ?xu_InvalidPurses ?g_OutOfBounds ?xx_OutOfBounds ?xk_OutOfBounds ?xg_OutOfBounds ?xh_OutOfBounds ?xs_OutOfBounds ?xd_OutOfBounds ?xa_OutOfBounds ?xm_OutOfBounds ?xt_OutOfBounds ?xi_OutOfBounds ?xu_OutOfBounds ?g_TooMuchMoney ?xx_TooMuchMoney ?xk_TooMuchMoney ?xg_TooMuchMoney ?xh_TooMuchMoney ?xs_TooMuchMoney ?xd_TooMuchMoney ?xa_TooMuchMoney ?xm_TooMuchMoney ?xt_TooMuchMoney ?xi_TooMuchMoney ?xu_TooMuchMoney ?g_TurnpikeError ?xx_TurnpikeError ?xk_TurnpikeError ?xg_TurnpikeError ?xh_TurnpikeError ?xs_TurnpikeError ?xd_TurnpikeError ?xa_TurnpikeError ?xm_TurnpikeError ?xt_TurnpikeError ?xi_TurnpikeError ?xu_TurnpikeError ?xp_InvalidPurses_OutOfBounds ?xp_InvalidPurses_TooMuchMoney ?xp_InvalidPurses_TurnpikeError ?xp_OutOfBounds_InvalidPurses ?xp_OutOfBounds_TooMuchMoney ?xp_OutOfBounds_TurnpikeError ?xp_TooMuchMoney_InvalidPurses ?xp_TooMuchMoney_OutOfBounds ?xp_TooMuchMoney_TurnpikeError ?xp_TurnpikeError_InvalidPurses ?xp_TurnpikeError_OutOfBounds ?xp_TurnpikeError_TooMuchMoney
    (case aC_Book => k_is)
    (case pg_Book => k_is)
    (case hd_Book => k_is)
    (case po_Book => k_is)
    (case sa_Book => k_is)
    (case mk_Book => k_is)
    (case kc_Book => k_is)
    (case n_Book_purses => k_is)
    (case n_Book_vaults => k_is)
    (case n_Book_receipts => k_is)
    (case n_Book_ended => k_is)
    (case n_Book_done => k_is)
    (case n_Book_height => k_is)
    (case n_Book_burnt => k_is)
    (case aC_Ledger => k_is)
    (case pg_Ledger => k_is)
    (case hd_Ledger => k_is)
    (case po_Ledger => k_is)
    (case sa_Ledger => k_is)
    (case mk_Ledger => k_is)
    (case kc_Ledger => k_is)
    (case n_Ledger_book => k_is)
    (case n_Ledger_room => k_is)
    (case n_Ledger_waiting => k_is)
    (case g_check_range => k_is)
    (case l_check_range => k_is)
    (case c_check_range => k_is)
    (case k_check_range => k_is)
    (case g_Book___init__ => k_is)
    (case i_Book___init__ => k_is)
    (case l_Book___init__ => k_is)
    (case c_Book___init__ => k_is)
    (case k_Book___init__ => k_is)
    (case g_Ledger___init__ => k_is)
    (case i_Ledger___init__ => k_is)
    (case l_Ledger___init__ => k_is)
    (case c_Ledger___init__ => k_is)
    (case k_Ledger___init__ => k_is)
    (case g__check_purses => k_is)
    (case l__check_purses => k_is)
    (case c__check_purses => k_is)
    (case k__check_purses => k_is)
    (case g__law_rows => k_is)
    (case l__law_rows => k_is)
    (case c__law_rows => k_is)
    (case k__law_rows => k_is)
    (case g__law_made => k_is)
    (case l__law_made => k_is)
    (case c__law_made => k_is)
    (case k__law_made => k_is)
    (case g__law_due => k_is)
    (case l__law_due => k_is)
    (case c__law_due => k_is)
    (case k__law_due => k_is)
    (case g_law => k_is)
    (case l_law => k_is)
    (case c_law => k_is)
    (case k_law => k_is)
    (case v_GREATEST_AMOUNT => k_is)
    (case v_GREATEST_ROOM => k_is)
    (case v_MOST_PURSES => k_is)
    (case z_dict => k_is)
    (case z_int => k_is)
    (case z_len => k_is)
    (case z_range => k_is)
    (case z_sum => k_is)
    (case xn => k_is)
    (case xtk => k_is)
    (case g_InvalidPurses => k_is)
    (case xx_InvalidPurses => k_exc)
    (case xk_InvalidPurses => k_is)
    (case xg_InvalidPurses => k_is)
    (case xh_InvalidPurses => k_is)
    (case xs_InvalidPurses => k_is)
    (case xd_InvalidPurses => k_is)
    (case xa_InvalidPurses => k_is)
    (case xm_InvalidPurses => k_is)
    (case xt_InvalidPurses => k_is)
    (case xi_InvalidPurses => k_is)
    (case xu_InvalidPurses => first | rfl | k_is)
    (case g_OutOfBounds => k_is)
    (case xx_OutOfBounds => k_exc)
    (case xk_OutOfBounds => k_is)
    (case xg_OutOfBounds => k_is)
    (case xh_OutOfBounds => k_is)
    (case xs_OutOfBounds => k_is)
    (case xd_OutOfBounds => k_is)
    (case xa_OutOfBounds => k_is)
    (case xm_OutOfBounds => k_is)
    (case xt_OutOfBounds => k_is)
    (case xi_OutOfBounds => k_is)
    (case xu_OutOfBounds => first | rfl | k_is)
    (case g_TooMuchMoney => k_is)
    (case xx_TooMuchMoney => k_exc)
    (case xk_TooMuchMoney => k_is)
    (case xg_TooMuchMoney => k_is)
    (case xh_TooMuchMoney => k_is)
    (case xs_TooMuchMoney => k_is)
    (case xd_TooMuchMoney => k_is)
    (case xa_TooMuchMoney => k_is)
    (case xm_TooMuchMoney => k_is)
    (case xt_TooMuchMoney => k_is)
    (case xi_TooMuchMoney => k_is)
    (case xu_TooMuchMoney => first | rfl | k_is)
    (case g_TurnpikeError => k_is)
    (case xx_TurnpikeError => k_exc)
    (case xk_TurnpikeError => k_is)
    (case xg_TurnpikeError => k_is)
    (case xh_TurnpikeError => k_is)
    (case xs_TurnpikeError => k_is)
    (case xd_TurnpikeError => k_is)
    (case xa_TurnpikeError => k_is)
    (case xm_TurnpikeError => k_is)
    (case xt_TurnpikeError => k_is)
    (case xi_TurnpikeError => k_is)
    (case xu_TurnpikeError => first | rfl | k_is)
    (case xp_InvalidPurses_OutOfBounds => k_is)
    (case xp_InvalidPurses_TooMuchMoney => k_is)
    (case xp_InvalidPurses_TurnpikeError => k_is)
    (case xp_OutOfBounds_InvalidPurses => k_is)
    (case xp_OutOfBounds_TooMuchMoney => k_is)
    (case xp_OutOfBounds_TurnpikeError => k_is)
    (case xp_TooMuchMoney_InvalidPurses => k_is)
    (case xp_TooMuchMoney_OutOfBounds => k_is)
    (case xp_TooMuchMoney_TurnpikeError => k_is)
    (case xp_TurnpikeError_InvalidPurses => k_is)
    (case xp_TurnpikeError_OutOfBounds => k_is)
    (case xp_TurnpikeError_TooMuchMoney => k_is)
