import PyProof.Rows.All
import Wide.All
import OpenK.AllK
import Wide.FinOn
import HandS.ForMost
import HandS.Wide
import HandS.TupAny
import HandS.Exc
import HandS.ExcOwn
import HandS.WordsExc
import HandS.TryOnly
import HandS.CallSlots
import HandS.RaiseMore
import HandS.ExcIs
import HandS.IsInst
import HandS.Style
import HandS.DictComp
import HandS.Deep
import HandS.Text
import HandS.Rev
import HandS.More
import HandS.Codes
import HandS.Flow
import HandS.FStr
import HandS.Zip
import HandS.SetBool
import HandS.TupSets
import HandS.Defaults
import HandS.Property
import HandS.MakeKwOnly
import HandS.Dict
import HandS.Iter
import KE.KDictList
import HandS.TryMany
import HandS.Strs
import HandS.CallLocal
import HandS.Small
import HandS.ListItems
import HandS.Sort
import PyProof.SumAny
import KE.KItemsList
import HandS.HotCalls
import HandS.StrMore
import PySem.Challenge.RW_turnpike_k70_trees_written_and_read
set_option Elab.async false
set_option linter.all false
set_option maxRecDepth 100000
set_option maxHeartbeats 4000000
namespace Tv
open PySem L2
/-- flat values: what never changes, and ids of instances and containers -/
inductive D where
  | non | bl (b : Bool) | int (i : Int) | str (x : Str) | tup (xs : List D) | ref (i : Nat) | fn (f : Nat)
instance : Inhabited D := ⟨.non⟩
mutual
def D.dec : (a b : D) → Decidable (a = b)
  | .non, .non => .isTrue rfl
  | .bl a, .bl b => if h : a = b then .isTrue (by rw [h]) else .isFalse (by intro z; cases z; exact h rfl)
  | .int a, .int b => if h : a = b then .isTrue (by rw [h]) else .isFalse (by intro z; cases z; exact h rfl)
  | .str a, .str b => if h : a = b then .isTrue (by rw [h]) else .isFalse (by intro z; cases z; exact h rfl)
  | .ref a, .ref b => if h : a = b then .isTrue (by rw [h]) else .isFalse (by intro z; cases z; exact h rfl)
  | .fn a, .fn b => if h : a = b then .isTrue (by rw [h]) else .isFalse (by intro z; cases z; exact h rfl)
  | .tup a, .tup b => match D.decs a b with
    | .isTrue h => .isTrue (by rw [h])
    | .isFalse h => .isFalse (by intro z; cases z; exact h rfl)
  | .non, .bl _ | .non, .int _ | .non, .str _ | .non, .tup _ | .non, .ref _ | .non, .fn _ => .isFalse (by intro z; cases z)
  | .bl _, .non | .bl _, .int _ | .bl _, .str _ | .bl _, .tup _ | .bl _, .ref _ | .bl _, .fn _ => .isFalse (by intro z; cases z)
  | .int _, .non | .int _, .bl _ | .int _, .str _ | .int _, .tup _ | .int _, .ref _ | .int _, .fn _ => .isFalse (by intro z; cases z)
  | .str _, .non | .str _, .bl _ | .str _, .int _ | .str _, .tup _ | .str _, .ref _ | .str _, .fn _ => .isFalse (by intro z; cases z)
  | .tup _, .non | .tup _, .bl _ | .tup _, .int _ | .tup _, .str _ | .tup _, .ref _ | .tup _, .fn _ => .isFalse (by intro z; cases z)
  | .ref _, .non | .ref _, .bl _ | .ref _, .int _ | .ref _, .str _ | .ref _, .tup _ | .ref _, .fn _ => .isFalse (by intro z; cases z)
  | .fn _, .non | .fn _, .bl _ | .fn _, .int _ | .fn _, .str _ | .fn _, .tup _ | .fn _, .ref _ => .isFalse (by intro z; cases z)
def D.decs : (a b : List D) → Decidable (a = b)
  | [], [] => .isTrue rfl
  | x :: xs, y :: ys => match D.dec x y, D.decs xs ys with
    | .isTrue h, .isTrue k => .isTrue (by rw [h, k])
    | .isFalse h, _ => .isFalse (by intro z; cases z; exact h rfl)
    | _, .isFalse h => .isFalse (by intro z; cases z; exact h rfl)
  | [], _ :: _ => .isFalse (by intro z; cases z)
  | _ :: _, [] => .isFalse (by intro z; cases z)
end
instance : DecidableEq D := D.dec
/-- what a container holds: a list, a dict, a dict by tuples -/
inductive Cn where
  | l (xs : List D) | m (kvs : List (Key × D)) | t (kvs : List (List Key × D))
  deriving DecidableEq
/-- a field: a value, or a container of its own (z: it is seen from elsewhere, too, and stays as it is) -/
inductive FV where
  | d (x : D) | c (z : Bool) (x : Cn)
  deriving DecidableEq
inductive Cell where
  | ins (C : Nat) (fs : List (Str × FV)) | con (x : Cn)
  deriving DecidableEq
/-- who holds a container: a place of its own, a field, a name -/
inductive Ow where
  | c (k : Nat) | f (i : Nat) (n : Str) | s (j : Nat)
  deriving DecidableEq
/-- the store -/
abbrev Sto := List Cell
/-- how a container is had: it is new; it was handed in; the script; it is held elsewhere -/
inductive Kd where
  | own | par | scr | at (w : Ow)
  deriving DecidableEq
/-- an error: its class, what it bears -/
structure Xc where
  c : Nat
  x : Option D
inductive SV where
  | d (x : D) | c (k : Kd) (x : Cn) | x (e : Xc)
abbrev Env := List (Option SV)
inductive Out (α : Type) where
  | ok (a : α) (st : Sto) | ex (x : Xc) (st : Sto)
abbrev Res (α : Type) := Option (Out α)
def rb {α β : Type} (r : Res α) (k : α → Sto → Res β) : Res β := match r with
  | none => none
  | some (.ok a st) => k a st
  | some (.ex x st) => some (.ex x st)
@[reducible] def ok {α : Type} (a : α) (st : Sto) : Res α := some (.ok a st)
inductive Bo where
  | add | sub | mul | div | mod | pow
  deriving DecidableEq
inductive Co where
  | eq | ne | lt | le | gt | ge | is | isnt | «in» | notin
  deriving DecidableEq
inductive Ty where
  | int | bool | str | tuple | list | dict | cls (C : Nat)
  deriving DecidableEq
/-- functions of Python's own -/
inductive Bi where
  | len | int | list | tuple | dict | max | min | sum | all | any | sorted | str | isi (t : Ty)
  deriving DecidableEq
/-- methods of Python's own that change nothing -/
inductive Bm where
  | get | items | values | keys | join | removeprefix | startswith | split | find | count | replace | upper
  deriving DecidableEq
inductive Tg where
  | nm (i : Nat) | tp (ts : List Tg)
mutual
inductive Ex where
  | var (i : Nat) | cst (x : D) | glob (x : Str) (v : D)
  | bin (o : Bo) (a b : Ex) | neg (a : Ex)
  | cmp (o : Co) (a b : Ex) | chain (o p : Co) (a b c : Ex)
  | and (a b : Ex) | or (a b : Ex) | not (a : Ex) | ite (c : Tx) (a b : Ex)
  | attr (a : Ex) (f : Str)
  | idx (a i : Ex) | slice (a lo hi : Ex) | rev (a : Ex)
  | gidx (x : Str) (i : Ex) | gin (x : Str) (n : Bool) (i : Ex)
  | tup (es : Exs) | lst (es : Exs) | dct (es : Exs) | dct0 (t : Bool)
  | call (f : Nat) (es : Exs) | callv (i : Nat) (fs : List Nat) (es : Exs)
  | meth (a : Ex) (cs : List (Nat × Nat)) (es : Exs) | make (C f : Nat) (es : Exs) | prop (a : Ex) (cs : List (Nat × Nat))
  | eqm (n : Bool) (C f : Nat) (a b : Ex)
  | bi (b : Bi) (es : Exs) | bm (m : Bm) (a : Ex) (es : Exs)
  | xfld (i : Nat) (f : Str) | xis (i : Nat) (C : Nat)
  | fmt (a : Ex) | joined (es : Exs)
  | lc (t : Tg) (it : It) (c : Tx) (e : Ex) | dc (t : Tg) (it : It) (c : Tx) (k v : Ex) | lenset (t : Tg) (it : It) (c : Tx) (e : Ex) | lensetI (t : Tg) (it : It) (c : Tx) (e : Ex) | popc (a k : Ex)
/-- a test -/
inductive Tx where
  | yes | val (e : Ex) | and (a b : Tx) | or (a b : Tx) | not (a : Tx)
inductive Exs where
  | nil | cons (e : Ex) (es : Exs)
inductive It where
  | seq (e : Ex) | row (e : Ex) | range (e : Ex) | range2 (a b : Ex) | enum (e : Ex) (s : Int) | zip (a b : Ex) | rev (e : Ex) | items (e : Ex) | values (e : Ex) | keys (e : Ex) | chars (e : Ex)
end
/-- what is changed in place -/
inductive Pl where
  | nm (i : Nat) | fld (e : Ex) (f : Str) | ex (e : Ex)
mutual
inductive Stt where
  | asg (t : Tg) (e : Ex) | mv (i j : Nat) | par (i j : Nat) (a b : Ex)
  | fld (e : Ex) (f : Str) (v : Ex) | fldMv (e : Ex) (f : Str) (j : Nat) | fldFz (e : Ex) (f : Str) (e' : Ex) (f' : Str) | fld2 (e : Ex) (f g : Str) (v w : Ex)
  | prom (j : Nat)
  | aug (i : Nat) (o : Bo) (e : Ex) | augFld (e : Ex) (f : Str) (o : Bo) (v : Ex) | augSub (p : Pl) (k : Ex) (o : Bo) (v : Ex)
  | put (p : Pl) (k v : Ex) | putL (p : Pl) (k v : Ex) | app (p : Pl) (v : Ex) | ext (p : Pl) (v : Ex) | del (p : Pl) (k : Ex) | pop (p : Pl) (k : Ex) | popTo (t : Tg) (p : Pl) (k : Ex) | setdef (p : Pl) (k v : Ex)
  | drop (e : Ex)
  | ifs (c : Tx) (a b : Stts) | for_ (t : Tg) (it : It) (b : Stts) | while_ (c : Tx) (b : Stts)
  | ret (e : Ex) | retN | brk | cnt | pass
  | raise (C : Nat) (e : Ex) (own : Bool) | try_ (b : Stts) (hs : Hds) | tryN (i : Nat) (b : Stts) (hs : Hds)
inductive Stts where
  | nil | cons (s : Stt) (ss : Stts)
inductive Hds where
  | nil | cons (C : Nat) (b : Stts) (hs : Hds)
end
/-- tr: what it leaves behind in the store and nobody sees is forgotten -/
structure Fn where
  np : Nat
  ns : Nat
  body : Stts
  tr : Bool
end Tv
namespace Tv
open PySem L2
mutual
/-- the data that a value is; g: what stands at an id -/
def D.lookW (g : Nat → Option PyData) : D → Option PyData
  | .non => some .none
  | .bl b => some (.bool b)
  | .int i => some (.int i)
  | .str x => some (.str x)
  | .tup xs => (D.looksW g xs).map .tuple
  | .ref k => g k
  | .fn _ => none
def D.looksW (g : Nat → Option PyData) : List D → Option (List PyData)
  | [] => some []
  | x :: xs => match D.lookW g x, D.looksW g xs with
    | some d, some ds => some (d :: ds)
    | _, _ => none
end
def refAt (cells : List Cell) : Nat → Nat → Option PyData
  | 0, _ => none
  | n + 1, k => match cells[k]? with
    | some (.con (.l xs)) => (D.looksW (refAt cells n) xs).map .list
    | _ => none
/-- the data that a value is, lists in it looked up -/
def D.look (cells : List Cell) (n : Nat) (x : D) : Option PyData := D.lookW (refAt cells n) x
def D.looks (cells : List Cell) (n : Nat) (xs : List D) : Option (List PyData) := D.looksW (refAt cells n) xs
def depthL : Nat := 8
def shp? (o : Option PyData) : Option PyData := match o with
  | some d => if SeqAt.shaped d then some d else none
  | none => none
/-- the data of a value that may be compared -/
def pyD (st : Sto) (a : D) : Option PyData := shp? (D.look st depthL a)
def pyL (st : Sto) (xs : List D) : Option PyData := shp? ((D.looks st depthL xs).map .list)
def eqP (a b : Option PyData) : Option Bool := match a, b with
  | some x, some y => some (PyData.eqv x y)
  | _, _ => none
/-- what a value holds, if it is a container -/
def cnOf (v : SV) (st : Sto) : Option Cn := match v with
  | .c _ x => some x
  | .d (.ref k) => match st[k]? with
    | some (.con x) => some x
    | _ => none
  | _ => none
def pyS (st : Sto) (a : SV) : Option PyData := match a with
  | .d x => pyD st x
  | .c _ (.l xs) => pyL st xs
  | _ => none
/-- dicts of flat values that are equal -/
def D.flat : D → Bool
  | .non => true | .bl _ => true | .int _ => true | .str _ => true
  | _ => false
def lookK (kvs : List (Key × D)) (k : Key) : Option D := (kvs.find? fun p => decide (p.1 = k)).map (·.2)
def eqM (a b : Option Cn) : Option Bool := match a, b with
  | some (.m ks), some (.m ls) => if decide (ks.length = ls.length) && ks.all fun p => decide (lookK ls p.1 = some p.2) && p.2.flat then some true else none
  | _, _ => none
def eqS (a b : SV) (st : Sto) : Option Bool := match a, b with
  | .d (.int i), .d (.int j) => some (decide (i = j))
  | .d (.str x), .d (.str y) => some (decide (x = y))
  | .d (.bl x), .d (.bl y) => some (decide (x = y))
  | a, b => (eqP (pyS st a) (pyS st b)).or (eqM (cnOf a st) (cnOf b st))
def D.isInt : D → Bool
  | .int _ => true
  | _ => false
def D.int' : D → Int
  | .int i => i
  | _ => 0
def allInt (xs : List D) : Option (List Int) := if xs.all D.isInt then some (xs.map D.int') else none
def D.isBl : D → Bool
  | .bl _ => true
  | _ => false
def D.bl' : D → Bool
  | .bl b => b
  | _ => false
def allBl (xs : List D) : Option (List Bool) := if xs.all D.isBl then some (xs.map D.bl') else none
def keyOf : D → Option Key
  | .int i => some (.inl i)
  | .str x => some (.inr x)
  | _ => none
def keysOf : List D → Option (List Key)
  | [] => some []
  | d :: ds => match keyOf d, keysOf ds with
    | some k, some ks => some (k :: ks)
    | _, _ => none
def keyD : Key → D
  | .inl i => .int i
  | .inr x => .str x
def look {κ : Type} [DecidableEq κ] (kvs : List (κ × D)) (k : κ) : Option D := (kvs.find? fun p => decide (p.1 = k)).map (·.2)
def put {κ : Type} [DecidableEq κ] (kvs : List (κ × D)) (k : κ) (v : D) : List (κ × D) :=
  if kvs.any (fun p => decide (p.1 = k)) then kvs.map fun p => if p.1 = k then (p.1, v) else p else kvs ++ [(k, v)]
def rem {κ : Type} [DecidableEq κ] (kvs : List (κ × D)) (k : κ) : List (κ × D) := kvs.filter fun p => !decide (p.1 = k)
def mulOk (i j : Int) : Bool := (decide (-(2 ^ 64) < i) && decide (i < 2 ^ 64)) || ((decide (-(2 ^ 64) < j) && decide (j < 2 ^ 64)) || decide (i.natAbs.log2 + j.natAbs.log2 < 1000000))
def divOk (j : Int) : Bool := decide (0 < j) && decide (j.natAbs.log2 < 9000)
def powOk (i j : Int) : Bool := decide (0 ≤ j) && (decide (j ≤ 1000000) && decide (i.natAbs < 2 ^ 64))
/-- the script is only read -/
def trk : SV → Bool
  | .c .scr _ => false
  | _ => true
def bin (o : Bo) (a b : SV) (st : Sto) : Res SV := match o, a, b with
  | .add, .d (.int i), .d (.int j) => ok (.d (.int (i + j))) st
  | .sub, .d (.int i), .d (.int j) => ok (.d (.int (i - j))) st
  | .mul, .d (.int i), .d (.int j) => if mulOk i j then ok (.d (.int (i * j))) st else none
  | .div, .d (.int i), .d (.int j) => if divOk j then ok (.d (.int (i / j))) st else none
  | .mod, .d (.int i), .d (.int j) => if 0 < j then ok (.d (.int (i % j))) st else none
  | .pow, .d (.int i), .d (.int j) => if powOk i j then ok (.d (.int (i ^ j.toNat))) st else none
  | .add, .d (.str x), .d (.str y) => if x.length + y.length ≤ sizeLine then ok (.d (.str (x ++ y))) st else none
  | .add, .d (.tup xs), .d (.tup ys) => if xs.length + ys.length ≤ sizeLine then ok (.d (.tup (xs ++ ys))) st else none
  | .add, a, b => match cnOf a st, cnOf b st with
    | some (.l xs), some (.l ys) => if trk a && trk b && decide (xs.length + ys.length ≤ sizeLine) then ok (.c .own (.l (xs ++ ys))) st else none
    | _, _ => none
  | _, _, _ => none
def inP (x c : Option PyData) : Option Bool := match x, c with
  | some d, some (.list ds) => some (ds.any fun z => PyData.eqv z d)
  | some d, some (.tuple ds) => some (ds.any fun z => PyData.eqv z d)
  | _, _ => none
/-- a tuple as a key (the constants kt are none) -/
def keysT (kt : List (List D)) (ds : List D) : Option (List Key) := if kt.contains ds then none else keysOf ds
/-- x in b -/
def inS (kt : List (List D)) (a b : SV) (st : Sto) : Option Bool := match b with
  | .d (.str z) => match a with
    | .d (.str ⟨⟨[c]⟩⟩) => some (decide (c ∈ z.cps.toList))
    | _ => none
  | .d (.tup xs) => inP (pyS st a) (pyD st (.tup xs))
  | b => match cnOf b st with
    | some (.l xs) => inP (pyS st a) (pyL st xs)
    | some (.m kvs) => match a with
      | .d x => match keyOf x with
        | some k => some (look kvs k).isSome
        | none => none
      | _ => none
    | some (.t kvs) => match a with
      | .d (.tup ds) => match keysT kt ds with
        | some k => some (look kvs k).isSome
        | none => none
      | _ => none
    | none => none
def cmp (kt : List (List D)) (o : Co) (a b : SV) (st : Sto) : Option Bool := match o with
  | .eq => eqS a b st
  | .ne => (eqS a b st).map (!·)
  | .in => inS kt a b st
  | .notin => (inS kt a b st).map (!·)
  | .is => match b with
    | .d .non => match a with
      | .d x => some (decide (x = .non))
      | .c _ _ => some false
      | _ => none
    | .d (.bl y) => match a with
      | .d (.bl x) => some (decide (x = y))
      | .d _ => some false
      | _ => none
    | _ => none
  | .isnt => match b with
    | .d .non => match a with
      | .d x => some (!decide (x = .non))
      | .c _ _ => some true
      | _ => none
    | .d (.bl y) => match a with
      | .d (.bl x) => some (!decide (x = y))
      | _ => none
    | _ => none
  | .lt => match a, b with
    | .d (.int i), .d (.int j) => some (decide (i < j))
    | _, _ => none
  | .le => match a, b with
    | .d (.int i), .d (.int j) => some (decide (i ≤ j))
    | _, _ => none
  | .gt => match a, b with
    | .d (.int i), .d (.int j) => some (decide (j < i))
    | _, _ => none
  | .ge => match a, b with
    | .d (.int i), .d (.int j) => some (decide (j ≤ i))
    | _, _ => none
def truth (a : SV) (st : Sto) : Option Bool := match a with
  | .d (.bl b) => some b
  | .d .non => some false
  | .d (.int i) => some (decide (i ≠ 0))
  | .d (.str x) => if x.length ≤ sizeLine then some (decide (0 < x.length)) else none
  | .d (.tup xs) => some (!xs.isEmpty)
  | a => match cnOf a st with
    | some (.l xs) => some (!xs.isEmpty)
    | some (.m kvs) => some (!kvs.isEmpty)
    | some (.t _) => none
    | none => none
def attr (a : SV) (f : Str) (st : Sto) : Res SV := match a with
  | .d (.ref i) => match st[i]? with
    | some (.ins _ fs) => match fs.lookup f with
      | some (.d x) => ok (.d x) st
      | some (.c false x) => ok (.c (.at (.f i f)) x) st
      | some (.c true x) => ok (.c .par x) st
      | none => none
    | _ => none
  | _ => none
def strAt (x : Str) (i : Int) : Option D := if x.length ≤ sizeLine then (atI x.cps.toList i).map fun c => .str ⟨#[c]⟩ else none
def idx (kt : List (List D)) (a i : SV) (st : Sto) : Option D := match i with
  | .d i => match a with
    | .d (.tup xs) => match i with
      | .int i => atI xs i
      | _ => none
    | .d (.str x) => match i with
      | .int i => strAt x i
      | _ => none
    | a => match cnOf a st with
      | some (.l xs) => match i with
        | .int i => atI xs i
        | _ => none
      | some (.m kvs) => match keyOf i with
        | some k => look kvs k
        | none => none
      | some (.t kvs) => match i with
        | .tup ds => match keysT kt ds with
          | some k => look kvs k
          | none => none
        | _ => none
      | none => none
  | _ => none
/-- a bound of a slice; b: it is not written -/
def part (b : Bool) (u : SV) (st : Sto) : Res (Option Int) := match u with
  | .d (.int i) => ok (some i) st
  | .d .non => if b then ok none st else none
  | _ => none
def Ex.isNon : Ex → Bool
  | .cst .non => true
  | _ => false
def cut {α : Type} (xs : List α) (lo hi : Option Int) : List α := (xs.drop (HT.sIx xs.length 0 lo)).take (HT.sIx xs.length xs.length hi - HT.sIx xs.length 0 lo)
def slc (a : SV) (lo hi : Option Int) (st : Sto) : Res SV := match a with
  | .d (.tup xs) => ok (.d (.tup (cut xs lo hi))) st
  | .d (.str x) => if x.length ≤ sizeLine then ok (.d (.str ⟨(cut x.cps.toList lo hi).toArray⟩)) st else none
  | a => match cnOf a st with
    | some (.l xs) => ok (.c .own (.l (cut xs lo hi))) st
    | _ => none
def revS (a : SV) (st : Sto) : Res SV := match cnOf a st with
  | some (.l xs) => ok (.c .own (.l xs.reverse)) st
  | _ => none
/-- a value that is put into something: a new container gets a place of its own -/
def toD (a : SV) (st : Sto) : Res D := match a with
  | .d x => ok x st
  | .c .own x => ok (.ref st.length) (st ++ [.con x])
  | _ => none
def toDs : List SV → Sto → Res (List D)
  | [], st => ok [] st
  | a :: as, st => rb (toD a st) fun x st => rb (toDs as st) fun xs st => ok (x :: xs) st
def lockOf : SV → List Ow
  | .c (.at w) _ => [w]
  | _ => []
/-- a value as it is handed in -/
def argS : SV → SV
  | .c .scr x => .c .scr x
  | .c _ x => .c .par x
  | v => v
/-- the second of two values that an own == compares: an int, a tuple, an instance of the class -/
def eqW (C : Nat) (a : SV) (st : Sto) : Bool := match a with
  | .d (.int _) => true
  | .d (.tup _) => true
  | .d (.ref i) => match st[i]? with
    | some (.ins C' _) => C' == C
    | _ => false
  | _ => false
def isTy (t : Ty) (a : SV) (st : Sto) : Option Bool := match t, a with
  | .int, .d (.int _) => some true
  | .int, .d (.bl _) => some true
  | .bool, .d (.bl _) => some true
  | .str, .d (.str _) => some true
  | .tuple, .d (.tup _) => some true
  | .list, .c _ (.l _) => some true
  | .dict, .c _ (.m _) => some true
  | .cls C, .d (.ref i) => match st[i]? with
    | some (.ins C' _) => if C' = C then some true else none
    | _ => none
  | .cls _, .d (.int _) => some false
  | .cls _, .d (.tup _) => some false
  | .cls _, _ => none
  | t, .d (.ref i) => match st[i]? with
    | some (.con (.l _)) => some (decide (t = .list))
    | some (.con (.m _)) => some (decide (t = .dict))
    | _ => none
  | _, .d (.fn _) => none
  | _, .d _ => some false
  | _, .c _ (.l _) => some false
  | _, .c _ (.m _) => some false
  | _, _ => none
def maxL : List Int → Option Int
  | [] => none
  | x :: xs => some (xs.foldl (fun a b => if b > a then b else a) x)
def minL : List Int → Option Int
  | [] => none
  | x :: xs => some (xs.foldl (fun a b => if b < a then b else a) x)
def pairOf : D → Option (Key × D)
  | .tup [k, v] => (keyOf k).map fun k => (k, v)
  | _ => none
def pairsOf : List D → Option (List (Key × D))
  | [] => some []
  | d :: ds => match pairOf d, pairsOf ds with
    | some p, some ps => some (p :: ps)
    | _, _ => none
def putAll (kvs : List (Key × D)) (ps : List (Key × D)) : List (Key × D) := ps.foldl (fun m p => put m p.1 p.2) kvs
def lstT (a : SV) (st : Sto) : Option (List D) := match a with
  | .d (.tup xs) => some xs
  | a => match cnOf a st with
    | some (.l xs) => some xs
    | _ => none
def biF (b : Bi) (as : List SV) (st : Sto) : Res SV := match b, as with
  | .len, [a] => match a with
    | .d (.tup xs) => ok (.d (.int xs.length)) st
    | .d (.str x) => if x.length ≤ sizeLine then ok (.d (.int x.length)) st else none
    | a => match cnOf a st with
      | some (.l xs) => ok (.d (.int xs.length)) st
      | some (.m xs) => ok (.d (.int xs.length)) st
      | _ => none
  | .int, [.d (.int i)] => ok (.d (.int i)) st
  | .int, [.d (.bl b)] => ok (.d (.int (if b then 1 else 0))) st
  | .int, [.d (.str x)] => match intText? x with
    | some n => if x.length ≤ 640 then ok (.d (.int n)) st else none
    | none => none
  | .list, [a] => match a with
    | .d (.tup xs) => ok (.c .own (.l xs)) st
    | a => match cnOf a st with
      | some (.l xs) => ok (.c .own (.l xs)) st
      | some (.m kvs) => ok (.c .own (.l (kvs.map fun p => keyD p.1))) st
      | _ => none
  | .tuple, [a] => match a with
    | .d (.tup xs) => ok (.d (.tup xs)) st
    | a => match cnOf a st with
      | some (.l xs) => ok (.d (.tup xs)) st
      | _ => none
  | .dict, [a] => match cnOf a st with
    | some (.m kvs) => ok (.c .own (.m kvs)) st
    | some (.l xs) => match pairsOf xs with
      | some ps => ok (.c .own (.m (putAll [] ps))) st
      | none => none
    | _ => none
  | .max, [.d (.int i), .d (.int j)] => ok (.d (.int (if j > i then j else i))) st
  | .min, [.d (.int i), .d (.int j)] => ok (.d (.int (if j < i then j else i))) st
  | .max, [a] => match lstT a st with
    | some xs => match (allInt xs).bind maxL with
      | some i => ok (.d (.int i)) st
      | none => none
    | none => none
  | .min, [a] => match lstT a st with
    | some xs => match (allInt xs).bind minL with
      | some i => ok (.d (.int i)) st
      | none => none
    | none => none
  | .sum, [a] => match cnOf a st with
    | some (.l xs) => match allInt xs with
      | some ns => ok (.d (.int ns.sum)) st
      | none => none
    | _ => none
  | .all, [a] => match cnOf a st with
    | some (.l xs) => match allBl xs with
      | some bs => ok (.d (.bl (bs.all id))) st
      | none => none
    | _ => none
  | .any, [a] => match cnOf a st with
    | some (.l xs) => match allBl xs with
      | some bs => ok (.d (.bl (bs.any id))) st
      | none => none
    | _ => none
  | .str, [.d (.int i)] => if i.natAbs.log2 < 1920 then ok (.d (.str (toString i))) st else none
  | .str, [.d (.str x)] => ok (.d (.str x)) st
  | .isi t, [a] => match isTy t a st with
    | some b => ok (.d (.bl b)) st
    | none => none
  | _, _ => none
def itemD (p : Key × D) : D := .tup [keyD p.1, p.2]
/-- texts -/
def strsOf : List D → Option (List Str)
  | [] => some []
  | .str x :: r => (strsOf r).map (x :: ·)
  | _ :: _ => none
def bmf (m : Bm) (a : SV) (as : List SV) (st : Sto) : Res SV := match m, as with
  | .get, [.d k, .d v] => match cnOf a st, keyOf k with
    | some (.m kvs), some k => ok (.d ((look kvs k).getD v)) st
    | _, _ => none
  | .items, [] => match cnOf a st with
    | some (.m kvs) => ok (.c .own (.l (kvs.map itemD))) st
    | _ => none
  | .values, [] => match cnOf a st with
    | some (.m kvs) => ok (.c .own (.l (kvs.map (·.2)))) st
    | _ => none
  | .keys, [] => match cnOf a st with
    | some (.m kvs) => ok (.c .own (.l (kvs.map fun p => keyD p.1))) st
    | _ => none
  | .join, [v] => match a, cnOf v st with
    | .d (.str s), some (.l xs) => match strsOf xs with
      | some ys => if (ys.map (·.length)).sum + ys.length * s.length ≤ 16777216 then ok (.d (.str (Txt.join s ys))) st else none
      | none => none
    | _, _ => none
  | .removeprefix, [.d (.str b)] => match a with
    | .d (.str s) => if s.length ≤ sizeLine then ok (.d (.str (Txt.removeprefix s b))) st else none
    | _ => none
  | .startswith, [.d (.str b)] => match a with
    | .d (.str s) => ok (.d (.bl (Txt.startswith s b))) st
    | _ => none
  | .find, [.d (.str b)] => match a with
    | .d (.str s) => ok (.d (.int (Txt.find s b))) st
    | _ => none
  | _, _ => none
mutual
def Tg.set (env : Env) : Tg → D → Option Env
  | .nm i, x => some (env.set i (some (.d x)))
  | .tp ts, x => match x with
    | .tup xs => Tg.sets env ts xs
    | _ => none
def Tg.sets (env : Env) : List Tg → List D → Option Env
  | [], [] => some env
  | t :: ts, x :: xs => match Tg.set env t x with
    | some env => Tg.sets env ts xs
    | none => none
  | _, _ => none
end
mutual
/-- the names of a target -/
def Tg.names : Tg → List Nat
  | .nm i => [i]
  | .tp ts => Tg.namess ts
def Tg.namess : List Tg → List Nat
  | [] => []
  | t :: ts => Tg.names t ++ Tg.namess ts
end
def dupN : List Nat → List Nat
  | [] => []
  | i :: is => i :: (dupN is).filter fun j => !decide (j = i)
/-- a comprehension's own names -/
def Tg.own (t : Tg) : List Nat := dupN t.names
/-- their slots forgotten -/
def wipeE (env : Env) : List Nat → Env
  | [] => env
  | v :: vs => (wipeE env vs).set v none
/-- what a loop walks: the items; what stays meanwhile -/
structure Ito where
  xs : List D
  locks : List Ow
/-- the rows that a value shows to a loop: a tuple, a list -/
def rowOf (s : SV) (st : Sto) : Option (Bool × List D) := match s with
  | .d (.tup xs) => some (true, xs)
  | s => match cnOf s st with
    | some (.l xs) => some (false, xs)
    | _ => none
/-- what must stay while a value is walked -/
def stayOf (a : SV) : List Ow := match a with
  | .d (.ref k) => [.c k]
  | .c (.at w) _ => [w]
  | _ => []
def itRow (a : SV) (st : Sto) : Res Ito := match rowOf a st with
  | some (_, xs) => ok ⟨xs, stayOf a⟩ st
  | none => none
/-- the rows of a value; the keys of a dict -/
def itSeq (a : SV) (st : Sto) : Res Ito := match rowOf a st with
  | some (_, xs) => ok ⟨xs, stayOf a⟩ st
  | none => match cnOf a st with
    | some (.m kvs) => ok ⟨kvs.map fun p => keyD p.1, stayOf a⟩ st
    | _ => none
def lstOf (a : SV) (st : Sto) : Option (List D) := match cnOf a st with
  | some (.l xs) => some xs
  | _ => none
def rangeD (lo : Int) (n : Nat) : List D := (List.range n).map fun (k : Nat) => .int (lo + k)
end Tv
namespace Tv
open PySem L2
/-- what a def may call; what must stay as it is at present -/
structure Cl where
  call : Nat → List SV → List Ow → Sto → Res SV
  locks : List Ow
  turns : Nat
  tabs : List (Str × List (Str × D))
  sub : Nat → Nat → Bool
  name : Nat → Str
  kts : List (List D)
  flds : List (Nat × Str)
  xs : List Nat
def Ow.inStore : Ow → Bool
  | .s _ => false
  | _ => true
def Cl.lk (c : Cl) (l : List Ow) : Cl := { c with locks := l ++ c.locks }
@[simp] theorem Cl.lk_nil (c : Cl) : c.lk [] = c := rfl
/-- a call -/
def Cl.go (c : Cl) (f : Nat) (as : List SV) (st : Sto) : Res SV :=
  c.call f (as.map argS) ((as.flatMap lockOf ++ c.locks).filter Ow.inStore) st
def tabOf (c : Cl) (x : Str) : Option (List (Str × D)) := c.tabs.lookup x
def gidx (c : Cl) (x : Str) (i : SV) : Option D := match i, tabOf c x with
  | .d (.str k), some t => t.lookup k
  | _, _ => none
def gin (c : Cl) (x : Str) (n : Bool) (i : SV) : Option Bool := match i, tabOf c x with
  | .d (.str k), some t => some (if n then !(t.lookup k).isSome else (t.lookup k).isSome)
  | _, _ => none
def insAt (st : Sto) (a : SV) : Option (Nat × Nat × List (Str × FV)) := match a with
  | .d (.ref i) => match st[i]? with
    | some (.ins C fs) => some (i, C, fs)
    | _ => none
  | _ => none
def delAt (x : Cn) (k : SV) : Option Cn := match x, k with
  | .l xs, .d (.int i) => if -(2 ^ 63) ≤ i ∧ i < 2 ^ 63 then (seqIndex? i xs.length).map fun n => .l (xs.eraseIdx n) else none
  | .m kvs, .d k => match keyOf k with
    | some k => if (look kvs k).isSome then some (.m (rem kvs k)) else none
    | none => none
  | _, _ => none
def popAt (x : Cn) (k : SV) : Option (D × Cn) := match x, k with
  | .l xs, .d (.int i) => if -(2 ^ 63) ≤ i ∧ i < 2 ^ 63 then (seqIndex? i xs.length).bind fun n => (xs[n]?).map fun d => (d, .l (xs.eraseIdx n)) else none
  | .m kvs, .d k => match keyOf k with
    | some k => (look kvs k).map fun d => (d, .m (rem kvs k))
    | none => none
  | _, _ => none
/-- ints alone -/
def cmpI (o : Co) (a b : SV) : Option Bool := match a, b with
  | .d (.int i), .d (.int j) => match o with
    | .lt => some (decide (i < j))
    | .le => some (decide (i ≤ j))
    | .gt => some (decide (j < i))
    | .ge => some (decide (j ≤ i))
    | .eq => some (decide (i = j))
    | .ne => some (!decide (i = j))
    | _ => none
  | _, _ => none
def smallI (i : Int) : Bool := decide (-(2 ^ 62) ≤ i) && decide (i < 2 ^ 62)
/-- keys and values by turns -/
def pairUp : List D → Option (List (Key × D))
  | [] => some []
  | [_] => none
  | k :: v :: r => match keyOf k, pairUp r with
    | some k, some ps => some ((k, v) :: ps)
    | _, _ => none
/-- the items of a comprehension: the turns in order -/
def compL (turn : D → Sto → Res (Option SV)) : List D → List D → Sto → Res (List D)
  | [], acc, st => ok acc st
  | x :: xs, acc, st => match turn x st with
      | some (.ok none st) => compL turn xs acc st
      | some (.ok (some v) st) => match toD v st with
        | some (.ok y st) => if acc.length < sizeLine then compL turn xs (acc ++ [y]) st else none
        | _ => none
      | _ => none
/-- a tuple of ints goes into a set of such -/
def putI (acc : List (List Int)) (k : List Int) : List (List Int) := if k ∈ acc then acc else acc ++ [k]
def compS (turn : D → Sto → Res (Option SV)) : List D → List (List Int) → Sto → Res (List (List Int))
  | [], acc, st => ok acc st
  | x :: xs, acc, st => match turn x st with
      | some (.ok none st) => compS turn xs acc st
      | some (.ok (some (.d (.tup ds))) st) => match allInt ds with
        | some k => if acc.length + 1 < 64 then compS turn xs (putI acc k) st else none
        | none => none
      | _ => none
/-- an int goes into a set of such -/
def putZ (acc : List Int) (k : Int) : List Int := if k ∈ acc then acc else acc ++ [k]
def compZ (turn : D → Sto → Res (Option SV)) : List D → List Int → Sto → Res (List Int)
  | [], acc, st => ok acc st
  | x :: xs, acc, st => match turn x st with
      | some (.ok none st) => compZ turn xs acc st
      | some (.ok (some (.d (.int k))) st) => if acc.length + 1 < 64 then compZ turn xs (putZ acc k) st else none
      | _ => none
def compD (turn : D → Sto → Res (Option (SV × SV))) : List D → List (Key × D) → Sto → Res (List (Key × D))
  | [], acc, st => ok acc st
  | x :: xs, acc, st => match turn x st with
      | some (.ok none st) => compD turn xs acc st
      | some (.ok (some (.d k, v)) st) => match keyOf k, toD v st with
        | some k, some (.ok y st) => if acc.length < sizeLine then compD turn xs (put acc k y) st else none
        | _, _ => none
      | _ => none
/-- get asks a dict -/
def isTxt : SV → Bool
  | .d (.str _) => true
  | _ => false
def bmPre (m : Bm) (u : SV) (st : Sto) : Bool := match m with
  | .get => match cnOf u st with
    | some (.m _) => true
    | _ => false
  | .join => isTxt u
  | .removeprefix => isTxt u
  | .startswith => isTxt u
  | .find => isTxt u
  | _ => true
/-- nothing is raised -/
def nox {α : Type} (r : Res α) : Res α := match r with
  | some (.ex _ _) => none
  | r => r
mutual
def ev (c : Cl) : Ex → Env → Sto → Res SV
  | .var i, env, st => match env[i]? with
    | some (some (.d x)) => ok (.d x) st
    | some (some (.c .own x)) => ok (.c (.at (.s i)) x) st
    | some (some (.c .par x)) => ok (.c .par x) st
    | some (some (.c .scr x)) => ok (.c .scr x) st
    | _ => none
  | .cst x, _, st => ok (.d x) st
  | .glob _ v, _, st => ok (.d v) st
  | .bin o a b, env, st => rb (ev c a env st) fun u st => rb (ev (c.lk (lockOf u)) b env st) fun w st => bin o u w st
  | .neg a, env, st => rb (ev c a env st) fun u st => match u with
    | .d (.int i) => ok (.d (.int (-i))) st
    | _ => none
  | .cmp o a b, env, st => rb (ev c a env st) fun u st => rb (ev (c.lk (lockOf u)) b env st) fun w st => match cmp c.kts o u w st with
    | some b => ok (.d (.bl b)) st
    | none => none
  | .chain o p a b d, env, st => rb (ev c a env st) fun u st => rb (ev (c.lk (lockOf u)) b env st) fun w st => match cmpI o u w with
    | some true => rb (ev (c.lk (lockOf u)) d env st) fun z st => match cmpI p w z with
      | some b => ok (.d (.bl b)) st
      | none => none
    | some false => ok (.d (.bl false)) st
    | none => none
  | .and a b, env, st => rb (ev c a env st) fun u st => match u with
    | .d (.bl true) => rb (ev c b env st) fun w st => match w with
      | .d (.bl b) => ok (.d (.bl b)) st
      | _ => none
    | .d (.bl false) => ok (.d (.bl false)) st
    | _ => none
  | .or a b, env, st => rb (ev c a env st) fun u st => match u with
    | .d (.bl false) => rb (ev c b env st) fun w st => match w with
      | .d (.bl b) => ok (.d (.bl b)) st
      | _ => none
    | .d (.bl true) => ok (.d (.bl true)) st
    | _ => none
  | .not a, env, st => rb (ev c a env st) fun u st => match u with
    | .d (.bl b) => ok (.d (.bl !b)) st
    | _ => none
  | .ite t a b, env, st => rb (evT c t env st) fun u st => if u then ev c a env st else ev c b env st
  | .attr a f, env, st => rb (ev c a env st) fun u st => attr u f st
  | .idx a i, env, st => rb (ev c a env st) fun u st => rb (ev (c.lk (lockOf u)) i env st) fun w st => match idx c.kts u w st with
    | some d => ok (.d d) st
    | none => none
  | .slice a lo hi, env, st => rb (ev c a env st) fun u st => rb (rb (ev (c.lk (lockOf u)) lo env st) (part lo.isNon)) fun l st => rb (rb (ev (c.lk (lockOf u)) hi env st) (part hi.isNon)) fun h st => slc u l h st
  | .rev a, env, st => rb (ev c a env st) fun u st => revS u st
  | .gidx x i, env, st => rb (ev c i env st) fun u st => match gidx c x u with
    | some d => ok (.d d) st
    | none => none
  | .gin x n i, env, st => rb (ev c i env st) fun u st => match gin c x n u with
    | some b => ok (.d (.bl b)) st
    | none => none
  | .tup es, env, st => rb (evs c es env st) fun as st => rb (toDs as st) fun xs st => if xs.length ≤ sizeLine then ok (.d (.tup xs)) st else none
  | .lst es, env, st => rb (evs c es env st) fun as st => rb (toDs as st) fun xs st => if xs.length ≤ sizeLine then ok (.c .own (.l xs)) st else none
  | .dct es, env, st => rb (evs c es env st) fun as st => rb (toDs as st) fun xs st => match pairUp xs with
    | some ps => if ps.length ≤ 15 then ok (.c .own (.m (putAll [] ps))) st else none
    | none => none
  | .dct0 t, _, st => ok (.c .own (if t then .t [] else .m [])) st
  | .call f es, env, st => rb (evs c es env st) fun as st => c.go f as st
  | .callv i fs es, env, st => match env[i]? with
    | some (some (.d (.fn f))) => if fs.contains f then rb (evs c es env st) fun as st => c.go f as st else none
    | _ => none
  | .meth a cs es, env, st => rb (ev c a env st) fun u st => match insAt st u with
    | some (i, C, fs) => match cs.lookup C with
      | some f => rb (evs c es env st) fun as st => c.go f (.d (.ref i) :: as) st
      | none => none
    | none => none
  | .make C f es, env, st => rb (evs c es env st) fun as st =>
      rb (c.go f (.d (.ref st.length) :: as) (st ++ [.ins C []])) fun u st' => match u with
        | .d .non => ok (.d (.ref st.length)) st'
        | _ => none
  | .prop a cs, env, st => rb (ev c a env st) fun u st => match insAt st u with
    | some (i, C, fs) => match cs.lookup C with
      | some f => nox (c.go f [.d (.ref i)] st)
      | none => none
    | none => none
  | .eqm n C f a b, env, st => rb (ev c a env st) fun u st => rb (ev (c.lk (lockOf u)) b env st) fun w st => match insAt st u with
    | some (_, C', _) => if C' = C ∧ eqW C w st = true then rb (c.go f [u, w] st) fun r st => match r with
        | .d (.bl b) => ok (.d (.bl (if n then !b else b))) st
        | _ => none
      else none
    | none => none
  | .bi b es, env, st => rb (evs c es env st) fun as st => biF b as st
  | .bm m a es, env, st => rb (ev c a env st) fun u st => if bmPre m u st then rb (evs (c.lk (lockOf u)) es env st) fun as st => bmf m u as st else none
  | .xfld i _, env, st => match env[i]? with
    | some (some (.x ⟨_, some d⟩)) => ok (.d d) st
    | _ => none
  | .xis i C, env, st => match env[i]? with
    | some (some (.x ⟨k, none⟩)) => if c.xs.contains k && c.xs.contains C then ok (.d (.bl (c.sub k C))) st else none
    | _ => none
  | .fmt a, env, st => rb (ev c a env st) fun u st => match u with
    | .d (.str y) => if y.length ≤ sizeLine then ok (.d (.str y)) st else none
    | .d (.int i) => if i.natAbs.log2 < 1920 then ok (.d (.str (toString i))) st else none
    | _ => none
  | .joined es, env, st => evJ c es Str.empty env st
  | .lc t it g e, env, st => rb (evI c it env st) fun j st =>
      rb (compL (fun x st => match t.set (wipeE env t.own) x with
        | some env => rb (evT (c.lk j.locks) g env st) fun b st => if b then rb (ev (c.lk j.locks) e env st) fun v st => ok (some v) st else ok none st
        | none => none) j.xs [] st) fun xs st => ok (.c .own (.l xs)) st
  | .dc t it g k v, env, st => rb (evI c it env st) fun j st =>
      rb (compD (fun x st => match t.set (wipeE env t.own) x with
        | some env => rb (evT (c.lk j.locks) g env st) fun b st => if b then rb (ev (c.lk j.locks) k env st) fun k st => rb (ev (c.lk j.locks) v env st) fun v st => ok (some (k, v)) st else ok none st
        | none => none) j.xs [] st) fun xs st => ok (.c .own (.m xs)) st
  | .lenset t it g e, env, st => rb (evI c it env st) fun j st =>
      rb (compS (fun x st => match t.set (wipeE env t.own) x with
        | some env => rb (evT (c.lk j.locks) g env st) fun b st => if b then rb (ev (c.lk j.locks) e env st) fun v st => ok (some v) st else ok none st
        | none => none) j.xs [] st) fun ks st => ok (.d (.int ks.length)) st
  | .lensetI t it g e, env, st => rb (evI c it env st) fun j st =>
      rb (compZ (fun x st => match t.set (wipeE env t.own) x with
        | some env => rb (evT (c.lk j.locks) g env st) fun b st => if b then rb (ev (c.lk j.locks) e env st) fun v st => ok (some v) st else ok none st
        | none => none) j.xs [] st) fun ks st => ok (.d (.int ks.length)) st
  | .popc a k, env, st => rb (ev c a env st) fun u st => match u with
    | .d (.ref i) => match st[i]? with
      | some (.con (.l _)) => rb (ev (c.lk [.c i]) k env st) fun w st => match st[i]? with
        | some (.con (.l xs)) => if c.locks.contains (.c i) then none else match popAt (.l xs) w with
          | some (d, x) => ok (.d d) (st.set i (.con x))
          | none => none
        | _ => none
      | _ => none
    | _ => none
/-- texts one behind the other -/
def evJ (c : Cl) : Exs → Str → Env → Sto → Res SV
  | .nil, acc, _, st => ok (.d (.str acc)) st
  | .cons e es, acc, env, st => rb (ev c e env st) fun u st => match u with
    | .d (.str y) => if (acc ++ y).length ≤ sizeLine then evJ c es (acc ++ y) env st else none
    | _ => none
def evT (c : Cl) : Tx → Env → Sto → Res Bool
  | .yes, _, st => ok true st
  | .val e, env, st => rb (ev c e env st) fun u st => match truth u st with
    | some b => ok b st
    | none => none
  | .and a b, env, st => rb (evT c a env st) fun u st => if u then evT c b env st else ok false st
  | .or a b, env, st => rb (evT c a env st) fun u st => if u then ok true st else evT c b env st
  | .not a, env, st => rb (evT c a env st) fun u st => ok (!u) st
def evs (c : Cl) : Exs → Env → Sto → Res (List SV)
  | .nil, _, st => ok [] st
  | .cons e es, env, st => rb (ev c e env st) fun u st => rb (evs (c.lk (lockOf u)) es env st) fun us st => ok (u :: us) st
def evI (c : Cl) : It → Env → Sto → Res Ito
  | .seq e, env, st => rb (ev c e env st) fun u st => itSeq u st
  | .row e, env, st => rb (ev c e env st) fun u st => itRow u st
  | .range e, env, st => rb (ev c e env st) fun u st => match u with
    | .d (.int n) => if smallI n then ok ⟨rangeD 0 n.toNat, []⟩ st else none
    | _ => none
  | .range2 a b, env, st => rb (ev c a env st) fun u st => rb (ev (c.lk (lockOf u)) b env st) fun w st => match u, w with
    | .d (.int m), .d (.int n) => if smallI m && smallI n then ok ⟨rangeD m (n - m).toNat, []⟩ st else none
    | _, _ => none
  | .enum e s, env, st => rb (ev c e env st) fun u st => rb (itRow u st) fun j st => ok ⟨(j.xs.zipIdx).map fun p => .tup [.int (s + p.2), p.1], j.locks⟩ st
  | .zip a b, env, st => rb (ev c a env st) fun u st => rb (itRow u st) fun j st => rb (ev (c.lk j.locks) b env st) fun w st => rb (itRow w st) fun k st =>
      ok ⟨(j.xs.zip k.xs).map fun p => .tup [p.1, p.2], j.locks ++ k.locks⟩ st
  | .rev e, env, st => rb (ev c e env st) fun u st => rb (itRow u st) fun j st => ok ⟨j.xs.reverse, j.locks⟩ st
  | .items e, env, st => rb (ev c e env st) fun u st => match cnOf u st with
    | some (.m kvs) => ok ⟨kvs.map itemD, stayOf u⟩ st
    | _ => none
  | .values e, env, st => rb (ev c e env st) fun u st => match cnOf u st with
    | some (.m kvs) => ok ⟨kvs.map (·.2), stayOf u⟩ st
    | _ => none
  | .keys e, env, st => rb (ev c e env st) fun u st => match cnOf u st with
    | some (.m kvs) => ok ⟨kvs.map fun p => keyD p.1, stayOf u⟩ st
    | _ => none
  | .chars e, env, st => rb (ev c e env st) fun u st => match u with
    | .d (.str x) => if x.length ≤ sizeLine then ok ⟨x.cps.toList.map fun c => .str ⟨#[c]⟩, []⟩ st else none
    | _ => none
end
end Tv
namespace Tv
open PySem L2
/-- where something stands that is changed -/
inductive Lc where
  | slot (i : Nat) | fld (i : Nat) (f : Str) | cell (k : Nat)
def Lc.ow : Lc → Ow
  | .slot i => .s i
  | .fld i f => .f i f
  | .cell k => .c k
/-- what stands at an owner -/
def Ow.cont (env : Env) (st : Sto) : Ow → Option Cn
  | .s i => match env[i]? with
    | some (some (.c .own x)) => some x
    | _ => none
  | .f i nm => match st[i]? with
    | some (.ins _ fs) => match fs.lookup nm with
      | some (.c false x) => some x
      | _ => none
    | _ => none
  | .c k => match st[k]? with
    | some (.con x) => some x
    | _ => none
def resolve (c : Cl) (p : Pl) (env : Env) (st : Sto) : Res Lc := match p with
  | .nm i => match env[i]? with
    | some (some (.c .own _)) => ok (.slot i) st
    | some (some (.d (.ref k))) => ok (.cell k) st
    | _ => none
  | .fld e f => rb (ev c e env st) fun u st => match insAt st u with
    | some (i, _, fs) => match fs.lookup f with
      | some (.c false _) => ok (.fld i f) st
      | some (.d (.ref k)) => ok (.cell k) st
      | _ => none
    | none => none
  | .ex e => rb (ev c e env st) fun u st => match u with
    | .d (.ref k) => ok (.cell k) st
    | _ => none
def Cn.isL : Cn → Bool
  | .l _ => true
  | _ => false
def Cn.isD : Cn → Bool
  | .m _ => true
  | _ => false
/-- a place where a container of that kind stands -/
def resolveK (k : Cn → Bool) (c : Cl) (p : Pl) (env : Env) (st : Sto) : Res Lc := rb (resolve c p env st) fun l st => match l.ow.cont env st with
  | some x => if k x then ok l st else none
  | none => none
/-- what stands there and may be changed -/
def Lc.get (c : Cl) (l : Lc) (env : Env) (st : Sto) : Option Cn := if c.locks.contains l.ow then none else l.ow.cont env st
def putFs (f : Str) (v : FV) : List (Str × FV) → List (Str × FV)
  | [] => [(f, v)]
  | (g, w) :: r => if g = f then (g, v) :: r else (g, w) :: putFs f v r
def setFld (st : Sto) (i : Nat) (f : Str) (v : FV) : Sto := match st[i]? with
  | some (.ins C fs) => st.set i (.ins C (putFs f v fs))
  | _ => st
def Lc.set (l : Lc) (x : Cn) (env : Env) (st : Sto) : Env × Sto := match l with
  | .slot i => (env.set i (some (.c .own x)), st)
  | .fld i f => (env, setFld st i f (.c false x))
  | .cell k => (env, st.set k (.con x))
inductive SO where
  | nx (env : Env) (st : Sto) | rt (v : SV) (st : Sto) | bk (env : Env) (st : Sto) | ct (env : Env) (st : Sto) | ex (x : Xc) (env : Env) (st : Sto)
/-- an expression's answer, and what follows it -/
def sb {α : Type} (r : Res α) (env : Env) (k : α → Sto → Option SO) : Option SO := match r with
  | none => none
  | some (.ok a st) => k a st
  | some (.ex x st) => some (.ex x env st)
def sq (r : Option SO) (k : Env → Sto → Option SO) : Option SO := match r with
  | some (.nx env st) => k env st
  | r => r
def putAt (kt : List (List D)) (x : Cn) (k : SV) (v : D) : Option Cn := match x, k with
  | .l xs, .d (.int i) => (ixN xs.length i).map fun n => .l (xs.set n v)
  | .m kvs, .d k => match keyOf k with
      | some k => if kvs.length < sizeLine then some (.m (put kvs k v)) else none
      | none => none
  | .t kvs, .d (.tup ds) => match keysT kt ds with
    | some k => if kvs.length < sizeLine then some (.t (put kvs k v)) else none
    | none => none
  | _, _ => none
/-- into a dict -/
def putD (kt : List (List D)) (x : Cn) (k : SV) (v : D) : Option Cn := if x.isL then none else putAt kt x k v
/-- a value stored as a field -/
def fvOf (v : SV) : Option FV := match v with
  | .d x => some (.d x)
  | .c .own x => some (.c false x)
  | _ => none
/-- may the field be stored anew? -/
def mayFld (c : Cl) (i : Nat) (f : Str) : Bool := !c.locks.contains (.f i f) && !c.locks.contains (.c i)
/-- may an instance of the class have the field? -/
def okFld (c : Cl) (C : Nat) (f : Str) (fs : List (Str × FV)) : Bool := (fs.lookup f).isSome || c.flds.contains (C, f)
def store (c : Cl) (env : Env) (e : Ex) (f : Str) (v : SV) (st : Sto) (k : Env → Sto → Option SO) : Option SO :=
  sb (ev c e env st) env fun u st => match insAt st u with
    | some (i, C, fs) => if mayFld c i f && (decide (fs.length < 1000) && okFld c C f fs) then match fvOf v with
        | some x => k env (setFld st i f x)
        | none => none
      else none
    | none => none
/-- += and -= of ints -/
def augI (o : Bo) (p q : Int) : Option Int := match o with
  | .add => some (p + q)
  | .sub => some (p - q)
  | _ => none
def forL (turn : D → Env → Sto → Option SO) : List D → Env → Sto → Option SO
  | [], env, st => some (.nx env st)
  | x :: xs, env, st => match turn x env st with
      | some (.nx env st) => forL turn xs env st
      | some (.ct env st) => forL turn xs env st
      | some (.bk env st) => some (.nx env st)
      | r => r
def whileL (test : Env → Sto → Res Bool) (body : Env → Sto → Option SO) : Nat → Env → Sto → Option SO
  | 0, _, _ => none
  | n + 1, env, st => sb (test env st) env fun b st => if b then
      match body env st with
      | some (.nx env st) => whileL test body n env st
      | some (.ct env st) => whileL test body n env st
      | some (.bk env st) => some (.nx env st)
      | r => r
    else some (.nx env st)
/-- may the name be stored anew? -/
def free (c : Cl) (i : Nat) : Bool := !c.locks.contains (.s i)
mutual
def Tg.free (c : Cl) : Tg → Bool
  | .nm i => Tv.free c i
  | .tp ts => Tg.frees c ts
def Tg.frees (c : Cl) : List Tg → Bool
  | [] => true
  | t :: ts => Tg.free c t && Tg.frees c ts
end
/-- an item comes to a target -/
def Tg.put (c : Cl) (t : Tg) (env : Env) (x : D) : Option Env := if t.free c then t.set env x else none
def setV (c : Cl) (i : Nat) (v : SV) (env : Env) (st : Sto) : Option SO := if free c i then some (.nx (env.set i (some v)) st) else none
mutual
def exec (c : Cl) : Stt → Env → Sto → Option SO
  | .asg t e, env, st => sb (ev c e env st) env fun v st => match v with
    | .d x => match t.put c env x with
      | some env => some (.nx env st)
      | none => none
    | .c .own x => match t with
      | .nm i => setV c i (.c .own x) env st
      | _ => none
    | .c .par x => match t with
      | .nm i => setV c i (.c .par x) env st
      | _ => none
    | _ => none
  | .mv i j, env, st => match env[j]? with
    | some (some (.d x)) => setV c i (.d x) env st
    | some (some (.c .par x)) => setV c i (.c .par x) env st
    | some (some (.c .own x)) => if free c j then setV c i (.c .own x) (env.set j none) st else none
    | _ => none
  | .par i j a b, env, st => sb (ev c a env st) env fun u st => sb (ev (c.lk (lockOf u)) b env st) env fun w st => match u, w with
    | .d x, .d y => if free c i && free c j then some (.nx ((env.set i (some (.d x))).set j (some (.d y))) st) else none
    | _, _ => none
  | .fld e f v, env, st => sb (ev c v env st) env fun v st => store c env e f v st fun env st => some (.nx env st)
  | .fldMv e f j, env, st => match env[j]? with
    | some (some (.c .own x)) => if free c j then store c env e f (.c .own x) st fun env st => some (.nx (env.set j none) st) else none
    | some (some (.d x)) => store c env e f (.d x) st fun env st => some (.nx env st)
    | _ => none
  | .fldFz e f e' g, env, st => sb (ev c e' env st) env fun w st => match insAt st w with
    | some (j, _, gs) => match gs.lookup g with
      | some (.c _ x) => if c.locks.contains (.f j g) then none else
          sb (ev c e env (setFld st j g (.c true x))) env fun u st => match insAt st u with
            | some (i, C, fs) => if mayFld c i f && (decide (fs.length < 1000) && okFld c C f fs) then some (.nx env (setFld st i f (.c true x))) else none
            | none => none
      | some (.d x) => store c env e f (.d x) st fun env st => some (.nx env st)
      | none => none
    | none => none
  | .fld2 e f g v w, env, st => sb (ev c v env st) env fun v st => sb (ev (c.lk (lockOf v)) w env st) env fun w st => match v, w with
    | .d x, .d y => store c env e f (.d x) st fun env st => store c env e g (.d y) st fun env st => some (.nx env st)
    | _, _ => none
  | .prom j, env, st => match env[j]? with
    | some (some (.c .own x)) => if free c j then some (.nx (env.set j (some (.d (.ref st.length)))) (st ++ [.con x])) else none
    | _ => some (.nx env st)
  | .aug i o e, env, st => match env[i]? with
    | some (some (.d (.int p))) => sb (ev c e env st) env fun w st => match w with
      | .d (.int q) => match o with
        | .add => setV c i (.d (.int (p + q))) env st
        | .sub => setV c i (.d (.int (p - q))) env st
        | _ => none
      | _ => none
    | _ => none
  | .augFld e f o v, env, st => sb (ev c e env st) env fun u st => match insAt st u with
    | some (i, C, fs) => match fs.lookup f with
      | some (.d (.int p)) => sb (ev c v env st) env fun w st => match w with
        | .d (.int q) => match augI o p q with
          | some z => match st[i]? with
            | some (.ins C' fs) => if mayFld c i f && (decide (fs.length < 1000) && (decide (C' = C) && (fs.lookup f).isSome)) then some (.nx env (setFld st i f (.d (.int z)))) else none
            | _ => none
          | none => none
        | _ => none
      | _ => none
    | none => none
  | .augSub p k o v, env, st => sb (resolveK Cn.isD c p env st) env fun l st => sb (ev (c.lk [l.ow]) k env st) env fun k st => match l.get c env st, k with
    | some (.m kvs), .d kd => match keyOf kd with
      | some kk => match look kvs kk with
        | some (.int p) => sb (ev (c.lk [l.ow]) v env st) env fun w st => match w with
          | .d (.int q) => match augI o p q with
            | some z => match l.get c env st with
              | some (.m kvs) => if kvs.length < sizeLine then some (.nx (l.set (.m (put kvs kk (.int z))) env st).1 (l.set (.m (put kvs kk (.int z))) env st).2) else none
              | _ => none
            | none => none
          | _ => none
        | _ => none
      | none => none
    | _, _ => none
  | .put p k v, env, st => sb (ev c v env st) env fun v st => sb (resolve (c.lk (lockOf v)) p env st) env fun l st => sb (ev (c.lk (l.ow :: lockOf v)) k env st) env fun k st =>
      sb (toD v st) env fun y st => match (l.get c env st).bind fun x => putD c.kts x k y with
        | some x => some (.nx (l.set x env st).1 (l.set x env st).2)
        | none => none
  | .putL p k v, env, st => sb (ev c v env st) env fun v st => sb (resolve (c.lk (lockOf v)) p env st) env fun l st => sb (ev (c.lk (l.ow :: lockOf v)) k env st) env fun k st =>
      sb (toD v st) env fun y st => match l.get c env st, k with
        | some (.l xs), .d (.int i) => match ixN xs.length i with
          | some n => some (.nx (l.set (.l (xs.set n y)) env st).1 (l.set (.l (xs.set n y)) env st).2)
          | none => none
        | _, _ => none
  | .app p v, env, st => sb (resolveK Cn.isL c p env st) env fun l st => sb (ev (c.lk [l.ow]) v env st) env fun v st => sb (toD v st) env fun y st => match l.get c env st with
    | some (.l xs) => if xs.length < sizeLine then some (.nx (l.set (.l (xs ++ [y])) env st).1 (l.set (.l (xs ++ [y])) env st).2) else none
    | _ => none
  | .ext p v, env, st => sb (resolveK Cn.isL c p env st) env fun l st => sb (ev (c.lk [l.ow]) v env st) env fun v st => match l.get c env st, lstOf v st with
    | some (.l xs), some ys => if trk v && decide (xs.length + ys.length ≤ sizeLine) then some (.nx (l.set (.l (xs ++ ys)) env st).1 (l.set (.l (xs ++ ys)) env st).2) else none
    | _, _ => none
  | .del p k, env, st => sb (resolve c p env st) env fun l st => sb (ev (c.lk [l.ow]) k env st) env fun k st => match (l.get c env st).bind fun x => delAt x k with
    | some x => some (.nx (l.set x env st).1 (l.set x env st).2)
    | none => none
  | .pop p k, env, st => sb (resolveK Cn.isL c p env st) env fun l st => sb (ev (c.lk [l.ow]) k env st) env fun k st => match l.get c env st with
    | some (.l xs) => match popAt (.l xs) k with
      | some (_, x) => some (.nx (l.set x env st).1 (l.set x env st).2)
      | none => none
    | _ => none
  | .popTo t p k, env, st => sb (resolve c p env st) env fun l st => sb (ev (c.lk [l.ow]) k env st) env fun k st => match (l.get c env st).bind fun x => popAt x k with
    | some (d, x) => match t.put c (l.set x env st).1 d with
      | some env' => some (.nx env' (l.set x env st).2)
      | none => none
    | none => none
  | .setdef p k v, env, st => sb (resolveK Cn.isD c p env st) env fun l st => sb (ev (c.lk [l.ow]) k env st) env fun k st => sb (ev (c.lk [l.ow]) v env st) env fun v st => match l.get c env st, k, v with
    | some (.m kvs), .d k, .d v => match keyOf k with
      | some k => if (look kvs k).isSome then some (.nx env st) else if kvs.length < sizeLine then some (.nx (l.set (.m (put kvs k v)) env st).1 (l.set (.m (put kvs k v)) env st).2) else none
      | none => none
    | _, _, _ => none
  | .drop e, env, st => sb (ev c e env st) env fun _ st => some (.nx env st)
  | .ifs t a b, env, st => sb (evT c t env st) env fun u st => if u then execs c a env st else execs c b env st
  | .for_ t it b, env, st => sb (evI c it env st) env fun j st =>
      forL (fun x env st => match t.put (c.lk j.locks) env x with
        | some env => execs (c.lk j.locks) b env st
        | none => none) j.xs env st
  | .while_ t b, env, st => whileL (evT c t) (execs c b) c.turns env st
  | .ret e, env, st => match e with
    | .var i => match env[i]? with
      | some (some (.d x)) => some (.rt (.d x) st)
      | some (some (.c .own x)) => if free c i then some (.rt (.c .own x) st) else none
      | _ => none
    | e => sb (ev c e env st) env fun v st => match v with
      | .d x => some (.rt (.d x) st)
      | .c .own x => some (.rt (.c .own x) st)
      | _ => none
  | .retN, _, st => some (.rt (.d .non) st)
  | .brk, env, st => some (.bk env st)
  | .cnt, env, st => some (.ct env st)
  | .pass, env, st => some (.nx env st)
  | .raise C e own, env, st => sb (ev c e env st) env fun v st => match v with
    | .d x => some (.ex ⟨C, if own then some x else none⟩ env st)
    | _ => none
  | .try_ b hs, env, st => match execs c b env st with
    | some (.ex x env st) => handle c hs x env st
    | r => r
  | .tryN i b hs, env, st => match execs c b env st with
    | some (.ex x env st) => if free c i then handleN c i hs x env st else none
    | r => r
def execs (c : Cl) : Stts → Env → Sto → Option SO
  | .nil, env, st => some (.nx env st)
  | .cons s ss, env, st => sq (exec c s env st) fun env st => execs c ss env st
/-- clauses without a name; no clause raises -/
def handle (c : Cl) : Hds → Xc → Env → Sto → Option SO
  | .nil, x, env, st => some (.ex x env st)
  | .cons C b hs, x, env, st => if c.xs.contains x.c && c.xs.contains C then
      (if c.sub x.c C then match execs c b env st with
        | some (.ex _ _ _) => none
        | r => r
      else handle c hs x env st) else none
/-- clauses of one name -/
def handleN (c : Cl) (i : Nat) : Hds → Xc → Env → Sto → Option SO
  | .nil, _, _, _ => none
  | .cons C b hs, x, env, st => if c.xs.contains x.c && c.xs.contains C then
      (if c.sub x.c C then match execs c b (env.set i (some (.x x))) st with
        | some (.nx env st) => some (.nx (env.set i none) st)
        | some (.bk env st) => some (.bk (env.set i none) st)
        | some (.ct env st) => some (.ct (env.set i none) st)
        | some (.rt v st) => some (.rt v st)
        | _ => none
      else handleN c i hs x env st) else none
end
/-- a call by n -/
def result (r : Option SO) : Res SV := match r with
  | some (.nx _ st) => ok (.d .non) st
  | some (.rt v st) => ok v st
  | some (.ex x _ st) => some (.ex x st)
  | _ => none
mutual
/-- no id from n on -/
def D.cl (n : Nat) : D → Bool
  | .ref k => decide (k < n)
  | .tup xs => D.cls n xs
  | .fn _ => true
  | .non => true | .bl _ => true | .int _ => true | .str _ => true
def D.cls (n : Nat) : List D → Bool
  | [] => true
  | x :: xs => D.cl n x && D.cls n xs
end
def Cn.cl (n : Nat) : Cn → Bool
  | .l xs => D.cls n xs
  | .m kvs => D.cls n (kvs.map (·.2))
  | .t kvs => D.cls n (kvs.map (·.2))
def FV.cl (n : Nat) : FV → Bool
  | .d x => x.cl n
  | .c _ x => x.cl n
def Cell.cl (n : Nat) : Cell → Bool
  | .ins _ fs => fs.all fun p => p.2.cl n
  | .con x => x.cl n
def SV.cl (n : Nat) : SV → Bool
  | .d y => y.cl n
  | .c _ y => y.cl n
  | .x _ => false
def Xc.cl (n : Nat) (e : Xc) : Bool := match e.x with
  | some d => d.cl n
  | none => true
/-- of what stood there before, nothing sees what came later -/
def stoCl (st st' : Sto) : Bool := (List.range st.length).all fun k => decide (st'[k]? = st[k]?) || match st'[k]? with
  | some c => c.cl st.length
  | none => true
def trim (st : Sto) : Res SV → Res SV
  | some (.ok v st') => if v.cl st.length && stoCl st st' then some (.ok v (st'.take st.length)) else some (.ok v st')
  | some (.ex x st') => if x.cl st.length && stoCl st st' then some (.ex x (st'.take st.length)) else some (.ex x st')
  | none => none
def trimIf (b : Bool) (st : Sto) (r : Res SV) : Res SV := if b then trim st r else r
structure Prog where
  fns : List Fn
  names : List Str
  tabs : List (Str × List (Str × D))
  sub : List (Nat × Nat)
  kts : List (List D)
  flds : List (Nat × Str)
  xs : List Nat
def Prog.fn (p : Prog) (f : Nat) : Fn := p.fns.getD f ⟨0, 0, .nil, false⟩
def Prog.cl (p : Prog) (call : Nat → List SV → List Ow → Sto → Res SV) (locks : List Ow) : Cl := ⟨call, locks, 100000000, p.tabs, fun a b => a == b || p.sub.contains (a, b), fun f => p.names.getD f Str.empty, p.kts, p.flds, p.xs⟩
def Prog.call (p : Prog) : Nat → Nat → List SV → List Ow → Sto → Res SV
  | 0, _, _, _, _ => none
  | n + 1, f, as, L, st => if as.length = (p.fn f).np then trimIf (p.fn f).tr st (result (execs (p.cl (p.call n) L) (p.fn f).body (as.map some ++ List.replicate ((p.fn f).ns - as.length) none) st)) else none
end Tv
namespace Tv
open PySem L2
structure En where
  K : PySem.W.Frag
  cls : Nat → Addr
  fn : Nat → Addr
  exc : Nat → Addr
  xf : Nat → Str
  kt : List (List D)
  fl : List (Nat × Str)
/-- where the cells stand, and the containers of fields -/
structure Wd where
  ad : List Addr
  fd : Nat → Str → Addr
/-- tuples stay -/
def Tm (K : PySem.W.Frag) (H J : Hp) : Prop := ∀ a xs, H a = some (.tup xs) → J a = some (.tup xs)
theorem Tm.rfl' {K : PySem.W.Frag} (H : Hp) : Tm K H H := fun _ _ z => z
theorem Tm.tr {K : PySem.W.Frag} {H J L : Hp} (f : Tm K H J) (g : Tm K J L) : Tm K H L := fun a xs z => g a xs (f a xs z)
/-- a tuple: made by the code, or a constant -/
def TuR (E : En) (H : Hp) (a : Addr) (vs : List V) (xs : List D) : Prop := H a = some (.tup vs) ∨ (xs ∈ E.kt ∧ ∀ J, SqT E.K J a vs)
theorem TuR.mono {E : En} {H J : Hp} {a : Addr} {vs : List V} {xs : List D} (g : Tm E.K H J) (h : TuR E H a vs xs) : TuR E J a vs xs := by
  rcases h with h | h
  · exact .inl (g _ _ h)
  · exact .inr h
theorem TuR.sq {E : En} {H : Hp} {a : Addr} {vs : List V} {xs : List D} (h : TuR E H a vs xs) : SqT E.K H a vs := by
  rcases h with h | h
  · exact SqT.of h
  · exact h.2 H
mutual
inductive Rv (E : En) (ad : List Addr) (H : Hp) : V → D → Prop
  | non : Rv E ad H .non .non
  | bl (b : Bool) : Rv E ad H (.bl b) (.bl b)
  | int (i : Int) : Rv E ad H (.int i) (.int i)
  | str (x : Str) : Rv E ad H (.str x) (.str x)
  | tup {a : Addr} {vs : List V} {xs : List D} : TuR E H a vs xs → RvA E ad H vs xs → Rv E ad H (.ref a) (.tup xs)
  | ref {k : Nat} {a : Addr} : ad[k]? = some a → Rv E ad H (.ref a) (.ref k)
  | fn (f : Nat) : Rv E ad H (.ref (E.fn f)) (.fn f)
inductive RvA (E : En) (ad : List Addr) (H : Hp) : List V → List D → Prop
  | nil : RvA E ad H [] []
  | cons {v : V} {vs : List V} {x : D} {xs : List D} : Rv E ad H v x → RvA E ad H vs xs → RvA E ad H (v :: vs) (x :: xs)
end
section
variable {E : En} {ad ad' : List Addr} {H H' J : Hp}
theorem pre_get {α : Type} {l l' : List α} (h : l <+: l') {k : Nat} {a : α} (e : l[k]? = some a) : l'[k]? = some a := by
  obtain ⟨r, rfl⟩ := h
  rw [List.getElem?_append_left (List.getElem?_eq_some_iff.mp e).1]; exact e
mutual
theorem Rv.mono (p : ad <+: ad') (g : Tm E.K H J) : ∀ {v : V} {x : D}, Rv E ad H v x → Rv E ad' J v x
  | _, _, .non => .non
  | _, _, .bl b => .bl b
  | _, _, .int i => .int i
  | _, _, .str x => .str x
  | _, _, .tup h ha => .tup (h.mono g) (RvA.mono p g ha)
  | _, _, .ref h => .ref (pre_get p h)
  | _, _, .fn f => .fn f
theorem RvA.mono (p : ad <+: ad') (g : Tm E.K H J) : ∀ {vs : List V} {xs : List D}, RvA E ad H vs xs → RvA E ad' J vs xs
  | _, _, .nil => .nil
  | _, _, .cons h ha => .cons (Rv.mono p g h) (RvA.mono p g ha)
end
theorem Rv.int_of {v : V} {i : Int} (h : Rv E ad H v (.int i)) : v = .int i := by cases h; rfl
theorem Rv.bl_of {v : V} {b : Bool} (h : Rv E ad H v (.bl b)) : v = .bl b := by cases h; rfl
theorem Rv.str_of {v : V} {b : Str} (h : Rv E ad H v (.str b)) : v = .str b := by cases h; rfl
theorem Rv.non_of {v : V} (h : Rv E ad H v .non) : v = .non := by cases h; rfl
theorem Rv.ref_of {v : V} {k : Nat} (h : Rv E ad H v (.ref k)) : ∃ a, v = .ref a ∧ ad[k]? = some a := by cases h with | ref e => exact ⟨_, rfl, e⟩
theorem Rv.tup_of {v : V} {xs : List D} (h : Rv E ad H v (.tup xs)) : ∃ a vs, v = .ref a ∧ TuR E H a vs xs ∧ RvA E ad H vs xs := by
  cases h with
  | tup h ha => exact ⟨_, _, rfl, h, ha⟩
theorem RvA.length : ∀ {vs : List V} {xs : List D}, RvA E ad H vs xs → vs.length = xs.length
  | _, _, .nil => rfl
  | _, _, .cons _ t => by rw [List.length_cons, List.length_cons, RvA.length t]
theorem RvA.get : ∀ {vs : List V} {xs : List D} {i : Nat} {x : D}, RvA E ad H vs xs → xs[i]? = some x → ∃ v, vs[i]? = some v ∧ Rv E ad H v x
  | _, _, _, _, .nil, e => by simp at e
  | _, _, 0, _, .cons r _, e => by simp at e; subst e; exact ⟨_, rfl, r⟩
  | _, _, i + 1, d, .cons _ t, e => by
    obtain ⟨u, h1, h2⟩ := RvA.get (i := i) (x := d) t (by simpa using e)
    exact ⟨u, by simpa using h1, h2⟩
theorem RvA.getV : ∀ {vs : List V} {xs : List D} {i : Nat} {v : V}, RvA E ad H vs xs → vs[i]? = some v → ∃ x, xs[i]? = some x ∧ Rv E ad H v x
  | _, _, _, _, .nil, e => by simp at e
  | _, _, 0, _, .cons r _, e => by simp at e; subst e; exact ⟨_, rfl, r⟩
  | _, _, i + 1, d, .cons _ t, e => by
    obtain ⟨u, h1, h2⟩ := RvA.getV (i := i) (v := d) t (by simpa using e)
    exact ⟨u, by simpa using h1, h2⟩
theorem RvA.app : ∀ {vs us : List V} {xs ys : List D}, RvA E ad H vs xs → RvA E ad H us ys → RvA E ad H (vs ++ us) (xs ++ ys)
  | _, _, _, _, .nil, s => s
  | _, _, _, _, .cons r t, s => .cons r (RvA.app t s)
theorem RvA.take : ∀ {vs : List V} {xs : List D} (n : Nat), RvA E ad H vs xs → RvA E ad H (vs.take n) (xs.take n)
  | _, _, 0, _ => by rw [List.take_zero, List.take_zero]; exact .nil
  | _, _, _ + 1, .nil => .nil
  | _, _, n + 1, .cons r t => .cons r (RvA.take n t)
theorem RvA.drop : ∀ {vs : List V} {xs : List D} (n : Nat), RvA E ad H vs xs → RvA E ad H (vs.drop n) (xs.drop n)
  | _, _, 0, r => r
  | _, _, _ + 1, .nil => .nil
  | _, _, n + 1, .cons _ t => RvA.drop n t
theorem RvA.set {v : V} {x : D} (r : Rv E ad H v x) : ∀ {vs : List V} {xs : List D} (i : Nat), RvA E ad H vs xs → RvA E ad H (vs.set i v) (xs.set i x)
  | _, _, _, .nil => .nil
  | _, _, 0, .cons _ t => .cons r t
  | _, _, i + 1, .cons q t => .cons q (RvA.set r i t)
theorem RvA.rev {vs : List V} {xs : List D} (h : RvA E ad H vs xs) : RvA E ad H vs.reverse xs.reverse := by
  induction xs generalizing vs with
  | nil => cases h; exact .nil
  | cons x xs ih =>
    cases h with
    | cons r t => rw [List.reverse_cons, List.reverse_cons]; exact (ih t).app (.cons r .nil)
def Rkv {κ : Type} (E : En) (ad : List Addr) (H : Hp) (ps : List (κ × V)) (kvs : List (κ × D)) : Prop := ps.map (·.1) = kvs.map (·.1) ∧ RvA E ad H (ps.map (·.2)) (kvs.map (·.2))
theorem Rkv.mono {κ : Type} {ps : List (κ × V)} {kvs : List (κ × D)} (p : ad <+: ad') (g : Tm E.K H J) (h : Rkv E ad H ps kvs) : Rkv E ad' J ps kvs := ⟨h.1, h.2.mono p g⟩
def HoR (E : En) (ad : List Addr) (H : Hp) : HO → Cn → Prop
  | .lst vs, .l xs => RvA E ad H vs xs
  | .dK ps, .m kvs => Rkv E ad H ps kvs
  | .dT ps, .t kvs => Rkv E ad H ps kvs
  | _, _ => False
theorem HoR.mono {u : HO} {x : Cn} (p : ad <+: ad') (g : Tm E.K H J) (h : HoR E ad H u x) : HoR E ad' J u x := by
  cases u <;> cases x <;> first | exact h.elim | exact RvA.mono p g h | exact Rkv.mono p g h
theorem HoR.mut {u : HO} {x : Cn} (h : HoR E ad H u x) : Mut (some u) := by
  cases u <;> cases x <;> first | exact h.elim | trivial
theorem HoR.ntup {u : HO} {x : Cn} (h : HoR E ad H u x) : ∀ xs, u ≠ .tup xs := fun xs e => by subst e; cases x <;> exact h.elim
/-- u stands at a; a dict may be known -/
def RdC (H : Hp) (a : Addr) (u : HO) : Prop := H a = some u ∨ ∃ o, H a = some (.frz o u) ∧ ∀ vs, u ≠ .lst vs
theorem RdC.rd {a : Addr} {u : HO} (h : RdC H a u) : Rd H a u := by
  rcases h with h | ⟨o, h, _⟩
  · exact .inl h
  · exact .inr ⟨o, h⟩
theorem RdC.lst {a : Addr} {vs : List V} (h : RdC H a (.lst vs)) : H a = some (.lst vs) := by
  rcases h with h | ⟨o, h, n⟩
  · exact h
  · exact absurd rfl (n vs)
/-- the container x is to be read at a -/
def CoR (E : En) (ad : List Addr) (H : Hp) (a : Addr) (x : Cn) : Prop := ∃ u, RdC H a u ∧ HoR E ad H u x
/-- at a stands what may be changed -/
def Xt (H : Hp) (a : Addr) : Prop := ∃ u, H a = some u ∧ Mut (some u)
theorem rd_eq {a : Addr} {u : HO} (h : J a = H a) (r : RdC H a u) : RdC J a u := by
  rcases r with r | ⟨o, r, n⟩
  · exact .inl (h.trans r)
  · exact .inr ⟨o, h.trans r, n⟩
theorem CoR.mono {a : Addr} {x : Cn} (p : ad <+: ad') (g : Tm E.K H J) (e : J a = H a) (h : CoR E ad H a x) : CoR E ad' J a x := by
  obtain ⟨u, r, q⟩ := h
  exact ⟨u, rd_eq e r, q.mono p g⟩
theorem CoR.has {a : Addr} {x : Cn} (h : CoR E ad H a x) : ∃ o, H a = some o := by
  obtain ⟨u, r | ⟨o, r, _⟩, _⟩ := h
  · exact ⟨_, r⟩
  · exact ⟨_, r⟩
theorem CoR.ex {a : Addr} {x : Cn} (h : CoR E ad H a x) (e : Xt H a) : ∃ u, H a = some u ∧ HoR E ad H u x := by
  obtain ⟨u, r | ⟨o, r, _⟩, q⟩ := h
  · exact ⟨u, r, q⟩
  · obtain ⟨v, e, m⟩ := e
    rw [r] at e
    cases e
    exact m.elim
def Ow.live (st : Sto) : Ow → Prop
  | .c k => k < st.length
  | .f i nm => ∃ C fs x, st[i]? = some (.ins C fs) ∧ (nm, FV.c false x) ∈ fs
  | .s _ => False
def Wd.at (w : Wd) : Ow → Option Addr
  | .c k => w.ad[k]?
  | .f i nm => some (w.fd i nm)
  | .s _ => none
/-- a belongs to the store -/
def Owd (w : Wd) (st : Sto) (a : Addr) : Prop := ∃ o, o.live st ∧ w.at o = some a
inductive FVR (E : En) (w : Wd) (st : Sto) (H : Hp) (i : Nat) (f : Str) : V → FV → Prop
  | d {v : V} {x : D} : Rv E w.ad H v x → FVR E w st H i f v (.d x)
  | c {x : Cn} : CoR E w.ad H (w.fd i f) x → FVR E w st H i f (.ref (w.fd i f)) (.c false x)
  | z {b : Addr} {x : Cn} : CoR E w.ad H b x → ¬ Owd w st b → FVR E w st H i f (.ref b) (.c true x)
inductive FsR (E : En) (w : Wd) (st : Sto) (H : Hp) (i : Nat) : List (Str × V) → List (Str × FV) → Prop
  | nil : FsR E w st H i [] []
  | cons {f : Str} {v : V} {x : FV} {fv : List (Str × V)} {fs : List (Str × FV)} : FVR E w st H i f v x → FsR E w st H i fv fs → FsR E w st H i ((f, v) :: fv) ((f, x) :: fs)
def CeR (E : En) (w : Wd) (st : Sto) (H : Hp) (k : Nat) (a : Addr) : Cell → Prop
  | .con x => CoR E w.ad H a x
  | .ins C fs => ∃ dx fv, H a = some (.ins (E.cls C) dx fv) ∧ FsR E w st H k fv fs
/-- the names of an instance's fields -/
def Nd (E : En) (C : Nat) (ns : List Str) : Prop := ns.Nodup ∧ ∀ f ∈ ns, (C, f) ∈ E.fl
structure SR (E : En) (w : Wd) (L : List Ow) (st : Sto) (H : Hp) : Prop where
  len : w.ad.length = st.length
  inj : ∀ o p a, o.live st → p.live st → w.at o = some a → w.at p = some a → o = p
  cell : ∀ k x, st[k]? = some x → ∃ a, w.ad[k]? = some a ∧ CeR E w st H k a x
  ex : ∀ o a, o.live st → o ∉ L → w.at o = some a → Xt H a
  nd : ∀ (k : Nat) (C : Nat) (fs : List (Str × FV)), st[k]? = some (.ins C fs) → Nd E C (fs.map (·.1))
variable {w w' : Wd} {st st' : Sto} {L L' : List Ow}
theorem FsR.get {i : Nat} {f : Str} {x : FV} : ∀ {fv : List (Str × V)} {fs : List (Str × FV)}, FsR E w st H i fv fs → fs.lookup f = some x → ∃ v, fv.lookup f = some v ∧ FVR E w st H i f v x
  | _, _, .nil, e => by simp at e
  | _, _, .cons (f := g) r t, e => by
    rw [List.lookup_cons] at e ⊢
    split at e
    · rename_i h
      have h' : f = g := by simpa using h
      subst h'
      cases e
      exact ⟨_, rfl, r⟩
    · exact FsR.get t e
theorem FsR.getI {i : Nat} {f : Str} {x : FV} : ∀ {m : Nat} {fv : List (Str × V)} {fs : List (Str × FV)}, FsR E w st H i fv fs → fs[m]? = some (f, x) → ∃ v, fv[m]? = some (f, v) ∧ FVR E w st H i f v x
  | _, _, _, .nil, e => by simp at e
  | 0, _, _, .cons r t, e => by simp at e; obtain ⟨rfl, rfl⟩ := e; exact ⟨_, rfl, r⟩
  | m + 1, _, _, .cons r t, e => by
    obtain ⟨v, h1, h2⟩ := FsR.getI (m := m) t (by simpa using e)
    exact ⟨v, by simpa using h1, h2⟩
theorem FsR.idx {i : Nat} {f : Str} {x : FV} : ∀ {fv : List (Str × V)} {fs : List (Str × FV)}, FsR E w st H i fv fs → fs.lookup f = some x → ∃ (m : Nat) (v : V), fs[m]? = some (f, x) ∧ fv[m]? = some (f, v) ∧ fv.lookup f = some v ∧ FVR E w st H i f v x
  | _, _, .nil, e => by simp at e
  | _, _, .cons (f := g) r t, e => by
    rw [List.lookup_cons] at e
    split at e
    · rename_i h
      have h' : f = g := by simpa using h
      subst h'
      cases e
      exact ⟨0, _, rfl, rfl, by rw [List.lookup_cons]; simp, r⟩
    · rename_i h
      obtain ⟨m, v, h1, h2, h3, h4⟩ := FsR.idx t e
      exact ⟨m + 1, v, by simpa using h1, by simpa using h2, by rw [List.lookup_cons, h]; exact h3, h4⟩
theorem FsR.none {i : Nat} {f : Str} : ∀ {fv : List (Str × V)} {fs : List (Str × FV)}, FsR E w st H i fv fs → fs.lookup f = none → fv.lookup f = none
  | _, _, .nil, e => rfl
  | _, _, .cons (f := g) r t, e => by
    rw [List.lookup_cons] at e ⊢
    split at e
    · cases e
    · exact FsR.none t e
theorem FsR.length {i : Nat} : ∀ {fv : List (Str × V)} {fs : List (Str × FV)}, FsR E w st H i fv fs → fv.length = fs.length
  | _, _, .nil => rfl
  | _, _, .cons _ t => by rw [List.length_cons, List.length_cons, FsR.length t]
theorem FsR.mem {i : Nat} {f : Str} {x : FV} : ∀ {fv : List (Str × V)} {fs : List (Str × FV)}, FsR E w st H i fv fs → (f, x) ∈ fs → ∃ v, FVR E w st H i f v x
  | _, _, .nil, e => by cases e
  | _, _, .cons r t, e => by
    rcases List.mem_cons.mp e with e | e
    · cases e; exact ⟨_, r⟩
    · exact FsR.mem t e
theorem mem_lookup {f : Str} {x : FV} : ∀ {fs : List (Str × FV)}, fs.lookup f = some x → (f, x) ∈ fs
  | [], e => by simp at e
  | (g, y) :: fs, e => by
    rw [List.lookup_cons] at e
    split at e
    · rename_i h
      have h' : f = g := by simpa using h
      subst h'
      cases e
      exact List.mem_cons_self
    · exact List.mem_cons_of_mem _ (mem_lookup e)
theorem SR.at {o : Ow} (S : SR E w L st H) (h : o.live st) : ∃ a, w.at o = some a := by
  cases o with
  | c k => exact ⟨_, List.getElem?_eq_some_iff.mpr ⟨by rw [S.len]; exact h, rfl⟩⟩
  | f i f => exact ⟨_, rfl⟩
  | s j => exact h.elim
/-- what may stand at an owner's place -/
def Okd (o : HO) : Prop := Mut (some o) ∨ ∃ ob u, o = .frz ob u ∧ Mut (some u)
theorem Okd.ntup {o : HO} (h : Okd o) : (∀ xs, o ≠ .tup xs) ∧ ∀ ob xs, o ≠ .frz ob (.tup xs) := by
  refine ⟨fun xs e => ?_, fun ob xs e => ?_⟩ <;> subst e <;> rcases h with h | ⟨_, u, h, m⟩
  · exact h.elim
  · cases h
  · exact h.elim
  · cases h; exact m.elim
theorem CoR.okd {a : Addr} {x : Cn} (h : CoR E ad H a x) : ∃ o, H a = some o ∧ Okd o := by
  obtain ⟨u, r | ⟨o, r, _⟩, q⟩ := h
  · exact ⟨_, r, .inl q.mut⟩
  · exact ⟨_, r, .inr ⟨o, u, rfl, q.mut⟩⟩
theorem SR.has {a : Addr} (S : SR E w L st H) (h : Owd w st a) : ∃ o, H a = some o ∧ Okd o := by
  obtain ⟨o, hl, e⟩ := h
  cases o with
  | c k =>
    have hl' : k < st.length := hl
    obtain ⟨b, e1, h⟩ := S.cell k (st[k]'hl') (List.getElem?_eq_some_iff.mpr ⟨hl', rfl⟩)
    have e2 : w.ad[k]? = some a := e
    rw [e1] at e2
    cases e2
    revert h
    cases st[k]'hl' with
    | con x => exact fun h => CoR.okd h
    | ins C fs =>
      intro h
      obtain ⟨dx, fv, h1, _⟩ := h
      exact ⟨_, h1, .inl trivial⟩
  | f i f =>
    obtain ⟨C, fs, x, h1, h2⟩ := hl
    obtain ⟨b, e1, h⟩ := S.cell i _ h1
    obtain ⟨dx, fv, h3, h4⟩ := h
    obtain ⟨v, h6⟩ := h4.mem h2
    have e2 : w.fd i f = a := Option.some.inj e
    cases h6 with
    | c h => rw [e2] at h; exact CoR.okd h
  | s j => exact hl.elim
theorem SR.nowd {a : Addr} (S : SR E w L st H) (h : H a = none) : ¬ Owd w st a := fun z => by obtain ⟨o, e, _⟩ := S.has z; rw [h] at e; cases e
theorem SR.lk (S : SR E w L st H) (h : ∀ o, o ∈ L → o.live st → o ∈ L') : SR E w L' st H := ⟨S.len, S.inj, S.cell, fun o a hl hn e => S.ex o a hl (fun z => hn (h o z hl)) e, S.nd⟩
theorem SR.lkApp (S : SR E w L st H) {l : List Ow} : SR E w (l ++ L) st H := S.lk fun o h _ => List.mem_append.mpr (.inr h)
/-- a shared container stands at b -/
def Zad (w : Wd) (st : Sto) (H : Hp) (b : Addr) : Prop := ∃ (k : Nat) (a : Addr) (C : Nat) (fs : List (Str × FV)) (c dx : Addr) (fv : List (Str × V)) (f : Str) (x : Cn) (m : Nat),
  st[k]? = some (.ins C fs) ∧ w.ad[k]? = some a ∧ H a = some (.ins c dx fv) ∧ fs[m]? = some (f, .c true x) ∧ fv[m]? = some (f, .ref b)
theorem SR.zad {b : Addr} (S : SR E w L st H) (h : Zad w st H b) : ¬ Owd w st b ∧ ∃ o, H b = some o ∧ Okd o := by
  obtain ⟨k, a, C, fs, c, dx, fv, f, x, m, h1, h2, h3, h4, h5⟩ := h
  obtain ⟨a', e1, h⟩ := S.cell k _ h1
  rw [h2] at e1
  cases e1
  obtain ⟨dx', fv', h6, h7⟩ := h
  rw [h3] at h6
  cases h6
  obtain ⟨v, h8, h9⟩ := h7.getI h4
  rw [h5] at h8
  cases h8
  cases h9 with
  | z q1 q2 => exact ⟨q2, q1.okd⟩
structure Ss where
  w : Wd
  st : Sto
  H : Hp
structure Fr (E : En) (L : List Ow) (a b : Ss) : Prop where
  ad : a.w.ad <+: b.w.ad
  tm : Tm E.K a.H b.H
  out : ∀ p o, a.H p = some o → ¬ Owd a.w a.st p → b.H p = some o
  new : ∀ p, Owd b.w b.st p → Owd a.w a.st p ∨ a.H p = none
  newz : ∀ p, Zad b.w b.st b.H p → Zad a.w a.st a.H p ∨ Owd a.w a.st p ∨ a.H p = none
  dom : ∀ p, b.H p = none → a.H p = none
  lk : ∀ o ∈ L, o.live a.st → o.live b.st ∧ b.w.at o = a.w.at o ∧ ∀ p, a.w.at o = some p → b.H p = a.H p
variable {a b c : Ss}
theorem Fr.rfl' (a : Ss) : Fr E L a a := ⟨List.prefix_refl _, Tm.rfl' _, fun _ _ e _ => e, fun _ h => .inl h, fun _ h => .inl h, fun _ h => h, fun _ _ h => ⟨h, rfl, fun _ _ => rfl⟩⟩
theorem Fr.tr (f : Fr E L a b) (g : Fr E L b c) : Fr E L a c := by
  refine ⟨f.ad.trans g.ad, f.tm.tr g.tm, fun p o e h => g.out p o (f.out p o e h) fun z => ?_, fun p h => ?_, fun p h => ?_, fun p h => f.dom p (g.dom p h), fun o h hl => ?_⟩
  · rcases f.new p z with z | z
    · exact h z
    · rw [e] at z; cases z
  · rcases g.new p h with h | h
    · exact f.new p h
    · exact .inr (f.dom p h)
  · rcases g.newz p h with h | h | h
    · exact f.newz p h
    · exact .inr (f.new p h)
    · exact .inr (.inr (f.dom p h))
  · obtain ⟨h1, h2, h3⟩ := f.lk o h hl
    obtain ⟨k1, k2, k3⟩ := g.lk o h h1
    exact ⟨k1, k2.trans h2, fun p e => (k3 p (h2.trans e)).trans (h3 p e)⟩
theorem Fr.less {L L' : List Ow} (h : ∀ o, o ∈ L' → o ∈ L) (f : Fr E L a b) : Fr E L' a b := ⟨f.ad, f.tm, f.out, f.new, f.newz, f.dom, fun o z => f.lk o (h o z)⟩
theorem Fr.nowd {p : Addr} (f : Fr E L a b) (h : ¬ Owd a.w a.st p) (e : a.H p ≠ none) : ¬ Owd b.w b.st p := fun z => by
  rcases f.new p z with z | z
  · exact h z
  · exact e z
theorem Fr.nozad {p : Addr} (f : Fr E L a b) (h : ¬ Owd a.w a.st p) (z : ¬ Zad a.w a.st a.H p) (e : a.H p ≠ none) : ¬ Zad b.w b.st b.H p := fun y => by
  rcases f.newz p y with y | y | y
  · exact z y
  · exact h y
  · exact e y
theorem Fr.stay {p : Addr} {x : Cn} (f : Fr E L a b) (h : ¬ Owd a.w a.st p) (c : CoR E a.w.ad a.H p x) : CoR E b.w.ad b.H p x ∧ ¬ Owd b.w b.st p ∧ b.H p = a.H p := by
  obtain ⟨o, e⟩ := c.has
  have e2 := f.out p o e h
  exact ⟨c.mono f.ad f.tm (e2.trans e.symm), f.nowd h (by rw [e]; intro z; cases z), e2.trans e.symm⟩
/-- a may be read as long as the locks hold -/
def Sf (w : Wd) (L : List Ow) (st : Sto) (a : Addr) : Prop := ¬ Owd w st a ∨ ∃ o ∈ L, o.live st ∧ w.at o = some a
theorem Fr.safe {p : Addr} {x : Cn} (f : Fr E L a b) (h : Sf a.w L a.st p) (c : CoR E a.w.ad a.H p x) : CoR E b.w.ad b.H p x ∧ Sf b.w L b.st p ∧ b.H p = a.H p := by
  rcases h with h | ⟨o, h1, h2, h3⟩
  · obtain ⟨k1, k2, k3⟩ := f.stay h c
    exact ⟨k1, .inl k2, k3⟩
  · obtain ⟨k1, k2, k3⟩ := f.lk o h1 h2
    have e := k3 p h3
    exact ⟨c.mono f.ad f.tm e, .inr ⟨o, h1, k1, k2.trans h3⟩, e⟩
end
end Tv
namespace Tv
open PySem L2
abbrev XB := Nat → Option (Addr × Value × Option Addr)
/-- an error: its class, what it bears -/
def XR (E : En) (ad : List Addr) (H : Hp) (cls : Value) (d : Option Addr) (x : Xc) : Prop :=
  cls = .ref (E.exc x.c) ∧ (x.x = none → d = none) ∧ ∀ y, x.x = some y → ∃ a v, d = some a ∧ H a = some (.xd [(E.xf x.c, v)]) ∧ Rv E ad H v y
/-- a container of a name's own stands at a -/
def Sod (env : Env) (σ : L2.St) (a : Addr) : Prop := ∃ (j : Nat) (x : Cn), env[j]? = some (some (.c .own x)) ∧ σ[j]? = some (some (.ref a))
/-- a list that nobody changes: written in the module, or none of ours -/
def ScL (K : PySem.W.Frag) (w : Wd) (st : Sto) (H : Hp) (env : Env) (σ : L2.St) (a : Addr) (vs : List V) : Prop := (∀ J, SqL K J a vs) ∨ (Rd H a (.lst vs) ∧ ¬ Owd w st a ∧ ¬ Sod env σ a)
inductive SlR (E : En) (xb : XB) (L0 : List Ow) (w : Wd) (L : List Ow) (st : Sto) (H : Hp) (env : Env) (σ : L2.St) (j : Nat) : V → SV → Prop
  | d {v : V} {x : D} : Rv E w.ad H v x → SlR E xb L0 w L st H env σ j v (.d x)
  | own {a : Addr} {x : Cn} : CoR E w.ad H a x → ¬ Owd w st a → (.s j ∉ L → Xt H a) → SlR E xb L0 w L st H env σ j (.ref a) (.c .own x)
  | par {a : Addr} {x : Cn} : CoR E w.ad H a x → Sf w L0 st a → ¬ Sod env σ a → SlR E xb L0 w L st H env σ j (.ref a) (.c .par x)
  | scr {a : Addr} {vs : List V} {xs : List D} : ScL E.K w st H env σ a vs → RvA E w.ad H vs xs → SlR E xb L0 w L st H env σ j (.ref a) (.c .scr (.l xs))
  | x {a : Addr} {cls : Value} {d : Option Addr} {e : Xc} : xb j = some (a, cls, d) → XR E w.ad H cls d e → SlR E xb L0 w L st H env σ j (.ref a) (.x e)
structure ER (E : En) (xb : XB) (L0 : List Ow) (w : Wd) (L : List Ow) (st : Sto) (H : Hp) (env : Env) (σ : L2.St) : Prop where
  len : env.length = σ.length
  ok : ∀ (j : Nat) (s : SV), env[j]? = some (some s) → ∃ v, σ[j]? = some (some v) ∧ SlR E xb L0 w L st H env σ j v s
  inj : ∀ (i j : Nat) (x y : Cn) (a : Addr), env[i]? = some (some (.c .own x)) → env[j]? = some (some (.c .own y)) → σ[i]? = some (some (.ref a)) → σ[j]? = some (some (.ref a)) → i = j
  zs : ∀ b, Zad w st H b → ¬ Sod env σ b
/-- a value that came up -/
inductive VR (E : En) (L0 : List Ow) (w : Wd) (st : Sto) (H : Hp) (env : Env) (σ : L2.St) (B : Hp) : V → SV → Prop
  | d {v : V} {x : D} : Rv E w.ad H v x → VR E L0 w st H env σ B v (.d x)
  | own {a : Addr} {x : Cn} : CoR E w.ad H a x → Xt H a → ¬ Owd w st a → B a = none → ¬ Zad w st H a → VR E L0 w st H env σ B (.ref a) (.c .own x)
  | atS {j : Nat} {a : Addr} {x : Cn} : env[j]? = some (some (.c .own x)) → σ[j]? = some (some (.ref a)) → CoR E w.ad H a x → ¬ Owd w st a → VR E L0 w st H env σ B (.ref a) (.c (.at (.s j)) x)
  | atF {i : Nat} {f : Str} {x : Cn} : CoR E w.ad H (w.fd i f) x → (Ow.f i f).live st → VR E L0 w st H env σ B (.ref (w.fd i f)) (.c (.at (.f i f)) x)
  | par {a : Addr} {x : Cn} : CoR E w.ad H a x → Sf w L0 st a → ¬ Sod env σ a → VR E L0 w st H env σ B (.ref a) (.c .par x)
  | scr {a : Addr} {vs : List V} {xs : List D} : ScL E.K w st H env σ a vs → RvA E w.ad H vs xs → VR E L0 w st H env σ B (.ref a) (.c .scr (.l xs))
section
variable {E : En} {xb : XB} {w w1 w2 : Wd} {L0 L L' l : List Ow} {st st1 st2 : Sto} {H H1 H2 B B' : Hp} {env : Env} {σ : L2.St} {v : V} {s : SV} {j : Nat} {a : Addr}
theorem xr_mono {E : En} {ad ad' : List Addr} {H J : Hp} {cls : Value} {d : Option Addr} {x : Xc} (p : ad <+: ad') (g : Tm E.K H J) (k : ∀ a fs, H a = some (.xd fs) → J a = some (.xd fs)) (h : XR E ad H cls d x) : XR E ad' J cls d x :=
  ⟨h.1, h.2.1, fun y e => by obtain ⟨a, v, h1, h2, h3⟩ := h.2.2 y e; exact ⟨a, v, h1, k _ _ h2, h3.mono p g⟩⟩
theorem SR.nxd {fs : List (Str × V)} (S : SR E w L st H) (h : H a = some (.xd fs)) : ¬ Owd w st a := fun z => by
  obtain ⟨o, e, k⟩ := S.has z
  rw [h] at e
  cases e
  rcases k with k | ⟨_, _, k, _⟩
  · exact k.elim
  · cases k
theorem XR.fr {cls : Value} {d : Option Addr} {x : Xc} (S : SR E w L st H) (f : Fr E L' ⟨w, st, H⟩ ⟨w1, st1, H1⟩) (h : XR E w.ad H cls d x) : XR E w1.ad H1 cls d x :=
  xr_mono f.ad f.tm (fun a fs e => f.out a _ e (S.nxd e)) h
theorem rd_has {u : HO} (h : Rd H a u) : H a ≠ none := by
  rcases h with h | ⟨o, h⟩ <;> rw [h] <;> intro z <;> cases z
theorem rd_fr {u : HO} (f : Fr E L ⟨w, st, H⟩ ⟨w1, st1, H1⟩) (n : ¬ Owd w st a) (h : Rd H a u) : Rd H1 a u := by
  rcases h with h | ⟨o, h⟩
  · exact .inl (f.out _ _ h n)
  · exact .inr ⟨o, f.out _ _ h n⟩
theorem ScL.fr {vs : List V} (f : Fr E L ⟨w, st, H⟩ ⟨w1, st1, H1⟩) (h : ScL E.K w st H env σ a vs) : ScL E.K w1 st1 H1 env σ a vs := by
  rcases h with h | ⟨h1, h2, h3⟩
  · exact .inl h
  · exact .inr ⟨rd_fr f h2 h1, f.nowd h2 (rd_has h1), h3⟩
theorem ScL.sq {K : PySem.W.Frag} {vs : List V} (h : ScL K w st H env σ a vs) : SqL K H a vs := by
  rcases h with h | ⟨h1, _, _⟩
  · exact h H
  · exact .inl h1
theorem SlR.fr (f : Fr E L ⟨w, st, H⟩ ⟨w1, st1, H1⟩) (hl : ∀ o ∈ L0, o ∈ L) (S : SR E w L st H) (h : SlR E xb L0 w L st H env σ j v s) : SlR E xb L0 w1 L st1 H1 env σ j v s := by
  cases h with
  | d h => exact .d (h.mono f.ad f.tm)
  | own h1 h2 h3 =>
    obtain ⟨k1, k2, k3⟩ := f.stay h2 h1
    exact .own k1 k2 fun z => by obtain ⟨u, e, m⟩ := h3 z; exact ⟨u, k3.trans e, m⟩
  | par h1 h2 h3 =>
    obtain ⟨k1, k2, k3⟩ := (f.less hl).safe h2 h1
    exact .par k1 k2 h3
  | scr h1 h2 => exact .scr (h1.fr f) (h2.mono f.ad f.tm)
  | x h1 h2 => exact .x h1 (h2.fr S f)
theorem ER.sod (R : ER E xb L0 w L st H env σ) (h : Sod env σ a) : ¬ Owd w st a ∧ ∃ o, H a = some o ∧ Okd o := by
  obtain ⟨j, x, h1, h2⟩ := h
  obtain ⟨v, e1, e2⟩ := R.ok j _ h1
  rw [h2] at e1
  cases e1
  cases e2 with
  | own k1 k2 k3 => exact ⟨k2, k1.okd⟩
theorem ER.fr (S : SR E w L st H) (hl : ∀ o ∈ L0, o ∈ L) (f : Fr E L ⟨w, st, H⟩ ⟨w1, st1, H1⟩) (R : ER E xb L0 w L st H env σ) : ER E xb L0 w1 L st1 H1 env σ :=
  ⟨R.len, fun j s e => by obtain ⟨v, h1, h2⟩ := R.ok j s e; exact ⟨v, h1, h2.fr f hl S⟩, R.inj, fun b z k => by
    obtain ⟨k1, o, k2, k3⟩ := R.sod k
    rcases f.newz b z with z | z | z
    · exact R.zs b z k
    · exact k1 z
    · have k2' : H b = some o := k2
      have z' : H b = none := z
      rw [k2'] at z'; cases z'⟩
theorem ER.lk (h : ∀ o ∈ L, o ∈ L') (R : ER E xb L0 w L st H env σ) : ER E xb L0 w L' st H env σ :=
  ⟨R.len, fun j s e => by
    obtain ⟨v, h1, h2⟩ := R.ok j s e
    refine ⟨v, h1, ?_⟩
    cases h2 with
    | d k1 => exact .d k1
    | own k1 k2 k3 => exact .own k1 k2 fun z => k3 fun y => z (h _ y)
    | par k1 k2 k3 => exact .par k1 k2 k3
    | scr k1 k2 => exact .scr k1 k2
    | x k1 k2 => exact .x k1 k2, R.inj, R.zs⟩
theorem VR.fr (f : Fr E L ⟨w, st, H⟩ ⟨w1, st1, H1⟩) (h0 : ∀ o ∈ L0, o ∈ L) (hl : ∀ o ∈ lockOf s, o ∈ L) (h : VR E L0 w st H env σ B v s) : VR E L0 w1 st1 H1 env σ B v s := by
  cases h with
  | d h => exact .d (h.mono f.ad f.tm)
  | own h1 h2 h3 h4 h5 =>
    obtain ⟨k1, k2, k3⟩ := f.stay h3 h1
    obtain ⟨u, e, m⟩ := h2
    exact .own k1 ⟨u, k3.trans e, m⟩ k2 h4 (f.nozad h3 h5 (by obtain ⟨o, z⟩ := h1.has; intro y; have z' := z; rw [show H _ = none from y] at z'; cases z'))
  | atS h1 h2 h3 h4 =>
    obtain ⟨k1, k2, k3⟩ := f.stay h4 h3
    exact .atS h1 h2 k1 k2
  | @atF i f' x h1 h2 =>
    obtain ⟨k1, k2, k3⟩ := f.lk (.f i f') (hl _ (by simp [lockOf])) h2
    have e : w1.fd i f' = w.fd i f' := Option.some.inj k2
    have e2 := k3 (w.fd i f') rfl
    have c := h1.mono f.ad f.tm e2
    rw [← e] at c ⊢
    exact .atF c k1
  | par h1 h2 h3 =>
    obtain ⟨k1, k2, k3⟩ := (f.less h0).safe h2 h1
    exact .par k1 k2 h3
  | scr h1 h2 => exact .scr (h1.fr f) (h2.mono f.ad f.tm)
theorem VR.base (h : VR E L0 w st H env σ B v s) (k : ∀ a, B a = none → B' a = none) : VR E L0 w st H env σ B' v s := by
  cases h with
  | d h => exact .d h
  | own h1 h2 h3 h4 h5 => exact .own h1 h2 h3 (k _ h4) h5
  | atS h1 h2 h3 h4 => exact .atS h1 h2 h3 h4
  | atF h1 h2 => exact .atF h1 h2
  | par h1 h2 h3 => exact .par h1 h2 h3
  | scr h1 h2 => exact .scr h1 h2
/-- a lock is taken away again -/
theorem SR.unlk (S : SR E w L st H) (f : Fr E (l ++ L) ⟨w, st, H⟩ ⟨w1, st1, H1⟩) (S1 : SR E w1 (l ++ L) st1 H1) (hl : ∀ o ∈ l, ∀ st', o.live st' → o.live st) : SR E w1 L st1 H1 :=
  ⟨S1.len, S1.inj, S1.cell, fun o a h1 h2 h3 => by
    by_cases hm : o ∈ l
    · have h4 := hl o hm st1 h1
      obtain ⟨k1, k2, k3⟩ := f.lk o (List.mem_append.mpr (.inl hm)) h4
      have e := k2.symm.trans h3
      obtain ⟨u, e1, m⟩ := S.ex o a h4 h2 e
      exact ⟨u, (k3 a e).trans e1, m⟩
    · exact S1.ex o a h1 (fun z => by rcases List.mem_append.mp z with z | z; exact hm z; exact h2 z) h3, S1.nd⟩
theorem VR.live (h : VR E L0 w st H env σ B v s) : ∀ o ∈ lockOf s, ∀ st', o.live st' → o.live st := by
  intro o ho st' k
  cases h with
  | d h => simp [lockOf] at ho
  | own h1 h2 h3 h4 h5 => simp [lockOf] at ho
  | atS h1 h2 h3 h4 =>
    simp [lockOf] at ho
    subst ho
    exact k.elim
  | atF h1 h2 =>
    simp [lockOf] at ho
    subst ho
    exact h2
  | par h1 h2 h3 => simp [lockOf] at ho
  | scr h1 h2 => simp [lockOf] at ho
def OkR {α β : Type} (E : En) (W : WX) (L : List Ow) (w : Wd) (st : Sto) (σ : L2.St) (H : Hp) (R : Wd → Sto → Hp → β → α → Prop) (Q : β → Hp → Prop) : Out α → Prop
  | .ok a st' => ∀ w' H' b, SR E w' L st' H' → Fr E L ⟨w, st, H⟩ ⟨w', st', H'⟩ → R w' st' H' b a → Q b H'
  | .ex x st' => ∀ w' H' cls d, SR E w' L st' H' → Fr E L ⟨w, st, H⟩ ⟨w', st', H'⟩ → XR E w'.ad H' cls d x → W cls d σ H'
theorem OkR.from {α β : Type} {W : WX} {R R' : Wd → Sto → Hp → β → α → Prop} {Q : β → Hp → Prop} {r : Out α} (h : OkR E W L w st σ H R Q r) (f : Fr E L ⟨w, st, H⟩ ⟨w1, st1, H1⟩) (hR : ∀ w' st' H' b a, R' w' st' H' b a → R w' st' H' b a) : OkR E W L w1 st1 σ H1 R' Q r := by
  cases r with
  | ok a st' => exact fun w' H' b S' f' r' => h w' H' b S' (f.tr f') (hR _ _ _ _ _ r')
  | ex x st' => exact fun w' H' cls d S' f' r' => h w' H' cls d S' (f.tr f') r'
theorem OkR.lk {α β : Type} {W : WX} {R : Wd → Sto → Hp → β → α → Prop} {Q : β → Hp → Prop} {r : Out α} (S : SR E w L st H) (hl : ∀ o ∈ l, ∀ st', o.live st' → o.live st) (h : OkR E W L w st σ H R Q r) : OkR E W (l ++ L) w st σ H R Q r := by
  cases r with
  | ok a st' => exact fun w' H' b S' f' r' => h w' H' b (S.unlk f' S' hl) (f'.less fun o z => List.mem_append.mpr (.inr z)) r'
  | ex x st' => exact fun w' H' cls d S' f' r' => h w' H' cls d (S.unlk f' S' hl) (f'.less fun o z => List.mem_append.mpr (.inr z)) r'
/-- the reading of a piece of code, told by the evaluator -/
def SG {α β : Type} (P : Prog) (n : Nat) (E : En) (xb : XB) (W : WX) (R : List Ow → Wd → Sto → Hp → Env → L2.St → Hp → β → α → Prop) (t : L2.St → Hp → (β → Hp → Prop) → Prop) (e : Cl → Env → Sto → Res α) : Prop :=
  ∀ (L0 L : List Ow) (w : Wd) (env : Env) (st : Sto) (σ : L2.St) (H : Hp), (∀ o ∈ L0, o ∈ L) → SR E w L st H → ER E xb L0 w L st H env σ → ∀ r, e (P.cl (P.call n) L) env st = some r → ∀ Q, OkR E W L w st σ H (fun w' st' H' b a => R L0 w' st' H' env σ H b a) Q r → t σ H Q
abbrev RV (E : En) : List Ow → Wd → Sto → Hp → Env → L2.St → Hp → V → SV → Prop := fun L0 w st H env σ B v s => VR E L0 w st H env σ B v s
abbrev RB : List Ow → Wd → Sto → Hp → Env → L2.St → Hp → Bool → Bool → Prop := fun _ _ _ _ _ _ _ b c => b = c
abbrev SE (P : Prog) (n : Nat) (E : En) (xb : XB) (W : WX) (t : TE) (e : Ex) : Prop := SG P n E xb W (RV E) t (fun c env st => ev c e env st)
abbrev STe (P : Prog) (n : Nat) (E : En) (xb : XB) (W : WX) (t : TT) (e : Tx) : Prop := SG P n E xb W RB t (fun c env st => evT c e env st)
variable {P : Prog} {n : Nat} {W : WX}
theorem sg_go {α β γ δ : Type} {Ra : List Ow → Wd → Sto → Hp → Env → L2.St → Hp → β → α → Prop} {ta : L2.St → Hp → (β → Hp → Prop) → Prop} {fa : Cl → Env → Sto → Res α} {k : α → Sto → Res γ} {r : Out γ} {Rc : Wd → Sto → Hp → δ → γ → Prop} {Q : δ → Hp → Prop} {Qt : β → Hp → Prop}
    (ha : SG P n E xb W Ra ta fa) (h0 : ∀ o ∈ L0, o ∈ L) (S : SR E w L st H) (R : ER E xb L0 w L st H env σ) (h : rb (fa (P.cl (P.call n) L) env st) k = some r) (hQ : OkR E W L w st σ H Rc Q r)
    (hk : ∀ a st1 w1 H1 x, SR E w1 L st1 H1 → ER E xb L0 w1 L st1 H1 env σ → Fr E L ⟨w, st, H⟩ ⟨w1, st1, H1⟩ → Ra L0 w1 st1 H1 env σ H x a → k a st1 = some r → OkR E W L w1 st1 σ H1 Rc Q r → Qt x H1) : ta σ H Qt := by
  cases e : fa (P.cl (P.call n) L) env st with
  | none => rw [e] at h; cases h
  | some o =>
    rw [e] at h
    cases o with
    | ok a st1 => exact ha L0 L w env st σ H h0 S R _ e Qt fun w1 H1 x S1 f1 r1 => hk a st1 w1 H1 x S1 (R.fr S h0 f1) f1 r1 h (hQ.from f1 fun _ _ _ _ _ z => z)
    | ex x st1 =>
      have h' : Out.ex x st1 = r := Option.some.inj h
      subst h'
      exact ha L0 L w env st σ H h0 S R _ e Qt hQ
/-- with further locks -/
theorem sg_golk {α β γ δ : Type} {Ra : List Ow → Wd → Sto → Hp → Env → L2.St → Hp → β → α → Prop} {ta : L2.St → Hp → (β → Hp → Prop) → Prop} {fa : Cl → Env → Sto → Res α} {k : α → Sto → Res γ} {r : Out γ} {Rc : Wd → Sto → Hp → δ → γ → Prop} {Q : δ → Hp → Prop} {Qt : β → Hp → Prop}
    (ha : SG P n E xb W Ra ta fa) (h0 : ∀ o ∈ L0, o ∈ L) (S : SR E w L st H) (R : ER E xb L0 w L st H env σ) (hl : ∀ o ∈ l, ∀ st', o.live st' → o.live st) (h : rb (fa ((P.cl (P.call n) L).lk l) env st) k = some r) (hQ : OkR E W L w st σ H Rc Q r)
    (hk : ∀ a st1 w1 H1 x, SR E w1 L st1 H1 → ER E xb L0 w1 L st1 H1 env σ → Fr E (l ++ L) ⟨w, st, H⟩ ⟨w1, st1, H1⟩ → Ra L0 w1 st1 H1 env σ H x a → k a st1 = some r → OkR E W L w1 st1 σ H1 Rc Q r → Qt x H1) : ta σ H Qt := by
  have hll : ∀ o ∈ L, o ∈ l ++ L := fun o z => List.mem_append.mpr (.inr z)
  have h0' : ∀ o ∈ L0, o ∈ l ++ L := fun o z => hll o (h0 o z)
  have e0 : (P.cl (P.call n) L).lk l = P.cl (P.call n) (l ++ L) := rfl
  rw [e0] at h
  cases e : fa (P.cl (P.call n) (l ++ L)) env st with
  | none => rw [e] at h; cases h
  | some o =>
    rw [e] at h
    cases o with
    | ok a st1 => exact ha L0 (l ++ L) w env st σ H h0' S.lkApp (R.lk hll) _ e Qt fun w1 H1 x S1 f1 r1 => hk a st1 w1 H1 x (S.unlk f1 S1 hl) (R.fr S h0 (f1.less hll)) f1 r1 h (hQ.from (f1.less hll) fun _ _ _ _ _ z => z)
    | ex x st1 =>
      have h' : Out.ex x st1 = r := Option.some.inj h
      subst h'
      exact ha L0 (l ++ L) w env st σ H h0' S.lkApp (R.lk hll) _ e Qt (OkR.lk (R := fun w' st' H' b a => Ra L0 w' st' H' env σ H b a) S hl (r := .ex x st1) (fun w' H' cls d S' f' r' => hQ w' H' cls d S' f' r'))
theorem tm_lay {K : PySem.W.Frag} {p : Addr} {o : HO} (hp : H p = none) : Tm K H (upd H p o) := fun a xs h => by
  rw [upd_ne (ne_of_none h hp)]; exact h
theorem SR.ne {p : Addr} (S : SR E w L st H) (hp : H p = none) (h : Owd w st a) : a ≠ p := fun z => by
  subst z
  exact S.nowd hp h
theorem CeR.of {k : Nat} {x : Cell} (S : SR E w L st H) (g : Tm E.K H H1) (e : ∀ a, Owd w st a ∨ (∃ o, H a = some o ∧ Okd o) → H1 a = H a) (hk : k < st.length) (ha : w.ad[k]? = some a) (h : CeR E w st H k a x) (hx : st[k]? = some x) : CeR E w st H1 k a x := by
  have ho : Owd w st a := ⟨.c k, hk, ha⟩
  cases x with
  | con x => exact CoR.mono (List.prefix_refl _) g (e a (.inl ho)) h
  | ins C fs =>
    obtain ⟨dx, fv, h1, h2⟩ := h
    refine ⟨dx, fv, (e a (.inl ho)).trans h1, ?_⟩
    clear h1 hx
    induction h2 with
    | nil => exact .nil
    | cons r t ih =>
      refine .cons ?_ ih
      cases r with
      | d r => exact .d (r.mono (List.prefix_refl _) g)
      | c r => exact .c (r.mono (List.prefix_refl _) g (e _ (.inr r.okd)))
      | z r n => exact .z (r.mono (List.prefix_refl _) g (e _ (.inr r.okd))) n
theorem SR.lay {p : Addr} {o : HO} (S : SR E w L st H) (hp : H p = none) : SR E w L st (upd H p o) := by
  refine ⟨S.len, S.inj, fun k x e => ?_, fun q a h1 h2 h3 => ?_, S.nd⟩
  · obtain ⟨a, e1, h⟩ := S.cell k x e
    refine ⟨a, e1, CeR.of S (tm_lay hp) (fun b hb => upd_ne ?_) (List.getElem?_eq_some_iff.mp e).1 e1 h e⟩
    rcases hb with hb | ⟨u, hb, _⟩
    · exact S.ne hp hb
    · exact ne_of_none hb hp
  · obtain ⟨u, e, m⟩ := S.ex q a h1 h2 h3
    exact ⟨u, by rw [upd_ne (ne_of_none e hp)]; exact e, m⟩
theorem zad_lay {p b : Addr} {o : HO} (S : SR E w L st H) (hp : H p = none) (h : Zad w st (upd H p o) b) : Zad w st H b := by
  obtain ⟨k, c', C, fs, c, dx, fv, f, x, m, h1, h2, h3, h4, h5⟩ := h
  have hb : Owd w st c' := ⟨.c k, (List.getElem?_eq_some_iff.mp h1).1, h2⟩
  exact ⟨k, c', C, fs, c, dx, fv, f, x, m, h1, h2, by rw [← h3]; exact (upd_ne (S.ne hp hb)).symm, h4, h5⟩
theorem nozad_lay {p : Addr} {o : HO} (S : SR E w L st H) (hp : H p = none) : ¬ Zad w st (upd H p o) p := fun z => by
  obtain ⟨_, u, e, _⟩ := S.zad (zad_lay S hp z)
  rw [hp] at e
  cases e
theorem Fr.lay {p : Addr} {o : HO} (S : SR E w L' st H) (hp : H p = none) : Fr E L ⟨w, st, H⟩ ⟨w, st, upd H p o⟩ := by
  refine ⟨List.prefix_refl _, tm_lay hp, fun a u e _ => (upd_ne (ne_of_none e hp)).trans e, fun a h => .inl h, fun a h => .inl (zad_lay S hp h), fun a h => ?_, fun q hq hl => ⟨hl, rfl, fun a e => upd_ne (S.ne hp ⟨q, hl, e⟩)⟩⟩
  have h' : upd H p o a = none := h
  unfold upd at h'
  split at h'
  · cases h'
  · exact h'
theorem VR.lst {xs : List D} (S : SR E w L st H) (h : VR E L0 w st H env σ B v s) (e : cnOf s st = some (.l xs)) : ∃ a vs, v = .ref a ∧ SqL E.K H a vs ∧ RvA E w.ad H vs xs := by
  have go : ∀ {a : Addr}, CoR E w.ad H a (.l xs) → ∃ b vs, V.ref a = .ref b ∧ SqL E.K H b vs ∧ RvA E w.ad H vs xs := fun {a} c => by
    obtain ⟨u, r, q⟩ := c
    cases u <;> try exact q.elim
    exact ⟨_, _, rfl, .inl r.rd, q⟩
  cases h with
  | @d v x r =>
    cases x <;> try (cases e; done)
    rename_i k
    obtain ⟨a, rfl, e2⟩ := r.ref_of
    change (match st[k]? with | some (.con x) => some x | _ => none) = some (.l xs) at e
    split at e
    · rename_i x e3
      cases e
      obtain ⟨b, k1, k2⟩ := S.cell _ _ e3
      rw [e2] at k1
      cases k1
      exact go k2
    · cases e
  | own h1 h2 h3 h4 h5 => cases e; exact go h1
  | atS h1 h2 h3 h4 => cases e; exact go h3
  | atF h1 h2 => cases e; exact go h1
  | par h1 h2 h3 => cases e; exact go h1
  | scr h1 h2 => cases e; exact ⟨_, _, rfl, h1.sq, h2⟩
theorem VR.lstH {xs : List D} (S : SR E w L st H) (h : VR E L0 w st H env σ B v s) (e : cnOf s st = some (.l xs)) (t : trk s = true) : ∃ a vs, v = .ref a ∧ H a = some (.lst vs) ∧ RvA E w.ad H vs xs := by
  have go : ∀ {a : Addr}, CoR E w.ad H a (.l xs) → ∃ b vs, V.ref a = .ref b ∧ H b = some (.lst vs) ∧ RvA E w.ad H vs xs := fun {a} c => by
    obtain ⟨u, r, q⟩ := c
    cases u <;> try exact q.elim
    exact ⟨_, _, rfl, r.lst, q⟩
  cases h with
  | @d v x r =>
    cases x <;> try (cases e; done)
    rename_i k
    obtain ⟨a, rfl, e2⟩ := r.ref_of
    change (match st[k]? with | some (.con x) => some x | _ => none) = some (.l xs) at e
    split at e
    · rename_i x e3
      cases e
      obtain ⟨b, k1, k2⟩ := S.cell _ _ e3
      rw [e2] at k1
      cases k1
      exact go k2
    · cases e
  | own h1 h2 h3 h4 h5 => cases e; exact go h1
  | atS h1 h2 h3 h4 => cases e; exact go h3
  | atF h1 h2 => cases e; exact go h1
  | par h1 h2 h3 => cases e; exact go h1
  | scr h1 h2 => cases t
theorem VR.dic {kvs : List (Key × D)} (S : SR E w L st H) (h : VR E L0 w st H env σ B v s) (e : cnOf s st = some (.m kvs)) : ∃ a ps, v = .ref a ∧ Rd H a (.dK ps) ∧ Rkv E w.ad H ps kvs := by
  have go : ∀ {a : Addr}, CoR E w.ad H a (.m kvs) → ∃ b ps, V.ref a = .ref b ∧ Rd H b (.dK ps) ∧ Rkv E w.ad H ps kvs := fun {a} c => by
    obtain ⟨u, r, q⟩ := c
    cases u <;> try exact q.elim
    exact ⟨_, _, rfl, r.rd, q⟩
  cases h with
  | @d v x r =>
    cases x <;> try (cases e; done)
    rename_i k
    obtain ⟨a, rfl, e2⟩ := r.ref_of
    change (match st[k]? with | some (.con x) => some x | _ => none) = some (.m kvs) at e
    split at e
    · rename_i x e3
      cases e
      obtain ⟨b, k1, k2⟩ := S.cell _ _ e3
      rw [e2] at k1
      cases k1
      exact go k2
    · cases e
  | own h1 h2 h3 h4 h5 => cases e; exact go h1
  | atS h1 h2 h3 h4 => cases e; exact go h3
  | atF h1 h2 => cases e; exact go h1
  | par h1 h2 h3 => cases e; exact go h1
  | scr h1 h2 => cases e
theorem VR.dit {kvs : List (List Key × D)} (S : SR E w L st H) (h : VR E L0 w st H env σ B v s) (e : cnOf s st = some (.t kvs)) : ∃ a ps, v = .ref a ∧ Rd H a (.dT ps) ∧ Rkv E w.ad H ps kvs := by
  have go : ∀ {a : Addr}, CoR E w.ad H a (.t kvs) → ∃ b ps, V.ref a = .ref b ∧ Rd H b (.dT ps) ∧ Rkv E w.ad H ps kvs := fun {a} c => by
    obtain ⟨u, r, q⟩ := c
    cases u <;> try exact q.elim
    exact ⟨_, _, rfl, r.rd, q⟩
  cases h with
  | @d v x r =>
    cases x <;> try (cases e; done)
    rename_i k
    obtain ⟨a, rfl, e2⟩ := r.ref_of
    change (match st[k]? with | some (.con x) => some x | _ => none) = some (.t kvs) at e
    split at e
    · rename_i x e3
      cases e
      obtain ⟨b, k1, k2⟩ := S.cell _ _ e3
      rw [e2] at k1
      cases k1
      exact go k2
    · cases e
  | own h1 h2 h3 h4 h5 => cases e; exact go h1
  | atS h1 h2 h3 h4 => cases e; exact go h3
  | atF h1 h2 => cases e; exact go h1
  | par h1 h2 h3 => cases e; exact go h1
  | scr h1 h2 => cases e
theorem VR.tup {xs : List D} (h : VR E L0 w st H env σ B v (.d (.tup xs))) : ∃ a vs, v = .ref a ∧ TuR E H a vs xs ∧ RvA E w.ad H vs xs := by
  cases h with
  | d r => exact r.tup_of
theorem VR.dd {x : D} (h : VR E L0 w st H env σ B v (.d x)) : Rv E w.ad H v x := by cases h with | d r => exact r
theorem VR.int {i : Int} (h : VR E L0 w st H env σ B v (.d (.int i))) : v = .int i := h.dd.int_of
theorem VR.bl {i : Bool} (h : VR E L0 w st H env σ B v (.d (.bl i))) : v = .bl i := h.dd.bl_of
theorem VR.str {i : Str} (h : VR E L0 w st H env σ B v (.d (.str i))) : v = .str i := h.dd.str_of
theorem VR.non (h : VR E L0 w st H env σ B v (.d .non)) : v = .non := h.dd.non_of
end
end Tv
namespace Tv
open PySem L2
def OwnIn (a : Addr) (vs : List V) (ss : List SV) : Prop := ∃ (i : Nat) (x : Cn), vs[i]? = some (.ref a) ∧ ss[i]? = some (.c .own x)
inductive VRs (E : En) (L0 : List Ow) (w : Wd) (st : Sto) (H : Hp) (env : Env) (σ : L2.St) (B : Hp) : List V → List SV → Prop
  | nil : VRs E L0 w st H env σ B [] []
  | cons {v : V} {s : SV} {vs : List V} {ss : List SV} : VR E L0 w st H env σ B v s → VRs E L0 w st H env σ B vs ss → (∀ a x, v = .ref a → s = .c .own x → ¬ OwnIn a vs ss) → VRs E L0 w st H env σ B (v :: vs) (s :: ss)
abbrev RVs (E : En) : List Ow → Wd → Sto → Hp → Env → L2.St → Hp → List V → List SV → Prop := fun L0 w st H env σ B v s => VRs E L0 w st H env σ B v s
abbrev SA (P : Prog) (n : Nat) (E : En) (xb : XB) (W : WX) (t : TA) (es : Exs) : Prop := SG P n E xb W (RVs E) t (fun c env st => evs c es env st)
section
variable {E : En} {xb : XB} {w w1 w2 : Wd} {L0 L L' l : List Ow} {st st1 st2 : Sto} {H H1 H2 B B' : Hp} {env : Env} {σ : L2.St} {v : V} {s : SV} {vs : List V} {ss : List SV} {j : Nat} {a : Addr} {P : Prog} {n : Nat} {W : WX}
theorem VRs.base (h : VRs E L0 w st H env σ B vs ss) (k : ∀ a, B a = none → B' a = none) : VRs E L0 w st H env σ B' vs ss := by
  induction h with
  | nil => exact .nil
  | cons h t d ih => exact .cons (h.base k) ih d
theorem VRs.own (h : VRs E L0 w st H env σ B vs ss) (o : OwnIn a vs ss) : B a = none := by
  obtain ⟨i, x, h1, h2⟩ := o
  induction h generalizing i with
  | nil => simp at h1
  | cons h t d ih =>
    cases i with
    | zero =>
      simp at h1 h2
      subst h1 h2
      cases h with
      | own _ _ _ k _ => exact k
    | succ i => exact ih i (by simpa using h1) (by simpa using h2)
theorem VRs.length (h : VRs E L0 w st H env σ B vs ss) : vs.length = ss.length := by
  induction h with
  | nil => rfl
  | cons h t d ih => rw [List.length_cons, List.length_cons, ih]
theorem sa_nil : SA P n E xb W tNil .nil := fun L0 L w env st σ H h0 S R r e Q hQ => by
  have e' : some (Out.ok [] st) = some r := e
  cases e'
  exact hQ w H [] S (Fr.rfl' _) .nil
theorem sa_cons {te : TE} {ta : TA} {e : Ex} {es : Exs} (he : SE P n E xb W te e) (hes : SA P n E xb W ta es) : SA P n E xb W (tCons te ta) (.cons e es) := by
  intro L0 L w env st σ H h0 S R r h Q hQ
  show te σ H fun x H1 => ta σ H1 fun xs H2 => Q (x :: xs) H2
  refine sg_go he h0 S R h hQ fun u st1 w1 H1 x S1 R1 f1 v1 h hQ => ?_
  refine sg_golk hes h0 S1 R1 v1.live h hQ fun us st2 w2 H2 xs S2 R2 f2 v2 h hQ => ?_
  have e' : some (Out.ok (u :: us) st2) = some r := h
  cases e'
  refine hQ w2 H2 (x :: xs) S2 (Fr.rfl' _) (.cons (v1.fr f2 (fun o z => List.mem_append.mpr (.inr (h0 o z))) (fun o z => List.mem_append.mpr (.inl z))) (v2.base f1.dom) fun a y e1 e2 k => ?_)
  subst e1 e2
  have h1 := v2.own k
  cases v1 with
  | own k1 _ _ _ _ => obtain ⟨o, k2⟩ := k1.has; have h1' : H1 a = none := h1; rw [k2] at h1'; cases h1'
def OpS (E : En) (r : R2) (f : SV → SV → Sto → Res SV) : Prop := ∀ (L0 L : List Ow) (w : Wd) (env : Env) (st : Sto) (σ : L2.St) (H : Hp) (xb : XB) (x y : V) (u v : SV) (B B' : Hp), SR E w L st H → ER E xb L0 w L st H env σ → VR E L0 w st H env σ B x u → VR E L0 w st H env σ B' y v →
  ∀ r', f u v st = some r' → ∀ (W : WX) (Q : VK), OkR E W L w st σ H (fun w' st' H' b a => VR E L0 w' st' H' env σ H b a) Q r' → r x y H Q
theorem se_op {r : R2} {f : SV → SV → Sto → Res SV} {ta tb : TE} {e a b : Ex} (hf : OpS E r f) (ha : SE P n E xb W ta a) (hb : SE P n E xb W tb b)
    (he : ∀ c env st, ev c e env st = rb (ev c a env st) fun u st => rb (ev (c.lk (lockOf u)) b env st) fun w st => f u w st) : SE P n E xb W (tOp r ta tb) e := by
  intro L0 L w env st σ H h0 S R r' h Q hQ
  have h := (he _ _ _).symm.trans h
  show ta σ H fun x H1 => tb σ H1 fun y H2 => r x y H2 Q
  refine sg_go ha h0 S R h hQ fun u st1 w1 H1 x S1 R1 f1 v1 h hQ1 => ?_
  refine sg_golk hb h0 S1 R1 v1.live h hQ1 fun u2 st2 w2 H2 y S2 R2 f2 v2 h hQ2 => ?_
  refine hf L0 L w2 env st2 σ H2 xb x y u u2 H H1 S2 R2 (v1.fr f2 (fun o z => List.mem_append.mpr (.inr (h0 o z))) (fun o z => List.mem_append.mpr (.inl z))) v2 _ h W Q ?_
  exact hQ2.from (Fr.rfl' _) fun w' st' H' b a z => z.base fun p q => f1.dom p (f2.dom p q)
theorem ok_inj {α : Type} {a : α} {st : Sto} {r : Out α} (h : ok a st = some r) : r = .ok a st := (Option.some.inj h).symm
/-- an answer that is there at once -/
theorem okr_now {α β : Type} {R : Wd → Sto → Hp → β → α → Prop} {Q : β → Hp → Prop} {a : α} {b : β} (hQ : OkR E W L w st σ H R Q (.ok a st)) (S : SR E w L st H) (h : R w st H b a) : Q b H := hQ w H b S (Fr.rfl' _) h
theorem okr_lay {β : Type} {R : Wd → Sto → Hp → β → SV → Prop} {Q : β → Hp → Prop} {x : SV} {b : β} {p : Addr} {o : HO} (hQ : OkR E W L w st σ H R Q (.ok x st)) (S : SR E w L st H) (hp : H p = none) (h : R w st (upd H p o) b x) : Q b (upd H p o) := hQ w _ b (S.lay hp) (Fr.lay S hp) h
theorem vr_new {xs : List D} {p : Addr} (S : SR E w L st H) (hp : H p = none) (h : RvA E w.ad H vs xs) : VR E L0 w st (upd H p (.lst vs)) env σ H (.ref p) (.c .own (.l xs)) :=
  .own ⟨_, .inl upd_same, h.mono (List.prefix_refl _) (tm_lay hp)⟩ ⟨_, upd_same, trivial⟩ (S.nowd hp) hp (nozad_lay S hp)
theorem vr_tup {xs : List D} {p : Addr} (hp : H p = none) (h : RvA E w.ad H vs xs) : VR E L0 w st (upd H p (.tup vs)) env σ B (.ref p) (.d (.tup xs)) :=
  .d (.tup (.inl upd_same) (h.mono (List.prefix_refl _) (tm_lay hp)))
def rAddX (K : PySem.W.Frag) : R2 := fun x y H Q => rI0 (fun i j => .int (i + j)) x y H Q ∨ rCatA K x y H Q ∨ rCat x y H Q ∨ ∃ i j, x = .str i ∧ y = .str j ∧ i.length + j.length ≤ sizeLine ∧ Q (.str (i ++ j)) H
end
end Tv
namespace Tv
open PySem L2
section
variable {E : En} {xb : XB} {w w1 w2 : Wd} {L0 L L' l : List Ow} {st st1 st2 : Sto} {H H1 H2 B B' : Hp} {env : Env} {σ : L2.St} {v : V} {s : SV} {vs : List V} {ss : List SV} {j : Nat} {a : Addr} {P : Prog} {n : Nat} {W : WX} {X : Cx}
theorem bin_ints {o : Bo} {u v : SV} {r : Out SV} (ho : o ≠ .add) (h : bin o u v st = some r) : ∃ i j, u = .d (.int i) ∧ v = .d (.int j) := by
  unfold bin at h
  split at h <;> first | exact ⟨_, _, rfl, rfl⟩ | exact absurd rfl ho | cases h
theorem os_ints {o : Bo} {r : R2} (ho : o ≠ .add) (hr : ∀ i j st r', bin o (.d (.int i)) (.d (.int j)) st = some r' → ∃ k, r' = .ok (.d (.int k)) st ∧ ∀ (H : Hp) (Q : VK), Q (.int k) H → r (.int i) (.int j) H Q) : OpS E r (bin o) := by
  intro L0 L w env st σ H xb x y u v B B' S R hx hy r' h W Q hQ
  obtain ⟨i, j, rfl, rfl⟩ := bin_ints ho h
  obtain ⟨k, rfl, hk⟩ := hr i j st r' h
  rw [hx.int, hy.int]
  exact hk H Q (okr_now hQ S (.d (.int k)))
theorem os_sub : OpS E (rI0 fun i j => .int (i - j)) (bin .sub) := os_ints (by decide) fun i j st r' h => by
  cases ok_inj h
  exact ⟨_, rfl, fun H Q q => ⟨i, j, rfl, rfl, q⟩⟩
theorem op_orI {f : Value → Value → Sem Value} {r r' : R2} (h : OpR X f r) (h' : OpR X f r') : OpR X f (fun x y H Q => r x y H Q ∨ r' x y H Q) := by
  intro pins s σ H x y v u Q I rx ry q
  rcases q with q | q
  · exact h pins s σ H x y v u Q I rx ry q
  · exact h' pins s σ H x y v u Q I rx ry q
def rMulX : R2 := fun x y H Q => rI CMul (fun i j => .int (i * j)) x y H Q ∨ rI CMulW (fun i j => .int (i * j)) x y H Q
theorem os_mul : OpS E rMulX (bin .mul) := os_ints (by decide) fun i j st r' h => by
  have h' : (if mulOk i j then ok (SV.d (.int (i * j))) st else none) = some r' := h
  split at h'
  · rename_i hm
    cases ok_inj h'
    refine ⟨_, rfl, fun H Q q => ?_⟩
    unfold mulOk at hm
    simp only [Bool.or_eq_true, Bool.and_eq_true, decide_eq_true_eq] at hm
    rcases hm with hm | hm | hm
    · exact .inl ⟨i, j, rfl, rfl, .inl hm, q⟩
    · exact .inl ⟨i, j, rfl, rfl, .inr hm, q⟩
    · exact .inr ⟨i, j, rfl, rfl, hm, q⟩
  · cases h'
theorem o_mul : OpR X (binaryOp .Mult) rMulX := op_orI op_mul op_mulW
theorem os_div : OpS E (rI CDivW fun i j => .int (i / j)) (bin .div) := os_ints (by decide) fun i j st r' h => by
  have h' : (if divOk j then ok (SV.d (.int (i / j))) st else none) = some r' := h
  split at h'
  · rename_i hm
    cases ok_inj h'
    unfold divOk at hm
    simp only [Bool.and_eq_true, decide_eq_true_eq] at hm
    exact ⟨_, rfl, fun H Q q => ⟨i, j, rfl, rfl, hm, q⟩⟩
  · cases h'
theorem os_mod : OpS E (rI (fun _ j => 0 < j) fun i j => .int (i % j)) (bin .mod) := os_ints (by decide) fun i j st r' h => by
  have h' : (if 0 < j then ok (SV.d (.int (i % j))) st else none) = some r' := h
  split at h'
  · rename_i hm
    cases ok_inj h'
    exact ⟨_, rfl, fun H Q q => ⟨i, j, rfl, rfl, hm, q⟩⟩
  · cases h'
theorem os_pow : OpS E (rI CPow fun i j => .int (i ^ j.toNat)) (bin .pow) := os_ints (by decide) fun i j st r' h => by
  have h' : (if powOk i j then ok (SV.d (.int (i ^ j.toNat))) st else none) = some r' := h
  split at h'
  · rename_i hm
    cases ok_inj h'
    unfold powOk at hm
    simp only [Bool.and_eq_true, decide_eq_true_eq] at hm
    exact ⟨_, rfl, fun H Q q => ⟨i, j, rfl, rfl, hm, q⟩⟩
  · cases h'
theorem rva_nil {ad : List Addr} {xs : List D} (h : RvA E ad H [] xs) : xs = [] := by cases h; rfl
theorem os_add : OpS E (rAddX E.K) (bin .add) := by
  intro L0 L w env st σ H xb x y u v B B' S R hx hy r' h W Q hQ
  unfold bin at h
  split at h
  · cases ok_inj h
    rw [hx.int, hy.int]
    exact .inl ⟨_, _, rfl, rfl, okr_now hQ S (.d (.int _))⟩
  all_goals try (rename_i he; cases he; done)
  all_goals try (cases h; done)
  all_goals try (rename_i he _ _; cases he; done)
  · split at h
    · cases ok_inj h
      rw [hx.str, hy.str]
      exact .inr (.inr (.inr ⟨_, _, rfl, rfl, by assumption, okr_now hQ S (.d (.str _))⟩))
    · cases h
  · rename_i xs ys
    split at h
    · rename_i hl
      cases ok_inj h
      obtain ⟨a, vs, rfl, h1, h2⟩ := hx.tup
      obtain ⟨b, us, rfl, h3, h4⟩ := hy.tup
      refine .inr (.inl ⟨a, b, vs, us, rfl, rfl, h1.sq, h3.sq, by rw [h2.length, h4.length]; exact hl, fun e => ?_, fun e1 e2 => ?_, fun _ _ p hp => ?_⟩)
      · subst e
        have e := rva_nil h2
        subst e
        exact okr_now hQ S (.d (.tup h3 h4))
      · subst e2
        have e := rva_nil h4
        subst e
        rw [List.append_nil] at hQ
        exact okr_now hQ S (.d (.tup h1 h2))
      · exact okr_lay hQ S hp (vr_tup hp (h2.app h4))
    · cases h
  · split at h
    · rename_i e1 e2
      split at h
      · rename_i hc
        cases ok_inj h
        simp only [Bool.and_eq_true, decide_eq_true_eq] at hc
        obtain ⟨a, vs, rfl, h1, h2⟩ := hx.lstH S e1 hc.1.1
        obtain ⟨b, us, rfl, h3, h4⟩ := hy.lstH S e2 hc.1.2
        refine .inr (.inr (.inl ⟨a, b, vs, us, rfl, rfl, h1, h3, by rw [h2.length, h4.length]; exact hc.2, fun p hp => ?_⟩))
        exact okr_lay hQ S hp (vr_new S hp (h2.app h4))
      · cases h
    · cases h
theorem o_add : OpR X (binaryOp .Add) (rAddX X.K) := op_orI op_add (op_orI op_catA (op_orI op_cat op_add_str))
def cmpF (kt : List (List D)) (o : Co) : SV → SV → Sto → Res SV := fun u w st => match cmp kt o u w st with
  | some b => ok (.d (.bl b)) st
  | none => none
theorem cmpF_inv {kt : List (List D)} {o : Co} {u v : SV} {r : Out SV} (h : cmpF kt o u v st = some r) : ∃ b, cmp kt o u v st = some b ∧ r = .ok (.d (.bl b)) st := by
  unfold cmpF at h
  split at h
  · rename_i b e
    exact ⟨b, e, ok_inj h⟩
  · cases h
theorem os_cmp {kt : List (List D)} {o : Co} {r : R2} (hr : ∀ (L0 L : List Ow) (w : Wd) (env : Env) (st : Sto) (σ : L2.St) (H : Hp) (x y : V) (u v : SV) (B B' : Hp) (b : Bool), SR E w L st H → VR E L0 w st H env σ B x u → VR E L0 w st H env σ B' y v → cmp kt o u v st = some b → ∀ Q : VK, Q (.bl b) H → r x y H Q) : OpS E r (cmpF kt o) := by
  intro L0 L w env st σ H xb x y u v B B' S R hx hy r' h W Q hQ
  obtain ⟨b, e, rfl⟩ := cmpF_inv h
  exact hr L0 L w env st σ H x y u v B B' b S hx hy e Q (okr_now hQ S (.d (.bl b)))
theorem cmp_ints {kt : List (List D)} {o : Co} {u v : SV} {b : Bool} (ho : o = .lt ∨ o = .le ∨ o = .gt ∨ o = .ge) (h : cmp kt o u v st = some b) : ∃ i j, u = .d (.int i) ∧ v = .d (.int j) := by
  unfold cmp at h
  rcases ho with rfl | rfl | rfl | rfl <;> (simp only at h; split at h; exact ⟨_, _, rfl, rfl⟩; cases h)
theorem os_lt {kt : List (List D)} : OpS E (rI0 fun i j => .bl (decide (i < j))) (cmpF kt .lt) := os_cmp fun L0 L w env st σ H x y u v B B' b S hx hy h Q q => by
  obtain ⟨i, j, rfl, rfl⟩ := cmp_ints (.inl rfl) h
  cases h
  exact ⟨i, j, hx.int, hy.int, q⟩
theorem os_gt {kt : List (List D)} : OpS E (rI0 fun i j => .bl (decide (j < i))) (cmpF kt .gt) := os_cmp fun L0 L w env st σ H x y u v B B' b S hx hy h Q q => by
  obtain ⟨i, j, rfl, rfl⟩ := cmp_ints (.inr (.inr (.inl rfl))) h
  cases h
  exact ⟨i, j, hx.int, hy.int, q⟩
theorem os_ge {kt : List (List D)} : OpS E (rI0 fun i j => .bl (decide (j ≤ i))) (cmpF kt .ge) := os_cmp fun L0 L w env st σ H x y u v B B' b S hx hy h Q q => by
  obtain ⟨i, j, rfl, rfl⟩ := cmp_ints (.inr (.inr (.inr rfl))) h
  cases h
  exact ⟨i, j, hx.int, hy.int, q⟩
mutual
theorem dp_lookW {g : Nat → Option PyData} {ad : List Addr} (G : ∀ k a d, ad[k]? = some a → g k = some d → Dp E.K H (.ref a) d) : ∀ {x : D} {v : V} {d : PyData}, Rv E ad H v x → D.lookW g x = some d → Dp E.K H v d
  | .non, v, d, r, h => by cases r; cases (show some PyData.none = some d from h); exact .non
  | .bl b, v, d, r, h => by cases r; cases (show some (PyData.bool b) = some d from h); exact .bl b
  | .int i, v, d, r, h => by cases r; cases (show some (PyData.int i) = some d from h); exact .int i
  | .str s, v, d, r, h => by cases r; cases (show some (PyData.str s) = some d from h); exact .str s
  | .tup xs, v, d, r, h => by
    obtain ⟨a, vs, rfl, h1, h2⟩ := r.tup_of
    have h' : (D.looksW g xs).map PyData.tuple = some d := h
    cases e : D.looksW g xs with
    | none => rw [e] at h'; cases h'
    | some ds =>
      rw [e] at h'
      cases h'
      exact .tup h1.sq (dp_looksW G h2 e)
  | .ref k, v, d, r, h => by
    obtain ⟨a, rfl, e⟩ := r.ref_of
    exact G k a d e h
  | .fn f, v, d, r, h => by cases h
theorem dp_looksW {g : Nat → Option PyData} {ad : List Addr} (G : ∀ k a d, ad[k]? = some a → g k = some d → Dp E.K H (.ref a) d) : ∀ {xs : List D} {vs : List V} {ds : List PyData}, RvA E ad H vs xs → D.looksW g xs = some ds → DpAll E.K H vs ds
  | [], vs, ds, r, h => by cases r; cases (show some ([] : List PyData) = some ds from h); exact .nil
  | x :: xs, vs, ds, r, h => by
    cases r with
    | cons r1 r2 =>
      have h' : (match D.lookW g x, D.looksW g xs with | some d, some ds => some (d :: ds) | _, _ => none) = some ds := h
      split at h'
      · rename_i d ds' e1 e2
        cases h'
        exact .cons (dp_lookW G r1 e1) (dp_looksW G r2 e2)
      · cases h'
end
theorem dp_ref (S : SR E w L st H) : ∀ (n k : Nat) (a : Addr) (d : PyData), w.ad[k]? = some a → refAt st n k = some d → Dp E.K H (.ref a) d
  | 0, k, a, d, e, h => by cases h
  | n + 1, k, a, d, e, h => by
    have h' : (match st[k]? with | some (.con (.l xs)) => (D.looksW (refAt st n) xs).map PyData.list | _ => none) = some d := h
    split at h'
    · rename_i xs e2
      obtain ⟨b, k1, k2⟩ := S.cell _ _ e2
      rw [e] at k1
      cases k1
      obtain ⟨u, q1, q2⟩ := (show CoR E w.ad H a (.l xs) from k2)
      cases u <;> try exact q2.elim
      cases e3 : D.looksW (refAt st n) xs with
      | none => rw [e3] at h'; cases h'
      | some ds =>
        rw [e3] at h'
        cases h'
        exact .lst (.inl q1.rd) (dp_looksW (dp_ref S n) q2 e3)
    · cases h'
theorem dp_look (S : SR E w L st H) {n : Nat} {x : D} {v : V} {d : PyData} (r : Rv E w.ad H v x) (h : D.look st n x = some d) : Dp E.K H v d := dp_lookW (dp_ref S n) r h
theorem dp_looks (S : SR E w L st H) {n : Nat} {xs : List D} {vs : List V} {ds : List PyData} (r : RvA E w.ad H vs xs) (h : D.looks st n xs = some ds) : DpAll E.K H vs ds := dp_looksW (dp_ref S n) r h
theorem shp_inv {o : Option PyData} {d : PyData} (h : shp? o = some d) : o = some d ∧ SeqAt.shaped d = true := by
  unfold shp? at h
  split at h
  · split at h
    · cases h; exact ⟨rfl, by assumption⟩
    · cases h
  · cases h
theorem dp_pyD (S : SR E w L st H) {x : D} {v : V} {d : PyData} (r : Rv E w.ad H v x) (h : pyD st x = some d) : Dp E.K H v d ∧ SeqAt.shaped d = true := by
  obtain ⟨h1, h2⟩ := shp_inv h
  exact ⟨dp_look S r h1, h2⟩
theorem dp_pyL (S : SR E w L st H) {xs : List D} {d : PyData} (q : SqL E.K H a vs) (r : RvA E w.ad H vs xs) (h : pyL st xs = some d) : Dp E.K H (.ref a) d ∧ SeqAt.shaped d = true := by
  obtain ⟨h1, h2⟩ := shp_inv h
  refine ⟨?_, h2⟩
  cases e : D.looks st depthL xs with
  | none => rw [e] at h1; cases h1
  | some ds =>
    rw [e] at h1
    cases h1
    exact .lst q (dp_looks S r e)
theorem dp_pyS (S : SR E w L st H) {d : PyData} (r : VR E L0 w st H env σ B v s) (h : pyS st s = some d) : Dp E.K H v d ∧ SeqAt.shaped d = true := by
  unfold pyS at h
  split at h
  · exact dp_pyD S r.dd h
  · obtain ⟨a, vs, rfl, q1, q2⟩ := r.lst S rfl
    exact dp_pyL S q1 q2 h
  · cases h
/-- dicts of flat values that are equal -/
def EqM (x y : V) (H : Hp) : Prop := ∃ a b ks ls, x = .ref a ∧ y = .ref b ∧ Rd H a (.dK ks) ∧ Rd H b (.dK ls) ∧ ks.length = ls.length ∧ ∀ p ∈ ks, valV ls p.1 = some p.2 ∧ flatB p.2 = true
theorem dict_at2 {X : Cx} {pins : List (Addr × Obj)} {σ : L2.St} {H : Hp} {s : Shared} {a : Addr} {ks : List (Key × V)} (I : Inv X pins σ H s) (h : Rd H a (.dK ks)) :
    (a == sysModules) = false ∧ ∃ va : List (Key × Value), KV ks va ∧ s.heap.DictOf (mixKind X.prog X.w) a va := by
  rcases h with h | ⟨o, h⟩
  · obtain ⟨_, z, va, ra, d⟩ := (show ObjOk X.prog X.w H s.heap a (.dK ks) from I.hok a _ h)
    exact ⟨z, va, ra, d⟩
  · obtain ⟨_, _, z, va, ra, d⟩ := (show ObjOk X.prog X.w H s.heap a (.frz o (.dK ks)) from I.hok a _ h)
    exact ⟨z, va, ra, d⟩
def rEqX (K : PySem.W.Frag) : R2 := fun x y H Q => rEq x y H Q ∨ rEqD K x y H Q ∨ EqM x y H ∧ Q (.bl true) H
def rNeX (K : PySem.W.Frag) : R2 := fun x y H Q => rNe x y H Q ∨ rNeD K x y H Q ∨ EqM x y H ∧ Q (.bl false) H
theorem op_eqM {X : Cx} (hu : X.A.units < cLine) : OpR X (compareOp .Eq) (fun x y H Q => EqM x y H ∧ Q (.bl true) H) := by
  intro pins s σ H x y v u Q I rx ry h
  obtain ⟨⟨a, b, ks, ls, rfl, rfl, ea, eb, hlen, hp⟩, q⟩ := h
  obtain rfl : v = Value.ref a := rx
  obtain rfl : u = Value.ref b := ry
  obtain ⟨ya, va, ra, da⟩ := dict_at2 I ea
  obtain ⟨yb, vb, rb, db⟩ := dict_at2 I eb
  have hl : va.length = vb.length := by rw [← ra.length, ← rb.length]; exact hlen
  exact PySem.W.keq_eq (knd := mixKind X.prog X.w) (r := true) ya yb da db hu (fun _ => hits_all rb ra hp) (fin_bl I q (by simp [hl]))
theorem op_neM {X : Cx} (hu : X.A.units < cLine) : OpR X (compareOp .NotEq) (fun x y H Q => EqM x y H ∧ Q (.bl false) H) := by
  intro pins s σ H x y v u Q I rx ry h
  obtain ⟨⟨a, b, ks, ls, rfl, rfl, ea, eb, hlen, hp⟩, q⟩ := h
  obtain rfl : v = Value.ref a := rx
  obtain rfl : u = Value.ref b := ry
  obtain ⟨ya, va, ra, da⟩ := dict_at2 I ea
  obtain ⟨yb, vb, rb, db⟩ := dict_at2 I eb
  have hl : va.length = vb.length := by rw [← ra.length, ← rb.length]; exact hlen
  exact PySem.W.keq_ne (knd := mixKind X.prog X.w) (r := true) ya yb da db hu (fun _ => hits_all rb ra hp) (fin_bl I q (by simp [hl]))
theorem o_eq {X : Cx} (hu : X.A.units + 64 < cLine) : OpR X (compareOp .Eq) (rEqX X.K) := op_orI op_eq (op_orI (op_eqD hu) (op_eqM (by omega)))
theorem o_ne {X : Cx} (hu : X.A.units + 64 < cLine) : OpR X (compareOp .NotEq) (rNeX X.K) := op_orI op_ne (op_orI (op_neD hu) (op_neM (by omega)))
theorem dec_int {i j : Int} : decide (V.int i = V.int j) = decide (i = j) := by
  by_cases h : i = j
  · subst h; simp
  · have : ¬ (V.int i = V.int j) := fun z => h (by cases z; rfl)
    rw [decide_eq_false h, decide_eq_false this]
theorem dec_bl {i j : Bool} : decide (V.bl i = V.bl j) = decide (i = j) := by cases i <;> cases j <;> rfl
theorem dec_str {i j : Str} : decide (V.str i = V.str j) = decide (i = j) := by
  by_cases h : i = j
  · subst h; simp
  · have : ¬ (V.str i = V.str j) := fun z => h (by cases z; rfl)
    rw [decide_eq_false h, decide_eq_false this]
theorem rva_find {w : Wd} {k : Key} {y : D} : ∀ {ps : List (Key × V)} {kvs : List (Key × D)}, ps.map (·.1) = kvs.map (·.1) → RvA E w.ad H (ps.map (·.2)) (kvs.map (·.2)) → lookK kvs k = some y → ∃ v, valV ps k = some v ∧ Rv E w.ad H v y
  | [], [], _, _, e => by cases e
  | [], q :: kvs, h, _, _ => by cases h
  | p :: ps, [], h, _, _ => by cases h
  | p :: ps, q :: kvs, h1, h2, e => by
    rw [List.map_cons, List.map_cons, List.cons.injEq] at h1
    rw [List.map_cons, List.map_cons] at h2
    cases h2 with
    | cons r t =>
      by_cases hk : q.1 = k
      · have e' : lookK (q :: kvs) k = some q.2 := by simp [lookK, List.find?_cons, hk]
        rw [e'] at e
        cases e
        exact ⟨_, valV_pos (h1.1.trans hk), r⟩
      · have e' : lookK (q :: kvs) k = lookK kvs k := by simp [lookK, List.find?_cons, hk]
        rw [e'] at e
        obtain ⟨v, a1, a2⟩ := rva_find h1.2 t e
        refine ⟨v, ?_, a2⟩
        have hk' : ¬ p.1 = k := fun z => hk (h1.1.symm.trans z)
        show ((p :: ps).find? fun kv => decide (kv.1 = k)).map (·.2) = some v
        rw [List.find?_cons, decide_eq_false hk']
        exact a1
theorem rv_flat {w : Wd} {v u : V} {y : D} (h : Rv E w.ad H v y) (h2 : Rv E w.ad H u y) (hf : y.flat = true) : u = v ∧ flatB v = true := by
  cases h <;> cases h2 <;> first | exact ⟨rfl, rfl⟩ | cases hf
theorem eqM_sound (S : SR E w L st H) {x y : V} {u v : SV} {b : Bool} (hx : VR E L0 w st H env σ B x u) (hy : VR E L0 w st H env σ B' y v) (h : eqM (cnOf u st) (cnOf v st) = some b) : EqM x y H ∧ b = true := by
  unfold eqM at h
  split at h
  · rename_i ks ls e1 e2
    split at h
    · rename_i hc
      cases h
      refine ⟨?_, rfl⟩
      rw [Bool.and_eq_true, decide_eq_true_eq] at hc
      obtain ⟨a, ps, rfl, a1, a2⟩ := hx.dic S e1
      obtain ⟨c, qs, rfl, c1, c2⟩ := hy.dic S e2
      refine ⟨a, c, ps, qs, rfl, rfl, a1, c1, ?_, fun p hp => ?_⟩
      · have h1 := congrArg List.length a2.1
        have h2 := congrArg List.length c2.1
        simp only [List.length_map] at h1 h2
        omega
      · obtain ⟨i, hi⟩ := List.mem_iff_getElem?.mp hp
        have hi1 : (ps.map (·.2))[i]? = some p.2 := by rw [List.getElem?_map, hi]; rfl
        obtain ⟨y, hy1, hy2⟩ := a2.2.getV hi1
        have hk : (ps.map (·.1))[i]? = some p.1 := by rw [List.getElem?_map, hi]; rfl
        rw [a2.1] at hk
        rw [List.getElem?_map] at hk hy1
        cases hks : ks[i]? with
        | none => rw [hks] at hk; cases hk
        | some q =>
          rw [hks] at hk hy1
          have hk' : q.1 = p.1 := Option.some.inj hk
          have hy' : q.2 = y := Option.some.inj hy1
          subst hy'
          have hq := List.all_eq_true.mp hc.2 q (List.mem_of_getElem? hks)
          rw [Bool.and_eq_true, decide_eq_true_eq] at hq
          obtain ⟨v, v1, v2⟩ := rva_find c2.1 c2.2 hq.1
          obtain ⟨f1, f2⟩ := rv_flat hy2 v2 hq.2
          rw [f1, hk'] at v1
          exact ⟨v1, f2⟩
    · cases h
  · cases h
theorem eqS_sound (S : SR E w L st H) {x y : V} {u v : SV} {b : Bool} (hx : VR E L0 w st H env σ B x u) (hy : VR E L0 w st H env σ B' y v) (h : eqS u v st = some b) :
    (scal x y = true ∧ decide (x = y) = b) ∨ (∃ d e, Dp E.K H x d ∧ Dp E.K H y e ∧ SeqAt.shaped d = true ∧ SeqAt.shaped e = true ∧ PyData.eqv d e = b) ∨ (EqM x y H ∧ b = true) := by
  unfold eqS at h
  split at h
  · rename_i i j
    cases h
    rw [hx.int, hy.int]
    exact .inl ⟨rfl, dec_int⟩
  · cases h
    rw [hx.str, hy.str]
    exact .inl ⟨rfl, dec_str⟩
  · cases h
    rw [hx.bl, hy.bl]
    exact .inl ⟨rfl, dec_bl⟩
  · cases hr : eqP (pyS st u) (pyS st v) with
    | some r =>
      rw [hr] at h
      cases (show some r = some b from h)
      unfold eqP at hr
      split at hr
      · rename_i d e h1 h2
        cases hr
        obtain ⟨k1, k2⟩ := dp_pyS S hx h1
        obtain ⟨k3, k4⟩ := dp_pyS S hy h2
        exact .inr (.inl ⟨d, e, k1, k3, k2, k4, rfl⟩)
      · cases hr
    | none =>
      rw [hr] at h
      exact .inr (.inr (eqM_sound S hx hy h))
theorem os_eq {kt : List (List D)} : OpS E (rEqX E.K) (cmpF kt .eq) := os_cmp fun L0 L w env st σ H x y u v B B' b S hx hy h Q q => by
  rcases eqS_sound S hx hy h with ⟨h1, h2⟩ | ⟨d, e, h1, h2, h3, h4, h5⟩ | ⟨h1, h2⟩
  · exact .inl ⟨h1, by rw [h2]; exact q⟩
  · exact .inr (.inl ⟨d, e, h1, h2, h3, h4, by rw [h5]; exact q⟩)
  · exact .inr (.inr ⟨h1, by rw [← h2]; exact q⟩)
theorem os_ne {kt : List (List D)} : OpS E (rNeX E.K) (cmpF kt .ne) := os_cmp fun L0 L w env st σ H x y u v B B' b S hx hy h Q q => by
  have h' : (eqS u v st).map (!·) = some b := h
  cases e : eqS u v st with
  | none => rw [e] at h'; cases h'
  | some c =>
    rw [e] at h'
    cases h'
    rcases eqS_sound S hx hy e with ⟨h1, h2⟩ | ⟨d, e, h1, h2, h3, h4, h5⟩ | ⟨h1, h2⟩
    · exact .inl ⟨h1, by rw [h2]; exact q⟩
    · exact .inr (.inl ⟨d, e, h1, h2, h3, h4, by rw [h5]; exact q⟩)
    · subst h2
      exact .inr (.inr ⟨h1, q⟩)
/-- what is no truth value -/
def rIsO : R2 := fun x y H Q => ∃ b : Bool, y = .bl b ∧ (x = .non ∨ (∃ i, x = .int i) ∨ (∃ z, x = .str z) ∨ ∃ a, x = .ref a) ∧ Q (.bl false) H
def rIsX : R2 := fun x y H Q => (y = .non ∧ Q (.bl (decide (x = .non))) H) ∨ rIsB x y H Q ∨ rIsO x y H Q
theorem op_isO : OpR X (compareOp .Is) rIsO := by
  intro pins s σ H x y v u Q I rx ry h
  obtain ⟨b, rfl, hx, q⟩ := h
  cases (show u = Value.bool b from ry)
  rcases hx with rfl | ⟨i, rfl⟩ | ⟨z, rfl⟩ | ⟨a, rfl⟩
  · cases (show v = Value.none from rx)
    exact wpAny_is_other rfl (fun z => by cases z) ⟨.bl false, H, I, rfl, q⟩
  · obtain ⟨t, rfl⟩ := (show ∃ t, v = Value.int i t from rx)
    exact wpAny_is_other rfl (fun z => by cases z) ⟨.bl false, H, I, rfl, q⟩
  · obtain ⟨t, rfl⟩ := (show ∃ t, v = Value.str z t from rx)
    exact wpAny_is_other rfl (fun z => by cases z) ⟨.bl false, H, I, rfl, q⟩
  · cases (show v = Value.ref a from rx)
    exact wpAny_is_other rfl (fun z => by cases z) ⟨.bl false, H, I, rfl, q⟩
theorem o_is : OpR X (compareOp .Is) rIsX := op_orI op_isN (op_orI op_isBl op_isO)
theorem VR.isN {x : V} {u : SV} {b : Bool} (h : VR E L0 w st H env σ B x u) (e : (match u with | .d x => some (decide (x = .non)) | .c _ _ => some false | _ => none) = some b) : decide (x = .non) = b := by
  cases h with
  | d r => cases e; cases r <;> rfl
  | own => cases e; rfl
  | atS => cases e; rfl
  | atF => cases e; rfl
  | par => cases e; rfl
  | scr => cases e; rfl
end
end Tv
namespace Tv
open PySem L2
section
variable {E : En} {xb : XB} {w w1 w2 : Wd} {L0 L L' l : List Ow} {st st1 st2 : Sto} {H H1 H2 B B' : Hp} {env : Env} {σ : L2.St} {v : V} {s : SV} {vs : List V} {ss : List SV} {j : Nat} {a : Addr} {P : Prog} {n : Nat} {W : WX} {X : Cx}
theorem os_is {kt : List (List D)} : OpS E rIsX (cmpF kt .is) := os_cmp fun L0 L w env st σ H x y u v B B' b S hx hy h Q q => by
  unfold cmp at h
  simp only at h
  split at h
  · rw [hy.non]
    exact .inl ⟨rfl, by rw [hx.isN (b := b) (by cases u <;> exact h)]; exact q⟩
  · split at h
    · cases h
      rw [hx.bl, hy.bl]
      exact .inr (.inl ⟨_, _, rfl, rfl, q⟩)
    · cases h
      rename_i z nz
      rw [hy.bl]
      refine .inr (.inr ⟨_, rfl, ?_, q⟩)
      have r := hx.dd
      cases r with
      | non => exact .inl rfl
      | bl b => exact absurd rfl (nz b)
      | int i => exact .inr (.inl ⟨_, rfl⟩)
      | str z => exact .inr (.inr (.inl ⟨_, rfl⟩))
      | tup _ _ => exact .inr (.inr (.inr ⟨_, rfl⟩))
      | ref _ => exact .inr (.inr (.inr ⟨_, rfl⟩))
      | fn f => exact .inr (.inr (.inr ⟨_, rfl⟩))
    · cases h
  · cases h
theorem room_in (hu : X.A.units + 65 < cLine) {ds : List PyData} {d : PyData} (sd : SeqAt.shaped d = true) : X.A.units + 1 + min (PyData.depthAll ds) d.depth < cLine := PyProof.Rows.room_in_shaped sd hu
def rInTup (K : PySem.W.Frag) (neg : Bool) : R2 := fun x y H Q => ∃ d ds, Dp K H x d ∧ Dp K H y (.tuple ds) ∧ SeqAt.shaped d = true ∧ SeqAt.shaped (.tuple ds) = true ∧ Q (.bl (if neg then !(ds.any fun z => PyData.eqv z d) else ds.any fun z => PyData.eqv z d)) H
def rInDc (neg : Bool) : R2 := fun x y H Q => ∃ a o, y = .ref a ∧ DGet H a x o ∧ Q (.bl (if neg then !o.isSome else o.isSome)) H
theorem op_inTup (hu : X.A.units + 65 < cLine) : OpR X (compareOp .In) (rInTup X.K false) := by
  intro pins s σ H x y v u Q I rx ry h
  obtain ⟨d, ds, hd, he, sd, se, q⟩ := h
  obtain ⟨as, r1⟩ := Dp.reads I d x v hd rx
  obtain ⟨bs, r2⟩ := Dp.reads I (.tuple ds) y u he ry
  exact SeqAt.in_tuple_reads r2 r1 (SeqAt.canLay_of_shaped se) (SeqAt.canLay_of_shaped sd) (room_in hu sd) ⟨.bl _, H, I, rfl, q⟩
theorem op_ninTup (hu : X.A.units + 65 < cLine) : OpR X (compareOp .NotIn) (rInTup X.K true) := by
  intro pins s σ H x y v u Q I rx ry h
  obtain ⟨d, ds, hd, he, sd, se, q⟩ := h
  obtain ⟨as, r1⟩ := Dp.reads I d x v hd rx
  obtain ⟨bs, r2⟩ := Dp.reads I (.tuple ds) y u he ry
  exact SeqAt.notIn_tuple_reads r2 r1 (SeqAt.canLay_of_shaped se) (SeqAt.canLay_of_shaped sd) (room_in hu sd) ⟨.bl _, H, I, rfl, q⟩
theorem op_inDc (hu : X.A.units + 1 < cLine) : OpR X (compareOp .In) (rInDc false) := by
  intro pins s σ H x y v u Q I rx ry h
  obtain ⟨a, o, rfl, g, q⟩ := h
  obtain rfl : u = Value.ref a := ry
  exact d_in hu I g rx fun s3 I3 => ⟨.bl o.isSome, H, I3, rfl, q⟩
theorem op_ninDc (hu : X.A.units + 1 < cLine) : OpR X (compareOp .NotIn) (rInDc true) := by
  intro pins s σ H x y v u Q I rx ry h
  obtain ⟨a, o, rfl, g, q⟩ := h
  obtain rfl : u = Value.ref a := ry
  exact d_notIn hu I g rx fun s3 I3 => ⟨.bl (!o.isSome), H, I3, rfl, q⟩
def rInStr (neg : Bool) : R2 := fun x y H Q => ∃ (c : Nat) (z : Str), x = .str ⟨#[c]⟩ ∧ y = .str z ∧ Q (.bl (if neg then !decide (c ∈ z.cps.toList) else decide (c ∈ z.cps.toList))) H
def rInX (K : PySem.W.Frag) : R2 := fun x y H Q => rInStr false x y H Q ∨ rInTup K false x y H Q ∨ rInD K x y H Q ∨ rInDc false x y H Q
def rNotInX (K : PySem.W.Frag) : R2 := fun x y H Q => rInStr true x y H Q ∨ rInTup K true x y H Q ∨ rNotInD K x y H Q ∨ rInDc true x y H Q
theorem o_in (hu : X.A.units + 65 < cLine) : OpR X (compareOp .In) (rInX X.K) := op_orI op_in_sign (op_orI (op_inTup hu) (op_orI (op_inD hu) (op_inDc (by omega))))
theorem o_notin (hu : X.A.units + 65 < cLine) : OpR X (compareOp .NotIn) (rNotInX X.K) := op_orI op_notIn_sign (op_orI (op_ninTup hu) (op_orI (op_notInD hu) (op_ninDc (by omega))))
theorem kvK {ad : List Addr} {x : D} {k : Key} {v : V} (h : Rv E ad H v x) (e : keyOf x = some k) : v = kV k := by
  cases h <;> cases e <;> rfl
theorem kvKs {ad : List Addr} : ∀ {xs : List D} {ks : List Key} {vs : List V}, RvA E ad H vs xs → keysOf xs = some ks → vs = ks.map kV
  | [], ks, vs, h, e => by cases h; cases e; rfl
  | x :: xs, ks, vs, h, e => by
    cases h with
    | cons r t =>
      have e' : (match keyOf x, keysOf xs with | some k, some ks => some (k :: ks) | _, _ => none) = some ks := e
      split at e'
      · rename_i k ks' e1 e2
        cases e'
        rw [kvK r e1, kvKs t e2, List.map_cons]
      · cases e'
theorem look_kv {κ : Type} [DecidableEq κ] {ad : List Addr} (k : κ) : ∀ {ps : List (κ × V)} {kvs : List (κ × D)}, Rkv E ad H ps kvs → (∀ x, look kvs k = some x → ∃ v, valV ps k = some v ∧ Rv E ad H v x) ∧ (look kvs k = none → valV ps k = none)
  | [], [], h => ⟨fun x e => (by cases e), fun _ => rfl⟩
  | p :: ps, q :: kvs, h => by
    obtain ⟨h1, h2⟩ := h
    rw [List.map_cons, List.map_cons] at h1 h2
    cases h2 with
    | cons r t =>
      have e1 : p.1 = q.1 := (List.cons.inj h1).1
      have ih := look_kv k (ps := ps) (kvs := kvs) ⟨(List.cons.inj h1).2, t⟩
      by_cases hk : q.1 = k
      · have l1 : look (q :: kvs) k = some q.2 := by unfold look; rw [List.find?_cons_of_pos (by simpa using hk)]; rfl
        rw [l1, valV_pos (e1.trans hk)]
        exact ⟨fun x e => by cases e; exact ⟨_, rfl, r⟩, fun e => by cases e⟩
      · have l1 : look (q :: kvs) k = look kvs k := by unfold look; rw [List.find?_cons_of_neg (by simpa using hk)]
        rw [l1, valV_neg (by rw [e1]; exact hk)]
        exact ih
  | [], q :: kvs, h => by have z := h.1; simp at z
  | p :: ps, [], h => by have z := h.1; simp at z
theorem look_some {κ : Type} [DecidableEq κ] {ad : List Addr} {k : κ} {ps : List (κ × V)} {kvs : List (κ × D)} (h : Rkv E ad H ps kvs) : (valV ps k).isSome = (look kvs k).isSome := by
  cases e : look kvs k with
  | none => rw [(look_kv k h).2 e]; rfl
  | some x => obtain ⟨v, e1, _⟩ := (look_kv k h).1 x e; rw [e1]; rfl
theorem keysT_inv {kt : List (List D)} {ds : List D} {ks : List Key} (h : keysT kt ds = some ks) : ds ∉ kt ∧ keysOf ds = some ks := by
  unfold keysT at h
  split at h
  · cases h
  · rename_i hc
    exact ⟨fun z => hc (by simpa using z), h⟩
theorem key_tup {ds : List D} {ks : List Key} {x : V} (h : VR E L0 w st H env σ B x (.d (.tup ds))) (e : keysT E.kt ds = some ks) : ∃ b, x = .ref b ∧ H b = some (.tup (ks.map kV)) := by
  obtain ⟨h1, h2⟩ := keysT_inv e
  obtain ⟨a, vs, rfl, h3, h4⟩ := h.tup
  rcases h3 with h3 | ⟨h3, _⟩
  · exact ⟨a, rfl, by rw [← kvKs h4 h2]; exact h3⟩
  · exact absurd h3 h1
theorem inS_sound (S : SR E w L st H) {x y : V} {u v : SV} {b : Bool} (hx : VR E L0 w st H env σ B x u) (hy : VR E L0 w st H env σ B' y v) (h : inS E.kt u v st = some b) (neg : Bool) (Q : VK) (q : Q (.bl (if neg then !b else b)) H) :
    rInStr neg x y H Q ∨ rInTup E.K neg x y H Q ∨ (∃ d ds, Dp E.K H x d ∧ Dp E.K H y (.list ds) ∧ SeqAt.shaped d = true ∧ SeqAt.shaped (.list ds) = true ∧ Q (.bl (if neg then !(ds.any fun z => PyData.eqv z d) else ds.any fun z => PyData.eqv z d)) H) ∨ rInDc neg x y H Q := by
  unfold inS at h
  split at h
  · split at h
    · cases h
      exact .inl ⟨_, _, hx.str, hy.str, q⟩
    · cases h
  · rename_i xs
    unfold inP at h
    split at h
    · rename_i d ds e1 e2
      have h5 : (D.looksW (refAt st depthL) xs).map PyData.tuple = some (.list ds) := (shp_inv e2).1
      cases e6 : D.looksW (refAt st depthL) xs <;> rw [e6] at h5 <;> cases h5
    · rename_i d ds e1 e2
      cases h
      obtain ⟨k1, k2⟩ := dp_pyS S hx e1
      obtain ⟨k3, k4⟩ := dp_pyD S hy.dd e2
      exact .inr (.inl ⟨d, ds, k1, k3, k2, k4, q⟩)
    · cases h
  · split at h
    · rename_i xs e0
      obtain ⟨a, vs, rfl, h1, h2⟩ := hy.lst S e0
      unfold inP at h
      split at h
      · rename_i d ds e1 e2
        cases h
        obtain ⟨k1, k2⟩ := dp_pyS S hx e1
        obtain ⟨k3, k4⟩ := dp_pyL S h1 h2 e2
        exact .inr (.inr (.inl ⟨d, ds, k1, k3, k2, k4, q⟩))
      · rename_i d ds e1 e2
        have h4 : (D.looksW (refAt st depthL) xs).map PyData.list = some (.tuple ds) := (shp_inv e2).1
        cases e6 : D.looksW (refAt st depthL) xs <;> rw [e6] at h4 <;> cases h4
      · cases h
    · rename_i kvs e0
      obtain ⟨a, ps, rfl, h1, h2⟩ := hy.dic S e0
      split at h
      · split at h
        · rename_i k e1
          cases h
          refine .inr (.inr (.inr ⟨a, valV ps k, rfl, .inl ⟨ps, k, h1, kvK hx.dd e1, rfl⟩, ?_⟩))
          rw [look_some h2]
          exact q
        · cases h
      · cases h
    · rename_i kvs e0
      obtain ⟨a, ps, rfl, h1, h2⟩ := hy.dit S e0
      split at h
      · rename_i ds
        split at h
        · rename_i ks e1
          cases h
          obtain ⟨b, rfl, h3⟩ := key_tup hx e1
          refine .inr (.inr (.inr ⟨a, valV ps ks, rfl, .inr ⟨ps, ks, b, h1, rfl, h3, rfl⟩, ?_⟩))
          rw [look_some h2]
          exact q
        · cases h
      · cases h
    · cases h
theorem os_in : OpS E (rInX E.K) (cmpF E.kt .in) := os_cmp fun L0 L w env st σ H x y u v B B' b S hx hy h Q q => inS_sound S hx hy h false Q q
theorem os_notin : OpS E (rNotInX E.K) (cmpF E.kt .notin) := os_cmp fun L0 L w env st σ H x y u v B B' b S hx hy h Q q => by
  have h' : (inS E.kt u v st).map (!·) = some b := h
  cases e : inS E.kt u v st with
  | none => rw [e] at h'; cases h'
  | some c =>
    rw [e] at h'
    cases h'
    exact inS_sound S hx hy e true Q q
end
end Tv
namespace Tv
open PySem L2
section
variable {E : En} {xb : XB} {w w1 w2 : Wd} {L0 L L' l : List Ow} {st st1 st2 : Sto} {H H1 H2 B B' : Hp} {env : Env} {σ : L2.St} {v : V} {s : SV} {vs : List V} {ss : List SV} {j : Nat} {a : Addr} {P : Prog} {n : Nat} {W : WX} {X : Cx}
theorem atI_map {α β : Type} {xs : List α} {ys : List β} {i : Int} {x : α} (hl : xs.length = ys.length) (h : atI xs i = some x) : ∃ j : Nat, xs[j]? = some x ∧ ∀ y, ys[j]? = some y → atI ys i = some y := by
  unfold atI at h
  cases e : ixN xs.length i with
  | none => rw [e] at h; cases h
  | some j =>
    rw [e] at h
    refine ⟨j, h, fun y hy => ?_⟩
    unfold atI
    rw [← hl, e]
    exact hy
theorem RvA.atI {ad : List Addr} {vs : List V} {xs : List D} {i : Int} {d : D} (h : RvA E ad H vs xs) (e : L2.atI xs i = some d) : ∃ v, L2.atI vs i = some v ∧ Rv E ad H v d := by
  obtain ⟨j, h1, h2⟩ := atI_map h.length.symm e
  obtain ⟨v, h3, h4⟩ := h.get h1
  exact ⟨v, h2 v h3, h4⟩
def rIxDk : R2 := fun x y H Q => ∃ a v, x = .ref a ∧ DGet H a y (some v) ∧ Q v H
def rIxX (K : PySem.W.Frag) : R2 := fun x y H Q => rIx K x y H Q ∨ rIxDk x y H Q
theorem ix_dict (hu : X.A.units + 1 < cLine) : IxR X rIxDk := by
  intro value slice pins s σ H x y v u Q I rx ry h hs
  obtain ⟨a, r, rfl, g, q⟩ := h
  obtain rfl : v = Value.ref a := rx
  exact PyProof.Rows.tail_any (dict_typeIs I g) PySem.F.slot_dict_getitem.lookup (d_getItem hu I g ry fun w' s3 I3 rw' => ⟨r, H, I3, rw', q⟩) hs
theorem ix_X (hu : X.A.units + 1 < cLine) : IxR X (rIxX X.K) := ix_seq.or (ix_dict hu)
def idxF (kt : List (List D)) : SV → SV → Sto → Res SV := fun u w st => match idx kt u w st with
  | some d => ok (.d d) st
  | none => none
theorem os_idx : OpS E (rIxX E.K) (idxF E.kt) := by
  intro L0 L w env st σ H xb x y u v B B' S R hx hy r' h W Q hQ
  unfold idxF at h
  split at h
  · rename_i d e
    cases ok_inj h
    unfold idx at e
    split at e
    · rename_i i
      split at e
      · rename_i xs
        split at e
        · rename_i i
          obtain ⟨a, vs, rfl, h1, h2⟩ := hx.tup
          obtain ⟨z, h3, h4⟩ := h2.atI e
          rw [hy.int]
          exact .inl (.inr (.inl ⟨a, vs, i, z, rfl, rfl, h1.sq, h3, okr_now hQ S (.d h4)⟩))
        · cases e
      · rename_i z
        split at e
        · rename_i i
          unfold strAt at e
          split at e
          · rename_i hz
            cases e2 : L2.atI z.cps.toList i with
            | none => rw [e2] at e; cases e
            | some c =>
              rw [e2] at e
              cases e
              rw [hx.str, hy.int]
              exact .inl (.inr (.inr ⟨z, i, c, rfl, rfl, hz, e2, okr_now hQ S (.d (.str _))⟩))
          · cases e
        · cases e
      · split at e
        · rename_i xs e0
          split at e
          · rename_i i
            obtain ⟨a, vs, rfl, h1, h2⟩ := hx.lst S e0
            obtain ⟨z, h3, h4⟩ := h2.atI e
            rw [hy.int]
            exact .inl (.inl ⟨a, vs, i, z, rfl, rfl, h1, h3, okr_now hQ S (.d h4)⟩)
          · cases e
        · rename_i kvs e0
          split at e
          · rename_i k e1
            obtain ⟨a, ps, rfl, h1, h2⟩ := hx.dic S e0
            obtain ⟨z, h3, h4⟩ := (look_kv k h2).1 _ e
            exact .inr ⟨a, z, rfl, .inl ⟨ps, k, h1, kvK hy.dd e1, h3.symm⟩, okr_now hQ S (.d h4)⟩
          · cases e
        · rename_i kvs e0
          split at e
          · split at e
            · rename_i k e1
              obtain ⟨a, ps, rfl, h1, h2⟩ := hx.dit S e0
              obtain ⟨z, h3, h4⟩ := (look_kv k h2).1 _ e
              obtain ⟨b, rfl, h5⟩ := key_tup hy e1
              exact .inr ⟨a, z, rfl, .inr ⟨ps, k, b, h1, rfl, h5, h3.symm⟩, okr_now hQ S (.d h4)⟩
            · cases e
          · cases e
        · cases e
    · cases e
  · cases h
theorem RvA.cut {ad : List Addr} {vs : List V} {xs : List D} (lo hi : Option Int) (h : RvA E ad H vs xs) : RvA E ad H (cutV vs lo hi) (Tv.cut xs lo hi) := by
  unfold cutV Tv.cut
  rw [h.length]
  exact (h.drop _).take _
def rSlX (K : PySem.W.Frag) : V → Option Int → Option Int → Hp → VK → Prop := fun x lo hi H Q => rSlL K x lo hi H Q ∨ rSlA K x lo hi H Q ∨ rSlS x lo hi H Q
theorem sl_or {r r' : V → Option Int → Option Int → Hp → VK → Prop} (h : L2.SlR X r) (h' : L2.SlR X r') : L2.SlR X (fun x lo hi H Q => r x lo hi H Q ∨ r' x lo hi H Q) := by
  intro pins s σ H x v vl vu lo hi sl Q I rx hs pl pu q
  rcases q with q | q
  · exact h pins s σ H x v vl vu lo hi sl Q I rx hs pl pu q
  · exact h' pins s σ H x v vl vu lo hi sl Q I rx hs pl pu q
theorem sl_X : L2.SlR X (rSlX X.K) := sl_or sl_list (sl_or sl_tupA sl_str)
abbrev RO (E : En) : List Ow → Wd → Sto → Hp → Env → L2.St → Hp → Option Int → Option Int → Prop := fun _ _ _ _ _ _ _ o o' => o = o'
abbrev SOp (P : Prog) (n : Nat) (E : En) (xb : XB) (W : WX) (t : TO) (e : Ex) : Prop := SG P n E xb W (RO E) t (fun c env st => rb (ev c e env st) (part e.isNon))
theorem so_some {te : TE} {e : Ex} (h : SE P n E xb W te e) (hn : e.isNon = false) : SOp P n E xb W (tPart te) e := by
  intro L0 L w env st σ H h0 S R r h2 Q hQ
  show te σ H fun x H1 => ∃ i, x = .int i ∧ Q (some i) H1
  refine sg_go h h0 S R h2 hQ fun u st1 w1 H1 x S1 R1 f1 v1 h3 hQ => ?_
  rw [hn] at h3
  unfold part at h3
  split at h3
  · cases ok_inj h3
    exact ⟨_, v1.int, okr_now hQ S1 rfl⟩
  · rw [if_neg Bool.false_ne_true] at h3
    cases h3
  · cases h3
theorem slc_ok {x : V} {u : SV} {lo hi : Option Int} {r : Out SV} {W : WX} {Q : VK} (S : SR E w L st H) (hx : VR E L0 w st H env σ B x u) (hd : ∀ p, H p = none → B p = none) (h : slc u lo hi st = some r)
    (hQ : OkR E W L w st σ H (fun w' st' H' b a => VR E L0 w' st' H' env σ B b a) Q r) : rSlX E.K x lo hi H Q := by
  unfold slc at h
  split at h
  · rename_i xs
    obtain ⟨a, vs, rfl, h1, h2⟩ := hx.tup
    cases ok_inj h
    refine .inr (.inl ⟨a, vs, rfl, h1.sq, fun e => ?_, fun _ p hp => ?_⟩)
    · have e2 : Tv.cut xs lo hi = xs := by
        unfold Tv.cut
        rw [← h2.length, e.1, e.2, List.drop_zero, Nat.sub_zero, h2.length, List.take_length]
      rw [e2] at hQ
      exact okr_now hQ S (.d (.tup h1 h2))
    · exact okr_lay hQ S hp (vr_tup hp (h2.cut lo hi))
  · split at h
    · rename_i hz
      cases ok_inj h
      rw [hx.str]
      exact .inr (.inr ⟨_, rfl, hz, okr_now hQ S (.d (.str _))⟩)
    · cases h
  · split at h
    · rename_i xs e0
      obtain ⟨a, vs, rfl, h1, h2⟩ := hx.lst S e0
      cases ok_inj h
      refine .inl ⟨a, vs, rfl, h1, fun p hp => ?_⟩
      exact okr_lay hQ S hp ((vr_new S hp (h2.cut lo hi)).base hd)
    · cases h
theorem se_slice {ta : TE} {tl th : TO} {a lo hi : Ex} (ha : SE P n E xb W ta a) (hl : SOp P n E xb W tl lo) (hh : SOp P n E xb W th hi) : SE P n E xb W (tSl (rSlX E.K) ta tl th) (.slice a lo hi) := by
  intro L0 L w env st σ H h0 S R r h Q hQ
  show ta σ H fun x H1 => tl σ H1 fun l H2 => th σ H2 fun u H3 => rSlX E.K x l u H3 Q
  refine sg_go ha h0 S R h hQ fun u st1 w1 H1 x S1 R1 f1 v1 h hQ => ?_
  refine sg_golk hl h0 S1 R1 v1.live h hQ fun sl st2 w2 H2 l S2 R2 f2 v2 h hQ => ?_
  have g2 : VR E L0 w2 st2 H2 env σ H x u := v1.fr f2 (fun o z => List.mem_append.mpr (.inr (h0 o z))) (fun o z => List.mem_append.mpr (.inl z))
  refine sg_golk hh h0 S2 R2 g2.live h hQ fun sh st3 w3 H3 z S3 R3 f3 v3 h hQ => ?_
  have g3 : VR E L0 w3 st3 H3 env σ H x u := g2.fr f3 (fun o z => List.mem_append.mpr (.inr (h0 o z))) (fun o z => List.mem_append.mpr (.inl z))
  subst v2 v3
  exact slc_ok S3 g3 (fun p q => f1.dom p (f2.dom p (f3.dom p q))) h hQ
end
end Tv
namespace Tv
open PySem L2
section
variable {E : En} {xb : XB} {w w1 w2 : Wd} {L0 L L' l : List Ow} {st st1 st2 : Sto} {H H1 H2 B B' : Hp} {env : Env} {σ : L2.St} {v : V} {s : SV} {vs : List V} {ss : List SV} {j : Nat} {a : Addr} {P : Prog} {n : Nat} {W : WX} {X : Cx}
def Wd.push (w : Wd) (a : Addr) : Wd := ⟨w.ad ++ [a], w.fd⟩
theorem live_push {c : Cell} {o : Ow} (h : o.live st) : o.live (st ++ [c]) := by
  cases o with
  | c k => show k < (st ++ [c]).length; rw [List.length_append]; exact Nat.lt_add_right _ h
  | f i nm =>
    obtain ⟨C, fs, x, h1, h2⟩ := h
    exact ⟨C, fs, x, by rw [List.getElem?_append_left (List.getElem?_eq_some_iff.mp h1).1]; exact h1, h2⟩
  | s j => exact h
theorem at_push {o : Ow} (hl : w.ad.length = st.length) (h : o.live st) : (w.push a).at o = w.at o := by
  cases o with
  | c k =>
    have h' : k < st.length := h
    show (w.ad ++ [a])[k]? = w.ad[k]?
    rw [List.getElem?_append_left (by omega)]
  | f i nm => rfl
  | s j => rfl
theorem live_pop {x : Cn} {o : Ow} (h : o.live (st ++ [.con x])) : o.live st ∨ o = .c st.length := by
  cases o with
  | c k =>
    have h' : k < (st ++ [Cell.con x]).length := h
    rw [List.length_append] at h'
    by_cases e : k = st.length
    · subst e; exact .inr rfl
    · exact .inl (show k < st.length by simp at h'; omega)
  | f i nm =>
    obtain ⟨C, fs, y, h1, h2⟩ := h
    refine .inl ⟨C, fs, y, ?_, h2⟩
    by_cases hi : i < st.length
    · rw [List.getElem?_append_left hi] at h1; exact h1
    · rw [List.getElem?_append_right (by omega)] at h1
      cases e : i - st.length with
      | zero => rw [e] at h1; cases h1
      | succ m => rw [e] at h1; simp at h1
  | s j => exact h.elim
theorem owd_push {x : Cn} {p : Addr} (hl : w.ad.length = st.length) (h : Owd (w.push a) (st ++ [.con x]) p) : Owd w st p ∨ p = a := by
  obtain ⟨o, h1, h2⟩ := h
  rcases live_pop h1 with h1 | rfl
  · rw [at_push hl h1] at h2
    exact .inl ⟨o, h1, h2⟩
  · have h3 : (w.ad ++ [a])[st.length]? = some p := h2
    rw [List.getElem?_append_right (by omega)] at h3
    simp [hl] at h3
    exact .inr h3.symm
theorem zad_push {x : Cn} {p : Addr} (S : SR E w L st H) (h : Zad (w.push a) (st ++ [.con x]) H p) : Zad w st H p := by
  obtain ⟨k, c', C, fs, c, dx, fv, f, y, m, h1, h2, h3, h4, h5⟩ := h
  by_cases hk : k < st.length
  · rw [List.getElem?_append_left hk] at h1
    have h2' : (w.ad ++ [a])[k]? = some c' := h2
    rw [List.getElem?_append_left (by rw [S.len]; exact hk)] at h2'
    exact ⟨k, c', C, fs, c, dx, fv, f, y, m, h1, h2', h3, h4, h5⟩
  · rw [List.getElem?_append_right (by omega)] at h1
    cases e : k - st.length with
    | zero => rw [e] at h1; cases h1
    | succ m => rw [e] at h1; simp at h1
theorem FsR.to {w' : Wd} {st' : Sto} {i : Nat} {J : Hp} (p : w.ad <+: w'.ad) (g : Tm E.K H J) (hf : ∀ f, w'.fd i f = w.fd i f)   : ∀ {fv : List (Str × V)} {fs : List (Str × FV)}, FsR E w st H i fv fs → (∀ (m : Nat) (f : Str) (x : Cn) (b : Addr), fs[m]? = some (f, FV.c true x) → fv[m]? = some (f, V.ref b) → ¬ Owd w st b → ¬ Owd w' st' b) → (∀ (m : Nat) (f : Str) (z : Bool) (x : Cn) (b : Addr), fs[m]? = some (f, FV.c z x) → fv[m]? = some (f, V.ref b) → J b = H b) → FsR E w' st' J i fv fs
  | _, _, .nil, _, _ => .nil
  | _, _, .cons (f := f) r t, hz, he => by
    refine .cons ?_ (FsR.to p g hf t (fun m f x b h1 h2 => hz (m + 1) f x b (by simpa using h1) (by simpa using h2)) fun m f z x b h1 h2 => he (m + 1) f z x b (by simpa using h1) (by simpa using h2))
    cases r with
    | d r => exact .d (r.mono p g)
    | c r => have r' := r.mono p g (he 0 f _ _ _ rfl rfl); rw [← hf f] at r' ⊢; exact .c r'
    | z r k => exact .z (r.mono p g (he 0 f _ _ _ rfl rfl)) (hz 0 f _ _ rfl rfl k)
theorem SR.push {x : Cn} (S : SR E w L st H) (c : CoR E w.ad H a x) (xt : Xt H a) (n : ¬ Owd w st a) (z : ¬ Zad w st H a) : SR E (w.push a) L (st ++ [.con x]) H := by
  have pre : w.ad <+: (w.push a).ad := ⟨[a], rfl⟩
  have hn : w.ad.length = st.length := S.len
  refine ⟨by show (w.ad ++ [a]).length = (st ++ [Cell.con x]).length; rw [List.length_append, List.length_append, S.len]; rfl, fun o p b h1 h2 h3 h4 => ?_, fun k y e => ?_, fun o b h1 h2 h3 => ?_, fun k C fs e => ?_⟩
  · rcases live_pop h1 with h1 | rfl <;> rcases live_pop h2 with h2 | rfl
    · rw [at_push hn h1] at h3
      rw [at_push hn h2] at h4
      exact S.inj o p b h1 h2 h3 h4
    · rw [at_push hn h1] at h3
      have h5 : (w.ad ++ [a])[st.length]? = some b := h4
      rw [List.getElem?_append_right (by omega)] at h5
      simp [hn] at h5
      subst h5
      exact absurd ⟨o, h1, h3⟩ n
    · rw [at_push hn h2] at h4
      have h5 : (w.ad ++ [a])[st.length]? = some b := h3
      rw [List.getElem?_append_right (by omega)] at h5
      simp [hn] at h5
      subst h5
      exact absurd ⟨p, h2, h4⟩ n
    · rfl
  · by_cases hk : k < st.length
    · rw [List.getElem?_append_left hk] at e
      obtain ⟨b, e1, h⟩ := S.cell k y e
      refine ⟨b, pre_get pre e1, ?_⟩
      cases y with
      | con y => exact CoR.mono pre (Tm.rfl' _) rfl h
      | ins C fs =>
        obtain ⟨dx, fv, h1, h2⟩ := h
        refine ⟨dx, fv, h1, h2.to pre (Tm.rfl' _) (fun _ => rfl) (fun m f y b' k1 k2 k3 k4 => ?_) (fun _ _ _ _ _ _ _ => rfl)⟩
        rcases owd_push hn k4 with k4 | rfl
        · exact k3 k4
        · exact z ⟨k, b, C, fs, _, dx, fv, f, y, m, e, e1, h1, k1, k2⟩
    · have e' : k = st.length := by
        have := (List.getElem?_eq_some_iff.mp e).1
        rw [List.length_append] at this
        simp at this
        omega
      subst e'
      rw [List.getElem?_append_right (by omega)] at e
      simp at e
      subst e
      refine ⟨a, ?_, c.mono pre (Tm.rfl' _) rfl⟩
      show (w.ad ++ [a])[st.length]? = some a
      rw [List.getElem?_append_right (by omega)]
      simp [hn]
  · rcases live_pop h1 with h1 | rfl
    · rw [at_push hn h1] at h3
      exact S.ex o b h1 h2 h3
    · have h5 : (w.ad ++ [a])[st.length]? = some b := h3
      rw [List.getElem?_append_right (by omega)] at h5
      simp [hn] at h5
      subst h5
      exact xt
  · by_cases hk : k < st.length
    · rw [List.getElem?_append_left hk] at e
      exact S.nd k C fs e
    · rw [List.getElem?_append_right (by omega)] at e
      cases e2 : k - st.length with
      | zero => rw [e2] at e; cases e
      | succ m => rw [e2] at e; simp at e
theorem Fr.push {x : Cn} {s0 : Ss} (S : SR E w L' st H) (f : Fr E L s0 ⟨w, st, H⟩) (e : s0.H a = none) : Fr E L s0 ⟨w.push a, st ++ [.con x], H⟩ := by
  refine ⟨f.ad.trans ⟨[a], rfl⟩, f.tm, f.out, fun p h => ?_, fun p h => f.newz p (zad_push S h), f.dom, fun o h1 h2 => ?_⟩
  · rcases owd_push S.len h with h | rfl
    · exact f.new p h
    · exact .inr e
  · obtain ⟨k1, k2, k3⟩ := f.lk o h1 h2
    exact ⟨live_push k1, (at_push S.len k1).trans k2, k3⟩
/-- a value is put into something -/
theorem toD_ok {s0 : Ss} {r : Out D} (h0 : ∀ o ∈ L0, o ∈ L) (S0 : SR E s0.w L s0.st s0.H) (R0 : ER E xb L0 s0.w L s0.st s0.H env σ) (S : SR E w L st H) (R : ER E xb L0 w L st H env σ) (f : Fr E L s0 ⟨w, st, H⟩) (hv : VR E L0 w st H env σ s0.H v s) (h : toD s st = some r) :
    ∃ x st' w', r = .ok x st' ∧ SR E w' L st' H ∧ ER E xb L0 w' L st' H env σ ∧ Fr E L s0 ⟨w', st', H⟩ ∧ w.ad <+: w'.ad ∧ Rv E w'.ad H v x ∧ (∀ p, Owd w' st' p → Owd w st p ∨ (v = .ref p ∧ ∃ y, s = .c .own y)) ∧ (∀ p, Zad w' st' H p → Zad w st H p) ∧ (∀ o, o.live st → o.live st' ∧ w'.at o = w.at o) := by
  unfold toD at h
  split at h
  · have e := ok_inj h
    exact ⟨_, st, w, e, S, R, f, List.prefix_refl _, hv.dd, fun _ z => .inl z, fun _ z => z, fun _ z => ⟨z, rfl⟩⟩
  · rename_i y
    have e := ok_inj h
    cases hv with
    | @own a _ h1 h2 h3 h4 h5 =>
      have S' := S.push h1 h2 h3 h5
      have f' : Fr E L s0 ⟨w.push a, st ++ [.con y], H⟩ := f.push S h4
      refine ⟨_, _, w.push a, e, S', R0.fr S0 h0 f', f', ⟨[a], rfl⟩, .ref ?_, fun p z => ?_, fun p z => zad_push S z, fun o z => ⟨live_push z, at_push S.len z⟩⟩
      · show (w.ad ++ [a])[st.length]? = some a
        rw [List.getElem?_append_right (by rw [S.len]; exact Nat.le_refl _)]
        simp [S.len]
      · rcases owd_push S.len z with z | rfl
        · exact .inl z
        · exact .inr ⟨rfl, _, rfl⟩
  · cases h
/-- own containers and data alone -/
def SV.fit : SV → Bool
  | .d _ => true
  | .c .own _ => true
  | _ => false
theorem toD_fit {r : Out D} (h : toD s st = some r) : s.fit = true := by
  unfold toD at h
  split at h
  · rfl
  · rfl
  · cases h
theorem toDs_fit : ∀ {ss : List SV} {st : Sto} {r : Out (List D)}, toDs ss st = some r → ∀ s ∈ ss, s.fit = true
  | [], _, _, _, s, hs => by cases hs
  | s :: ss, st, r, h, s', hs => by
    have h' : rb (toD s st) (fun x st => rb (toDs ss st) fun xs st => ok (x :: xs) st) = some r := h
    cases e1 : toD s st with
    | none => rw [e1] at h'; cases h'
    | some r1 =>
      rcases List.mem_cons.mp hs with rfl | hs
      · exact toD_fit e1
      · cases r1 with
        | ok x st1 =>
          rw [e1] at h'
          have h2 : rb (toDs ss st1) (fun xs st => ok (x :: xs) st) = some r := h'
          cases e2 : toDs ss st1 with
          | none => rw [e2] at h2; cases h2
          | some r2 => exact toDs_fit e2 s' hs
        | ex x st1 =>
          unfold toD at e1
          split at e1 <;> cases e1
theorem VR.to {w' : Wd} {st' : Sto} (p : w.ad <+: w'.ad) (hf : s.fit = true) (ho : ∀ q x, v = .ref q → s = .c .own x → ¬ Owd w st q → ¬ Owd w' st' q) (hz : ∀ p, Zad w' st' H p → Zad w st H p) (h : VR E L0 w st H env σ B v s) : VR E L0 w' st' H env σ B v s := by
  cases h with
  | d h => exact .d (h.mono p (Tm.rfl' _))
  | own h1 h2 h3 h4 h5 => exact .own (h1.mono p (Tm.rfl' _) rfl) h2 (ho _ _ rfl rfl h3) h4 fun z => h5 (hz _ z)
  | atS h1 h2 h3 h4 => cases hf
  | atF h1 h2 => cases hf
  | par h1 h2 h3 => cases hf
  | scr h1 h2 => cases hf
theorem toDs_ok {s0 : Ss} (h0 : ∀ o ∈ L0, o ∈ L) (S0 : SR E s0.w L s0.st s0.H) (R0 : ER E xb L0 s0.w L s0.st s0.H env σ) : ∀ {ss : List SV} {vs : List V} {w : Wd} {st : Sto} {r : Out (List D)}, SR E w L st H → ER E xb L0 w L st H env σ → Fr E L s0 ⟨w, st, H⟩ → VRs E L0 w st H env σ s0.H vs ss → toDs ss st = some r →
    ∃ xs st' w', r = .ok xs st' ∧ SR E w' L st' H ∧ ER E xb L0 w' L st' H env σ ∧ Fr E L s0 ⟨w', st', H⟩ ∧ w.ad <+: w'.ad ∧ RvA E w'.ad H vs xs
  | [], _, w, st, r, S, R, f, .nil, h => ⟨[], st, w, ok_inj h, S, R, f, List.prefix_refl _, .nil⟩
  | s :: ss, _, w, st, r, S, R, f, .cons (v := v) (vs := vs) hv ht hd, h => by
    have h' : rb (toD s st) (fun x st => rb (toDs ss st) fun xs st => ok (x :: xs) st) = some r := h
    cases e1 : toD s st with
    | none => rw [e1] at h'; cases h'
    | some r1 =>
      obtain ⟨x, st1, w1, rfl, S1, R1, f1, p1, q1, ho, hz, hl⟩ := toD_ok h0 S0 R0 S R f hv e1
      rw [e1] at h'
      have h2 : rb (toDs ss st1) (fun xs st => ok (x :: xs) st) = some r := h'
      cases e2 : toDs ss st1 with
      | none => rw [e2] at h2; cases h2
      | some r2 =>
        have ht' : VRs E L0 w1 st1 H env σ s0.H vs ss := by
          have ff := toDs_fit e2
          clear h h' h2 e2
          induction ht with
          | nil => exact .nil
          | cons hv' ht' hd' ih =>
            refine .cons (hv'.to p1 (ff _ List.mem_cons_self) (fun q x e k n z => ?_) hz) (ih (fun a x e1 e2 k => hd a x e1 e2 ?_) fun s hs => ff s (List.mem_cons_of_mem _ hs)) hd'
            · rcases ho q z with z | ⟨e3, y, e4⟩
              · exact n z
              · exact hd q y e3 e4 ⟨0, x, by simp [e], by simp [k]⟩
            · obtain ⟨i, y, k1, k2⟩ := k
              exact ⟨i + 1, y, by simpa using k1, by simpa using k2⟩
        obtain ⟨xs, st2, w2, rfl, S2, R2, f2, p2, q2⟩ := toDs_ok h0 S0 R0 S1 R1 f1 ht' e2
        rw [e2] at h2
        exact ⟨x :: xs, st2, w2, ok_inj h2, S2, R2, f2, p1.trans p2, .cons (q1.mono p2 (Tm.rfl' _)) q2⟩
end
end Tv
namespace Tv
open PySem L2
section
variable {E : En} {xb : XB} {w w1 w2 : Wd} {L0 L L' l : List Ow} {st st1 st2 : Sto} {H H1 H2 B B' : Hp} {env : Env} {σ : L2.St} {v : V} {s : SV} {vs : List V} {ss : List SV} {j : Nat} {a : Addr} {P : Prog} {n : Nat} {W : WX} {X : Cx}
theorem se_var {i : Nat} : SE P n E xb W (tVar i) (.var i) := by
  intro L0 L w env st σ H h0 S R r h Q hQ
  have h' : (match env[i]? with
    | some (some (.d x)) => ok (.d x) st
    | some (some (.c .own x)) => ok (.c (.at (.s i)) x) st
    | some (some (.c .par x)) => ok (.c .par x) st
    | some (some (.c .scr x)) => ok (.c .scr x) st
    | _ => none) = some r := h
  split at h'
  · rename_i x e
    obtain ⟨v, h1, h2⟩ := R.ok i _ e
    cases ok_inj h'
    cases h2 with
    | d h2 => exact ⟨v, h1, okr_now hQ S (.d h2)⟩
  · rename_i x e
    obtain ⟨v, h1, h2⟩ := R.ok i _ e
    cases ok_inj h'
    cases h2 with
    | own k1 k2 k3 => exact ⟨_, h1, okr_now hQ S (.atS e h1 k1 k2)⟩
  · rename_i x e
    obtain ⟨v, h1, h2⟩ := R.ok i _ e
    cases ok_inj h'
    cases h2 with
    | par k1 k2 k3 => exact ⟨_, h1, okr_now hQ S (.par k1 k2 k3)⟩
  · rename_i x e
    obtain ⟨v, h1, h2⟩ := R.ok i _ e
    cases ok_inj h'
    cases h2 with
    | scr k1 k2 => exact ⟨_, h1, okr_now hQ S (.scr k1 k2)⟩
  · cases h'
theorem se_cst {v : V} {x : D} (hv : ∀ ad H, Rv E ad H v x) : SE P n E xb W (tC v) (.cst x) := by
  intro L0 L w env st σ H h0 S R r h Q hQ
  cases ok_inj (show ok (SV.d x) st = some r from h)
  exact okr_now hQ S (.d (hv _ _))
theorem se_glob {v : V} {x : D} {g : Str} (hv : ∀ ad H, Rv E ad H v x) : SE P n E xb W (tC v) (.glob g x) := by
  intro L0 L w env st σ H h0 S R r h Q hQ
  cases ok_inj (show ok (SV.d x) st = some r from h)
  exact okr_now hQ S (.d (hv _ _))
theorem se_not {ta : TE} {a : Ex} (ha : SE P n E xb W ta a) : SE P n E xb W (tNotV ta) (.not a) := by
  intro L0 L w env st σ H h0 S R r h Q hQ
  show ta σ H fun x H1 => ∃ c, x = .bl c ∧ Q (.bl (!c)) H1
  refine sg_go ha h0 S R h hQ fun u st1 w1 H1 x S1 R1 f1 v1 h hQ => ?_
  split at h
  · cases ok_inj h
    exact ⟨_, v1.bl, okr_now hQ S1 (.d (.bl _))⟩
  · cases h
theorem se_and {ta tb : TE} {a b : Ex} (ha : SE P n E xb W ta a) (hb : SE P n E xb W tb b) : SE P n E xb W (tAndV ta tb) (.and a b) := by
  intro L0 L w env st σ H h0 S R r h Q hQ
  show ta σ H fun x H1 => ∃ c, x = .bl c ∧ if c = true then tb σ H1 Q else Q (.bl false) H1
  refine sg_go ha h0 S R h hQ fun u st1 w1 H1 x S1 R1 f1 v1 h hQ => ?_
  split at h
  · refine ⟨true, v1.bl, ?_⟩
    rw [if_pos rfl]
    refine sg_go hb h0 S1 R1 h hQ fun u st2 w2 H2 y S2 R2 f2 v2 h hQ => ?_
    split at h
    · cases ok_inj h
      exact okr_now hQ S2 (v2.base f1.dom)
    · cases h
  · cases ok_inj h
    refine ⟨false, v1.bl, ?_⟩
    rw [if_neg Bool.false_ne_true]
    exact okr_now hQ S1 (.d (.bl _))
  · cases h
theorem st_test {te : TE} {e : Ex} (h : SE P n E xb W te e) (hb : ∀ c env st u st', ev c e env st = some (.ok u st') → ∃ b, u = .d (.bl b)) : STe P n E xb W (tTest te) (.val e) := by
  intro L0 L w env st σ H h0 S R r h2 Q hQ
  show te σ H fun x H' => ∃ k, x = .bl k ∧ Q k H'
  have h2' : rb (ev (P.cl (P.call n) L) e env st) (fun u st => match truth u st with | some b => ok b st | none => none) = some r := h2
  cases e1 : ev (P.cl (P.call n) L) e env st with
  | none => rw [e1] at h2'; cases h2'
  | some o =>
    rw [e1] at h2'
    refine h L0 L w env st σ H h0 S R o e1 _ ?_
    cases o with
    | ok u st1 =>
      intro w1 H1 x S1 f1 v1
      obtain ⟨b, rfl⟩ := hb _ _ _ _ _ e1
      cases ok_inj (show ok b st1 = some r from h2')
      exact ⟨b, v1.bl, hQ w1 H1 b S1 f1 rfl⟩
    | ex x st1 =>
      cases (show some (Out.ex x st1) = some r from h2')
      exact hQ
theorem st_not {tt : TT} {t : Tx} (h : STe P n E xb W tt t) : STe P n E xb W (tNot tt) (.not t) := by
  intro L0 L w env st σ H h0 S R r h2 Q hQ
  show tt σ H fun c H1 => Q (!c) H1
  refine sg_go h h0 S R h2 hQ fun u st1 w1 H1 x S1 R1 f1 v1 h hQ => ?_
  subst v1
  cases ok_inj h
  exact okr_now hQ S1 rfl
theorem st_and {tt tu : TT} {t u : Tx} (h : STe P n E xb W tt t) (hu : STe P n E xb W tu u) : STe P n E xb W (tAnd tt tu) (.and t u) := by
  intro L0 L w env st σ H h0 S R r h2 Q hQ
  show tt σ H fun c H1 => if c = true then tu σ H1 Q else Q false H1
  refine sg_go h h0 S R h2 hQ fun y st1 w1 H1 x S1 R1 f1 v1 h hQ => ?_
  subst v1
  cases x with
  | true => rw [if_pos rfl]; exact hu L0 L w1 env st1 σ H1 h0 S1 R1 r h Q hQ
  | false =>
    rw [if_neg Bool.false_ne_true]
    cases ok_inj h
    exact okr_now hQ S1 rfl
theorem st_or {tt tu : TT} {t u : Tx} (h : STe P n E xb W tt t) (hu : STe P n E xb W tu u) : STe P n E xb W (tOr tt tu) (.or t u) := by
  intro L0 L w env st σ H h0 S R r h2 Q hQ
  show tt σ H fun c H1 => if c = true then Q true H1 else tu σ H1 Q
  refine sg_go h h0 S R h2 hQ fun y st1 w1 H1 x S1 R1 f1 v1 h hQ => ?_
  subst v1
  cases x with
  | false => rw [if_neg Bool.false_ne_true]; exact hu L0 L w1 env st1 σ H1 h0 S1 R1 r h Q hQ
  | true =>
    rw [if_pos rfl]
    cases ok_inj h
    exact okr_now hQ S1 rfl
def TruX (K : PySem.W.Frag) (x : V) (H : Hp) (k : Bool) : Prop := TruV K x H k ∨ ∃ a kvs, x = .ref a ∧ Rd H a (.dK kvs) ∧ k = !kvs.isEmpty
def tTruX (K : PySem.W.Frag) (ta : TE) : TT := fun σ H Q => ta σ H fun x H' => ∃ k, TruX K x H' k ∧ Q k H'
theorem pt_truX {e : Expr} {ta : TE} (ha : PE X e ta) (he : ∀ whole, isTrue e X.env whole = (do let v ← whole; standAt e.pos; holding [v] (truthy v))) : PT X e (tTruX X.K ta) := by
  refine ⟨fun pins s σ H Q I h => ?_⟩
  refine PyProof.Rows.isTrue_plain (thn (ha.run pins s σ H _ I h) fun v s1 ⟨x, H1, I1, r1, q1⟩ => ?_) (he _)
  obtain ⟨k, h1 | ⟨a, kvs, rfl, h1, rfl⟩, h2⟩ := q1
  · exact tru_ok pins s1 σ H1 x v Q I1 r1 ⟨k, h1, h2⟩
  · obtain rfl : v = Value.ref a := r1
    exact d_truth I1 h1 fun s' I' => ⟨H1, I', h2⟩
theorem empty_len {α β : Type} {xs : List α} {ys : List β} (h : xs.length = ys.length) : (!xs.isEmpty) = !ys.isEmpty := by
  cases xs <;> cases ys <;> first | rfl | (simp at h)
theorem tru_sound {x : V} {u : SV} {b : Bool} (S : SR E w L st H) (hx : VR E L0 w st H env σ B x u) (h : truth u st = some b) : TruX E.K x H b := by
  unfold truth at h
  split at h
  · cases h; rw [hx.bl]; exact .inl rfl
  · cases h; rw [hx.non]; exact .inl rfl
  · cases h; rw [hx.int]; refine .inl ?_; rename_i i; show decide (i ≠ 0) = (i != 0); rw [decide_not]; rfl
  · split at h
    · rename_i z hz
      cases h
      rw [hx.str]
      refine .inl ⟨hz, ?_⟩
      rw [Bool.eq_iff_iff]
      simp only [decide_eq_true_eq, bne_iff_ne]
      omega
    · cases h
  · cases h
    obtain ⟨a, vs, rfl, h1, h2⟩ := hx.tup
    exact .inl (.inr (.inl ⟨vs, h1.sq, (empty_len h2.length).symm⟩))
  · split at h
    · rename_i xs e
      cases h
      obtain ⟨a, vs, rfl, h1, h2⟩ := hx.lst S e
      exact .inl (.inl ⟨vs, h1, (empty_len h2.length).symm⟩)
    · rename_i kvs e
      cases h
      obtain ⟨a, ps, rfl, h1, h2⟩ := hx.dic S e
      refine .inr ⟨a, ps, rfl, h1, (empty_len ?_).symm⟩
      have := congrArg List.length h2.1
      simpa using this
    · cases h
    · cases h
theorem st_truth {te : TE} {e : Ex} (h : SE P n E xb W te e) : STe P n E xb W (tTruX E.K te) (.val e) := by
  intro L0 L w env st σ H h0 S R r h2 Q hQ
  show te σ H fun x H' => ∃ k, TruX E.K x H' k ∧ Q k H'
  refine sg_go h h0 S R h2 hQ fun u st1 w1 H1 x S1 R1 f1 v1 h hQ => ?_
  split at h
  · rename_i b e1
    cases ok_inj h
    exact ⟨b, tru_sound S1 v1 e1, okr_now hQ S1 rfl⟩
  · cases h
theorem st_yes : STe P n E xb W tYes .yes := by
  intro L0 L w env st σ H h0 S R r h Q hQ
  cases ok_inj (show ok true st = some r from h)
  exact okr_now hQ S rfl
theorem se_tup {ta : TA} {es : Exs} (h : SA P n E xb W ta es) : SE P n E xb W (tTup ta) (.tup es) := by
  intro L0 L w env st σ H h0 S R r h2 Q hQ
  show ta σ H fun xs H1 => xs.length ≤ sizeLine ∧ ∀ p, H1 p = none → Q (.ref p) (upd H1 p (.tup xs))
  refine sg_go h h0 S R h2 hQ fun as st1 w1 H1 vs S1 R1 f1 v1 h hQ' => ?_
  cases e : toDs as st1 with
  | none => rw [e] at h; cases h
  | some o =>
    obtain ⟨xs, st2, w2, rfl, S2, R2, f2, p2, q2⟩ := toDs_ok (s0 := ⟨w, st, H⟩) h0 S R S1 R1 f1 v1 e
    rw [e] at h
    have h' : (if xs.length ≤ sizeLine then ok (SV.d (.tup xs)) st2 else none) = some r := h
    split at h'
    · rename_i hl
      cases ok_inj h'
      exact ⟨by rw [q2.length]; exact hl, fun p hp => hQ w2 _ _ (S2.lay hp) (f2.tr (Fr.lay S2 hp)) (vr_tup hp q2)⟩
    · cases h'
theorem se_lst {ta : TA} {es : Exs} (h : SA P n E xb W ta es) : SE P n E xb W (tLst ta) (.lst es) := by
  intro L0 L w env st σ H h0 S R r h2 Q hQ
  show ta σ H fun xs H1 => xs.length ≤ sizeLine ∧ ∀ p, H1 p = none → Q (.ref p) (upd H1 p (.lst xs))
  refine sg_go h h0 S R h2 hQ fun as st1 w1 H1 vs S1 R1 f1 v1 h hQ' => ?_
  cases e : toDs as st1 with
  | none => rw [e] at h; cases h
  | some o =>
    obtain ⟨xs, st2, w2, rfl, S2, R2, f2, p2, q2⟩ := toDs_ok (s0 := ⟨w, st, H⟩) h0 S R S1 R1 f1 v1 e
    rw [e] at h
    have h' : (if xs.length ≤ sizeLine then ok (SV.c .own (.l xs)) st2 else none) = some r := h
    split at h'
    · rename_i hl
      cases ok_inj h'
      exact ⟨by rw [q2.length]; exact hl, fun p hp => hQ w2 _ _ (S2.lay hp) (f2.tr (Fr.lay S2 hp)) ((vr_new S2 hp q2).base f1.dom)⟩
    · cases h'
end
end Tv
namespace Tv
open PySem L2 PySem.Spec PyProof.Rows
section
variable {E : En} {xb : XB} {w w1 w2 : Wd} {L0 L L' l : List Ow} {st st1 st2 : Sto} {H H1 H2 B B' : Hp} {env : Env} {σ : L2.St} {v : V} {s : SV} {vs : List V} {ss : List SV} {j : Nat} {a : Addr} {P : Prog} {n : Nat} {W : WX} {X : Cx}
abbrev RC := List V → Hp → VK → Prop
theorem cr_or {f : Value} {r r' : RC} (h : CallR X f r) (h' : CallR X f r') : CallR X f (fun xs H Q => r xs H Q ∨ r' xs H Q) := by
  intro pins s σ H xs us Q I rx q
  rcases q with q | q
  · exact h pins s σ H xs us Q I rx q
  · exact h' pins s σ H xs us Q I rx q
def CaS (E : En) (r : RC) (f : List SV → Sto → Res SV) : Prop := ∀ (L0 L : List Ow) (w : Wd) (env : Env) (st : Sto) (σ : L2.St) (H : Hp) (vs : List V) (ss : List SV) (B : Hp), SR E w L st H → VRs E L0 w st H env σ B vs ss → (∀ p, H p = none → B p = none) →
  ∀ r', f ss st = some r' → ∀ (W : WX) (Q : VK), OkR E W L w st σ H (fun w' st' H' b a => VR E L0 w' st' H' env σ B b a) Q r' → r vs H Q
theorem se_cb {r : RC} {f : List SV → Sto → Res SV} {ta : TA} {e : Ex} {es : Exs} (hf : CaS E r f) (ha : SA P n E xb W ta es) (he : ∀ c env st, ev c e env st = rb (evs c es env st) fun as st => f as st) : SE P n E xb W (tCB r ta) e := by
  intro L0 L w env st σ H h0 S R r' h Q hQ
  show ta σ H fun vs H1 => r vs H1 Q
  refine sg_go ha h0 S R ((he _ _ _).symm.trans h) hQ fun us st1 w1 H1 vs S1 R1 f1 v1 h hQ => ?_
  exact hf L0 L w1 env st1 σ H1 vs us H S1 v1 f1.dom _ h W Q hQ
theorem vrs1 {u : SV} (h : VRs E L0 w st H env σ B vs [u]) : ∃ x, vs = [x] ∧ VR E L0 w st H env σ B x u := by
  cases h with
  | cons h t _ => cases t; exact ⟨_, rfl, h⟩
theorem call_lenD : CallR X (.builtin "len") (fun xs H Q => ∃ (a : Addr) (kvs : List (Key × V)), xs = [.ref a] ∧ Rd H a (.dK kvs) ∧ Q (.int kvs.length) H) := by
  intro pins s σ H xs us Q I r q
  obtain ⟨a, kvs, ex, hd, q⟩ := q
  subst ex
  obtain ⟨u, eu, rx⟩ := vals1 r
  subst eu
  cases rx
  exact d_len I hd fun t s' I' => ⟨.int kvs.length, H, I', ⟨_, rfl⟩, q⟩
def rLenX (K : PySem.W.Frag) : RC := fun xs H Q => (∃ p ys, xs = [.ref p] ∧ (SqL K H p ys ∨ SqT K H p ys) ∧ Q (.int ys.length) H) ∨ (∃ z, xs = [.str z] ∧ z.length ≤ sizeLine ∧ Q (.int z.length) H) ∨ ∃ (a : Addr) (kvs : List (Key × V)), xs = [.ref a] ∧ Rd H a (.dK kvs) ∧ Q (.int kvs.length) H
theorem c_len : CallR X (.builtin "len") (rLenX X.K) := cr_or call_len_seq (cr_or call_len_str call_lenD)
theorem rkv_len {κ : Type} {ad : List Addr} {ps : List (κ × V)} {kvs : List (κ × D)} (h : Rkv E ad H ps kvs) : ps.length = kvs.length := by
  have := congrArg List.length h.1
  simpa using this
theorem cs_len : CaS E (rLenX E.K) (biF .len) := by
  intro L0 L w env st σ H vs ss B S hv hB r' h W Q hQ
  unfold biF at h
  split at h <;> try (rename_i e; cases e; done)
  all_goals try (cases h; done)
  all_goals rename_i u _
  obtain ⟨x, rfl, hx⟩ := vrs1 hv
  split at h
  · cases ok_inj h
    obtain ⟨a, vs, rfl, h1, h2⟩ := hx.tup
    exact .inl ⟨a, vs, rfl, .inr h1.sq, by rw [h2.length]; exact okr_now hQ S (.d (.int _))⟩
  · split at h
    · rename_i z hz
      cases ok_inj h
      rw [hx.str]
      exact .inr (.inl ⟨z, rfl, hz, okr_now hQ S (.d (.int _))⟩)
    · cases h
  · split at h
    · rename_i xs e
      cases ok_inj h
      obtain ⟨a, vs, rfl, h1, h2⟩ := hx.lst S e
      exact .inl ⟨a, vs, rfl, .inl h1, by rw [h2.length]; exact okr_now hQ S (.d (.int _))⟩
    · rename_i kvs e
      cases ok_inj h
      obtain ⟨a, ps, rfl, h1, h2⟩ := hx.dic S e
      exact .inr (.inr ⟨a, ps, rfl, h1, by rw [rkv_len h2]; exact okr_now hQ S (.d (.int _))⟩)
    · cases h
def rInt1 : RC := fun xs H Q => (∃ i, xs = [.int i] ∧ Q (.int i) H) ∨ ∃ k, xs = [.bl k] ∧ Q (.int (if k then 1 else 0)) H
def rInt2 : RC := fun xs H Q => rInt1 xs H Q ∨ ∃ a n, xs = [.str a] ∧ intText? a = some n ∧ a.length ≤ 640 ∧ Q (.int n) H
theorem c_int : CallR X (.type "int") rInt2 := cr_or call_int1 call_int_str
theorem cs_int : CaS E rInt2 (biF .int) := by
  intro L0 L w env st σ H vs ss B S hv hB r' h W Q hQ
  unfold biF at h
  split at h <;> try (rename_i e; cases e; done)
  all_goals try (cases h; done)
  · obtain ⟨x, rfl, hx⟩ := vrs1 hv
    cases ok_inj h
    rw [hx.int]
    exact .inl (.inl ⟨_, rfl, okr_now hQ S (.d (.int _))⟩)
  · obtain ⟨x, rfl, hx⟩ := vrs1 hv
    cases ok_inj h
    rw [hx.bl]
    exact .inl (.inr ⟨_, rfl, okr_now hQ S (.d (.int _))⟩)
  · obtain ⟨x, rfl, hx⟩ := vrs1 hv
    split at h
    · rename_i n hn
      split at h
      · rename_i hl
        cases ok_inj h
        rw [hx.str]
        exact .inr ⟨_, n, rfl, hn, hl, okr_now hQ S (.d (.int _))⟩
      · cases h
    · cases h
theorem rv_key {ad : List Addr} (k : Key) : Rv E ad H (kV k) (keyD k) := by
  cases k with
  | inl i => exact .int i
  | inr x => exact .str x
def rTupX (K : PySem.W.Frag) : RC := fun xs H Q => ∃ p ys, xs = [.ref p] ∧ ((SqL K H p ys ∧ ∀ l, H l = none → Q (.ref l) (upd H l (.tup ys))) ∨ (SqT K H p ys ∧ Q (.ref p) H))
theorem c_tuple : CallR X (.type "tuple") (rTupX X.K) := call_tuple_of
theorem cs_tuple : CaS E (rTupX E.K) (biF .tuple) := by
  intro L0 L w env st σ H vs ss B S hv hB r' h W Q hQ
  unfold biF at h
  split at h <;> try (rename_i e; cases e; done)
  all_goals try (cases h; done)
  all_goals rename_i u _
  obtain ⟨x, rfl, hx⟩ := vrs1 hv
  split at h
  · cases ok_inj h
    obtain ⟨a, vs, rfl, h1, h2⟩ := hx.tup
    exact ⟨a, vs, rfl, .inr ⟨h1.sq, okr_now hQ S (.d (.tup h1 h2))⟩⟩
  · split at h
    · rename_i xs e
      cases ok_inj h
      obtain ⟨a, vs, rfl, h1, h2⟩ := hx.lst S e
      exact ⟨a, vs, rfl, .inl ⟨h1, fun p hp => okr_lay hQ S hp (vr_tup hp h2)⟩⟩
    · cases h
theorem allBl_inv {xs : List D} {ns : List Bool} (h : allBl xs = some ns) : xs = ns.map D.bl := by
  unfold allBl at h
  split at h
  · rename_i ha
    cases h
    rw [List.map_map]
    symm
    induction xs with
    | nil => rfl
    | cons x xs ih =>
      rw [List.all_cons, Bool.and_eq_true] at ha
      rw [List.map_cons, ih ha.2]
      cases x with
      | bl i => rfl
      | _ => exact absurd (show false = true from ha.1) Bool.false_ne_true
  · cases h
theorem RvA.bls_of {ad : List Addr} : ∀ {vs : List V} {ns : List Bool}, RvA E ad H vs (ns.map D.bl) → vs = ns.map V.bl
  | _, [], h => by cases h; rfl
  | _, n :: r, h => by
    rw [List.map_cons] at h
    cases h with
    | cons h1 h2 => rw [h1.bl_of, RvA.bls_of h2, List.map_cons]
theorem c_all (hc : X.calm = true) : CallR X (.builtin "all") (rAll X.K) := cr_all hc
theorem cs_all : CaS E (rAll E.K) (biF .all) := by
  intro L0 L w env st σ H vs ss B S hv hB r' h W Q hQ
  unfold biF at h
  split at h <;> try (rename_i e; cases e; done)
  all_goals try (cases h; done)
  all_goals rename_i u _
  obtain ⟨x, rfl, hx⟩ := vrs1 hv
  split at h
  · rename_i xs e
    split at h
    · rename_i ns e2
      cases ok_inj h
      obtain ⟨a, vs, rfl, h1, h2⟩ := hx.lst S e
      rw [allBl_inv e2] at h2
      have e3 := h2.bls_of
      subst e3
      exact ⟨a, ns, rfl, h1, okr_now hQ S (.d (.bl _))⟩
    · cases h
  · cases h
def rStr2 : RC := fun xs H Q => (∃ i, xs = [.int i] ∧ i.natAbs.log2 < 1920 ∧ Q (.str (toString i)) H) ∨ ∃ a, xs = [.str a] ∧ Q (.str a) H
theorem c_str : CallR X (.type "str") rStr2 := cr_or call_str_int SkE.call_str_str
theorem cs_str : CaS E rStr2 (biF .str) := by
  intro L0 L w env st σ H vs ss B S hv hB r' h W Q hQ
  unfold biF at h
  split at h <;> try (rename_i e; cases e; done)
  all_goals try (cases h; done)
  · obtain ⟨x, rfl, hx⟩ := vrs1 hv
    split at h
    · rename_i hl
      cases ok_inj h
      rw [hx.int]
      exact .inl ⟨_, rfl, hl, okr_now hQ S (.d (.str _))⟩
    · cases h
  · obtain ⟨x, rfl, hx⟩ := vrs1 hv
    cases ok_inj h
    rw [hx.str]
    exact .inr ⟨_, rfl, okr_now hQ S (.d (.str _))⟩
def tyS : Ty → Option String
  | .int => some "int"
  | .bool => some "bool"
  | .str => some "str"
  | .tuple => some "tuple"
  | .list => some "list"
  | .dict => some "dict"
  | .cls _ => none
theorem tup_ty {vs : List V} {xs : List D} (h : TuR E H a vs xs) : TyX E.K H (.ref a) (.type "tuple") := by
  rcases h.sq with (h | ⟨o, h⟩) | ⟨o, its, n, h, c, _⟩
  · exact .base (.tup h)
  · exact .fTuple h
  · exact .kTuple h c
theorem sql_ty (h : SqL E.K H a vs) : TyX E.K H (.ref a) (.type "list") := by
  rcases h with (h | ⟨o, h⟩) | ⟨o, its, n, h, c, _⟩
  · exact .base (.lst h)
  · exact .base (.frz h)
  · exact .kList h c
theorem dic_ty {kvs : List (Key × V)} (h : Rd H a (.dK kvs)) : TyX E.K H (.ref a) (.type "dict") := by
  rcases h with h | ⟨o, h⟩
  · exact .base (.dK h)
  · exact .fDict h
theorem kit_all : ∀ t : Ty, ∀ n, tyS t = some n → (kitB "int" n = some (decide (t = .int)) ∧ kitB "bool" n = some (decide (t = .bool ∨ t = .int)) ∧ kitB "str" n = some (decide (t = .str)) ∧ kitB "tuple" n = some (decide (t = .tuple)) ∧ kitB "list" n = some (decide (t = .list)) ∧ kitB "dict" n = some (decide (t = .dict)) ∧ kitB "NoneType" n = some false) := by
  intro t n h
  cases t <;> cases h <;> exact ⟨by decide +kernel, by decide +kernel, by decide +kernel, by decide +kernel, by decide +kernel, by decide +kernel, by decide +kernel⟩
/-- isinstance(x, T), T one of Python's own -/
theorem isTy_ref {t : Ty} {k : Nat} {b : Bool} {m : String} (ht : tyS t = some m) (h : isTy t (.d (.ref k)) st = some b) : (∃ xs, cnOf (.d (.ref k)) st = some (.l xs) ∧ b = decide (t = .list)) ∨ ∃ kvs, cnOf (.d (.ref k)) st = some (.m kvs) ∧ b = decide (t = .dict) := by
  have h' : (match st[k]? with | some (.con (.l _)) => some (decide (t = .list)) | some (.con (.m _)) => some (decide (t = .dict)) | _ => none) = some b := by
    cases t <;> first | exact h | cases ht
  split at h'
  · rename_i xs e
    refine .inl ⟨xs, ?_, (Option.some.inj h').symm⟩
    show (match st[k]? with | some (.con x) => some x | _ => none) = some (.l xs)
    rw [e]
  · rename_i xs e
    refine .inr ⟨xs, ?_, (Option.some.inj h').symm⟩
    show (match st[k]? with | some (.con x) => some x | _ => none) = some (.m xs)
    rw [e]
  · cases h'
theorem isTy_own {t : Ty} {x : V} {u : SV} {b : Bool} {m : String} (S : SR E w L st H) (hx : VR E L0 w st H env σ B x u) (ht : tyS t = some m) (h : isTy t u st = some b) : ∃ k : String, TyX E.K H x (.type k) ∧ kitB k m = some b := by
  obtain ⟨q1, q2, q3, q4, q5, q6, q7⟩ := kit_all t m ht
  have con : ∀ (k : Kd) (y : Cn), u = .c k y → ∃ k : String, TyX E.K H x (.type k) ∧ kitB k m = some b := fun k y e => by
    subst e
    cases y with
    | l xs =>
      obtain ⟨a, vs, rfl, h1, h2⟩ := hx.lst S rfl
      refine ⟨"list", sql_ty h1, ?_⟩
      rw [q5, ← h]
      cases t <;> first | rfl | cases ht
    | m kvs =>
      obtain ⟨a, vs, rfl, h1, h2⟩ := hx.dic S rfl
      refine ⟨"dict", dic_ty h1, ?_⟩
      rw [q6, ← h]
      cases t <;> first | rfl | cases ht
    | t kvs => cases t <;> first | cases h | cases ht
  cases u with
  | d y =>
    cases y with
    | non =>
      refine ⟨"NoneType", by rw [hx.non]; exact .base .non, ?_⟩
      rw [q7, ← h]
      cases t <;> first | rfl | cases ht
    | bl c =>
      refine ⟨"bool", by rw [hx.bl]; exact .base (.bl _), ?_⟩
      rw [q2, ← h]
      cases t <;> first | rfl | cases ht
    | int i =>
      refine ⟨"int", by rw [hx.int]; exact .base (.int _), ?_⟩
      rw [q1, ← h]
      cases t <;> first | rfl | cases ht
    | str z =>
      refine ⟨"str", by rw [hx.str]; exact .base (.str _), ?_⟩
      rw [q3, ← h]
      cases t <;> first | rfl | cases ht
    | tup xs =>
      obtain ⟨a, vs, rfl, h1, h2⟩ := hx.tup
      refine ⟨"tuple", tup_ty h1, ?_⟩
      rw [q4, ← h]
      cases t <;> first | rfl | cases ht
    | ref k =>
      rcases isTy_ref ht h with ⟨xs, e, rfl⟩ | ⟨xs, e, rfl⟩
      · obtain ⟨a, vs, rfl, h1, h2⟩ := hx.lst S e
        exact ⟨"list", sql_ty h1, q5⟩
      · obtain ⟨a, vs, rfl, h1, h2⟩ := hx.dic S e
        exact ⟨"dict", dic_ty h1, q6⟩
    | fn f => cases t <;> first | cases h | cases ht
  | c k y => exact con k y rfl
  | x e => cases hx
theorem isi_inv {t : Ty} {ss : List SV} {r : Out SV} (h : biF (.isi t) ss st = some r) : ∃ u b, ss = [u] ∧ isTy t u st = some b ∧ r = .ok (.d (.bl b)) st := by
  unfold biF at h
  split at h <;> try (rename_i e; cases e; done)
  all_goals try (cases h; done)
  rename_i e
  cases e
  split at h
  · rename_i b e2
    exact ⟨_, b, rfl, e2, ok_inj h⟩
  · cases h
theorem se_isi {t : Ty} {m : String} {te : TE} {e : Ex} (ht : tyS t = some m) (h : SE P n E xb W te e) : SE P n E xb W (tCB (rIsi E.K) (tCons te (tCons (tC (.ty m)) tNil))) (.bi (.isi t) (.cons e .nil)) := by
  intro L0 L w env st σ H h0 S R r h2 Q hQ
  show te σ H fun x H1 => rIsi E.K [x, .ty m] H1 Q
  have h2' : rb (rb (ev (P.cl (P.call n) L) e env st) fun u st => rb (ok [] st) fun us st => ok (u :: us) st) (fun as st => biF (.isi t) as st) = some r := h2
  have h3 : rb (ev (P.cl (P.call n) L) e env st) (fun u st => biF (.isi t) [u] st) = some r := by
    cases e1 : ev (P.cl (P.call n) L) e env st with
    | none => rw [e1] at h2'; cases h2'
    | some o => rw [e1] at h2'; cases o <;> exact h2'
  refine sg_go h h0 S R h3 hQ fun u st1 w1 H1 x S1 R1 f1 v1 h hQ => ?_
  obtain ⟨u', b, e1, e2, rfl⟩ := isi_inv h
  cases e1
  obtain ⟨k, h4, h5⟩ := isTy_own S1 v1 ht e2
  exact ⟨x, .ty m, .type k, .type m, b, rfl, .ty m, h4, kit_ty h5, okr_now hQ S1 (.d (.bl b))⟩
end
end Tv
namespace Tv
open PySem L2
section
variable {E : En} {xb : XB} {w w1 w2 : Wd} {L0 L L' l : List Ow} {st st1 st2 : Sto} {H H1 H2 B B' : Hp} {env : Env} {σ : L2.St} {v : V} {s : SV} {vs : List V} {ss : List SV} {j : Nat} {a : Addr} {P : Prog} {n : Nat} {W : WX} {X : Cx}
/-- an argument -/
inductive AgR (E : En) (L : List Ow) (w : Wd) (st : Sto) (H : Hp) : V → SV → Prop
  | d {v : V} {x : D} : Rv E w.ad H v x → AgR E L w st H v (.d x)
  | par {a : Addr} {x : Cn} : CoR E w.ad H a x → Sf w L st a → AgR E L w st H (.ref a) (.c .par x)
  | scr {a : Addr} {vs : List V} {xs : List D} : ScL E.K w st H [] [] a vs → RvA E w.ad H vs xs → AgR E L w st H (.ref a) (.c .scr (.l xs))
def AgsR (E : En) (L : List Ow) (w : Wd) (st : Sto) (H : Hp) : List V → List SV → Prop := Paired (AgR E L w st H)
/-- what comes back -/
def BkR (E : En) (w : Wd) (st : Sto) (H : Hp) (B : Hp) (v : V) (s : SV) : Prop := VR E [] w st H [] [] B v s ∧ s.fit = true
def OkC (E : En) (L : List Ow) (w : Wd) (st : Sto) (H : Hp) (Q : VK) (Y : XK) : Out SV → Prop
  | .ok sv st' => ∀ w' H' v, SR E w' L st' H' → Fr E L ⟨w, st, H⟩ ⟨w', st', H'⟩ → BkR E w' st' H' H v sv → Q v H'
  | .ex x st' => ∀ w' H' cls d, SR E w' L st' H' → Fr E L ⟨w, st, H⟩ ⟨w', st', H'⟩ → XR E w'.ad H' cls d x → Y cls d H'
/-- a def's promise: what the evaluator says -/
def spT (P : Prog) (E : En) (n f : Nat) : Sp := fun vs H Q Y => ∃ (as : List SV) (L : List Ow) (w : Wd) (st : Sto) (r : Out SV), (∀ o ∈ L, o.inStore = true) ∧ SR E w L st H ∧ AgsR E L w st H vs as ∧ P.call n f as L st = some r ∧ as.length = (P.fn f).np ∧ OkC E L w st H Q Y r
theorem fit_vr (hf : s.fit = true) (h : VR E L0 w st H [] [] B v s) : VR E L' w st H env σ B v s := by
  cases h with
  | d h => exact .d h
  | own h1 h2 h3 h4 h5 => exact .own h1 h2 h3 h4 h5
  | atS h1 h2 h3 h4 => cases hf
  | atF h1 h2 => cases hf
  | par h1 h2 h3 => cases hf
  | scr h1 h2 => cases hf
theorem inStore_of {o : Ow} (h : o.live st) : o.inStore = true := by
  cases o with
  | c k => rfl
  | f i nm => rfl
  | s j => exact h.elim
theorem SR.filt (S : SR E w L st H) : SR E w (L.filter Ow.inStore) st H := ⟨S.len, S.inj, S.cell, fun o a h1 h2 h3 => S.ex o a h1 (fun z => h2 (List.mem_filter.mpr ⟨z, inStore_of h1⟩)) h3, S.nd⟩
theorem Fr.unfilt {x y : Ss} (f : Fr E (L.filter Ow.inStore) x y) : Fr E L x y := ⟨f.ad, f.tm, f.out, f.new, f.newz, f.dom, fun o h hl => f.lk o (List.mem_filter.mpr ⟨h, inStore_of hl⟩) hl⟩
theorem ag_of (h : VR E L0 w st H env σ B v s) (hl : ∀ o ∈ lockOf s, o ∈ L) (h0 : ∀ o ∈ L0, o ∈ L) : AgR E (L.filter Ow.inStore) w st H v (argS s) := by
  cases h with
  | d h => exact .d h
  | own h1 h2 h3 h4 h5 => exact .par h1 (.inl h3)
  | atS h1 h2 h3 h4 => exact .par h3 (.inl h4)
  | @atF i nm x h1 h2 => exact .par h1 (.inr ⟨.f i nm, List.mem_filter.mpr ⟨hl _ (by simp [lockOf]), rfl⟩, h2, rfl⟩)
  | par h1 h2 h3 =>
    refine .par h1 ?_
    rcases h2 with h2 | ⟨o, k1, k2, k3⟩
    · exact .inl h2
    · exact .inr ⟨o, List.mem_filter.mpr ⟨h0 o k1, inStore_of k2⟩, k2, k3⟩
  | scr h1 h2 =>
    refine .scr ?_ h2
    rcases h1 with h1 | ⟨h1, k1, k2⟩
    · exact .inl h1
    · exact .inr ⟨h1, k1, fun z => by obtain ⟨j, x, e, _⟩ := z; simp at e⟩
theorem ags_of (h0 : ∀ o ∈ L0, o ∈ L) : ∀ {vs : List V} {ss : List SV}, VRs E L0 w st H env σ B vs ss → (∀ o ∈ ss.flatMap lockOf, o ∈ L) → AgsR E (L.filter Ow.inStore) w st H vs (ss.map argS)
  | _, _, .nil, _ => .nil
  | _, _, .cons h t _, hl => .cons (ag_of h (fun o z => hl o (by rw [List.flatMap_cons]; exact List.mem_append.mpr (.inl z))) h0) (ags_of h0 t fun o z => hl o (by rw [List.flatMap_cons]; exact List.mem_append.mpr (.inr z)))
theorem vrs_live {vs : List V} {ss : List SV} (h : VRs E L0 w st H env σ B vs ss) : ∀ o ∈ ss.flatMap lockOf, ∀ st', o.live st' → o.live st := by
  induction h with
  | nil => intro o z; simp at z
  | cons h t _ ih =>
    intro o z
    rw [List.flatMap_cons] at z
    rcases List.mem_append.mp z with z | z
    · exact h.live o z
    · exact ih o z
/-- from the caller's side: the promise at hand -/
theorem go_ok {f : Nat} {r : Out SV} {Q : VK} (h0 : ∀ o ∈ L0, o ∈ L) (S : SR E w L st H) (hv : VRs E L0 w st H env σ B vs ss) (hB : ∀ p, H p = none → B p = none) (hn : ss.length = (P.fn f).np) (h : (P.cl (P.call n) L).go f ss st = some r) (hQ : OkR E W L w st σ H (fun w' st' H' b a => VR E L0 w' st' H' env σ B b a) Q r) : spT P E n f vs H Q (WE W σ) := by
  have h' : P.call n f (ss.map argS) ((ss.flatMap lockOf ++ L).filter Ow.inStore) st = some r := h
  have h0' : ∀ o ∈ L0, o ∈ ss.flatMap lockOf ++ L := fun o z => List.mem_append.mpr (.inr (h0 o z))
  refine ⟨ss.map argS, (ss.flatMap lockOf ++ L).filter Ow.inStore, w, st, r, fun o z => (List.mem_filter.mp z).2, S.lkApp.filt, ags_of h0' hv (fun o z => List.mem_append.mpr (.inl z)), h', by rw [List.length_map]; exact hn, ?_⟩
  have hs : ∀ {w' : Wd} {st' : Sto} {H' : Hp}, SR E w' ((ss.flatMap lockOf ++ L).filter Ow.inStore) st' H' → Fr E ((ss.flatMap lockOf ++ L).filter Ow.inStore) ⟨w, st, H⟩ ⟨w', st', H'⟩ → SR E w' L st' H' := fun S' f' => S.unlk f'.unfilt (S'.lk fun o z _ => (List.mem_filter.mp z).1) (vrs_live hv)
  cases r with
  | ok sv st' =>
    intro w' H' v S' f' b
    exact hQ w' H' v (hs S' f') (f'.unfilt.less fun o z => List.mem_append.mpr (.inr z)) ((fit_vr b.2 b.1).base hB)
  | ex x st' =>
    intro w' H' cls d S' f' y
    exact hQ w' H' cls d (hs S' f') (f'.unfilt.less fun o z => List.mem_append.mpr (.inr z)) y
/-- written arguments, then constants -/
def Exs.app : Exs → Exs → Exs
  | .nil, es => es
  | .cons e es, fs => .cons e (es.app fs)
def Exs.len : Exs → Nat
  | .nil => 0
  | .cons _ es => es.len + 1
theorem evs_len {c : Cl} : ∀ {es : Exs} {env : Env} {st st' : Sto} {ss : List SV}, evs c es env st = some (.ok ss st') → ss.length = es.len
  | .nil, env, st, st', ss, h => by cases (show some (Out.ok [] st) = some (.ok ss st') from h); rfl
  | .cons e es, env, st, st', ss, h => by
    have h' : rb (ev c e env st) (fun u st => rb (evs (c.lk (lockOf u)) es env st) fun us st => ok (u :: us) st) = some (.ok ss st') := h
    cases e1 : ev c e env st with
    | none => rw [e1] at h'; cases h'
    | some o =>
      rw [e1] at h'
      cases o with
      | ex x st1 => cases h'
      | ok u st1 =>
        have h2 : rb (evs (c.lk (lockOf u)) es env st1) (fun us st => ok (u :: us) st) = some (.ok ss st') := h'
        cases e2 : evs (c.lk (lockOf u)) es env st1 with
        | none => rw [e2] at h2; cases h2
        | some o2 =>
          rw [e2] at h2
          cases o2 with
          | ex x st2 => cases h2
          | ok us st2 =>
            cases (show some (Out.ok (u :: us) st2) = some (.ok ss st') from h2)
            rw [List.length_cons, evs_len e2]
            rfl
theorem se_call {f : Nat} {ta : TA} {es : Exs} (ha : SA P n E xb W ta es) (hn : es.len = (P.fn f).np) : SE P n E xb W (tCallS (spT P E n f) (WE W) ta) (.call f es) := by
  intro L0 L w env st σ H h0 S R r h Q hQ
  show ta σ H fun vs H1 => spT P E n f vs H1 Q (WE W σ)
  have h' : rb (evs (P.cl (P.call n) L) es env st) (fun as st => (P.cl (P.call n) L).go f as st) = some r := h
  cases e : evs (P.cl (P.call n) L) es env st with
  | none => rw [e] at h'; cases h'
  | some o =>
    refine ha L0 L w env st σ H h0 S R o e _ ?_
    rw [e] at h'
    cases o with
    | ex x st1 =>
      cases (show some (Out.ex x st1) = some r from h')
      exact hQ
    | ok as st1 =>
      intro w1 H1 vs S1 f1 v1
      exact go_ok h0 S1 v1 f1.dom ((evs_len e).trans hn) h' (hQ.from f1 fun _ _ _ _ _ z => z)
end
end Tv
namespace Tv
open PySem L2
structure Fs where
  w : Wd
  env : Env
  st : Sto
  σ : L2.St
  H : Hp
structure FrS (E : En) (L : List Ow) (a : Fs) (b : Ss) : Prop where
  ad : a.w.ad <+: b.w.ad
  tm : Tm E.K a.H b.H
  out : ∀ p o, a.H p = some o → ¬ Owd a.w a.st p → ¬ Sod a.env a.σ p → b.H p = some o
  new : ∀ p, Owd b.w b.st p → Owd a.w a.st p ∨ Sod a.env a.σ p ∨ a.H p = none
  newz : ∀ p, Zad b.w b.st b.H p → Zad a.w a.st a.H p ∨ Owd a.w a.st p ∨ Sod a.env a.σ p ∨ a.H p = none
  dom : ∀ p, b.H p = none → a.H p = none
  lk : ∀ o ∈ L, o.live a.st → o.live b.st ∧ b.w.at o = a.w.at o ∧ ∀ p, a.w.at o = some p → b.H p = a.H p
structure Stp (E : En) (L : List Ow) (a b : Fs) : Prop extends FrS E L a ⟨b.w, b.st, b.H⟩ where
  newS : ∀ p, Sod b.env b.σ p → Sod a.env a.σ p ∨ a.H p = none
  lkS : ∀ j, .s j ∈ L → b.env[j]? = a.env[j]? ∧ b.σ[j]? = a.σ[j]? ∧ ∀ p x, a.env[j]? = some (some (.c .own x)) → a.σ[j]? = some (some (.ref p)) → b.H p = a.H p
section
variable {E : En} {xb : XB} {w w1 w2 : Wd} {L0 L L' l : List Ow} {st st1 st2 : Sto} {H H1 H2 B B' : Hp} {env env1 : Env} {σ σ1 : L2.St} {v : V} {s : SV} {vs : List V} {ss : List SV} {j i : Nat} {p : Addr} {P : Prog} {n : Nat} {W : WX} {X : Cx} {a b : Fs} {c : Ss} {d : Fs}
theorem FrS.of (f : Fr E L ⟨a.w, a.st, a.H⟩ c) : FrS E L a c := ⟨f.ad, f.tm, fun p o e h _ => f.out p o e h, fun p h => (f.new p h).elim .inl fun z => .inr (.inr z), fun p h => (f.newz p h).elim .inl fun z => .inr (z.elim .inl fun z => .inr (.inr z)), f.dom, f.lk⟩
theorem FrS.tr (f : Stp E L a b) (g : FrS E L b c) : FrS E L a c := by
  refine ⟨f.ad.trans g.ad, f.tm.tr g.tm, fun p o e h1 h2 => ?_, fun p h => ?_, fun p h => ?_, fun p h => f.dom p (g.dom p h), fun o h hl => ?_⟩
  · refine g.out p o (f.out p o e h1 h2) (fun z => ?_) fun z => ?_
    · rcases f.new p z with z | z | z
      · exact h1 z
      · exact h2 z
      · rw [e] at z; cases z
    · rcases f.newS p z with z | z
      · exact h2 z
      · rw [e] at z; cases z
  · rcases g.new p h with h | h | h
    · exact f.new p h
    · rcases f.newS p h with h | h
      · exact .inr (.inl h)
      · exact .inr (.inr h)
    · exact .inr (.inr (f.dom p h))
  · rcases g.newz p h with h | h | h | h
    · exact f.newz p h
    · exact .inr (f.new p h)
    · rcases f.newS p h with h | h
      · exact .inr (.inr (.inl h))
      · exact .inr (.inr (.inr h))
    · exact .inr (.inr (.inr (f.dom p h)))
  · obtain ⟨h1, h2, h3⟩ := f.lk o h hl
    obtain ⟨k1, k2, k3⟩ := g.lk o h h1
    exact ⟨k1, k2.trans h2, fun p e => (k3 p (h2.trans e)).trans (h3 p e)⟩
theorem Stp.tr (f : Stp E L a b) (g : Stp E L b d) : Stp E L a d := by
  refine ⟨FrS.tr f g.toFrS, fun p h => ?_, fun j hj => ?_⟩
  · rcases g.newS p h with h | h
    · exact f.newS p h
    · exact .inr (f.dom p h)
  · obtain ⟨h1, h2, h3⟩ := f.lkS j hj
    obtain ⟨k1, k2, k3⟩ := g.lkS j hj
    exact ⟨k1.trans h1, k2.trans h2, fun p x e1 e2 => (k3 p x (h1.trans e1) (h2.trans e2)).trans (h3 p x e1 e2)⟩
theorem Stp.less (h : ∀ o, o ∈ L' → o ∈ L) (f : Stp E L a b) : Stp E L' a b := ⟨⟨f.ad, f.tm, f.out, f.new, f.newz, f.dom, fun o z => f.lk o (h o z)⟩, f.newS, fun j z => f.lkS j (h _ z)⟩
theorem FrS.less (h : ∀ o, o ∈ L' → o ∈ L) (f : FrS E L a c) : FrS E L' a c := ⟨f.ad, f.tm, f.out, f.new, f.newz, f.dom, fun o z => f.lk o (h o z)⟩
theorem Stp.rfl' (a : Fs) : Stp E L a a := ⟨.of (Fr.rfl' _), fun p h => .inl h, fun j _ => ⟨rfl, rfl, fun _ _ _ _ => rfl⟩⟩
/-- an expression's doings -/
theorem Stp.of (R : ER E xb L0 w L st H env σ) (f : Fr E L ⟨w, st, H⟩ ⟨w1, st1, H1⟩) : Stp E L ⟨w, env, st, σ, H⟩ ⟨w1, env, st1, σ, H1⟩ := ⟨.of f, fun p h => .inl h, fun j _ => ⟨rfl, rfl, fun p x e1 e2 => by
  obtain ⟨v, e3, k⟩ := R.ok j _ e1
  have e2' : σ[j]? = some (some (.ref p)) := e2
  rw [e2'] at e3
  cases e3
  cases k with
  | own k1 k2 k3 => exact (f.stay k2 k1).2.2⟩⟩
/-- what may come back out of a body -/
def RtR (E : En) (a : Fs) (w : Wd) (st : Sto) (H : Hp) (v : V) : SV → Prop
  | .d x => Rv E w.ad H v x
  | .c .own x => ∃ p, v = .ref p ∧ CoR E w.ad H p x ∧ Xt H p ∧ ¬ Owd w st p ∧ ¬ Zad w st H p ∧ (Sod a.env a.σ p ∨ a.H p = none)
  | _ => False
def OkS (E : En) (xb : XB) (W : WX) (L0 L : List Ow) (a : Fs) (D : Ends) : SO → Prop
  | .nx env' st' => ∀ w' σ' H', SR E w' L st' H' → ER E xb L0 w' L st' H' env' σ' → Stp E L a ⟨w', env', st', σ', H'⟩ → D.nx σ' H'
  | .bk env' st' => ∀ w' σ' H', SR E w' L st' H' → ER E xb L0 w' L st' H' env' σ' → Stp E L a ⟨w', env', st', σ', H'⟩ → D.bk σ' H'
  | .ct env' st' => ∀ w' σ' H', SR E w' L st' H' → ER E xb L0 w' L st' H' env' σ' → Stp E L a ⟨w', env', st', σ', H'⟩ → D.ct σ' H'
  | .rt sv st' => ∀ w' H' v, SR E w' L st' H' → FrS E L a ⟨w', st', H'⟩ → RtR E a w' st' H' v sv → D.rt v H'
  | .ex x env' st' => ∀ w' σ' H' cls d, SR E w' L st' H' → ER E xb L0 w' L st' H' env' σ' → Stp E L a ⟨w', env', st', σ', H'⟩ → XR E w'.ad H' cls d x → W cls d σ' H'
theorem OkS.from {D : Ends} {r : SO} (h : OkS E xb W L0 L a D r) (f : Stp E L a b) : OkS E xb W L0 L b D r := by
  cases r with
  | nx env' st' => exact fun w' σ' H' S R g => h w' σ' H' S R (f.tr g)
  | bk env' st' => exact fun w' σ' H' S R g => h w' σ' H' S R (f.tr g)
  | ct env' st' => exact fun w' σ' H' S R g => h w' σ' H' S R (f.tr g)
  | ex x env' st' => exact fun w' σ' H' cls d S R g => h w' σ' H' cls d S R (f.tr g)
  | rt sv st' =>
    refine fun w' H' v S g k => h w' H' v S (FrS.tr f g) ?_
    cases sv with
    | d x => exact k
    | c kd x =>
      cases kd <;> try exact k.elim
      obtain ⟨p, e, k1, k2, k3, k4, k5⟩ := k
      refine ⟨p, e, k1, k2, k3, k4, ?_⟩
      rcases k5 with k5 | k5
      · exact f.newS p k5
      · exact .inr (f.dom p k5)
    | x e => exact k.elim
/-- the reading of statements, told by the evaluator -/
def SSG (P : Prog) (n : Nat) (E : En) (xb : XB) (W : WX) (t : TS) (e : Cl → Env → Sto → Option SO) : Prop :=
  ∀ (L0 L : List Ow) (w : Wd) (env : Env) (st : Sto) (σ : L2.St) (H : Hp), (∀ o ∈ L0, o ∈ L) → SR E w L st H → ER E xb L0 w L st H env σ → ∀ r, e (P.cl (P.call n) L) env st = some r → ∀ D, OkS E xb W L0 L ⟨w, env, st, σ, H⟩ D r → t D σ H
abbrev SS (P : Prog) (n : Nat) (E : En) (xb : XB) (W : WX) (t : TS) (s : Stt) : Prop := SSG P n E xb W t (fun c env st => exec c s env st)
abbrev SSs (P : Prog) (n : Nat) (E : En) (xb : XB) (W : WX) (t : TS) (s : Stts) : Prop := SSG P n E xb W t (fun c env st => execs c s env st)
theorem ss_nil : SSs P n E xb W tNext .nil := by
  intro L0 L w env st σ H h0 S R r h D hD
  cases (show some (SO.nx env st) = some r from h)
  exact hD w σ H S R (Stp.rfl' _)
theorem ss_cons {t u : TS} {s : Stt} {ss : Stts} (h1 : SS P n E xb W t s) (h2 : SSs P n E xb W u ss) : SSs P n E xb W (tSeq t u) (.cons s ss) := by
  intro L0 L w env st σ H h0 S R r h D hD
  have h' : sq (exec (P.cl (P.call n) L) s env st) (fun env st => execs (P.cl (P.call n) L) ss env st) = some r := h
  cases e : exec (P.cl (P.call n) L) s env st with
  | none => rw [e] at h'; cases h'
  | some o =>
    rw [e] at h'
    refine h1 L0 L w env st σ H h0 S R o e { D with nx := u D } ?_
    cases o with
    | nx env1 st1 => exact fun w1 σ1 H1 S1 R1 g => h2 L0 L w1 env1 st1 σ1 H1 h0 S1 R1 r h' D (hD.from g)
    | rt v st1 => cases (show some (SO.rt v st1) = some r from h'); exact hD
    | bk env1 st1 => cases (show some (SO.bk env1 st1) = some r from h'); exact hD
    | ct env1 st1 => cases (show some (SO.ct env1 st1) = some r from h'); exact hD
    | ex x env1 st1 => cases (show some (SO.ex x env1 st1) = some r from h'); exact hD
/-- an expression, then what follows -/
theorem sb_go {α β : Type} {Ra : List Ow → Wd → Sto → Hp → Env → L2.St → Hp → β → α → Prop} {ta : L2.St → Hp → (β → Hp → Prop) → Prop} {fa : Cl → Env → Sto → Res α} {k : α → Sto → Option SO} {r : SO} {D : Ends} {Qt : β → Hp → Prop}
    (ha : SG P n E xb W Ra ta fa) (h0 : ∀ o ∈ L0, o ∈ L) (S : SR E w L st H) (R : ER E xb L0 w L st H env σ) (h : sb (fa (P.cl (P.call n) L) env st) env k = some r) (hD : OkS E xb W L0 L ⟨w, env, st, σ, H⟩ D r)
    (hk : ∀ a st1 w1 H1 x, SR E w1 L st1 H1 → ER E xb L0 w1 L st1 H1 env σ → Fr E L ⟨w, st, H⟩ ⟨w1, st1, H1⟩ → Ra L0 w1 st1 H1 env σ H x a → k a st1 = some r → OkS E xb W L0 L ⟨w1, env, st1, σ, H1⟩ D r → Qt x H1) : ta σ H Qt := by
  cases e : fa (P.cl (P.call n) L) env st with
  | none => rw [e] at h; cases h
  | some o =>
    rw [e] at h
    refine ha L0 L w env st σ H h0 S R o e Qt ?_
    cases o with
    | ok a st1 => exact fun w1 H1 x S1 f1 r1 => hk a st1 w1 H1 x S1 (R.fr S h0 f1) f1 r1 h (hD.from (Stp.of R f1))
    | ex x st1 =>
      cases (show some (SO.ex x env st1) = some r from h)
      exact fun w1 H1 cls d S1 f1 y => hD w1 σ H1 cls d S1 (R.fr S h0 f1) (Stp.of R f1) y
theorem ss_ifs {tt : TT} {ta tb : TS} {t : Tx} {a b : Stts} (ht : STe P n E xb W tt t) (ha : SSs P n E xb W ta a) (hb : SSs P n E xb W tb b) : SS P n E xb W (tIfS tt ta tb) (.ifs t a b) := by
  intro L0 L w env st σ H h0 S R r h D hD
  show tt σ H fun c H1 => if c = true then ta D σ H1 else tb D σ H1
  refine sb_go ht h0 S R h hD fun u st1 w1 H1 x S1 R1 f1 v1 h hD => ?_
  subst v1
  cases x with
  | true => rw [if_pos rfl]; exact ha L0 L w1 env st1 σ H1 h0 S1 R1 r h D hD
  | false => rw [if_neg Bool.false_ne_true]; exact hb L0 L w1 env st1 σ H1 h0 S1 R1 r h D hD
theorem sod_slot {x : Cn} (h1 : env[i]? = some (some (.c .own x))) (h2 : σ[i]? = some (some (.ref p))) : Sod env σ p := ⟨i, x, h1, h2⟩
theorem ss_ret_var : SS P n E xb W (tRet (tVar i)) (.ret (.var i)) := by
  intro L0 L w env st σ H h0 S R r h D hD
  show ∃ v, σ[i]? = some (some v) ∧ D.rt v H
  have h' : (match env[i]? with
      | some (some (.d x)) => some (SO.rt (.d x) st)
      | some (some (.c .own x)) => if free (P.cl (P.call n) L) i then some (.rt (.c .own x) st) else none
      | _ => none) = some r := h
  split at h'
  · rename_i x e
    obtain ⟨v, h1, h2⟩ := R.ok i _ e
    cases h'
    cases h2 with
    | d h2 => exact ⟨v, h1, hD w H v S (Stp.rfl' _).toFrS h2⟩
  · rename_i x e
    split at h'
    · rename_i hf
      obtain ⟨v, h1, h2⟩ := R.ok i _ e
      cases h'
      cases h2 with
      | own k1 k2 k3 =>
        refine ⟨_, h1, hD w H _ S (Stp.rfl' _).toFrS ⟨_, rfl, k1, k3 ?_, k2, fun z => R.zs _ z (sod_slot e h1), .inl (sod_slot e h1)⟩⟩
        intro z
        unfold free at hf
        have : L.contains (.s i) = true := by simpa using z
        rw [show (P.cl (P.call n) L).locks = L from rfl, this] at hf
        cases hf
    · cases h'
  · cases h'
def Ex.isVar : Ex → Bool
  | .var _ => true
  | _ => false
theorem exec_ret {c : Cl} {e : Ex} (h : e.isVar = false) : exec c (.ret e) env st = sb (ev c e env st) env fun v st => match v with
      | .d x => some (.rt (.d x) st)
      | .c .own x => some (.rt (.c .own x) st)
      | _ => none := by
  cases e <;> first | rfl | cases h
theorem ss_ret {te : TE} {e : Ex} (hv : e.isVar = false) (he : SE P n E xb W te e) : SS P n E xb W (tRet te) (.ret e) := by
  intro L0 L w env st σ H h0 S R r h D hD
  show te σ H D.rt
  have h := (exec_ret hv).symm.trans h
  have hD0 := hD
  refine sb_go he h0 S R h hD fun u st1 w1 H1 x S1 R1 f1 v1 h hD => ?_
  split at h
  · cases h
    exact hD0 w1 H1 x S1 (FrS.of f1) v1.dd
  · cases h
    cases v1 with
    | own k1 k2 k3 k4 k5 => exact hD0 w1 H1 _ S1 (FrS.of f1) ⟨_, rfl, k1, k2, k3, k5, .inr k4⟩
  · cases h
end
end Tv
namespace Tv
open PySem L2
section
variable {E : En} {xb : XB} {w w0 w1 w2 : Wd} {L0 L L' l : List Ow} {st st0 st1 st2 : Sto} {H H1 H2 B B' : Hp} {env env1 env' : Env} {σ σ1 σ' : L2.St} {v : V} {s : SV} {vs : List V} {ss : List SV} {j i : Nat} {p : Addr} {P : Prog} {n : Nat} {W : WX} {X : Cx} {a b : Fs} {c : Ss} {d : Fs}
theorem get_set {α : Type} {xs : List α} {i j : Nat} {x y : α} (h : (xs.set i x)[j]? = some y) : (j = i ∧ y = x ∧ i < xs.length) ∨ (j ≠ i ∧ xs[j]? = some y) := by
  rw [List.getElem?_set] at h
  split at h
  · rename_i e
    split at h
    · rename_i hl
      cases h
      exact .inl ⟨e.symm, rfl, hl⟩
    · cases h
  · rename_i e
    exact .inr ⟨fun z => e z.symm, h⟩
theorem set_ne {α : Type} {xs : List α} {i j : Nat} {x : α} (h : j ≠ i) : (xs.set i x)[j]? = xs[j]? := by
  rw [List.getElem?_set, if_neg (fun z => h z.symm)]
theorem set_eq {α : Type} {xs : List α} {i : Nat} {x : α} (h : i < xs.length) : (xs.set i x)[i]? = some x := by
  rw [List.getElem?_set, if_pos rfl, if_pos h]
theorem SlR.re (h : SlR E xb L0 w L st H env σ j v s) (k : ∀ q, v = .ref q → ¬ Sod env σ q → H q ≠ none → ¬ Sod env' σ' q) : SlR E xb L0 w L st H env' σ' j v s := by
  cases h with
  | d h => exact .d h
  | own h1 h2 h3 => exact .own h1 h2 h3
  | par h1 h2 h3 => exact .par h1 h2 (k _ rfl h3 (by obtain ⟨o, e⟩ := h1.has; rw [e]; intro z; cases z))
  | scr h1 h2 =>
    refine .scr ?_ h2
    rcases h1 with h1 | ⟨h1, k1, k2⟩
    · exact .inl h1
    · exact .inr ⟨h1, k1, k _ rfl k2 (rd_has h1)⟩
  | x h1 h2 => exact .x h1 h2
theorem sod_set (h : Sod (env.set i (some s)) (σ.set i (some v)) p) : Sod env σ p ∨ (v = .ref p ∧ ∃ x, s = .c .own x) := by
  obtain ⟨j, x, h1, h2⟩ := h
  rcases get_set h1 with ⟨e1, e2, e3⟩ | ⟨e1, h1⟩
  · subst e1
    rcases get_set h2 with ⟨_, e4, _⟩ | ⟨e4, _⟩
    · cases e4
      cases e2
      exact .inr ⟨rfl, x, rfl⟩
    · exact absurd rfl e4
  · rw [set_ne e1] at h2
    exact .inl ⟨j, x, h1, h2⟩
theorem sod_unset (h : Sod (env.set i none) σ p) : Sod env σ p := by
  obtain ⟨j, x, h1, h2⟩ := h
  rcases get_set h1 with ⟨_, e2, _⟩ | ⟨_, h1⟩
  · cases e2
  · exact ⟨j, x, h1, h2⟩
/-- data (or what is only seen) comes to a name -/
theorem ER.setV (R : ER E xb L0 w L st H env σ) (hs : ∀ x, s ≠ .c .own x) (h : SlR E xb L0 w L st H env σ i v s) : ER E xb L0 w L st H (env.set i (some s)) (σ.set i (some v)) := by
  have hsod : ∀ q, Sod (env.set i (some s)) (σ.set i (some v)) q → Sod env σ q := fun q z => by
    rcases sod_set z with z | ⟨_, x, e⟩
    · exact z
    · exact absurd e (hs x)
  refine ⟨by rw [List.length_set, List.length_set]; exact R.len, fun j s' e => ?_, fun j k x y q e1 e2 e3 e4 => ?_, fun q z k => R.zs q z (hsod q k)⟩
  · rcases get_set e with ⟨rfl, e2, hl⟩ | ⟨e1, e2⟩
    · cases e2
      exact ⟨v, set_eq (by rw [← R.len]; exact hl), h.re fun q _ k _ z => k (hsod q z)⟩
    · obtain ⟨u, k1, k2⟩ := R.ok j s' e2
      exact ⟨u, by rw [set_ne e1]; exact k1, k2.re fun q _ k _ z => k (hsod q z)⟩
  · rcases get_set e1 with ⟨_, e5, _⟩ | ⟨n1, e1⟩
    · cases e5; exact absurd rfl (hs x)
    · rcases get_set e2 with ⟨_, e5, _⟩ | ⟨n2, e2⟩
      · cases e5; exact absurd rfl (hs y)
      · rw [set_ne n1] at e3
        rw [set_ne n2] at e4
        exact R.inj j k x y q e1 e2 e3 e4
/-- a container comes to a name; ahead (at R0) it was not there -/
theorem ER.setOwn {x : Cn} (S0 : SR E w0 L st0 B) (h0 : ∀ o ∈ L0, o ∈ L) (R0 : ER E xb L0 w0 L st0 B env σ) (f : Fr E L ⟨w0, st0, B⟩ ⟨w, st, H⟩) (k1 : CoR E w.ad H p x) (k2 : Xt H p) (k3 : ¬ Owd w st p) (k4 : B p = none) (k5 : ¬ Zad w st H p) : ER E xb L0 w L st H (env.set i (some (.c .own x))) (σ.set i (some (.ref p))) := by
  have R := R0.fr S0 h0 f
  have nold : ¬ Sod env σ p := fun z => by
    obtain ⟨_, o, e, _⟩ := R0.sod z
    rw [k4] at e
    cases e
  refine ⟨by rw [List.length_set, List.length_set]; exact R.len, fun j s' e => ?_, fun j k x' y q e1 e2 e3 e4 => ?_, fun q z k => ?_⟩
  · rcases get_set e with ⟨rfl, e2, hl⟩ | ⟨e1, e2⟩
    · cases e2
      exact ⟨_, set_eq (by rw [← R.len]; exact hl), .own k1 k3 fun _ => k2⟩
    · obtain ⟨u, q1, q2⟩ := R0.ok j s' e2
      refine ⟨u, by rw [set_ne e1]; exact q1, SlR.fr f h0 S0 (q2.re fun q _ q3 q4 z => ?_)⟩
      rcases sod_set z with z | ⟨e3, _⟩
      · exact q3 z
      · cases e3; exact q4 k4
  · rcases get_set e1 with ⟨a1, e5, _⟩ | ⟨n1, f1⟩ <;> rcases get_set e2 with ⟨a2, e6, _⟩ | ⟨n2, f2⟩
    · rw [a1, a2]
    · subst a1
      rcases get_set e3 with ⟨_, e7, _⟩ | ⟨n3, _⟩
      · cases e7
        rw [set_ne n2] at e4
        exact absurd ⟨k, y, f2, e4⟩ nold
      · exact absurd rfl n3
    · subst a2
      rcases get_set e4 with ⟨_, e7, _⟩ | ⟨n3, _⟩
      · cases e7
        rw [set_ne n1] at e3
        exact absurd ⟨j, x', f1, e3⟩ nold
      · exact absurd rfl n3
    · rw [set_ne n1] at e3
      rw [set_ne n2] at e4
      exact R.inj j k x' y q f1 f2 e3 e4
  · rcases sod_set k with k | ⟨e, _⟩
    · exact R.zs q z k
    · cases e; exact k5 z
theorem free_s {L : List Ow} (h : free (P.cl (P.call n) L) i = true) : .s i ∉ L := fun z => by
  unfold free at h
  have e : L.contains (.s i) = true := by simpa using z
  rw [show (P.cl (P.call n) L).locks = L from rfl, e] at h
  cases h
/-- a name alone is stored -/
theorem Stp.name (R : ER E xb L0 w L st H env σ) (hi : .s i ∉ L) {o : Option SV} {u : Option V} (hs : ∀ q, Sod (env.set i o) (σ.set i u) q → Sod env σ q ∨ B q = none) (f : Stp E L ⟨w0, env, st0, σ, B⟩ ⟨w, env, st, σ, H⟩) : Stp E L ⟨w0, env, st0, σ, B⟩ ⟨w, env.set i o, st, σ.set i u, H⟩ :=
  ⟨f.toFrS, fun q z => hs q z, fun j hj => by
    have ne : j ≠ i := fun z => hi (z ▸ hj)
    obtain ⟨h1, h2, h3⟩ := f.lkS j hj
    exact ⟨by show (env.set i o)[j]? = env[j]?; exact set_ne ne, by show (σ.set i u)[j]? = σ[j]?; exact set_ne ne, h3⟩⟩
theorem stp_setD {x : D} (R : ER E xb L0 w L st H env σ) (hi : .s i ∉ L) : Stp E L ⟨w, env, st, σ, H⟩ ⟨w, env.set i (some (.d x)), st, σ.set i (some v), H⟩ := Stp.name R hi (fun q z => by
    rcases sod_set z with z | ⟨_, _, e⟩
    · exact .inl z
    · cases e) (Stp.rfl' _)
structure TgK (xb : XB) (E : En) (L0 L : List Ow) (w : Wd) (st : Sto) (H : Hp) (env env' : Env) (σ σ' : L2.St) (ns : List Nat) : Prop where
  er : ER E xb L0 w L st H env' σ'
  sod : ∀ p, Sod env' σ' p → Sod env σ p
  off : ∀ j, j ∉ ns → env'[j]? = env[j]? ∧ σ'[j]? = σ[j]?
def TgS (E : En) (t : TG) (tg : Tg) : Prop := ∀ (xb : XB) (L0 L : List Ow) (w : Wd) (env env' : Env) (st : Sto) (σ : L2.St) (H : Hp) (v : V) (x : D), ER E xb L0 w L st H env σ → Rv E w.ad H v x → tg.set env x = some env' →
  ∀ Q : L2.St → Hp → Prop, (∀ σ', TgK xb E L0 L w st H env env' σ σ' tg.names → Q σ' H) → t v σ H Q
def TgsS (E : En) (t : TGs) (tg : List Tg) : Prop := ∀ (xb : XB) (L0 L : List Ow) (w : Wd) (env env' : Env) (st : Sto) (σ : L2.St) (H : Hp) (vs : List V) (xs : List D), ER E xb L0 w L st H env σ → RvA E w.ad H vs xs → Tg.sets env tg xs = some env' →
  ∀ Q : L2.St → Hp → Prop, (∀ σ', TgK xb E L0 L w st H env env' σ σ' (Tg.namess tg) → Q σ' H) → t vs σ H Q
theorem sod_setD {x : D} (z : Sod (env.set i (some (.d x))) (σ.set i (some v)) q) : Sod env σ q := by
  rcases sod_set z with z | ⟨_, _, e⟩
  · exact z
  · cases e
theorem tg_nm : TgS E (gName i) (.nm i) := by
  intro xb L0 L w env env' st σ H v x R h e Q hQ
  cases (show some (env.set i (some (.d x))) = some env' from e)
  refine hQ _ ⟨R.setV (fun _ z => by cases z) (.d h), fun q z => sod_setD z, fun j hj => ?_⟩
  have n : j ≠ i := fun z => hj (by rw [z]; exact List.mem_singleton.mpr rfl)
  exact ⟨set_ne n, set_ne n⟩
theorem tgs_nil : TgsS E gNil [] := by
  intro xb L0 L w env env' st σ H vs xs R h e Q hQ
  cases h with
  | nil =>
    cases (show some env = some env' from e)
    exact ⟨rfl, hQ σ ⟨R, fun _ z => z, fun _ _ => ⟨rfl, rfl⟩⟩⟩
  | cons => cases (show (none : Option Env) = some env' from e)
theorem tgs_cons {t : TG} {u : TGs} {tg : Tg} {tgs : List Tg} (h1 : TgS E t tg) (h2 : TgsS E u tgs) : TgsS E (gCons t u) (tg :: tgs) := by
  intro xb L0 L w env env' st σ H vs xs R h e Q hQ
  cases h with
  | nil => cases (show (none : Option Env) = some env' from e)
  | @cons v vs x xs r t =>
    have e' : (match Tg.set env tg x with | some env => Tg.sets env tgs xs | none => none) = some env' := e
    split at e'
    · rename_i env1 e1
      refine ⟨v, vs, rfl, h1 xb L0 L w env env1 st σ H v x R r e1 _ fun σ1 k1 => ?_⟩
      refine h2 xb L0 L w env1 env' st σ1 H vs xs k1.er t e' Q fun σ2 k2 => hQ σ2 ⟨k2.er, fun p z => k1.sod p (k2.sod p z), fun j hj => ?_⟩
      have a := k2.off j fun z => hj (List.mem_append.mpr (.inr z))
      have b := k1.off j fun z => hj (List.mem_append.mpr (.inl z))
      exact ⟨a.1.trans b.1, a.2.trans b.2⟩
    · cases e'
mutual
theorem set_len : ∀ {t : Tg} {x : D} {env env' : Env}, t.set env x = some env' → env'.length = env.length
  | .nm i, x, env, env', h => by
    cases (show some (env.set i (some (.d x))) = some env' from h)
    rw [List.length_set]
  | .tp ts, x, env, env', h => by
    cases x with
    | tup xs => exact set_lens (ts := ts) (xs := xs) h
    | _ => cases (show (none : Option Env) = some env' from h)
theorem set_lens : ∀ {ts : List Tg} {xs : List D} {env env' : Env}, Tg.sets env ts xs = some env' → env'.length = env.length
  | [], [], _, _, h => by cases h; rfl
  | t :: ts, x :: xs, env, env', h => by
    have h' : (match Tg.set env t x with | some env => Tg.sets env ts xs | none => none) = some env' := h
    split at h'
    · rename_i env1 e1
      rw [set_lens h', set_len e1]
    · cases h'
  | [], x :: xs, _, _, h => by cases h
  | t :: ts, [], _, _, h => by cases h
end
theorem sets_len : ∀ {tgs : List Tg} {xs : List D} {env env' : Env}, Tg.sets env tgs xs = some env' → xs.length = tgs.length
  | [], [], _, _, _ => rfl
  | t :: ts, x :: xs, env, env', h => by
    have h' : (match Tg.set env t x with | some env => Tg.sets env ts xs | none => none) = some env' := h
    split at h'
    · rw [List.length_cons, List.length_cons, sets_len h']
    · cases h'
  | [], x :: xs, _, _, h => by cases h
  | t :: ts, [], _, _, h => by cases h
theorem tg_tp {u : TGs} {tgs : List Tg} {k : Nat} (h : TgsS E u tgs) (hk : tgs.length = k) : TgS E (gTup E.K k u) (.tp tgs) := by
  intro xb L0 L w env env' st σ H v x R r e Q hQ
  cases x with
  | tup xs =>
    obtain ⟨a, vs, rfl, h1, h2⟩ := r.tup_of
    have e' : Tg.sets env tgs xs = some env' := e
    exact ⟨a, vs, rfl, h1.sq, by rw [h2.length, sets_len e', hk], h xb L0 L w env env' st σ H vs xs R h2 e' Q hQ⟩
  | _ => cases (show (none : Option Env) = some env' from e)
mutual
theorem free_nms {c : Cl} : ∀ {t : Tg}, t.free c = true → ∀ i ∈ t.names, .s i ∉ c.locks
  | .nm k, h, i, hi => fun z => by
    have e : i = k := List.mem_singleton.mp hi
    subst e
    have h' : (!c.locks.contains (.s i)) = true := h
    have e : c.locks.contains (.s i) = true := by simpa using z
    rw [e] at h'
    cases h'
  | .tp ts, h, i, hi => free_nmss (ts := ts) h i hi
theorem free_nmss {c : Cl} : ∀ {ts : List Tg}, Tg.frees c ts = true → ∀ i ∈ Tg.namess ts, .s i ∉ c.locks
  | [], _, i, hi => by cases hi
  | t :: ts, h, i, hi => by
    have h' : (t.free c && Tg.frees c ts) = true := h
    rw [Bool.and_eq_true] at h'
    rcases List.mem_append.mp hi with hi | hi
    · exact free_nms h'.1 i hi
    · exact free_nmss h'.2 i hi
end
theorem TgK.stp {ns : List Nat} (k : TgK xb E L0 L w st H env env' σ σ' ns) (h : ∀ i ∈ ns, .s i ∉ L) : Stp E L ⟨w, env, st, σ, H⟩ ⟨w, env', st, σ', H⟩ :=
  ⟨(Stp.rfl' _).toFrS, fun p z => .inl (k.sod p z), fun j hj => by
    have o := k.off j fun z => h j z hj
    exact ⟨o.1, o.2, fun _ _ _ _ => rfl⟩⟩
theorem put_inv {c : Cl} {t : Tg} {x : D} (h : t.put c env x = some env') : t.free c = true ∧ t.set env x = some env' := by
  unfold Tg.put at h
  split at h
  · rename_i hf
    exact ⟨hf, h⟩
  · cases h
theorem ss_asg {te : TE} {g : TG} {e : Ex} {t : Tg} (he : SE P n E xb W te e) (hg : TgS E g t) (hn : ∀ i, t = .nm i → g = gName i) : SS P n E xb W (tAsg te g) (.asg t e) := by
  intro L0 L w env st σ H h0 S R r h D hD
  show te σ H fun x H1 => g x σ H1 D.nx
  have hD0 := hD
  refine sb_go he h0 S R h hD fun u st1 w1 H1 x S1 R1 f1 v1 h2 hD => ?_
  clear h
  revert h2; intro h
  split at h
  · rename_i y
    split at h
    · rename_i env' e1
      cases h
      obtain ⟨hf, e2⟩ := put_inv e1
      exact hg xb L0 L w1 env env' st1 σ H1 x y R1 v1.dd e2 D.nx fun σ' k => hD w1 σ' H1 S1 k.er (k.stp (free_nms hf))
    · cases h
  · rename_i y
    split at h
    · rename_i i
      unfold setV at h
      split at h
      · rename_i hf
        cases h
        rw [hn i rfl]
        cases v1 with
        | own k1 k2 k3 k4 k5 =>
          refine hD0 w1 _ H1 S1 (R.setOwn S h0 f1 k1 k2 k3 k4 k5) (Stp.name R1 (free_s hf) (fun q z => ?_) (Stp.of R f1))
          rcases sod_set z with z | ⟨e, _⟩
          · exact .inl z
          · cases e; exact .inr k4
      · cases h
    · cases h
  · rename_i y
    split at h
    · rename_i i
      unfold setV at h
      split at h
      · rename_i hf
        cases h
        rw [hn i rfl]
        cases v1 with
        | par k1 k2 k3 =>
          refine hD w1 _ H1 S1 (R1.setV (fun _ z => by cases z) (.par k1 k2 k3)) (Stp.name R1 (free_s hf) (fun q z => ?_) (Stp.rfl' _))
          rcases sod_set z with z | ⟨_, _, e⟩
          · exact .inl z
          · cases e
      · cases h
    · cases h
  · cases h
/-- a container goes from a name to another one -/
theorem ER.setMv {x : Cn} (R : ER E xb L0 w L st H env σ) (e : env[j]? = some (some (.c .own x))) (e2 : σ[j]? = some (some (.ref p))) (xt : Xt H p) : ER E xb L0 w L st H ((env.set j none).set i (some (.c .own x))) (σ.set i (some (.ref p))) := by
  have hp : Sod env σ p := sod_slot e e2
  obtain ⟨v0, q1, q2⟩ := R.ok j _ e
  rw [e2] at q1
  cases q1
  have hsod : ∀ q, Sod ((env.set j none).set i (some (.c .own x))) (σ.set i (some (.ref p))) q → Sod env σ q := fun q z => by
    rcases sod_set z with z | ⟨z, _⟩
    · exact sod_unset z
    · cases z; exact hp
  refine ⟨by rw [List.length_set, List.length_set, List.length_set]; exact R.len, fun m s' e' => ?_, fun m k x' y q a1 a2 a3 a4 => ?_, fun q z k => R.zs q z (hsod q k)⟩
  · rcases get_set e' with ⟨rfl, b1, hl⟩ | ⟨n1, b1⟩
    · cases b1
      rw [List.length_set] at hl
      cases q2 with
      | own k1 k2 k3 => exact ⟨_, set_eq (by rw [← R.len]; exact hl), .own k1 k2 fun _ => xt⟩
    · rcases get_set b1 with ⟨_, b2, _⟩ | ⟨n2, b2⟩
      · cases b2
      · obtain ⟨u, c1, c2⟩ := R.ok m s' b2
        exact ⟨u, by rw [set_ne n1]; exact c1, c2.re fun q _ k _ z => k (hsod q z)⟩
  · have key : ∀ (m : Nat) (x' : Cn), m ≠ i → ((env.set j none).set i (some (.c .own x)))[m]? = some (some (.c .own x')) → (σ.set i (some (.ref p)))[m]? = some (some (.ref q)) → m ≠ j ∧ env[m]? = some (some (.c .own x')) ∧ σ[m]? = some (some (.ref q)) := fun m x' n1 b1 b2 => by
      rw [set_ne n1] at b1 b2
      rcases get_set b1 with ⟨_, b3, _⟩ | ⟨n2, b3⟩
      · cases b3
      · exact ⟨n2, b3, b2⟩
    have at_i : ∀ (m : Nat), m = i → (σ.set i (some (.ref p)))[m]? = some (some (.ref q)) → q = p := fun m hm b => by
      subst hm
      rcases get_set b with ⟨_, b2, _⟩ | ⟨n, _⟩
      · cases b2; rfl
      · exact absurd rfl n
    by_cases hm : m = i <;> by_cases hk : k = i
    · rw [hm, hk]
    · obtain ⟨n1, b1, b2⟩ := key k y hk a2 a4
      have := at_i m hm a3
      subst this
      exact absurd (R.inj k j y x _ b1 e b2 e2) n1
    · obtain ⟨n1, b1, b2⟩ := key m x' hm a1 a3
      have := at_i k hk a4
      subst this
      exact absurd (R.inj m j x' x _ b1 e b2 e2) n1
    · obtain ⟨_, b1, b2⟩ := key m x' hm a1 a3
      obtain ⟨_, b3, b4⟩ := key k y hk a2 a4
      exact R.inj m k x' y q b1 b3 b2 b4
theorem ss_mv : SS P n E xb W (tAsg (tVar j) (gName i)) (.mv i j) := by
  intro L0 L w env st σ H h0 S R r h D hD
  show ∃ v, σ[j]? = some (some v) ∧ D.nx (σ.set i (some v)) H
  have h' : (match env[j]? with
    | some (some (.d x)) => setV (P.cl (P.call n) L) i (.d x) env st
    | some (some (.c .par x)) => setV (P.cl (P.call n) L) i (.c .par x) env st
    | some (some (.c .own x)) => if free (P.cl (P.call n) L) j then setV (P.cl (P.call n) L) i (.c .own x) (env.set j none) st else none
    | _ => none) = some r := h
  split at h'
  · rename_i x e
    obtain ⟨v, h1, h2⟩ := R.ok j _ e
    unfold setV at h'
    split at h'
    · rename_i hf
      cases h'
      cases h2 with
      | d h2 => exact ⟨v, h1, hD w _ H S (R.setV (fun _ z => by cases z) (.d h2)) (stp_setD R (free_s hf))⟩
    · cases h'
  · rename_i x e
    obtain ⟨v, h1, h2⟩ := R.ok j _ e
    unfold setV at h'
    split at h'
    · rename_i hf
      cases h'
      cases h2 with
      | par k1 k2 k3 =>
        refine ⟨_, h1, hD w _ H S (R.setV (fun _ z => by cases z) (.par k1 k2 k3)) (Stp.name R (free_s hf) (fun q z => ?_) (Stp.rfl' _))⟩
        rcases sod_set z with z | ⟨_, _, e⟩
        · exact .inl z
        · cases e
    · cases h'
  · rename_i x e
    obtain ⟨v, h1, h2⟩ := R.ok j _ e
    split at h'
    · rename_i hj
      unfold setV at h'
      split at h'
      · rename_i hf
        cases h'
        cases h2 with
        | @own p _ k1 k2 k3 =>
          have hp : Sod env σ p := sod_slot e h1
          refine ⟨_, h1, hD w _ H S (R.setMv e h1 (k3 (free_s hj))) ⟨(Stp.rfl' _).toFrS, fun q z => ?_, fun m hm => ?_⟩⟩
          · rcases sod_set z with z | ⟨z, _⟩
            · exact .inl (sod_unset z)
            · cases z; exact .inl hp
          · have n1 : m ≠ i := fun z => free_s hf (z ▸ hm)
            have n2 : m ≠ j := fun z => free_s hj (z ▸ hm)
            exact ⟨by show ((env.set j none).set i _)[m]? = env[m]?; rw [set_ne n1, set_ne n2], by show (σ.set i _)[m]? = σ[m]?; exact set_ne n1, fun _ _ _ _ => rfl⟩
      · cases h'
    · cases h'
  · cases h'
end
end Tv
namespace Tv
open PySem L2
/-- what stands at a stays so, as long as the locks hold -/
def StK (L : List Ow) (s : Fs) (a : Addr) : Prop := (∃ o ∈ L, o.live s.st ∧ s.w.at o = some a) ∨ (∃ (j : Nat) (x : Cn), .s j ∈ L ∧ s.env[j]? = some (some (.c .own x)) ∧ s.σ[j]? = some (some (.ref a))) ∨ (¬ Owd s.w s.st a ∧ ¬ Sod s.env s.σ a)
/-- a row of values is to be seen at a: b tells whether it is a tuple -/
def Vw (E : En) (Lk : List Ow) (b : Bool) (a : Addr) (xs : List D) (s : Fs) : Prop := ∃ vs, RvA E s.w.ad s.H vs xs ∧ ((b = false ∧ ((s.H a = some (.lst vs) ∧ StK Lk s a) ∨ ScL E.K s.w s.st s.H s.env s.σ a vs)) ∨ (b = true ∧ TuR E s.H a vs xs))
structure ItS (E : En) (J : L2.It) (xs : List D) (Hl : Fs → Prop) : Prop where
  go : ∀ (L : List Ow) (w : Wd) (env : Env) (st : Sto) (σ : L2.St) (H : Hp) (i : Nat) (x : D), SR E w L st H → Hl ⟨w, env, st, σ, H⟩ → xs[i]? = some x → J.go i H ∧ ∀ v H', J.yld i H v H' → SR E w L st H' ∧ Fr E L ⟨w, st, H⟩ ⟨w, st, H'⟩ ∧ Rv E w.ad H' v x
  stop : ∀ (s : Fs) (i : Nat), Hl s → xs.length ≤ i → J.stop i s.H
abbrev RI (E : En) : List Ow → Wd → Sto → Hp → Env → L2.St → Hp → L2.It → Ito → Prop := fun L0 w st H env σ _ J j =>
  (∀ o ∈ j.locks, ∀ st', o.live st' → o.live st) ∧ ∃ Hl : Fs → Prop, Hl ⟨w, env, st, σ, H⟩ ∧ (∀ s s' : Fs, Stp E (j.locks ++ L0) s s' → Hl s → Hl s') ∧ ItS E J j.xs Hl
abbrev SIt (P : Prog) (n : Nat) (E : En) (xb : XB) (W : WX) (t : TI) (e : Tv.It) : Prop := SG P n E xb W (RI E) t (fun c env st => evI c e env st)
section
variable {E : En} {xb : XB} {w w0 w1 w2 : Wd} {L0 L L' l Lk : List Ow} {st st0 st1 st2 : Sto} {H H1 H2 B B' : Hp} {env env1 env' : Env} {σ σ1 σ' : L2.St} {v : V} {s : SV} {vs : List V} {ss : List SV} {j i : Nat} {p : Addr} {P : Prog} {n : Nat} {W : WX} {X : Cx} {a b d : Fs} {c : Ss} {q : Addr}
theorem StK.stp (k : StK L a q) (f : Stp E L a b) (h : a.H q ≠ none) : StK L b q ∧ b.H q = a.H q := by
  rcases k with ⟨o, h1, h2, h3⟩ | ⟨j, x, h1, h2, h3⟩ | ⟨h1, h2⟩
  · obtain ⟨k1, k2, k3⟩ := f.lk o h1 h2
    exact ⟨.inl ⟨o, h1, k1, k2.trans h3⟩, k3 q h3⟩
  · obtain ⟨k1, k2, k3⟩ := f.lkS j h1
    exact ⟨.inr (.inl ⟨j, x, h1, k1.trans h2, k2.trans h3⟩), k3 q x h2 h3⟩
  · cases e : a.H q with
    | none => exact absurd e h
    | some o =>
      refine ⟨.inr (.inr ⟨fun z => ?_, fun z => ?_⟩), f.out q o e h1 h2⟩
      · rcases f.new q z with z | z | z
        · exact h1 z
        · exact h2 z
        · exact h z
      · rcases f.newS q z with z | z
        · exact h2 z
        · exact h z
theorem ScL.stp {vs : List V} (f : Stp E L a b) (h : ScL E.K a.w a.st a.H a.env a.σ q vs) : ScL E.K b.w b.st b.H b.env b.σ q vs := by
  rcases h with h | ⟨h1, h2, h3⟩
  · exact .inl h
  · have hn := rd_has h1
    refine .inr ⟨?_, fun z => ?_, fun z => ?_⟩
    · rcases h1 with h1 | ⟨o, h1⟩
      · exact .inl (f.out _ _ h1 h2 h3)
      · exact .inr ⟨o, f.out _ _ h1 h2 h3⟩
    · rcases f.new q z with z | z | z
      · exact h2 z
      · exact h3 z
      · exact hn z
    · rcases f.newS q z with z | z
      · exact h3 z
      · exact hn z
theorem Vw.stp {t : Bool} {xs : List D} (f : Stp E Lk a b) (h : Vw E Lk t q xs a) : Vw E Lk t q xs b := by
  obtain ⟨vs, h1, h2⟩ := h
  refine ⟨vs, h1.mono f.ad f.tm, ?_⟩
  rcases h2 with ⟨e, ⟨h2, h3⟩ | h2⟩ | ⟨e, h2⟩
  · obtain ⟨k1, k2⟩ := h3.stp f (by rw [h2]; intro z; cases z)
    exact .inl ⟨e, .inl ⟨k2.trans h2, k1⟩⟩
  · exact .inl ⟨e, .inr (h2.stp f)⟩
  · exact .inr ⟨e, h2.mono f.tm⟩
theorem Vw.lst {xs : List D} (h : Vw E Lk false q xs a) : ∃ vs, RvA E a.w.ad a.H vs xs ∧ SqL E.K a.H q vs := by
  obtain ⟨vs, h1, ⟨_, ⟨h2, _⟩ | h2⟩ | ⟨e, _⟩⟩ := h
  · exact ⟨vs, h1, SqL.of h2⟩
  · exact ⟨vs, h1, h2.sq⟩
  · cases e
theorem Vw.tup {xs : List D} (h : Vw E Lk true q xs a) : ∃ vs, RvA E a.w.ad a.H vs xs ∧ SqT E.K a.H q vs := by
  obtain ⟨vs, h1, ⟨e, _⟩ | ⟨_, h2⟩⟩ := h
  · cases e
  · exact ⟨vs, h1, h2.sq⟩
theorem VR.vw {t : Bool} {xs : List D} (S : SR E w L st H) (hB : ∀ p, Sod env σ p → B p ≠ none) (h : VR E L0 w st H env σ B v s) (e : rowOf s st = some (t, xs)) : ∃ q, v = .ref q ∧ Vw E (stayOf s ++ L0) t q xs ⟨w, env, st, σ, H⟩ := by
  have lst : ∀ {q : Addr}, CoR E w.ad H q (.l xs) → StK (stayOf s ++ L0) ⟨w, env, st, σ, H⟩ q → Vw E (stayOf s ++ L0) false q xs ⟨w, env, st, σ, H⟩ := fun {q} c k => by
    obtain ⟨u, r, z⟩ := c
    cases u <;> try exact z.elim
    exact ⟨_, z, .inl ⟨rfl, .inl ⟨r.lst, k⟩⟩⟩
  cases h with
  | @d v x r =>
    cases x with
    | tup ys =>
      cases e
      obtain ⟨q, vs, rfl, h1, h2⟩ := r.tup_of
      exact ⟨q, rfl, vs, h2, .inr ⟨rfl, h1⟩⟩
    | ref k =>
      obtain ⟨q, rfl, e2⟩ := r.ref_of
      have e' : (match (match st[k]? with | some (.con x) => some x | _ => none) with | some (.l xs) => some (false, xs) | _ => none) = some (t, xs) := e
      split at e'
      · rename_i ys e3
        split at e3
        · rename_i y e4
          cases e3
          cases e'
          obtain ⟨q', k1, k2⟩ := S.cell _ _ e4
          rw [e2] at k1
          cases k1
          exact ⟨q, rfl, lst k2 (.inl ⟨.c k, List.mem_append.mpr (.inl (by simp [stayOf])), (List.getElem?_eq_some_iff.mp e4).1, e2⟩)⟩
        · cases e3
      · cases e'
    | _ => cases e
  | @own q x h1 h2 h3 h4 h5 =>
    cases x <;> cases e
    exact ⟨q, rfl, lst h1 (.inr (.inr ⟨h3, fun z => hB q z h4⟩))⟩
  | @atS j q x h1 h2 h3 h4 =>
    cases x <;> cases e
    exact ⟨q, rfl, lst h3 (.inr (.inl ⟨j, _, List.mem_append.mpr (.inl (by simp [stayOf])), h1, h2⟩))⟩
  | @atF i nm x h1 h2 =>
    cases x <;> cases e
    exact ⟨_, rfl, lst h1 (.inl ⟨.f i nm, List.mem_append.mpr (.inl (by simp [stayOf])), h2, rfl⟩)⟩
  | @par q x h1 h2 h3 =>
    cases x <;> cases e
    refine ⟨q, rfl, lst h1 ?_⟩
    rcases h2 with h2 | ⟨o, k1, k2, k3⟩
    · exact .inr (.inr ⟨h2, h3⟩)
    · exact .inl ⟨o, List.mem_append.mpr (.inr k1), k2, k3⟩
  | @scr q vs ys h1 h2 =>
    cases e
    exact ⟨q, rfl, vs, h2, .inl ⟨rfl, .inr h1⟩⟩
theorem stay_live {xs : List D} {t : Bool} (h : VR E L0 w st H env σ B v s) (e : rowOf s st = some (t, xs)) : ∀ o ∈ stayOf s, ∀ st', o.live st' → o.live st := by
  intro o ho st' k
  cases h with
  | @d v x r =>
    cases x with
    | ref m =>
      simp [stayOf] at ho
      subst ho
      have e' : (match (match st[m]? with | some (.con x) => some x | _ => none) with | some (.l xs) => some (false, xs) | _ => none) = some (t, xs) := e
      split at e'
      · rename_i ys e3
        split at e3
        · rename_i y e4
          exact (List.getElem?_eq_some_iff.mp e4).1
        · cases e3
      · cases e'
    | _ => simp [stayOf] at ho
  | own h1 h2 h3 h4 h5 => simp [stayOf] at ho
  | atS h1 h2 h3 h4 =>
    simp [stayOf] at ho
    subst ho
    exact k.elim
  | atF h1 h2 =>
    simp [stayOf] at ho
    subst ho
    exact h2
  | par h1 h2 h3 => simp [stayOf] at ho
  | scr h1 h2 => simp [stayOf] at ho
theorem its_lst {xs : List D} : ItS E (Itl E.K q) xs (Vw E Lk false q xs) := by
  refine ⟨fun L w env st σ H i x S h e => ?_, fun s i h hi => ?_⟩
  · obtain ⟨vs, h1, h2⟩ := h.lst
    obtain ⟨v, h3, h4⟩ := h1.get e
    refine ⟨⟨vs, v, h2, h3⟩, fun u H' y => ?_⟩
    obtain ⟨rfl, y⟩ := y
    have e2 := y vs h2
    rw [h3] at e2
    cases e2
    exact ⟨S, Fr.rfl' _, h4⟩
  · obtain ⟨vs, h1, h2⟩ := h.lst
    exact ⟨vs, h2, by rw [h1.length]; exact hi⟩
theorem its_tup {xs : List D} : ItS E (Itt E.K q) xs (Vw E Lk true q xs) := by
  refine ⟨fun L w env st σ H i x S h e => ?_, fun s i h hi => ?_⟩
  · obtain ⟨vs, h1, h2⟩ := h.tup
    obtain ⟨v, h3, h4⟩ := h1.get e
    refine ⟨⟨vs, v, h2, h3⟩, fun u H' y => ?_⟩
    obtain ⟨rfl, y⟩ := y
    have e2 := y vs h2
    rw [h3] at e2
    cases e2
    exact ⟨S, Fr.rfl' _, h4⟩
  · obtain ⟨vs, h1, h2⟩ := h.tup
    exact ⟨vs, h2, by rw [h1.length]; exact hi⟩
theorem its_rng {lo : Int} {k : Nat} : ItS E (Itr lo k) (rangeD lo k) (fun _ => True) := by
  refine ⟨fun L w env st σ H i x S h e => ?_, fun s i h hi => ?_⟩
  · unfold rangeD at e
    rw [List.getElem?_map] at e
    by_cases hi : i < k
    · rw [List.getElem?_range hi] at e
      have e' : some (D.int (lo + (i : Int))) = some x := e
      cases e'
      refine ⟨hi, fun u H' y => ?_⟩
      obtain ⟨rfl, rfl⟩ := y
      exact ⟨S, Fr.rfl' _, .int _⟩
    · rw [List.getElem?_eq_none (by rw [List.length_range]; omega)] at e
      cases e
  · unfold rangeD at hi
    rw [List.length_map, List.length_range] at hi
    exact hi
/-- over a list or a tuple -/
def iSeqX (K : PySem.W.Frag) (tl : TE) : TI := fun σ H R => tl σ H fun x H1 => ∃ q, x = .ref q ∧ (((∃ xs, SqL K H1 q xs) ∧ R (Itl K q) H1) ∨ ((∃ xs, SqT K H1 q xs) ∧ R (Itt K q) H1))
theorem pi_X {tg e : Expr} {tl : TE} (hl : PE X e tl) : PI X tg e (iSeqX X.K tl) := by
  refine ⟨fun pins s σ H R I h => ?_⟩
  refine thn (hl.run pins s σ H _ I h) fun v s1 ⟨x, H1, I1, r1, q1⟩ => ?_
  obtain ⟨a, e, q1⟩ := q1
  subst e
  have he : PE X e (tC (.ref a)) → True := fun _ => trivial
  rcases q1 with ⟨⟨xs, hq⟩, q⟩ | ⟨⟨xs, hq⟩, q⟩
  · cases r1
    obtain ⟨its, rv, p, hz⟩ := I1.list hq
    refine PySem.wpAny_pyIter_list p.isList ?_
    refine ⟨s1.heap.objs.size, [s1.heap.objs.size], _, _, H1, rfl, I1.kept (t' := s1.toks) fun b o e => Heap.get?_push_of_some _ e, turn_list a _, ⟨_, Heap.get?_push_size _ rfl, rfl, rfl⟩, fun b hb => ?_, q⟩
    have e : b = s1.heap.objs.size := by simpa using hb
    subst e
    exact I1.fpOk (Nat.le_refl _) (I1.hok.fresh (Nat.le_refl _))
  · cases r1
    obtain ⟨its, rv, p, hz⟩ := I1.tuple hq
    refine PySem.wpAny_pyIter_tuple (show s1.heap.IsTuple a its.toArray from p) ?_
    refine ⟨s1.heap.objs.size, [s1.heap.objs.size], _, _, H1, rfl, I1.kept (t' := s1.toks) fun b o e => Heap.get?_push_of_some _ e, turn_tuple a _, ⟨_, Heap.get?_push_size _ rfl, rfl, rfl⟩, fun b hb => ?_, q⟩
    have e : b = s1.heap.objs.size := by simpa using hb
    subst e
    exact I1.fpOk (Nat.le_refl _) (I1.hok.fresh (Nat.le_refl _))
theorem sod_base (R : ER E xb L0 w L st H env σ) : ∀ p, Sod env σ p → H p ≠ none := fun p z e => by
  obtain ⟨_, o, e2, _⟩ := R.sod z
  rw [e] at e2
  cases e2
theorem si_row {te : TE} {e : Ex} (h : SE P n E xb W te e) (L0 L : List Ow) (w : Wd) (env : Env) (st : Sto) (σ : L2.St) (H : Hp) (h0 : ∀ o ∈ L0, o ∈ L) (S : SR E w L st H) (R : ER E xb L0 w L st H env σ) (r : Out Ito)
    (h2 : rb (ev (P.cl (P.call n) L) e env st) (fun u st => itRow u st) = some r) (Q : L2.It → Hp → Prop) (hQ : OkR E W L w st σ H (fun w' st' H' b a => RI E L0 w' st' H' env σ H b a) Q r) : iSeqX E.K te σ H Q := by
  show te σ H fun x H1 => ∃ q, x = .ref q ∧ (((∃ xs, SqL E.K H1 q xs) ∧ Q (Itl E.K q) H1) ∨ ((∃ xs, SqT E.K H1 q xs) ∧ Q (Itt E.K q) H1))
  refine sg_go h h0 S R h2 hQ fun u st1 w1 H1 x S1 R1 f1 v1 h3 hQ => ?_
  unfold itRow at h3
  split at h3
  · rename_i b xs e1
    cases ok_inj h3
    obtain ⟨q, rfl, h4⟩ := v1.vw S1 (sod_base R) e1
    refine ⟨q, rfl, ?_⟩
    cases b with
    | false =>
      obtain ⟨vs, _, h5⟩ := h4.lst
      exact .inl ⟨⟨vs, h5⟩, okr_now hQ S1 ⟨stay_live v1 e1, _, h4, fun s s' f k => k.stp f, its_lst⟩⟩
    | true =>
      obtain ⟨vs, _, h5⟩ := h4.tup
      exact .inr ⟨⟨vs, h5⟩, okr_now hQ S1 ⟨stay_live v1 e1, _, h4, fun s s' f k => k.stp f, its_tup⟩⟩
  · cases h3
theorem itSeq_row {u : SV} {j : Ito} {st' : Sto} (nd : ∀ kvs, cnOf u st ≠ some (.m kvs)) (h : itSeq u st = some (.ok j st')) : itRow u st = some (.ok j st') := by
  unfold itSeq at h
  unfold itRow
  cases e : rowOf u st with
  | some p => rw [e] at h; exact h
  | none =>
    rw [e] at h
    cases e2 : cnOf u st with
    | none => rw [e2] at h; cases h
    | some x =>
      cases x with
      | m kvs => exact absurd e2 (nd kvs)
      | l xs => rw [e2] at h; cases h
      | t kvs => rw [e2] at h; cases h
theorem si_range {te : TE} {e : Ex} (h : SE P n E xb W te e) : SIt P n E xb W (iRng1 (tCons te tNil)) (.range e) := by
  intro L0 L w env st σ H h0 S R r h2 Q hQ
  show te σ H fun x H1 => ∃ j : Int, [x] = [.int j] ∧ -(2 ^ 62) ≤ j ∧ j < 2 ^ 62 ∧ Q (Itr 0 j.toNat) H1
  refine sg_go h h0 S R h2 hQ fun u st1 w1 H1 x S1 R1 f1 v1 h3 hQ => ?_
  split at h3
  · rename_i k
    split at h3
    · rename_i hk
      cases ok_inj h3
      unfold smallI at hk
      simp only [Bool.and_eq_true, decide_eq_true_eq] at hk
      refine ⟨k, by rw [v1.int], hk.1, hk.2, okr_now hQ S1 ⟨fun o ho => by simp at ho, fun _ => True, trivial, fun _ _ _ _ => trivial, its_rng⟩⟩
    · cases h3
  · cases h3
end
end Tv
namespace Tv
open PySem L2
section
variable {E : En} {xb : XB} {w w0 w1 w2 : Wd} {L0 L L' l Lk : List Ow} {st st0 st1 st2 : Sto} {H H1 H2 B B' : Hp} {env env1 env' : Env} {σ σ1 σ' : L2.St} {v : V} {s : SV} {vs : List V} {ss : List SV} {j i : Nat} {p : Addr} {P : Prog} {n : Nat} {W : WX} {X : Cx} {a b d : Fs} {c : Ss} {q : Addr}
theorem SR.unlkS (S : SR E w L st H) (f : Stp E (l ++ L) ⟨w, env, st, σ, H⟩ ⟨w1, env1, st1, σ1, H1⟩) (S1 : SR E w1 (l ++ L) st1 H1) (hl : ∀ o ∈ l, ∀ st', o.live st' → o.live st) : SR E w1 L st1 H1 :=
  ⟨S1.len, S1.inj, S1.cell, fun o a h1 h2 h3 => by
    by_cases hm : o ∈ l
    · have h4 := hl o hm st1 h1
      obtain ⟨k1, k2, k3⟩ := f.lk o (List.mem_append.mpr (.inl hm)) h4
      have e := k2.symm.trans h3
      obtain ⟨u, e1, m⟩ := S.ex o a h4 h2 e
      exact ⟨u, (k3 a e).trans e1, m⟩
    · exact S1.ex o a h1 (fun z => by rcases List.mem_append.mp z with z | z; exact hm z; exact h2 z) h3, S1.nd⟩
theorem ER.unlk (R : ER E xb L0 w L st H env σ) (f : Stp E (l ++ L) ⟨w, env, st, σ, H⟩ ⟨w1, env1, st1, σ1, H1⟩) (R1 : ER E xb L0 w1 (l ++ L) st1 H1 env1 σ1) : ER E xb L0 w1 L st1 H1 env1 σ1 := by
  refine ⟨R1.len, fun j s e => ?_, R1.inj, R1.zs⟩
  obtain ⟨v, h1, h2⟩ := R1.ok j s e
  refine ⟨v, h1, ?_⟩
  cases h2 with
  | d k1 => exact .d k1
  | own k1 k2 k3 =>
    refine .own k1 k2 fun z => ?_
    by_cases hm : Ow.s j ∈ l
    · obtain ⟨e1, e2, e3⟩ := f.lkS j (List.mem_append.mpr (.inl hm))
      have e4 : env[j]? = some (some (.c .own _)) := e1.symm.trans e
      obtain ⟨v', q1, q2⟩ := R.ok j _ e4
      have e5 : σ[j]? = some (some (.ref _)) := e2.symm.trans h1
      rw [e5] at q1
      cases q1
      cases q2 with
      | own r1 r2 r3 =>
        obtain ⟨u, y1, y2⟩ := r3 z
        exact ⟨u, (e3 _ _ e4 e5).trans y1, y2⟩
    · exact k3 fun y => by rcases List.mem_append.mp y with y | y; exact hm y; exact z y
  | par k1 k2 k3 => exact .par k1 k2 k3
  | scr k1 k2 => exact .scr k1 k2
  | x k1 k2 => exact .x k1 k2
theorem mem_r {o : Ow} (h : o ∈ L) : o ∈ l ++ L := List.mem_append.mpr (.inr h)
theorem OkS.lk {D : Ends} {r : SO} (S : SR E w L st H) (R : ER E xb L0 w L st H env σ) (hl : ∀ o ∈ l, ∀ st', o.live st' → o.live st) (h : OkS E xb W L0 L ⟨w, env, st, σ, H⟩ D r) : OkS E xb W L0 (l ++ L) ⟨w, env, st, σ, H⟩ D r := by
  cases r with
  | nx env' st' => exact fun w' σ' H' S' R' g => h w' σ' H' (S.unlkS g S' hl) (R.unlk g R') (g.less fun o z => mem_r z)
  | bk env' st' => exact fun w' σ' H' S' R' g => h w' σ' H' (S.unlkS g S' hl) (R.unlk g R') (g.less fun o z => mem_r z)
  | ct env' st' => exact fun w' σ' H' S' R' g => h w' σ' H' (S.unlkS g S' hl) (R.unlk g R') (g.less fun o z => mem_r z)
  | ex x env' st' => exact fun w' σ' H' cls d S' R' g => h w' σ' H' cls d (S.unlkS g S' hl) (R.unlk g R') (g.less fun o z => mem_r z)
  | rt sv st' =>
    refine fun w' H' v S' g k => h w' H' v ?_ (g.less fun o z => mem_r z) k
    refine ⟨S'.len, S'.inj, S'.cell, fun o a h1 h2 h3 => ?_, S'.nd⟩
    by_cases hm : o ∈ l
    · have h4 := hl o hm st' h1
      obtain ⟨k1, k2, k3⟩ := g.lk o (List.mem_append.mpr (.inl hm)) h4
      have e := k2.symm.trans h3
      obtain ⟨u, e1, m⟩ := S.ex o a h4 h2 e
      exact ⟨u, (k3 a e).trans e1, m⟩
    · exact S'.ex o a h1 (fun z => by rcases List.mem_append.mp z with z | z; exact hm z; exact h2 z) h3
theorem for_core {g : TG} {tb : TS} {t : Tg} {b : Stts} {J : L2.It} {j : Ito} {Hl : Fs → Prop} {D : Ends} {r : SO} (hg : TgS E g t) (hb : SSs P n E xb W tb b) (h0 : ∀ o ∈ L0, o ∈ L) (S1' : SR E w1 (j.locks ++ L) st1 H1) (R1' : ER E xb L0 w1 (j.locks ++ L) st1 H1 env σ)
    (hh : Hl ⟨w1, env, st1, σ, H1⟩) (hst : ∀ s s', Stp E (j.locks ++ L0) s s' → Hl s → Hl s') (its : ItS E J j.xs Hl)
    (h2 : forL (fun x env st => match t.put ((P.cl (P.call n) L).lk j.locks) env x with
        | some env => execs ((P.cl (P.call n) L).lk j.locks) b env st
        | none => none) j.xs env st1 = some r) (hDl : OkS E xb W L0 (j.locks ++ L) ⟨w1, env, st1, σ, H1⟩ D r) :
    ∃ W : Nat → Nat → L2.St → Hp → Prop, (∃ m, W 0 m σ H1) ∧ ∀ i m σ H, W i m σ H →
    (J.stop i H ∧ D.nx σ H) ∨ (J.go i H ∧ ∃ N : L2.St → Hp → Prop, (∀ σ' H', N σ' H' → ∃ m', m' < m ∧ W (i + 1) m' σ' H') ∧ ∀ x H', J.yld i H x H' → g x σ H' fun σ2 H2 => tb { D with nx := N, ct := N, bk := D.nx } σ2 H2) := by
  have h0' : ∀ o ∈ L0, o ∈ j.locks ++ L := fun o z => mem_r (h0 o z)
  have hlk : ∀ o ∈ j.locks ++ L0, o ∈ j.locks ++ L := fun o z => (List.mem_append.mp z).elim (fun z => List.mem_append.mpr (.inl z)) fun z => mem_r (h0 o z)
  refine ⟨fun i m σ' H' => m = j.xs.length - i ∧ ∃ (w' : Wd) (env' : Env) (st' : Sto), SR E w' (j.locks ++ L) st' H' ∧ ER E xb L0 w' (j.locks ++ L) st' H' env' σ' ∧ Stp E (j.locks ++ L) ⟨w1, env, st1, σ, H1⟩ ⟨w', env', st', σ', H'⟩ ∧
    forL (fun x env st => match t.put ((P.cl (P.call n) L).lk j.locks) env x with
        | some env => execs ((P.cl (P.call n) L).lk j.locks) b env st
        | none => none) (j.xs.drop i) env' st' = some r,
    ⟨j.xs.length, rfl, w1, env, st1, S1', R1', Stp.rfl' _, h2⟩, ?_⟩
  rintro i m σ' H' ⟨rfl, w', env', st', S', R', g', h'⟩
  have hh' := hst _ _ (g'.less hlk) hh
  cases e : j.xs.drop i with
  | nil =>
    rw [e] at h'
    cases (show some (SO.nx env' st') = some r from h')
    refine .inl ⟨its.stop ⟨w', env', st', σ', H'⟩ i hh' ?_, hDl w' σ' H' S' R' g'⟩
    exact List.drop_eq_nil_iff.mp e
  | cons x rest =>
    rw [e] at h'
    have hx : j.xs[i]? = some x := by
      have := congrArg List.head? e
      rw [List.head?_drop] at this
      exact this
    have hlt : i < j.xs.length := (List.getElem?_eq_some_iff.mp hx).1
    have hr : rest = j.xs.drop (i + 1) := by
      have := congrArg List.tail e
      rw [List.tail_drop] at this
      exact this.symm
    obtain ⟨go, yl⟩ := its.go (j.locks ++ L) w' env' st' σ' H' i x S' hh' hx
    refine .inr ⟨go, fun σ2 H2 => ∃ m', m' < j.xs.length - i ∧ (m' = j.xs.length - (i + 1) ∧ ∃ (w' : Wd) (env' : Env) (st' : Sto), SR E w' (j.locks ++ L) st' H2 ∧ ER E xb L0 w' (j.locks ++ L) st' H2 env' σ2 ∧ Stp E (j.locks ++ L) ⟨w1, env, st1, σ, H1⟩ ⟨w', env', st', σ2, H2⟩ ∧
      forL (fun x env st => match t.put ((P.cl (P.call n) L).lk j.locks) env x with
        | some env => execs ((P.cl (P.call n) L).lk j.locks) b env st
        | none => none) (j.xs.drop (i + 1)) env' st' = some r), fun _ _ z => z, fun u H2 y => ?_⟩
    obtain ⟨S2, f2, rx⟩ := yl u H2 y
    have R2 := R'.fr S' h0' f2
    have g2 := g'.tr (Stp.of R' f2)
    have h3 : (match (match t.put ((P.cl (P.call n) L).lk j.locks) env' x with
        | some env => execs ((P.cl (P.call n) L).lk j.locks) b env st'
        | none => none) with
      | some (.nx env st) => forL (fun x env st => match t.put ((P.cl (P.call n) L).lk j.locks) env x with
        | some env => execs ((P.cl (P.call n) L).lk j.locks) b env st
        | none => none) rest env st
      | some (.ct env st) => forL (fun x env st => match t.put ((P.cl (P.call n) L).lk j.locks) env x with
        | some env => execs ((P.cl (P.call n) L).lk j.locks) b env st
        | none => none) rest env st
      | some (.bk env st) => some (.nx env st)
      | r => r) = some r := h'
    cases e3 : t.put ((P.cl (P.call n) L).lk j.locks) env' x with
    | none => rw [e3] at h3; cases h3
    | some env3 =>
      rw [e3] at h3
      dsimp only at h3
      obtain ⟨hf, e4⟩ := put_inv e3
      refine hg xb L0 (j.locks ++ L) w' env' env3 st' σ' H2 u x R2 rx e4 _ fun σ3 k3 => ?_
      have R3 := k3.er
      have g3' := g2.tr (k3.stp (free_nms hf))
      cases e5 : execs ((P.cl (P.call n) L).lk j.locks) b env3 st' with
      | none => rw [e5] at h3; cases h3
      | some o =>
        rw [e5] at h3
        refine hb L0 (j.locks ++ L) w' env3 st' σ3 H2 h0' S2 R3 o e5 _ ?_
        have nxt : ∀ (env6 : Env) (st6 : Sto), forL (fun x env st => match t.put ((P.cl (P.call n) L).lk j.locks) env x with
            | some env => execs ((P.cl (P.call n) L).lk j.locks) b env st
            | none => none) rest env6 st6 = some r → ∀ w6 σ6 H6, SR E w6 (j.locks ++ L) st6 H6 → ER E xb L0 w6 (j.locks ++ L) st6 H6 env6 σ6 → Stp E (j.locks ++ L) ⟨w', env3, st', σ3, H2⟩ ⟨w6, env6, st6, σ6, H6⟩ → ∃ m', m' < j.xs.length - i ∧ (m' = j.xs.length - (i + 1) ∧ ∃ (w' : Wd) (env' : Env) (st' : Sto), SR E w' (j.locks ++ L) st' H6 ∧ ER E xb L0 w' (j.locks ++ L) st' H6 env' σ6 ∧ Stp E (j.locks ++ L) ⟨w1, env, st1, σ, H1⟩ ⟨w', env', st', σ6, H6⟩ ∧
            forL (fun x env st => match t.put ((P.cl (P.call n) L).lk j.locks) env x with
            | some env => execs ((P.cl (P.call n) L).lk j.locks) b env st
            | none => none) (j.xs.drop (i + 1)) env' st' = some r) := fun env6 st6 h6 w6 σ6 H6 S6 R6 g6 =>
          ⟨j.xs.length - (i + 1), by omega, rfl, w6, env6, st6, S6, R6, g3'.tr g6, by rw [← hr]; exact h6⟩
        cases o with
        | nx env6 st6 => exact nxt env6 st6 h3
        | ct env6 st6 => exact nxt env6 st6 h3
        | bk env6 st6 =>
          cases (show some (SO.nx env6 st6) = some r from h3)
          exact fun w6 σ6 H6 S6 R6 g6 => hDl w6 σ6 H6 S6 R6 (g3'.tr g6)
        | rt sv st6 =>
          cases (show some (SO.rt sv st6) = some r from h3)
          exact hDl.from g3'
        | ex y env6 st6 =>
          cases (show some (SO.ex y env6 st6) = some r from h3)
          exact hDl.from g3'
theorem ss_for {wi : TI} {g : TG} {tb : TS} {t : Tg} {it : Tv.It} {b : Stts} (hi : SIt P n E xb W wi it) (hg : TgS E g t) (hb : SSs P n E xb W tb b) : SS P n E xb W (tFor wi g tb) (.for_ t it b) := by
  intro L0 L w env st σ H h0 S R r h D hD
  show wi σ H fun J H1 => ∃ W : Nat → Nat → L2.St → Hp → Prop, (∃ m, W 0 m σ H1) ∧ ∀ i m σ H, W i m σ H →
    (J.stop i H ∧ D.nx σ H) ∨ (J.go i H ∧ ∃ N : L2.St → Hp → Prop, (∀ σ' H', N σ' H' → ∃ m', m' < m ∧ W (i + 1) m' σ' H') ∧ ∀ x H', J.yld i H x H' → g x σ H' fun σ2 H2 => tb { D with nx := N, ct := N, bk := D.nx } σ2 H2)
  refine sb_go hi h0 S R h hD fun j st1 w1 H1 J S1 R1 f1 v1 h2 hD => ?_
  clear h
  obtain ⟨hl, Hl, hh, hst, its⟩ := v1
  exact for_core hg hb h0 S1.lkApp (R1.lk fun o z => mem_r z) hh hst its h2 (OkS.lk (l := j.locks) S1 R1 hl hD)
end
end Tv
namespace Tv
open PySem L2
section
variable {E : En} {xb : XB} {w w0 w1 w2 : Wd} {L0 L L' l Lk : List Ow} {st st0 st1 st2 : Sto} {H H1 H2 B B' : Hp} {env env1 env' : Env} {σ σ1 σ' σ2 : L2.St} {v : V} {s : SV} {vs : List V} {ss : List SV} {j i : Nat} {p : Addr} {P : Prog} {n : Nat} {W : WX} {X : Cx} {a b d : Fs} {c : Ss} {q : Addr}
theorem ER.unset2 (R : ER E xb L0 w L st H env σ) : ER E xb L0 w L st H (env.set i none) (σ.set i none) := by
  have hs : ∀ q, Sod (env.set i none) (σ.set i none) q → Sod env σ q := fun q z => by
    obtain ⟨j, x, h1, h2⟩ := z
    rcases get_set h1 with ⟨_, e2, _⟩ | ⟨e, h1⟩
    · cases e2
    · rw [set_ne e] at h2
      exact ⟨j, x, h1, h2⟩
  refine ⟨by rw [List.length_set, List.length_set]; exact R.len, fun j s' e => ?_, fun j k x y q e1 e2 e3 e4 => ?_, fun q z k => R.zs q z (hs q k)⟩
  · rcases get_set e with ⟨rfl, e2, hl⟩ | ⟨e1, e2⟩
    · cases e2
    · obtain ⟨u, k1, k2⟩ := R.ok j s' e2
      exact ⟨u, by rw [set_ne e1]; exact k1, k2.re fun q _ k _ z => k (hs q z)⟩
  · rcases get_set e1 with ⟨_, e5, _⟩ | ⟨n1, f1⟩
    · cases e5
    · rcases get_set e2 with ⟨_, e5, _⟩ | ⟨n2, f2⟩
      · cases e5
      · rw [set_ne n1] at e3
        rw [set_ne n2] at e4
        exact R.inj j k x y q f1 f2 e3 e4
theorem ER.wipe (R : ER E xb L0 w L st H env σ) : ∀ is : List Nat, ER E xb L0 w L st H (wipeE env is) (L2.wipe σ is)
  | [] => R
  | i :: is => (ER.wipe R is).unset2
theorem wipe_at {is : List Nat} {j : Nat} : (j ∉ is → (L2.wipe σ is)[j]? = σ[j]?) ∧ (j ∈ is → j < σ.length → (L2.wipe σ is)[j]? = some none) := by
  induction is with
  | nil => exact ⟨fun _ => rfl, fun h => by cases h⟩
  | cons i is ih =>
    constructor
    · intro h
      show ((L2.wipe σ is).set i none)[j]? = _
      rw [set_ne fun z => h (by rw [z]; exact List.mem_cons_self)]
      exact ih.1 fun z => h (List.mem_cons_of_mem _ z)
    · intro h hl
      show ((L2.wipe σ is).set i none)[j]? = _
      by_cases e : j = i
      · subst e
        exact set_eq (by rw [L2.wipe_length]; exact hl)
      · rw [set_ne e]
        rcases List.mem_cons.mp h with h | h
        · exact absurd h e
        · exact ih.2 h hl
theorem wipe_eq {is : List Nat} (hl : σ2.length = σ.length) (h : ∀ j, j ∉ is → σ2[j]? = σ[j]?) : L2.wipe σ2 is = L2.wipe σ is := by
  apply List.ext_getElem?
  intro j
  by_cases hj : j ∈ is
  · by_cases hlt : j < σ.length
    · rw [wipe_at.2 hj hlt, wipe_at.2 hj (by rw [hl]; exact hlt)]
    · rw [List.getElem?_eq_none (by rw [L2.wipe_length, hl]; omega), List.getElem?_eq_none (by rw [L2.wipe_length]; omega)]
  · rw [wipe_at.1 hj, wipe_at.1 hj, h j hj]
theorem wipe_wipe {is : List Nat} : L2.wipe (L2.wipe σ is) is = L2.wipe σ is := wipe_eq (L2.wipe_length σ is) fun j hj => wipe_at.1 hj
theorem mem_dup : ∀ {is : List Nat} {i : Nat}, i ∈ is → i ∈ dupN is
  | j :: is, i, h => by
    show i ∈ j :: (dupN is).filter fun k => !decide (k = j)
    by_cases e : i = j
    · subst e; exact List.mem_cons_self
    · rcases List.mem_cons.mp h with h | h
      · exact absurd h e
      · exact List.mem_cons_of_mem _ (List.mem_filter.mpr ⟨mem_dup h, by simp [e]⟩)
/-- a row of our own making, not yet handed on -/
theorem SR.mutU {p : Addr} {o : HO} (S : SR E w L st H) (n : ¬ Owd w st p) (z : ¬ Zad w st H p) (e0 : ∃ vs, H p = some (.lst vs)) : SR E w L st (upd H p o) := by
  obtain ⟨vs, e0⟩ := e0
  have tm : Tm E.K H (upd H p o) := fun a xs h => by rw [upd_ne (ne_of h e0 (by intro z; cases z))]; exact h
  refine ⟨S.len, S.inj, fun k x e => ?_, fun q a h1 h2 h3 => ?_, S.nd⟩
  · obtain ⟨a, e1, h⟩ := S.cell k x e
    refine ⟨a, e1, ?_⟩
    have ha : Owd w st a := ⟨.c k, (List.getElem?_eq_some_iff.mp e).1, e1⟩
    have na : a ≠ p := fun y => n (y ▸ ha)
    cases x with
    | con x => exact CoR.mono (List.prefix_refl _) tm (upd_ne na) h
    | ins C fs =>
      obtain ⟨dx, fv, h1, h2⟩ := h
      refine ⟨dx, fv, (upd_ne na).trans h1, ?_⟩
      refine h2.to (List.prefix_refl _) tm (fun _ => rfl) (fun m f y b' k1 k2 k3 => k3) fun m f t y b' k1 k2 => upd_ne fun y' => ?_
      subst y'
      obtain ⟨u, q1, q2⟩ := h2.getI k1
      rw [k2] at q1
      cases q1
      cases t with
      | true => exact z ⟨k, a, C, fs, _, dx, fv, f, y, m, e, e1, h1, k1, k2⟩
      | false =>
        have e3 : b' = w.fd k f := by cases q2; rfl
        exact n ⟨.f k f, ⟨C, fs, y, e, List.mem_of_getElem? k1⟩, by rw [e3]; rfl⟩
  · obtain ⟨u, e, m⟩ := S.ex q a h1 h2 h3
    have na : a ≠ p := fun y => n (by rw [← y]; exact ⟨q, h1, h3⟩)
    exact ⟨u, (upd_ne na).trans e, m⟩
theorem zadU {p b : Addr} {o : HO} (S : SR E w L st H) (n : ¬ Owd w st p) (h : Zad w st (upd H p o) b) : Zad w st H b := by
  obtain ⟨k, c', C, fs, c, dx, fv, f, x, m, h1, h2, h3, h4, h5⟩ := h
  have hb : Owd w st c' := ⟨.c k, (List.getElem?_eq_some_iff.mp h1).1, h2⟩
  have na : c' ≠ p := fun y => n (y ▸ hb)
  exact ⟨k, c', C, fs, c, dx, fv, f, x, m, h1, h2, by rw [← h3]; exact (upd_ne na).symm, h4, h5⟩
theorem Fr.mutU {p : Addr} {o : HO} {s0 : Ss} (S : SR E w L' st H) (n : ¬ Owd w st p) (e0 : ∃ vs, H p = some (.lst vs)) (f : Fr E L s0 ⟨w, st, H⟩) (h : s0.H p = none) : Fr E L s0 ⟨w, st, upd H p o⟩ := by
  obtain ⟨vs, e0⟩ := e0
  refine ⟨f.ad, fun a xs e => ?_, fun a u e k => ?_, f.new, fun a z => f.newz a (zadU S n z), fun a z => ?_, fun q h1 h2 => ?_⟩
  · have := f.tm a xs e
    exact (upd_ne (ne_of this e0 (by intro z; cases z))).trans this
  · exact (upd_ne (ne_of_none e h)).trans (f.out a u e k)
  · have z' : upd H p o a = none := z
    unfold upd at z'
    split at z'
    · cases z'
    · exact f.dom a z'
  · obtain ⟨k1, k2, k3⟩ := f.lk q h1 h2
    refine ⟨k1, k2, fun a e => ?_⟩
    have na : a ≠ p := fun y => n (by rw [← y]; exact ⟨q, k1, k2.trans e⟩)
    exact (upd_ne na).trans (k3 a e)
abbrev WF : WX := fun _ _ _ _ => False
theorem lc_core {J : L2.It} {j : Ito} {Hl : Fs → Prop} {g : TG} {tt : TT} {te : TE} {t : Tg} {k : Tx} {e : Ex} {r : Out SV} {Q' : Hp → Prop} {Da : Addr} (hg : TgS E g t) (ht : STe P n E xb WF tt k) (he : SE P n E xb WF te e) (h0 : ∀ o ∈ L0, o ∈ L) (S1' : SR E w1 (j.locks ++ L) st1 H1) (R1' : ER E xb L0 w1 (j.locks ++ L) st1 H1 env σ)
    (hh : Hl ⟨w1, env, st1, σ, H1⟩) (hst : ∀ s s', Stp E (j.locks ++ L0) s s' → Hl s → Hl s') (its : ItS E J j.xs Hl)
    (h2 : rb (compL (fun x st => match t.set (wipeE env t.own) x with
        | some env => rb (evT ((P.cl (P.call n) L).lk j.locks) k env st) fun b st => if b then rb (ev ((P.cl (P.call n) L).lk j.locks) e env st) fun v st => ok (some v) st else ok none st
        | none => none) j.xs [] st1) (fun xs st => ok (SV.c .own (.l xs)) st) = some r) (hD : H1 Da = none)
    (hfin : ∀ (w' : Wd) (st' : Sto) (H' : Hp) (acc : List D) (av : List V), SR E w' (j.locks ++ L) st' H' → Fr E (j.locks ++ L) ⟨w1, st1, H1⟩ ⟨w', st', H'⟩ → H' Da = some (.lst av) → RvA E w'.ad H' av acc → ¬ Owd w' st' Da → ¬ Zad w' st' H' Da → r = .ok (.c .own (.l acc)) st' → Q' H') :
    ∃ W : Nat → Nat → Hp → Prop, (∃ m, W 0 m (upd H1 Da (.lst []))) ∧ ∀ i m H, W i m H →
    (J.stop i H ∧ Q' H) ∨ (J.go i H ∧ ∃ Nx : Hp → Prop, (∀ H', Nx H' → ∃ m', m' < m ∧ W (i + 1) m' H') ∧ ∀ x H', J.yld i H x H' → g x (wipe σ t.own) H' fun σ2 H2 => wipe σ2 t.own = wipe σ t.own ∧ tt σ2 H2 fun b H3 =>
      if b = true then te σ2 H3 fun y H4 => ∃ acc, H4 Da = some (.lst acc) ∧ acc.length < sizeLine ∧ Nx (upd H4 Da (.lst (acc ++ [y]))) else Nx H3) := by
  have h0' : ∀ o ∈ L0, o ∈ j.locks ++ L := fun o z => mem_r (h0 o z)
  have hlk : ∀ o ∈ j.locks ++ L0, o ∈ j.locks ++ L := fun o z => (List.mem_append.mp z).elim (fun z => List.mem_append.mpr (.inl z)) fun z => mem_r (h0 o z)
  have e0 : (P.cl (P.call n) L).lk j.locks = P.cl (P.call n) (j.locks ++ L) := rfl
  rw [e0] at h2
  generalize hT : (fun x st => match t.set (wipeE env t.own) x with
        | some env => rb (evT (P.cl (P.call n) (j.locks ++ L)) k env st) fun b st => if b then rb (ev (P.cl (P.call n) (j.locks ++ L)) e env st) fun v st => ok (some v) st else ok none st
        | none => none) = T at h2
  -- what holds ahead of a turn
  let Inv' : Nat → Hp → Prop := fun i H' => ∃ (w' : Wd) (st' : Sto) (acc : List D) (av : List V), SR E w' (j.locks ++ L) st' H' ∧ Fr E (j.locks ++ L) ⟨w1, st1, H1⟩ ⟨w', st', H'⟩ ∧ H' Da = some (.lst av) ∧ RvA E w'.ad H' av acc ∧ ¬ Owd w' st' Da ∧ ¬ Zad w' st' H' Da ∧
    rb (compL T (j.xs.drop i) acc st') (fun xs st => ok (SV.c .own (.l xs)) st) = some r
  refine ⟨fun i m H' => m = j.xs.length - i ∧ Inv' i H', ⟨j.xs.length, rfl, w1, st1, [], [], S1'.lay hD, Fr.lay S1' hD (L' := j.locks ++ L), upd_same, .nil, S1'.nowd hD, nozad_lay S1' hD, h2⟩, ?_⟩
  rintro i m H' ⟨rfl, w', st', acc, av, S', g', hDa, ra, no, nz, h'⟩
  have hh' := hst _ _ ((Stp.of R1' g').less hlk) hh
  cases ex : j.xs.drop i with
  | nil =>
    rw [ex] at h'
    cases (show some (Out.ok (SV.c .own (.l acc)) st') = some r from h')
    refine .inl ⟨its.stop ⟨w', env, st', σ, H'⟩ i hh' (List.drop_eq_nil_iff.mp ex), ?_⟩
    exact hfin w' st' H' acc av S' g' hDa ra no nz rfl
  | cons x rest =>
    rw [ex] at h'
    have hx : j.xs[i]? = some x := by
      have := congrArg List.head? ex
      rw [List.head?_drop] at this
      exact this
    have hlt : i < j.xs.length := (List.getElem?_eq_some_iff.mp hx).1
    have hr : rest = j.xs.drop (i + 1) := by
      have := congrArg List.tail ex
      rw [List.tail_drop] at this
      exact this.symm
    obtain ⟨go, yl⟩ := its.go (j.locks ++ L) w' env st' σ H' i x S' hh' hx
    refine .inr ⟨go, fun H2 => j.xs.length - (i + 1) < j.xs.length - i ∧ Inv' (i + 1) H2, fun H2 z => ⟨_, z.1, rfl, z.2⟩, fun u H2 y => ?_⟩
    obtain ⟨S2, f2, rx⟩ := yl u H2 y
    have g2 := g'.tr f2
    have R2 : ER E xb L0 w' (j.locks ++ L) st' H2 env σ := R1'.fr S1' h0' g2
    -- the list so far
    have dk : ∀ {w3 : Wd} {st3 : Sto} {H3 : Hp}, Fr E (j.locks ++ L) ⟨w', st', H2⟩ ⟨w3, st3, H3⟩ → H3 Da = some (.lst av) ∧ RvA E w3.ad H3 av acc ∧ ¬ Owd w3 st3 Da ∧ ¬ Zad w3 st3 H3 Da := fun {w3 st3 H3} f3 => by
      have f4 := f2.tr f3
      have hn : H' Da ≠ none := by rw [hDa]; intro z; cases z
      exact ⟨f4.out _ _ hDa no, ra.mono f4.ad f4.tm, f4.nowd no hn, f4.nozad no nz hn⟩
    have h3 : rb (match T x st' with
      | some (.ok none st) => compL T rest acc st
      | some (.ok (some v) st) => match toD v st with
        | some (.ok y st) => if acc.length < sizeLine then compL T rest (acc ++ [y]) st else none
        | _ => none
      | _ => none) (fun xs st => ok (SV.c .own (.l xs)) st) = some r := h'
    cases eT : T x st' with
    | none => rw [eT] at h3; cases h3
    | some oT =>
      rw [eT] at h3
      have eT' := eT
      rw [← hT] at eT'
      dsimp only at eT'
      cases e3 : t.set (wipeE env t.own) x with
      | none => rw [e3] at eT'; cases eT'
      | some env3 =>
        rw [e3] at eT'
        dsimp only at eT'
        refine hg xb L0 (j.locks ++ L) w' (wipeE env t.own) env3 st' (wipe σ t.own) H2 u x (R2.wipe _) rx e3 _ fun σ3 k3 => ⟨?_, ?_⟩
        · have hlen : σ3.length = (wipe σ t.own).length := by
            have a1 := k3.er.len
            have a2 := (R2.wipe t.own).len
            have a3 : env3.length = (wipeE env t.own).length := set_len e3
            omega
          rw [← wipe_wipe (σ := σ)]
          exact wipe_eq hlen fun j hj => (k3.off j fun z => hj (mem_dup z)).2
        · cases e5 : evT (P.cl (P.call n) (j.locks ++ L)) k env3 st' with
          | none => rw [e5] at eT'; cases eT'
          | some ob =>
            rw [e5] at eT'
            cases ob with
            | ex y st5 => cases (show some (Out.ex y st5) = some oT from eT'); cases h3
            | ok b st5 =>
              refine ht L0 (j.locks ++ L) w' env3 st' σ3 H2 h0' S2 k3.er _ e5 _ fun w5 H5 b' S5 f5 eb => ?_
              subst eb
              have R5 : ER E xb L0 w5 (j.locks ++ L) st5 H5 env3 σ3 := k3.er.fr S2 h0' f5
              cases b' with
              | false =>
                rw [if_neg Bool.false_ne_true]
                cases (show some (Out.ok none st5) = some oT from eT')
                obtain ⟨q1, q2, q3, q4⟩ := dk f5
                exact ⟨by omega, w5, st5, acc, av, S5, g2.tr f5, q1, q2, q3, q4, by rw [← hr]; exact h3⟩
              | true =>
                rw [if_pos rfl]
                have e6 : rb (ev (P.cl (P.call n) (j.locks ++ L)) e env3 st5) (fun v st => ok (some v) st) = some oT := eT'
                cases e7 : ev (P.cl (P.call n) (j.locks ++ L)) e env3 st5 with
                | none => rw [e7] at e6; cases e6
                | some ov =>
                  rw [e7] at e6
                  cases ov with
                  | ex y st7 => cases (show some (Out.ex y st7) = some oT from e6); cases h3
                  | ok sv st7 =>
                    cases (show some (Out.ok (some sv) st7) = some oT from e6)
                    refine he L0 (j.locks ++ L) w5 env3 st5 σ3 H5 h0' S5 R5 _ e7 _ fun w7 H7 v7 S7 f7 r7 => ?_
                    have h4 : rb (match toD sv st7 with
                        | some (.ok y st) => if acc.length < sizeLine then compL T rest (acc ++ [y]) st else none
                        | _ => none) (fun xs st => ok (SV.c .own (.l xs)) st) = some r := h3
                    cases e8 : toD sv st7 with
                    | none => rw [e8] at h4; cases h4
                    | some od =>
                      have R7 := R5.fr S5 h0' f7
                      obtain ⟨yd, st8, w8, rfl, S8, R8, f8, p8, rv8, ho8, hz8, hl8⟩ := toD_ok (s0 := ⟨w5, st5, H5⟩) h0' S5 R5 S7 R7 f7 r7 e8
                      rw [e8] at h4
                      have h5 : rb (if acc.length < sizeLine then compL T rest (acc ++ [yd]) st8 else none) (fun xs st => ok (SV.c .own (.l xs)) st) = some r := h4
                      split at h5
                      · rename_i hs
                        obtain ⟨q1, q2, q3, q4⟩ := dk (f5.tr f8)
                        refine ⟨av, q1, by rw [ra.length]; exact hs, by omega, w8, st8, acc ++ [yd], av ++ [v7], S8.mutU q3 q4 ⟨_, q1⟩, Fr.mutU S8 q3 ⟨_, q1⟩ (g2.tr (f5.tr f8)) hD, upd_same, ?_, q3, fun z => q4 (zadU S8 q3 z), by rw [← hr]; exact h5⟩
                        have tm : Tm E.K H7 (upd H7 Da (.lst (av ++ [v7]))) := fun a xs h => by rw [upd_ne (ne_of h q1 (by intro z; cases z))]; exact h
                        exact (q2.mono (List.prefix_refl _) tm).app (.cons (rv8.mono (List.prefix_refl _) tm) .nil)
                      · cases h5
theorem se_lc {wi : TI} {g : TG} {tt : TT} {te : TE} {t : Tg} {it : Tv.It} {k : Tx} {e : Ex} {own : List Nat} (hi : SIt P n E xb W wi it) (hg : TgS E g t) (ht : STe P n E xb WF tt k) (he : SE P n E xb WF te e) (ho : own = t.own) :
    SE P n E xb W (tLc wi g tt te own) (.lc t it k e) := by
  subst ho
  intro L0 L w env st σ H h0 S R r h Q hQ
  show wi σ H fun J H1 => ∀ D, H1 D = none → ∃ W : Nat → Nat → Hp → Prop, (∃ m, W 0 m (upd H1 D (.lst []))) ∧ ∀ i m H, W i m H →
    (J.stop i H ∧ Q (.ref D) H) ∨ (J.go i H ∧ ∃ Nx : Hp → Prop, (∀ H', Nx H' → ∃ m', m' < m ∧ W (i + 1) m' H') ∧ ∀ x H', J.yld i H x H' → g x (wipe σ t.own) H' fun σ2 H2 => wipe σ2 t.own = wipe σ t.own ∧ tt σ2 H2 fun b H3 =>
      if b = true then te σ2 H3 fun y H4 => ∃ acc, H4 D = some (.lst acc) ∧ acc.length < sizeLine ∧ Nx (upd H4 D (.lst (acc ++ [y]))) else Nx H3)
  refine sg_go hi h0 S R h hQ fun j st1 w1 H1 J S1 R1 f1 v1 h2 hQ => fun Da hD => ?_
  clear h
  obtain ⟨hl, Hl, hh, hst, its⟩ := v1
  refine lc_core hg ht he h0 S1.lkApp (R1.lk fun o z => mem_r z) hh hst its h2 hD fun w' st' H' acc av S' g' hDa ra no nz hr => ?_
  subst hr
  exact hQ w' H' _ (S1.unlk g' S' hl) (g'.less fun o z => mem_r z) (.own ⟨_, .inl hDa, ra⟩ ⟨_, hDa, trivial⟩ no (f1.dom _ hD) nz)
end
end Tv
namespace Tv
open PySem L2
section
variable {E : En} {xb : XB} {w w0 w1 w2 : Wd} {L0 L L' l Lk : List Ow} {st st0 st1 st2 st' : Sto} {H H1 H2 B B' : Hp} {env env1 env' : Env} {σ σ1 σ' σ2 : L2.St} {v : V} {s : SV} {vs : List V} {ss : List SV} {j i k : Nat} {p : Addr} {P : Prog} {n : Nat} {W : WX} {X : Cx} {a b d : Fs} {c : Ss} {q : Addr} {u u' : HO} {x x' : Cn} {o : Ow}
theorem tm_mut (e : H p = some u) (h : ∀ xs, u ≠ .tup xs) : Tm E.K H (upd H p u') := fun a xs z => by
  rw [upd_ne (ne_of z e (h xs).symm)]; exact z
/-- a container of a name's own is changed -/
theorem SR.mutV (S : SR E w L st H) (n : ¬ Owd w st p) (z : ¬ Zad w st H p) (e0 : H p = some u) (nt : ∀ xs, u ≠ .tup xs) : SR E w L st (upd H p u') := by
  have tm : Tm E.K H (upd H p u') := tm_mut (E := E) e0 nt
  refine ⟨S.len, S.inj, fun k x e => ?_, fun q a h1 h2 h3 => ?_, S.nd⟩
  · obtain ⟨a, e1, h⟩ := S.cell k x e
    refine ⟨a, e1, ?_⟩
    have ha : Owd w st a := ⟨.c k, (List.getElem?_eq_some_iff.mp e).1, e1⟩
    have na : a ≠ p := fun y => n (y ▸ ha)
    cases x with
    | con x => exact CoR.mono (List.prefix_refl _) tm (upd_ne na) h
    | ins C fs =>
      obtain ⟨dx, fv, h1, h2⟩ := h
      refine ⟨dx, fv, (upd_ne na).trans h1, ?_⟩
      refine h2.to (List.prefix_refl _) tm (fun _ => rfl) (fun m f y b' k1 k2 k3 => k3) fun m f t y b' k1 k2 => upd_ne fun y' => ?_
      subst y'
      obtain ⟨u, q1, q2⟩ := h2.getI k1
      rw [k2] at q1
      cases q1
      cases t with
      | true => exact z ⟨k, a, C, fs, _, dx, fv, f, y, m, e, e1, h1, k1, k2⟩
      | false =>
        have e3 : b' = w.fd k f := by cases q2; rfl
        exact n ⟨.f k f, ⟨C, fs, y, e, List.mem_of_getElem? k1⟩, by rw [e3]; rfl⟩
  · obtain ⟨u, e, m⟩ := S.ex q a h1 h2 h3
    have na : a ≠ p := fun y => n (by rw [← y]; exact ⟨q, h1, h3⟩)
    exact ⟨u, (upd_ne na).trans e, m⟩
theorem SlR.off (h : SlR E xb L0 w L st H env σ j v s) (tm : Tm E.K H (upd H p u')) (hx : ∀ fs, u ≠ .xd fs) (e : H p = some u) (k : ∀ q, v = .ref q → q = p → (∃ y, s = .c .own y ∧ ¬ Owd w st q) ∨ (∃ y, s = .c .par y ∧ Sf w L0 st q ∧ ¬ Sod env σ q) ∨ (∃ y, s = .c .scr y ∧ ¬ Owd w st q ∧ ¬ Sod env σ q) → False) : SlR E xb L0 w L st (upd H p u') env σ j v s := by
  cases h with
  | d h => exact .d (h.mono (List.prefix_refl _) tm)
  | @own q y k1 k2 k3 =>
    have nq : q ≠ p := fun z => k q rfl z (.inl ⟨_, rfl, k2⟩)
    refine .own (k1.mono (List.prefix_refl _) tm (upd_ne nq)) k2 fun z => ?_
    obtain ⟨t, y1, y2⟩ := k3 z
    exact ⟨t, (upd_ne nq).trans y1, y2⟩
  | @par q y k1 k2 k3 =>
    have nq : q ≠ p := fun z => k q rfl z (.inr (.inl ⟨_, rfl, k2, k3⟩))
    exact .par (k1.mono (List.prefix_refl _) tm (upd_ne nq)) k2 k3
  | @scr q vs xs k1 k2 =>
    refine .scr ?_ (k2.mono (List.prefix_refl _) tm)
    rcases k1 with k1 | ⟨k1, k3, k4⟩
    · exact .inl k1
    · have nq : q ≠ p := fun z => k q rfl z (.inr (.inr ⟨_, rfl, k3, k4⟩))
      refine .inr ⟨?_, k3, k4⟩
      rcases k1 with k1 | ⟨o, k1⟩
      · exact .inl ((upd_ne nq).trans k1)
      · exact .inr ⟨o, (upd_ne nq).trans k1⟩
  | x k1 k2 =>
    refine .x k1 (xr_mono (List.prefix_refl _) tm (fun a fs z => ?_) k2)
    exact (upd_ne (ne_of z e (hx fs).symm)).trans z
theorem HoR.nxd (h : HoR E w.ad H u x) : ∀ fs, u ≠ .xd fs := fun fs e => by subst e; cases x <;> exact h.elim
/-- a name's own container -/
theorem slot_mut (S : SR E w L st H) (R : ER E xb L0 w L st H env σ) (e1 : env[i]? = some (some (.c .own x))) (e2 : σ[i]? = some (some (.ref p))) (hi : .s i ∉ L) (e0 : H p = some u) (r : HoR E w.ad H u x) (r' : HoR E w.ad (upd H p u') u' x') :
    SR E w L st (upd H p u') ∧ ER E xb L0 w L st (upd H p u') (env.set i (some (.c .own x'))) σ ∧ Stp E L ⟨w, env, st, σ, H⟩ ⟨w, env.set i (some (.c .own x')), st, σ, upd H p u'⟩ := by
  have hs : Sod env σ p := sod_slot e1 e2
  have hn := (R.sod hs).1
  have hz : ¬ Zad w st H p := fun z => R.zs _ z hs
  have tm : Tm E.K H (upd H p u') := tm_mut (E := E) e0 r.ntup
  have hil : i < env.length := (List.getElem?_eq_some_iff.mp e1).1
  have hsod : ∀ q, Sod (env.set i (some (.c .own x'))) σ q → Sod env σ q := fun q z => by
    obtain ⟨j, y, h1, h2⟩ := z
    rcases get_set h1 with ⟨rfl, _, _⟩ | ⟨_, h1⟩
    · rw [e2] at h2
      cases h2
      exact hs
    · exact ⟨j, y, h1, h2⟩
  have S' := S.mutV hn hz e0 r.ntup (u' := u')
  refine ⟨S', ⟨by rw [List.length_set]; exact R.len, fun j s' e => ?_, fun j k y z q a1 a2 a3 a4 => ?_, fun q z k => R.zs q (zadU S hn z) (hsod q k)⟩, ?_⟩
  · rcases get_set e with ⟨rfl, e3, _⟩ | ⟨ne, e3⟩
    · cases e3
      exact ⟨_, e2, .own ⟨u', .inl upd_same, r'⟩ hn fun _ => ⟨u', upd_same, r'.mut⟩⟩
    · obtain ⟨v, k1, k2⟩ := R.ok j s' e3
      refine ⟨v, k1, SlR.re (k2.off tm r.nxd e0 fun q hv hq hc => ?_) fun q _ k _ z => k (hsod q z)⟩
      subst hv hq
      rcases hc with ⟨y, hy, _⟩ | ⟨y, hy, _, k⟩ | ⟨y, hy, _, k⟩
      · subst hy
        exact ne (R.inj j i y x q e3 e1 k1 e2)
      · exact k hs
      · exact k hs
  · have fix : ∀ (m : Nat) (y' : Cn), (env.set i (some (.c .own x')))[m]? = some (some (.c .own y')) → ∃ y'' : Cn, env[m]? = some (some (.c .own y'')) := fun m y' h => by
      rcases get_set h with ⟨rfl, _, _⟩ | ⟨_, h⟩
      · exact ⟨x, e1⟩
      · exact ⟨y', h⟩
    obtain ⟨y1, b1⟩ := fix j y a1
    obtain ⟨y2, b2⟩ := fix k z a2
    exact R.inj j k y1 y2 q b1 b2 a3 a4
  · refine ⟨⟨List.prefix_refl _, tm, fun q o h1 h2 h3 => ?_, fun q h => .inl h, fun q h => .inl (zadU S hn h), fun q h => ?_, fun o h1 h2 => ⟨h2, rfl, fun q h3 => ?_⟩⟩, fun q h => .inl (hsod q h), fun j hj => ?_⟩
    · have nq : q ≠ p := fun z => h3 (by rw [z]; exact hs)
      exact (upd_ne nq).trans h1
    · have h' : upd H p u' q = none := h
      unfold upd at h'
      split at h'
      · cases h'
      · exact h'
    · have nq : q ≠ p := fun z => hn (by rw [← z]; exact ⟨o, h2, h3⟩)
      exact upd_ne nq
    · have ne : j ≠ i := fun z => hi (z ▸ hj)
      exact ⟨by show (env.set i _)[j]? = env[j]?; exact set_ne ne, rfl, fun q y h1 h2 => upd_ne fun z => by
        subst z
        exact ne (R.inj j i y x q h1 e1 h2 e2)⟩
end
end Tv
namespace Tv
open PySem L2
section
variable {E : En} {xb : XB} {w w0 w1 w2 w' : Wd} {L0 L L' l Lk : List Ow} {st st0 st1 st2 st' : Sto} {H H1 H2 B B' J : Hp} {env env1 env' : Env} {σ σ1 σ' σ2 : L2.St} {v : V} {s : SV} {vs : List V} {ss : List SV} {j i k : Nat} {p : Addr} {P : Prog} {n : Nat} {W : WX} {X : Cx} {a b d : Fs} {c : Ss} {q : Addr} {u u' : HO} {x x' : Cn} {o o0 : Ow}
theorem putFs_get {f g : Str} {y z : FV} : ∀ {fs : List (Str × FV)} {m : Nat}, (putFs f y fs)[m]? = some (g, z) → (g = f ∧ z = y) ∨ (g ≠ f ∧ fs[m]? = some (g, z)) ∨ fs[m]? = some (g, z)
  | [], 0, h => by
    cases (show some (f, y) = some (g, z) from h)
    exact .inl ⟨rfl, rfl⟩
  | [], m + 1, h => by cases (show (none : Option (Str × FV)) = some (g, z) from h)
  | (g', w) :: r, m, h => by
    have h' : ((if g' = f then (g', y) :: r else (g', w) :: putFs f y r) : List (Str × FV))[m]? = some (g, z) := h
    split at h'
    · rename_i e
      cases m with
      | zero =>
        have h2 : some (g', y) = some (g, z) := h'
        cases h2
        exact .inl ⟨e, rfl⟩
      | succ m => exact .inr (.inr h')
    · rename_i e
      cases m with
      | zero =>
        have h2 : some (g', w) = some (g, z) := h'
        cases h2
        exact .inr (.inl ⟨e, rfl⟩)
      | succ m =>
        rcases putFs_get (fs := r) (m := m) h' with h2 | ⟨h2, h3⟩ | h2
        · exact .inl h2
        · exact .inr (.inl ⟨h2, h3⟩)
        · exact .inr (.inr h2)
theorem putFs_keys {f : Str} {y : FV} : ∀ {fs : List (Str × FV)}, (∃ z, fs.lookup f = some z) → (putFs f y fs).map (·.1) = fs.map (·.1)
  | [], ⟨z, h⟩ => by simp at h
  | (g, w) :: r, ⟨z, h⟩ => by
    show (if g = f then (g, y) :: r else (g, w) :: putFs f y r).map (·.1) = _
    split
    · rfl
    · rename_i e
      rw [List.lookup_cons] at h
      have hb : (f == g) = false := beq_eq_false_iff_ne.mpr fun z => e z.symm
      rw [hb] at h
      rw [List.map_cons, putFs_keys ⟨z, h⟩, List.map_cons]
/-- the field f gets another value -/
theorem FsR.put {f : Str} {v' : V} {y : FV} (new : FVR E w' st' J i f v' y) : ∀ {fv : List (Str × V)} {fs : List (Str × FV)}, FsR E w st H i fv fs → (fs.map (·.1)).Nodup → (∀ (m : Nat) (g : Str) (v : V) (x : FV), g ≠ f → fs[m]? = some (g, x) → fv[m]? = some (g, v) → FVR E w st H i g v x → FVR E w' st' J i g v x) → FsR E w' st' J i (putF f v' fv) (putFs f y fs)
  | _, _, .nil, _, _ => .cons new .nil
  | _, _, .cons (f := g) (v := vg) (x := xg) (fv := fv) (fs := fs) r t, nd, ho => by
    rw [List.map_cons, List.nodup_cons] at nd
    have ho' : ∀ (m : Nat) (g : Str) (v : V) (x : FV), g ≠ f → fs[m]? = some (g, x) → fv[m]? = some (g, v) → FVR E w st H i g v x → FVR E w' st' J i g v x := fun m g v x ne h1 h2 h3 => ho (m + 1) g v x ne (by simpa using h1) (by simpa using h2) h3
    show FsR E w' st' J i (if g = f then (g, v') :: fv else (g, vg) :: putF f v' fv) (if g = f then (g, y) :: fs else (g, xg) :: putFs f y fs)
    split
    · rename_i e
      subst e
      refine .cons new ?_
      have hn := nd.1
      clear nd ho r
      induction t with
      | nil => exact .nil
      | @cons g2 v2 x2 fv2 fs2 r2 t2 ih =>
        simp only [List.map_cons, List.mem_cons, not_or] at hn
        exact .cons (ho' 0 g2 v2 x2 (fun z => hn.1 z.symm) rfl rfl r2) (ih (fun m g v x ne h1 h2 h3 => ho' (m + 1) g v x ne (by simpa using h1) (by simpa using h2) h3) hn.2)
    · rename_i e
      exact .cons (ho 0 g vg xg e rfl rfl r) (FsR.put new t nd.2 ho')
theorem putF_same {f : Str} : ∀ {fv : List (Str × V)}, fv.lookup f = some v → putF f v fv = fv
  | [], h => by simp at h
  | (g, w) :: r, h => by
    show (if g = f then (g, v) :: r else (g, w) :: putF f v r) = _
    rw [List.lookup_cons] at h
    split at h
    · rename_i e
      have e' : f = g := by simpa using e
      cases h
      rw [if_pos e'.symm]
    · rename_i e
      have e' : ¬ g = f := fun z => by subst z; simp at e
      rw [if_neg e', putF_same h]
structure StM (w : Wd) (st st' : Sto) (o0 : Ow) : Prop where
  live : ∀ o : Ow, o.live st' ↔ o.live st
  zad : ∀ H b, Zad w st' H b → Zad w st H b
theorem StM.owd (m : StM w st st' o0) : Owd w st' q ↔ Owd w st q := ⟨fun ⟨o, h1, h2⟩ => ⟨o, (m.live o).mp h1, h2⟩, fun ⟨o, h1, h2⟩ => ⟨o, (m.live o).mpr h1, h2⟩⟩
theorem stm_cell {y : Cn} (h : st[k]? = some (.con y)) : StM w st (st.set k (.con x')) (.c k) := by
  have hk := (List.getElem?_eq_some_iff.mp h).1
  have hi : ∀ (i C : Nat) (fs : List (Str × FV)), (st.set k (.con x'))[i]? = some (.ins C fs) ↔ st[i]? = some (.ins C fs) := fun i C fs => by
    constructor
    · intro e
      rcases get_set e with ⟨_, e2, _⟩ | ⟨_, e2⟩
      · cases e2
      · exact e2
    · intro e
      have ne : i ≠ k := fun z => by subst z; rw [h] at e; cases e
      rw [set_ne ne]; exact e
  refine ⟨fun o => ?_, fun H b z => ?_⟩
  · cases o with
    | c m => show m < (st.set k _).length ↔ m < st.length; rw [List.length_set]
    | f i nm => exact ⟨fun ⟨C, fs, x, h1, h2⟩ => ⟨C, fs, x, (hi i C fs).mp h1, h2⟩, fun ⟨C, fs, x, h1, h2⟩ => ⟨C, fs, x, (hi i C fs).mpr h1, h2⟩⟩
    | s j => exact Iff.rfl
  · obtain ⟨m, a, C, fs, c, dx, fv, f, y, t, h1, h2⟩ := z
    exact ⟨m, a, C, fs, c, dx, fv, f, y, t, (hi m C fs).mp h1, h2⟩
theorem stm_fld {C : Nat} {fs : List (Str × FV)} {f : Str} {y : Cn} (h : st[i]? = some (.ins C fs)) (hf : fs.lookup f = some (.c false y)) (nd : (fs.map (·.1)).Nodup) : StM w st (setFld st i f (.c false x')) (.f i f) := by
  have hi := (List.getElem?_eq_some_iff.mp h).1
  have e0 : setFld st i f (.c false x') = st.set i (.ins C (putFs f (.c false x') fs)) := by unfold setFld; rw [h]
  rw [e0]
  have mem_put : ∀ (g : Str) (z : Cn), (g, FV.c false z) ∈ putFs f (.c false x') fs → ∃ z', (g, FV.c false z') ∈ fs := fun g z hz => by
    obtain ⟨m, hm⟩ := List.mem_iff_getElem?.mp hz
    rcases putFs_get hm with ⟨e1, e2⟩ | ⟨_, e⟩ | e
    · subst e1
      exact ⟨y, mem_lookup hf⟩
    · exact ⟨z, List.mem_of_getElem? e⟩
    · exact ⟨z, List.mem_of_getElem? e⟩
  have put_mem : ∀ (g : Str) (z : Cn), (g, FV.c false z) ∈ fs → ∃ z', (g, FV.c false z') ∈ putFs f (.c false x') fs := by
    intro g z hz
    clear h e0 mem_put nd hi
    induction fs with
    | nil => cases hz
    | cons q r ih =>
      obtain ⟨g', w'⟩ := q
      show ∃ z', (g, FV.c false z') ∈ (if g' = f then (g', FV.c false x') :: r else (g', w') :: putFs f (.c false x') r)
      split
      · rename_i e
        rcases List.mem_cons.mp hz with hz | hz
        · cases hz; exact ⟨x', List.mem_cons_self⟩
        · exact ⟨z, List.mem_cons_of_mem _ hz⟩
      · rename_i e
        rcases List.mem_cons.mp hz with hz | hz
        · cases hz; exact ⟨z, List.mem_cons_self⟩
        · rw [List.lookup_cons, beq_eq_false_iff_ne.mpr fun z => e z.symm] at hf
          obtain ⟨z', h'⟩ := ih hf hz
          exact ⟨z', List.mem_cons_of_mem _ h'⟩
  refine ⟨fun o => ?_, fun H b z => ?_⟩
  · cases o with
    | c m => show m < (st.set i _).length ↔ m < st.length; rw [List.length_set]
    | f m nm =>
      constructor
      · rintro ⟨C', fs', z, h1, h2⟩
        rcases get_set h1 with ⟨e1, e2, _⟩ | ⟨_, e2⟩
        · cases e2
          obtain ⟨z', h3⟩ := mem_put nm z h2
          exact ⟨C, fs, z', e1 ▸ h, h3⟩
        · exact ⟨C', fs', z, e2, h2⟩
      · rintro ⟨C', fs', z, h1, h2⟩
        by_cases e : m = i
        · subst e
          rw [h] at h1
          cases h1
          obtain ⟨z', h3⟩ := put_mem nm z h2
          exact ⟨C, _, z', set_eq hi, h3⟩
        · exact ⟨C', fs', z, by rw [set_ne e]; exact h1, h2⟩
    | s j => exact Iff.rfl
  · obtain ⟨m, a, C', fs', c, dx, fv, g, z, t, h1, h2, h3, h4, h5⟩ := z
    rcases get_set h1 with ⟨e1, e2, _⟩ | ⟨_, e2⟩
    · cases e2
      rcases putFs_get h4 with ⟨_, e3⟩ | ⟨_, e3⟩ | e3
      · cases e3
      · exact ⟨m, a, C, fs, c, dx, fv, g, z, t, e1 ▸ h, h2, h3, e3, h5⟩
      · exact ⟨m, a, C, fs, c, dx, fv, g, z, t, e1 ▸ h, h2, h3, e3, h5⟩
    · exact ⟨m, a, C', fs', c, dx, fv, g, z, t, e2, h2, h3, h4, h5⟩
/-- what does not stand at the changed place -/
theorem ceR_off {y : Cell} (S : SR E w L st H) (m : StM w st st' o0) (hl : o0.live st) (ha : w.at o0 = some p) (e0 : H p = some u) (nt : ∀ xs, u ≠ .tup xs) (e : st[k]? = some y) (e1 : w.ad[k]? = some q) (hk : .c k ≠ o0) (hf : ∀ f z, (∃ C fs, y = .ins C fs ∧ (f, FV.c false z) ∈ fs) → .f k f ≠ o0) (h : CeR E w st H k q y) : CeR E w st' (upd H p u') k q y := by
  have tm : Tm E.K H (upd H p u') := tm_mut (E := E) e0 nt
  have lk : (Ow.c k).live st := (List.getElem?_eq_some_iff.mp e).1
  have nq : q ≠ p := fun z => hk (S.inj (.c k) o0 p lk hl (by rw [← z]; exact e1) ha)
  cases y with
  | con x => exact CoR.mono (List.prefix_refl _) tm (upd_ne nq) h
  | ins C fs =>
    obtain ⟨dx, fv, h1, h2⟩ := h
    refine ⟨dx, fv, (upd_ne nq).trans h1, h2.to (List.prefix_refl _) tm (fun _ => rfl) (fun t f y b' k1 k2 k3 z => k3 (m.owd.mp z)) fun t f z y b' k1 k2 => upd_ne fun y' => ?_⟩
    subst y'
    obtain ⟨g, q1, q2⟩ := h2.getI k1
    rw [k2] at q1
    cases q1
    cases z with
    | true => cases q2 with | z r1 r2 => exact r2 ⟨o0, hl, ha⟩
    | false =>
      have e3 : b' = w.fd k f := by cases q2; rfl
      have mm := List.mem_of_getElem? k1
      exact hf f y ⟨C, fs, rfl, mm⟩ (S.inj (.f k f) o0 b' ⟨C, fs, y, e, mm⟩ hl (by rw [e3]; rfl) ha)
theorem st_mut (h0 : ∀ o ∈ L0, o ∈ L) (S : SR E w L st H) (R : ER E xb L0 w L st H env σ) (m : StM w st st' o0) (hlen : st'.length = st.length) (hl : o0.live st) (ha : w.at o0 = some p) (ho : o0 ∉ L) (e0 : H p = some u) (nt : ∀ xs, u ≠ .tup xs) (nx : ∀ fs, u ≠ .xd fs) (mu : Mut (some u'))
    (hc : ∀ k y, st'[k]? = some y → ∃ b, w.ad[k]? = some b ∧ CeR E w st' (upd H p u') k b y) (nd : ∀ (k : Nat) (C : Nat) (fs : List (Str × FV)), st'[k]? = some (.ins C fs) → Nd E C (fs.map (·.1)))
    (zb : ∀ b, Zad w st (upd H p u') b → Zad w st H b ∨ Owd w st b) :
    SR E w L st' (upd H p u') ∧ ER E xb L0 w L st' (upd H p u') env σ ∧ Fr E L ⟨w, st, H⟩ ⟨w, st', upd H p u'⟩ := by
  have tm : Tm E.K H (upd H p u') := tm_mut (E := E) e0 nt
  have op : Owd w st p := ⟨o0, hl, ha⟩
  have S' : SR E w L st' (upd H p u') := by
    refine ⟨by rw [hlen]; exact S.len, fun o o' b h1 h2 => S.inj o o' b ((m.live o).mp h1) ((m.live o').mp h2), hc, fun o b h1 h2 h3 => ?_, nd⟩
    by_cases e : b = p
    · subst e
      exact ⟨u', upd_same, mu⟩
    · obtain ⟨t, y1, y2⟩ := S.ex o b ((m.live o).mp h1) h2 h3
      exact ⟨t, (upd_ne e).trans y1, y2⟩
  have f : Fr E L ⟨w, st, H⟩ ⟨w, st', upd H p u'⟩ := by
    refine ⟨List.prefix_refl _, tm, fun b t e h => ?_, fun b h => .inl (m.owd.mp h), fun b h => ?_, fun b h => ?_, fun o h1 h2 => ⟨(m.live o).mpr h2, rfl, fun b e => ?_⟩⟩
    · have nb : b ≠ p := fun z => h (by rw [z]; exact op)
      exact (upd_ne nb).trans e
    · rcases zb b (m.zad _ b h) with h | h
      · exact .inl h
      · exact .inr (.inl h)
    · have h' : upd H p u' b = none := h
      unfold upd at h'
      split at h'
      · cases h'
      · exact h'
    · have nb : b ≠ p := fun z => by
        subst z
        exact ho (S.inj o o0 b h2 hl e ha ▸ h1)
      exact upd_ne nb
  exact ⟨S', R.fr S h0 f, f⟩
theorem zad_upd (e0 : H p = some u) (n : ∀ c dx fv, u' ≠ .ins c dx fv) (h : Zad w st (upd H p u') q) : Zad w st H q := by
  obtain ⟨m, a, C, fs, c, dx, fv, g, z, t, h1, h2, h3, h4, h5⟩ := h
  refine ⟨m, a, C, fs, c, dx, fv, g, z, t, h1, h2, ?_, h4, h5⟩
  unfold upd at h3
  split at h3
  · exact absurd (Option.some.inj h3) (n c dx fv)
  · exact h3
theorem HoR.nins (h : HoR E w.ad H u x) : ∀ c dx fv, u ≠ .ins c dx fv := fun c dx fv e => by subst e; cases x <;> exact h.elim
theorem cell_mut (h0 : ∀ o ∈ L0, o ∈ L) (S : SR E w L st H) (R : ER E xb L0 w L st H env σ) (e : st[k]? = some (.con x)) (e1 : w.ad[k]? = some p) (ho : .c k ∉ L) (e0 : H p = some u) (r : HoR E w.ad H u x) (r' : HoR E w.ad (upd H p u') u' x') :
    SR E w L (st.set k (.con x')) (upd H p u') ∧ ER E xb L0 w L (st.set k (.con x')) (upd H p u') env σ ∧ Fr E L ⟨w, st, H⟩ ⟨w, st.set k (.con x'), upd H p u'⟩ := by
  have hk := (List.getElem?_eq_some_iff.mp e).1
  refine st_mut h0 S R (stm_cell e) (by rw [List.length_set]) (o0 := .c k) hk e1 ho e0 r.ntup r.nxd r'.mut (fun j y h => ?_) (fun j C fs h => ?_) fun b z => .inl (zad_upd e0 r'.nins z)
  · rcases get_set h with ⟨rfl, e2, _⟩ | ⟨ne, e2⟩
    · cases e2
      exact ⟨p, e1, u', .inl upd_same, r'⟩
    · obtain ⟨b, e3, c⟩ := S.cell j y e2
      exact ⟨b, e3, ceR_off S (stm_cell e) hk e1 e0 r.ntup e2 e3 (fun z => ne (by cases z; rfl)) (fun f z _ q => by cases q) c⟩
  · rcases get_set h with ⟨_, e2, _⟩ | ⟨_, e2⟩
    · cases e2
    · exact S.nd j C fs e2
theorem fld_mut {C : Nat} {fs : List (Str × FV)} {f : Str} (h0 : ∀ o ∈ L0, o ∈ L) (S : SR E w L st H) (R : ER E xb L0 w L st H env σ) (e : st[i]? = some (.ins C fs)) (hf : fs.lookup f = some (.c false x)) (ho : .f i f ∉ L) (e0 : H (w.fd i f) = some u) (r : HoR E w.ad H u x) (r' : HoR E w.ad (upd H (w.fd i f) u') u' x') :
    SR E w L (setFld st i f (.c false x')) (upd H (w.fd i f) u') ∧ ER E xb L0 w L (setFld st i f (.c false x')) (upd H (w.fd i f) u') env σ ∧ Fr E L ⟨w, st, H⟩ ⟨w, setFld st i f (.c false x'), upd H (w.fd i f) u'⟩ := by
  have hi := (List.getElem?_eq_some_iff.mp e).1
  have nd := (S.nd i C fs e).1
  have es : setFld st i f (.c false x') = st.set i (.ins C (putFs f (.c false x') fs)) := by unfold setFld; rw [e]
  have mS := stm_fld (w := w) (x' := x') e hf nd
  have live0 : (Ow.f i f).live st := ⟨C, fs, x, e, mem_lookup hf⟩
  refine st_mut h0 S R mS (by rw [es, List.length_set]) live0 rfl ho e0 r.ntup r.nxd r'.mut (fun j y h => ?_) (fun j C' fs' h => ?_) fun b z => .inl (zad_upd e0 r'.nins z)
  · rw [es] at h
    rcases get_set h with ⟨rfl, e2, _⟩ | ⟨ne, e2⟩
    · cases e2
      obtain ⟨b, e3, dx, fv, h1, h2⟩ := S.cell j _ e
      have nb : b ≠ w.fd j f := fun z => by
        have := S.inj (.c j) (.f j f) b hi live0 e3 (by rw [z]; rfl)
        cases this
      refine ⟨b, e3, dx, fv, (upd_ne nb).trans h1, ?_⟩
      obtain ⟨t, v0, i1, i2, i3, i4⟩ := h2.idx hf
      have hv : v0 = .ref (w.fd j f) := by cases i4; rfl
      subst hv
      have tm : Tm E.K H (upd H (w.fd j f) u') := tm_mut (E := E) e0 r.ntup
      have key := FsR.put (w' := w) (st' := setFld st j f (.c false x')) (J := upd H (w.fd j f) u') (f := f) (v' := .ref (w.fd j f)) (y := .c false x') (.c ⟨u', .inl upd_same, r'⟩) h2 nd fun m g v y ne k1 k2 k3 => ?_
      · rw [putF_same i3] at key
        exact key
      · cases k3 with
        | d k3 => exact .d (k3.mono (List.prefix_refl _) tm)
        | @c z k3 =>
          have nq : w.fd j g ≠ w.fd j f := fun q => by
            have := S.inj (.f j g) (.f j f) (w.fd j f) ⟨C, fs, z, e, List.mem_of_getElem? k1⟩ live0 (by rw [← q]; rfl) rfl
            cases this
            exact ne rfl
          exact .c (k3.mono (List.prefix_refl _) tm (upd_ne nq))
        | @z b z k3 k4 =>
          have nq : b ≠ w.fd j f := fun q => k4 (by rw [q]; exact ⟨.f j f, live0, rfl⟩)
          exact .z (k3.mono (List.prefix_refl _) tm (upd_ne nq)) fun q => k4 (mS.owd.mp q)
    · obtain ⟨b, e3, c⟩ := S.cell j y e2
      exact ⟨b, e3, ceR_off S mS live0 rfl e0 r.ntup e2 e3 (fun z => by cases z) (fun g z _ q => ne (by cases q; rfl)) c⟩
  · rw [es] at h
    rcases get_set h with ⟨_, e2, _⟩ | ⟨_, e2⟩
    · cases e2
      rw [putFs_keys ⟨_, hf⟩]
      exact S.nd i C fs e
    · exact S.nd j C' fs' e2
def LcR (w : Wd) (env : Env) (st : Sto) (σ : L2.St) (v : V) : Lc → Prop
  | .slot i => ∃ a x, v = .ref a ∧ env[i]? = some (some (.c .own x)) ∧ σ[i]? = some (some (.ref a))
  | .fld i f => v = .ref (w.fd i f) ∧ (Ow.f i f).live st
  | .cell k => ∃ a, v = .ref a ∧ w.ad[k]? = some a ∧ k < st.length
theorem LcR.fr {l : Lc} (f : Fr E L ⟨w, st, H⟩ ⟨w1, st1, H1⟩) (S1 : SR E w1 L' st1 H1) (hl : l.ow ∈ L) (h : LcR w env st σ v l) : LcR w1 env st1 σ v l := by
  cases l with
  | slot i => exact h
  | fld i nm =>
    obtain ⟨rfl, h2⟩ := h
    obtain ⟨k1, k2, k3⟩ := f.lk (.f i nm) hl h2
    have e : w1.fd i nm = w.fd i nm := Option.some.inj k2
    exact ⟨by rw [e], k1⟩
  | cell k =>
    obtain ⟨a, rfl, h2, h3⟩ := h
    have := pre_get f.ad h2
    exact ⟨a, rfl, this, by rw [← S1.len]; exact (List.getElem?_eq_some_iff.mp this).1⟩
/-- the place may be changed: what stands there, and how it goes on -/
theorem mut_ok {l : Lc} (h0 : ∀ o ∈ L0, o ∈ L) (S : SR E w L st H) (R : ER E xb L0 w L st H env σ) (hl : LcR w env st σ v l) (hg : l.get (P.cl (P.call n) L) env st = some x) : ∃ p u, v = .ref p ∧ H p = some u ∧ HoR E w.ad H u x ∧
    ∀ u' x', HoR E w.ad (upd H p u') u' x' → SR E w L (l.set x' env st).2 (upd H p u') ∧ ER E xb L0 w L (l.set x' env st).2 (upd H p u') (l.set x' env st).1 σ ∧ Stp E L ⟨w, env, st, σ, H⟩ ⟨w, (l.set x' env st).1, (l.set x' env st).2, σ, upd H p u'⟩ := by
  have hg' : (if L.contains l.ow then none else l.ow.cont env st) = some x := hg
  split at hg'
  · cases hg'
  · rename_i hc
    have hn : l.ow ∉ L := fun z => hc (by simpa using z)
    cases l with
    | slot i =>
      obtain ⟨a, y, rfl, e1, e2⟩ := hl
      have hg2 : (match env[i]? with | some (some (.c .own x)) => some x | _ => none) = some x := hg'
      rw [e1] at hg2
      cases hg2
      obtain ⟨v', q1, q2⟩ := R.ok i _ e1
      rw [e2] at q1
      cases q1
      cases q2 with
      | own k1 k2 k3 =>
        obtain ⟨u, hu, hr⟩ := k1.ex (k3 hn)
        exact ⟨a, u, rfl, hu, hr, fun u' x' r' => slot_mut S R e1 e2 hn hu hr r'⟩
    | fld i nm =>
      obtain ⟨rfl, hlv⟩ := hl
      have hg2 : (match st[i]? with | some (.ins _ fs) => (match fs.lookup nm with | some (.c false x) => some x | _ => none) | _ => none) = some x := hg'
      split at hg2
      · rename_i C fs e
        split at hg2
        · rename_i y e2
          cases hg2
          obtain ⟨b, e3, dx, fv, h1, h2⟩ := S.cell i _ e
          obtain ⟨z, h3⟩ := h2.mem (mem_lookup e2)
          cases h3 with
          | c h3 =>
            obtain ⟨u, hu, hr⟩ := h3.ex (S.ex (.f i nm) _ hlv hn rfl)
            refine ⟨_, u, rfl, hu, hr, fun u' x' r' => ?_⟩
            obtain ⟨a1, a2, a3⟩ := fld_mut h0 S R e e2 hn hu hr r'
            exact ⟨a1, a2, Stp.of R a3⟩
        · cases hg2
      · cases hg2
    | cell k =>
      obtain ⟨a, rfl, e1, hk⟩ := hl
      have hg2 : (match st[k]? with | some (.con x) => some x | _ => none) = some x := hg'
      split at hg2
      · rename_i y e
        cases hg2
        obtain ⟨b, e3, h3⟩ := S.cell k _ e
        rw [e1] at e3
        cases e3
        obtain ⟨u, hu, hr⟩ := CoR.ex h3 (S.ex (.c k) _ hk hn e1)
        refine ⟨a, u, rfl, hu, hr, fun u' x' r' => ?_⟩
        obtain ⟨a1, a2, a3⟩ := cell_mut h0 S R e e1 hn hu hr r'
        exact ⟨a1, a2, Stp.of R a3⟩
      · cases hg2
mutual
theorem Rv.cl {ad : List Addr} : ∀ {v : V} {x : D}, Rv E ad H v x → x.cl ad.length = true
  | _, _, .non => rfl
  | _, _, .bl b => rfl
  | _, _, .int i => rfl
  | _, _, .str x => rfl
  | _, _, .tup h ha => RvA.cl ha
  | _, _, .ref h => decide_eq_true (List.getElem?_eq_some_iff.mp h).1
  | _, _, .fn f => rfl
theorem RvA.cl {ad : List Addr} : ∀ {vs : List V} {xs : List D}, RvA E ad H vs xs → D.cls ad.length xs = true
  | _, _, .nil => rfl
  | _, _, .cons (x := x) (xs := xs) h ha => by
    show (D.cl ad.length x && D.cls ad.length xs) = true
    rw [Rv.cl h, RvA.cl ha]; rfl
end
theorem CoR.cl {ad : List Addr} {a : Addr} {x : Cn} (h : CoR E ad H a x) : x.cl ad.length = true := by
  obtain ⟨u, r, q⟩ := h
  cases u <;> cases x <;> first | exact q.elim | exact RvA.cl q | exact RvA.cl q.2
theorem FsR.cl {i : Nat} : ∀ {fv : List (Str × V)} {fs : List (Str × FV)}, FsR E w st H i fv fs → (fs.all fun p => p.2.cl w.ad.length) = true
  | _, _, .nil => rfl
  | _, _, .cons r t => by
    rw [List.all_cons, FsR.cl t, Bool.and_true]
    cases r with
    | d r => exact r.cl
    | c r => exact r.cl
    | z r n => exact r.cl
theorem SR.cl {x : Cell} (S : SR E w L st H) (e : st[k]? = some x) : x.cl st.length = true := by
  obtain ⟨a, e1, h⟩ := S.cell k x e
  rw [← S.len]
  cases x with
  | con x => exact CoR.cl h
  | ins C fs =>
    obtain ⟨dx, fv, h1, h2⟩ := h
    exact h2.cl
theorem take_get {α : Type} {xs : List α} {m k : Nat} {a : α} (hk : k < m) (e : xs[k]? = some a) : (xs.take m)[k]? = some a := by
  rw [List.getElem?_take_of_lt hk]; exact e
mutual
theorem Rv.trim {ad : List Addr} {m : Nat} : ∀ {v : V} {x : D}, Rv E ad H v x → x.cl m = true → Rv E (ad.take m) H v x
  | _, _, .non, _ => .non
  | _, _, .bl b, _ => .bl b
  | _, _, .int i, _ => .int i
  | _, _, .str x, _ => .str x
  | _, _, .tup h ha, e => .tup h (RvA.trim ha e)
  | _, _, .ref h, e => .ref (take_get (of_decide_eq_true e) h)
  | _, _, .fn f, _ => .fn f
theorem RvA.trim {ad : List Addr} {m : Nat} : ∀ {vs : List V} {xs : List D}, RvA E ad H vs xs → D.cls m xs = true → RvA E (ad.take m) H vs xs
  | _, _, .nil, _ => .nil
  | _, _, .cons (x := x) (xs := xs) h ha, e => by
    have e' : (D.cl m x && D.cls m xs) = true := e
    rw [Bool.and_eq_true] at e'
    exact .cons (Rv.trim h e'.1) (RvA.trim ha e'.2)
end
theorem CoR.trim {ad : List Addr} {m : Nat} {a : Addr} {x : Cn} (h : CoR E ad H a x) (e : x.cl m = true) : CoR E (ad.take m) H a x := by
  obtain ⟨u, r, q⟩ := h
  refine ⟨u, r, ?_⟩
  cases u <;> cases x <;> first | exact q.elim | exact RvA.trim q e | exact ⟨q.1, RvA.trim q.2 e⟩
def Wd.cut (w : Wd) (m : Nat) : Wd := ⟨w.ad.take m, w.fd⟩
theorem take_of {α : Type} {xs : List α} {m k : Nat} {a : α} (e : (xs.take m)[k]? = some a) : k < m ∧ xs[k]? = some a := by
  rw [List.getElem?_take] at e
  split at e
  · exact ⟨by assumption, e⟩
  · cases e
theorem live_cut {m : Nat} (hl : w.ad.length = st.length) (h : o.live (st.take m)) : o.live st ∧ (w.cut m).at o = w.at o := by
  cases o with
  | c k =>
    have h' : k < (st.take m).length := h
    rw [List.length_take] at h'
    exact ⟨show k < st.length by omega, show (w.ad.take m)[k]? = w.ad[k]? from List.getElem?_take_of_lt (by omega)⟩
  | f i nm =>
    obtain ⟨C, fs, x, h1, h2⟩ := h
    exact ⟨⟨C, fs, x, (take_of h1).2, h2⟩, rfl⟩
  | s j => exact h.elim
theorem owd_cut {m : Nat} (hl : w.ad.length = st.length) (h : Owd (w.cut m) (st.take m) p) : Owd w st p := by
  obtain ⟨o, h1, h2⟩ := h
  obtain ⟨k1, k2⟩ := live_cut hl h1
  exact ⟨o, k1, k2 ▸ h2⟩
theorem zad_cut {m : Nat} (h : Zad (w.cut m) (st.take m) H p) : Zad w st H p := by
  obtain ⟨k, a, C, fs, c, dx, fv, f, x, t, h1, h2, h3, h4, h5⟩ := h
  exact ⟨k, a, C, fs, c, dx, fv, f, x, t, (take_of h1).2, (take_of (show (w.ad.take m)[k]? = some a from h2)).2, h3, h4, h5⟩
theorem FsR.trim {m i : Nat} (hl : w.ad.length = st.length) : ∀ {fv : List (Str × V)} {fs : List (Str × FV)}, FsR E w st H i fv fs → (fs.all fun p => p.2.cl m) = true → FsR E (w.cut m) (st.take m) H i fv fs
  | _, _, .nil, _ => .nil
  | _, _, .cons r t, e => by
    rw [List.all_cons, Bool.and_eq_true] at e
    refine .cons ?_ (FsR.trim hl t e.2)
    have e1 := e.1
    cases r with
    | d r => exact .d (r.trim e1)
    | c r => exact .c (r.trim e1)
    | z r n => exact .z (r.trim e1) fun q => n (owd_cut hl q)
theorem SR.trim {m : Nat} (S : SR E w L st H) (hc : ∀ k x, k < m → st[k]? = some x → x.cl m = true) : SR E (w.cut m) L (st.take m) H := by
  have hl := S.len
  refine ⟨?_, fun o p a h1 h2 h3 h4 => ?_, fun k x e => ?_, fun o a h1 h2 h3 => ?_, fun k C fs e => S.nd k C fs (take_of e).2⟩
  · show (w.ad.take m).length = (st.take m).length
    rw [List.length_take, List.length_take, hl]
  · obtain ⟨a1, a2⟩ := live_cut hl h1
    obtain ⟨b1, b2⟩ := live_cut hl h2
    exact S.inj o p a a1 b1 (a2 ▸ h3) (b2 ▸ h4)
  · obtain ⟨hk, e'⟩ := take_of e
    obtain ⟨a, e1, h⟩ := S.cell k x e'
    have cl := hc k x hk e'
    refine ⟨a, take_get hk e1, ?_⟩
    cases x with
    | con x => exact CoR.trim h cl
    | ins C fs =>
      obtain ⟨dx, fv, h1, h2⟩ := h
      exact ⟨dx, fv, h1, h2.trim hl cl⟩
  · obtain ⟨a1, a2⟩ := live_cut hl h1
    exact S.ex o a a1 h2 (a2 ▸ h3)
theorem Fr.trim (S : SR E w L' st H) (S1 : SR E w1 L st1 H1) (f : Fr E L ⟨w, st, H⟩ ⟨w1, st1, H1⟩) : Fr E L ⟨w, st, H⟩ ⟨w1.cut st.length, st1.take st.length, H1⟩ := by
  refine ⟨?_, f.tm, f.out, fun p h => f.new p (owd_cut S1.len h), fun p h => f.newz p (zad_cut h), f.dom, fun o h1 h2 => ?_⟩
  · obtain ⟨r, e⟩ := f.ad
    have e' : w.ad ++ r = w1.ad := e
    refine ⟨[], ?_⟩
    show w.ad ++ [] = w1.ad.take st.length
    rw [← e', List.append_nil, ← S.len, List.take_left']
    rfl
  · obtain ⟨k1, k2, k3⟩ := f.lk o h1 h2
    cases o with
    | c k =>
      have hk : k < st.length := h2
      have hk1 : k < st1.length := k1
      refine ⟨show k < (st1.take st.length).length by rw [List.length_take]; omega, ?_, k3⟩
      exact (show (w1.ad.take st.length)[k]? = w1.ad[k]? from List.getElem?_take_of_lt hk).trans k2
    | f i nm =>
      obtain ⟨C, fs, x, h3, h4⟩ := h2
      obtain ⟨C', fs', x', h5, h6⟩ := k1
      exact ⟨⟨C', fs', x', take_get (List.getElem?_eq_some_iff.mp h3).1 h5, h6⟩, k2, k3⟩
    | s j => exact h2.elim
theorem stoCl_ok (S : SR E w L' st H) (h : stoCl st st1 = true) : ∀ k x, k < st.length → st1[k]? = some x → x.cl st.length = true := fun k x hk e => by
  have h' := List.all_eq_true.mp h k (List.mem_range.mpr hk)
  rw [Bool.or_eq_true] at h'
  rcases h' with h' | h'
  · have e2 := of_decide_eq_true h'
    rw [e] at e2
    exact S.cl e2.symm
  · rw [e] at h'
    exact h'
end
end Tv
namespace Tv
open PySem L2
section
variable {E : En} {xb : XB} {w w0 w1 w2 w' : Wd} {L0 L L' l Lk : List Ow} {st st0 st1 st2 st' : Sto} {H H1 H2 B B' J : Hp} {env env1 env' : Env} {σ σ1 σ' σ2 : L2.St} {v : V} {s : SV} {vs : List V} {ss as : List SV} {j i k : Nat} {p : Addr} {P : Prog} {n : Nat} {W : WX} {X : Cx} {a b d : Fs} {c : Ss} {q : Addr} {u u' : HO} {x x' : Cn} {o o0 : Ow}
theorem ags_get : ∀ {vs : List V} {as : List SV} {j : Nat} {s : SV}, AgsR E L w st H vs as → as[j]? = some s → ∃ v, vs[j]? = some v ∧ AgR E L w st H v s
  | _, _, _, _, .nil, e => by simp at e
  | _, _, 0, _, .cons r _, e => by simp at e; subst e; exact ⟨_, rfl, r⟩
  | _, _, j + 1, s, .cons _ t, e => by
    obtain ⟨v, h1, h2⟩ := ags_get (j := j) t (by simpa using e)
    exact ⟨v, by simpa using h1, h2⟩
theorem ags_len : ∀ {vs : List V} {as : List SV}, AgsR E L w st H vs as → vs.length = as.length
  | _, _, .nil => rfl
  | _, _, .cons _ t => by rw [List.length_cons, List.length_cons, ags_len t]
theorem entry_get {m : Nat} {z : Option SV} (e : (as.map some ++ List.replicate m none)[j]? = some (some s)) : as[j]? = some s := by
  by_cases hj : j < as.length
  · rw [List.getElem?_append_left (by rw [List.length_map]; exact hj), List.getElem?_map] at e
    cases h : as[j]? with
    | none => rw [h] at e; cases e
    | some y => rw [h] at e; cases e; rfl
  · rw [List.getElem?_append_right (by rw [List.length_map]; omega), List.getElem?_replicate] at e
    split at e <;> cases e
theorem ags_own (h : AgsR E L w st H vs as) (e : as[j]? = some s) : ∀ y, s ≠ .c .own y := fun y z => by
  subst z
  obtain ⟨v, _, h2⟩ := ags_get h e
  cases h2
theorem er_entry {N : List Str} (h : AgsR E L w st H vs as) (hn : as.length ≤ N.length) : ER E xb L w L st H (as.map some ++ List.replicate (N.length - as.length) none) (L2.start N vs) := by
  have hl := ags_len h
  have nsod : ∀ q, ¬ Sod (as.map some ++ List.replicate (N.length - as.length) none) (L2.start N vs) q := fun q z => by
    obtain ⟨j, y, e, _⟩ := z
    exact ags_own h (entry_get (z := none) e) y rfl
  refine ⟨by unfold L2.start; rw [List.length_append, List.length_append, List.length_map, List.length_map, List.length_replicate, List.length_replicate, hl], fun j s e => ?_, fun i j y z q e1 => ?_, fun q _ z => nsod q z⟩
  · have e' := entry_get (z := none) e
    obtain ⟨v, h1, h2⟩ := ags_get h e'
    refine ⟨v, ?_, ?_⟩
    · unfold L2.start
      rw [List.getElem?_append_left (by rw [List.length_map]; exact (List.getElem?_eq_some_iff.mp h1).1), List.getElem?_map, h1]
      rfl
    · cases h2 with
      | d r => exact .d r
      | par r1 r2 => exact .par r1 r2 (nsod _)
      | scr r1 r2 =>
        refine .scr ?_ r2
        rcases r1 with r1 | ⟨r1, r3, _⟩
        · exact .inl r1
        · exact .inr ⟨r1, r3, nsod _⟩
  · exact absurd rfl (ags_own h (entry_get (z := none) e1) y)
theorem fr_entry {a : Fs} {c : Ss} (hs : ∀ q, ¬ Sod a.env a.σ q) (f : FrS E L a c) : Fr E L ⟨a.w, a.st, a.H⟩ c :=
  ⟨f.ad, f.tm, fun p o e h => f.out p o e h (hs p), fun p h => (f.new p h).elim .inl fun z => .inr (z.elim (fun z => absurd z (hs p)) id), fun p h => (f.newz p h).elim .inl fun z => .inr (z.elim .inl fun z => .inr (z.elim (fun z => absurd z (hs p)) id)), f.dom, f.lk⟩
theorem OkC.trim {Q : VK} {Y : XK} {r0 r : Out SV} {b : Bool} (S : SR E w L st H) (h : trimIf b st (some r0) = some r) (hk : OkC E L w st H Q Y r) : OkC E L w st H Q Y r0 := by
  cases b with
  | false => cases (show some r0 = some r from h); exact hk
  | true =>
    cases r0 with
    | ok v st1 =>
      have h' : (if v.cl st.length && stoCl st st1 then some (Out.ok v (st1.take st.length)) else some (.ok v st1)) = some r := h
      split at h'
      · rename_i hc
        rw [Bool.and_eq_true] at hc
        cases h'
        intro w' H' u S' f bk
        refine hk (w'.cut st.length) H' u (S'.trim (stoCl_ok S hc.2)) (Fr.trim S S' f) ⟨?_, bk.2⟩
        obtain ⟨bk, fit⟩ := bk
        cases bk with
        | d k => exact .d (k.trim hc.1)
        | own h1 h2 h3 h4 h5 => exact .own (h1.trim hc.1) h2 (fun q => h3 (owd_cut S'.len q)) h4 fun q => h5 (zad_cut q)
        | atS h1 h2 h3 h4 => cases fit
        | atF h1 h2 => cases fit
        | par h1 h2 h3 => cases fit
        | scr h1 h2 => cases fit
      · cases h'; exact hk
    | ex x st1 =>
      have h' : (if x.cl st.length && stoCl st st1 then some (Out.ex x (st1.take st.length)) else some (.ex x st1)) = some r := h
      split at h'
      · rename_i hc
        rw [Bool.and_eq_true] at hc
        cases h'
        intro w' H' cls d S' f y
        refine hk (w'.cut st.length) H' cls d (S'.trim (stoCl_ok S hc.2)) (Fr.trim S S' f) ⟨y.1, y.2.1, fun z e => ?_⟩
        obtain ⟨a, v, h1, h2, h3⟩ := y.2.2 z e
        refine ⟨a, v, h1, h2, h3.trim ?_⟩
        have hc1 := hc.1
        unfold Xc.cl at hc1
        rw [e] at hc1
        exact hc1
      · cases h'; exact hk
theorem fn_T {pr : Program} {wl : World} {K : PySem.W.Frag} {mg : Str → Option Value} {base : Heap} {y qual : Str} {sm : Stmt} {f : Addr} {fd : FuncData} {N ps : List Str} {k fi : Nat} {body : Stts} {tr : Bool} (F : Fun K y qual sm f fd) (S : FnScope N ps (defScope sm)) (hfn : P.fn fi = ⟨ps.length, N.length, body, tr⟩) (hnp : ps.length ≤ N.length)
    (hb : ∀ (cdv : Value) (A : Around) (outer : List PySem.Env) (s : Shared) (H : Hp) (Y : XK), Room k (A.deeper (PyProof.Rows.envOfC qual (defScope sm) s.heap.objs.size f cdv)) →
      ∃ t, PSs (cxOf (L2.CX pr wl) pr wl K mg base N qual (defScope sm) f cdv A outer s H Y) (defBody sm) t ∧ SSs P n E (fun _ => none) (fun cls d _ H => Y cls d H) t body) :
    FnOk pr wl K mg base (L2.CX pr wl) (k + 1) f fd ps (spT P E (n + 1) fi) := by
  refine F.okX S (fun vs H Q Y h => ?_) (fun cdv A outer s H vs Q Y hr h => ?_)
  · obtain ⟨as, L, w, st, r, h1, h2, h3, h4, h5, h6⟩ := h
    rw [ags_len h3, h5, hfn]
  · obtain ⟨t, ht, hw⟩ := hb cdv A outer s H Y hr
    refine ⟨t, ht, ?_⟩
    obtain ⟨as, L, w, st, r, h1, h2, h3, h4, h5, h6⟩ := h
    have h4' : (if as.length = (P.fn fi).np then trimIf (P.fn fi).tr st (result (execs (P.cl (P.call n) L) (P.fn fi).body (as.map some ++ List.replicate ((P.fn fi).ns - as.length) none) st)) else none) = some r := h4
    rw [if_pos h5, hfn] at h4'
    rw [hfn] at h5
    have h5' : as.length = ps.length := h5
    have R := er_entry (E := E) (xb := fun _ => none) (N := N) h3 (by omega)
    have nsod : ∀ q, ¬ Sod (as.map some ++ List.replicate (N.length - as.length) none) (L2.start N vs) q := fun q z => by
      obtain ⟨j, y, e, _⟩ := z
      exact ags_own h3 (entry_get (z := none) e) y rfl
    have h4' : trimIf tr st (result (execs (P.cl (P.call n) L) body (as.map some ++ List.replicate (N.length - as.length) none) st)) = some r := h4'
    cases e : execs (P.cl (P.call n) L) body (as.map some ++ List.replicate (N.length - as.length) none) st with
    | none => rw [e] at h4'; cases tr <;> cases h4'
    | some o =>
      rw [e] at h4'
      refine hw L L w _ st (L2.start N vs) H (fun _ z => z) h2 R o e _ ?_
      cases o with
      | nx env' st' =>
        have h6 := OkC.trim h2 (r0 := .ok (.d .non) st') h4' h6
        exact fun w' σ' H' S' R' g => h6 w' H' .non S' (fr_entry nsod g.toFrS) ⟨.d .non, rfl⟩
      | rt sv st' =>
        have h6 := OkC.trim h2 (r0 := .ok sv st') h4' h6
        intro w' H' v S' g rt
        refine h6 w' H' v S' (fr_entry nsod g) ?_
        cases sv with
        | d x => exact ⟨.d rt, rfl⟩
        | c kd x =>
          cases kd <;> try exact rt.elim
          obtain ⟨p, rfl, k1, k2, k3, k4, k5⟩ := rt
          exact ⟨.own k1 k2 k3 (k5.elim (fun z => absurd z (nsod p)) id) k4, rfl⟩
        | x e => exact rt.elim
      | bk env' st' => cases tr <;> cases h4'
      | ct env' st' => cases tr <;> cases h4'
      | ex x env' st' =>
        have h6 := OkC.trim h2 (r0 := .ex x st') h4' h6
        exact fun w' σ' H' cls d S' R' g y => h6 w' H' cls d S' (fr_entry nsod g.toFrS) y
abbrev RL (E : En) : List Ow → Wd → Sto → Hp → Env → L2.St → Hp → V → Lc → Prop := fun _ w st _ env σ _ v l => LcR w env st σ v l
abbrev PlS (P : Prog) (n : Nat) (E : En) (xb : XB) (W : WX) (t : TE) (p : Pl) : Prop := SG P n E xb W (RL E) t (fun c env st => resolve c p env st)
theorem pl_nm : PlS P n E xb W (tVar i) (.nm i) := by
  intro L0 L w env st σ H h0 S R r h Q hQ
  have h' : (match env[i]? with
    | some (some (.c .own _)) => ok (Lc.slot i) st
    | some (some (.d (.ref k))) => ok (Lc.cell k) st
    | _ => none) = some r := h
  split at h'
  · rename_i x e
    cases ok_inj h'
    obtain ⟨v, h1, h2⟩ := R.ok i _ e
    cases h2 with
    | own k1 k2 k3 => exact ⟨_, h1, okr_now hQ S ⟨_, _, rfl, e, h1⟩⟩
  · rename_i k e
    cases ok_inj h'
    obtain ⟨v, h1, h2⟩ := R.ok i _ e
    cases h2 with
    | d h2 =>
      obtain ⟨a, rfl, e2⟩ := h2.ref_of
      exact ⟨_, h1, okr_now hQ S ⟨a, rfl, e2, by rw [← S.len]; exact (List.getElem?_eq_some_iff.mp e2).1⟩⟩
  · cases h'
/-- an expression under locks, ahead of a statement's end -/
theorem sb_golk {α β : Type} {Ra : List Ow → Wd → Sto → Hp → Env → L2.St → Hp → β → α → Prop} {ta : L2.St → Hp → (β → Hp → Prop) → Prop} {fa : Cl → Env → Sto → Res α} {k : α → Sto → Option SO} {r : SO} {D : Ends} {Qt : β → Hp → Prop}
    (ha : SG P n E xb W Ra ta fa) (h0 : ∀ o ∈ L0, o ∈ L) (S : SR E w L st H) (R : ER E xb L0 w L st H env σ) (hl : ∀ o ∈ l, ∀ st', o.live st' → o.live st) (h : sb (fa ((P.cl (P.call n) L).lk l) env st) env k = some r) (hD : OkS E xb W L0 L ⟨w, env, st, σ, H⟩ D r)
    (hk : ∀ a st1 w1 H1 x, SR E w1 L st1 H1 → ER E xb L0 w1 L st1 H1 env σ → Fr E (l ++ L) ⟨w, st, H⟩ ⟨w1, st1, H1⟩ → Ra L0 w1 st1 H1 env σ H x a → k a st1 = some r → OkS E xb W L0 L ⟨w1, env, st1, σ, H1⟩ D r → Qt x H1) : ta σ H Qt := by
  have hll : ∀ o ∈ L, o ∈ l ++ L := fun o z => mem_r z
  have h0' : ∀ o ∈ L0, o ∈ l ++ L := fun o z => hll o (h0 o z)
  have e0 : (P.cl (P.call n) L).lk l = P.cl (P.call n) (l ++ L) := rfl
  rw [e0] at h
  cases e : fa (P.cl (P.call n) (l ++ L)) env st with
  | none => rw [e] at h; cases h
  | some o =>
    rw [e] at h
    refine ha L0 (l ++ L) w env st σ H h0' S.lkApp (R.lk hll) o e Qt ?_
    cases o with
    | ok a st1 => exact fun w1 H1 x S1 f1 r1 => hk a st1 w1 H1 x (S.unlk f1 S1 hl) (R.fr S h0 (f1.less hll)) f1 r1 h (hD.from (Stp.of R (f1.less hll)))
    | ex x st1 =>
      cases (show some (SO.ex x env st1) = some r from h)
      exact fun w1 H1 cls d S1 f1 y => hD w1 σ H1 cls d (S.unlk f1 S1 hl) (R.fr S h0 (f1.less hll)) (Stp.of R (f1.less hll)) y
theorem lc_live {l : Lc} {v : V} (S : SR E w L st H) (h : LcR w env st σ v l) : ∀ o ∈ [l.ow], ∀ st', o.live st' → o.live st := by
  intro o ho st' k
  have : o = l.ow := by simpa using ho
  subst this
  cases l with
  | slot i => exact k.elim
  | fld i nm => exact h.2
  | cell m => obtain ⟨_, _, _, z⟩ := h; exact z
theorem app_mono {y : D} {xs : List D} {vs : List V} {v : V} (e : H p = some (.lst vs)) (r : RvA E w.ad H vs xs) (hv : Rv E w.ad H v y) : HoR E w.ad (upd H p (.lst (vs ++ [v]))) (.lst (vs ++ [v])) (.l (xs ++ [y])) := by
  have tm : Tm E.K H (upd H p (.lst (vs ++ [v]))) := tm_mut (E := E) e fun xs z => by cases z
  exact (r.mono (List.prefix_refl _) tm).app (.cons (hv.mono (List.prefix_refl _) tm) .nil)
abbrev RLK (k : Cn → Bool) : List Ow → Wd → Sto → Hp → Env → L2.St → Hp → V → Lc → Prop := fun _ w st _ env σ _ v l => LcR w env st σ v l ∧ ∃ x, l.ow.cont env st = some x ∧ k x = true
abbrev PlK (P : Prog) (n : Nat) (E : En) (xb : XB) (W : WX) (k : Cn → Bool) (t : TE) (p : Pl) : Prop := SG P n E xb W (RLK k) t (fun c env st => resolveK k c p env st)
theorem pl_k {to : TE} {p : Pl} {k : Cn → Bool} (hp : PlS P n E xb W to p) : PlK P n E xb W k to p := by
  intro L0 L w env st σ H h0 S R r h Q hQ
  have h' : rb (resolve (P.cl (P.call n) L) p env st) (fun l st => match l.ow.cont env st with
    | some x => if k x then ok l st else none
    | none => none) = some r := h
  cases e : resolve (P.cl (P.call n) L) p env st with
  | none => rw [e] at h'; cases h'
  | some o =>
    rw [e] at h'
    refine hp L0 L w env st σ H h0 S R o e Q ?_
    cases o with
    | ok l st1 =>
      have h2 : (match l.ow.cont env st1 with
        | some x => if k x then ok l st1 else none
        | none => none) = some r := h'
      split at h2
      · rename_i x ex
        split at h2
        · rename_i hk
          cases ok_inj h2
          exact fun w1 H1 v S1 f1 lr => hQ w1 H1 v S1 f1 ⟨lr, x, ex, hk⟩
        · cases h2
      · cases h2
    | ex y st1 =>
      cases (show some (Out.ex y st1) = some r from h')
      exact hQ
/-- what stands at a place -/
theorem lc_con {l : Lc} {v : V} {x : Cn} (S : SR E w L st H) (R : ER E xb L0 w L st H env σ) (hl : LcR w env st σ v l) (h : l.ow.cont env st = some x) : ∃ p, v = .ref p ∧ CoR E w.ad H p x := by
  cases l with
  | slot i =>
    obtain ⟨a, y, rfl, e1, e2⟩ := hl
    have hg2 : (match env[i]? with | some (some (.c .own x)) => some x | _ => none) = some x := h
    rw [e1] at hg2
    cases hg2
    obtain ⟨v', q1, q2⟩ := R.ok i _ e1
    rw [e2] at q1
    cases q1
    cases q2 with
    | own k1 k2 k3 => exact ⟨a, rfl, k1⟩
  | fld i nm =>
    obtain ⟨rfl, hlv⟩ := hl
    have hg2 : (match st[i]? with | some (.ins _ fs) => (match fs.lookup nm with | some (.c false x) => some x | _ => none) | _ => none) = some x := h
    split at hg2
    · rename_i C fs e
      split at hg2
      · rename_i y e2
        cases hg2
        obtain ⟨b, e3, dx, fv, h1, h2⟩ := S.cell i _ e
        obtain ⟨z, h3⟩ := h2.mem (mem_lookup e2)
        cases h3 with
        | c h3 => exact ⟨_, rfl, h3⟩
      · cases hg2
    · cases hg2
  | cell k =>
    obtain ⟨a, rfl, e1, hk⟩ := hl
    have hg2 : (match st[k]? with | some (.con x) => some x | _ => none) = some x := h
    split at hg2
    · rename_i y e
      cases hg2
      obtain ⟨b, e3, h3⟩ := S.cell k _ e
      rw [e1] at e3
      cases e3
      exact ⟨a, rfl, h3⟩
    · cases hg2
theorem ss_app {to te : TE} {p : Pl} {e : Ex} (hp : PlS P n E xb W to p) (he : SE P n E xb W te e) : SS P n E xb W (tDrop (tBM E.K "list" rAppend to (tCons te tNil))) (.app p e) := by
  intro L0 L w env st σ H h0 S R r h D hD
  show to σ H fun x H1 => tyV E.K "list" x H1 ∧ te σ H1 fun y H2 => rAppend x [y] H2 fun _ H3 => D.nx σ H3
  have hD0 := hD
  refine sb_go (pl_k (k := Cn.isL) hp) h0 S R h hD fun l st1 w1 H1 x S1 R1 f1 lr h2 hD1 => ?_
  clear h
  obtain ⟨lr, xc, ec, hk⟩ := lr
  have live := lc_live S1 lr
  refine ⟨?_, ?_⟩
  · obtain ⟨p, rfl, c⟩ := lc_con S1 R1 lr ec
    cases xc <;> try (cases hk; done)
    obtain ⟨u, r, z⟩ := c
    cases u <;> try exact z.elim
    exact .inl ⟨rfl, _, SqL.of r.lst⟩
  · refine sb_golk he h0 S1 R1 live h2 hD1 fun sv st2 w2 H2 y S2 R2 f2 v2 h3 hD2 => ?_
    cases e8 : toD sv st2 with
    | none => rw [e8] at h3; cases h3
    | some od =>
      obtain ⟨yd, st3, w3, rfl, S3, R3, f3, p3, rv3, ho3, hz3, hl3⟩ := toD_ok (s0 := ⟨w1, st1, H1⟩) (fun o z => mem_r (h0 o z)) S1.lkApp (R1.lk fun o z => mem_r z) S2.lkApp (R2.lk fun o z => mem_r z) f2 v2 e8
      rw [e8] at h3
      have lr3 := lr.fr f3 S3 (List.mem_append.mpr (.inl (List.mem_singleton.mpr rfl)))
      have S3' := S1.unlk f3 S3 live
      have R3' := R1.fr S1 h0 (f3.less (L' := L) fun o z => mem_r z)
      have h4 : (match l.get (P.cl (P.call n) L) env st3 with
        | some (.l xs) => if xs.length < sizeLine then some (SO.nx (l.set (.l (xs ++ [yd])) env st3).1 (l.set (.l (xs ++ [yd])) env st3).2) else none
        | _ => none) = some r := h3
      split at h4
      · rename_i xs eg
        split at h4
        · rename_i hs
          cases h4
          obtain ⟨q, u, rfl, hu, hr, go⟩ := mut_ok h0 S3' R3' lr3 eg
          cases u <;> try exact hr.elim
          rename_i vs
          obtain ⟨a1, a2, a3⟩ := go (.lst (vs ++ [y])) (.l (xs ++ [yd])) (app_mono hu hr rv3)
          refine ⟨q, vs, y, rfl, rfl, hu, by rw [RvA.length hr]; exact hs, ?_⟩
          exact hD1 _ _ _ a1 a2 ((Stp.of R1 (f3.less (L' := L) fun o z => mem_r z)).tr a3)
        · cases h4
      · cases h4
end
end Tv
namespace Tv
open PySem L2
structure Gm where
  P : Prog
  n : Nat
  E : En
  xb : XB
  W : WX
def Gm.inC (g : Gm) : Gm := { g with W := WF }
structure De (X : Cx) (g : Gm) (pe : Expr) (e : Ex) (t : TE) : Prop where
  p : PE X pe t
  s : SE g.P g.n g.E g.xb g.W t e
structure Dt (X : Cx) (g : Gm) (pe : Expr) (e : Tx) (t : TT) : Prop where
  p : PT X pe t
  s : STe g.P g.n g.E g.xb g.W t e
structure Dts (X : Cx) (g : Gm) (pe : List Expr) (e : Tx) (t : TT) : Prop where
  p : PTs X pe t
  s : STe g.P g.n g.E g.xb g.W t e
structure Dw (X : Cx) (g : Gm) (pe : Expr) (e : Tx) (t : TT) : Prop where
  p : PW X pe t
  s : STe g.P g.n g.E g.xb g.W t e
structure Da (X : Cx) (g : Gm) (pe : List Expr) (e : Exs) (t : TA) : Prop where
  p : PA X pe t
  s : SA g.P g.n g.E g.xb g.W t e
structure Do (X : Cx) (g : Gm) (pe : Option Expr) (e : Ex) (t : TO) : Prop where
  p : PO X pe t
  s : SOp g.P g.n g.E g.xb g.W t e
structure Di (X : Cx) (g : Gm) (tg pe : Expr) (e : Tv.It) (t : TI) : Prop where
  p : PI X tg pe t
  s : SIt g.P g.n g.E g.xb g.W t e
structure Dg (X : Cx) (g : Gm) (pe : Expr) (e : Tg) (t : TG) : Prop where
  p : PG X pe t
  s : TgS g.E t e
structure Dgs (X : Cx) (g : Gm) (pe : List Expr) (e : List Tg) (t : TGs) : Prop where
  p : PGs X pe t
  s : TgsS g.E t e
structure Dpl (X : Cx) (g : Gm) (pe : Expr) (e : Pl) (t : TE) : Prop where
  p : PE X pe t
  s : PlS g.P g.n g.E g.xb g.W t e
structure Ds (X : Cx) (g : Gm) (pe : Stmt) (s : Stt) (t : TS) : Prop where
  p : PS X pe t
  s : SS g.P g.n g.E g.xb g.W t s
structure Dss (X : Cx) (g : Gm) (pe : List Stmt) (s : Stts) (t : TS) : Prop where
  p : PSs X pe t
  s : SSs g.P g.n g.E g.xb g.W t s
section
variable {X : Cx} {g : Gm} {pa pb pc pe : Expr} {ps qs : List Expr} {a b c e : Ex} {es fs : Exs} {pos pos2 : Pos} {t u : Tx} {k : Nat} {ta tb tc : TE} {tt tu : TT}
theorem hu65 {A : Around} {k : Nat} (hr : Room k A) : A.units + 65 < cLine := by have := hr.un; omega
theorem hu1 {A : Around} {k : Nat} (hr : Room k A) : A.units + 1 < cLine := by have := hr.un; omega
theorem de_var (i : Nat) {x : Str} {pos : Pos} (hN : X.N[i]? = some x := by rfl) (hv : Vis X.env.scope x := by first | exact Or.inl rfl | exact Or.inr (Or.inl rfl) | exact Or.inr (Or.inr rfl)) (hd : (x == ("__debug__" : Str)) = false := by decide)
    (hcd : (x == ("__classdict__" : Str)) = false := by decide) : De X g (.Name x pos) (.var i) (tVar i) := ⟨pe_var hN hv hd hcd, se_var⟩
theorem de_int {i : Int} {j pos} : De X g (.Constant (.int i) j pos) (.cst (.int i)) (tC (.int i)) := ⟨pe_int, se_cst fun _ _ => .int i⟩
theorem de_bl {b : Bool} {j pos} : De X g (.Constant (.bool b) j pos) (.cst (.bl b)) (tC (.bl b)) := ⟨pe_bl, se_cst fun _ _ => .bl b⟩
theorem de_non {j pos} : De X g (.Constant .none j pos) (.cst .non) (tC .non) := ⟨pe_non, se_cst fun _ _ => .non⟩
theorem de_str {x : Str} {j pos} : De X g (.Constant (.str x) j pos) (.cst (.str x)) (tC (.str x)) := ⟨pe_str, se_cst fun _ _ => .str x⟩
theorem de_glob {x : Str} {v : V} {w : Value} {d : D} {pos : Pos} (hg : Gl X x) (hm : X.mg x = some w) (r : RelV v w) (hv : ∀ ad H, Rv g.E ad H v d) (hd : (x == ("__debug__" : Str)) = false := by decide) : De X g (.Name x pos) (.glob x d) (tC v) := ⟨pe_glob hg hm r hd, se_glob hv⟩
theorem de_not (h : De X g pa a ta) : De X g (.UnaryOp .Not pa pos) (.not a) (tNotV ta) := ⟨pe_not h.p, se_not h.s⟩
/-- an operator -/
structure BinO (X : Cx) (g : Gm) (op : Operator) (o : Bo) (r : R2) : Prop where
  p : OpR X (binaryOp op) r
  s : OpS g.E r (bin o)
theorem bo_add (hK : X.K = g.E.K) : BinO X g .Add .add (rAddX g.E.K) := ⟨hK ▸ o_add, os_add⟩
theorem bo_sub : BinO X g .Sub .sub (rI0 fun i j => .int (i - j)) := ⟨op_sub, os_sub⟩
theorem bo_mul : BinO X g .Mult .mul rMulX := ⟨o_mul, os_mul⟩
theorem bo_div : BinO X g .FloorDiv .div (rI CDivW fun i j => .int (i / j)) := ⟨op_fdivW, os_div⟩
theorem bo_mod : BinO X g .Mod .mod (rI (fun _ j => 0 < j) fun i j => .int (i % j)) := ⟨op_mod, os_mod⟩
theorem bo_pow : BinO X g .Pow .pow (rI CPow fun i j => .int (i ^ j.toNat)) := ⟨op_pow, os_pow⟩
theorem de_bin {op : Operator} {o : Bo} {r : R2} (ho : BinO X g op o r) (h1 : De X g pa a ta) (h2 : De X g pb b tb) : De X g (.BinOp pa op pb pos) (.bin o a b) (tOp r ta tb) := ⟨pe_op ho.p h1.p h2.p, se_op ho.s h1.s h2.s fun _ _ _ => rfl⟩
/-- a comparison, by its operator -/
structure CmpO (X : Cx) (g : Gm) (op : CmpOp) (o : Co) (r : R2) : Prop where
  p : OpR X (compareOp op) r
  s : OpS g.E r (cmpF g.E.kt o)
theorem co_lt : CmpO X g .Lt .lt (rI0 fun i j => .bl (decide (i < j))) := ⟨op_lt, os_lt⟩
theorem co_gt : CmpO X g .Gt .gt (rI0 fun i j => .bl (decide (j < i))) := ⟨op_gt, os_gt⟩
theorem co_ge : CmpO X g .GtE .ge (rI0 fun i j => .bl (decide (j ≤ i))) := ⟨op_ge, os_ge⟩
theorem co_eq (hK : X.K = g.E.K) (hr : Room k X.A) : CmpO X g .Eq .eq (rEqX g.E.K) := ⟨hK ▸ o_eq hr.units, os_eq⟩
theorem co_ne (hK : X.K = g.E.K) (hr : Room k X.A) : CmpO X g .NotEq .ne (rNeX g.E.K) := ⟨hK ▸ o_ne hr.units, os_ne⟩
theorem co_is : CmpO X g .Is .is rIsX := ⟨o_is, os_is⟩
theorem co_in (hK : X.K = g.E.K) (hr : Room k X.A) : CmpO X g .In .in (rInX g.E.K) := ⟨hK ▸ o_in (hu65 hr), os_in⟩
theorem co_notin (hK : X.K = g.E.K) (hr : Room k X.A) : CmpO X g .NotIn .notin (rNotInX g.E.K) := ⟨hK ▸ o_notin (hu65 hr), os_notin⟩
theorem se_cmp {P : Prog} {n : Nat} {E : En} {xb : XB} {W : WX} (hk : P.kts = E.kt) {o : Co} {r : R2} {ta tb : TE} (hr : OpS E r (cmpF E.kt o)) (h1 : SE P n E xb W ta a) (h2 : SE P n E xb W tb b) : SE P n E xb W (tOp r ta tb) (.cmp o a b) := by
  intro L0 L w env st σ H h0 S R r' h Q hQ
  show ta σ H fun x H1 => tb σ H1 fun y H2 => r x y H2 Q
  refine sg_go h1 h0 S R h hQ fun u st1 w1 H1 x S1 R1 f1 v1 h hQ1 => ?_
  refine sg_golk h2 h0 S1 R1 v1.live h hQ1 fun u2 st2 w2 H2 y S2 R2 f2 v2 h hQ2 => ?_
  have h' : cmpF P.kts o u u2 st2 = some r' := h
  rw [hk] at h'
  refine hr L0 L w2 env st2 σ H2 xb x y u u2 H H1 S2 R2 (v1.fr f2 (fun o z => List.mem_append.mpr (.inr (h0 o z))) (fun o z => List.mem_append.mpr (.inl z))) v2 _ h' W Q ?_
  exact hQ2.from (Fr.rfl' _) fun w' st' H' b a z => z.base fun p q => f1.dom p (f2.dom p q)
theorem de_cmp {op : CmpOp} {o : Co} {r : R2} (hk : g.P.kts = g.E.kt) (ho : CmpO X g op o r) (h1 : De X g pa a ta) (h2 : De X g pb b tb) (hm : behindInMarks op pb = false) : De X g (.Compare pa [op] [pb] pos) (.cmp o a b) (tOp r ta tb) := ⟨pe_cmpR ho.p h1.p h2.p hm, se_cmp hk ho.s h1.s h2.s⟩
theorem cmp_bl {o : Co} : ∀ (c : Cl) (env : Env) (st : Sto) (u : SV) (st' : Sto), ev c (.cmp o a b) env st = some (.ok u st') → ∃ b, u = .d (.bl b) := fun c env st u st' h => by
  have h' : rb (ev c a env st) (fun u st => rb (ev (c.lk (lockOf u)) b env st) fun w st => match cmp c.kts o u w st with
    | some b => ok (SV.d (.bl b)) st
    | none => none) = some (.ok u st') := h
  cases e1 : ev c a env st with
  | none => rw [e1] at h'; cases h'
  | some o1 =>
    rw [e1] at h'
    cases o1 with
    | ex x st1 => cases h'
    | ok u1 st1 =>
      have h2 : rb (ev (c.lk (lockOf u1)) b env st1) (fun w st => match cmp c.kts o u1 w st with
        | some b => ok (SV.d (.bl b)) st
        | none => none) = some (.ok u st') := h'
      cases e2 : ev (c.lk (lockOf u1)) b env st1 with
      | none => rw [e2] at h2; cases h2
      | some o2 =>
        rw [e2] at h2
        cases o2 with
        | ex x st2 => cases h2
        | ok u2 st2 =>
          have h3 : (match cmp c.kts o u1 u2 st2 with
            | some b => ok (SV.d (.bl b)) st2
            | none => none) = some (.ok u st') := h2
          split at h3
          · cases h3; exact ⟨_, rfl⟩
          · cases h3
theorem dt_cmp {op : CmpOp} {o : Co} {r : R2} (hk : g.P.kts = g.E.kt) (ho : CmpO X g op o r) (h1 : De X g pa a ta) (h2 : De X g pb b tb) (hm : behindInMarks op pb = false) : Dt X g (.Compare pa [op] [pb] pos) (.val (.cmp o a b)) (tTest (tOp r ta tb)) := ⟨pt_cmpR ho.p h1.p h2.p hm, st_test (se_cmp hk ho.s h1.s h2.s) cmp_bl⟩
theorem de_one {op : BoolOp} (h : De X g pa a ta) : De X g (.BoolOp op [pa] pos) a ta := ⟨pe_one h.p, h.s⟩
theorem de_and (h1 : De X g pa a ta) (h2 : De X g (.BoolOp .And (pb :: ps) pos) b tb) : De X g (.BoolOp .And (pa :: pb :: ps) pos) (.and a b) (tAndV ta tb) := ⟨pe_and h1.p h2.p, se_and h1.s h2.s⟩
theorem dt_truth (hK : X.K = g.E.K) (h : De X g pa a ta) (he : ∀ whole, isTrue pa X.env whole = (do let v ← whole; standAt pa.pos; holding [v] (truthy v)) := by intro _; rfl) : Dt X g pa (.val a) (tTruX g.E.K ta) := ⟨hK ▸ pt_truX h.p he, st_truth h.s⟩
theorem dt_not (h : Dt X g pa t tt) : Dt X g (.UnaryOp .Not pa pos) (.not t) (tNot tt) := ⟨pt_not h.p, st_not h.s⟩
theorem dt_w (h : Dw X g pa t tt) : Dt X g pa t tt := ⟨h.p.pt, h.s⟩
theorem dw_and1 (h : Dt X g pa t tt) : Dw X g (.BoolOp .And [pa] pos) t tt := ⟨pw_and1 h.p, h.s⟩
theorem dw_or1 (h : Dt X g pa t tt) : Dw X g (.BoolOp .Or [pa] pos) t tt := ⟨pw_or1 h.p, h.s⟩
theorem dw_and (h : Dt X g pa t tt) (h2 : Dw X g (.BoolOp .And (pb :: ps) pos) u tu) : Dw X g (.BoolOp .And (pa :: pb :: ps) pos) (.and t u) (tAnd tt tu) := ⟨pw_and h.p h2.p, st_and h.s h2.s⟩
theorem dw_or (h : Dt X g pa t tt) (h2 : Dw X g (.BoolOp .Or (pb :: ps) pos) u tu) : Dw X g (.BoolOp .Or (pa :: pb :: ps) pos) (.or t u) (tOr tt tu) := ⟨pw_or h.p h2.p, st_or h.s h2.s⟩
theorem dts_nil : Dts X g [] .yes tYes := ⟨pts_nil, st_yes⟩
theorem se_idx {P : Prog} {n : Nat} {E : En} {xb : XB} {W : WX} (hk : P.kts = E.kt) {ta tb : TE} (h1 : SE P n E xb W ta a) (h2 : SE P n E xb W tb b) : SE P n E xb W (tOp (rIxX E.K) ta tb) (.idx a b) := by
  intro L0 L w env st σ H h0 S R r' h Q hQ
  show ta σ H fun x H1 => tb σ H1 fun y H2 => rIxX E.K x y H2 Q
  refine sg_go h1 h0 S R h hQ fun u st1 w1 H1 x S1 R1 f1 v1 h hQ1 => ?_
  refine sg_golk h2 h0 S1 R1 v1.live h hQ1 fun u2 st2 w2 H2 y S2 R2 f2 v2 h hQ2 => ?_
  have h' : idxF P.kts u u2 st2 = some r' := h
  rw [hk] at h'
  refine os_idx L0 L w2 env st2 σ H2 xb x y u u2 H H1 S2 R2 (v1.fr f2 (fun o z => List.mem_append.mpr (.inr (h0 o z))) (fun o z => List.mem_append.mpr (.inl z))) v2 _ h' W Q ?_
  exact hQ2.from (Fr.rfl' _) fun w' st' H' b a z => z.base fun p q => f1.dom p (f2.dom p q)
theorem de_idx (hK : X.K = g.E.K) (hk : g.P.kts = g.E.kt) (hr : Room k X.A) (h1 : De X g pa a ta) (h2 : De X g pb b tb) (hs : PlainIx pb) : De X g (.Subscript pa pb pos) (.idx a b) (tOp (rIxX g.E.K) ta tb) := ⟨hK ▸ pe_ix (ix_X (hu1 hr)) h1.p h2.p hs, se_idx hk h1.s h2.s⟩
theorem do_some (h : De X g pa a ta) (hn : a.isNon = false := by rfl) : Do X g (some pa) a (tPart ta) := ⟨po_some h.p, so_some h.s hn⟩
theorem de_slice {plo phi : Option Expr} {tl th : TO} (hK : X.K = g.E.K) (h : De X g pa a ta) (h1 : Do X g plo b tl) (h2 : Do X g phi c th) : De X g (.Subscript pa (.Slice plo phi none pos2) pos) (.slice a b c) (tSl (rSlX g.E.K) ta tl th) := ⟨hK ▸ pe_slice sl_X h.p h1.p h2.p, se_slice h.s h1.s h2.s⟩
theorem da_nil : Da X g [] .nil tNil := ⟨pa_nil, sa_nil⟩
theorem da_cons {tas : TA} (h : De X g pa a ta) (h2 : Da X g ps es tas) (hs : starEach (pa :: ps) X.env = (false, eval pa X.env) :: starEach ps X.env := by rfl) : Da X g (pa :: ps) (.cons a es) (tCons ta tas) := ⟨pa_cons h.p h2.p hs, sa_cons h.s h2.s⟩
theorem de_tup {x1} {tas : TA} (h : Da X g ps es tas) : De X g (.Tuple ps x1 pos) (.tup es) (tTup tas) := ⟨pe_tup h.p, se_tup h.s⟩
theorem de_lst {tas : TA} (h : Da X g ps es tas) : De X g (.List ps pos) (.lst es) (tLst tas) := ⟨pe_lst h.p, se_lst h.s⟩
theorem de_call {kk : Nat} {x : Str} {f : Addr} {fi : Nat} {fd : FuncData} {nps : List Str} {np : Pos} {tas : TA} (tk : Takes X g.W) (F : FnOk X.prog X.w X.K X.mg X.base (L2.CX X.prog X.w) kk f fd nps (spT g.P g.E g.n fi)) (hr : Room kk X.A) (hg : Gl X x) (hm : X.mg x = some (.ref f)) (hkp : PySem.W.keepIn X.K (.ref f) = true) (hb : Binds X.K fd nps [])
    (h : Da X g (pa :: ps) es tas) (hn : es.len = (g.P.fn fi).np) (hdb : (x == ("__debug__" : Str)) = false := by decide) (he : starEach (pa :: ps) X.env = (false, eval pa X.env) :: starEach ps X.env := by rfl) (hpl : (backTo pos (starEach ps X.env)).any (·.1) = false := by rfl) : De X g (.Call (.Name x np) (pa :: ps) [] pos) (.call fi es) (tCallS (spT g.P g.E g.n fi) (WE g.W) tas) :=
  ⟨pe_callS F hr hg hm hkp hb (fun σ => passAt tk σ) h.p hdb he hpl, se_call h.s hn⟩
structure BiO (X : Cx) (g : Gm) (f : Value) (b : Bi) (r : RC) : Prop where
  p : CallR X f r
  s : CaS g.E r (biF b)
theorem bi_len (hK : X.K = g.E.K) : BiO X g (.builtin "len") .len (rLenX g.E.K) := ⟨hK ▸ c_len, cs_len⟩
theorem bi_int : BiO X g (.type "int") .int rInt2 := ⟨c_int, cs_int⟩
theorem bi_tuple (hK : X.K = g.E.K) : BiO X g (.type "tuple") .tuple (rTupX g.E.K) := ⟨hK ▸ c_tuple, cs_tuple⟩
theorem bi_all (hK : X.K = g.E.K) (hc : X.calm = true := by rfl) : BiO X g (.builtin "all") .all (rAll g.E.K) := ⟨hK ▸ c_all hc, cs_all⟩
theorem bi_str : BiO X g (.type "str") .str rStr2 := ⟨c_str, cs_str⟩
theorem de_bi {id : String} {x : Str} {np : Pos} {b : Bi} {r : RC} {tas : TA} (ho : BiO X g (.builtin id) b r) (hg : Gl X x) (hm : X.mg x = none) (hv : bootBuiltins x = some (.builtin id)) (h : Da X g (pa :: ps) es tas) (hn : x ≠ "__name__" := by decide) (hdb : (x == ("__debug__" : Str)) = false := by decide)
    (he : starEach (pa :: ps) X.env = (false, eval pa X.env) :: starEach ps X.env := by rfl) (hpl : (backTo pos (starEach ps X.env)).any (·.1) = false := by rfl) : De X g (.Call (.Name x np) (pa :: ps) [] pos) (.bi b es) (tCB r tas) := ⟨pe_callB ho.p hg hm hv h.p hn hdb he hpl, se_cb ho.s h.s fun _ _ _ => rfl⟩
theorem de_ty {T : String} {x : Str} {np : Pos} {b : Bi} {r : RC} {tas : TA} (ho : BiO X g (.type T) b r) (hg : Gl X x) (hm : X.mg x = none) (hv : bootBuiltins x = some (.type T)) (h : Da X g (pa :: ps) es tas) (hn : x ≠ "__name__" := by decide) (hdb : (x == ("__debug__" : Str)) = false := by decide)
    (he : starEach (pa :: ps) X.env = (false, eval pa X.env) :: starEach ps X.env := by rfl) (hpl : (backTo pos (starEach ps X.env)).any (·.1) = false := by rfl) : De X g (.Call (.Name x np) (pa :: ps) [] pos) (.bi b es) (tCB r tas) := ⟨pe_callTy ho.p hg hm hv h.p hn hdb he hpl, se_cb ho.s h.s fun _ _ _ => rfl⟩
theorem de_isi {x y : Str} {np np2 : Pos} {t : Ty} {m : String} (hK : X.K = g.E.K) (ht : tyS t = some m) (hg : Gl X x) (hm : X.mg x = none) (hv : bootBuiltins x = some (.builtin "isinstance")) (hg2 : Gl X y) (hm2 : X.mg y = none) (hv2 : bootBuiltins y = some (.type m)) (h : De X g pa a ta)
    (hn : x ≠ "__name__" := by decide) (hdb : (x == ("__debug__" : Str)) = false := by decide) (hn2 : y ≠ "__name__" := by decide) (hdb2 : (y == ("__debug__" : Str)) = false := by decide)
    (hs : starEach [pa, .Name y np2] X.env = (false, eval pa X.env) :: starEach [.Name y np2] X.env := by rfl) (hs2 : starEach [.Name y np2] X.env = (false, eval (.Name y np2) X.env) :: starEach [] X.env := by rfl) (hpl : (backTo pos (starEach [.Name y np2] X.env)).any (·.1) = false := by rfl) :
    De X g (.Call (.Name x np) [pa, .Name y np2] [] pos) (.bi (.isi t) (.cons a .nil)) (tCB (rIsi g.E.K) (tCons ta (tCons (tC (.ty m)) tNil))) :=
  ⟨hK ▸ pe_callB call_isi hg hm hv (pa_cons h.p (pa_cons (pe_bltn hg2 hm2 hv2 (show RelV (.ty m) (.type m) from rfl) hn2 hdb2) pa_nil hs2) hs) hn hdb hs hpl, se_isi ht h.s⟩
end
end Tv
namespace Tv
open PySem L2 PySem.Spec PyProof.Rows
section
variable {X : Cx} {g : Gm} {tg pa pb pc pe : Expr} {ps qs : List Expr} {a b c e : Ex} {es fs : Exs} {pos pos2 : Pos} {t u : Tx} {k : Nat} {sa sb : List Stmt} {s1 : Stmt} {x1 : Stt} {xs ys : Stts} {it : Tv.It} {t1 : Tg} {ts : List Tg} {gt : TG} {gts : TGs} {ta tb tc : TE} {tt tu : TT} {wi : TI} {sta stb : TS} {P : Prog} {n : Nat} {E : En} {xb : XB} {W : WX}
theorem di_range {np : Pos} (hg : Gl X "range") (hm : X.mg "range" = none) (h : De X g pa a ta) (hs : starEach [pa] X.env = [(false, eval pa X.env)] := by rfl) : Di X g tg (.Call (.Name "range" np) [pa] [] pos) (.range a) (iRng1 (tCons ta tNil)) :=
  ⟨pi_range1 hg hm (pa_cons h.p pa_nil hs) hs, si_range h.s⟩
theorem dg_nm {i : Nat} {x : Str} (hN : X.N.Nodup) (hi : X.N[i]? = some x) (hx : Loc X.env.scope x) (hf : X.fn x = true ∨ X.env.scope.names.lookup x = some .local := by first | exact .inl rfl | exact .inr rfl | assumption) : Dg X g (.Name x pos) (.nm i) (gName i) := ⟨pg_name hN hi hx hf, tg_nm⟩
theorem dgs_nil : Dgs X g [] [] gNil := ⟨pgs_nil, tgs_nil⟩
theorem dgs_cons (h : Dg X g pa t1 gt) (h2 : Dgs X g ps ts gts) (hs : (assignEach (pa :: ps) X.env).map (·.2) = assign pa X.env :: (assignEach ps X.env).map (·.2) := by rfl) : Dgs X g (pa :: ps) (t1 :: ts) (gCons gt gts) := ⟨pgs_cons h.p h2.p hs, tgs_cons h.s h2.s⟩
theorem dg_tp {kk n : Nat} (hK : X.K = g.E.K) (hc : X.calm = true) (h : Dgs X g ps ts gts) (hn : (assignEach ps X.env).length = n) (hst : (assignEach ps X.env).findIdx? (·.1) = none) (hl : ts.length = n) : Dg X g (.Tuple ps kk pos) (.tp ts) (gTup g.E.K n gts) := ⟨hK ▸ pg_tup hc h.p hn hst, tg_tp h.s hl⟩
theorem dss_nil : Dss X g [] .nil tNext := ⟨pss_nil, ss_nil⟩
theorem dss_cons (h : Ds X g s1 x1 sta) (h2 : Dss X g sa xs stb) : Dss X g (s1 :: sa) (.cons x1 xs) (tSeq sta stb) := ⟨pss_cons h.p h2.p, ss_cons h.s h2.s⟩
theorem ds_asg {t1 : Tg} (h : De X g pa a ta) (hg : Dg X g tg t1 gt) (hn : ∀ i, t1 = .nm i → gt = gName i) (hs : swapsWithSole [tg] pa pos.line X.env = pure false := by rfl) (hw : swappedStores [tg] pa X.env = pure none := by rfl)
    (h1 : (assignEach [tg] X.env).map (·.2) = [assign tg X.env] := by rfl) : Ds X g (.Assign [tg] pa pos) (.asg t1 a) (tAsg ta gt) := ⟨ps_asg h.p hg.p hs hw h1, ss_asg h.s hg.s hn⟩
theorem ds_mv {i j : Nat} (h : PE X pa (tVar j)) (hg : PG X tg (gName i)) (hs : swapsWithSole [tg] pa pos.line X.env = pure false := by rfl) (hw : swappedStores [tg] pa X.env = pure none := by rfl)
    (h1 : (assignEach [tg] X.env).map (·.2) = [assign tg X.env] := by rfl) : Ds X g (.Assign [tg] pa pos) (.mv i j) (tAsg (tVar j) (gName i)) := ⟨ps_asg h hg hs hw h1, ss_mv⟩
theorem ds_if (h : Dt X g pc t tt) (ha : Dss X g sa xs sta) (hb : Dss X g sb ys stb) : Ds X g (.If pc sa sb pos) (.ifs t xs ys) (tIfS tt sta stb) := ⟨ps_if h.p ha.p hb.p, ss_ifs h.s ha.s hb.s⟩
theorem ds_for {iter : Expr} (hp : PassesOwn (model X.prog X.w) X.A X.env X.xe) (hc : X.calm = true) (hi : Di X g tg iter it wi) (hg : Dg X g tg t1 gt) (hb : Dss X g sa xs sta) (hs : ∀ x, foldedSetIterable iter X.env x = pure x := by intro _; rfl) : Ds X g (.For tg iter sa [] pos) (.for_ t1 it xs) (tFor wi gt sta) := ⟨ps_for hp hc hi.p hg.p hb.p hs, ss_for hi.s hg.s hb.s⟩
theorem ds_ret (h : De X g pa a ta) (hv : a.isVar = false := by rfl) : Ds X g (.Return (some pa) pos) (.ret a) (tRet ta) := ⟨ps_ret h.p, ss_ret hv h.s⟩
theorem ds_retV {i : Nat} (h : PE X pa (tVar i)) : Ds X g (.Return (some pa) pos) (.ret (.var i)) (tRet (tVar i)) := ⟨ps_ret h, ss_ret_var⟩
theorem dpl_nm (i : Nat) {x : Str} {pos : Pos} (h : PE X (.Name x pos) (tVar i)) : Dpl X g (.Name x pos) (.nm i) (tVar i) := ⟨h, pl_nm⟩
theorem ds_app {po : Expr} {p : Pl} {apos cpos : Pos} {to : TE} (hK : X.K = g.E.K) (hp : Dpl X g po p to) (h : De X g pa a ta) (hbase : attributeBase po "append" X.env (eval po X.env) = eval po X.env := by rfl)
    (hfew : ((backTo cpos (starEach (pa :: []) X.env)).all (fun x => !x.1) && (backToKw cpos (keywordEach [] X.env)).all (fun x => x.1.isSome)
      && decide ((pa :: []).length + ([] : List Keyword).length + (if ([] : List Keyword).isEmpty then 0 else 1) < 30)) = true := by rfl)
    (hline : (apos.endLine == cpos.line) = true := by rfl) (hs : starEach (pa :: []) X.env = (false, eval pa X.env) :: starEach [] X.env := by rfl) (hplain : (backTo cpos (starEach [] X.env)).any (·.1) = false := by rfl) (hs2 : swapsWith (.Call (.Attribute po "append" apos) [pa] [] cpos) none pos.line X.env = pure false := by rfl) :
    Ds X g (.Expr (.Call (.Attribute po "append" apos) [pa] [] cpos) pos) (.app p a) (tDrop (tBM g.E.K "list" rAppend to (tCons ta tNil))) :=
  ⟨hK ▸ ps_expr (pe_bm PySem.F.plainAttrs_list PySem.F.slot_list_append PySem.F.type_list_append mt_append hp.p (pa_cons h.p pa_nil hs) hbase hfew hline hs hplain) hs2, ss_app hp.s h.s⟩
end
end Tv
namespace Tv
open PySem L2 PySem.Spec PyProof.Rows
theorem b_int : bootBuiltins "int" = some (.type "int") := by decide +kernel
theorem b_bool : bootBuiltins "bool" = some (.type "bool") := by decide +kernel
theorem b_tuple : bootBuiltins "tuple" = some (.type "tuple") := by decide +kernel
theorem b_str : bootBuiltins "str" = some (.type "str") := by decide +kernel
theorem b_len : bootBuiltins "len" = some (.builtin "len") := by decide +kernel
theorem b_isinstance : bootBuiltins "isinstance" = some (.builtin "isinstance") := by decide +kernel
theorem b_all : bootBuiltins "all" = some (.builtin "all") := by decide +kernel
theorem pgn {X : Cx} {pos : Pos} (i : Nat) {x : Str} (hN : X.N.Nodup) (hx : Loc X.env.scope x) (hi : X.N[i]? = some x := by rfl) (hf : X.fn x = true ∨ X.env.scope.names.lookup x = some .local := by first | exact .inl rfl | exact .inr rfl | assumption) : PG X (.Name x pos) (gName i) := pg_name hN hi hx hf
section
variable {pr : Program} {wl : World} {K : PySem.W.Frag} {mg : Str → Option Value} {base : Heap} {CX : CXT} {k : Nat} {f : Addr} {fd : FuncData} {ps : List Str} {sp sp' : Sp}
theorem FnOk.weak (h : FnOk pr wl K mg base CX k f fd ps sp) (hs : ∀ vs H Q Y, sp' vs H Q Y → sp vs H Q Y) : FnOk pr wl K mg base CX k f fd ps sp' := ⟨fun vs H Q Y z => h.len vs H Q Y (hs _ _ _ _ z), fun A o s H as us vs Q Y h1 h2 h3 h4 h5 => h.run A o s H as us vs Q Y h1 h2 h3 h4 (hs _ _ _ _ h5)⟩
theorem fn_0 {P : Prog} {E : En} {fi : Nat} : FnOk pr wl K mg base CX k f fd ps (spT P E 0 fi) := by
  have no : ∀ vs H Q Y, ¬ spT P E 0 fi vs H Q Y := fun vs H Q Y z => by
    obtain ⟨as, L, w, st, r, h1, h2, h3, h4, h5, h6⟩ := z
    cases h4
  exact ⟨fun vs H Q Y z => absurd z (no _ _ _ _), fun A o s H as us vs Q Y h1 h2 h3 h4 h5 => absurd h5 (no _ _ _ _)⟩
/-- the law's promise -/
def spL (K : PySem.W.Frag) : Sp := fun vs H Q _ => ∃ (a : Addr) (ns : List Int), vs = [.ref a] ∧ ns.length ≤ 63 ∧ SqL K H a (ns.map V.int) ∧ ∀ H', Q (.bl true) H'
theorem rva_ints {E : En} {ad : List Addr} {H : Hp} : ∀ ns : List Int, RvA E ad H (ns.map .int) (ns.map .int)
  | [] => .nil
  | i :: ns => .cons (.int i) (rva_ints ns)
theorem to_spL {P : Prog} {E : En} {n fi : Nat} (hK : E.K = K) (hp : (P.fn fi).np = 1) (h : FnOk pr wl K mg base CX k f fd ps (spT P E n fi))
    (hl : ∀ ns : List Int, ns.length ≤ 63 → ∃ st', P.call n fi [.c .scr (.l (ns.map .int))] [] [] = some (.ok (.d (.bl true)) st')) : FnOk pr wl K mg base CX k f fd ps (spL K) := by
  refine FnOk.weak h fun vs H Q Y z => ?_
  obtain ⟨a, ns, rfl, hn, hS, hQ⟩ := z
  obtain ⟨st', e⟩ := hl ns hn
  have nl : ∀ (o : Ow), ¬ o.live [] := fun o z => by
    cases o with
    | c k => ((obtain ⟨x, z⟩ := z) <;> simp at z)
    | f i nm => ((obtain ⟨C, fs, x, z, _⟩ := z) <;> simp at z)
    | s j => exact z
  refine ⟨_, [], ⟨[], fun _ _ => 0⟩, [], _, (fun o z => by cases z), ⟨rfl, fun o p b h1 => absurd h1 (nl o), fun k x z => by simp at z, fun o b h1 => absurd h1 (nl o), fun k C fs z => by simp at z⟩, .cons (.scr ?_ (rva_ints ns)) .nil, e, hp.symm, ?_⟩
  · rw [hK]
    rcases hS with hS | hS
    · exact .inr ⟨hS, fun ⟨o, z, _⟩ => nl o z, fun ⟨j, x, z, _⟩ => by simp at z⟩
    · exact .inl fun J => .inr hS
  · intro w' H' v S f b
    obtain ⟨b, _⟩ := b
    cases b with
    | d b => cases b; exact hQ H'
theorem cx_false {outer : List PySem.Env} {s : Shared} {H : Hp} {e : Value} {s' : Shared} (h : L2.CX pr wl outer H s (fun _ _ _ => False) e s') : False := by
  obtain ⟨a, B, H', cls, d, _, _, _, _, _, _, _, z⟩ := h
  exact z
end
end Tv
namespace Tv
open PySem L2 PySem.Spec PyProof.Rows
section
variable {E : En} {xb : XB} {w w0 w1 w2 : Wd} {L0 L L' l : List Ow} {st st0 st1 st2 : Sto} {H H1 H2 B B' : Hp} {env env1 env' : Env} {σ σ1 σ' : L2.St} {v : V} {s : SV} {vs : List V} {ss : List SV} {j i : Nat} {p : Addr} {P : Prog} {n : Nat} {W : WX} {X : Cx} {g : Gm}
theorem ER.prom {x : Cn} (S : SR E w L st H) (R : ER E xb L0 w L st H env σ) (e : env[j]? = some (some (.c .own x))) (e2 : σ[j]? = some (some (.ref p))) : ER E xb L0 (w.push p) L (st ++ [.con x]) H (env.set j (some (.d (.ref st.length)))) σ := by
  have hp : Sod env σ p := sod_slot e e2
  have pre : w.ad <+: (w.push p).ad := ⟨[p], rfl⟩
  have sodo : ∀ q, Sod (env.set j (some (.d (.ref st.length)))) σ q → Sod env σ q ∧ q ≠ p := fun q z => by
    obtain ⟨m, y, h1, h2⟩ := z
    rcases get_set h1 with ⟨_, h3, _⟩ | ⟨h3, h1⟩
    · cases h3
    · refine ⟨⟨m, y, h1, h2⟩, fun z => ?_⟩
      subst z
      exact h3 (R.inj m j y x q h1 e h2 e2)
  have owdo : ∀ q, Owd (w.push p) (st ++ [.con x]) q → Owd w st q ∨ q = p := fun q z => owd_push S.len z
  refine ⟨by rw [List.length_set]; exact R.len, fun m s' e3 => ?_, fun m k x' y q h1 h2 h3 h4 => ?_, fun q z k => R.zs q (zad_push S z) (sodo q k).1⟩
  · rcases get_set e3 with ⟨rfl, h3, _⟩ | ⟨h3, h4⟩
    · cases h3
      refine ⟨_, e2, .d (.ref ?_)⟩
      show (w.ad ++ [p])[st.length]? = some p
      rw [List.getElem?_append_right (by rw [S.len]; exact Nat.le_refl _), S.len]
      simp
    · obtain ⟨u, k1, k2⟩ := R.ok m s' h4
      refine ⟨u, k1, ?_⟩
      cases k2 with
      | d k2 => exact .d (k2.mono pre (Tm.rfl' _))
      | @own a y k2 k3 k4 =>
        refine .own (k2.mono pre (Tm.rfl' _) rfl) (fun z => ?_) k4
        rcases owdo _ z with z | rfl
        · exact k3 z
        · exact h3 (R.inj m j _ x _ h4 e k1 e2)
      | @par a y k2 k3 k4 =>
        refine .par (k2.mono pre (Tm.rfl' _) rfl) ?_ fun z => k4 (sodo _ z).1
        rcases k3 with k3 | ⟨o, q1, q2, q3⟩
        · refine .inl fun z => ?_
          rcases owdo _ z with z | rfl
          · exact k3 z
          · exact k4 hp
        · exact .inr ⟨o, q1, live_push q2, by rw [at_push S.len q2]; exact q3⟩
      | scr k2 k3 =>
        refine .scr ?_ (k3.mono pre (Tm.rfl' _))
        rcases k2 with k2 | ⟨k2, k4, k5⟩
        · exact .inl k2
        · refine .inr ⟨k2, fun z => ?_, fun z => k5 (sodo _ z).1⟩
          rcases owdo _ z with z | rfl
          · exact k4 z
          · exact k5 hp
      | x k2 k3 => exact .x k2 (xr_mono pre (Tm.rfl' _) (fun _ _ h => h) k3)
  · rcases get_set h1 with ⟨_, h5, _⟩ | ⟨_, h1⟩
    · cases h5
    · rcases get_set h2 with ⟨_, h5, _⟩ | ⟨_, h2⟩
      · cases h5
      · exact R.inj m k x' y q h1 h2 h3 h4
end
end Tv
namespace Tv
open PySem L2 PySem.Spec PyProof.Rows
end Tv
namespace Tv
open PySem L2 PySem.Spec PyProof.Rows
end Tv
namespace Tv
open PySem L2 PySem.Spec PyProof.Rows
section
variable {E : En} {xb : XB} {w w0 w1 w2 : Wd} {L0 L L' l : List Ow} {st st0 st1 st2 : Sto} {H H1 H2 B B' : Hp} {env env1 env' : Env} {σ σ1 σ' : L2.St} {v : V} {s : SV} {vs : List V} {ss : List SV} {j i : Nat} {P : Prog} {n : Nat} {W : WX} {X : Cx} {g : Gm} {a b d : Ex} {ta tb tc : TE} {pa pb pc : Expr} {k : Nat}
theorem ss_add (h1 : SE P n E xb W ta a) : SS P n E xb W (tAug i ta (ipI fun i j => i + j)) (.aug i .add a) := by
  intro L0 L w env st σ H h0 S R r h D hD
  have h' : (match env[i]? with
    | some (some (.d (.int p))) => sb (ev (P.cl (P.call n) L) a env st) env fun w st => match w with
      | .d (.int q) => setV (P.cl (P.call n) L) i (.d (.int (p + q))) env st
      | _ => none
    | _ => none) = some r := h
  split at h'
  · rename_i p e
    obtain ⟨x, e1, e2⟩ := R.ok i _ e
    refine ⟨x, e1, ?_⟩
    cases e2 with
    | d e2 =>
    cases e2
    refine sb_go h1 h0 S R h' hD fun u st1 w1 H1 y S1 R1 f1 v1 h hD1 => ?_
    cases u with
    | c kd z => cases (show (none : Option SO) = some r from h)
    | x z => cases (show (none : Option SO) = some r from h)
    | d u =>
      cases u with
      | int q =>
        have h2 : setV (P.cl (P.call n) L) i (.d (.int (p + q))) env st1 = some r := h
        unfold setV at h2
        split at h2
        · rename_i hf
          cases h2
          cases v1 with
          | d v1 =>
          cases v1
          exact ⟨p, q, rfl, rfl, hD1 w1 _ H1 S1 (R1.setV (fun _ z => by cases z) (.d (.int _))) (stp_setD R1 (free_s hf))⟩
        · cases h2
      | _ => cases (show (none : Option SO) = some r from h)
  · cases h'
theorem ds_add {x : Str} {pos pos' : Pos} (i : Nat) (hN : X.N.Nodup) (hi : X.N[i]? = some x) (hx : Loc X.env.scope x) (h : De X g pa a ta) (hf : X.fn x = true ∨ X.env.scope.names.lookup x = some .local := by first | exact .inl rfl | exact .inr rfl | assumption) : Ds X g (.AugAssign (.Name x pos') .Add pa pos) (.aug i .add a) (tAug i ta (ipI fun i j => i + j)) := ⟨ps_aug hN hi hx h.p ip_add hf, ss_add h.s⟩
end
end Tv
namespace Tv
open PySem L2 PySem.Spec PyProof.Rows
section
variable {prog : Program} {w : World} {A : Around} {E : Value → Shared → Prop} {s : Shared}
def Itg (b : Bool) (h : Heap) (i l : Addr) (k : Nat) : Prop := match b with
  | true => h.IsTupleIter i l k
  | false => h.IsListIter i l k
def Sqg (b : Bool) (h : Heap) (l : Addr) (xs : Array Value) : Prop := match b with
  | true => h.IsTuple l xs
  | false => h.IsList l xs
theorem Itg.to {b : Bool} {h g : Heap} {i l : Addr} {k : Nat} (t : Itg b h i l k) (f : ∀ o, h.get? i = some o → g.get? i = some o) : Itg b g i l k := by
  cases b
  · exact Heap.IsListIter.at t f
  · exact Heap.IsTupleIter.at t f
theorem Sqg.to {b : Bool} {h g : Heap} {l : Addr} {xs : Array Value} (t : Sqg b h l xs) (f : ∀ o, h.get? l = some o → g.get? l = some o) : Sqg b g l xs := by
  cases b
  · exact Heap.IsList.at t f
  · obtain ⟨o, h1, h2⟩ := t
    exact ⟨o, f o h1, h2⟩
theorem Sqg.lt {b : Bool} {h : Heap} {l : Addr} {xs : Array Value} (t : Sqg b h l xs) : l < h.objs.size := by
  cases b
  · obtain ⟨o, h1, _⟩ := t
    exact Heap.lt_size h1
  · obtain ⟨o, h1, _⟩ := t
    exact Heap.lt_size h1
theorem Itg.obj {b : Bool} {h : Heap} {i l : Addr} {k : Nat} (t : Itg b h i l k) : ∃ o, h.get? i = some o ∧ ∀ v, o.data ≠ .cell v := by
  cases b
  · obtain ⟨o, h1, _, h2⟩ := t
    exact ⟨o, h1, fun v q => by rw [h2] at q; cases q⟩
  · obtain ⟨o, h1, _, h2⟩ := t
    exact ⟨o, h1, fun v q => by rw [h2] at q; cases q⟩
end
end Tv
namespace Tv
open PySem L2 PySem.Spec PyProof.Rows
end Tv
namespace Tv
open PySem L2
end Tv
namespace Tv
open PySem L2 PySem.Spec PyProof.Rows
end Tv
namespace Tv
open PySem L2
section
variable {E : En} {xb : XB} {w w0 w1 w2 : Wd} {L0 L L' l Lk : List Ow} {st st0 st1 st2 : Sto} {H H1 H2 B B' : Hp} {env env1 env' : Env} {σ σ1 σ' σ2 : L2.St} {v : V} {s : SV} {vs : List V} {ss : List SV} {j i : Nat} {p : Addr} {P : Prog} {n : Nat} {W : WX} {X : Cx} {a b d : Fs} {c : Ss} {q : Addr}
/-- the keys of the set are the keys met -/
def KsR (E : En) (H : Hp) (M : List (Addr × List Int)) (acc : List (List Int)) : Prop := (M.map (·.2)).Perm acc ∧ ∀ p ∈ M, TuR E H p.1 (p.2.map V.int) (p.2.map D.int)
theorem KsR.mono {M : List (Addr × List Int)} {acc : List (List Int)} (h : KsR E H M acc) (t : Tm E.K H H1) : KsR E H1 M acc := ⟨h.1, fun p hp => (h.2 p hp).mono t⟩
theorem KsR.len {M : List (Addr × List Int)} {acc : List (List Int)} (h : KsR E H M acc) : M.length = acc.length := by
  have := h.1.length_eq
  rw [List.length_map] at this
  exact this
theorem KsR.put {M M' : List (Addr × List Int)} {acc : List (List Int)} {x : Addr} {k : List Int} (h : KsR E H M acc) (t : TuR E H x (k.map V.int) (k.map D.int)) (c1 : k ∈ M.map (·.2) → M' = M) (c2 : k ∉ M.map (·.2) → M'.Perm ((x, k) :: M)) : KsR E H M' (putI acc k) := by
  unfold putI
  by_cases m : k ∈ acc
  · rw [if_pos m]
    rw [c1 (h.1.mem_iff.mpr m)]
    exact h
  · rw [if_neg m]
    have pm := c2 fun z => m (h.1.mem_iff.mp z)
    refine ⟨(pm.map (·.2)).trans ?_, fun p hp => ?_⟩
    · rw [List.map_cons]
      exact (h.1.cons k).trans (List.perm_append_singleton k acc).symm
    · rcases List.mem_cons.mp (pm.mem_iff.mp hp) with e | hp
      · subst e
        exact t
      · exact h.2 p hp
end
end Tv
namespace Tv
open PySem L2 PySem.Spec PyProof.Rows
end Tv
namespace Tv
open PySem L2
end Tv
namespace Tv
open PySem L2
section
variable {E : En} {xb : XB} {w w0 w1 w2 : Wd} {L0 L L' l Lk : List Ow} {st st0 st1 st2 : Sto} {H H1 H2 B B' : Hp} {env env1 env' : Env} {σ σ1 σ' σ2 : L2.St} {v : V} {s : SV} {vs : List V} {ss : List SV} {j i : Nat} {p : Addr} {P : Prog} {n : Nat} {W : WX} {X : Cx} {a b d : Fs} {c : Ss} {q : Addr} {ad : List Addr}
def flat (ps : List (V × V)) : List V := ps.flatMap fun p => [p.1, p.2]
end
end Tv
namespace Tv
open PySem L2 PySem.Spec PyProof.Rows
end Tv
namespace Tv
open PySem L2 PySem.Spec PyProof.Rows
theorem fun_kbn {K : PySem.W.Frag} {x qual : Str} {st : Stmt} {f : Addr} {fd : FuncData} {ps : List Str} (F : Fun K x qual st f fd) (n : Nat) (ks : List Str)
    (h : ∀ (kV doc pm : Value) (an : Option Addr) (cdv ct : Value) (us ws : List Value), us.length = n → ws.length = ks.length → bindArgs (PySem.W.fnOf x qual (defArgs st) (defBody st) (defScope st) .none kV doc pm an cdv ct) ⟨us, ks.zip ws⟩ = pure (ps.zip (us ++ ws))) :
    KBn K fd ps n ks (fun us ws => us ++ ws) (fun vs zs => vs ++ zs) := by
  obtain ⟨oc, od, kV, doc, pm, an, cdv, ct, osl, rfl, lk, hcd⟩ := F.ex
  exact ⟨fun s us ws X l1 l2 => .of_eq (h kV doc pm an cdv ct us ws l1 l2), fun r1 r2 => r1.append r2⟩
def tCallK (n m : Nat) (sp : Sp) (E : L2.St → XK) (t tk : TA) : TE := fun σ H Q => t σ H fun vs H1 => tk σ H1 fun zs H2 => vs.length = n ∧ zs.length = m ∧ sp (vs ++ zs) H2 Q (E σ)
section
variable {X : Cx} {CX : CXT} {k n : Nat} {f : Addr} {fd : FuncData} {ps ks : List Str} {sp : Sp} {E : L2.St → XK} {x : Str} {p pos : Pos} {e : Expr} {es : List Expr} {kws : List Keyword} {t tk : TA}
theorem run_fnK {pins : List (Addr × Obj)} {σ : L2.St} {H : Hp} {s : Shared} {Q : VK} {us ws : List Value} {vs zs : List V} (F : FnOk X.prog X.w X.K X.mg X.base CX k f fd ps sp) (hr : Room k X.A) (hb : KBn X.K fd ps n ks (fun us ws => us ++ ws) (fun vs zs => vs ++ zs)) (hx : PassesAt CX X σ (E σ))
    (I : Inv X pins σ H s) (r : Vals vs us) (rz : Vals zs ws) (l1 : vs.length = n) (l2 : zs.length = ks.length) (h : sp (vs ++ zs) H Q (E σ)) : wpAny (model X.prog X.w) X.A (call (.ref f) us (ks.zip ws)) (EP X pins σ Q) X.xe s := by
  have r2 : Vals (vs ++ zs) (us ++ ws) := hb.rel r rz
  refine wpAny_call (codeAny_mono (F.run X.A X.stack s H ⟨us, ks.zip ws⟩ (us ++ ws) (vs ++ zs) Q (E σ) hr I.env0 (hb.to s us ws I.kIn (r.length.symm.trans l1) (rz.length.symm.trans l2)) r2 h) fun r s' hq => ?_)
  cases r with
  | error e => exact hx pins H s e s' I hq
  | ok fl =>
    cases fl with
    | ret u => exact I.after hq
    | next => exact False.elim hq
    | brk => exact False.elim hq
    | cont => exact False.elim hq
theorem pe_callKW (F : FnOk X.prog X.w X.K X.mg X.base CX k f fd ps sp) (hr : Room k X.A) (hg : Gl X x) (hm : X.mg x = some (.ref f)) (hk : PySem.W.keepIn X.K (.ref f) = true) (hb : KBn X.K fd ps n ks (fun us ws => us ++ ws) (fun vs zs => vs ++ zs)) (hx : ∀ σ, PassesAt CX X σ (E σ))
    (ha : PA X (e :: es) t) (hkw : PK X kws tk) (hall : (backToKw pos (keywordEach kws X.env)).all (·.1.isSome) = true := by rfl) (hks : (backToKw pos (keywordEach kws X.env)).filterMap (·.1) = ks := by rfl)
    (hdb : (x == ("__debug__" : Str)) = false := by decide) (he : starEach (e :: es) X.env = (false, eval e X.env) :: starEach es X.env := by rfl)
    (hpl : ((backTo pos (starEach (e :: es) X.env)).any (·.1) || (backToKw pos (keywordEach kws X.env)).any (·.1.isNone)) = false := by rfl) :
    PE X (.Call (.Name x p) (e :: es) kws pos) (tCallK n ks.length sp E t tk) := by
  refine ⟨fun pins s σ H Q I h => wpAny_Call_Name_kw (ld_glob I hg hm ?_ hdb)⟩
  refine PySem.W.callWith_KW (h₀ := X.base) I.ok.mod.kin hk hall (thn (ha.run pos pins s σ H _ I h) fun us s1 ⟨vs, H1, I1, r, q⟩ => ?_) hpl he
  refine thn (hkw.run pos pins s1 σ H1 _ I1 q) fun ws s2 ⟨zs, H2, I2, rz, l1, l2, q2⟩ => ⟨I2.kIn, ?_⟩
  rw [hks]
  exact run_fnK F hr hb (hx σ) I2 r rz l1 l2 q2
end
section
variable {E : En} {xb : XB} {w w0 w1 w2 : Wd} {L0 L : List Ow} {st st1 st2 : Sto} {H H1 H2 : Hp} {env : Env} {σ : L2.St} {P : Prog} {n : Nat} {W : WX}
abbrev RK (E : En) (n m : Nat) : List Ow → Wd → Sto → Hp → Env → L2.St → Hp → List V × List V → List SV → Prop := fun L0 w st H env σ B b a => VRs E L0 w st H env σ B (b.1 ++ b.2) a ∧ b.1.length = n ∧ b.2.length = m
abbrev SK (P : Prog) (n : Nat) (E : En) (xb : XB) (W : WX) (j m : Nat) (t tk : TA) (es : Exs) : Prop := SG P n E xb W (RK E j m) (fun σ H Q => t σ H fun vs H1 => tk σ H1 fun zs H2 => Q (vs, zs) H2) (fun c env st => evs c es env st)
theorem sk_nil {m : Nat} {tk : TA} {es : Exs} (h : SA P n E xb W tk es) (hm : es.len = m) : SK P n E xb W 0 m tNil tk es := by
  intro L0 L w env st σ H h0 S R r e Q hQ
  show tk σ H fun zs H2 => Q ([], zs) H2
  refine h L0 L w env st σ H h0 S R r e _ ?_
  cases r with
  | ex x st' => exact hQ
  | ok a st' => exact fun w' H' b S' f' r' => hQ w' H' ([], b) S' f' ⟨r', rfl, by rw [VRs.length r', evs_len e]; exact hm⟩
theorem sk_cons {j m : Nat} {te : TE} {t tk : TA} {e : Ex} {es : Exs} (he : SE P n E xb W te e) (hes : SK P n E xb W j m t tk es) : SK P n E xb W (j + 1) m (tCons te t) tk (.cons e es) := by
  intro L0 L w env st σ H h0 S R r h Q hQ
  show te σ H fun x H1 => t σ H1 fun vs H2 => tk σ H2 fun zs H3 => Q (x :: vs, zs) H3
  refine sg_go he h0 S R h hQ fun u st1 w1 H1 x S1 R1 f1 v1 h hQ => ?_
  have := sg_golk (Qt := fun b H => Q (x :: b.1, b.2) H) hes h0 S1 R1 v1.live h hQ fun us st2 w2 H2 xs S2 R2 f2 v2 h hQ => ?_
  · exact this
  · have e' : some (Out.ok (u :: us) st2) = some r := h
    cases e'
    obtain ⟨v2, k1, k2⟩ := v2
    refine hQ w2 H2 (x :: xs.1, xs.2) S2 (Fr.rfl' _) ⟨.cons (v1.fr f2 (fun o z => List.mem_append.mpr (.inr (h0 o z))) (fun o z => List.mem_append.mpr (.inl z))) (v2.base f1.dom) fun a y e1 e2 k => ?_, by show xs.1.length + 1 = _; rw [k1], k2⟩
    subst e1 e2
    have h1 := v2.own k
    cases v1 with
    | own k1 _ _ _ _ => obtain ⟨o, k2⟩ := k1.has; have h1' : H1 a = none := h1; rw [k2] at h1'; cases h1'
theorem se_callK {f j m : Nat} {t tk : TA} {es : Exs} (ha : SK P n E xb W j m t tk es) (hn : es.len = (P.fn f).np) : SE P n E xb W (tCallK j m (spT P E n f) (WE W) t tk) (.call f es) := by
  intro L0 L w env st σ H h0 S R r h Q hQ
  show t σ H fun vs H1 => tk σ H1 fun zs H2 => vs.length = j ∧ zs.length = m ∧ spT P E n f (vs ++ zs) H2 Q (WE W σ)
  have h' : rb (evs (P.cl (P.call n) L) es env st) (fun as st => (P.cl (P.call n) L).go f as st) = some r := h
  cases e : evs (P.cl (P.call n) L) es env st with
  | none => rw [e] at h'; cases h'
  | some o =>
    refine ha L0 L w env st σ H h0 S R o e (fun b H => b.1.length = j ∧ b.2.length = m ∧ spT P E n f (b.1 ++ b.2) H Q (WE W σ)) ?_
    rw [e] at h'
    cases o with
    | ex x st1 =>
      cases (show some (Out.ex x st1) = some r from h')
      exact hQ
    | ok as st1 =>
      intro w1 H1 vs S1 f1 v1
      exact ⟨v1.2.1, v1.2.2, go_ok h0 S1 v1.1 f1.dom ((evs_len e).trans hn) h' (hQ.from f1 fun _ _ _ _ _ z => z)⟩
end
section
variable {X : Cx} {g : Gm} {pa pb pe : Expr} {ps : List Expr} {a b e : Ex} {es : Exs} {pos pos2 : Pos} {ta tb : TE} {t tk : TA} {kws : List Keyword}
/-- the values behind the keywords -/
structure Dk (X : Cx) (g : Gm) (kws : List Keyword) (es : Exs) (m : Nat) (tk : TA) : Prop where
  p : PK X kws tk
  s : SA g.P g.n g.E g.xb g.W tk es
  l : es.len = m
theorem dk_nil : Dk X g [] .nil 0 tNil := ⟨pk_nil, sa_nil, rfl⟩
theorem dk_cons {m : Nat} {nm : Option Str} {kp : Pos} (h : De X g pa a ta) (h2 : Dk X g kws es m tk) : Dk X g (⟨nm, pa, kp⟩ :: kws) (.cons a es) (m + 1) (tCons ta tk) := ⟨pk_cons h.p h2.p, sa_cons h.s h2.s, by show es.len + 1 = _; rw [h2.l]⟩
structure Dak (X : Cx) (g : Gm) (ps : List Expr) (kws : List Keyword) (es : Exs) (j m : Nat) (t tk : TA) : Prop where
  p : PA X ps t
  k : PK X kws tk
  s : SK g.P g.n g.E g.xb g.W j m t tk es
theorem dak_nil {m : Nat} (h : Dk X g kws es m tk) : Dak X g [] kws es 0 m tNil tk := ⟨pa_nil, h.p, sk_nil h.s h.l⟩
theorem dak_cons {j m : Nat} (h : De X g pa a ta) (h2 : Dak X g ps kws es j m t tk) (hs : starEach (pa :: ps) X.env = (false, eval pa X.env) :: starEach ps X.env := by rfl) : Dak X g (pa :: ps) kws (.cons a es) (j + 1) m (tCons ta t) tk := ⟨pa_cons h.p h2.p hs, h2.k, sk_cons h.s h2.s⟩
theorem de_callK {kk j m : Nat} {x : Str} {f : Addr} {fi : Nat} {fd : FuncData} {nps ks : List Str} {np : Pos} (tkp : Takes X g.W) (F : FnOk X.prog X.w X.K X.mg X.base (L2.CX X.prog X.w) kk f fd nps (spT g.P g.E g.n fi)) (hr : Room kk X.A) (hg : Gl X x) (hm : X.mg x = some (.ref f)) (hkp : PySem.W.keepIn X.K (.ref f) = true) (hb : KBn X.K fd nps j ks (fun us ws => us ++ ws) (fun vs zs => vs ++ zs))
    (h : Dak X g (pa :: ps) kws es j m t tk) (hm2 : ks.length = m) (hn : es.len = (g.P.fn fi).np) (hall : (backToKw pos (keywordEach kws X.env)).all (·.1.isSome) = true := by rfl) (hks : (backToKw pos (keywordEach kws X.env)).filterMap (·.1) = ks := by rfl)
    (hdb : (x == ("__debug__" : Str)) = false := by decide) (he : starEach (pa :: ps) X.env = (false, eval pa X.env) :: starEach ps X.env := by rfl)
    (hpl : ((backTo pos (starEach (pa :: ps) X.env)).any (·.1) || (backToKw pos (keywordEach kws X.env)).any (·.1.isNone)) = false := by rfl) :
    De X g (.Call (.Name x np) (pa :: ps) kws pos) (.call fi es) (tCallK j m (spT g.P g.E g.n fi) (WE g.W) t tk) := by
  subst hm2
  exact ⟨pe_callKW F hr hg hm hkp hb (fun σ => passAt tkp σ) h.p h.k hall hks hdb he hpl, se_callK h.s hn⟩
end
end Tv
namespace Tv
open PySem L2 PySem.Spec PyProof.Rows
end Tv
namespace Tv
open PySem L2 PySem.Spec PyProof.Rows
/-- what the text says of the classes and their fields -/
def Enk (E : En) : Prop := ∀ C f, (C, f) ∈ E.fl → Cls E.K (E.cls C) ∧ NoAttr E.K (E.cls C) f
end Tv
namespace Tv
open PySem L2 PySem.Spec PyProof.Rows
section
variable {E : En} {xb : XB} {w w0 w1 w2 w' : Wd} {L0 L L' l Lk : List Ow} {st st0 st1 st2 st' : Sto} {H H1 H2 B B' J : Hp} {env env1 env' : Env} {σ σ1 σ' σ2 : L2.St} {v : V} {s : SV} {vs : List V} {ss as : List SV} {j i k C : Nat} {p a : Addr} {P : Prog} {n : Nat} {W : WX} {X : Cx} {f : Str} {fs : List (Str × FV)}
/-- constants behind the written arguments -/
inductive Cs (E : En) : List V → List D → Prop
  | nil : Cs E [] []
  | cons {v : V} {x : D} {vs : List V} {xs : List D} : (∀ ad H, Rv E ad H v x) → Cs E vs xs → Cs E (v :: vs) (x :: xs)
def csts : List D → Exs
  | [] => .nil
  | x :: xs => .cons (.cst x) (csts xs)
theorem evs_csts {c : Cl} : ∀ {xs : List D}, evs c (csts xs) env st = ok (xs.map .d) st
  | [] => rfl
  | x :: xs => by
    show rb (ok (SV.d x) st) (fun u st => rb (evs (c.lk (lockOf u)) (csts xs) env st) fun us st => ok (u :: us) st) = _
    show rb (evs (c.lk []) (csts xs) env st) (fun us st => ok (SV.d x :: us) st) = _
    rw [evs_csts]
    rfl
theorem evs_app {xs : List D} : ∀ {es : Exs} {c : Cl} {st : Sto}, evs c (es.app (csts xs)) env st = rb (evs c es env st) fun as st => ok (as ++ xs.map .d) st
  | .nil, c, st => evs_csts
  | .cons e es, c, st => by
    show rb (ev c e env st) (fun u st => rb (evs (c.lk (lockOf u)) (es.app (csts xs)) env st) fun us st => ok (u :: us) st) = rb (rb (ev c e env st) fun u st => rb (evs (c.lk (lockOf u)) es env st) fun us st => ok (u :: us) st) fun as st => ok (as ++ xs.map .d) st
    cases ev c e env st with
    | none => rfl
    | some o =>
      cases o with
      | ex y st1 => rfl
      | ok u st1 =>
        show rb (evs (c.lk (lockOf u)) (es.app (csts xs)) env st1) (fun us st => ok (u :: us) st) = rb (rb (evs (c.lk (lockOf u)) es env st1) fun us st => ok (u :: us) st) fun as st => ok (as ++ xs.map .d) st
        rw [evs_app]
        cases evs (c.lk (lockOf u)) es env st1 with
        | none => rfl
        | some o2 => cases o2 <;> rfl
theorem vrs_cs {dvs : List V} {xs : List D} (h : Cs E dvs xs) : VRs E L0 w st H env σ B dvs (xs.map .d) := by
  induction h with
  | nil => exact .nil
  | cons h t ih => exact .cons (.d (h _ _)) ih fun a y _ e => by cases e
theorem VRs.app {ws : List V} {zs : List SV} (hz : ∀ z ∈ zs, ∀ x, z ≠ .c .own x) (h : VRs E L0 w st H env σ B vs ss) (h2 : VRs E L0 w st H env σ B ws zs) : VRs E L0 w st H env σ B (vs ++ ws) (ss ++ zs) := by
  induction h with
  | nil => exact h2
  | cons h t d ih =>
    refine .cons h ih fun a y e1 e2 o => d a y e1 e2 ?_
    obtain ⟨i, x, k1, k2⟩ := o
    rename_i vs' ss'
    have hlen := t.length
    have k1 : (vs' ++ ws)[i]? = some (.ref a) := k1
    have k2 : (ss' ++ zs)[i]? = some (.c .own x) := k2
    by_cases hi : i < ss'.length
    · exact ⟨i, x, by rw [List.getElem?_append_left (by omega)] at k1; exact k1, by rw [List.getElem?_append_left hi] at k2; exact k2⟩
    · rw [List.getElem?_append_right (by omega)] at k2
      exact absurd rfl (hz _ (List.mem_of_getElem? k2) x)
theorem cs_nown {xs : List D} : ∀ z ∈ xs.map SV.d, ∀ x, z ≠ .c .own x := fun z h x e => by
  subst e
  obtain ⟨y, _, h⟩ := List.mem_map.mp h
  cases h
theorem Exs.len_app : ∀ {es fs : Exs}, (es.app fs).len = es.len + fs.len
  | .nil, fs => (Nat.zero_add _).symm
  | .cons e es, fs => by show (es.app fs).len + 1 = es.len + 1 + fs.len; rw [Exs.len_app]; omega
theorem csts_len : ∀ {xs : List D}, (csts xs).len = xs.length
  | [] => rfl
  | x :: xs => by show (csts xs).len + 1 = xs.length + 1; rw [csts_len]
/-- a call whose last parameters keep their defaults -/
theorem se_callD {fi : Nat} {t : TA} {es es' : Exs} {dvs : List V} {xs : List D} (he : es' = es.app (csts xs)) (ha : SA P n E xb W t es) (hd : Cs E dvs xs) (hn : es'.len = (P.fn fi).np) : SE P n E xb W (tCallSD (spT P E n fi) dvs (WE W) t) (.call fi es') := by
  subst he
  intro L0 L w env st σ H h0 S R r h Q hQ
  show t σ H fun vs H1 => spT P E n fi (vs ++ dvs) H1 Q (WE W σ)
  have h' : rb (evs (P.cl (P.call n) L) (es.app (csts xs)) env st) (fun as st => (P.cl (P.call n) L).go fi as st) = some r := h
  rw [evs_app] at h'
  cases e : evs (P.cl (P.call n) L) es env st with
  | none => rw [e] at h'; cases h'
  | some o =>
    refine ha L0 L w env st σ H h0 S R o e _ ?_
    rw [e] at h'
    cases o with
    | ex x st1 =>
      cases (show some (Out.ex x st1) = some r from h')
      exact hQ
    | ok as st1 =>
      intro w1 H1 vs S1 f1 v1
      exact go_ok h0 S1 (v1.app cs_nown (vrs_cs hd)) f1.dom (by rw [List.length_append, List.length_map, evs_len e, ← hn, Exs.len_app, csts_len]) h' (hQ.from f1 fun _ _ _ _ _ z => z)
end
end Tv
namespace Tv
open PySem L2 PySem.Spec PyProof.Rows
section
variable {E : En} {xb : XB} {w w0 w1 w2 w' : Wd} {L0 L L' l Lk : List Ow} {st st0 st1 st2 st' : Sto} {H H1 H2 H' B B' J : Hp} {env env0 env1 env' : Env} {σ σ0 σ1 σ' σ2 : L2.St} {v : V} {s : SV} {vs : List V} {ss as : List SV} {j i k C : Nat} {p a q : Addr} {P : Prog} {n : Nat} {W : WX} {X : Cx} {f : Str} {fs : List (Str × FV)} {y : FV}
variable {nw : Addr → Prop}
/-- the world behind the store of a field: where the container of the field stands -/
def Wd.put (w : Wd) (i : Nat) (f : Str) (q : Addr) : Wd := ⟨w.ad, fun k g => if k = i ∧ g = f then q else w.fd k g⟩
end
end Tv
namespace Tv
open PySem L2 PySem.Spec PyProof.Rows
end Tv
namespace Tv
open PySem L2 PySem.Spec PyProof.Rows
section
variable {X : Cx} {g : Gm} {pa pb po pe pv : Expr} {ps : List Expr} {a b e o v : Ex} {es es0 : Exs} {pos pos' apos tpos : Pos} {ta tb te tv : TE} {t tk tas : TA} {f x : Str} {kk C fi : Nat} {fa : Addr} {fd : FuncData} {nps ks : List Str} {np : Pos} {kws : List Keyword}
/-- a call that leaves its last parameters their defaults -/
theorem de_callD {dvs : List V} {ds : List Value} {xs : List D} (tkp : Takes X g.W) (F : FnOk X.prog X.w X.K X.mg X.base (L2.CX X.prog X.w) kk fa fd nps (spT g.P g.E g.n fi)) (hr : Room kk X.A) (hg : Gl X x) (hm : X.mg x = some (.ref fa)) (hkp : PySem.W.keepIn X.K (.ref fa) = true) (hb : Binds X.K fd nps ds) (hd : Vals dvs ds) (hc : Cs g.E dvs xs)
    (h : Da X g (pa :: ps) es0 t) (he : es = es0.app (csts xs)) (hn : es.len = (g.P.fn fi).np) (hdb : (x == ("__debug__" : Str)) = false := by decide) (hst : starEach (pa :: ps) X.env = (false, eval pa X.env) :: starEach ps X.env := by rfl) (hpl : (backTo pos (starEach ps X.env)).any (·.1) = false := by rfl) :
    De X g (.Call (.Name x np) (pa :: ps) [] pos) (.call fi es) (tCallSD (spT g.P g.E g.n fi) dvs (WE g.W) t) := ⟨pe_callSD F hr hg hm hkp hb hd (fun σ => passAt tkp σ) h.p hdb hst hpl, se_callD he h.s hc hn⟩
end
end Tv
namespace Tv
open PySem L2 PySem.Spec PyProof.Rows
/-- where a dict is known no more -/
def Unl (H0 H : Hp) (Q : Hp → Prop) : Prop := Q H ∨ ∃ d o u, H d = some (.frz o u) ∧ (∀ o' u', H0 d ≠ some (.frz o' u')) ∧ Q (upd H d u)
def tUnlE (H0 : Hp) (t : TE) : TE := fun σ H Q => t σ H fun v H' => Unl H0 H' (Q v)
def iKeysL (H0 : Hp) (td : TE) : TI := fun σ H R => td σ H fun x H1 => ∃ d kvs, x = .ref d ∧ ((∃ o, H1 d = some (.frz o (.dK kvs)) ∧ R (Itk d o kvs) H1) ∨ (H1 d = some (.dK kvs) ∧ ∀ o, (∀ o' u', H0 d ≠ some (.frz o' u')) → R (Itk d o kvs) (upd H1 d (.frz o (.dK kvs)))))
section
variable {X : Cx} {tg e : Expr} {td : TE} {apos cpos : Pos} {st : Stmt} {t : TS}
theorem unl_inv {pins : List (Addr × Obj)} {σ : L2.St} {H : Hp} {s : Shared} {Q : Hp → Prop} (I : Inv X pins σ H s) (h : Unl X.H_0 H Q) : ∃ H', Inv X pins σ H' s ∧ Q H' := by
  rcases h with h | ⟨d, o, u, e, hn, q⟩
  · exact ⟨H, I, h⟩
  · exact ⟨_, I.unlock e hn, q⟩
theorem pe_unl {t : TE} (h : PE X e t) : PE X e (tUnlE X.H_0 t) := by
  refine ⟨fun pins s σ H Q I hw => ?_⟩
  refine thn (h.run pins s σ _ _ I hw) fun v s1 ⟨x, H1, I2, r, q⟩ => ?_
  obtain ⟨H2, I3, q⟩ := unl_inv I2 q
  exact ⟨x, _, I3, r, q⟩
theorem pi_keysL (he : PE X e td) : PI X tg e (iKeysL X.H_0 td) := by
  refine ⟨fun pins s σ H R I h => ?_⟩
  refine thn (he.run pins s σ H _ I h) fun u s1 ⟨x, H1, I1, rx, d, kvs, ex, q⟩ => ?_
  subst ex
  obtain rfl : u = Value.ref d := rx
  rcases q with ⟨o, hd, q⟩ | ⟨hd, q⟩
  · obtain ⟨hs, hgd, hx, es, ep, vs, hdt, hsz, kv, hm⟩ := I1.frzK hd
    refine iter_keys hs hgd hx hdt (pi_one (tk := s1.toks) I1 _ (turn_keys _ hdt) ⟨_, Heap.get?_push_size _ rfl, rfl, ?_⟩ q)
    rw [hsz] <;> rfl
  · obtain ⟨od, I2⟩ := I1.lock hd trivial
    have q := q od (I1.nofrz hd trivial)
    obtain ⟨hs, hgd, hx, es, ep, vs, hdt, hsz, kv, hm⟩ := I2.frzK upd_same
    refine iter_keys hs hgd hx hdt (pi_one (tk := s1.toks) I2 _ (turn_keys _ hdt) ⟨_, Heap.get?_push_size _ rfl, rfl, ?_⟩ q)
    rw [hsz] <;> rfl
end
/-- the dict ps, known or not -/
def Pz (ps : List (Key × V)) (u : HO) : Prop := u = .dK ps ∨ ∃ o, u = .frz o (.dK ps)
section
variable {E : En} {xb : XB} {w w0 w1 w2 w' : Wd} {L0 L L' l Lk : List Ow} {st st0 st1 st2 st' : Sto} {H H1 H2 H' B B' J : Hp} {env env0 env1 env' : Env} {σ σ0 σ1 σ' σ2 : L2.St} {v : V} {s : SV} {vs : List V} {ss as : List SV} {j i k C : Nat} {p a q : Addr} {P : Prog} {n : Nat} {W : WX} {X : Cx} {ad : List Addr} {x : Cn} {ps : List (Key × V)} {u1 u2 : HO}
theorem Pz.ntup (h : Pz ps u1) : ∀ xs, u1 ≠ .tup xs := fun xs z => by subst z; rcases h with h | ⟨o, h⟩ <;> cases h
theorem Pz.nlst (h : Pz ps u1) : ∀ xs, u1 ≠ .lst xs := fun xs z => by subst z; rcases h with h | ⟨o, h⟩ <;> cases h
theorem Pz.nins (h : Pz ps u1) : ∀ c dx fv, u1 ≠ .ins c dx fv := fun c dx fv z => by subst z; rcases h with h | ⟨o, h⟩ <;> cases h
theorem Pz.nxd (h : Pz ps u1) : ∀ fs, u1 ≠ .xd fs := fun fs z => by subst z; rcases h with h | ⟨o, h⟩ <;> cases h
theorem Pz.rdc (h : Pz ps u1) (e : H a = some u1) : RdC H a (.dK ps) := by
  rcases h with rfl | ⟨o, rfl⟩
  · exact .inl e
  · exact .inr ⟨o, e, fun vs z => by cases z⟩
theorem tm_z (h1 : Pz ps u1) (e : H a = some u1) : Tm E.K H (upd H a u2) := tm_mut (E := E) e h1.ntup
theorem co_z (h1 : Pz ps u1) (h2 : Pz ps u2) (e : H a = some u1) (c : CoR E ad H p x) : CoR E ad (upd H a u2) p x := by
  have tm : Tm E.K H (upd H a u2) := tm_z h1 e
  by_cases hp : p = a
  · subst hp
    obtain ⟨u, r, q⟩ := c
    have hu : u = .dK ps := by
      rcases r with r | ⟨o, r, _⟩
      · rw [e] at r
        cases r
        rcases h1 with h1 | ⟨o, rfl⟩
        · exact h1
        · cases x <;> exact q.elim
      · rw [e] at r
        cases r
        rcases h1 with h1 | ⟨o, h1⟩
        · cases h1
        · cases h1; rfl
    subst hu
    exact ⟨_, h2.rdc upd_same, q.mono (List.prefix_refl _) tm⟩
  · exact c.mono (List.prefix_refl _) tm (upd_ne hp)
theorem FsR.z (h1 : Pz ps u1) (h2 : Pz ps u2) (e : H a = some u1) : ∀ {fv : List (Str × V)} {fs : List (Str × FV)}, FsR E w st H i fv fs → FsR E w st (upd H a u2) i fv fs
  | _, _, .nil => .nil
  | _, _, .cons r t => by
    refine .cons ?_ (FsR.z h1 h2 e t)
    cases r with
    | d r => exact .d (r.mono (List.prefix_refl _) (tm_z h1 e))
    | c r => exact .c (co_z h1 h2 e r)
    | z r n => exact .z (co_z h1 h2 e r) n
theorem SR.z (h1 : Pz ps u1) (h2 : Pz ps u2) (e : H a = some u1) (S : SR E w L st H) (hx : ∀ o p, o.live st → o ∉ L' → w.at o = some p → Xt (upd H a u2) p) : SR E w L' st (upd H a u2) := by
  refine ⟨S.len, S.inj, fun k y ey => ?_, hx, S.nd⟩
  obtain ⟨b, eb, h⟩ := S.cell k y ey
  refine ⟨b, eb, ?_⟩
  cases y with
  | con y => exact co_z h1 h2 e h
  | ins C fs =>
    obtain ⟨dx, fv, k1, k2⟩ := h
    have nb : b ≠ a := fun z => by subst z; rw [e] at k1; cases k1; exact h1.nins _ _ _ rfl
    exact ⟨dx, fv, (upd_ne nb).trans k1, k2.z h1 h2 e⟩
theorem zad_z (h1 : Pz ps u1) (h2 : Pz ps u2) (e : H a = some u1) (z : Zad w st (upd H a u2) p) : Zad w st H p := by
  obtain ⟨m, b, C', fs', c, dx', fv', g, x, t, k1, k2, k3, k4, k5⟩ := z
  refine ⟨m, b, C', fs', c, dx', fv', g, x, t, k1, k2, ?_, k4, k5⟩
  by_cases hb : b = a
  · subst hb
    rw [upd_same] at k3
    cases k3
    exact absurd rfl (h2.nins _ _ _)
  · rw [upd_ne hb] at k3; exact k3
theorem ER.z (h1 : Pz ps u1) (h2 : Pz ps u2) (e : H a = some u1) (S : SR E w L st H) (R : ER E xb L0 w L st H env σ) (hx : ∀ j x p, env[j]? = some (some (.c .own x)) → σ[j]? = some (some (.ref p)) → .s j ∉ L' → Xt (upd H a u2) p) : ER E xb L0 w L' st (upd H a u2) env σ := by
  refine ⟨R.len, fun j s es => ?_, R.inj, fun b z => R.zs b (zad_z h1 h2 e z)⟩
  obtain ⟨v, k1, k2⟩ := R.ok j s es
  refine ⟨v, k1, ?_⟩
  cases k2 with
  | d r => exact .d (r.mono (List.prefix_refl _) (tm_z h1 e))
  | own r1 r2 r3 => exact .own (co_z h1 h2 e r1) r2 fun z => hx j _ _ es k1 z
  | par r1 r2 r3 => exact .par (co_z h1 h2 e r1) r2 r3
  | @scr b vs xs r1 r2 =>
    refine .scr ?_ (r2.mono (List.prefix_refl _) (tm_z h1 e))
    rcases r1 with r1 | ⟨r1, r3, r4⟩
    · exact .inl r1
    · refine .inr ⟨?_, r3, r4⟩
      have nb : b ≠ a := fun z => by
        subst z
        rcases r1 with r1 | ⟨o, r1⟩
        · rw [e] at r1; cases r1; exact h1.nlst _ rfl
        · rw [e] at r1
          cases r1
          rcases h1 with h1 | ⟨o, h1⟩ <;> cases h1
      rcases r1 with r1 | ⟨o, r1⟩
      · exact .inl ((upd_ne nb).trans r1)
      · exact .inr ⟨o, (upd_ne nb).trans r1⟩
  | x r1 r2 => exact .x r1 (xr_mono (List.prefix_refl _) (tm_z h1 e) (fun b fs z => (upd_ne (fun y => by subst y; rw [e] at z; cases z; exact h1.nxd _ rfl)).trans z) r2)
/-- the dict at a is walked, and nobody may change it meanwhile -/
theorem stk_o (S : SR E w L st H) (R : ER E xb L0 w L st H env σ) (k : StK Lk ⟨w, env, st, σ, H⟩ a) : (∀ o, o.live st → w.at o = some a → o ∈ Lk) ∧ ∀ j x, env[j]? = some (some (.c .own x)) → σ[j]? = some (some (.ref a)) → .s j ∈ Lk := by
  rcases k with ⟨o, k1, k2, k3⟩ | ⟨j, x, k1, k2, k3⟩ | ⟨k1, k2⟩
  · refine ⟨fun o' h1 h2 => ?_, fun j x h1 h2 => ?_⟩
    · rw [S.inj o' o a h1 k2 h2 k3]; exact k1
    · exact absurd ⟨o, k2, k3⟩ (R.sod (sod_slot h1 h2)).1
  · refine ⟨fun o' h1 h2 => ?_, fun j' x' h1 h2 => ?_⟩
    · exact absurd ⟨o', h1, h2⟩ (R.sod (sod_slot k2 k3)).1
    · rw [R.inj j' j x' x a h1 k2 h2 k3]; exact k1
  · exact ⟨fun o' h1 h2 => absurd ⟨o', h1, h2⟩ k1, fun j x h1 h2 => absurd (sod_slot h1 h2) k2⟩
theorem frz_ok {ob : Obj} (e : H a = some (.dK ps)) (S : SR E w L st H) (R : ER E xb L0 w L st H env σ) (k : StK Lk ⟨w, env, st, σ, H⟩ a) (hl : ∀ o ∈ Lk, o ∈ L') (hL : ∀ o ∈ L, o ∈ L') :
    SR E w L' st (upd H a (.frz ob (.dK ps))) ∧ ER E xb L0 w L' st (upd H a (.frz ob (.dK ps))) env σ := by
  obtain ⟨q1, q2⟩ := stk_o S R k
  refine ⟨SR.z (.inl rfl) (.inr ⟨ob, rfl⟩) e S fun o p h1 h2 h3 => ?_, ER.z (.inl rfl) (.inr ⟨ob, rfl⟩) e S R fun j x p h1 h2 h3 => ?_⟩
  · have np : p ≠ a := fun z => by subst z; exact h2 (hl _ (q1 o h1 h3))
    obtain ⟨u, y1, y2⟩ := S.ex o p h1 (fun z => h2 (hL _ z)) h3
    exact ⟨u, (upd_ne np).trans y1, y2⟩
  · have np : p ≠ a := fun z => by subst z; exact h3 (hl _ (q2 j x h1 h2))
    obtain ⟨v, y1, y2⟩ := R.ok j _ h1
    rw [h2] at y1
    cases y1
    cases y2 with
    | own r1 r2 r3 =>
      obtain ⟨u, z1, z2⟩ := r3 fun z => h3 (hL _ z)
      exact ⟨u, (upd_ne np).trans z1, z2⟩
/-- what was done while the dict was known -/
theorem FrS.thaw {ob : Obj} {A : Fs} {Bs : Ss} (e : A.H a = some (.dK ps)) (e2 : Bs.H a = some (.frz ob (.dK ps))) (hl : ∀ o ∈ L', o ∈ L) (f : FrS E L ⟨A.w, A.env, A.st, A.σ, upd A.H a (.frz ob (.dK ps))⟩ Bs) : FrS E L' A ⟨Bs.w, Bs.st, upd Bs.H a (.dK ps)⟩ := by
  have up : ∀ p, p ≠ a → upd A.H a (.frz ob (.dK ps)) p = A.H p := fun p hp => upd_ne hp
  refine ⟨f.ad, fun b xs z => ?_, fun p o h1 h2 h3 => ?_, fun p h => ?_, fun p h => ?_, fun p h => ?_, fun o h1 h2 => ?_⟩
  · have nb : b ≠ a := fun y => by subst y; rw [show A.H b = _ from e] at z; cases z
    show upd Bs.H a (.dK ps) b = _
    rw [upd_ne nb]
    exact f.tm b xs ((up b nb).trans z)
  · show upd Bs.H a (.dK ps) p = some o
    by_cases hp : p = a
    · subst hp; rw [upd_same, ← h1, e]
    · rw [upd_ne hp]; exact f.out p o ((up p hp).trans h1) h2 h3
  · rcases f.new p h with h | h | h
    · exact .inl h
    · exact .inr (.inl h)
    · have np : p ≠ a := fun y => by subst y; have h' : upd A.H p (.frz ob (.dK ps)) p = none := h; rw [upd_same] at h'; cases h'
      exact .inr (.inr ((up p np).symm.trans h))
  · have h' := zad_z (.inr ⟨ob, rfl⟩) (.inl rfl) e2 h
    rcases f.newz p h' with h | h | h | h
    · exact .inl (zad_z (.inl rfl) (.inr ⟨ob, rfl⟩) e h)
    · exact .inr (.inl h)
    · exact .inr (.inr (.inl h))
    · have np : p ≠ a := fun y => by subst y; have h' : upd A.H p (.frz ob (.dK ps)) p = none := h; rw [upd_same] at h'; cases h'
      exact .inr (.inr (.inr ((up p np).symm.trans h)))
  · have np : p ≠ a := fun y => by subst y; have h' : upd Bs.H p (.dK ps) p = none := h; rw [upd_same] at h'; cases h'
    have h' : upd Bs.H a (.dK ps) p = none := h
    rw [upd_ne np] at h'
    exact (up p np).symm.trans (f.dom p h')
  · obtain ⟨k1, k2, k3⟩ := f.lk o (hl o h1) h2
    refine ⟨k1, k2, fun p hp => ?_⟩
    show upd Bs.H a (.dK ps) p = A.H p
    by_cases hpa : p = a
    · subst hpa; rw [upd_same, e]
    · rw [upd_ne hpa]; exact (k3 p hp).trans (up p hpa)
theorem Stp.thaw {ob : Obj} {A b : Fs} (e : A.H a = some (.dK ps)) (e2 : b.H a = some (.frz ob (.dK ps))) (hl : ∀ o ∈ L', o ∈ L) (f : Stp E L ⟨A.w, A.env, A.st, A.σ, upd A.H a (.frz ob (.dK ps))⟩ b) : Stp E L' A ⟨b.w, b.env, b.st, b.σ, upd b.H a (.dK ps)⟩ := by
  refine ⟨FrS.thaw (A := A) (Bs := ⟨b.w, b.st, b.H⟩) e e2 hl f.toFrS, fun p h => ?_, fun j hj => ?_⟩
  · rcases f.newS p h with h | h
    · exact .inl h
    · have np : p ≠ a := fun y => by subst y; have h' : upd A.H p (.frz ob (.dK ps)) p = none := h; rw [upd_same] at h'; cases h'
      have h' : upd A.H a (.frz ob (.dK ps)) p = none := h
      rw [upd_ne np] at h'
      exact .inr h'
  · obtain ⟨h1, h2, h3⟩ := f.lkS j (hl _ hj)
    refine ⟨h1, h2, fun p x k1 k2 => ?_⟩
    show upd b.H a (.dK ps) p = A.H p
    by_cases hpa : p = a
    · subst hpa; rw [upd_same, e]
    · rw [upd_ne hpa]; exact (h3 p x k1 k2).trans (upd_ne hpa)
/-- known no more, with the locks of before -/
theorem thaw_ok {ob : Obj} {A b : Fs} (e : A.H a = some (.dK ps)) (e2 : b.H a = some (.frz ob (.dK ps))) (S0 : SR E A.w L A.st A.H) (R0 : ER E xb L0 A.w L A.st A.H A.env A.σ) (hlv : ∀ o ∈ l, ∀ st', o.live st' → o.live A.st)
    (f : Stp E (l ++ L) ⟨A.w, A.env, A.st, A.σ, upd A.H a (.frz ob (.dK ps))⟩ b) (S : SR E b.w (l ++ L) b.st b.H) :
    SR E b.w L b.st (upd b.H a (.dK ps)) := by
  have g := Stp.thaw (A := A) (b := b) (L' := l ++ L) e e2 (fun o z => z) f
  have S1 : SR E b.w (l ++ L) b.st (upd b.H a (.dK ps)) := SR.z (.inr ⟨ob, rfl⟩) (.inl rfl) e2 S fun o p h1 h2 h3 => by
    obtain ⟨u, y1, y2⟩ := S.ex o p h1 h2 h3
    have np : p ≠ a := fun z => by subst z; rw [e2] at y1; cases y1; exact y2.elim
    exact ⟨u, (upd_ne np).trans y1, y2⟩
  exact SR.unlkS S0 g S1 hlv
end
end Tv
namespace Tv
open PySem L2 PySem.Spec PyProof.Rows
end Tv
namespace Tv
open PySem L2 PySem.Spec PyProof.Rows
def iDL (J : Addr → Obj → List (Key × V) → L2.It) (H0 : Hp) (td : TE) : TI := fun σ H R => td σ H fun x H1 => ∃ d kvs, x = .ref d ∧ ((∃ o, H1 d = some (.frz o (.dK kvs)) ∧ R (J d o kvs) H1) ∨ (H1 d = some (.dK kvs) ∧ ∀ o, (∀ o' u', H0 d ≠ some (.frz o' u')) → R (J d o kvs) (upd H1 d (.frz o (.dK kvs)))))
section
variable {E : En} {xb : XB} {w w0 w1 w2 w' : Wd} {L0 L L' l Lk : List Ow} {st st0 st1 st2 st' : Sto} {H H1 H2 H' B B' J : Hp} {env env0 env1 env' : Env} {σ σ0 σ1 σ' σ2 : L2.St} {v : V} {s : SV} {vs : List V} {ss as : List SV} {j i k C : Nat} {p a q : Addr} {P : Prog} {n : Nat} {W : WX} {X : Cx} {ad : List Addr} {x : Cn} {ps : List (Key × V)} {kvs : List (Key × D)} {u1 u2 : HO} {te : TE} {e : Ex}
/-- the known dict at a -/
def HlK (E : En) (Lk : List Ow) (a : Addr) (o : Obj) (ps : List (Key × V)) (kvs : List (Key × D)) (s : Fs) : Prop := s.H a = some (.frz o (.dK ps)) ∧ Rkv E s.w.ad s.H ps kvs ∧ StK Lk s a
theorem HlK.stp {o : Obj} {s s' : Fs} (f : Stp E Lk s s') (h : HlK E Lk a o ps kvs s) : HlK E Lk a o ps kvs s' := by
  obtain ⟨h1, h2, h3⟩ := h
  obtain ⟨k1, k2⟩ := h3.stp f (by rw [h1]; intro z; cases z)
  exact ⟨k2.trans h1, h2.mono f.ad f.tm, k1⟩
theorem rkv_at {m : Nat} {k : Key} {d : D} (h : Rkv E ad H ps kvs) (e : kvs[m]? = some (k, d)) : ∃ v, ps[m]? = some (k, v) ∧ Rv E ad H v d := by
  have h2 : (kvs.map (·.2))[m]? = some d := by rw [List.getElem?_map, e]; rfl
  obtain ⟨v, e3, r⟩ := h.2.get h2
  have h1 : (kvs.map (·.1))[m]? = some k := by rw [List.getElem?_map, e]; rfl
  rw [← h.1] at h1
  rw [List.getElem?_map] at h1 e3
  cases ep : ps[m]? with
  | none => rw [ep] at h1; cases h1
  | some p =>
    rw [ep] at h1 e3
    obtain ⟨p1, p2⟩ := p
    cases (show some p1 = some k from h1)
    cases (show some p2 = some v from e3)
    exact ⟨_, rfl, r⟩
theorem kmap_at {α β : Type} {f : α → β} {xs : List α} {m : Nat} {y : β} (e : (xs.map f)[m]? = some y) : ∃ x, xs[m]? = some x ∧ f x = y := by
  rw [List.getElem?_map] at e
  cases h : xs[m]? with
  | none => rw [h] at e; cases e
  | some x => rw [h] at e; exact ⟨x, rfl, Option.some.inj e⟩
/-- how a dict is walked -/
structure Kw (E : En) (J : Addr → Obj → List (Key × V) → L2.It) (f : List (Key × D) → List D) : Prop where
  its : ∀ (Lk : List Ow) (a : Addr) (o : Obj) (ps : List (Key × V)) (kvs : List (Key × D)), ItS E (J a o ps) (f kvs) (HlK E Lk a o ps kvs)
theorem kw_keys : Kw E Itk (fun kvs => kvs.map fun p => keyD p.1) := ⟨fun Lk a o ps kvs => ⟨fun L w env st σ H i x S hh hx => by
  obtain ⟨⟨k, d⟩, e1, rfl⟩ := kmap_at hx
  obtain ⟨v, e2, r⟩ := rkv_at hh.2.1 e1
  refine ⟨⟨hh.1, (List.getElem?_eq_some_iff.mp e2).1⟩, fun y H' hy => ?_⟩
  obtain ⟨rfl, k', v', e3, rfl⟩ := hy
  rw [e2] at e3
  cases e3
  exact ⟨S, Fr.rfl' _, rv_key k⟩, fun s i hh hi => ⟨hh.1, by rw [List.length_map] at hi; rw [rkv_len hh.2.1]; exact hi⟩⟩⟩
/-- a dict's place, as it is had -/
theorem VR.stk (S : SR E w L st H) (hB : ∀ p, Sod env σ p → B p ≠ none) (h : VR E L0 w st H env σ B v s) (e : cnOf s st = some (.m kvs)) :
    ∃ a ps, v = .ref a ∧ (H a = some (.dK ps) ∨ ∃ o, H a = some (.frz o (.dK ps))) ∧ Rkv E w.ad H ps kvs ∧ StK (stayOf s ++ L0) ⟨w, env, st, σ, H⟩ a ∧ ∀ o ∈ stayOf s, ∀ st', o.live st' → o.live st := by
  have go : ∀ {a : Addr}, CoR E w.ad H a (.m kvs) → ∃ ps, (H a = some (.dK ps) ∨ ∃ o, H a = some (.frz o (.dK ps))) ∧ Rkv E w.ad H ps kvs := fun {a} c => by
    obtain ⟨u, r, q⟩ := c
    cases u <;> try exact q.elim
    rename_i ps
    rcases r with r | ⟨o, r, _⟩
    · exact ⟨ps, .inl r, q⟩
    · exact ⟨ps, .inr ⟨o, r⟩, q⟩
  cases h with
  | @d v x r =>
    cases x <;> try (cases e; done)
    rename_i k
    obtain ⟨a, rfl, e2⟩ := r.ref_of
    change (match st[k]? with | some (.con x) => some x | _ => none) = some (.m kvs) at e
    split at e
    · rename_i x e3
      cases e
      obtain ⟨b, k1, k2⟩ := S.cell _ _ e3
      rw [e2] at k1
      cases k1
      obtain ⟨ps, g1, g2⟩ := go k2
      have hk := (List.getElem?_eq_some_iff.mp e3).1
      exact ⟨a, ps, rfl, g1, g2, .inl ⟨.c k, List.mem_append.mpr (.inl (List.mem_singleton.mpr rfl)), hk, e2⟩, fun o ho st' z => by cases List.mem_singleton.mp ho; exact hk⟩
    · cases e
  | own h1 h2 h3 h4 h5 =>
    cases e
    obtain ⟨ps, g1, g2⟩ := go h1
    exact ⟨_, ps, rfl, g1, g2, .inr (.inr ⟨h3, fun z => hB _ z h4⟩), fun o ho => by cases ho⟩
  | @atS j a x h1 h2 h3 h4 =>
    cases e
    obtain ⟨ps, g1, g2⟩ := go h3
    exact ⟨_, ps, rfl, g1, g2, .inr (.inl ⟨j, _, List.mem_append.mpr (.inl (List.mem_singleton.mpr rfl)), h1, h2⟩), fun o ho st' z => by cases List.mem_singleton.mp ho; exact z.elim⟩
  | @atF i f x h1 h2 =>
    cases e
    obtain ⟨ps, g1, g2⟩ := go h1
    exact ⟨_, ps, rfl, g1, g2, .inl ⟨.f i f, List.mem_append.mpr (.inl (List.mem_singleton.mpr rfl)), h2, rfl⟩, fun o ho st' z => by cases List.mem_singleton.mp ho; exact h2⟩
  | par h1 h2 h3 =>
    cases e
    obtain ⟨ps, g1, g2⟩ := go h1
    refine ⟨_, ps, rfl, g1, g2, ?_, fun o ho => by cases ho⟩
    rcases h2 with h2 | ⟨o, o1, o2, o3⟩
    · exact .inr (.inr ⟨h2, h3⟩)
    · exact .inl ⟨o, o1, o2, o3⟩
  | scr h1 h2 => cases e
end
end Tv
namespace Tv
open PySem L2 PySem.Spec PyProof.Rows
/-- rows, or the keys of a dict -/
def iSeqD (K : PySem.W.Frag) (H0 : Hp) (te : TE) : TI := fun σ H R => iSeqX K te σ H R ∨ iDL Itk H0 te σ H R
theorem pi_either {X : Cx} {tg e : Expr} {t1 t2 : TI} (h1 : PI X tg e t1) (h2 : PI X tg e t2) : PI X tg e (fun σ H R => t1 σ H R ∨ t2 σ H R) := ⟨fun pins s σ H R I h => h.elim (h1.run pins s σ H R I) (h2.run pins s σ H R I)⟩
section
variable {E : En} {xb : XB} {w w0 w1 w2 w' : Wd} {L0 L L' l Lk : List Ow} {st st0 st1 st2 st' : Sto} {H H1 H2 H' B B' J : Hp} {env env0 env1 env' : Env} {σ σ0 σ1 σ' σ2 : L2.St} {v : V} {s : SV} {vs : List V} {ss as : List SV} {j i C : Nat} {p a q : Addr} {P : Prog} {n : Nat} {W : WX} {X : Cx} {ad : List Addr} {x : Cn} {ps : List (Key × V)} {kvs : List (Key × D)} {te tv : TE} {e e1 : Ex} {H0 : Hp} {g : TG} {tb : TS} {t : Tg} {b : Stts} {tt : TT} {k : Tx}
/-- a piece is a dict, or it is none -/
theorem dict_or (c : Cl) (e : Ex) (env : Env) (st : Sto) : (∃ u st1 kvs, ev c e env st = some (.ok u st1) ∧ cnOf u st1 = some (.m kvs)) ∨ ∀ u st1, ev c e env st = some (.ok u st1) → ∀ kvs, cnOf u st1 ≠ some (.m kvs) := by
  by_cases h : ∃ u st1 kvs, ev c e env st = some (.ok u st1) ∧ cnOf u st1 = some (.m kvs)
  · exact .inl h
  · exact .inr fun u st1 h1 kvs h2 => h ⟨u, st1, kvs, h1, h2⟩
theorem Fr.thaw {ob : Obj} {A Bs : Ss} (e : A.H a = some (.dK ps)) (e2 : Bs.H a = some (.frz ob (.dK ps))) (hl : ∀ o ∈ L', o ∈ L) (f : Fr E L ⟨A.w, A.st, upd A.H a (.frz ob (.dK ps))⟩ Bs) : Fr E L' A ⟨Bs.w, Bs.st, upd Bs.H a (.dK ps)⟩ := by
  have none' : ∀ p, upd A.H a (.frz ob (.dK ps)) p = none → A.H p = none := fun p h => by
    have np : p ≠ a := fun y => by subst y; rw [upd_same] at h; cases h
    rw [upd_ne np] at h; exact h
  refine ⟨f.ad, fun b xs z => ?_, fun p o h1 h2 => ?_, fun p h => (f.new p h).imp id (none' p), fun p h => ?_, fun p h => ?_, fun o h1 h2 => ?_⟩
  · have nb : b ≠ a := fun y => by subst y; rw [show A.H b = _ from e] at z; cases z
    show upd Bs.H a (.dK ps) b = _
    rw [upd_ne nb]
    exact f.tm b xs ((upd_ne nb).trans z)
  · show upd Bs.H a (.dK ps) p = some o
    by_cases hp : p = a
    · subst hp; rw [upd_same, ← h1, e]
    · rw [upd_ne hp]; exact f.out p o ((upd_ne hp).trans h1) h2
  · have h' := zad_z (.inr ⟨ob, rfl⟩) (.inl rfl) e2 h
    rcases f.newz p h' with h | h | h
    · exact .inl (zad_z (.inl rfl) (.inr ⟨ob, rfl⟩) e h)
    · exact .inr (.inl h)
    · exact .inr (.inr (none' p h))
  · have np : p ≠ a := fun y => by subst y; have h' : upd Bs.H p (.dK ps) p = none := h; rw [upd_same] at h'; cases h'
    have h' : upd Bs.H a (.dK ps) p = none := h
    rw [upd_ne np] at h'
    exact none' p (f.dom p h')
  · obtain ⟨k1, k2, k3⟩ := f.lk o (hl o h1) h2
    refine ⟨k1, k2, fun p hp => ?_⟩
    show upd Bs.H a (.dK ps) p = A.H p
    by_cases hpa : p = a
    · subst hpa; rw [upd_same, e]
    · rw [upd_ne hpa]; exact (k3 p hp).trans (upd_ne hpa)
theorem lcK {Jt : Addr → Obj → List (Key × V) → L2.It} {f : List (Key × D) → List D} {r : Out SV} {Q : VK} (hJ : Kw E Jt f) (he : SE P n E xb W te e) (hg : TgS E g t) (ht : STe P n E xb WF tt k) (hv : SE P n E xb WF tv e1) (h0 : ∀ o ∈ L0, o ∈ L) (S : SR E w L st H) (R : ER E xb L0 w L st H env σ)
    (h : rb (ev (P.cl (P.call n) L) e env st) (fun u st => match cnOf u st with
      | some (.m kvs) => rb (compL (fun x st => match t.set (wipeE env t.own) x with
        | some env => rb (evT ((P.cl (P.call n) L).lk (stayOf u)) k env st) fun b st => if b then rb (ev ((P.cl (P.call n) L).lk (stayOf u)) e1 env st) fun v st => ok (some v) st else ok none st
        | none => none) (f kvs) [] st) fun xs st => ok (SV.c .own (.l xs)) st
      | _ => none) = some r) (hQ : OkR E W L w st σ H (fun w' st' H' b a => RV E L0 w' st' H' env σ H b a) Q r) : tUnlE H0 (tLc (iDL Jt H0 te) g tt tv t.own) σ H Q := by
  show te σ H fun x H1 => ∃ d kvs, x = .ref d ∧ ((∃ o, H1 d = some (.frz o (.dK kvs)) ∧ ∀ D, H1 D = none → ∃ W : Nat → Nat → Hp → Prop, (∃ m, W 0 m (upd H1 D (.lst []))) ∧ ∀ i m H, W i m H →
    ((Jt d o kvs).stop i H ∧ Unl H0 H (Q (.ref D))) ∨ ((Jt d o kvs).go i H ∧ ∃ Nx : Hp → Prop, (∀ H', Nx H' → ∃ m', m' < m ∧ W (i + 1) m' H') ∧ ∀ x H', (Jt d o kvs).yld i H x H' → g x (wipe σ t.own) H' fun σ2 H2 => wipe σ2 t.own = wipe σ t.own ∧ tt σ2 H2 fun b H3 =>
      if b = true then tv σ2 H3 fun y H4 => ∃ acc, H4 D = some (.lst acc) ∧ acc.length < sizeLine ∧ Nx (upd H4 D (.lst (acc ++ [y]))) else Nx H3)) ∨
    (H1 d = some (.dK kvs) ∧ ∀ o, (∀ o' u', H0 d ≠ some (.frz o' u')) → ∀ D, upd H1 d (.frz o (.dK kvs)) D = none → ∃ W : Nat → Nat → Hp → Prop, (∃ m, W 0 m (upd (upd H1 d (.frz o (.dK kvs))) D (.lst []))) ∧ ∀ i m H, W i m H →
    ((Jt d o kvs).stop i H ∧ Unl H0 H (Q (.ref D))) ∨ ((Jt d o kvs).go i H ∧ ∃ Nx : Hp → Prop, (∀ H', Nx H' → ∃ m', m' < m ∧ W (i + 1) m' H') ∧ ∀ x H', (Jt d o kvs).yld i H x H' → g x (wipe σ t.own) H' fun σ2 H2 => wipe σ2 t.own = wipe σ t.own ∧ tt σ2 H2 fun b H3 =>
      if b = true then tv σ2 H3 fun y H4 => ∃ acc, H4 D = some (.lst acc) ∧ acc.length < sizeLine ∧ Nx (upd H4 D (.lst (acc ++ [y]))) else Nx H3)))
  refine sg_go he h0 S R h hQ fun u st1 w1 H1 x S1 R1 f1 v1 h2 hQ1 => ?_
  split at h2
  · rename_i kvs e1'
    obtain ⟨a, ps, rfl, rd, rk, stk, hl⟩ := VR.stk S1 (sod_base R) v1 e1'
    have hl0 : ∀ o ∈ stayOf u ++ L0, o ∈ stayOf u ++ L := fun o z => (List.mem_append.mp z).elim (fun z => List.mem_append.mpr (.inl z)) fun z => mem_r (h0 o z)
    have hL : ∀ o ∈ L, o ∈ stayOf u ++ L := fun o z => mem_r z
    rcases rd with hdk | ⟨o, hfz⟩
    · refine ⟨a, ps, rfl, .inr ⟨hdk, fun o hn Da hD => ?_⟩⟩
      obtain ⟨S1f, R1f⟩ := frz_ok (ob := o) (L' := stayOf u ++ L) hdk S1 R1 stk hl0 hL
      have stkf : StK (stayOf u ++ L0) ⟨w1, env, st1, σ, upd H1 a (.frz o (.dK ps))⟩ a := stk
      have na : Da ≠ a := fun z => by subst z; rw [upd_same] at hD; cases hD
      have hD1 : H1 Da = none := by rw [upd_ne na] at hD; exact hD
      refine lc_core (j := ⟨f kvs, stayOf u⟩) (Hl := HlK E (stayOf u ++ L0) a o ps kvs) hg ht hv h0 S1f R1f ⟨upd_same, rk.mono (List.prefix_refl _) (tm_z (.inl rfl) hdk), stk⟩ (fun s s' g' z => z.stp g') (hJ.its _ a o ps kvs) h2 hD fun w' st' H' acc av S' g' hDa ra no nz hr => ?_
      subst hr
      have gs := Stp.of R1f g'
      have e2 : H' a = some (.frz o (.dK ps)) := ((stkf.stp (gs.less hl0) (by show upd H1 a _ a ≠ none; rw [upd_same]; intro z; cases z)).2).trans upd_same
      refine .inr ⟨a, o, .dK ps, e2, hn, hQ1 w' _ _ (thaw_ok (A := ⟨w1, env, st1, σ, H1⟩) (b := ⟨w', env, st', σ, H'⟩) hdk e2 S1 R1 hl gs S') (Fr.thaw (A := ⟨w1, st1, H1⟩) (Bs := ⟨w', st', H'⟩) hdk e2 hL g') ?_⟩
      exact .own (co_z (.inr ⟨o, rfl⟩) (.inl rfl) e2 ⟨_, .inl hDa, ra⟩) ⟨_, (upd_ne na).trans hDa, trivial⟩ no (f1.dom _ hD1) fun z => nz (zad_z (.inr ⟨o, rfl⟩) (.inl rfl) e2 z)
    · refine ⟨a, ps, rfl, .inl ⟨o, hfz, fun Da hD => ?_⟩⟩
      refine lc_core (j := ⟨f kvs, stayOf u⟩) (Hl := HlK E (stayOf u ++ L0) a o ps kvs) hg ht hv h0 S1.lkApp (R1.lk hL) ⟨hfz, rk, stk⟩ (fun s s' g' z => z.stp g') (hJ.its _ a o ps kvs) h2 hD fun w' st' H' acc av S' g' hDa ra no nz hr => .inl ?_
      subst hr
      exact hQ1 w' H' _ (S1.unlk g' S' hl) (g'.less hL) (.own ⟨_, .inl hDa, ra⟩ ⟨_, hDa, trivial⟩ no (f1.dom _ hD) nz)
  · cases h2
theorem rb_dict {c : Cl} {K : Ito → Sto → Res SV} {u : SV} {st1 : Sto} (e1 : ev c e env st = some (.ok u st1)) (e2 : cnOf u st1 = some (.m kvs)) : rb (rb (ev c e env st) fun u st => itSeq u st) K = K ⟨kvs.map fun p => keyD p.1, stayOf u⟩ st1 := by
  rw [e1]
  show rb (itSeq u st1) K = _
  have e3 : itSeq u st1 = some (.ok ⟨kvs.map fun p => keyD p.1, stayOf u⟩ st1) := by
    unfold itSeq
    have e4 : rowOf u st1 = none := by
      unfold rowOf
      split
      · cases e2
      · rw [e2]
    rw [e4, e2]
  rw [e3]
  rfl
theorem itRow_of {c : Cl} (nd : ∀ u st1, ev c e env st = some (.ok u st1) → ∀ kvs, cnOf u st1 ≠ some (.m kvs)) (r' : Out Ito) (hr' : rb (ev c e env st) (fun u st => itSeq u st) = some r') : rb (ev c e env st) (fun u st => itRow u st) = some r' := by
  cases e1 : ev c e env st with
  | none => rw [e1] at hr'; cases hr'
  | some o =>
    rw [e1] at hr'
    cases o with
    | ex y st1 => exact hr'
    | ok u st1 =>
      have hr2 : itSeq u st1 = some r' := hr'
      show itRow u st1 = some r'
      cases r' with
      | ok j st2 => exact itSeq_row (nd u st1 e1) hr2
      | ex y st2 =>
        unfold itSeq at hr2
        split at hr2
        · cases hr2
        · split at hr2 <;> cases hr2
theorem se_lcS {own : List Nat} (he : SE P n E xb W te e) (hg : TgS E g t) (ht : STe P n E xb WF tt k) (hv : SE P n E xb WF tv e1) (ho : own = t.own) : SE P n E xb W (tUnlE H0 (tLc (iSeqD E.K H0 te) g tt tv own)) (.lc t (.seq e) k e1) := by
  subst ho
  intro L0 L w env st σ H h0 S R r h Q hQ
  have h' : rb (rb (ev (P.cl (P.call n) L) e env st) fun u st => itSeq u st) (fun j st => rb (compL (fun x st => match t.set (wipeE env t.own) x with
        | some env => rb (evT ((P.cl (P.call n) L).lk j.locks) k env st) fun b st => if b then rb (ev ((P.cl (P.call n) L).lk j.locks) e1 env st) fun v st => ok (some v) st else ok none st
        | none => none) j.xs [] st) fun xs st => ok (SV.c .own (.l xs)) st) = some r := h
  rcases dict_or (P.cl (P.call n) L) e env st with ⟨u, st1, kvs, e1', e2⟩ | nd
  · refine .inr (lcK kw_keys he hg ht hv h0 S R ?_ hQ)
    rw [rb_dict e1' e2] at h'
    rw [e1']
    show (match cnOf u st1 with
      | some (.m kvs) => rb (compL (fun x st => match t.set (wipeE env t.own) x with
        | some env => rb (evT ((P.cl (P.call n) L).lk (stayOf u)) k env st) fun b st => if b then rb (ev ((P.cl (P.call n) L).lk (stayOf u)) e1 env st) fun v st => ok (some v) st else ok none st
        | none => none) (kvs.map fun p => keyD p.1) [] st1) fun xs st => ok (SV.c .own (.l xs)) st
      | _ => none) = some r
    rw [e2]
    exact h'
  · refine .inl ?_
    cases er : rb (ev (P.cl (P.call n) L) e env st) (fun u st => itSeq u st) with
    | none => rw [er] at h'; cases h'
    | some r' =>
      refine si_row he L0 L w env st σ H h0 S R r' (itRow_of nd r' er) _ ?_
      rw [er] at h'
      cases r' with
      | ex y st1 =>
        cases (show some (Out.ex y st1) = some r from h')
        exact fun w1 H1 cls d S1 f1 yr => hQ w1 H1 cls d S1 f1 yr
      | ok j st1 =>
        intro w1 H1 J S1 f1 v1 Da hD
        obtain ⟨hl, Hl, hh, hst, its⟩ := v1
        have R1 := R.fr S h0 f1
        refine lc_core hg ht hv h0 S1.lkApp (R1.lk fun o z => mem_r z) hh hst its h' hD fun w' st' H' acc av S' g' hDa ra no nz hr => .inl ?_
        subst hr
        exact hQ w' H' _ (S1.unlk g' S' hl) (f1.tr (g'.less fun o z => mem_r z)) (.own ⟨_, .inl hDa, ra⟩ ⟨_, hDa, trivial⟩ no (f1.dom _ hD) nz)
end
section
variable {X : Cx} {g : Gm} {tg pa pe iter : Expr} {a e1 : Ex} {ta tv : TE} {t1 : Tg} {gt : TG} {xs : Stts} {sa : List Stmt} {sta : TS} {pos cpos apos : Pos} {it : Tv.It} {t : Tx} {tt : TT} {scope : Scope} {own : List (Str × Nat)} {elt : Expr} {ifs : List Expr}
def tAllE (t : Hp → TE) : TE := fun σ H Q => ∀ H0, t H0 σ H Q
/-- what is walked, and how a comprehension over it goes -/
structure Dic (X : Cx) (g : Gm) (tg pe : Expr) (it : Tv.It) (wi : Hp → TI) : Prop where
  p : PI X tg pe (wi X.H_0)
  s : ∀ (H0 : Hp) {t1 : Tg} {gt : TG} {t : Tx} {tt : TT} {e1 : Ex} {tv : TE} {own : List Nat}, TgS g.E gt t1 → STe g.P g.n g.E g.xb WF tt t → SE g.P g.n g.E g.xb WF tv e1 → own = t1.own → SE g.P g.n g.E g.xb g.W (tUnlE H0 (tLc (wi H0) gt tt tv own)) (.lc t1 it t e1)
theorem dic_seq (hK : X.K = g.E.K) (h : De X g pa a ta) : Dic X g tg pa (.seq a) (fun H0 => iSeqD g.E.K H0 ta) := ⟨pi_either (hK ▸ pi_X h.p) (pi_keysL h.p), fun H0 _ _ _ _ _ _ _ hg ht hv ho => se_lcS h.s hg ht hv ho⟩
/-- any other -/
theorem se_unlE {P : Prog} {n : Nat} {E : En} {xb : XB} {W : WX} {te : TE} {e : Ex} {H0 : Hp} (h : SE P n E xb W te e) : SE P n E xb W (tUnlE H0 te) e := by
  intro L0 L w env st σ H h0 S R r h2 Q hQ
  refine h L0 L w env st σ H h0 S R r h2 _ ?_
  cases r with
  | ok a st1 => exact fun w' H' b S' f' r' => .inl (hQ w' H' b S' f' r')
  | ex y st1 => exact hQ
theorem dic_of {wi : TI} (h : Di X g tg pe it wi) : Dic X g tg pe it (fun _ => wi) := ⟨h.p, fun H0 _ _ _ _ _ _ _ hg ht hv ho => se_unlE (se_lc h.s hg ht hv ho)⟩
theorem pe_all {t : Hp → TE} {e : Expr} (h : PE X e (t X.H_0)) : PE X e (tAllE t) := ⟨fun pins s σ H Q I hw => h.run pins s σ H Q I (hw _)⟩
theorem se_all {t : Hp → TE} {P : Prog} {n : Nat} {E : En} {xb : XB} {W : WX} {e : Ex} (h : ∀ H0, SE P n E xb W (t H0) e) : SE P n E xb W (tAllE t) e := fun L0 L w env st σ H h0 S R r h2 Q hQ H0 => h H0 L0 L w env st σ H h0 S R r h2 Q hQ
theorem de_lcD {wi : Hp → TI} (hc : X.calm = true) (hN : X.N.Nodup) (ok : BlkOk X.N X.env.scope scope own) (hi : Dic X g tg iter it wi)
    (hg : ∀ (s : Shared) (H : Hp) (C : Addr) (cl : List (Str × Addr)) (fp : List Addr), Dg (X.blk s H scope (compEnvC scope cl C X.env) fp) g.inC tg t1 gt)
    (ht : ∀ (s : Shared) (H : Hp) (C : Addr) (cl : List (Str × Addr)) (fp : List Addr), Dts (X.blk s H scope (compEnvC scope cl C X.env) fp) g.inC ifs t tt)
    (he : ∀ (s : Shared) (H : Hp) (C : Addr) (cl : List (Str × Addr)) (fp : List Addr), De (X.blk s H scope (compEnvC scope cl C X.env) fp) g.inC elt e1 tv) (ho : own.map (·.2) = t1.own) (hs : ∀ x, foldedSetIterable iter X.env x = pure x := by intro _; rfl) :
    De X g (.ListComp elt [⟨tg, iter, ifs, 0⟩] scope pos) (.lc t1 it t e1) (tAllE fun H0 => tUnlE H0 (tLc (wi H0) gt tt tv (own.map (·.2)))) :=
  ⟨pe_all (pe_unl (pe_lc hc hN hi.p ok (fun s H C cl fp => (hg s H C cl fp).p) (fun s H C cl fp => (ht s H C cl fp).p) (fun s H C cl fp => (he s H C cl fp).p) hs)),
   se_all fun H0 => hi.s H0 (hg (PySem.start X.prog).1 (fun _ => none) 0 [] []).s (ht (PySem.start X.prog).1 (fun _ => none) 0 [] []).s (he (PySem.start X.prog).1 (fun _ => none) 0 [] []).s ho⟩
end
end Tv
namespace Tv
open PySem L2 PySem.Spec PyProof.Rows
end Tv
namespace Tv
open PySem L2 PySem.Spec PyProof.Rows
end Tv
namespace Tv
open PySem L2 PySem.Spec PyProof.Rows PySem.W
end Tv
namespace Tv
open PySem L2 PySem.Spec PyProof.Rows
end Tv
namespace Tv
open PySem L2 PySem.Spec PyProof.Rows
end Tv
namespace Tv
open PySem L2 PySem.Spec PyProof.Rows
end Tv
namespace Tv
open PySem L2 PySem.Spec PyProof.Rows
abbrev Clause := Value × (Addr → Value → Option Addr → TS)
section
variable {E : En} {xb : XB} {w w1 : Wd} {L0 L : List Ow} {st st1 : Sto} {H H1 : Hp} {env env1 : Env} {σ σ1 : L2.St} {P : Prog} {n : Nat} {W : WX}
/-- clauses and what they are read as -/
inductive HdS (P : Prog) (n : Nat) (E : En) (xb : XB) : Hds → List Clause → Prop
  | nil : HdS P n E xb .nil []
  | cons {C : Nat} {b : Stts} {hs : Hds} {ts : Addr → Value → Option Addr → TS} {l : List Clause} (hb : ∀ a cls d, SSs P n E xb WF (ts a cls d) b) (r : HdS P n E xb hs l) : HdS P n E xb (.cons C b hs) ((.ref (E.exc C), ts) :: l)
end
inductive Dhs (X : Cx) (g : Gm) : List ExceptHandler → Hds → List Clause → Prop
  | nil : Dhs X g [] .nil []
  | cons {x : Str} {C : Nat} {b₀ : Stmt} {suite : List Stmt} {b : Stts} {np pos' : Pos} {hds : List ExceptHandler} {hs : Hds} {ts : Addr → Value → Option Addr → TS} {l : List Clause} (hc : Names X x (.ref (g.E.exc C)))
      (hb : ∀ (a : Addr) (oe : Obj) (cls : Value) (d : Option Addr) (pn : List (Addr × Obj)), Zc cls d oe → (∃ vs, oe.data = .fields vs) → Dss (X.suite a ((a, oe) :: pn)) g.inC (b₀ :: suite) b (ts a cls d))
      (r : Dhs X g hds hs l) :
      Dhs X g (.ExceptHandler (some (.Name x np)) none (b₀ :: suite) pos' :: hds) (.cons C b hs) ((.ref (g.E.exc C), ts) :: l)
theorem Dhs.p {X : Cx} {g : Gm} {hds : List ExceptHandler} {hs : Hds} {l : List Clause} (h : Dhs X g hds hs l) : HdsOk X hds l := by
  induction h with
  | nil => exact .nil
  | cons hc hb r ih => exact .cons hc (fun a oe cls d pn z f => (hb a oe cls d pn z f).p) ih
theorem Dhs.s {X : Cx} {g : Gm} {hds : List ExceptHandler} {hs : Hds} {l : List Clause} (h : Dhs X g hds hs l) : HdS g.P g.n g.E g.xb hs l := by
  induction h with
  | nil => exact .nil
  | cons hc hb r ih => exact .cons (fun a cls d => (hb a { cls := cls, dict := d, data := .fields #[] } cls d [] ⟨rfl, rfl⟩ ⟨_, rfl⟩).s) ih
end Tv
namespace Tv
open PySem L2 PySem.Spec PyProof.Rows
inductive Clauses (X : Cx) (n : Str) : List ExceptHandler → List Clause → Prop
  | nil : Clauses X n [] []
  | cons {x : Str} {c : Value} {ts : Addr → Value → Option Addr → TS} {b : Stmt} {bs : List Stmt} {p q : Pos} {hs : List ExceptHandler} {l : List Clause} (hc : Names X x c)
      (su : ∀ (a : Addr) (oe : Obj) (cls : Value) (d : Option Addr) (pn : List (Addr × Obj)), Zc cls d oe → (∃ vs, oe.data = .fields vs) → PSs (X.suite a ((a, oe) :: pn)) (b :: bs) (ts a cls d)) (r : Clauses X n hs l) :
      Clauses X n (.ExceptHandler (some (.Name x p)) (some n) (b :: bs) q :: hs) ((c, ts) :: l)
section
variable {E : En} {xb : XB} {w w1 : Wd} {L0 L : List Ow} {st st1 : Sto} {H H1 : Hp} {env env1 : Env} {σ σ1 : L2.St} {P : Prog} {n i : Nat} {W : WX}
/-- slot i holds the error -/
def xbN (xb : XB) (i : Nat) (a : Addr) (cls : Value) (d : Option Addr) : XB := fun j => if j = i then some (a, cls, d) else xb j
inductive HdN (P : Prog) (n : Nat) (E : En) (xb : XB) (i : Nat) : Hds → List Clause → Prop
  | nil : HdN P n E xb i .nil []
  | cons {C : Nat} {b : Stts} {hs : Hds} {ts : Addr → Value → Option Addr → TS} {l : List Clause} (hb : ∀ a cls d, SSs P n E (xbN xb i a cls d) WF (ts a cls d) b) (r : HdN P n E xb i hs l) : HdN P n E xb i (.cons C b hs) ((.ref (E.exc C), ts) :: l)
end
inductive Dhn (X : Cx) (g : Gm) (y : Str) (i : Nat) : List ExceptHandler → Hds → List Clause → Prop
  | nil : Dhn X g y i [] .nil []
  | cons {x : Str} {C : Nat} {b₀ : Stmt} {suite : List Stmt} {b : Stts} {np pos' : Pos} {hds : List ExceptHandler} {hs : Hds} {ts : Addr → Value → Option Addr → TS} {l : List Clause} (hc : Names X x (.ref (g.E.exc C)))
      (hb : ∀ (a : Addr) (oe : Obj) (cls : Value) (d : Option Addr) (pn : List (Addr × Obj)), Zc cls d oe → (∃ vs, oe.data = .fields vs) → Dss (X.suite a ((a, oe) :: pn)) { g with xb := xbN g.xb i a cls d, W := WF } (b₀ :: suite) b (ts a cls d))
      (r : Dhn X g y i hds hs l) :
      Dhn X g y i (.ExceptHandler (some (.Name x np)) (some y) (b₀ :: suite) pos' :: hds) (.cons C b hs) ((.ref (g.E.exc C), ts) :: l)
theorem Dhn.p {X : Cx} {g : Gm} {y : Str} {i : Nat} {hds : List ExceptHandler} {hs : Hds} {l : List Clause} (h : Dhn X g y i hds hs l) : Clauses X y hds l := by
  induction h with
  | nil => exact .nil
  | cons hc hb r ih => exact .cons hc (fun a oe cls d pn z f => (hb a oe cls d pn z f).p) ih
theorem Dhn.s {X : Cx} {g : Gm} {y : Str} {i : Nat} {hds : List ExceptHandler} {hs : Hds} {l : List Clause} (h : Dhn X g y i hds hs l) : HdN g.P g.n g.E g.xb i hs l := by
  induction h with
  | nil => exact .nil
  | cons hc hb r ih => exact .cons (fun a cls d => (hb a { cls := cls, dict := d, data := .fields #[] } cls d [] ⟨rfl, rfl⟩ ⟨_, rfl⟩).s) ih
end Tv
namespace Tv
open PySem L2 PySem.Spec PyProof.Rows
section
variable {E : En} {xb : XB} {w w0 w1 w2 : Wd} {L0 L L' l Lk : List Ow} {st st0 st1 st2 : Sto} {H H1 H2 B B' : Hp} {env env1 env' : Env} {σ σ1 σ' σ2 : L2.St} {v : V} {s : SV} {vs : List V} {ss : List SV} {j i : Nat} {p : Addr} {P : Prog} {n : Nat} {W : WX} {X : Cx} {a b d : Fs} {c : Ss} {q : Addr}
/-- the members of the set are the ints met -/
def KsZ (S : Int → Bool) (c : Nat) (acc : List Int) : Prop := (∀ k, S k = decide (k ∈ acc)) ∧ c = acc.length
theorem KsZ.put {S : Int → Bool} {c : Nat} {acc : List Int} {k : Int} (h : KsZ S c acc) : KsZ (fun j => S j || decide (j = k)) (if S k = true then c else c + 1) (putZ acc k) := by
  obtain ⟨h1, h2⟩ := h
  unfold putZ
  by_cases m : k ∈ acc
  · rw [if_pos m, if_pos (by rw [h1]; exact decide_eq_true m)]
    refine ⟨fun j => ?_, h2⟩
    show (S j || decide (j = k)) = decide (j ∈ acc)
    rw [h1]
    by_cases e : j = k
    · subst e; simp [m]
    · simp [e]
  · rw [if_neg m, if_neg (by rw [h1]; simpa using m)]
    refine ⟨fun j => ?_, by rw [List.length_append, h2]; rfl⟩
    show (S j || decide (j = k)) = decide (j ∈ acc ++ [k])
    rw [h1]
    simp
end
end Tv
namespace Tv
open PySem L2 PySem.Spec PyProof.Rows
end Tv
namespace Tv
open PySem L2 PySem.Spec PyProof.Rows
section
variable {P : Prog} {n : Nat} {E : En} {xb : XB} {W : WX}
theorem ss_while {tt : TT} {tb : TS} {t : Tx} {b : Stts} (ht : STe P n E xb W tt t) (hb : SSs P n E xb W tb b) : SS P n E xb W (tWhile tt tb) (.while_ t b) := by
  intro L0 L w env st σ H h0 S R r h D hD
  show ∃ U : Nat → L2.St → Hp → Prop, (∃ m, U m σ H) ∧ ∀ m σ H, U m σ H →
    tt σ H fun b H1 => if b = true then ∃ N : L2.St → Hp → Prop, (∀ σ' H', N σ' H' → ∃ m', m' < m ∧ U m' σ' H') ∧ tb { D with nx := N, ct := N, bk := D.nx } σ H1 else D.nx σ H1
  have h' : whileL (evT (P.cl (P.call n) L) t) (execs (P.cl (P.call n) L) b) 100000000 env st = some r := h
  clear h
  generalize 100000000 = m0 at h'
  let U : Nat → L2.St → Hp → Prop := fun m σ' H' => ∃ (w' : Wd) (env' : Env) (st' : Sto), SR E w' L st' H' ∧ ER E xb L0 w' L st' H' env' σ' ∧ Stp E L ⟨w, env, st, σ, H⟩ ⟨w', env', st', σ', H'⟩ ∧ whileL (evT (P.cl (P.call n) L) t) (execs (P.cl (P.call n) L) b) m env' st' = some r
  refine ⟨U, ⟨m0, w, env, st, S, R, Stp.rfl' _, h'⟩, ?_⟩
  rintro m σ' H' ⟨w', env', st', S', R', g', hw⟩
  cases m with
  | zero => cases (show (none : Option SO) = some r from hw)
  | succ m =>
    have hw2 : sb (evT (P.cl (P.call n) L) t env' st') env' (fun b' st => if b' then
      match execs (P.cl (P.call n) L) b env' st with
      | some (.nx env st) => whileL (evT (P.cl (P.call n) L) t) (execs (P.cl (P.call n) L) b) m env st
      | some (.ct env st) => whileL (evT (P.cl (P.call n) L) t) (execs (P.cl (P.call n) L) b) m env st
      | some (.bk env st) => some (.nx env st)
      | r => r
    else some (.nx env' st)) = some r := hw
    refine sb_go ht h0 S' R' hw2 (hD.from g') fun u st1 w1 H1 x S1 R1 f1 v1 h2 hD2 => ?_
    subst v1
    cases x with
    | false =>
      rw [if_neg Bool.false_ne_true]
      cases (show some (SO.nx env' st1) = some r from h2)
      exact hD2 w1 σ' H1 S1 R1 (Stp.rfl' _)
    | true =>
      rw [if_pos rfl]
      have h3 : (match execs (P.cl (P.call n) L) b env' st1 with
      | some (.nx env st) => whileL (evT (P.cl (P.call n) L) t) (execs (P.cl (P.call n) L) b) m env st
      | some (.ct env st) => whileL (evT (P.cl (P.call n) L) t) (execs (P.cl (P.call n) L) b) m env st
      | some (.bk env st) => some (.nx env st)
      | r => r) = some r := h2
      have g1 := g'.tr (Stp.of R' f1)
      refine ⟨fun σ2 H2 => ∃ m', m' < m + 1 ∧ U m' σ2 H2, fun _ _ z => z, ?_⟩
      cases e : execs (P.cl (P.call n) L) b env' st1 with
      | none => rw [e] at h3; cases h3
      | some o =>
        rw [e] at h3
        refine hb L0 L w1 env' st1 σ' H1 h0 S1 R1 o e _ ?_
        cases o with
        | nx env2 st2 => exact fun w2 σ2 H2 S2 R2 g2 => ⟨m, Nat.lt_succ_self m, w2, env2, st2, S2, R2, g1.tr g2, h3⟩
        | ct env2 st2 => exact fun w2 σ2 H2 S2 R2 g2 => ⟨m, Nat.lt_succ_self m, w2, env2, st2, S2, R2, g1.tr g2, h3⟩
        | bk env2 st2 =>
          cases h3
          exact fun w2 σ2 H2 S2 R2 g2 => hD2 w2 σ2 H2 S2 R2 g2
        | rt v st2 => cases h3; exact hD2
        | ex y env2 st2 => cases h3; exact hD2
def VSp (P : Prog) (E : En) (n : Nat) (fs : List Nat) (a : Addr) (sp : Sp) : Prop := ∃ j, j ∈ fs ∧ a = E.fn j ∧ sp = spT P E n j
end
section
variable {X : Cx} {CX : CXT} {k i : Nat} {S : Addr → Sp → Prop} {E : L2.St → XK} {x : Str} {p pos : Pos} {e : Expr} {es : List Expr} {t : TA}
structure HeldX (P : Program) (w : World) (K : PySem.W.Frag) (mg : Str → Option Value) (base : Heap) (k : Nat) (f : Addr) (sp : Sp) : Prop where
  ex : ∃ (fd : FuncData) (ps : List Str), FnOk P w K mg base (L2.CX P w) k f fd ps sp ∧ PySem.W.keepIn K (.ref f) = true ∧ Binds K fd ps []
end
end Tv
namespace Tv
open PySem L2 PySem.Spec PyProof.Rows
section
variable {X : Cx} {g : Gm} {po pa pc pi : Expr} {a i : Ex} {t : Tx} {ta to ti : TE} {tt : TT} {sa : List Stmt} {xs : Stts} {sta : TS} {pos apos cpos : Pos} {p : Pl}
theorem ds_while (hp : PassesOwn (model X.prog X.w) X.A X.env X.xe) (h : Dt X g pc t tt) (hb : Dss X g sa xs sta) : Ds X g (.While pc sa [] pos) (.while_ t xs) (tWhile tt sta) := ⟨ps_while hp h.p hb.p, ss_while h.s hb.s⟩
end
end Tv
namespace Tv
open PySem L2 PySem.Spec PyProof.Rows
end Tv
namespace Tv
open PySem L2 PySem.Spec PyProof.Rows
end Tv
namespace Tv
open PySem L2 PySem.Spec PyProof.Rows
/-- each row of a dict of the module stands in the heap -/
def TabOk (K : PySem.W.Frag) (w : World) (E : En) (d : Addr) : List (Str × D) → Prop
  | [] => True
  | (k, dv) :: r => (∃ v, KDct K w d k v ∧ ∀ ad H, Rv E ad H v dv) ∧ TabOk K w E d r
theorem TabOk.get {K : PySem.W.Frag} {w : World} {E : En} {d : Addr} : ∀ {tb : List (Str × D)}, TabOk K w E d tb → ∀ k dv, tb.lookup k = some dv → ∃ v, KDct K w d k v ∧ ∀ ad H, Rv E ad H v dv
  | [], _, k, dv, e => by cases e
  | (k', dv') :: r, h, k, dv, e => by
    rw [List.lookup_cons] at e
    by_cases hk : k == k'
    · rw [hk] at e
      have hk' : k = k' := by simpa using hk
      cases e
      rw [hk']
      exact h.1
    · rw [Bool.not_eq_true] at hk
      rw [hk] at e
      exact h.2.get k dv e
/-- each of these defs is there -/
def HeldL (P : Program) (w : World) (K : PySem.W.Frag) (mg : Str → Option Value) (base : Heap) (k : Nat) (pr : Prog) (E : En) (n : Nat) : List Nat → Prop
  | [] => True
  | j :: r => HeldX P w K mg base k (E.fn j) (spT pr E n j) ∧ HeldL P w K mg base k pr E n r
theorem HeldL.get {P : Program} {w : World} {K : PySem.W.Frag} {mg : Str → Option Value} {base : Heap} {k : Nat} {pr : Prog} {E : En} {n : Nat} : ∀ {fs : List Nat}, HeldL P w K mg base k pr E n fs → ∀ f sp, VSp pr E n fs f sp → HeldX P w K mg base k f sp
  | [], _, f, sp, ⟨j, hj, _⟩ => by cases hj
  | j :: r, h, f, sp, ⟨i, hi, e1, e2⟩ => by
    rcases List.mem_cons.mp hi with rfl | hi
    · subst e1 e2
      exact h.1
    · exact h.2.get f sp ⟨i, hi, e1, e2⟩
end Tv
namespace Tv
open PySem L2 PySem.Spec PyProof.Rows PySem.W
section
variable {E : En} {xb : XB} {w : Wd} {L L' L0 : List Ow} {st : Sto} {H J B : Hp} {env : Env} {σ : L2.St}
/-- all that stands in H stands in J -/
def Ext (H J : Hp) : Prop := ∀ b o, H b = some o → J b = some o
theorem Ext.eq (h : Ext H J) {b : Addr} (hb : H b ≠ none) : J b = H b := by
  cases e : H b with
  | none => exact absurd e hb
  | some o => exact h b o e
theorem tm_ext (h : Ext H J) : Tm E.K H J := fun a xs z => h _ _ z
theorem SR.ext (S : SR E w L st H) (h : Ext H J) : SR E w L st J := by
  refine ⟨S.len, S.inj, fun k x e => ?_, fun q a h1 h2 h3 => ?_, S.nd⟩
  · obtain ⟨a, e1, hc⟩ := S.cell k x e
    refine ⟨a, e1, CeR.of S (tm_ext h) (fun b hb => h.eq ?_) (List.getElem?_eq_some_iff.mp e).1 e1 hc e⟩
    rcases hb with hb | ⟨u, hb, _⟩
    · exact fun z => S.nowd z hb
    · rw [hb]; intro z; cases z
  · obtain ⟨u, e, m⟩ := S.ex q a h1 h2 h3
    exact ⟨u, h _ _ e, m⟩
theorem zad_ext {b : Addr} (S : SR E w L st H) (h : Ext H J) (z : Zad w st J b) : Zad w st H b := by
  obtain ⟨k, c', C, fs, c, dx, fv, f, x, m, h1, h2, h3, h4, h5⟩ := z
  have hb : Owd w st c' := ⟨.c k, (List.getElem?_eq_some_iff.mp h1).1, h2⟩
  exact ⟨k, c', C, fs, c, dx, fv, f, x, m, h1, h2, by rw [← h3]; exact (h.eq fun q => S.nowd q hb).symm, h4, h5⟩
theorem Fr.ext (S : SR E w L' st H) (h : Ext H J) : Fr E L ⟨w, st, H⟩ ⟨w, st, J⟩ := by
  refine ⟨List.prefix_refl _, tm_ext h, fun a u e _ => h _ _ e, fun a q => .inl q, fun a q => .inl (zad_ext S h q), fun a q => ?_, fun q hq hl => ⟨hl, rfl, fun a e => h.eq fun z => S.nowd z ⟨q, hl, e⟩⟩⟩
  have q' : J a = none := q
  show H a = none
  cases e : H a with
  | none => rfl
  | some o => rw [h _ _ e] at q'; cases q'
end
end Tv
namespace Tv
open PySem L2 PySem.Spec PyProof.Rows PySem.W
end Tv
namespace Tv
open PySem L2 PySem.Spec PyProof.Rows
section
variable {E : En} {xb : XB} {w w1 w2 w' : Wd} {L0 L L' : List Ow} {st st1 st2 st' : Sto} {H H1 H2 H' J : Hp} {env : Env} {σ : L2.St} {v : V} {j i k C : Nat} {p a b q : Addr} {P : Prog} {n : Nat} {W : WX} {f g : Str} {fs gs : List (Str × FV)} {y : FV} {x : Cn} {zb : Bool}
theorem FsR.names {i : Nat} : ∀ {fv : List (Str × V)} {fs : List (Str × FV)}, FsR E w st H i fv fs → fv.map (·.1) = fs.map (·.1)
  | _, _, .nil => rfl
  | _, _, .cons _ t => by rw [List.map_cons, List.map_cons, FsR.names t]
variable {D : Ends} {te tw : TE} {e e1 : Ex} {X : Cx} {gm : Gm} {po pw : Expr} {pos pos' pos2 : Pos} {o ew : Ex}
end
end Tv
namespace Tv
open PySem L2 PySem.Spec PyProof.Rows
end Tv
namespace Tv
open PySem L2 PySem.Spec PyProof.Rows
end Tv
namespace Tv
open PySem L2 PySem.Spec PyProof.Rows
end Tv
namespace Tv
open PySem L2 PySem.Spec PyProof.Rows
end Tv
namespace Tv
open PySem L2 PySem.Spec PyProof.Rows
section
variable {E : En} {xb : XB} {w w1 : Wd} {L0 L : List Ow} {st st1 : Sto} {H H1 B : Hp} {env env1 : Env} {σ σ1 : L2.St} {P : Prog} {n i : Nat} {W : WX} {ad : List Addr}
theorem strs_rv : ∀ {xs : List D} {ys : List Str} {vs : List V}, strsOf xs = some ys → RvA E ad H vs xs → vs = ys.map V.str
  | [], _, _, h, r => by
    cases h
    cases r
    rfl
  | .str x :: t, ys, vs, h, r => by
    obtain ⟨zs, e, rfl⟩ := Option.map_eq_some_iff.mp (show (strsOf t).map (x :: ·) = some ys from h)
    cases r with
    | cons a b => rw [a.str_of, strs_rv e b]; rfl
  | .non :: _, _, _, h, _ => by cases h
  | .bl _ :: _, _, _, h, _ => by cases h
  | .int _ :: _, _, _, h, _ => by cases h
  | .tup _ :: _, _, _, h, _ => by cases h
  | .ref _ :: _, _, _, h, _ => by cases h
  | .fn _ :: _, _, _, h, _ => by cases h
def rJoinX (K : PySem.W.Frag) : V → List V → Hp → VK → Prop := fun x xs H Q =>
  ∃ a p, ∃ ys : List Str, x = .str a ∧ xs = [.ref p] ∧ (SqL K H p (ys.map V.str) ∨ SqT K H p (ys.map V.str)) ∧ (ys.map (·.length)).sum + ys.length * a.length ≤ 16777216 ∧ Q (.str (Txt.join a ys)) H
def rTxt (f : Str → Str → V) (C : Str → Prop) : V → List V → Hp → VK → Prop := fun x xs H Q => ∃ a b, x = .str a ∧ xs = [.str b] ∧ C a ∧ Q (f a b) H
theorem txt_inv {u : SV} (h : isTxt u = true) : ∃ s, u = .d (.str s) := by
  cases u with
  | d x =>
    cases x with
    | str s => exact ⟨s, rfl⟩
    | _ => cases h
  | c _ _ => cases h
  | x _ => cases h
/-- a method of texts with one argument, a text -/
theorem se_txt1 {m : Bm} {C : Str → Prop} [DecidablePred C] {f : Str → Str → V} {d : Str → Str → D} {a e : Ex} {ta tx : TE} (hm : ∀ u st, bmPre m u st = isTxt u) (hf : ∀ s b st, bmf m (.d (.str s)) [.d (.str b)] st = if C s then ok (.d (d s b)) st else none) (hn : ∀ s u st r, bmf m (.d (.str s)) [u] st = some r → ∃ b, u = .d (.str b))
    (hg : ∀ s b (ad : List Addr) (H : Hp), Rv E ad H (f s b) (d s b)) (ha : SE P n E xb W ta a) (hx : SE P n E xb W tx e) : SE P n E xb W (tBM E.K "str" (rTxt f C) ta (tCons tx tNil)) (.bm m a (.cons e .nil)) := by
  intro L0 L w env st σ H h0 S R r h Q hQ
  show ta σ H fun x H1 => tyV E.K "str" x H1 ∧ tx σ H1 fun y H2 => rTxt f C x [y] H2 Q
  refine sg_go ha h0 S R h hQ fun u st1 w1 H1 x S1 R1 f1 v1 hA hQ1 => ?_
  rw [hm] at hA
  split at hA
  · rename_i ht
    obtain ⟨s, rfl⟩ := txt_inv ht
    obtain rfl := v1.str
    refine ⟨rfl, ?_⟩
    have h3 : rb (ev (P.cl (P.call n) L) e env st1) (fun u st => bmf m (.d (.str s)) [u] st) = some r := by
      have hA' : rb (rb (ev (P.cl (P.call n) L) e env st1) fun u st => rb (ok [] st) fun us st => ok (u :: us) st) (fun as st => bmf m (.d (.str s)) as st) = some r := hA
      cases e1 : ev (P.cl (P.call n) L) e env st1 with
      | none => rw [e1] at hA'; cases hA'
      | some o => rw [e1] at hA'; cases o <;> exact hA'
    refine sg_go hx h0 S1 R1 h3 hQ1 fun u2 st2 w2 H2 y S2 R2 f2 v2 hB hQ2 => ?_
    obtain ⟨b, rfl⟩ := hn _ _ _ _ hB
    rw [hf] at hB
    split at hB
    · rename_i hC
      cases ok_inj hB
      obtain rfl := v2.str
      exact ⟨s, b, rfl, rfl, hC, okr_now hQ2 S2 (.d (hg s b _ _))⟩
    · cases hB
  · cases hA
theorem se_join {a e : Ex} {ta tx : TE} (ha : SE P n E xb W ta a) (hx : SE P n E xb W tx e) : SE P n E xb W (tBM E.K "str" (rJoinX E.K) ta (tCons tx tNil)) (.bm .join a (.cons e .nil)) := by
  intro L0 L w env st σ H h0 S R r h Q hQ
  show ta σ H fun x H1 => tyV E.K "str" x H1 ∧ tx σ H1 fun y H2 => rJoinX E.K x [y] H2 Q
  refine sg_go ha h0 S R h hQ fun u st1 w1 H1 x S1 R1 f1 v1 hA hQ1 => ?_
  have hA0 : (if isTxt u = true then rb (evs ((P.cl (P.call n) L).lk (lockOf u)) (.cons e .nil) env st1) (fun as st => bmf .join u as st) else none) = some r := hA
  split at hA0
  · rename_i ht
    obtain ⟨s, rfl⟩ := txt_inv ht
    obtain rfl := v1.str
    refine ⟨rfl, ?_⟩
    have h3 : rb (ev (P.cl (P.call n) L) e env st1) (fun u st => bmf .join (.d (.str s)) [u] st) = some r := by
      have hA' : rb (rb (ev (P.cl (P.call n) L) e env st1) fun u st => rb (ok [] st) fun us st => ok (u :: us) st) (fun as st => bmf .join (.d (.str s)) as st) = some r := hA0
      cases e1 : ev (P.cl (P.call n) L) e env st1 with
      | none => rw [e1] at hA'; cases hA'
      | some o => rw [e1] at hA'; cases o <;> exact hA'
    refine sg_go hx h0 S1 R1 h3 hQ1 fun u2 st2 w2 H2 y S2 R2 f2 v2 hB hQ2 => ?_
    have hB' : (match cnOf u2 st2 with
      | some (.l xs) => match strsOf xs with
        | some ys => if (ys.map (·.length)).sum + ys.length * s.length ≤ 16777216 then ok (SV.d (.str (Txt.join s ys))) st2 else none
        | none => none
      | _ => none) = some r := by
      refine Eq.trans ?_ hB
      show _ = bmf .join (.d (.str s)) [u2] st2
      unfold bmf
      dsimp only
      cases cnOf u2 st2 with
      | none => rfl
      | some c => cases c <;> rfl
    split at hB'
    · rename_i xs hc
      obtain ⟨p, vs, rfl, hS, hR⟩ := v2.lst S2 hc
      split at hB'
      · rename_i ys hy
        split at hB'
        · rename_i hz
          cases ok_inj hB'
          obtain rfl := strs_rv hy hR
          exact ⟨s, p, ys, rfl, rfl, .inl hS, hz, okr_now hQ2 S2 (.d (.str _))⟩
        · cases hB'
      · cases hB'
    · cases hB'
  · cases hA0
end
section
variable {X : Cx} {g : Gm} {po pe : Expr} {a e : Ex} {ta tx : TE} {apos cpos : Pos}
theorem de_join (hK : X.K = g.E.K) (ho : De X g po a ta) (hx : De X g pe e tx)
    (hbase : attributeBase po "join" X.env (eval po X.env) = eval po X.env := by rfl)
    (hfew : ((backTo cpos (starEach [pe] X.env)).all (fun x => !x.1) && (backToKw cpos (keywordEach [] X.env)).all (fun x => x.1.isSome)
      && decide (([pe] : List Expr).length + ([] : List Keyword).length + (if ([] : List Keyword).isEmpty then 0 else 1) < 30)) = true := by rfl)
    (hline : (apos.endLine == cpos.line) = true := by rfl) (hs : starEach [pe] X.env = (false, eval pe X.env) :: starEach [] X.env := by rfl) (hpl : (backTo cpos (starEach [] X.env)).any (·.1) = false := by rfl) :
    De X g (.Call (.Attribute po "join" apos) [pe] [] cpos) (.bm .join a (.cons e .nil)) (tBM g.E.K "str" (rJoinX g.E.K) ta (tCons tx tNil)) :=
  ⟨hK ▸ pe_bm (r := rJoinX X.K) F.plainAttrs_str F.slot_str_join F.type_str_join mt_join ho.p (pa_cons hx.p pa_nil hs) hbase hfew hline hs hpl, se_join ho.s hx.s⟩
theorem de_rmpre (hK : X.K = g.E.K) (ho : De X g po a ta) (hx : De X g pe e tx)
    (hbase : attributeBase po "removeprefix" X.env (eval po X.env) = eval po X.env := by rfl)
    (hfew : ((backTo cpos (starEach [pe] X.env)).all (fun x => !x.1) && (backToKw cpos (keywordEach [] X.env)).all (fun x => x.1.isSome)
      && decide (([pe] : List Expr).length + ([] : List Keyword).length + (if ([] : List Keyword).isEmpty then 0 else 1) < 30)) = true := by rfl)
    (hline : (apos.endLine == cpos.line) = true := by rfl) (hs : starEach [pe] X.env = (false, eval pe X.env) :: starEach [] X.env := by rfl) (hpl : (backTo cpos (starEach [] X.env)).any (·.1) = false := by rfl) :
    De X g (.Call (.Attribute po "removeprefix" apos) [pe] [] cpos) (.bm .removeprefix a (.cons e .nil)) (tBM g.E.K "str" (rTxt (fun s b => .str (Txt.removeprefix s b)) fun s => s.length ≤ sizeLine) ta (tCons tx tNil)) :=
  ⟨hK ▸ pe_bm (r := rTxt (fun s b => .str (Txt.removeprefix s b)) fun s => s.length ≤ sizeLine) F.plainAttrs_str F.slot_str_removeprefix F.type_str_removeprefix mt_removeprefix ho.p (pa_cons hx.p pa_nil hs) hbase hfew hline hs hpl,
    se_txt1 (d := fun s b => .str (Txt.removeprefix s b)) (fun _ _ => rfl) (fun _ _ _ => rfl) (fun s u st r h => by
      cases u with
      | d x => cases x with
        | str b => exact ⟨b, rfl⟩
        | _ => cases h
      | c _ _ => cases h
      | x _ => cases h) (fun _ _ _ _ => .str _) ho.s hx.s⟩
/-- a statement that is never come to -/
theorem ds_stuck {s : Stmt} : Ds X g s (.drop (.idx (.cst .non) (.cst .non))) (fun _ _ _ => False) :=
  ⟨⟨fun _ _ _ _ _ _ h => False.elim h⟩, fun _ _ _ _ _ _ _ _ _ _ _ h => by cases h⟩
end
end Tv
namespace Tv
open PySem L2 PySem.Spec PyProof.Rows
def charsD (x : Str) : List D := x.cps.toList.map fun c => .str ⟨#[c]⟩
section
variable {E : En} {xb : XB} {P : Prog} {n : Nat} {W : WX} {X : Cx} {g : Gm} {tg pa : Expr} {a : Ex} {ta : TE}
theorem its_str {z : Str} : ItS E (Its z) (charsD z) (fun _ => True) := by
  refine ⟨fun L w env st σ H i x S h e => ?_, fun s i h hi => ?_⟩
  · unfold charsD at e
    rw [List.getElem?_map] at e
    obtain ⟨c, e1, rfl⟩ := Option.map_eq_some_iff.mp e
    have e2 : z.cps[i]? = some c := by rw [← Array.getElem?_toList]; exact e1
    refine ⟨(Array.getElem?_eq_some_iff.mp e2).1, fun u H' y => ?_⟩
    obtain ⟨rfl, c', e3, rfl⟩ := y
    rw [e2] at e3
    cases e3
    exact ⟨S, Fr.rfl' _, .str _⟩
  · unfold charsD at hi
    rw [List.length_map, Array.length_toList] at hi
    exact hi
theorem si_chars {te : TE} {e : Ex} (h : SE P n E xb W te e) : SIt P n E xb W (iStr te) (.chars e) := by
  intro L0 L w env st σ H h0 S R r h2 Q hQ
  show te σ H fun x H1 => ∃ z, x = .str z ∧ Q (Its z) H1
  refine sg_go h h0 S R h2 hQ fun u st1 w1 H1 x S1 R1 f1 v1 h3 hQ => ?_
  split at h3
  · rename_i z
    split at h3
    · cases ok_inj h3
      exact ⟨z, by rw [v1.str], okr_now hQ S1 ⟨fun o ho => by simp at ho, fun _ => True, trivial, fun _ _ _ _ => trivial, its_str⟩⟩
    · cases h3
  · cases h3
theorem di_chars (h : De X g pa a ta) : Di X g tg pa (.chars a) (iStr ta) := ⟨pi_str h.p, si_chars h.s⟩
end
end Tv
namespace Tv
open PySem L2
section
variable {α β : Type} {P : Prog} {n : Nat} {L l : List Ow} {env : Env} {st : Sto} {c : Cl} {a b d : Ex} {es : Exs}
theorem rb_ok {a : α} {k : α → Sto → Res β} : rb (some (.ok a st)) k = k a st := id rfl
theorem sb_ok {a : α} {k : α → Sto → Option SO} : sb (some (.ok a st)) env k = k a st := id rfl
theorem sq_nx {k : Env → Sto → Option SO} : sq (some (.nx env st)) k = k env st := id rfl
theorem sq_rt {v : SV} {k : Env → Sto → Option SO} : sq (some (.rt v st)) k = some (.rt v st) := id rfl
theorem sq_bk {k : Env → Sto → Option SO} : sq (some (.bk env st)) k = some (.bk env st) := id rfl
theorem sq_ct {k : Env → Sto → Option SO} : sq (some (.ct env st)) k = some (.ct env st) := id rfl
theorem cl_lk : (P.cl (P.call n) L).lk l = P.cl (P.call n) (l ++ L) := id rfl
theorem cl_go {f : Nat} {as : List SV} : (P.cl (P.call n) L).go f as st = P.call n f (as.map argS) ((as.flatMap lockOf ++ L).filter Ow.inStore) st := id rfl
theorem cl_kts : (P.cl (P.call n) L).kts = P.kts := id rfl
theorem cl_locks : (P.cl (P.call n) L).locks = L := id rfl
theorem free_f {i : Nat} : free (P.cl (P.call n) (L.filter Ow.inStore)) i = true := by
  unfold free
  simp only [cl_locks]
  have : (L.filter Ow.inStore).contains (.s i) = false := by
    rw [Bool.eq_false_iff]
    intro h
    have := List.contains_iff_mem.mp h
    have := (List.mem_filter.mp this).2
    cases this
  rw [this]; rfl
theorem free_cons {i : Nat} {o : Ow} : free (P.cl (P.call n) (o :: L)) i = (!(Ow.s i == o) && free (P.cl (P.call n) L) i) := by
  unfold free
  simp only [cl_locks, List.contains_cons, Bool.not_or]
theorem call_succ {f np ns : Nat} {body : Stts} {as : List SV} (h : P.fn f = ⟨np, ns, body, false⟩) (hl : as.length = np) : P.call (n + 1) f as L st = result (execs (P.cl (P.call n) L) body (as.map some ++ List.replicate (ns - as.length) none) st) := by
  show (if as.length = (P.fn f).np then trimIf (P.fn f).tr st (result (execs (P.cl (P.call n) L) (P.fn f).body (as.map some ++ List.replicate ((P.fn f).ns - as.length) none) st)) else none) = _
  rw [h, if_pos hl]
  rfl
theorem mulOkR {i j : Int} (h1 : -(2 ^ 64) < j) (h2 : j < 2 ^ 64) : mulOk i j = true := by
  unfold mulOk; rw [decide_eq_true h1, decide_eq_true h2]; simp
theorem mulOkL {i j : Int} (h1 : -(2 ^ 64) < i) (h2 : i < 2 ^ 64) : mulOk i j = true := by
  unfold mulOk; rw [decide_eq_true h1, decide_eq_true h2]; simp
theorem log2_lt {m k : Nat} (h : m < 2 ^ k) (hk : 0 < k) : m.log2 < k := by
  by_cases hm : m = 0
  · subst hm; simpa using hk
  · exact (Nat.log2_lt hm).mpr h
theorem divOkI {j : Int} (h1 : 0 < j) (h2 : j < 2 ^ 64) : divOk j = true := by
  unfold divOk
  rw [decide_eq_true h1, Bool.true_and, decide_eq_true_eq]
  have : j.natAbs < 2 ^ 64 := by omega
  exact Nat.lt_of_lt_of_le (log2_lt this (by decide)) (by decide)
theorem atI_pos {xs : List α} {i : Int} (h : 0 ≤ i) : atI xs i = xs[i.toNat]? := by
  unfold atI ixN
  rw [if_pos h]
  split
  · rfl
  · rename_i h2
    rw [List.getElem?_eq_none (by omega)]; rfl
theorem atI0 {x : α} {xs : List α} : atI (x :: xs) 0 = some x := by rw [atI_pos (by decide)]; rfl
theorem atI1 {x y : α} {xs : List α} : atI (x :: y :: xs) 1 = some y := by rw [atI_pos (by decide)]; rfl
theorem atI2 {x y z : α} {xs : List α} : atI (x :: y :: z :: xs) 2 = some z := by rw [atI_pos (by decide)]; rfl
theorem atI3 {x y z u : α} {xs : List α} : atI (x :: y :: z :: u :: xs) 3 = some u := by rw [atI_pos (by decide)]; rfl
theorem atI4 {x y z u v : α} {xs : List α} : atI (x :: y :: z :: u :: v :: xs) 4 = some v := by rw [atI_pos (by decide)]; rfl
theorem powC : powOk 10 9 = true := by decide +kernel
theorem powC15 : powOk 10 15 = true := by decide +kernel
theorem free_nil {i : Nat} : free (P.cl (P.call n) []) i = true := id rfl
end
end Tv
namespace Tv
open PySem L2
section
variable {α β : Type} {P : Prog} {n : Nat} {L l : List Ow} {env : Env} {st : Sto} {c : Cl} {a b d e : Ex} {es : Exs} {o : Bo} {p : Co} {u w : SV} {x : D} {i j : Nat} {t t2 : Tx} {g : Tg} {it : It} {sa sb' ss : Stts} {s : Stt} {bl : Bool}
def kBin2 (o : Bo) (u : SV) : SV → Sto → Res SV := fun w st => bin o u w st
def kBin (c : Cl) (o : Bo) (b : Ex) (env : Env) : SV → Sto → Res SV := fun u st => rb (ev (c.lk (lockOf u)) b env st) (kBin2 o u)
theorem e_bin : ev c (.bin o a b) env st = rb (ev c a env st) (kBin c o b env) := id rfl
theorem k_bin : kBin c o b env u st = rb (ev (c.lk (lockOf u)) b env st) (kBin2 o u) := id rfl
theorem k_bin2 : kBin2 o u w st = bin o u w st := id rfl
def kCmp2 (kt : List (List D)) (p : Co) (u : SV) : SV → Sto → Res SV := fun w st => match cmp kt p u w st with
    | some b => ok (.d (.bl b)) st
    | none => none
def kCmp (c : Cl) (p : Co) (b : Ex) (env : Env) : SV → Sto → Res SV := fun u st => rb (ev (c.lk (lockOf u)) b env st) (kCmp2 c.kts p u)
theorem e_cmp : ev c (.cmp p a b) env st = rb (ev c a env st) (kCmp c p b env) := id rfl
theorem k_cmp : kCmp c p b env u st = rb (ev (c.lk (lockOf u)) b env st) (kCmp2 c.kts p u) := id rfl
def bok (o : Option Bool) (st : Sto) : Res SV := match o with
    | some b => ok (.d (.bl b)) st
    | none => none
theorem bok_s : bok (some bl) st = ok (.d (.bl bl)) st := id rfl
theorem k_cmp2 {kt : List (List D)} : kCmp2 kt p u w st = bok (cmp kt p u w st) st := id rfl
theorem e_var : ev c (.var i) env st = match env[i]? with
    | some (some (.d x)) => ok (.d x) st
    | some (some (.c .own x)) => ok (.c (.at (.s i)) x) st
    | some (some (.c .par x)) => ok (.c .par x) st
    | some (some (.c .scr x)) => ok (.c .scr x) st
    | _ => none := rfl
theorem e_cst : ev c (.cst x) env st = ok (.d x) st := id rfl
theorem e_glob {y : Str} : ev c (.glob y x) env st = ok (.d x) st := id rfl
def kNeg : SV → Sto → Res SV := fun u st => match u with
    | .d (.int i) => ok (.d (.int (-i))) st
    | _ => none
theorem e_neg : ev c (.neg a) env st = rb (ev c a env st) kNeg := id rfl
theorem k_neg {i : Int} : kNeg (.d (.int i)) st = ok (.d (.int (-i))) st := id rfl
def kBl : SV → Sto → Res SV := fun w st => match w with
      | .d (.bl b) => ok (.d (.bl b)) st
      | _ => none
theorem k_bl : kBl (.d (.bl bl)) st = ok (.d (.bl bl)) st := id rfl
def kAnd (c : Cl) (b : Ex) (env : Env) : SV → Sto → Res SV := fun u st => match u with
    | .d (.bl true) => rb (ev c b env st) kBl
    | .d (.bl false) => ok (.d (.bl false)) st
    | _ => none
theorem e_and : ev c (.and a b) env st = rb (ev c a env st) (kAnd c b env) := id rfl
theorem k_andT : kAnd c b env (.d (.bl true)) st = rb (ev c b env st) kBl := id rfl
theorem k_andF : kAnd c b env (.d (.bl false)) st = ok (.d (.bl false)) st := id rfl
def kOr (c : Cl) (b : Ex) (env : Env) : SV → Sto → Res SV := fun u st => match u with
    | .d (.bl false) => rb (ev c b env st) kBl
    | .d (.bl true) => ok (.d (.bl true)) st
    | _ => none
theorem e_or : ev c (.or a b) env st = rb (ev c a env st) (kOr c b env) := id rfl
theorem k_orF : kOr c b env (.d (.bl false)) st = rb (ev c b env st) kBl := id rfl
theorem k_orT : kOr c b env (.d (.bl true)) st = ok (.d (.bl true)) st := id rfl
def kNot : SV → Sto → Res SV := fun u st => match u with
    | .d (.bl b) => ok (.d (.bl !b)) st
    | _ => none
theorem e_not : ev c (.not a) env st = rb (ev c a env st) kNot := id rfl
theorem k_not : kNot (.d (.bl bl)) st = ok (.d (.bl !bl)) st := id rfl
def kIte (c : Cl) (a b : Ex) (env : Env) : Bool → Sto → Res SV := fun u st => if u then ev c a env st else ev c b env st
theorem e_ite : ev c (.ite t a b) env st = rb (evT c t env st) (kIte c a b env) := id rfl
theorem k_iteT : kIte c a b env true st = ev c a env st := id rfl
theorem k_iteF : kIte c a b env false st = ev c b env st := id rfl
def dok (o : Option D) (st : Sto) : Res SV := match o with
    | some d => ok (.d d) st
    | none => none
theorem dok_s : dok (some x) st = ok (.d x) st := id rfl
def kIdx2 (kt : List (List D)) (u : SV) : SV → Sto → Res SV := fun w st => dok (idx kt u w st) st
def kIdx (c : Cl) (b : Ex) (env : Env) : SV → Sto → Res SV := fun u st => rb (ev (c.lk (lockOf u)) b env st) (kIdx2 c.kts u)
theorem e_idx : ev c (.idx a b) env st = rb (ev c a env st) (kIdx c b env) := id rfl
theorem k_idx : kIdx c b env u st = rb (ev (c.lk (lockOf u)) b env st) (kIdx2 c.kts u) := id rfl
theorem k_idx2 {kt : List (List D)} : kIdx2 kt u w st = dok (idx kt u w st) st := id rfl
def kSl3 (u : SV) (lo : Option Int) : Option Int → Sto → Res SV := fun h st => slc u lo h st
def kSl2 (c : Cl) (hi : Ex) (u : SV) (env : Env) : Option Int → Sto → Res SV := fun l st => rb (rb (ev (c.lk (lockOf u)) hi env st) (part hi.isNon)) (kSl3 u l)
def kSl (c : Cl) (lo hi : Ex) (env : Env) : SV → Sto → Res SV := fun u st => rb (rb (ev (c.lk (lockOf u)) lo env st) (part lo.isNon)) (kSl2 c hi u env)
theorem e_slice : ev c (.slice a b d) env st = rb (ev c a env st) (kSl c b d env) := id rfl
theorem k_sl : kSl c b d env u st = rb (rb (ev (c.lk (lockOf u)) b env st) (part b.isNon)) (kSl2 c d u env) := id rfl
theorem k_sl2 {lo : Option Int} : kSl2 c d u env lo st = rb (rb (ev (c.lk (lockOf u)) d env st) (part d.isNon)) (kSl3 u lo) := id rfl
theorem k_sl3 {lo hi : Option Int} : kSl3 u lo hi st = slc u lo hi st := id rfl
theorem part_i {z : Int} : part bl (.d (.int z)) st = ok (some z) st := id rfl
theorem part_n : part true (.d .non) st = ok none st := id rfl
theorem e_rev : ev c (.rev a) env st = rb (ev c a env st) revS := id rfl
def kTup2 : List D → Sto → Res SV := fun xs st => if xs.length ≤ sizeLine then ok (.d (.tup xs)) st else none
def kTup : List SV → Sto → Res SV := fun as st => rb (toDs as st) kTup2
theorem e_tup : ev c (.tup es) env st = rb (evs c es env st) kTup := id rfl
theorem k_tup {as : List SV} : kTup as st = rb (toDs as st) kTup2 := id rfl
theorem size_k : 1000 ≤ sizeLine := Nat.le_of_ble_eq_true rfl
theorem k_tup2 {xs : List D} (h : xs.length ≤ 1000) : kTup2 xs st = ok (.d (.tup xs)) st := if_pos (Nat.le_trans h size_k)
def kLst2 : List D → Sto → Res SV := fun xs st => if xs.length ≤ sizeLine then ok (.c .own (.l xs)) st else none
def kLst : List SV → Sto → Res SV := fun as st => rb (toDs as st) kLst2
theorem e_lst : ev c (.lst es) env st = rb (evs c es env st) kLst := id rfl
theorem k_lst {as : List SV} : kLst as st = rb (toDs as st) kLst2 := id rfl
theorem k_lst2 {xs : List D} (h : xs.length ≤ 1000) : kLst2 xs st = ok (.c .own (.l xs)) st := if_pos (Nat.le_trans h size_k)
theorem toDs_nil : toDs [] st = ok [] st := id rfl
def kDs2 (x : D) : List D → Sto → Res (List D) := fun xs st => ok (x :: xs) st
def kDs (as : List SV) : D → Sto → Res (List D) := fun x st => rb (toDs as st) (kDs2 x)
theorem toDs_cons {as : List SV} : toDs (u :: as) st = rb (toD u st) (kDs as) := id rfl
theorem k_ds {as : List SV} : kDs as x st = rb (toDs as st) (kDs2 x) := id rfl
theorem k_ds2 {xs : List D} : kDs2 x xs st = ok (x :: xs) st := id rfl
theorem toD_d : toD (.d x) st = ok x st := id rfl
def kGo (c : Cl) (f : Nat) : List SV → Sto → Res SV := fun as st => c.go f as st
theorem e_call {f : Nat} : ev c (.call f es) env st = rb (evs c es env st) (kGo c f) := id rfl
theorem k_go {f : Nat} {as : List SV} : kGo c f as st = c.go f as st := id rfl
theorem e_bi {f : Bi} : ev c (.bi f es) env st = rb (evs c es env st) (biF f) := id rfl
theorem s_nil : evs c .nil env st = ok [] st := id rfl
def kEs2 (u : SV) : List SV → Sto → Res (List SV) := fun us st => ok (u :: us) st
def kEs (c : Cl) (es : Exs) (env : Env) : SV → Sto → Res (List SV) := fun u st => rb (evs (c.lk (lockOf u)) es env st) (kEs2 u)
theorem s_cons : evs c (.cons e es) env st = rb (ev c e env st) (kEs c es env) := id rfl
theorem k_es : kEs c es env u st = rb (evs (c.lk (lockOf u)) es env st) (kEs2 u) := id rfl
theorem k_es2 {us : List SV} : kEs2 u us st = ok (u :: us) st := id rfl
theorem t_yes : evT c .yes env st = ok true st := id rfl
def tok (o : Option Bool) (st : Sto) : Res Bool := match o with
    | some b => ok b st
    | none => none
theorem tok_s : tok (some bl) st = ok bl st := id rfl
def kVal : SV → Sto → Res Bool := fun u st => tok (truth u st) st
theorem t_val : evT c (.val e) env st = rb (ev c e env st) kVal := id rfl
theorem k_val : kVal u st = tok (truth u st) st := id rfl
def kTand (c : Cl) (t : Tx) (env : Env) : Bool → Sto → Res Bool := fun u st => if u then evT c t env st else ok false st
theorem t_and : evT c (.and t t2) env st = rb (evT c t env st) (kTand c t2 env) := id rfl
theorem k_tandT : kTand c t env true st = evT c t env st := id rfl
theorem k_tandF : kTand c t env false st = ok false st := id rfl
def kTor (c : Cl) (t : Tx) (env : Env) : Bool → Sto → Res Bool := fun u st => if u then ok true st else evT c t env st
theorem t_or : evT c (.or t t2) env st = rb (evT c t env st) (kTor c t2 env) := id rfl
theorem k_torT : kTor c t env true st = ok true st := id rfl
theorem k_torF : kTor c t env false st = evT c t env st := id rfl
def kTnot : Bool → Sto → Res Bool := fun u st => ok (!u) st
theorem t_not : evT c (.not t) env st = rb (evT c t env st) kTnot := id rfl
theorem k_tnot : kTnot bl st = ok (!bl) st := id rfl
theorem i_seq : evI c (.seq e) env st = rb (ev c e env st) itSeq := id rfl
def kRng : SV → Sto → Res Ito := fun u st => match u with
    | .d (.int n) => if smallI n then ok ⟨rangeD 0 n.toNat, []⟩ st else none
    | _ => none
theorem i_rng : evI c (.range e) env st = rb (ev c e env st) kRng := id rfl
theorem k_rng {z : Int} (h : smallI z = true) : kRng (.d (.int z)) st = ok ⟨rangeD 0 z.toNat, []⟩ st := if_pos h
def kRevI2 : Ito → Sto → Res Ito := fun j st => ok ⟨j.xs.reverse, j.locks⟩ st
def kRevI : SV → Sto → Res Ito := fun u st => rb (itRow u st) kRevI2
theorem i_rev : evI c (.rev e) env st = rb (ev c e env st) kRevI := id rfl
theorem k_revI : kRevI u st = rb (itRow u st) kRevI2 := id rfl
theorem k_revI2 {q : Ito} : kRevI2 q st = ok ⟨q.xs.reverse, q.locks⟩ st := id rfl
def kSome : SV → Sto → Res (Option SV) := fun v st => ok (some v) st
theorem k_some : kSome u st = ok (some u) st := id rfl
def kTurn (c : Cl) (e : Ex) (env : Env) : Bool → Sto → Res (Option SV) := fun b st => if b then rb (ev c e env st) kSome else ok none st
theorem k_turnT : kTurn c e env true st = rb (ev c e env st) kSome := id rfl
theorem k_turnF : kTurn c e env false st = ok none st := id rfl
def turnC (c : Cl) (g : Tg) (t : Tx) (e : Ex) (env : Env) : D → Sto → Res (Option SV) := fun x st => match g.set (wipeE env g.own) x with
        | some env => rb (evT c t env st) (kTurn c e env)
        | none => none
def kOwn : List D → Sto → Res SV := fun xs st => ok (.c .own (.l xs)) st
theorem k_own {xs : List D} : kOwn xs st = ok (.c .own (.l xs)) st := id rfl
def kLc (c : Cl) (g : Tg) (t : Tx) (e : Ex) (env : Env) : Ito → Sto → Res SV := fun j st => rb (compL (turnC (c.lk j.locks) g t e env) j.xs [] st) kOwn
theorem e_lc : ev c (.lc g it t e) env st = rb (evI c it env st) (kLc c g t e env) := id rfl
theorem k_lc {q : Ito} : kLc c g t e env q st = rb (compL (turnC (c.lk q.locks) g t e env) q.xs [] st) kOwn := id rfl
theorem ss_nil' : execs c .nil env st = some (.nx env st) := id rfl
theorem ss_cons' : execs c (.cons s ss) env st = sq (exec c s env st) (execs c ss) := id rfl
def kAsg (c : Cl) (g : Tg) (env : Env) : SV → Sto → Option SO := fun v st => match v with
    | .d x => match g.put c env x with
      | some env => some (.nx env st)
      | none => none
    | .c .own x => match g with
      | .nm i => setV c i (.c .own x) env st
      | _ => none
    | .c .par x => match g with
      | .nm i => setV c i (.c .par x) env st
      | _ => none
    | _ => none
theorem x_asg : exec c (.asg g e) env st = sb (ev c e env st) env (kAsg c g env) := id rfl
def nxo (o : Option Env) (st : Sto) : Option SO := match o with
      | some env => some (.nx env st)
      | none => none
theorem nxo_s : nxo (some env) st = some (.nx env st) := id rfl
theorem k_asg : kAsg c g env (.d x) st = nxo (g.put c env x) st := id rfl
theorem k_asgO {y : Cn} : kAsg c (.nm i) env (.c .own y) st = setV c i (.c .own y) env st := id rfl
theorem k_asgP {y : Cn} : kAsg c (.nm i) env (.c .par y) st = setV c i (.c .par y) env st := id rfl
theorem g_put (h : g.free c = true) : g.put c env x = g.set env x := by unfold Tg.put; rw [if_pos h]
theorem x_mv : exec c (.mv i j) env st = match env[j]? with
    | some (some (.d x)) => setV c i (.d x) env st
    | some (some (.c .par x)) => setV c i (.c .par x) env st
    | some (some (.c .own x)) => if free c j then setV c i (.c .own x) (env.set j none) st else none
    | _ => none := rfl
theorem set_v (h : free c i = true) : setV c i u env st = some (.nx (env.set i (some u)) st) := by unfold setV; rw [if_pos h]
def kIf (c : Cl) (sa sb' : Stts) (env : Env) : Bool → Sto → Option SO := fun u st => if u then execs c sa env st else execs c sb' env st
theorem x_if : exec c (.ifs t sa sb') env st = sb (evT c t env st) env (kIf c sa sb' env) := id rfl
theorem k_ifT : kIf c sa sb' env true st = execs c sa env st := id rfl
theorem k_ifF : kIf c sa sb' env false st = execs c sb' env st := id rfl
def turnF (c : Cl) (g : Tg) (ss : Stts) : D → Env → Sto → Option SO := fun x env st => match g.put c env x with
        | some env => execs c ss env st
        | none => none
def kFor (c : Cl) (g : Tg) (ss : Stts) (env : Env) : Ito → Sto → Option SO := fun j st => forL (turnF (c.lk j.locks) g ss) j.xs env st
theorem x_for : exec c (.for_ g it ss) env st = sb (evI c it env st) env (kFor c g ss env) := id rfl
theorem k_for {q : Ito} : kFor c g ss env q st = forL (turnF (c.lk q.locks) g ss) q.xs env st := id rfl
def Ex.isV : Ex → Bool
  | .var _ => true
  | _ => false
def kRet : SV → Sto → Option SO := fun v st => match v with
      | .d x => some (.rt (.d x) st)
      | .c .own x => some (.rt (.c .own x) st)
      | _ => none
theorem k_retD : kRet (.d x) st = some (.rt (.d x) st) := id rfl
theorem k_retO {y : Cn} : kRet (.c .own y) st = some (.rt (.c .own y) st) := id rfl
theorem x_ret_bin : exec c (.ret (.bin o a b)) env st = sb (ev c (.bin o a b) env st) env kRet := id rfl
theorem x_ret_cmp : exec c (.ret (.cmp p a b)) env st = sb (ev c (.cmp p a b) env st) env kRet := id rfl
theorem x_ret_and : exec c (.ret (.and a b)) env st = sb (ev c (.and a b) env st) env kRet := id rfl
theorem x_ret_or : exec c (.ret (.or a b)) env st = sb (ev c (.or a b) env st) env kRet := id rfl
theorem x_ret_not : exec c (.ret (.not a)) env st = sb (ev c (.not a) env st) env kRet := id rfl
theorem x_ret_ite : exec c (.ret (.ite t a b)) env st = sb (ev c (.ite t a b) env st) env kRet := id rfl
theorem x_ret_cst : exec c (.ret (.cst x)) env st = sb (ev c (.cst x) env st) env kRet := id rfl
theorem x_ret_tup : exec c (.ret (.tup es)) env st = sb (ev c (.tup es) env st) env kRet := id rfl
theorem x_ret_lst : exec c (.ret (.lst es)) env st = sb (ev c (.lst es) env st) env kRet := id rfl
theorem x_ret_rev : exec c (.ret (.rev a)) env st = sb (ev c (.rev a) env st) env kRet := id rfl
theorem x_ret_idx : exec c (.ret (.idx a b)) env st = sb (ev c (.idx a b) env st) env kRet := id rfl
theorem x_ret_slice : exec c (.ret (.slice a b d)) env st = sb (ev c (.slice a b d) env st) env kRet := id rfl
theorem x_ret_neg : exec c (.ret (.neg a)) env st = sb (ev c (.neg a) env st) env kRet := id rfl
theorem x_ret_lc : exec c (.ret (.lc g it t e)) env st = sb (ev c (.lc g it t e) env st) env kRet := id rfl
theorem x_ret_call {f : Nat} : exec c (.ret (.call f es)) env st = sb (ev c (.call f es) env st) env kRet := id rfl
theorem x_ret_bi {f : Bi} : exec c (.ret (.bi f es)) env st = sb (ev c (.bi f es) env st) env kRet := id rfl
theorem x_retV : exec c (.ret (.var i)) env st = match env[i]? with
      | some (some (.d x)) => some (.rt (.d x) st)
      | some (some (.c .own x)) => if free c i then some (.rt (.c .own x) st) else none
      | _ => none := rfl
theorem x_retN : exec c .retN env st = some (.rt (.d .non) st) := id rfl
theorem x_brk : exec c .brk env st = some (.bk env st) := id rfl
theorem x_cnt : exec c .cnt env st = some (.ct env st) := id rfl
theorem x_pass : exec c .pass env st = some (.nx env st) := id rfl
def kApp2 (c : Cl) (l : Lc) (env : Env) : D → Sto → Option SO := fun y st => match l.get c env st with
    | some (.l xs) => if xs.length < sizeLine then some (.nx (l.set (.l (xs ++ [y])) env st).1 (l.set (.l (xs ++ [y])) env st).2) else none
    | _ => none
def kApp1 (c : Cl) (l : Lc) (env : Env) : SV → Sto → Option SO := fun v st => sb (toD v st) env (kApp2 c l env)
def kApp (c : Cl) (v : Ex) (env : Env) : Lc → Sto → Option SO := fun l st => sb (ev (c.lk [l.ow]) v env st) env (kApp1 c l env)
theorem x_app {q : Pl} : exec c (.app q e) env st = sb (resolveK Cn.isL c q env st) env (kApp c e env) := id rfl
theorem k_app {q : Lc} : kApp c e env q st = sb (ev (c.lk [q.ow]) e env st) env (kApp1 c q env) := id rfl
theorem k_app1 {q : Lc} : kApp1 c q env u st = sb (toD u st) env (kApp2 c q env) := id rfl
def kTurnE (c : Cl) (t : Tx) (e : Ex) (o : Option Env) (st : Sto) : Res (Option SV) := match o with
        | some env => rb (evT c t env st) (kTurn c e env)
        | none => none
theorem turn_c : turnC c g t e env x st = kTurnE c t e (g.set (wipeE env g.own) x) st := id rfl
theorem k_turnE : kTurnE c t e (some env) st = rb (evT c t env st) (kTurn c e env) := id rfl
def kTurnF (c : Cl) (ss : Stts) (o : Option Env) (st : Sto) : Option SO := match o with
        | some env => execs c ss env st
        | none => none
theorem turn_f : turnF c g ss x env st = kTurnF c ss (g.put c env x) st := id rfl
theorem k_turnFE : kTurnF c ss (some env) st = execs c ss env st := id rfl
theorem compL_fm {turn : D → Sto → Res (Option SV)} {f : D → Option D} : ∀ {xs acc : List D}, (∀ x ∈ xs, turn x st = some (.ok ((f x).map .d) st)) → acc.length + xs.length ≤ sizeLine → compL turn xs acc st = ok (acc ++ xs.filterMap f) st
  | [], acc, _, _ => by simp [compL]
  | x :: xs, acc, h, hl => by
    have h1 := h x (List.mem_cons_self ..)
    have h2 : ∀ y ∈ xs, turn y st = some (.ok ((f y).map .d) st) := fun y z => h y (List.mem_cons_of_mem _ z)
    rw [List.length_cons] at hl
    unfold compL
    rw [h1]
    cases e : f x with
    | none =>
      show compL turn xs acc st = _
      rw [compL_fm h2 (by omega), List.filterMap_cons_none e]
    | some y =>
      show (match toD (.d y) st with | some (.ok y st) => if acc.length < sizeLine then compL turn xs (acc ++ [y]) st else none | _ => none) = _
      show (if acc.length < sizeLine then compL turn xs (acc ++ [y]) st else none) = _
      rw [if_pos (by omega), compL_fm h2 (by rw [List.length_append, List.length_singleton]; omega), List.filterMap_cons_some e, List.append_assoc]
      rfl
theorem compL_map {turn : D → Sto → Res (Option SV)} {f : D → D} {xs : List D} (h : ∀ x ∈ xs, turn x st = some (.ok (some (.d (f x))) st)) (hl : xs.length ≤ sizeLine) : compL turn xs [] st = ok (xs.map f) st := by
  rw [compL_fm (f := fun x => some (f x)) h (by simpa using hl)]
  have : List.filterMap (fun x => some (f x)) xs = xs.map f := by simp
  rw [this]
  rfl
/-- a loop, by what stands ahead of each turn -/
theorem forL_inv {turn : D → Env → Sto → Option SO} {Q : SO → Prop} {xs : List D} (I : Nat → Env → Sto → Prop) (h0 : I 0 env st)
    (h1 : ∀ k x, xs[k]? = some x → ∀ env st, I k env st → ∃ r, turn x env st = some r ∧ match r with
      | .nx env st => I (k + 1) env st
      | .ct env st => I (k + 1) env st
      | .bk env st => Q (.nx env st)
      | r => Q r)
    (h2 : ∀ env st, I xs.length env st → Q (.nx env st)) : ∃ r, forL turn xs env st = some r ∧ Q r := by
  induction xs generalizing I env st with
  | nil => exact ⟨_, rfl, h2 _ _ h0⟩
  | cons x xs ih =>
    obtain ⟨r, e, q⟩ := h1 0 x rfl env st h0
    have go : ∀ env st, I 1 env st → ∃ r, forL turn xs env st = some r ∧ Q r := fun env st h => ih (fun k => I (k + 1)) h (fun k y hy env st hI => h1 (k + 1) y (by simpa using hy) env st hI) h2
    unfold forL
    rw [e]
    cases r with
    | nx env st => exact go _ _ q
    | ct env st => exact go _ _ q
    | bk env st => exact ⟨_, rfl, q⟩
    | rt v st => exact ⟨_, rfl, q⟩
    | ex y env st => exact ⟨_, rfl, q⟩
theorem all_true {q : Kd} {xs : List D} (h : ∀ x ∈ xs, x = .bl true) : biF .all [.c q (.l xs)] st = ok (.d (.bl true)) st := by
  have h1 : xs.all D.isBl = true := List.all_eq_true.mpr fun x z => by rw [h x z]; rfl
  have h2 : (xs.map D.bl').all id = true := List.all_eq_true.mpr fun b z => by
    obtain ⟨x, z1, z2⟩ := List.mem_map.mp z
    rw [h x z1] at z2
    rw [← z2]; rfl
  show (match allBl xs with | some bs => ok (SV.d (.bl (bs.all id))) st | none => none) = _
  unfold allBl
  rw [if_pos h1]
  show ok (SV.d (.bl ((xs.map D.bl').all id))) st = _
  rw [h2]
theorem all_map {q : Kd} {xs : List D} : biF .all [.c q (.l (xs.map fun _ => .bl true))] st = ok (.d (.bl true)) st := all_true fun x z => by obtain ⟨y, _, e⟩ := List.mem_map.mp z; exact e.symm
theorem mem_rangeD {n : Nat} (h : x ∈ rangeD 0 n) : ∃ k : Nat, k < n ∧ x = .int k := by
  obtain ⟨k, h1, h2⟩ := List.mem_map.mp h
  exact ⟨k, List.mem_range.mp h1, by rw [← h2, Int.zero_add]⟩
theorem range_at {n k : Nat} (h : (rangeD 0 n)[k]? = some x) : k < n ∧ x = .int k := by
  unfold rangeD at h
  rw [List.getElem?_map] at h
  by_cases hk : k < n
  · rw [List.getElem?_range hk] at h
    cases h
    exact ⟨hk, by show D.int (0 + (k : Int)) = _; rw [Int.zero_add]⟩
  · rw [List.getElem?_eq_none (by rw [List.length_range]; omega)] at h
    cases h
theorem len_range {a : Int} {n : Nat} : (rangeD a n).length = n := by unfold rangeD; rw [List.length_map, List.length_range]
theorem toNatN {k : Nat} : ((k : Int)).toNat = k := Int.toNat_natCast k
theorem filN_nil {p : Nat → Bool} : List.filter p [] = [] := id rfl
theorem filN_cons {p : Nat → Bool} {k : Nat} {ks : List Nat} : List.filter p (k :: ks) = if p k = true then k :: List.filter p ks else List.filter p ks := List.filter_cons
theorem smallN {k : Nat} (h : k < 4611686018427387904) : smallI (k : Int) = true := by
  unfold smallI
  rw [decide_eq_true (by omega), decide_eq_true (by omega)]; rfl
def kSlot (i : Nat) (o : Option (Option SV)) (st : Sto) : Res Lc := match o with
    | some (some (.c .own x)) => if x.isL then ok (Lc.slot i) st else none
    | some (some (.d (.ref k))) => match st[k]? with
      | some (.con x) => if x.isL then ok (.cell k) st else none
      | _ => none
    | _ => none
theorem r_nm : resolveK Cn.isL c (.nm i) env st = kSlot i (env[i]?) st := by
  unfold resolveK kSlot
  cases e : env[i]? with
  | none => simp only [resolve, e]; rfl
  | some o =>
    cases o with
    | none => simp only [resolve, e]; rfl
    | some v =>
      cases v with
      | d x =>
        cases x with
        | ref k =>
          simp only [resolve, e, rb_ok, Lc.ow, Ow.cont]
          cases e2 : st[k]? with
          | none => rfl
          | some y => cases y <;> rfl
        | _ => simp only [resolve, e]; rfl
      | c kd x =>
        cases kd with
        | own => simp only [resolve, e, rb_ok, Lc.ow, Ow.cont]
        | _ => simp only [resolve, e]; rfl
      | x y => simp only [resolve, e]; rfl
theorem k_slot {xs : List D} : kSlot i (some (some (.c .own (.l xs)))) st = ok (.slot i) st := id rfl
def kPush (i : Nat) (o : Option (Option SV)) (env : Env) (x : D) (st : Sto) : Option SO := match o with
    | some (some (.c .own (.l xs))) => if xs.length < sizeLine then some (.nx (env.set i (some (.c .own (.l (xs ++ [x]))))) st) else none
    | _ => none
theorem k_app3 (hf : free c i = true) : kApp2 c (.slot i) env x st = kPush i (env[i]?) env x st := by
  have hf' : c.locks.contains (.s i) = false := by
    have : (!c.locks.contains (Ow.s i)) = true := hf
    simpa using this
  unfold kApp2 Lc.get kPush
  cases e : env[i]? with
  | none => simp only [Lc.ow, hf', Ow.cont, e]; rfl
  | some o =>
    cases o with
    | none => simp only [Lc.ow, hf', Ow.cont, e]; rfl
    | some v =>
      cases v with
      | d x => simp only [Lc.ow, hf', Ow.cont, e]; rfl
      | c kd x =>
        cases kd with
        | own => cases x <;> simp only [Lc.ow, hf', Ow.cont, e] <;> rfl
        | _ => simp only [Lc.ow, hf', Ow.cont, e]; rfl
      | x y => simp only [Lc.ow, hf', Ow.cont, e]; rfl
theorem k_push {xs : List D} (h : xs.length < sizeLine) : kPush i (some (some (.c .own (.l xs)))) env x st = some (.nx (env.set i (some (.c .own (.l (xs ++ [x]))))) st) := if_pos h
theorem rev_c {q : Kd} {xs : List D} : revS (.c q (.l xs)) st = ok (.c .own (.l xs.reverse)) st := id rfl
theorem sl_tail {xs : List D} : slc (.d (.tup (x :: xs))) (some 1) none st = ok (.d (.tup xs)) st := by
  show ok (SV.d (.tup (cut (x :: xs) (some 1) none))) st = _
  have : cut (x :: xs) (some 1) none = xs := by
    unfold cut HT.sIx
    simp
  rw [this]
theorem cast0 : ((0 : Nat) : Int) = 0 := id rfl
def Lay (n : Nat) (d : PyData) : Prop := d.canLay0 = true ∧ d.depth ≤ n
def LayA (n : Nat) (ds : List PyData) : Prop := PyData.canLayAll0 ds = true ∧ PyData.depthAll ds ≤ n
theorem lay_int {n : Nat} {i : Int} : Lay n (.int i) := ⟨rfl, Nat.zero_le _⟩
theorem layA_nil {n : Nat} : LayA n [] := ⟨rfl, Nat.zero_le _⟩
theorem layA_cons {n : Nat} {d : PyData} {ds : List PyData} (h : Lay n d) (t : LayA n ds) : LayA n (d :: ds) := by
  refine ⟨?_, Nat.max_le.mpr ⟨h.2, t.2⟩⟩
  show (d.canLay0 && PyData.canLayAll0 ds) = true
  rw [h.1, t.1]; rfl
theorem lay_lst {n : Nat} {ds : List PyData} (t : LayA n ds) : Lay (n + 1) (.list ds) := ⟨t.1, Nat.succ_le_succ t.2⟩
theorem lay_shp {n : Nat} {d : PyData} (h : Lay n d) (le : n ≤ 64) : SeqAt.shaped d = true := by
  show (d.canLay0 && decide (d.depth ≤ 64)) = true
  rw [h.1, decide_eq_true (Nat.le_trans h.2 le)]; rfl
/-- data that == may look through -/
def Lk (n : Nat) (st : Sto) (x : D) : Prop := ∃ d, D.look st depthL x = some d ∧ Lay n d
theorem lk_list {m : Nat} {xs : List D} (h : ∀ x ∈ xs, Lk m st x) : ∃ ds, D.looks st depthL xs = some ds ∧ LayA m ds := by
  induction xs with
  | nil => exact ⟨[], rfl, layA_nil⟩
  | cons x xs ih =>
    obtain ⟨ds, h1, h2⟩ := ih fun y z => h y (List.mem_cons_of_mem _ z)
    obtain ⟨d, h3, h4⟩ := h x (List.mem_cons_self ..)
    refine ⟨d :: ds, ?_, layA_cons h4 h2⟩
    show (match D.look st depthL x, D.looks st depthL xs with | some d, some ds => some (d :: ds) | _, _ => none) = _
    rw [h3, h1]
theorem lk_int {m : Nat} {i : Int} : Lk m st (.int i) := ⟨_, rfl, lay_int⟩
/-- an answer, and what holds of it -/
def Wp (o : Option SO) (Q : SO → Prop) : Prop := ∃ r, o = some r ∧ Q r
theorem wp_some {r : SO} {Q : SO → Prop} (h : Q r) : Wp (some r) Q := ⟨r, rfl, h⟩
theorem wp_res {o : Option SO} {R : Res SV} (h : Wp o fun r => result (some r) = R) : result o = R := by obtain ⟨r, e, q⟩ := h; rw [e]; exact q
theorem wp_mono {o : Option SO} {Q Q' : SO → Prop} (h : Wp o Q) (hq : ∀ r, Q r → Q' r) : Wp o Q' := by obtain ⟨r, e, q⟩ := h; exact ⟨r, e, hq r q⟩
theorem wp_for {turn : D → Env → Sto → Option SO} {k : Env → Sto → Option SO} {Q : SO → Prop} {xs : List D} (I : Nat → Env → Sto → Prop) (h0 : I 0 env st)
    (h1 : ∀ i x, xs[i]? = some x → ∀ env st, I i env st → Wp (turn x env st) fun r => match r with
      | .nx env st => I (i + 1) env st
      | .ct env st => I (i + 1) env st
      | .bk env st => Wp (k env st) Q
      | r => Q r)
    (h2 : ∀ env st, I xs.length env st → Wp (k env st) Q) : Wp (sq (forL turn xs env st) k) Q := by
  obtain ⟨r, e, q⟩ := forL_inv (Q := fun r => Wp (sq (some r) k) Q) I h0 (fun i x hx env st hI => by
    obtain ⟨r, e, q⟩ := h1 i x hx env st hI
    refine ⟨r, e, ?_⟩
    cases r with
    | nx env st => exact q
    | ct env st => exact q
    | bk env st => exact q
    | rt v st => exact ⟨_, rfl, q⟩
    | ex y env st => exact ⟨_, rfl, q⟩) h2
  rw [e]; exact q
theorem stay_par {y : Cn} : stayOf (.c .par y) = [] := id rfl
theorem stay_scr {y : Cn} : stayOf (.c .scr y) = [] := id rfl
theorem stay_own {y : Cn} : stayOf (.c .own y) = [] := id rfl
theorem stay_at {w : Ow} {y : Cn} : stayOf (.c (.at w) y) = [w] := id rfl
theorem s_beq {i j : Nat} : (Ow.s i == Ow.s j) = decide (i = j) := by
  rw [Bool.eq_iff_iff, decide_eq_true_eq, beq_iff_eq]
  exact ⟨fun h => by cases h; rfl, fun h => by rw [h]⟩
theorem b_add {z y : Int} : bin .add (.d (.int z)) (.d (.int y)) st = ok (.d (.int (z + y))) st := id rfl
theorem b_sub {z y : Int} : bin .sub (.d (.int z)) (.d (.int y)) st = ok (.d (.int (z - y))) st := id rfl
theorem b_mul {z y : Int} (h : mulOk z y = true) : bin .mul (.d (.int z)) (.d (.int y)) st = ok (.d (.int (z * y))) st := if_pos h
theorem b_div {z y : Int} (h : divOk y = true) : bin .div (.d (.int z)) (.d (.int y)) st = ok (.d (.int (z / y))) st := if_pos h
theorem b_mod {z y : Int} (h : 0 < y) : bin .mod (.d (.int z)) (.d (.int y)) st = ok (.d (.int (z % y))) st := if_pos h
theorem b_pow {z y : Int} (h : powOk z y = true) : bin .pow (.d (.int z)) (.d (.int y)) st = ok (.d (.int (z ^ y.toNat))) st := if_pos h
variable {kt : List (List D)} {z y : Int}
theorem c_lt : cmp kt .lt (.d (.int z)) (.d (.int y)) st = some (decide (z < y)) := id rfl
theorem c_le : cmp kt .le (.d (.int z)) (.d (.int y)) st = some (decide (z ≤ y)) := id rfl
theorem c_gt : cmp kt .gt (.d (.int z)) (.d (.int y)) st = some (decide (y < z)) := id rfl
theorem c_ge : cmp kt .ge (.d (.int z)) (.d (.int y)) st = some (decide (y ≤ z)) := id rfl
theorem c_eq : cmp kt .eq (.d (.int z)) (.d (.int y)) st = some (decide (z = y)) := id rfl
theorem c_ne : cmp kt .ne (.d (.int z)) (.d (.int y)) st = some (!decide (z = y)) := id rfl
theorem c_eqB {z y : Bool} : cmp kt .eq (.d (.bl z)) (.d (.bl y)) st = some (decide (z = y)) := id rfl
theorem c_eqS {z y : Str} : cmp kt .eq (.d (.str z)) (.d (.str y)) st = some (decide (z = y)) := id rfl
theorem c_isN : cmp kt .is (.d x) (.d .non) st = some (decide (x = .non)) := id rfl
theorem c_isntN : cmp kt .isnt (.d x) (.d .non) st = some (!decide (x = .non)) := id rfl
theorem ix_tup {xs : List D} : idx kt (.d (.tup xs)) (.d (.int z)) st = L2.atI xs z := id rfl
theorem ix_c {q : Kd} {xs : List D} : idx kt (.c q (.l xs)) (.d (.int z)) st = L2.atI xs z := id rfl
theorem bi_lenT {xs : List D} : biF .len [.d (.tup xs)] st = ok (.d (.int xs.length)) st := id rfl
theorem bi_lenC {q : Kd} {xs : List D} : biF .len [.c q (.l xs)] st = ok (.d (.int xs.length)) st := id rfl
theorem bi_int' : biF .int [.d (.int z)] st = ok (.d (.int z)) st := id rfl
theorem bi_listT {xs : List D} : biF .list [.d (.tup xs)] st = ok (.c .own (.l xs)) st := id rfl
theorem bi_listC {q : Kd} {xs : List D} : biF .list [.c q (.l xs)] st = ok (.c .own (.l xs)) st := id rfl
theorem bi_tupleT {xs : List D} : biF .tuple [.d (.tup xs)] st = ok (.d (.tup xs)) st := id rfl
theorem bi_tupleC {q : Kd} {xs : List D} : biF .tuple [.c q (.l xs)] st = ok (.d (.tup xs)) st := id rfl
theorem bi_isi {q : Ty} : biF (.isi q) [u] st = bok (isTy q u st) st := id rfl
theorem tr_bl : truth (.d (.bl bl)) st = some bl := id rfl
theorem tr_int : truth (.d (.int z)) st = some (decide (z ≠ 0)) := id rfl
theorem tr_tup {xs : List D} : truth (.d (.tup xs)) st = some (!xs.isEmpty) := id rfl
theorem tr_c {q : Kd} {xs : List D} : truth (.c q (.l xs)) st = some (!xs.isEmpty) := id rfl
theorem tr_non : truth (.d .non) st = some false := id rfl
theorem q_tupS {xs : List D} : itSeq (.d (.tup xs)) st = ok ⟨xs, []⟩ st := id rfl
theorem q_cS {q : Kd} {xs : List D} : itSeq (.c q (.l xs)) st = ok ⟨xs, stayOf (.c q (.l xs))⟩ st := id rfl
theorem q_cM {q : Kd} {kvs : List (Key × D)} : itSeq (.c q (.m kvs)) st = ok ⟨kvs.map fun p => keyD p.1, stayOf (.c q (.m kvs))⟩ st := id rfl
theorem q_tup {xs : List D} : itRow (.d (.tup xs)) st = ok ⟨xs, []⟩ st := id rfl
theorem q_c {q : Kd} {xs : List D} : itRow (.c q (.l xs)) st = ok ⟨xs, stayOf (.c q (.l xs))⟩ st := id rfl
theorem rt_nx : result (some (.nx env st)) = ok (.d .non) st := id rfl
theorem rt_rt : result (some (.rt u st)) = ok u st := id rfl
end
end Tv
namespace Tv
open PySem L2
section
variable {c : Cl} {env : Env} {st : Sto} {a b e : Ex} {g : Tg} {it : Tv.It} {t : Tx} {u w : SV} {kt : List (List D)} {x y : D} {z m : Int}
theorem sq_assoc {r : Option SO} {k l : Env → Sto → Option SO} : sq (sq r k) l = sq r fun env st => sq (k env st) l := by
  cases r with
  | none => rfl
  | some o => cases o <;> rfl
def kCount : List (List Int) → Sto → Res SV := fun ks st => ok (.d (.int ks.length)) st
theorem k_count {ks : List (List Int)} : kCount ks st = ok (.d (.int ks.length)) st := id rfl
def kLs (c : Cl) (g : Tg) (t : Tx) (e : Ex) (env : Env) : Ito → Sto → Res SV := fun j st => rb (compS (turnC (c.lk j.locks) g t e env) j.xs [] st) kCount
theorem e_ls : ev c (.lenset g it t e) env st = rb (evI c it env st) (kLs c g t e env) := id rfl
theorem k_ls {q : Ito} : kLs c g t e env q st = rb (compS (turnC (c.lk q.locks) g t e env) q.xs [] st) kCount := id rfl
def kZip4 (j : Ito) : Ito → Sto → Res Ito := fun k st => ok ⟨(j.xs.zip k.xs).map fun p => .tup [p.1, p.2], j.locks ++ k.locks⟩ st
def kZip3 (j : Ito) : SV → Sto → Res Ito := fun w st => rb (itRow w st) (kZip4 j)
def kZip2 (c : Cl) (b : Ex) (env : Env) : Ito → Sto → Res Ito := fun j st => rb (ev (c.lk j.locks) b env st) (kZip3 j)
def kZip1 (c : Cl) (b : Ex) (env : Env) : SV → Sto → Res Ito := fun u st => rb (itRow u st) (kZip2 c b env)
theorem i_zip : evI c (.zip a b) env st = rb (ev c a env st) (kZip1 c b env) := id rfl
theorem k_zip1 : kZip1 c b env u st = rb (itRow u st) (kZip2 c b env) := id rfl
theorem k_zip2 {j : Ito} : kZip2 c b env j st = rb (ev (c.lk j.locks) b env st) (kZip3 j) := id rfl
theorem k_zip3 {j : Ito} : kZip3 j w st = rb (itRow w st) (kZip4 j) := id rfl
theorem k_zip4 {j k : Ito} : kZip4 j k st = ok ⟨(j.xs.zip k.xs).map fun p => .tup [p.1, p.2], j.locks ++ k.locks⟩ st := id rfl
def kDrop (env : Env) : SV → Sto → Option SO := fun _ st => some (.nx env st)
theorem x_drop : exec c (.drop e) env st = sb (ev c e env st) env (kDrop env) := id rfl
theorem k_drop : kDrop env u st = some (.nx env st) := id rfl
theorem bi_max2 : biF .max [.d (.int z), .d (.int m)] st = ok (.d (.int (if m > z then m else z))) st := id rfl
theorem bi_min2 : biF .min [.d (.int z), .d (.int m)] st = ok (.d (.int (if m < z then m else z))) st := id rfl
theorem allInt_map {is : List Int} : allInt (is.map D.int) = some is := by
  unfold allInt
  have h1 : (is.map D.int).all D.isInt = true := by rw [List.all_map]; exact List.all_eq_true.mpr fun _ _ => rfl
  rw [if_pos h1, List.map_map]
  exact congrArg some (by rw [show D.int' ∘ D.int = id from rfl, List.map_id])
theorem sl_two {xs : List D} : slc (.d (.tup (x :: y :: xs))) none (some 2) st = ok (.d (.tup [x, y])) st := by
  show ok (SV.d (.tup (cut (x :: y :: xs) none (some 2)))) st = _
  have : cut (x :: y :: xs) none (some 2) = [x, y] := by
    unfold cut HT.sIx
    simp
  rw [this]
theorem c_eqT2 {i j : Int} : cmp kt .eq (.d (.tup [.int z, .int m])) (.d (.tup [.int i, .int j])) st = some (decide (z = i) && decide (m = j)) := by
  show some (PyData.eqv (.tuple [.int z, .int m]) (.tuple [.int i, .int j])) = _
  congr 1
  show ((z == i) && ((m == j) && true)) = _
  rw [Bool.and_true, Bool.eq_iff_iff]
  simp
theorem c_neT2 {i j : Int} : cmp kt .ne (.d (.tup [.int z, .int m])) (.d (.tup [.int i, .int j])) st = some (!(decide (z = i) && decide (m = j))) := by
  show (cmp kt .eq (.d (.tup [.int z, .int m])) (.d (.tup [.int i, .int j])) st).map (!·) = _
  rw [c_eqT2]
  rfl
theorem inP_ints {is : List Int} {q : Kd} : inS kt (.d (.int z)) (.c q (.l (is.map .int))) st = some (decide (z ∈ is)) := by
  have h1 : ∀ x ∈ is.map D.int, Lk 1 st x := fun x hx => by
    obtain ⟨i, _, rfl⟩ := List.mem_map.mp hx
    exact lk_int
  have e1 : D.looks st depthL (is.map D.int) = some (is.map PyData.int) := by
    clear h1
    induction is with
    | nil => rfl
    | cons i is ih =>
      show (match D.look st depthL (.int i), D.looks st depthL (is.map D.int) with | some d, some ds => some (d :: ds) | _, _ => none) = _
      rw [ih]
      rfl
  obtain ⟨ds, h2, h3⟩ := lk_list h1
  rw [e1] at h2
  cases h2
  have hs := lay_shp (lay_lst h3) (by decide)
  show inP (some (.int z)) (pyL st (is.map D.int)) = _
  have e2 : pyL st (is.map D.int) = some (.list (is.map PyData.int)) := by
    unfold pyL
    rw [e1]
    show (if SeqAt.shaped (.list (is.map PyData.int)) = true then some _ else none) = _
    rw [if_pos hs]
  rw [e2]
  show some ((is.map PyData.int).any fun y => PyData.eqv y (.int z)) = _
  congr 1
  rw [List.any_map, Bool.eq_iff_iff, List.any_eq_true, decide_eq_true_eq]
  constructor
  · rintro ⟨i, hi, e⟩
    have e' : (i == z) = true := e
    rw [eq_of_beq e'] at hi
    exact hi
  · exact fun h => ⟨z, h, (beq_self_eq_true z : (z == z) = true)⟩
theorem c_inI {is : List Int} {q : Kd} : cmp kt .in (.d (.int z)) (.c q (.l (is.map .int))) st = some (decide (z ∈ is)) := inP_ints (kt := kt) (q := q)
theorem c_notinI {is : List Int} {q : Kd} : cmp kt .notin (.d (.int z)) (.c q (.l (is.map .int))) st = some (!decide (z ∈ is)) := by
  show (inS kt (.d (.int z)) (.c q (.l (is.map .int))) st).map (!·) = _
  rw [inP_ints]
  rfl
end
end Tv
namespace Tv
open PySem L2
section
variable {c : Cl} {env : Env} {st : Sto} {a b e k : Ex} {es : Exs} {u w : SV} {kt : List (List D)} {x y : D} {z m : Int} {i : Nat}
def kDct2 : List D → Sto → Res SV := fun xs st => match pairUp xs with
    | some ps => if ps.length ≤ 15 then ok (.c .own (.m (putAll [] ps))) st else none
    | none => none
def kDct : List SV → Sto → Res SV := fun as st => rb (toDs as st) kDct2
theorem e_dct : ev c (.dct es) env st = rb (evs c es env st) kDct := id rfl
theorem k_dct {as : List SV} : kDct as st = rb (toDs as st) kDct2 := id rfl
theorem k_dct1 : kDct2 [.int z, x] st = ok (.c .own (.m [(.inl z, x)])) st := id rfl
theorem e_dct0K : ev c (.dct0 false) env st = ok (.c .own (.m [])) st := id rfl
theorem e_dct0T : ev c (.dct0 true) env st = ok (.c .own (.t [])) st := id rfl
theorem bi_dictC {q : Kd} {kvs : List (Key × D)} : biF .dict [.c q (.m kvs)] st = ok (.c .own (.m kvs)) st := id rfl
theorem ix_m {q : Kd} {kvs : List (Key × D)} : idx kt (.c q (.m kvs)) (.d (.int z)) st = look kvs (.inl z) := id rfl
theorem c_inM {q : Kd} {kvs : List (Key × D)} : cmp kt .in (.d (.int z)) (.c q (.m kvs)) st = some (look kvs (.inl z)).isSome := id rfl
theorem c_notinM {q : Kd} {kvs : List (Key × D)} : cmp kt .notin (.d (.int z)) (.c q (.m kvs)) st = some (!(look kvs (.inl z)).isSome) := id rfl
theorem is_some {α : Type} {x : α} : (some x).isSome = true := id rfl
theorem is_none {α : Type} : (none : Option α).isSome = false := id rfl
def kPut4 (c : Cl) (l : Lc) (kv : SV) (env : Env) : D → Sto → Option SO := fun y st => match (l.get c env st).bind fun x => putD c.kts x kv y with
        | some x => some (.nx (l.set x env st).1 (l.set x env st).2)
        | none => none
def kPut3 (c : Cl) (l : Lc) (u : SV) (env : Env) : SV → Sto → Option SO := fun kv st => sb (toD u st) env (kPut4 c l kv env)
def kPut2 (c : Cl) (k : Ex) (u : SV) (env : Env) : Lc → Sto → Option SO := fun l st => sb (ev (c.lk (l.ow :: lockOf u)) k env st) env (kPut3 c l u env)
def kPut (c : Cl) (p : Pl) (k : Ex) (env : Env) : SV → Sto → Option SO := fun u st => sb (resolve (c.lk (lockOf u)) p env st) env (kPut2 c k u env)
theorem x_put {p : Pl} : exec c (.put p k e) env st = sb (ev c e env st) env (kPut c p k env) := id rfl
theorem k_put {p : Pl} : kPut c p k env u st = sb (resolve (c.lk (lockOf u)) p env st) env (kPut2 c k u env) := id rfl
theorem k_put2 {l : Lc} : kPut2 c k u env l st = sb (ev (c.lk (l.ow :: lockOf u)) k env st) env (kPut3 c l u env) := id rfl
theorem k_put3 {l : Lc} : kPut3 c l u env w st = sb (toD u st) env (kPut4 c l w env) := id rfl
def kSlot0 (i : Nat) (o : Option (Option SV)) (st : Sto) : Res Lc := match o with
    | some (some (.c .own _)) => ok (.slot i) st
    | some (some (.d (.ref k))) => ok (.cell k) st
    | _ => none
theorem r_nm0 : resolve c (.nm i) env st = kSlot0 i (env[i]?) st := id rfl
theorem k_slot0 {x : Cn} : kSlot0 i (some (some (.c .own x))) st = ok (.slot i) st := id rfl
def kPutM (c : Cl) (i : Nat) (o : Option (Option SV)) (kv : SV) (env : Env) (y : D) (st : Sto) : Option SO := match o with
    | some (some (.c .own x)) => match putD c.kts x kv y with
      | some x => some (.nx (env.set i (some (.c .own x))) st)
      | none => none
    | _ => none
theorem k_put4 (hf : free c i = true) : kPut4 c (.slot i) w env y st = kPutM c i (env[i]?) w env y st := by
  have hf' : c.locks.contains (.s i) = false := by
    have : (!c.locks.contains (Ow.s i)) = true := hf
    simpa using this
  have hf2 : c.locks.contains (Lc.slot i).ow = false := hf'
  unfold kPut4 Lc.get kPutM
  rw [hf2]
  have hc : (Lc.slot i).ow.cont env st = match env[i]? with | some (some (.c .own x)) => some x | _ => none := rfl
  rw [hc]
  cases e : env[i]? with
  | none => rfl
  | some o =>
    cases o with
    | none => rfl
    | some v =>
      cases v with
      | d x => rfl
      | x y => rfl
      | c kd x =>
        cases kd with
        | own =>
          show (match putD c.kts x w y with
            | some x => some (SO.nx ((Lc.slot i).set x env st).1 ((Lc.slot i).set x env st).2)
            | none => none) = (match putD c.kts x w y with
            | some x => some (SO.nx (env.set i (some (.c .own x))) st)
            | none => none)
          cases putD c.kts x w y <;> rfl
        | _ => rfl
theorem k_putM {kvs : List (Key × D)} (hl : kvs.length < sizeLine) : kPutM c i (some (some (.c .own (.m kvs)))) (.d (.int z)) env y st = some (.nx (env.set i (some (.c .own (.m (put kvs (.inl z) y))))) st) := by
  show (match (if kvs.length < sizeLine then some (Cn.m (put kvs (.inl z) y)) else none) with
      | some x => some (SO.nx (env.set i (some (.c .own x))) st)
      | none => none) = _
  rw [if_pos hl]
def kProm (c : Cl) (i : Nat) (o : Option (Option SV)) (env : Env) (st : Sto) : Option SO := match o with
    | some (some (.c .own x)) => if free c i then some (.nx (env.set i (some (.d (.ref st.length)))) (st ++ [.con x])) else none
    | _ => some (.nx env st)
theorem x_prom : exec c (.prom i) env st = kProm c i (env[i]?) env st := id rfl
theorem k_promO {x : Cn} (h : free c i = true) : kProm c i (some (some (.c .own x))) env st = some (.nx (env.set i (some (.d (.ref st.length)))) (st ++ [.con x])) := if_pos h
theorem k_promD : kProm c i (some (some (.d x))) env st = some (.nx env st) := id rfl
end
end Tv
namespace Tv
open PySem L2
section
variable {st : Sto} {kt : List (List D)} {x : D} {z : Int} {k : Nat}
def kRef (o : Option Cell) (z : Int) : Option D := match o with
  | some (.con (.l xs)) => L2.atI xs z
  | some (.con (.m kvs)) => look kvs (.inl z)
  | _ => none
theorem ix_ref : idx kt (.d (.ref k)) (.d (.int z)) st = kRef (st[k]?) z := by
  show (match (match st[k]? with | some (.con x) => some x | _ => none) with
      | some (.l xs) => L2.atI xs z
      | some (.m kvs) => look kvs (.inl z)
      | some (.t kvs) => none
      | none => none) = _
  cases st[k]? with
  | none => rfl
  | some c =>
    cases c with
    | ins C fs => rfl
    | con x => cases x <;> rfl
theorem k_refL {xs : List D} : kRef (some (.con (.l xs))) z = L2.atI xs z := id rfl
def kIsL (o : Option Cell) : Option Bool := match o with
  | some (.con (.l _)) => some true
  | some (.con (.m _)) => some false
  | _ => none
theorem ty_ref : isTy .list (.d (.ref k)) st = kIsL (st[k]?) := by
  show (match st[k]? with
    | some (.con (.l _)) => some (decide (Ty.list = Ty.list))
    | some (.con (.m _)) => some (decide (Ty.list = Ty.dict))
    | _ => none) = _
  cases st[k]? with
  | none => rfl
  | some c =>
    cases c with
    | ins C fs => rfl
    | con x => cases x <;> rfl
theorem k_isL {xs : List D} : kIsL (some (.con (.l xs))) = some true := id rfl
def kTupR (o : Option Cell) (st : Sto) : Res SV := match o with
  | some (.con (.l xs)) => ok (.d (.tup xs)) st
  | _ => none
theorem bi_tupleR : biF .tuple [.d (.ref k)] st = kTupR (st[k]?) st := by
  show (match (match st[k]? with | some (.con x) => some x | _ => none) with
      | some (.l xs) => ok (SV.d (.tup xs)) st
      | _ => none) = _
  cases st[k]? with
  | none => rfl
  | some c =>
    cases c with
    | ins C fs => rfl
    | con x => cases x <;> rfl
theorem k_tupR {xs : List D} : kTupR (some (.con (.l xs))) st = ok (.d (.tup xs)) st := id rfl
theorem last_at {c : Cell} : (st ++ [c])[st.length]? = some c := by rw [List.getElem?_append_right (Nat.le_refl _), Nat.sub_self]; rfl
end
end Tv
namespace Tv
open PySem L2
section
variable {c : Cl} {env : Env} {st : Sto} {y : D} {z m : Int} {i : Nat} {a b : Ex} {u : SV}
theorem ix_t {q : Kd} {kvs : List (List Key × D)} : idx [] (.c q (.t kvs)) (.d (.tup [.int z, .int m])) st = look kvs [.inl z, .inl m] := id rfl
theorem c_notinT {q : Kd} {kvs : List (List Key × D)} : cmp [] .notin (.d (.tup [.int z, .int m])) (.c q (.t kvs)) st = some (!(look kvs [.inl z, .inl m]).isSome) := id rfl
theorem k_putT {kvs : List (List Key × D)} (hk : c.kts = []) (hl : kvs.length < sizeLine) : kPutM c i (some (some (.c .own (.t kvs)))) (.d (.tup [.int z, .int m])) env y st = some (.nx (env.set i (some (.c .own (.t (put kvs [.inl z, .inl m] y))))) st) := by
  show (match putD c.kts (.t kvs) (.d (.tup [.int z, .int m])) y with
      | some x => some (SO.nx (env.set i (some (.c .own x))) st)
      | none => none) = _
  rw [hk]
  show (match (if kvs.length < sizeLine then some (Cn.t (put kvs [.inl z, .inl m] y)) else none) with
      | some x => some (SO.nx (env.set i (some (.c .own x))) st)
      | none => none) = _
  rw [if_pos hl]
def kEnum2 (s : Int) : Ito → Sto → Res Ito := fun j st => ok ⟨(j.xs.zipIdx).map fun p => .tup [.int (s + p.2), p.1], j.locks⟩ st
def kEnum (s : Int) : SV → Sto → Res Ito := fun u st => rb (itRow u st) (kEnum2 s)
theorem i_enum {s : Int} : evI c (.enum a s) env st = rb (ev c a env st) (kEnum s) := id rfl
theorem k_enum {s : Int} : kEnum s u st = rb (itRow u st) (kEnum2 s) := id rfl
theorem k_enum2 {s : Int} {j : Ito} : kEnum2 s j st = ok ⟨(j.xs.zipIdx).map fun p => .tup [.int (s + p.2), p.1], j.locks⟩ st := id rfl
end
end Tv
namespace Tv
open PySem L2
theorem ofS_inj {a b : String} (h : Str.ofString a = Str.ofString b) : a = b := by
  rw [Str.ofString_eq_toList, Str.ofString_eq_toList] at h
  have h1 : a.toList.map Char.toNat = b.toList.map Char.toNat := by
    injection h with h
    simpa using congrArg Array.toList h
  have h2 : a.toList = b.toList := by
    have inj : ∀ (l m : List Char), l.map Char.toNat = m.map Char.toNat → l = m := by
      intro l
      induction l with
      | nil => intro m hm; cases m with | nil => rfl | cons c m => cases hm
      | cons c l ih =>
        intro m hm
        cases m with
        | nil => cases hm
        | cons d m =>
          rw [List.map_cons, List.map_cons, List.cons.injEq] at hm
          rw [ih m hm.2, Char.toNat_inj.mp hm.1]
    exact inj _ _ h1
  exact String.toList_inj.mp h2
theorem s_eqP {a b : String} : (Str.ofString a = Str.ofString b) = (a = b) := propext ⟨ofS_inj, fun h => by rw [h]⟩
theorem s_eqB {a b : String} : (Str.ofString a == Str.ofString b) = decide (a = b) := by
  by_cases h : a = b
  · subst h; rw [decide_eq_true rfl]; exact beq_self_eq_true _
  · rw [decide_eq_false h]
    exact beq_eq_false_iff_ne.mpr fun z => h (ofS_inj z)
section
variable {α β : Type} {P : Prog} {n i j m C f : Nat} {L l : List Ow} {env : Env} {st : Sto} {c : Cl} {a b d e v : Ex} {es : Exs} {u w : SV} {x y : D} {fs : List (Str × FV)} {g h : Str} {cs : List (Nat × Nat)} {cn : Cn} {cell : Cell} {k : Env → Sto → Option SO}
def Ow.obj : Ow → Option Nat
  | .c k => some k
  | .f k _ => some k
  | .s _ => none
/-- nothing of the instance or the container i is locked -/
def LkF (L : List Ow) (i : Nat) : Prop := ∀ o ∈ L, o.obj ≠ some i
theorem lkf_nil : LkF [] i = True := propext ⟨fun _ => trivial, fun _ o h => by cases h⟩
theorem lkf_filter {p : Ow → Bool} (h : LkF L i) : LkF (L.filter p) i := fun o ho => h o (List.mem_filter.mp ho).1
theorem lkf_filt : LkF (L.filter Ow.inStore) i = LkF L i := propext ⟨fun h o ho z => by
  cases o with
  | s j => cases z
  | c k => exact h _ (List.mem_filter.mpr ⟨ho, rfl⟩) z
  | f k g => exact h _ (List.mem_filter.mpr ⟨ho, rfl⟩) z, lkf_filter⟩
theorem lkf_c : LkF (.c j :: L) i = (j ≠ i ∧ LkF L i) := propext ⟨fun h => ⟨fun z => h (.c j) List.mem_cons_self (by rw [z]; rfl), fun o ho => h o (List.mem_cons_of_mem _ ho)⟩, fun h o ho => by
  rcases List.mem_cons.mp ho with rfl | ho
  · intro z; exact h.1 (Option.some.inj z)
  · exact h.2 o ho⟩
theorem lkf_f : LkF (.f j g :: L) i = (j ≠ i ∧ LkF L i) := propext ⟨fun h => ⟨fun z => h (.f j g) List.mem_cons_self (by rw [z]; rfl), fun o ho => h o (List.mem_cons_of_mem _ ho)⟩, fun h o ho => by
  rcases List.mem_cons.mp ho with rfl | ho
  · intro z; exact h.1 (Option.some.inj z)
  · exact h.2 o ho⟩
theorem lkf_s : LkF (.s j :: L) i = LkF L i := propext ⟨fun h o ho => h o (List.mem_cons_of_mem _ ho), fun h o ho => by
  rcases List.mem_cons.mp ho with rfl | ho
  · intro z; cases z
  · exact h o ho⟩
theorem lkf_app {L M : List Ow} : LkF (L ++ M) i = (LkF L i ∧ LkF M i) := propext ⟨fun h => ⟨fun o ho => h o (List.mem_append.mpr (.inl ho)), fun o ho => h o (List.mem_append.mpr (.inr ho))⟩, fun h o ho => (List.mem_append.mp ho).elim (h.1 o) (h.2 o)⟩
theorem nlk {o : Ow} (h : LkF L i) (ho : o.obj = some i) : (P.cl (P.call n) L).locks.contains o = false := by
  rw [Bool.eq_false_iff]
  intro z
  exact h o (List.contains_iff_mem.mp z) ho
theorem may_ok (h : LkF L i) : mayFld (P.cl (P.call n) L) i g = true := by
  unfold mayFld
  rw [nlk h rfl, nlk h rfl]
  rfl
def attrV (i : Nat) (f : Str) (o : Option FV) (st : Sto) : Res SV := match o with
  | some (FV.d x) => ok (SV.d x) st
  | some (FV.c false x) => ok (SV.c (.at (.f i f)) x) st
  | some (FV.c true x) => ok (SV.c .par x) st
  | none => none
def attrO (i : Nat) (f : Str) (o : Option Cell) (st : Sto) : Res SV := match o with
  | some (.ins _ fs) => attrV i f (fs.lookup f) st
  | _ => none
def kAttr (f : Str) : SV → Sto → Res SV := fun u st => attr u f st
theorem e_attr : ev c (.attr a g) env st = rb (ev c a env st) (kAttr g) := id rfl
theorem k_attr : kAttr g (.d (.ref i)) st = attrO i g (st[i]?) st := by
  unfold kAttr attr attrO
  cases e : st[i]? with
  | none => simp only [insAt, e]
  | some y =>
    cases y with
    | con x => simp only [insAt, e]
    | ins C fs =>
      simp only [insAt, e]
      unfold attrV
      cases fs.lookup g with
      | none => rfl
      | some y => cases y with
        | d x => rfl
        | c z x => cases z <;> rfl
theorem attr_o : attrO i g (some (Cell.ins C fs)) st = attrV i g (fs.lookup g) st := id rfl
theorem attr_d : attrV i g (some (FV.d x)) st = ok (SV.d x) st := id rfl
theorem attr_c : attrV i g (some (FV.c false cn)) st = ok (SV.c (.at (.f i g)) cn) st := id rfl
theorem attr_z : attrV i g (some (FV.c true cn)) st = ok (SV.c .par cn) st := id rfl
def insO (i : Nat) (o : Option Cell) : Option (Nat × Nat × List (Str × FV)) := match o with
  | some (.ins C fs) => some (i, C, fs)
  | _ => none
theorem ins_at : insAt st (.d (.ref i)) = insO i (st[i]?) := by
  show (match st[i]? with | some (.ins C fs) => some (i, C, fs) | _ => none) = _
  cases st[i]? with
  | none => rfl
  | some y => cases y <;> rfl
theorem ins_o : insO i (some (Cell.ins C fs)) = some (i, C, fs) := id rfl
def kMeth1 (c : Cl) (cs : List (Nat × Nat)) (es : Exs) (env : Env) (o : Option (Nat × Nat × List (Str × FV))) (st : Sto) : Res SV := match o with
    | some (i, C, _) => match cs.lookup C with
      | some f => rb (evs c es env st) fun as st => c.go f (.d (.ref i) :: as) st
      | none => none
    | none => none
def kMeth (c : Cl) (cs : List (Nat × Nat)) (es : Exs) (env : Env) : SV → Sto → Res SV := fun u st => kMeth1 c cs es env (insAt st u) st
theorem e_meth : ev c (.meth a cs es) env st = rb (ev c a env st) (kMeth c cs es env) := id rfl
theorem k_meth : kMeth c cs es env (.d (.ref i)) st = kMeth1 c cs es env (insO i (st[i]?)) st := by rw [← ins_at]; rfl
def kMethG (c : Cl) (f i : Nat) : List SV → Sto → Res SV := fun as st => c.go f (.d (.ref i) :: as) st
def kMeth2 (c : Cl) (o : Option Nat) (es : Exs) (env : Env) (i : Nat) (st : Sto) : Res SV := match o with
      | some f => rb (evs c es env st) (kMethG c f i)
      | none => none
theorem k_meth1 : kMeth1 c cs es env (some (i, C, fs)) st = kMeth2 c (cs.lookup C) es env i st := id rfl
theorem k_meth2 : kMeth2 c (some f) es env i st = rb (evs c es env st) (kMethG c f i) := id rfl
theorem k_methG {as : List SV} : kMethG c f i as st = c.go f (.d (.ref i) :: as) st := id rfl
def kProp1 (c : Cl) (cs : List (Nat × Nat)) (o : Option (Nat × Nat × List (Str × FV))) (st : Sto) : Res SV := match o with
    | some (i, C, _) => match cs.lookup C with
      | some f => nox (c.go f [.d (.ref i)] st)
      | none => none
    | none => none
def kProp (c : Cl) (cs : List (Nat × Nat)) : SV → Sto → Res SV := fun u st => kProp1 c cs (insAt st u) st
theorem e_prop : ev c (.prop a cs) env st = rb (ev c a env st) (kProp c cs) := id rfl
theorem k_prop : kProp c cs (.d (.ref i)) st = kProp1 c cs (insO i (st[i]?)) st := by rw [← ins_at]; rfl
def kProp2 (c : Cl) (o : Option Nat) (i : Nat) (st : Sto) : Res SV := match o with
      | some f => nox (c.go f [.d (.ref i)] st)
      | none => none
theorem k_prop1 : kProp1 c cs (some (i, C, fs)) st = kProp2 c (cs.lookup C) i st := id rfl
theorem k_prop2 : kProp2 c (some f) i st = nox (c.go f [.d (.ref i)] st) := id rfl
theorem nox_ok {r : SV} : nox (some (.ok r st)) = ok r st := id rfl
theorem lk_cons {D : Nat} : List.lookup C ((D, f) :: cs) = if C = D then some f else cs.lookup C := by
  rw [List.lookup_cons]
  by_cases h : C = D
  · subst h; rw [if_pos rfl, beq_self_eq_true]
  · rw [if_neg h, beq_eq_false_iff_ne.mpr h]
def kMade (n : Nat) : SV → Sto → Res SV := fun u st' => match u with
        | .d .non => ok (.d (.ref n)) st'
        | _ => none
def kMake (c : Cl) (C f : Nat) : List SV → Sto → Res SV := fun as st => rb (c.go f (.d (.ref st.length) :: as) (st ++ [.ins C []])) (kMade st.length)
theorem e_make : ev c (.make C f es) env st = rb (evs c es env st) (kMake c C f) := id rfl
theorem k_make {as : List SV} : kMake c C f as st = rb (c.go f (.d (.ref st.length) :: as) (st ++ [.ins C []])) (kMade st.length) := id rfl
theorem k_made : kMade m (.d .non) st = ok (.d (.ref m)) st := id rfl
def fldO (c : Cl) (i : Nat) (f : Str) (y : Option FV) (o : Option Cell) (env : Env) (st : Sto) (k : Env → Sto → Option SO) : Option SO := match o with
  | some (.ins C fs) => if mayFld c i f && (decide (fs.length < 1000) && okFld c C f fs) then match y with
        | some y => k env (st.set i (.ins C (putFs f y fs)))
        | none => none
      else none
  | _ => none
def kStore (c : Cl) (f : Str) (v : SV) (env : Env) (k : Env → Sto → Option SO) : SV → Sto → Option SO := fun u st => match insAt st u with
    | some (i, C, fs) => if mayFld c i f && (decide (fs.length < 1000) && okFld c C f fs) then match fvOf v with
        | some x => k env (setFld st i f x)
        | none => none
      else none
    | none => none
theorem k_store : kStore c g u env k (.d (.ref i)) st = fldO c i g (fvOf u) (st[i]?) env st k := by
  unfold kStore fldO
  rw [ins_at]
  cases e : st[i]? with
  | none => rfl
  | some y =>
    cases y with
    | con x => rfl
    | ins C fs =>
      have : ∀ z, setFld st i g z = st.set i (.ins C (putFs g z fs)) := fun z => by unfold setFld; rw [e]
      simp only [insO, this]
theorem fld_o {z : FV} (h : LkF L i) (hl : fs.length < 1000) (ho : okFld (P.cl (P.call n) L) C g fs = true) : fldO (P.cl (P.call n) L) i g (some z) (some (.ins C fs)) env st k = k env (st.set i (.ins C (putFs g z fs))) := by
  show (if (mayFld (P.cl (P.call n) L) i g && (decide (fs.length < 1000) && okFld (P.cl (P.call n) L) C g fs)) = true then k env (st.set i (.ins C (putFs g z fs))) else none) = _
  rw [may_ok h, ho, decide_eq_true hl]
  rfl
theorem fv_d : fvOf (.d x) = some (.d x) := id rfl
theorem fv_c : fvOf (.c .own cn) = some (.c false cn) := id rfl
theorem okf_cons {z : FV} : okFld c C g ((h, z) :: fs) = (g == h || okFld c C g fs) := by
  unfold okFld
  rw [List.lookup_cons]
  cases g == h <;> rfl
theorem okf_nil : okFld (P.cl (P.call n) L) C g [] = P.flds.contains (C, g) := id rfl
theorem put_nil {z : FV} : putFs g z [] = [(g, z)] := id rfl
theorem put_cons {z y : FV} : putFs g z ((h, y) :: fs) = if h = g then (h, z) :: fs else (h, y) :: putFs g z fs := id rfl
def kFld (c : Cl) (e : Ex) (f : Str) (env : Env) : SV → Sto → Option SO := fun v st => store c env e f v st fun env st => some (.nx env st)
def kNx : Env → Sto → Option SO := fun env st => some (.nx env st)
theorem x_fld : exec c (.fld e g v) env st = sb (ev c v env st) env (kFld c e g env) := id rfl
theorem k_fld : kFld c e g env u st = sb (ev c e env st) env (kStore c g u env kNx) := id rfl
theorem k_nx : kNx env st = some (.nx env st) := id rfl
def kNxU (j : Nat) : Env → Sto → Option SO := fun env st => some (.nx (env.set j none) st)
theorem k_nxU : kNxU j env st = some (.nx (env.set j none) st) := id rfl
def kFldMv (c : Cl) (e : Ex) (f : Str) (j : Nat) (o : Option (Option SV)) (env : Env) (st : Sto) : Option SO := match o with
    | some (some (.c .own x)) => if free c j then store c env e f (.c .own x) st fun env st => some (.nx (env.set j none) st) else none
    | some (some (.d x)) => store c env e f (.d x) st fun env st => some (.nx env st)
    | _ => none
theorem x_fldMv : exec c (.fldMv e g j) env st = kFldMv c e g j (env[j]?) env st := id rfl
theorem k_fldMvO : kFldMv c e g j (some (some (.c .own cn))) env st = if free c j = true then sb (ev c e env st) env (kStore c g (.c .own cn) env (kNxU j)) else none := id rfl
theorem k_fldMvD : kFldMv c e g j (some (some (.d x))) env st = sb (ev c e env st) env (kStore c g (.d x) env kNx) := id rfl
/-- e.f, e.g = v, w -/
def kFld22 (c : Cl) (e : Ex) (f h : Str) (env : Env) (v : SV) : SV → Sto → Option SO := fun w st => match v, w with
    | .d x, .d y => store c env e f (.d x) st fun env st => store c env e h (.d y) st fun env st => some (.nx env st)
    | _, _ => none
def kFld21 (c : Cl) (e : Ex) (f h : Str) (b : Ex) (env : Env) : SV → Sto → Option SO := fun v st => sb (ev (c.lk (lockOf v)) b env st) env (kFld22 c e f h env v)
theorem x_fld2 : exec c (.fld2 e g h a b) env st = sb (ev c a env st) env (kFld21 c e g h b env) := id rfl
theorem k_fld21 : kFld21 c e g h b env u st = sb (ev (c.lk (lockOf u)) b env st) env (kFld22 c e g h env u) := id rfl
def kSto (c : Cl) (e : Ex) (f : Str) (v : SV) (k : Env → Sto → Option SO) : Env → Sto → Option SO := fun env st => sb (ev c e env st) env (kStore c f v env k)
theorem k_sto : kSto c e g u k env st = sb (ev c e env st) env (kStore c g u env k) := id rfl
theorem k_fld22 : kFld22 c e g h env (.d x) (.d y) st = sb (ev c e env st) env (kStore c g (.d x) env (kSto c e h (.d y) kNx)) := id rfl
/-- e.f op= v -/
def kAugF3 (c : Cl) (i C : Nat) (f : Str) (z : Option Int) (o : Option Cell) (env : Env) (st : Sto) : Option SO := match z with
  | some z => match o with
    | some (.ins C' fs) => if mayFld c i f && (decide (fs.length < 1000) && (decide (C' = C) && (fs.lookup f).isSome)) then some (.nx env (setFld st i f (.d (.int z)))) else none
    | _ => none
  | none => none
def kAugF2 (c : Cl) (i C : Nat) (f : Str) (o : Bo) (p : Int) (env : Env) : SV → Sto → Option SO := fun w st => match w with
    | .d (.int q) => kAugF3 c i C f (augI o p q) (st[i]?) env st
    | _ => none
def kAugF1 (c : Cl) (f : Str) (o : Bo) (v : Ex) (i C : Nat) (w : Option FV) (env : Env) (st : Sto) : Option SO := match w with
  | some (.d (.int p)) => sb (ev c v env st) env (kAugF2 c i C f o p env)
  | _ => none
def kAugF (c : Cl) (f : Str) (o : Bo) (v : Ex) (env : Env) : SV → Sto → Option SO := fun u st => match insAt st u with
    | some (i, C, fs) => kAugF1 c f o v i C (fs.lookup f) env st
    | none => none
theorem x_augFld {o : Bo} : exec c (.augFld e g o v) env st = sb (ev c e env st) env (kAugF c g o v env) := id rfl
def kAugO (c : Cl) (f : Str) (o : Bo) (v : Ex) (env : Env) (q : Option (Nat × Nat × List (Str × FV))) (st : Sto) : Option SO := match q with
    | some (i, C, fs) => kAugF1 c f o v i C (fs.lookup f) env st
    | none => none
theorem k_augF {o : Bo} : kAugF c g o v env (.d (.ref i)) st = kAugO c g o v env (insO i (st[i]?)) st := by rw [← ins_at]; rfl
theorem k_augO {o : Bo} : kAugO c g o v env (some (i, C, fs)) st = kAugF1 c g o v i C (fs.lookup g) env st := id rfl
theorem k_augF1 {o : Bo} {p : Int} : kAugF1 c g o v i C (some (FV.d (.int p))) env st = sb (ev c v env st) env (kAugF2 c i C g o p env) := id rfl
theorem k_augF2 {o : Bo} {p q : Int} : kAugF2 c i C g o p env (.d (.int q)) st = kAugF3 c i C g (augI o p q) (st[i]?) env st := id rfl
theorem aug_add {p q : Int} : augI .add p q = some (p + q) := id rfl
theorem aug_sub {p q : Int} : augI .sub p q = some (p - q) := id rfl
theorem k_augF3 {z : Int} (h : LkF L i) (e : st[i]? = some (.ins C fs)) (hl : fs.length < 1000) (hs : (fs.lookup g).isSome = true) : kAugF3 (P.cl (P.call n) L) i C g (some z) (some (.ins C fs)) env st = some (.nx env (st.set i (.ins C (putFs g (.d (.int z)) fs)))) := by
  have : setFld st i g (.d (.int z)) = st.set i (.ins C (putFs g (.d (.int z)) fs)) := by unfold setFld; rw [e]
  unfold kAugF3
  simp only [may_ok h, hl, hs, this, decide_true, Bool.and_true, if_true]
def resV (i : Nat) (g : Str) (o : Option FV) (st : Sto) : Res Lc := match o with
  | some (FV.c false _) => ok (Lc.fld i g) st
  | some (FV.d (.ref k)) => ok (Lc.cell k) st
  | _ => none
def resO (i : Nat) (g : Str) (o : Option (Nat × Nat × List (Str × FV))) (st : Sto) : Res Lc := match o with
  | some (i, _, fs) => resV i g (fs.lookup g) st
  | none => none
def kRes (g : Str) : SV → Sto → Res Lc := fun u st => match insAt st u with
    | some (i, _, fs) => match fs.lookup g with
      | some (.c false _) => ok (.fld i g) st
      | some (.d (.ref k)) => ok (.cell k) st
      | _ => none
    | none => none
theorem r_fld : resolve c (.fld a g) env st = rb (ev c a env st) (kRes g) := id rfl
theorem k_res : kRes g (.d (.ref i)) st = resO i g (insO i (st[i]?)) st := by
  unfold kRes
  rw [ins_at]
  unfold resO insO
  cases st[i]? with
  | none => rfl
  | some y =>
    cases y with
    | con x => rfl
    | ins C fs =>
      simp only
      unfold resV
      cases fs.lookup g with
      | none => rfl
      | some y => cases y with
        | d x => cases x <;> rfl
        | c z x => cases z <;> rfl
theorem res_o : resO j g (some (i, C, fs)) st = resV i g (fs.lookup g) st := id rfl
theorem res_c : resV i g (some (FV.c false cn)) st = ok (Lc.fld i g) st := id rfl
def kKd (k : Cn → Bool) (env : Env) : Lc → Sto → Res Lc := fun l st => match l.ow.cont env st with
  | some x => if k x then ok l st else none
  | none => none
theorem r_kind {k : Cn → Bool} : resolveK k c (.fld a g) env st = rb (resolve c (.fld a g) env st) (kKd k env) := id rfl
def conV (o : Option FV) : Option Cn := match o with
  | some (FV.c false x) => some x
  | _ => none
def conO (g : Str) (o : Option Cell) : Option Cn := match o with
  | some (.ins _ fs) => conV (fs.lookup g)
  | _ => none
theorem con_f : (Lc.fld i g).ow.cont env st = conO g (st[i]?) := by
  show (match st[i]? with
  | some (.ins _ fs) => match fs.lookup g with
      | some (.c false x) => some x
      | _ => none
  | _ => none) = _
  cases st[i]? with
  | none => rfl
  | some y =>
    cases y with
    | con x => rfl
    | ins C fs =>
      show (match fs.lookup g with
      | some (.c false x) => some x
      | _ => none) = conV (fs.lookup g)
      cases fs.lookup g with
      | none => rfl
      | some y => cases y with
        | d x => rfl
        | c z x => cases z <;> rfl
def kdO (k : Cn → Bool) (l : Lc) (o : Option Cn) (st : Sto) : Res Lc := match o with
  | some x => if k x then ok l st else none
  | none => none
theorem k_kd {k : Cn → Bool} : kKd k env (.fld i g) st = kdO k (.fld i g) (conO g (st[i]?)) st := by rw [← con_f (env := env)]; rfl
theorem con_o : conO g (some (Cell.ins C fs)) = conV (fs.lookup g) := id rfl
theorem con_v : conV (some (FV.c false cn)) = some cn := id rfl
theorem kd_o {k : Cn → Bool} {l : Lc} : kdO k l (some cn) st = if k cn = true then ok l st else none := id rfl
theorem isL_l {xs : List D} : Cn.isL (.l xs) = true := id rfl
def appF (i : Nat) (g : Str) (o : Option Cn) (env : Env) (x : D) (st : Sto) : Option SO := match o with
  | some (.l xs) => if xs.length < sizeLine then some (.nx env (setFld st i g (.c false (.l (xs ++ [x]))))) else none
  | _ => none
theorem get_f (h : LkF L i) : (Lc.fld i g).get (P.cl (P.call n) L) env st = conO g (st[i]?) := by
  unfold Lc.get
  rw [con_f]
  show (if L.contains (Ow.f i g) = true then none else _) = _
  rw [if_neg]
  intro z
  exact h _ (List.contains_iff_mem.mp z) rfl
theorem k_appF (h : LkF L i) : kApp2 (P.cl (P.call n) L) (.fld i g) env x st = appF i g (conO g (st[i]?)) env x st := by
  unfold kApp2
  simp only [get_f h]
  rfl
theorem app_f {xs : List D} (hl : xs.length < sizeLine) : appF i g (some (.l xs)) env x st = some (.nx env (setFld st i g (.c false (.l (xs ++ [x]))))) := if_pos hl
def setO (st : Sto) (i : Nat) (g : Str) (z : FV) (o : Option Cell) : Sto := match o with
  | some (.ins C fs) => st.set i (.ins C (putFs g z fs))
  | _ => st
theorem set_o {z : FV} : setFld st i g z = setO st i g z (st[i]?) := id rfl
theorem set_p {z : FV} : setO st i g z (some (Cell.ins C fs)) = st.set i (.ins C (putFs g z fs)) := id rfl
theorem c_isC {kt : List (List D)} {q : Kd} : cmp kt .is (.c q cn) (.d .non) st = some false := id rfl
theorem c_isntC {kt : List (List D)} {q : Kd} : cmp kt .isnt (.c q cn) (.d .non) st = some true := id rfl
theorem trk_own : trk (.c .own cn) = true := id rfl
theorem trk_par : trk (.c .par cn) = true := id rfl
theorem trk_at {o : Ow} : trk (.c (.at o) cn) = true := id rfl
theorem trk_d : trk (.d x) = true := id rfl
theorem b_addL {p q : Kd} {xs ys : List D} (hp : trk (.c p (.l xs)) = true) (hq : trk (.c q (.l ys)) = true) (h : xs.length + ys.length ≤ sizeLine) : bin .add (.c p (.l xs)) (.c q (.l ys)) st = ok (.c .own (.l (xs ++ ys))) st := by
  show (if trk (.c p (.l xs)) && trk (.c q (.l ys)) && decide (xs.length + ys.length ≤ sizeLine) then ok (SV.c .own (.l (xs ++ ys))) st else none) = _
  rw [hp, hq, decide_eq_true h]
  rfl
theorem s_beqF : (Ow.s i == Ow.f j g) = false := by rw [beq_eq_false_iff_ne]; intro z; cases z
theorem s_beqC : (Ow.s i == Ow.c j) = false := by rw [beq_eq_false_iff_ne]; intro z; cases z
theorem x_ret_attr : exec c (.ret (.attr a g)) env st = sb (ev c (.attr a g) env st) env kRet := id rfl
theorem x_ret_meth : exec c (.ret (.meth a cs es)) env st = sb (ev c (.meth a cs es) env st) env kRet := id rfl
theorem x_ret_prop : exec c (.ret (.prop a cs)) env st = sb (ev c (.prop a cs) env st) env kRet := id rfl
theorem x_ret_make : exec c (.ret (.make C f es)) env st = sb (ev c (.make C f es) env st) env kRet := id rfl
theorem x_ret_glob : exec c (.ret (.glob g x)) env st = sb (ev c (.glob g x) env st) env kRet := id rfl
theorem x_ret_dct : exec c (.ret (.dct es)) env st = sb (ev c (.dct es) env st) env kRet := id rfl
theorem lku_hit {β : Type} {y : β} {a b : String} {r : List (Str × β)} : List.lookup (Str.ofString a) ((Str.ofString b, y) :: r) = if a = b then some y else List.lookup (Str.ofString a) r := by
  rw [List.lookup_cons, s_eqB]
  by_cases h : a = b
  · rw [if_pos h, decide_eq_true h]
  · rw [if_neg h, decide_eq_false h]
theorem compL_fmG {γ : Type} {turn : D → Sto → Res (Option SV)} {g : γ → D} {f : γ → Option D} : ∀ {xs : List γ} {acc : List D}, (∀ x ∈ xs, turn (g x) st = some (.ok ((f x).map .d) st)) → acc.length + xs.length ≤ sizeLine → compL turn (xs.map g) acc st = ok (acc ++ xs.filterMap f) st
  | [], acc, _, _ => by simp [compL]
  | x :: xs, acc, h, hl => by
    have h1 := h x (List.mem_cons_self ..)
    have h2 : ∀ y ∈ xs, turn (g y) st = some (.ok ((f y).map .d) st) := fun y z => h y (List.mem_cons_of_mem _ z)
    rw [List.length_cons] at hl
    rw [List.map_cons]
    unfold compL
    rw [h1]
    cases e : f x with
    | none =>
      show compL turn (xs.map g) acc st = _
      rw [compL_fmG h2 (by omega), List.filterMap_cons_none e]
    | some y =>
      show (if acc.length < sizeLine then compL turn (xs.map g) (acc ++ [y]) st else none) = _
      rw [if_pos (by omega), compL_fmG h2 (by rw [List.length_append, List.length_singleton]; omega), List.filterMap_cons_some e, List.append_assoc]
      rfl
theorem st_set (h : i < st.length) : (st.set i cell)[i]? = some cell := List.getElem?_set_self h
theorem st_setN (h : i ≠ j) : (st.set i cell)[j]? = st[j]? := List.getElem?_set_ne h
theorem st_set2 {cell' : Cell} : (st.set i cell).set i cell' = st.set i cell' := List.set_set ..
theorem st_setL : (st.set i cell).length = st.length := List.length_set ..
theorem st_new : (st ++ [cell])[st.length]? = some cell := by rw [List.getElem?_append_right (Nat.le_refl _), Nat.sub_self]; rfl
theorem st_newS {cell' : Cell} : (st ++ [cell]).set st.length cell' = st ++ [cell'] := by
  rw [List.set_append_right _ _ (Nat.le_refl _), Nat.sub_self]; rfl
end
end Tv
namespace Tv
open PySem L2
section
variable {α β : Type} {P : Prog} {n i j m C f : Nat} {L l : List Ow} {env : Env} {st : Sto} {c : Cl} {a b d e v : Ex} {u w : SV} {x y : D} {fs : List (Str × FV)} {g h : Str} {cn : Cn} {cell : Cell}
def kCh3 (p : Co) (w : SV) : SV → Sto → Res SV := fun z st => match cmpI p w z with
  | some b => ok (.d (.bl b)) st
  | none => none
def kCh2 (c : Cl) (o p : Co) (u : SV) (d : Ex) (env : Env) : SV → Sto → Res SV := fun w st => match cmpI o u w with
    | some true => rb (ev (c.lk (lockOf u)) d env st) (kCh3 p w)
    | some false => ok (.d (.bl false)) st
    | none => none
def kCh (c : Cl) (o p : Co) (b d : Ex) (env : Env) : SV → Sto → Res SV := fun u st => rb (ev (c.lk (lockOf u)) b env st) (kCh2 c o p u d env)
theorem e_chain {o p : Co} : ev c (.chain o p a b d) env st = rb (ev c a env st) (kCh c o p b d env) := id rfl
theorem k_ch {o p : Co} : kCh c o p b d env u st = rb (ev (c.lk (lockOf u)) b env st) (kCh2 c o p u d env) := id rfl
theorem k_ch2T {p : Co} {z y : Int} (h : z ≤ y) : kCh2 c .le p (.d (.int z)) d env (.d (.int y)) st = rb (ev (c.lk (lockOf (.d (.int z)))) d env st) (kCh3 p (.d (.int y))) := by
  have : cmpI .le (.d (.int z)) (.d (.int y)) = some true := by show some (decide (z ≤ y)) = _; rw [decide_eq_true h]
  unfold kCh2
  rw [this]
theorem k_ch2F {p : Co} {z y : Int} (h : ¬ z ≤ y) : kCh2 c .le p (.d (.int z)) d env (.d (.int y)) st = ok (.d (.bl false)) st := by
  have : cmpI .le (.d (.int z)) (.d (.int y)) = some false := by show some (decide (z ≤ y)) = _; rw [decide_eq_false h]
  unfold kCh2
  rw [this]
theorem k_ch3 {z y : Int} : kCh3 .le (.d (.int z)) (.d (.int y)) st = ok (.d (.bl (decide (z ≤ y)))) st := id rfl
def kDel2 (c : Cl) (l : Lc) (env : Env) : SV → Sto → Option SO := fun k st => match (l.get c env st).bind fun x => delAt x k with
    | some x => some (.nx (l.set x env st).1 (l.set x env st).2)
    | none => none
def kDel (c : Cl) (k : Ex) (env : Env) : Lc → Sto → Option SO := fun l st => sb (ev (c.lk [l.ow]) k env st) env (kDel2 c l env)
theorem x_del {p : Pl} {k : Ex} : exec c (.del p k) env st = sb (resolve c p env st) env (kDel c k env) := id rfl
theorem k_del {q : Lc} : kDel c e env q st = sb (ev (c.lk [q.ow]) e env st) env (kDel2 c q env) := id rfl
def delF (i : Nat) (g : Str) (o : Option Cn) (k : SV) (env : Env) (st : Sto) : Option SO := match o.bind fun x => delAt x k with
  | some x => some (.nx env (setFld st i g (.c false x)))
  | none => none
theorem k_delF (h : LkF L i) : kDel2 (P.cl (P.call n) L) (.fld i g) env u st = delF i g (conO g (st[i]?)) u env st := by
  unfold kDel2
  simp only [get_f h]
  rfl
theorem del_f {p : Int} {xs : List D} (h0 : 0 ≤ p) (h1 : p < xs.length) (h2 : xs.length ≤ 1000) : delF i g (some (.l xs)) (.d (.int p)) env st = some (.nx env (setFld st i g (.c false (.l (xs.eraseIdx p.toNat))))) := by
  have e : delAt (.l xs) (.d (.int p)) = some (.l (xs.eraseIdx p.toNat)) := by
    show (if -(2 ^ 63) ≤ p ∧ p < 2 ^ 63 then (seqIndex? p xs.length).map fun n => Cn.l (xs.eraseIdx n) else none) = _
    rw [if_pos ⟨by omega, by omega⟩]
    have : seqIndex? p xs.length = some p.toNat := by
      unfold seqIndex?
      simp only
      rw [if_neg (by omega : ¬ p < 0), decide_eq_true h0, decide_eq_true h1]
      rfl
    rw [this]
    rfl
  unfold delF
  show (match delAt (.l xs) (.d (.int p)) with
  | some x => some (SO.nx env (setFld st i g (.c false x)))
  | none => none) = _
  rw [e]
theorem map_erase {γ δ : Type} {f : γ → δ} : ∀ {xs : List γ} {k : Nat}, (xs.map f).eraseIdx k = (xs.eraseIdx k).map f
  | [], _ => rfl
  | _ :: _, 0 => rfl
  | x :: xs, k + 1 => by
    show f x :: (xs.map f).eraseIdx k = f x :: (xs.eraseIdx k).map f
    rw [map_erase]
theorem c_neB {kt : List (List D)} {z y : Bool} : cmp kt .ne (.d (.bl z)) (.d (.bl y)) st = some (!decide (z = y)) := id rfl
def kPar2 (c : Cl) (i j : Nat) (u : SV) (env : Env) : SV → Sto → Option SO := fun w st => match u, w with
    | .d x, .d y => if free c i && free c j then some (.nx ((env.set i (some (.d x))).set j (some (.d y))) st) else none
    | _, _ => none
def kPar (c : Cl) (i j : Nat) (b : Ex) (env : Env) : SV → Sto → Option SO := fun u st => sb (ev (c.lk (lockOf u)) b env st) env (kPar2 c i j u env)
theorem x_par : exec c (.par i j a b) env st = sb (ev c a env st) env (kPar c i j b env) := id rfl
theorem k_par : kPar c i j b env u st = sb (ev (c.lk (lockOf u)) b env st) env (kPar2 c i j u env) := id rfl
theorem k_par2 (h1 : free c i = true) (h2 : free c j = true) : kPar2 c i j (.d x) env (.d y) st = some (.nx ((env.set i (some (.d x))).set j (some (.d y))) st) := by
  show (if free c i && free c j then some (SO.nx ((env.set i (some (.d x))).set j (some (.d y))) st) else none) = _
  rw [h1, h2]
  rfl
def minF (a : Int) (xs : List Int) : Int := xs.foldl (fun a b => if b < a then b else a) a
theorem bi_minL {q : Kd} {is : List Int} {i : Int} : biF .min [.c q (.l (.int i :: is.map .int))] st = ok (.d (.int (minF i is))) st := by
  show (match (allInt ((i :: is).map D.int)).bind minL with
      | some i => ok (SV.d (.int i)) st
      | none => none) = _
  rw [allInt_map]
  rfl
theorem compL_mapG {γ : Type} {turn : D → Sto → Res (Option SV)} {g : γ → D} (f : γ → D) {ls : List γ} (h : ∀ x ∈ ls, turn (g x) st = some (.ok (some (.d (f x))) st)) (hl : ls.length ≤ sizeLine) : compL turn (ls.map g) [] st = ok (ls.map f) st := by
  rw [compL_fmG (f := fun x => some (f x)) (fun x hx => by rw [h x hx]; rfl) (by simpa using hl), List.nil_append]
  congr 1
  have : ∀ l : List γ, l.filterMap (fun x => some (f x)) = l.map f := fun l => by
    induction l with
    | nil => rfl
    | cons y r ih => rw [List.map_cons, ← ih]; rfl
  exact this ls
def kBm2 (m : Bm) (u : SV) : List SV → Sto → Res SV := fun as st => bmf m u as st
def kBm (c : Cl) (m : Bm) (es : Exs) (env : Env) : SV → Sto → Res SV := fun u st => if bmPre m u st then rb (evs (c.lk (lockOf u)) es env st) (kBm2 m u) else none
theorem e_bm {m : Bm} {es : Exs} : ev c (.bm m a es) env st = rb (ev c a env st) (kBm c m es env) := id rfl
end
end Tv
namespace Tv
open PySem L2
section
variable {α β : Type} {P : Prog} {n i j m C f k : Nat} {L l : List Ow} {env : Env} {st : Sto} {c : Cl} {a b d e v : Ex} {u w : SV} {x y : D} {fs : List (Str × FV)} {g h : Str} {cn : Cn} {cell : Cell} {kt : List (List D)}
def kCellS (k : Nat) (o : Option Cell) (st : Sto) : Res Lc := match o with
  | some (.con x) => if x.isL then ok (.cell k) st else none
  | _ => none
theorem k_slotC : kSlot i (some (some (.d (.ref k)))) st = kCellS k (st[k]?) st := id rfl
theorem k_cellL {xs : List D} : kCellS k (some (.con (.l xs))) st = ok (.cell k) st := id rfl
theorem k_slot0C : kSlot0 i (some (some (.d (.ref k)))) st = ok (.cell k) st := id rfl
def conC (o : Option Cell) : Option Cn := match o with
  | some (.con x) => some x
  | _ => none
theorem con_c : (Lc.cell k).ow.cont env st = conC (st[k]?) := id rfl
theorem con_c1 : conC (some (.con cn)) = some cn := id rfl
theorem get_c (h : LkF L k) : (Lc.cell k).get (P.cl (P.call n) L) env st = conC (st[k]?) := by
  unfold Lc.get
  rw [con_c]
  show (if L.contains (Ow.c k) = true then none else _) = _
  rw [if_neg]
  intro z
  exact h _ (List.contains_iff_mem.mp z) rfl
def appC (k : Nat) (o : Option Cn) (env : Env) (x : D) (st : Sto) : Option SO := match o with
  | some (.l xs) => if xs.length < sizeLine then some (.nx env (st.set k (.con (.l (xs ++ [x]))))) else none
  | _ => none
theorem k_appC (h : LkF L k) : kApp2 (P.cl (P.call n) L) (.cell k) env x st = appC k (conC (st[k]?)) env x st := by
  unfold kApp2
  simp only [get_c h]
  rfl
theorem app_c {xs : List D} (hl : xs.length < sizeLine) : appC k (some (.l xs)) env x st = some (.nx env (st.set k (.con (.l (xs ++ [x]))))) := if_pos hl
def putC (k : Nat) (o : Option Cn) (kv : SV) (env : Env) (y : D) (kt : List (List D)) (st : Sto) : Option SO := match o.bind fun x => putD kt x kv y with
  | some x => some (.nx env (st.set k (.con x)))
  | none => none
theorem k_put4C (h : LkF L k) : kPut4 (P.cl (P.call n) L) (.cell k) w env y st = putC k (conC (st[k]?)) w env y (P.cl (P.call n) L).kts st := by
  unfold kPut4
  simp only [get_c h]
  rfl
theorem put_c {kvs : List (Key × D)} {z : Int} (hl : kvs.length < sizeLine) : putC k (some (.m kvs)) (.d (.int z)) env y kt st = some (.nx env (st.set k (.con (.m (put kvs (.inl z) y))))) := by
  show (match (if kvs.length < sizeLine then some (Cn.m (put kvs (.inl z) y)) else none) with
      | some x => some (SO.nx env (st.set k (.con x)))
      | none => none) = _
  rw [if_pos hl]
def kPop2 (c : Cl) (l : Lc) (env : Env) : SV → Sto → Option SO := fun k st => match l.get c env st with
    | some (.l xs) => match popAt (.l xs) k with
      | some (_, x) => some (.nx (l.set x env st).1 (l.set x env st).2)
      | none => none
    | _ => none
def kPop (c : Cl) (k : Ex) (env : Env) : Lc → Sto → Option SO := fun l st => sb (ev (c.lk [l.ow]) k env st) env (kPop2 c l env)
theorem x_pop {p : Pl} : exec c (.pop p e) env st = sb (resolveK Cn.isL c p env st) env (kPop c e env) := id rfl
theorem k_pop {q : Lc} : kPop c e env q st = sb (ev (c.lk [q.ow]) e env st) env (kPop2 c q env) := id rfl
def popC (k : Nat) (o : Option Cn) (w : SV) (env : Env) (st : Sto) : Option SO := match o with
    | some (.l xs) => match popAt (.l xs) w with
      | some (_, x) => some (.nx env (st.set k (.con x)))
      | none => none
    | _ => none
theorem k_popC (h : LkF L k) : kPop2 (P.cl (P.call n) L) (.cell k) env w st = popC k (conC (st[k]?)) w env st := by
  unfold kPop2
  simp only [get_c h]
  rfl
theorem pop_at {xs : List D} {p : Int} (h0 : 0 ≤ p) (h1 : p < xs.length) (h2 : xs.length ≤ 1000) : popAt (.l xs) (.d (.int p)) = (xs[p.toNat]?).map fun d => (d, .l (xs.eraseIdx p.toNat)) := by
  show (if -(2 ^ 63) ≤ p ∧ p < 2 ^ 63 then (seqIndex? p xs.length).bind fun n => (xs[n]?).map fun d => (d, Cn.l (xs.eraseIdx n)) else none) = _
  rw [if_pos ⟨by omega, by omega⟩]
  have : seqIndex? p xs.length = some p.toNat := by
    unfold seqIndex?
    simp only
    rw [if_neg (by omega : ¬ p < 0), decide_eq_true h0, decide_eq_true h1]
    rfl
  rw [this]
  rfl
theorem pop_c {xs : List D} {p : Int} (h0 : 0 ≤ p) (h1 : p < xs.length) (h2 : xs.length ≤ 1000) : popC k (some (.l xs)) (.d (.int p)) env st = some (.nx env (st.set k (.con (.l (xs.eraseIdx p.toNat))))) := by
  have hp : p.toNat < xs.length := by omega
  unfold popC
  simp only [pop_at h0 h1 h2, List.getElem?_eq_getElem hp, Option.map_some]
def popD (c : Cl) (i : Nat) (o : Option Cell) (w : SV) (st : Sto) : Res SV := match o with
        | some (.con (.l xs)) => if c.locks.contains (.c i) then none else match popAt (.l xs) w with
          | some (d, x) => ok (.d d) (st.set i (.con x))
          | none => none
        | _ => none
def kPopc2 (c : Cl) (i : Nat) : SV → Sto → Res SV := fun w st => match st[i]? with
        | some (.con (.l xs)) => if c.locks.contains (.c i) then none else match popAt (.l xs) w with
          | some (d, x) => ok (.d d) (st.set i (.con x))
          | none => none
        | _ => none
def kPopcO (c : Cl) (i : Nat) (k : Ex) (env : Env) (o : Option Cell) (st : Sto) : Res SV := match o with
      | some (.con (.l _)) => rb (ev (c.lk [.c i]) k env st) (kPopc2 c i)
      | _ => none
def kPopc (c : Cl) (k : Ex) (env : Env) : SV → Sto → Res SV := fun u st => match u with
    | .d (.ref i) => match st[i]? with
      | some (.con (.l _)) => rb (ev (c.lk [.c i]) k env st) (kPopc2 c i)
      | _ => none
    | _ => none
theorem e_popc : ev c (.popc a b) env st = rb (ev c a env st) (kPopc c b env) := id rfl
theorem k_popc : kPopc c b env (.d (.ref i)) st = kPopcO c i b env (st[i]?) st := id rfl
theorem k_popcO {xs : List D} : kPopcO c i b env (some (.con (.l xs))) st = rb (ev (c.lk [.c i]) b env st) (kPopc2 c i) := id rfl
theorem k_popc2 : kPopc2 c i w st = popD c i (st[i]?) w st := id rfl
def popR (i : Nat) (xs : List D) (p : Int) (o : Option D) (st : Sto) : Res SV := match o with
  | some y => ok (.d y) (st.set i (.con (.l (xs.eraseIdx p.toNat))))
  | none => none
theorem pop_d {xs : List D} {p : Int} (h : LkF L i) (h0 : 0 ≤ p) (h1 : p < xs.length) (h2 : xs.length ≤ 1000) : popD (P.cl (P.call n) L) i (some (.con (.l xs))) (.d (.int p)) st = popR i xs p (xs[p.toNat]?) st := by
  have hc : (P.cl (P.call n) L).locks.contains (Ow.c i) = false := nlk h rfl
  show (if (P.cl (P.call n) L).locks.contains (Ow.c i) = true then none else match popAt (.l xs) (.d (.int p)) with
          | some (d, x) => ok (SV.d d) (st.set i (.con x))
          | none => none) = _
  rw [hc, if_neg Bool.false_ne_true]
  simp only [pop_at h0 h1 h2]
  cases xs[p.toNat]? <;> rfl
theorem pop_r {xs : List D} {p : Int} {y : D} : popR i xs p (some y) st = ok (.d y) (st.set i (.con (.l (xs.eraseIdx p.toNat)))) := id rfl
theorem k_bmG {q : Kd} {kvs : List (Key × D)} {es : Exs} : kBm c .get es env (.c q (.m kvs)) st = rb (evs (c.lk (lockOf (.c q (.m kvs)))) es env st) (kBm2 .get (.c q (.m kvs))) := id rfl
def kBmR (c : Cl) (m : Bm) (k : Nat) (es : Exs) (env : Env) (o : Option Cell) (st : Sto) : Res SV := match o with
  | some (.con (.m _)) => rb (evs c es env st) (kBm2 m (.d (.ref k)))
  | _ => none
theorem k_bmGR {es : Exs} : kBm c .get es env (.d (.ref k)) st = kBmR c .get k es env (st[k]?) st := by
  show (if (match (match st[k]? with | some (.con x) => some x | _ => none) with | some (Cn.m _) => true | _ => false) = true then rb (evs c es env st) (kBm2 .get (.d (.ref k))) else none) = kBmR c .get k es env (st[k]?) st
  cases st[k]? with
  | none => rfl
  | some o => cases o with
    | ins C fs => rfl
    | con x => cases x <;> rfl
theorem k_bmR1 {es : Exs} {kvs : List (Key × D)} : kBmR c .get k es env (some (.con (.m kvs))) st = rb (evs c es env st) (kBm2 .get (.d (.ref k))) := id rfl
def getR (o : Option Cell) (z : Int) (y : D) (st : Sto) : Res SV := match o with
  | some (.con (.m kvs)) => ok (.d ((look kvs (.inl z)).getD y)) st
  | _ => none
theorem k_bm2R {z : Int} : kBm2 .get (.d (.ref k)) [.d (.int z), .d y] st = getR (st[k]?) z y st := by
  show (match (match st[k]? with | some (.con x) => some x | _ => none), some (Sum.inl z : Key) with
    | some (Cn.m kvs), some k => ok (SV.d ((look kvs k).getD y)) st
    | _, _ => none) = getR (st[k]?) z y st
  cases st[k]? with
  | none => rfl
  | some o => cases o with
    | ins C fs => rfl
    | con x => cases x <;> rfl
theorem get_r {kvs : List (Key × D)} {z : Int} : getR (some (.con (.m kvs))) z y st = ok (.d ((look kvs (.inl z)).getD y)) st := id rfl
theorem k_bm2C {q : Kd} {kvs : List (Key × D)} {z : Int} : kBm2 .get (.c q (.m kvs)) [.d (.int z), .d y] st = ok (.d ((look kvs (.inl z)).getD y)) st := id rfl
def lenO (o : Option Cell) (st : Sto) : Res SV := match o with
  | some (.con (.l xs)) => ok (.d (.int xs.length)) st
  | some (.con (.m xs)) => ok (.d (.int xs.length)) st
  | _ => none
theorem bi_lenR : biF .len [.d (.ref k)] st = lenO (st[k]?) st := by
  show (match (match st[k]? with | some (.con x) => some x | _ => none) with
      | some (Cn.l xs) => ok (SV.d (.int xs.length)) st
      | some (Cn.m xs) => ok (SV.d (.int xs.length)) st
      | _ => none) = _
  cases st[k]? with
  | none => rfl
  | some o => cases o with
    | ins C fs => rfl
    | con x => cases x <;> rfl
theorem len_l {xs : List D} : lenO (some (.con (.l xs))) st = ok (.d (.int xs.length)) st := id rfl
theorem len_m {xs : List (Key × D)} : lenO (some (.con (.m xs))) st = ok (.d (.int xs.length)) st := id rfl
end
end Tv
namespace Tv
open PySem L2
section
variable {α β : Type} {P : Prog} {n i j m C f k : Nat} {L l : List Ow} {env : Env} {st : Sto} {c : Cl} {a b d e v : Ex} {u w : SV} {x y : D} {fs : List (Str × FV)} {g h : Str} {cn : Cn} {cell : Cell} {kt : List (List D)} {X : Xc} {ss sa : Stts} {hs : Hds}
theorem rb_ex {kk : α → Sto → Res β} : rb (some (.ex X st)) kk = some (.ex X st) := id rfl
theorem sb_ex {kk : α → Sto → Option SO} : sb (some (.ex X st)) env kk = some (.ex X env st) := id rfl
theorem sq_ex {kk : Env → Sto → Option SO} : sq (some (.ex X env st)) kk = some (.ex X env st) := id rfl
theorem rt_ex : result (some (.ex X env st)) = some (.ex X st) := id rfl
def kRaise (C : Nat) (own : Bool) (env : Env) : SV → Sto → Option SO := fun v st => match v with
    | .d x => some (.ex ⟨C, if own then some x else none⟩ env st)
    | _ => none
theorem x_raise {own : Bool} : exec c (.raise C e own) env st = sb (ev c e env st) env (kRaise C own env) := id rfl
theorem k_raise : kRaise C false env (.d x) st = some (.ex ⟨C, none⟩ env st) := id rfl
def kTry (c : Cl) (hs : Hds) (o : Option SO) : Option SO := match o with
    | some (.ex x env st) => handle c hs x env st
    | r => r
theorem x_try : exec c (.try_ ss hs) env st = kTry c hs (execs c ss env st) := id rfl
theorem try_nx : kTry c hs (some (.nx env st)) = some (.nx env st) := id rfl
theorem try_rt : kTry c hs (some (.rt u st)) = some (.rt u st) := id rfl
theorem try_ct : kTry c hs (some (.ct env st)) = some (.ct env st) := id rfl
theorem try_ex : kTry c hs (some (.ex X env st)) = handle c hs X env st := id rfl
/-- does an error of class k meet the class C? -/
def hdT (P : Prog) (k C : Nat) : Option Bool := if P.xs.contains k && P.xs.contains C then some (k == C || P.sub.contains (k, C)) else none
def noEx (o : Option SO) : Option SO := match o with
  | some (.ex _ _ _) => none
  | r => r
theorem nex_nx : noEx (some (.nx env st)) = some (.nx env st) := id rfl
theorem nex_rt : noEx (some (.rt u st)) = some (.rt u st) := id rfl
theorem nex_ct : noEx (some (.ct env st)) = some (.ct env st) := id rfl
def kHd (c : Cl) (o : Option Bool) (b : Stts) (hs : Hds) (x : Xc) (env : Env) (st : Sto) : Option SO := match o with
  | some true => noEx (execs c b env st)
  | some false => handle c hs x env st
  | none => none
theorem hd_cons : handle (P.cl (P.call n) L) (.cons C ss hs) X env st = kHd (P.cl (P.call n) L) (hdT P X.c C) ss hs X env st := by
  show (if (P.xs.contains X.c && P.xs.contains C) = true then
      (if (X.c == C || P.sub.contains (X.c, C)) = true then match execs (P.cl (P.call n) L) ss env st with
        | some (.ex _ _ _) => none
        | r => r
      else handle (P.cl (P.call n) L) hs X env st) else none) = _
  unfold hdT
  by_cases h1 : (P.xs.contains X.c && P.xs.contains C) = true
  · rw [if_pos h1, if_pos h1]
    cases (X.c == C || P.sub.contains (X.c, C)) <;> rfl
  · rw [if_neg h1, if_neg h1]
    rfl
theorem hd_y : kHd c (some true) ss hs X env st = noEx (execs c ss env st) := id rfl
theorem hd_n : kHd c (some false) ss hs X env st = handle c hs X env st := id rfl
theorem hd_nil : handle c .nil X env st = some (.ex X env st) := id rfl
def kTryN (c : Cl) (i : Nat) (hs : Hds) (o : Option SO) : Option SO := match o with
    | some (.ex x env st) => if free c i then handleN c i hs x env st else none
    | r => r
theorem x_tryN : exec c (.tryN i ss hs) env st = kTryN c i hs (execs c ss env st) := id rfl
theorem tryN_nx : kTryN c i hs (some (.nx env st)) = some (.nx env st) := id rfl
theorem tryN_rt : kTryN c i hs (some (.rt u st)) = some (.rt u st) := id rfl
theorem tryN_ex (hf : free c i = true) : kTryN c i hs (some (.ex X env st)) = handleN c i hs X env st := if_pos hf
def unX (i : Nat) (o : Option SO) : Option SO := match o with
        | some (.nx env st) => some (.nx (env.set i none) st)
        | some (.bk env st) => some (.bk (env.set i none) st)
        | some (.ct env st) => some (.ct (env.set i none) st)
        | some (.rt v st) => some (.rt v st)
        | _ => none
theorem unx_nx : unX i (some (.nx env st)) = some (.nx (env.set i none) st) := id rfl
theorem unx_rt : unX i (some (.rt u st)) = some (.rt u st) := id rfl
def kHdN (c : Cl) (i : Nat) (o : Option Bool) (b : Stts) (hs : Hds) (x : Xc) (env : Env) (st : Sto) : Option SO := match o with
  | some true => unX i (execs c b (env.set i (some (.x x))) st)
  | some false => handleN c i hs x env st
  | none => none
theorem hn_cons : handleN (P.cl (P.call n) L) i (.cons C ss hs) X env st = kHdN (P.cl (P.call n) L) i (hdT P X.c C) ss hs X env st := by
  show (if (P.xs.contains X.c && P.xs.contains C) = true then
      (if (X.c == C || P.sub.contains (X.c, C)) = true then match execs (P.cl (P.call n) L) ss (env.set i (some (.x X))) st with
        | some (.nx env st) => some (.nx (env.set i none) st)
        | some (.bk env st) => some (.bk (env.set i none) st)
        | some (.ct env st) => some (.ct (env.set i none) st)
        | some (.rt v st) => some (.rt v st)
        | _ => none
      else handleN (P.cl (P.call n) L) i hs X env st) else none) = _
  unfold hdT
  by_cases h1 : (P.xs.contains X.c && P.xs.contains C) = true
  · rw [if_pos h1, if_pos h1]
    cases (X.c == C || P.sub.contains (X.c, C)) <;> rfl
  · rw [if_neg h1, if_neg h1]
    rfl
theorem hn_y : kHdN c i (some true) ss hs X env st = unX i (execs c ss (env.set i (some (.x X))) st) := id rfl
theorem hn_n : kHdN c i (some false) ss hs X env st = handleN c i hs X env st := id rfl
def kXis (o : Option Bool) (st : Sto) : Res SV := match o with
  | some b => ok (.d (.bl b)) st
  | none => none
def xisO (P : Prog) (C : Nat) (o : Option (Option SV)) (st : Sto) : Res SV := match o with
    | some (some (.x ⟨k, none⟩)) => kXis (hdT P k C) st
    | _ => none
theorem e_xis : ev (P.cl (P.call n) L) (.xis i C) env st = xisO P C (env[i]?) st := by
  show (match env[i]? with
    | some (some (.x ⟨k, none⟩)) => if (P.xs.contains k && P.xs.contains C) = true then ok (SV.d (.bl (k == C || P.sub.contains (k, C)))) st else none
    | _ => none) = _
  unfold xisO
  split
  · rename_i k e
    unfold hdT kXis
    by_cases h1 : (P.xs.contains k && P.xs.contains C) = true
    · rw [if_pos h1]; simp only [h1, if_true]
    · rw [if_neg h1]; simp only [h1, if_false]; rfl
  · rfl
theorem xis_o : xisO P C (some (some (.x ⟨k, none⟩))) st = kXis (hdT P k C) st := id rfl
theorem k_xis {z : Bool} : kXis (some z) st = ok (.d (.bl z)) st := id rfl
theorem c_neSt {z y : Str} : cmp kt .ne (.d (.str z)) (.d (.str y)) st = some (!decide (z = y)) := id rfl
def kCountZ : List Int → Sto → Res SV := fun ks st => ok (.d (.int ks.length)) st
theorem k_countZ {ks : List Int} : kCountZ ks st = ok (.d (.int ks.length)) st := id rfl
def kLsZ (c : Cl) (g : Tg) (t : Tx) (e : Ex) (env : Env) : Ito → Sto → Res SV := fun j st => rb (compZ (turnC (c.lk j.locks) g t e env) j.xs [] st) kCountZ
theorem e_lsZ {g : Tg} {t : Tx} {it : It} : ev c (.lensetI g it t e) env st = rb (evI c it env st) (kLsZ c g t e env) := id rfl
theorem k_lsZ {g : Tg} {t : Tx} {q : Ito} : kLsZ c g t e env q st = rb (compZ (turnC (c.lk q.locks) g t e env) q.xs [] st) kCountZ := id rfl
theorem i_row : evI c (.row e) env st = rb (ev c e env st) itRow := id rfl
/-- lists as places: a name's -/
def kPutL4 (c : Cl) (l : Lc) (k : SV) (env : Env) : D → Sto → Option SO := fun y st => match l.get c env st, k with
        | some (.l xs), .d (.int i) => match ixN xs.length i with
          | some n => some (.nx (l.set (.l (xs.set n y)) env st).1 (l.set (.l (xs.set n y)) env st).2)
          | none => none
        | _, _ => none
def kPutL3 (c : Cl) (l : Lc) (u : SV) (env : Env) : SV → Sto → Option SO := fun kv st => sb (toD u st) env (kPutL4 c l kv env)
def kPutL2 (c : Cl) (k : Ex) (u : SV) (env : Env) : Lc → Sto → Option SO := fun l st => sb (ev (c.lk (l.ow :: lockOf u)) k env st) env (kPutL3 c l u env)
def kPutL (c : Cl) (p : Pl) (k : Ex) (env : Env) : SV → Sto → Option SO := fun u st => sb (resolve (c.lk (lockOf u)) p env st) env (kPutL2 c k u env)
theorem x_putL {p : Pl} {kx : Ex} : exec c (.putL p kx e) env st = sb (ev c e env st) env (kPutL c p kx env) := id rfl
theorem k_putL {p : Pl} {kx : Ex} : kPutL c p kx env u st = sb (resolve (c.lk (lockOf u)) p env st) env (kPutL2 c kx u env) := id rfl
theorem k_putL2 {l : Lc} {kx : Ex} : kPutL2 c kx u env l st = sb (ev (c.lk (l.ow :: lockOf u)) kx env st) env (kPutL3 c l u env) := id rfl
theorem k_putL3 {l : Lc} : kPutL3 c l u env w st = sb (toD u st) env (kPutL4 c l w env) := id rfl
def putLV (i : Nat) (o : Option (Option SV)) (p : Int) (env : Env) (y : D) (st : Sto) : Option SO := match o with
  | some (some (.c .own (.l xs))) => match ixN xs.length p with
    | some n => some (.nx (env.set i (some (.c .own (.l (xs.set n y))))) st)
    | none => none
  | _ => none
theorem k_putL4 {p : Int} (hf : free c i = true) : kPutL4 c (.slot i) (.d (.int p)) env y st = putLV i (env[i]?) p env y st := by
  have hf' : c.locks.contains (.s i) = false := by
    have : (!c.locks.contains (Ow.s i)) = true := hf
    simpa using this
  have hf2 : c.locks.contains (Lc.slot i).ow = false := hf'
  unfold kPutL4 Lc.get putLV
  rw [hf2]
  have hc : (Lc.slot i).ow.cont env st = match env[i]? with | some (some (.c .own x)) => some x | _ => none := rfl
  rw [hc]
  cases e : env[i]? with
  | none => rfl
  | some o =>
    cases o with
    | none => rfl
    | some v =>
      cases v with
      | d x => rfl
      | x y => rfl
      | c kd x =>
        cases kd <;> cases x <;> rfl
theorem put_lv {xs : List D} {p : Int} (h0 : 0 ≤ p) (h1 : p < xs.length) : putLV i (some (some (.c .own (.l xs)))) p env y st = some (.nx (env.set i (some (.c .own (.l (xs.set p.toNat y))))) st) := by
  have : ixN xs.length p = some p.toNat := by unfold ixN; rw [if_pos h0, if_pos h1]
  unfold putLV
  simp only [this]
end
end Tv
namespace Tv
open PySem L2
section
variable {α β : Type} {P : Prog} {n i j m C f k : Nat} {L l : List Ow} {env : Env} {st : Sto} {c : Cl} {a b d e v : Ex} {u w : SV} {x y : D} {fs : List (Str × FV)} {g h : Str} {cn : Cn} {cell : Cell} {kt : List (List D)} {es : Exs} {z p q : Int}
def kAug2 (c : Cl) (i : Nat) (o : Bo) (p : Int) (env : Env) : SV → Sto → Option SO := fun w st => match w with
      | .d (.int q) => match o with
        | .add => setV c i (.d (.int (p + q))) env st
        | .sub => setV c i (.d (.int (p - q))) env st
        | _ => none
      | _ => none
def kAug (c : Cl) (i : Nat) (o : Bo) (e : Ex) (env : Env) (w : Option (Option SV)) (st : Sto) : Option SO := match w with
    | some (some (.d (.int p))) => sb (ev c e env st) env (kAug2 c i o p env)
    | _ => none
theorem x_aug {o : Bo} : exec c (.aug i o e) env st = kAug c i o e env (env[i]?) st := id rfl
theorem k_aug {o : Bo} : kAug c i o e env (some (some (.d (.int p)))) st = sb (ev c e env st) env (kAug2 c i o p env) := id rfl
theorem k_augA (hf : free c i = true) : kAug2 c i .add p env (.d (.int q)) st = some (.nx (env.set i (some (.d (.int (p + q))))) st) := if_pos hf
theorem k_augS (hf : free c i = true) : kAug2 c i .sub p env (.d (.int q)) st = some (.nx (env.set i (some (.d (.int (p - q))))) st) := if_pos hf
theorem x_retBm {f : Bm} : exec c (.ret (.bm f a es)) env st = sb (ev c (.bm f a es) env st) env kRet := id rfl
theorem x_retCv {fs : List Nat} : exec c (.ret (.callv i fs es)) env st = sb (ev c (.callv i fs es) env st) env kRet := id rfl
def giO (o : Option D) (st : Sto) : Res SV := match o with
  | some d => ok (.d d) st
  | none => none
def kGi (c : Cl) (x : Str) : SV → Sto → Res SV := fun u st => giO (gidx c x u) st
def tabA (P : Prog) (x k : Str) : Option D := match P.tabs.lookup x with
  | some t => t.lookup k
  | none => none
theorem e_gidx {x : Str} : ev c (.gidx x e) env st = rb (ev c e env st) (kGi c x) := id rfl
theorem k_gi {x s : Str} : kGi (P.cl (P.call n) L) x (.d (.str s)) st = giO (tabA P x s) st := by
  show giO (match (SV.d (.str s)), P.tabs.lookup x with
    | .d (.str k), some t => t.lookup k
    | _, _ => none) st = _
  unfold tabA
  cases P.tabs.lookup x <;> rfl
theorem gi_o : giO (some x) st = ok (.d x) st := id rfl
def kCv (c : Cl) (fs : List Nat) (es : Exs) (env : Env) (o : Option (Option SV)) (st : Sto) : Res SV := match o with
    | some (some (.d (.fn f))) => if fs.contains f then rb (evs c es env st) (kGo c f) else none
    | _ => none
theorem e_callv {fs : List Nat} : ev c (.callv i fs es) env st = kCv c fs es env (env[i]?) st := id rfl
theorem k_cv {fs : List Nat} (h : fs.contains f = true) : kCv c fs es env (some (some (.d (.fn f)))) st = rb (evs c es env st) (kGo c f) := if_pos h
def kAs5 (i : Nat) (g : Str) (z : Int) (o : Option Int) (w : Option Cn) (env : Env) (st : Sto) : Option SO := match o with
  | some y => match w with
    | some (.m kvs) => if kvs.length < sizeLine then some (.nx env (setFld st i g (.c false (.m (put kvs (.inl z) (.int y)))))) else none
    | _ => none
  | none => none
def kAs4 (c : Cl) (l : Lc) (o : Bo) (z p : Int) (env : Env) : SV → Sto → Option SO := fun w st => match w with
  | .d (.int q) => match augI o p q with
    | some y => match l.get c env st with
      | some (.m kvs) => if kvs.length < sizeLine then some (.nx (l.set (.m (put kvs (.inl z) (.int y))) env st).1 (l.set (.m (put kvs (.inl z) (.int y))) env st).2) else none
      | _ => none
    | none => none
  | _ => none
def kAs3b (c : Cl) (l : Lc) (o : Bo) (v : Ex) (z : Int) (env : Env) (w : Option D) (st : Sto) : Option SO := match w with
  | some (.int p) => sb (ev (c.lk [l.ow]) v env st) env (kAs4 c l o z p env)
  | _ => none
def kAs3 (c : Cl) (l : Lc) (o : Bo) (v : Ex) (z : Int) (env : Env) (w : Option Cn) (st : Sto) : Option SO := match w with
  | some (.m kvs) => kAs3b c l o v z env (look kvs (.inl z)) st
  | _ => none
def kAs2 (c : Cl) (l : Lc) (o : Bo) (v : Ex) (env : Env) : SV → Sto → Option SO := fun k st => match l.get c env st, k with
    | some (.m kvs), .d kd => match keyOf kd with
      | some kk => match look kvs kk with
        | some (.int p) => sb (ev (c.lk [l.ow]) v env st) env fun w st => match w with
          | .d (.int q) => match augI o p q with
            | some z => match l.get c env st with
              | some (.m kvs) => if kvs.length < sizeLine then some (.nx (l.set (.m (put kvs kk (.int z))) env st).1 (l.set (.m (put kvs kk (.int z))) env st).2) else none
              | _ => none
            | none => none
          | _ => none
        | _ => none
      | none => none
    | _, _ => none
def kAs (c : Cl) (k : Ex) (o : Bo) (v : Ex) (env : Env) : Lc → Sto → Option SO := fun l st => sb (ev (c.lk [l.ow]) k env st) env (kAs2 c l o v env)
theorem x_augSub {pl : Pl} {o : Bo} {kx : Ex} : exec c (.augSub pl kx o v) env st = sb (resolveK Cn.isD c pl env st) env (kAs c kx o v env) := id rfl
theorem k_as {q : Lc} {o : Bo} {kx : Ex} : kAs c kx o v env q st = sb (ev (c.lk [q.ow]) kx env st) env (kAs2 c q o v env) := id rfl
theorem k_as2 {o : Bo} (h : LkF L i) : kAs2 (P.cl (P.call n) L) (.fld i g) o v env (.d (.int z)) st = kAs3 (P.cl (P.call n) L) (.fld i g) o v z env (conO g (st[i]?)) st := by
  unfold kAs2
  rw [get_f h]
  cases conO g (st[i]?) with
  | none => rfl
  | some w => cases w <;> rfl
theorem k_as3 {o : Bo} {t : Lc} {kvs : List (Key × D)} : kAs3 c t o v z env (some (.m kvs)) st = kAs3b c t o v z env (look kvs (.inl z)) st := id rfl
theorem k_as3b {o : Bo} {t : Lc} : kAs3b c t o v z env (some (.int p)) st = sb (ev (c.lk [t.ow]) v env st) env (kAs4 c t o z p env) := id rfl
theorem k_as4 {o : Bo} (h : LkF L i) : kAs4 (P.cl (P.call n) L) (.fld i g) o z p env (.d (.int q)) st = kAs5 i g z (augI o p q) (conO g (st[i]?)) env st := by
  unfold kAs4 kAs5
  simp only [get_f h]
  rfl
theorem k_as5 {y : Int} {kvs : List (Key × D)} (hl : kvs.length < sizeLine) : kAs5 i g z (some y) (some (.m kvs)) env st = some (.nx env (setFld st i g (.c false (.m (put kvs (.inl z) (.int y)))))) := if_pos hl
theorem isD_m {kvs : List (Key × D)} : Cn.isD (.m kvs) = true := id rfl
def extS (i : Nat) (o : Option (Option SV)) (ys : List D) (t : Bool) (env : Env) (st : Sto) : Option SO := match o with
  | some (some (.c .own (.l xs))) => if t && decide (xs.length + ys.length ≤ sizeLine) then some (.nx (env.set i (some (.c .own (.l (xs ++ ys))))) st) else none
  | _ => none
def kExt2 (c : Cl) (l : Lc) (env : Env) : SV → Sto → Option SO := fun v st => match l.get c env st, lstOf v st with
    | some (.l xs), some ys => if trk v && decide (xs.length + ys.length ≤ sizeLine) then some (.nx (l.set (.l (xs ++ ys)) env st).1 (l.set (.l (xs ++ ys)) env st).2) else none
    | _, _ => none
def kExt (c : Cl) (v : Ex) (env : Env) : Lc → Sto → Option SO := fun l st => sb (ev (c.lk [l.ow]) v env st) env (kExt2 c l env)
theorem x_ext {pl : Pl} : exec c (.ext pl v) env st = sb (resolveK Cn.isL c pl env st) env (kExt c v env) := id rfl
theorem k_ext {q : Lc} : kExt c v env q st = sb (ev (c.lk [q.ow]) v env st) env (kExt2 c q env) := id rfl
theorem k_ext2 {xs ys : List D} {kd : Kd} (hf : free c i = true) (he : env[i]? = some (some (.c .own (.l xs)))) : kExt2 c (.slot i) env (.c kd (.l ys)) st = extS i (some (some (.c .own (.l xs)))) ys (trk (.c kd (.l ys))) env st := by
  have hf' : c.locks.contains (.s i) = false := by
    have : (!c.locks.contains (Ow.s i)) = true := hf
    simpa using this
  have hg : (Lc.slot i).get c env st = some (.l xs) := by
    unfold Lc.get
    simp only [Lc.ow, hf', Ow.cont, he]
    rfl
  unfold kExt2
  rw [hg]
  rfl
def kExtO (c : Cl) (i : Nat) (env : Env) (u : SV) (ys : List D) (t : Bool) (st : Sto) (o : Option (Option SV)) : Option SO := match o with
  | some (some (.c .own (.l xs))) => extS i o ys t env st
  | _ => kExt2 c (.slot i) env u st
theorem k_ext3 {ys : List D} {kd : Kd} (hf : free c i = true) : kExt2 c (.slot i) env (.c kd (.l ys)) st = kExtO c i env (.c kd (.l ys)) ys (trk (.c kd (.l ys))) st (env[i]?) := by
  unfold kExtO
  split
  · rename_i xs e
    rw [k_ext2 hf e, e]
  · rfl
theorem ext_o {xs ys : List D} {t : Bool} : kExtO c i env u ys t st (some (some (.c .own (.l xs)))) = extS i (some (some (.c .own (.l xs)))) ys t env st := id rfl
theorem ext_s {xs ys : List D} (hl : xs.length + ys.length ≤ 1000) : extS i (some (some (.c .own (.l xs)))) ys true env st = some (.nx (env.set i (some (.c .own (.l (xs ++ ys))))) st) := by
  show (if (true && decide (xs.length + ys.length ≤ sizeLine)) = true then _ else _) = _
  rw [decide_eq_true (Nat.le_trans hl size_k)]
  rfl
def kItems : SV → Sto → Res Ito := fun u st => match cnOf u st with
    | some (.m kvs) => ok ⟨kvs.map itemD, stayOf u⟩ st
    | _ => none
theorem i_items : evI c (.items e) env st = rb (ev c e env st) kItems := id rfl
theorem k_items {q : Kd} {kvs : List (Key × D)} : kItems (.c q (.m kvs)) st = ok ⟨kvs.map itemD, stayOf (.c q (.m kvs))⟩ st := id rfl
theorem stay_o : stayOf (.c .own cn) = [] := id rfl
theorem stay_p : stayOf (.c .par cn) = [] := id rfl
theorem stay_a {o : Ow} : stayOf (.c (.at o) cn) = [o] := id rfl
def putF_ (i : Nat) (g : Str) (o : Option Cn) (kv : SV) (env : Env) (y : D) (kt : List (List D)) (st : Sto) : Option SO := match o.bind fun x => putD kt x kv y with
  | some x => some (.nx env (setFld st i g (.c false x)))
  | none => none
theorem k_put4F (h : LkF L i) : kPut4 (P.cl (P.call n) L) (.fld i g) w env y st = putF_ i g (conO g (st[i]?)) w env y (P.cl (P.call n) L).kts st := by
  unfold kPut4
  rw [get_f h]
  rfl
theorem put_f {kvs : List (Key × D)} (hl : kvs.length < sizeLine) : putF_ i g (some (.m kvs)) (.d (.int z)) env y kt st = some (.nx env (setFld st i g (.c false (.m (put kvs (.inl z) y))))) := by
  show (match (if kvs.length < sizeLine then some (Cn.m (put kvs (.inl z) y)) else none) with
      | some x => some (SO.nx env (setFld st i g (.c false x)))
      | none => none) = _
  rw [if_pos hl]
theorem del_fm {kvs : List (Key × D)} (h : (look kvs (.inl z)).isSome = true) : delF i g (some (.m kvs)) (.d (.int z)) env st = some (.nx env (setFld st i g (.c false (.m (rem kvs (.inl z)))))) := by
  show (match (if (look kvs (.inl z)).isSome then some (Cn.m (rem kvs (.inl z))) else none) with
      | some x => some (SO.nx env (setFld st i g (.c false x)))
      | none => none) = _
  rw [if_pos h]
theorem wp_while {tx : Tx} {sb' : Stts} {I : Nat → Env → Sto → Prop} {Q : SO → Prop}
    (step : ∀ k env st, I k env st → Wp (exec c (.ifs tx sb' (.cons .brk .nil)) env st) fun r => match r with
      | .nx env st => ∃ k', k = k' + 1 ∧ I k' env st
      | .ct env st => ∃ k', k = k' + 1 ∧ I k' env st
      | .bk env st => Q (.nx env st)
      | r => Q r) : ∀ (m k : Nat) (env : Env) (st : Sto), k < m → I k env st → Wp (whileL (evT c tx) (execs c sb') m env st) Q
  | 0, k, env, st, h, _ => absurd h (Nat.not_lt_zero _)
  | m + 1, k, env, st, h, hI => by
    have hs := step k env st hI
    have e1 : exec c (.ifs tx sb' (.cons .brk .nil)) env st = sb (evT c tx env st) env fun u st => if u then execs c sb' env st else some (.bk env st) := by rfl
    have e2 : whileL (evT c tx) (execs c sb') (m + 1) env st = sb (evT c tx env st) env fun b st => if b then
      match execs c sb' env st with
      | some (.nx env st) => whileL (evT c tx) (execs c sb') m env st
      | some (.ct env st) => whileL (evT c tx) (execs c sb') m env st
      | some (.bk env st) => some (.nx env st)
      | r => r
    else some (.nx env st) := rfl
    rw [e1] at hs
    rw [e2]
    obtain ⟨r, e, q⟩ := hs
    cases et : evT c tx env st with
    | none => rw [et] at e; cases e
    | some o =>
      cases o with
      | ex X st1 => rw [et] at e; cases e; exact ⟨_, rfl, q⟩
      | ok t st1 =>
        rw [et] at e
        have e : (if t then execs c sb' env st1 else some (.bk env st1)) = some r := e
        show Wp (if t then
          match execs c sb' env st1 with
          | some (.nx env st) => whileL (evT c tx) (execs c sb') m env st
          | some (.ct env st) => whileL (evT c tx) (execs c sb') m env st
          | some (.bk env st) => some (.nx env st)
          | r => r
        else some (.nx env st1)) Q
        cases t with
        | false => cases e; exact ⟨_, rfl, q⟩
        | true =>
          have e : execs c sb' env st1 = some r := e
          simp only [if_true]
          rw [e]
          cases r with
          | nx env2 st2 =>
            obtain ⟨k', rfl, q⟩ := q
            exact wp_while step m k' env2 st2 (by omega) q
          | ct env2 st2 =>
            obtain ⟨k', rfl, q⟩ := q
            exact wp_while step m k' env2 st2 (by omega) q
          | bk env2 st2 => exact ⟨_, rfl, q⟩
          | rt u st2 => exact ⟨_, rfl, q⟩
          | ex X env2 st2 => exact ⟨_, rfl, q⟩
theorem wp_seq {o : Option SO} {k : Env → Sto → Option SO} {Q : SO → Prop} (h : Wp o fun r => match r with
      | .nx env st => Wp (k env st) Q
      | r => Q r) : Wp (sq o k) Q := by
  obtain ⟨r, e, q⟩ := h
  rw [e]
  cases r with
  | nx env st => exact q
  | bk env st => exact ⟨_, rfl, q⟩
  | ct env st => exact ⟨_, rfl, q⟩
  | rt u st => exact ⟨_, rfl, q⟩
  | ex X env st => exact ⟨_, rfl, q⟩
theorem x_while {tx : Tx} {sb' : Stts} : exec c (.while_ tx sb') env st = whileL (evT c tx) (execs c sb') c.turns env st := id rfl
end
end Tv
namespace Tv
open PySem L2
section
variable {c : Cl} {env : Env} {st : Sto} {k v : Ex} {u w : SV} {g : Tg} {t : Tx} {it : It} {x : D} {acc : List (Key × D)} {xs : List D}
def kDcV (a : SV) : SV → Sto → Res (Option (SV × SV)) := fun w st => ok (some (a, w)) st
theorem k_dcV : kDcV u w st = ok (some (u, w)) st := id rfl
def kDcK (c : Cl) (v : Ex) (env : Env) : SV → Sto → Res (Option (SV × SV)) := fun u st => rb (ev c v env st) (kDcV u)
theorem k_dcK : kDcK c v env u st = rb (ev c v env st) (kDcV u) := id rfl
def kTurnD (c : Cl) (k v : Ex) (env : Env) : Bool → Sto → Res (Option (SV × SV)) := fun b st => if b then rb (ev c k env st) (kDcK c v env) else ok none st
theorem k_turnDT : kTurnD c k v env true st = rb (ev c k env st) (kDcK c v env) := id rfl
theorem k_turnDF : kTurnD c k v env false st = ok none st := id rfl
def kTurnDE (c : Cl) (t : Tx) (k v : Ex) (o : Option Env) (st : Sto) : Res (Option (SV × SV)) := match o with
        | some env => rb (evT c t env st) (kTurnD c k v env)
        | none => none
theorem k_turnDE : kTurnDE c t k v (some env) st = rb (evT c t env st) (kTurnD c k v env) := id rfl
def turnD (c : Cl) (g : Tg) (t : Tx) (k v : Ex) (env : Env) : D → Sto → Res (Option (SV × SV)) := fun x st => match g.set (wipeE env g.own) x with
        | some env => rb (evT c t env st) (kTurnD c k v env)
        | none => none
theorem turn_d : turnD c g t k v env x st = kTurnDE c t k v (g.set (wipeE env g.own) x) st := id rfl
def kOwnM : List (Key × D) → Sto → Res SV := fun xs st => ok (.c .own (.m xs)) st
theorem k_ownM : kOwnM acc st = ok (.c .own (.m acc)) st := id rfl
def kDc (c : Cl) (g : Tg) (t : Tx) (k v : Ex) (env : Env) : Ito → Sto → Res SV := fun j st => rb (compD (turnD (c.lk j.locks) g t k v env) j.xs [] st) kOwnM
theorem e_dc : ev c (.dc g it t k v) env st = rb (evI c it env st) (kDc c g t k v env) := id rfl
theorem k_dc {q : Ito} : kDc c g t k v env q st = rb (compD (turnD (c.lk q.locks) g t k v env) q.xs [] st) kOwnM := id rfl
end
end Tv
namespace Tv
open PySem L2
section
variable {c : Cl} {env : Env} {st : Sto} {e e1 : Ex} {u w : SV} {f g : Str} {cn : Cn} {zb : Bool} {i j C n : Nat} {fs gs : List (Str × FV)} {x : D} {P : Prog} {L : List Ow}
def kFz2 (c : Cl) (f : Str) (x : Cn) (env : Env) : SV → Sto → Option SO := fun u st => match insAt st u with
            | some (i, C, fs) => if mayFld c i f && (decide (fs.length < 1000) && okFld c C f fs) then some (.nx env (setFld st i f (.c true x))) else none
            | none => none
theorem k_fz2 : kFz2 c f cn env (.d (.ref i)) st = fldO c i f (some (.c true cn)) (st[i]?) env st kNx := by
  unfold kFz2 fldO
  rw [ins_at]
  cases e : st[i]? with
  | none => rfl
  | some y =>
    cases y with
    | con x => rfl
    | ins C fs =>
      have : ∀ z, setFld st i f z = st.set i (.ins C (putFs f z fs)) := fun z => by unfold setFld; rw [e]
      simp only [insO, this]
      rfl
def fzF (c : Cl) (e : Ex) (f g : Str) (env : Env) (j C : Nat) (gs : List (Str × FV)) (o : Option FV) (st : Sto) : Option SO := match o with
  | some (.c _ x) => if c.locks.contains (.f j g) then none else sb (ev c e env (st.set j (.ins C (putFs g (.c true x) gs)))) env (kFz2 c f x env)
  | some (.d x) => sb (ev c e env st) env (kStore c f (.d x) env kNx)
  | none => none
theorem fz_c (h : LkF L j) : fzF (P.cl (P.call n) L) e f g env j C gs (some (.c zb cn)) st = sb (ev (P.cl (P.call n) L) e env (st.set j (.ins C (putFs g (.c true cn) gs)))) env (kFz2 (P.cl (P.call n) L) f cn env) := by
  show (if (P.cl (P.call n) L).locks.contains (.f j g) = true then none else _) = _
  rw [nlk h rfl]
  rfl
theorem fz_d : fzF c e f g env j C gs (some (.d x)) st = sb (ev c e env st) env (kStore c f (.d x) env kNx) := id rfl
def fzO (c : Cl) (e : Ex) (f g : Str) (env : Env) (j : Nat) (o : Option Cell) (st : Sto) : Option SO := match o with
  | some (.ins C gs) => fzF c e f g env j C gs (gs.lookup g) st
  | _ => none
theorem fz_o : fzO c e f g env j (some (.ins C gs)) st = fzF c e f g env j C gs (gs.lookup g) st := id rfl
def kFz1 (c : Cl) (e : Ex) (f g : Str) (env : Env) : SV → Sto → Option SO := fun w st => match insAt st w with
    | some (j, _, gs) => match gs.lookup g with
      | some (.c _ x) => if c.locks.contains (.f j g) then none else
          sb (ev c e env (setFld st j g (.c true x))) env fun u st => match insAt st u with
            | some (i, C, fs) => if mayFld c i f && (decide (fs.length < 1000) && okFld c C f fs) then some (.nx env (setFld st i f (.c true x))) else none
            | none => none
      | some (.d x) => store c env e f (.d x) st fun env st => some (.nx env st)
      | none => none
    | none => none
theorem k_fz1 : kFz1 c e f g env (.d (.ref j)) st = fzO c e f g env j (st[j]?) st := by
  unfold kFz1 fzO
  rw [ins_at]
  cases e : st[j]? with
  | none => rfl
  | some y =>
    cases y with
    | con x => rfl
    | ins C gs =>
      have : ∀ z, setFld st j g z = st.set j (.ins C (putFs g z gs)) := fun z => by unfold setFld; rw [e]
      simp only [insO, this]
      unfold fzF
      cases gs.lookup g with
      | none => rfl
      | some y => cases y <;> rfl
theorem x_fldFz : exec c (.fldFz e f e1 g) env st = sb (ev c e1 env st) env (kFz1 c e f g env) := id rfl
end
end Tv
namespace Lw
open Tv PySem L2
def b_write_tree : Stts :=
 (.cons (.ifs (.val (.cmp .is (.var 0) (.cst (.bl true))))
 (.cons (.ret (.cst (.str "T")))
 .nil)
 .nil)
 (.cons (.ifs (.val (.cmp .is (.var 0) (.cst (.bl false))))
 (.cons (.ret (.cst (.str "F")))
 .nil)
 .nil)
 (.cons (.ifs (.val (.cmp .is (.var 0) (.cst .non)))
 (.cons (.ret (.cst (.str "N")))
 .nil)
 .nil)
 (.cons (.ifs (.val (.bi (.isi .tuple) (.cons (.var 0) .nil)))
 (.cons (.ret (.bin .add (.bin .add (.cst (.str "(")) (.bm .join (.cst (.str " ")) (.cons (.lc (.nm 1) (.seq (.var 0)) .yes (.call 0 (.cons (.var 1) .nil))) .nil))) (.cst (.str ")"))))
 .nil)
 .nil)
 (.cons (.ret (.bi .str (.cons (.var 0) .nil)))
 .nil)))))
abbrev f_write_tree : Nat := 0
def b_read_tree : Stts :=
 (.cons (.asg (.nm 2) (.call 2 (.cons (.var 0) (.cons (.cst (.int 0)) (.cons (.cst (.int 0)) .nil)))))
 (.cons (.ifs (.or (.val (.cmp .is (.var 2) (.cst .non))) (.val (.cmp .ne (.idx (.var 2) (.cst (.int 1))) (.bi .len (.cons (.var 0) .nil)))))
 (.cons (.drop (.idx (.cst .non) (.cst .non)))
 .nil)
 .nil)
 (.cons (.ret (.idx (.var 2) (.cst (.int 0))))
 .nil)))
abbrev f_read_tree : Nat := 1
def b__read_from : Stts :=
 (.cons (.ifs (.val (.cmp .eq (.slice (.var 0) (.var 1) (.bin .add (.var 1) (.cst (.int 1)))) (.cst (.str "("))))
 (.cons (.ret (.call 3 (.cons (.var 0) (.cons (.bin .add (.var 1) (.cst (.int 1))) (.cons (.bin .add (.var 2) (.cst (.int 1))) .nil)))))
 .nil)
 .nil)
 (.cons (.mv 3 1)
 (.cons (.while_ (.and (.val (.cmp .lt (.var 3) (.bi .len (.cons (.var 0) .nil)))) (.val (.cmp .notin (.idx (.var 0) (.var 3)) (.cst (.str " ()")))))
 (.cons (.aug 3 .add (.cst (.int 1)))
 .nil))
 (.cons (.ret (.call 4 (.cons (.slice (.var 0) (.var 1) (.var 3)) (.cons (.var 3) .nil))))
 .nil))))
abbrev f__read_from : Nat := 2
def b__read_tuple : Stts :=
 (.cons (.ifs (.val (.cmp .gt (.var 2) (.glob "MOST_DEPTH" (.int 20))))
 (.cons (.ret (.cst .non))
 .nil)
 .nil)
 (.cons (.ifs (.val (.cmp .eq (.slice (.var 0) (.var 1) (.bin .add (.var 1) (.cst (.int 1)))) (.cst (.str ")"))))
 (.cons (.ret (.tup (.cons (.tup .nil) (.cons (.bin .add (.var 1) (.cst (.int 1))) .nil))))
 .nil)
 .nil)
 (.cons (.asg (.nm 3) (.lst .nil))
 (.cons (.asg (.nm 4) (.bin .sub (.var 1) (.cst (.int 1))))
 (.cons (.asg (.nm 5) (.cst (.str " ")))
 (.cons (.while_ (.val (.cmp .eq (.var 5) (.cst (.str " "))))
 (.cons (.asg (.nm 6) (.call 2 (.cons (.var 0) (.cons (.bin .add (.var 4) (.cst (.int 1))) (.cons (.var 2) .nil)))))
 (.cons (.ifs (.val (.cmp .is (.var 6) (.cst .non)))
 (.cons (.ret (.cst .non))
 .nil)
 .nil)
 (.cons (.asg (.tp [(.nm 7), (.nm 4)]) (.var 6))
 (.cons (.app (.nm 3) (.var 7))
 (.cons (.asg (.nm 5) (.slice (.var 0) (.var 4) (.bin .add (.var 4) (.cst (.int 1)))))
 .nil))))))
 (.cons (.ifs (.val (.cmp .ne (.var 5) (.cst (.str ")"))))
 (.cons (.ret (.cst .non))
 .nil)
 .nil)
 (.cons (.ret (.tup (.cons (.bi .tuple (.cons (.var 3) .nil)) (.cons (.bin .add (.var 4) (.cst (.int 1))) .nil))))
 .nil))))))))
abbrev f__read_tuple : Nat := 3
def b__read_plain : Stts :=
 (.cons (.ifs (.val (.cmp .eq (.var 0) (.cst (.str "T"))))
 (.cons (.ret (.tup (.cons (.cst (.bl true)) (.cons (.var 1) .nil))))
 .nil)
 .nil)
 (.cons (.ifs (.val (.cmp .eq (.var 0) (.cst (.str "F"))))
 (.cons (.ret (.tup (.cons (.cst (.bl false)) (.cons (.var 1) .nil))))
 .nil)
 .nil)
 (.cons (.ifs (.val (.cmp .eq (.var 0) (.cst (.str "N"))))
 (.cons (.ret (.tup (.cons (.cst .non) (.cons (.var 1) .nil))))
 .nil)
 .nil)
 (.cons (.ifs (.val (.call 6 (.cons (.var 0) (.cons (.glob "LETTERS" (.str "abcdefghijklmnopqrstuvwxyz")) .nil))))
 (.cons (.ret (.tup (.cons (.var 0) (.cons (.var 1) .nil))))
 .nil)
 .nil)
 (.cons (.ifs (.val (.call 5 (.cons (.var 0) .nil)))
 (.cons (.ret (.tup (.cons (.bi .int (.cons (.var 0) .nil)) (.cons (.var 1) .nil))))
 .nil)
 .nil)
 (.cons (.ret (.cst .non))
 .nil))))))
abbrev f__read_plain : Nat := 4
def b__is_integer_text : Stts :=
 (.cons (.asg (.nm 1) (.bm .removeprefix (.var 0) (.cons (.cst (.str "-")) .nil)))
 (.cons (.ifs (.or (.not (.val (.call 6 (.cons (.var 1) (.cons (.glob "DIGITS" (.str "0123456789")) .nil))))) (.val (.cmp .gt (.bi .len (.cons (.var 1) .nil)) (.glob "MOST_DIGITS" (.int 20)))))
 (.cons (.ret (.cst (.bl false)))
 .nil)
 .nil)
 (.cons (.ret (.cmp .eq (.bi .str (.cons (.bi .int (.cons (.var 0) .nil)) .nil)) (.var 0)))
 .nil)))
abbrev f__is_integer_text : Nat := 5
def b__consists_of : Stts :=
 (.cons (.ret (.and (.cmp .ne (.var 0) (.cst (.str ""))) (.bi .all (.cons (.lc (.nm 2) (.chars (.var 0)) .yes (.cmp .in (.var 2) (.var 1))) .nil))))
 .nil)
abbrev f__consists_of : Nat := 6
def b__law_number : Stts :=
 (.cons (.asg (.nm 2) (.cst (.int 0)))
 (.cons (.ifs (.val (.cmp .lt (.var 1) (.bi .len (.cons (.var 0) .nil))))
 (.cons (.asg (.nm 2) (.idx (.var 0) (.var 1)))
 .nil)
 .nil)
 (.cons (.ifs (.val (.cmp .lt (.var 2) (.cst (.int 0))))
 (.cons (.asg (.nm 2) (.bin .sub (.bin .sub (.cst (.int 0)) (.bin .mul (.cst (.int 2)) (.var 2))) (.cst (.int 1))))
 .nil)
 .nil)
 (.cons (.ifs (.val (.cmp .ge (.var 2) (.bin .pow (.cst (.int 10)) (.cst (.int 9)))))
 (.cons (.ret (.var 2))
 .nil)
 .nil)
 (.cons (.asg (.nm 3) (.bin .mod (.bi .int (.cons (.bin .add (.bin .add (.bin .mul (.var 2) (.cst (.int 48271))) (.bin .mul (.var 1) (.cst (.int 69621)))) (.cst (.int 11))) .nil)) (.cst (.int 2147483647))))
 (.cons (.asg (.nm 3) (.bin .mod (.bi .int (.cons (.bin .add (.bin .add (.bin .mul (.var 3) (.cst (.int 16807))) (.bin .mul (.var 1) (.cst (.int 12345)))) (.cst (.int 99991))) .nil)) (.cst (.int 2147483629))))
 (.cons (.asg (.nm 4) (.bin .mod (.bi .int (.cons (.bin .add (.bin .add (.bin .mul (.var 3) (.cst (.int 40692))) (.bin .mul (.var 1) (.cst (.int 3791)))) (.var 2)) .nil)) (.cst (.int 2147483399))))
 (.cons (.asg (.nm 4) (.bin .mod (.bi .int (.cons (.bin .add (.bin .mul (.var 4) (.cst (.int 69621))) (.cst (.int 7))) .nil)) (.cst (.int 2147483647))))
 (.cons (.ret (.bin .add (.bin .mul (.var 3) (.cst (.int 2147483647))) (.var 4)))
 .nil)))))))))
abbrev f__law_number : Nat := 7
def b__law_same : Stts :=
 (.cons (.ifs (.val (.bi (.isi .tuple) (.cons (.var 0) .nil)))
 (.cons (.ifs (.or (.not (.val (.bi (.isi .tuple) (.cons (.var 1) .nil)))) (.val (.cmp .ne (.bi .len (.cons (.var 0) .nil)) (.bi .len (.cons (.var 1) .nil)))))
 (.cons (.ret (.cst (.bl false)))
 .nil)
 .nil)
 (.cons (.ret (.bi .all (.cons (.lc (.nm 2) (.range (.bi .len (.cons (.var 0) .nil))) .yes (.call 8 (.cons (.idx (.var 0) (.var 2)) (.cons (.idx (.var 1) (.var 2)) .nil)))) .nil)))
 .nil))
 .nil)
 (.cons (.ifs (.val (.cmp .is (.var 0) (.cst .non)))
 (.cons (.ret (.cmp .is (.var 1) (.cst .non)))
 .nil)
 .nil)
 (.cons (.ifs (.val (.bi (.isi .bool) (.cons (.var 0) .nil)))
 (.cons (.ret (.and (.bi (.isi .bool) (.cons (.var 1) .nil)) (.cmp .eq (.var 0) (.var 1))))
 .nil)
 .nil)
 (.cons (.ifs (.val (.bi (.isi .str) (.cons (.var 0) .nil)))
 (.cons (.ret (.and (.bi (.isi .str) (.cons (.var 1) .nil)) (.cmp .eq (.var 0) (.var 1))))
 .nil)
 .nil)
 (.cons (.ret (.and (.bi (.isi .int) (.cons (.var 1) .nil)) (.and (.not (.bi (.isi .bool) (.cons (.var 1) .nil))) (.cmp .eq (.var 0) (.var 1)))))
 .nil)))))
abbrev f__law_same : Nat := 8
def b__law_tree : Stts :=
 (.cons (.asg (.nm 2) (.bin .mod (.bi .int (.cons (.var 0) .nil)) (.cst (.int 9))))
 (.cons (.asg (.nm 3) (.bin .div (.bi .int (.cons (.var 0) .nil)) (.cst (.int 9))))
 (.cons (.ifs (.and (.val (.cmp .lt (.var 2) (.cst (.int 4)))) (.val (.cmp .gt (.var 1) (.cst (.int 0)))))
 (.cons (.asg (.nm 4) (.lst .nil))
 (.cons (.for_ (.nm 5) (.range (.bin .mod (.bi .int (.cons (.var 3) .nil)) (.cst (.int 5))))
 (.cons (.app (.nm 4) (.call 9 (.cons (.bin .div (.bi .int (.cons (.var 3) .nil)) (.bin .add (.cst (.int 5)) (.bin .mul (.cst (.int 11)) (.var 5)))) (.cons (.bin .sub (.var 1) (.cst (.int 1))) .nil))))
 .nil))
 (.cons (.ret (.bi .tuple (.cons (.var 4) .nil)))
 .nil)))
 .nil)
 (.cons (.ifs (.val (.cmp .eq (.var 2) (.cst (.int 4))))
 (.cons (.ret (.idx (.lst (.cons (.cst (.bl true)) (.cons (.cst (.bl false)) (.cons (.cst .non) .nil)))) (.bin .mod (.bi .int (.cons (.var 3) .nil)) (.cst (.int 3)))))
 .nil)
 .nil)
 (.cons (.ifs (.val (.cmp .eq (.var 2) (.cst (.int 5))))
 (.cons (.ret (.idx (.lst (.cons (.cst (.str "pay")) (.cons (.cst (.str "t")) (.cons (.cst (.str "f")) (.cons (.cst (.str "open")) (.cons (.cst (.str "none")) (.cons (.cst (.str "zz")) .nil))))))) (.bin .mod (.bi .int (.cons (.var 3) .nil)) (.cst (.int 6)))))
 .nil)
 .nil)
 (.cons (.ifs (.val (.cmp .eq (.var 2) (.cst (.int 6))))
 (.cons (.ret (.bin .sub (.cst (.int 0)) (.bin .mod (.bi .int (.cons (.var 3) .nil)) (.cst (.int 100)))))
 .nil)
 .nil)
 (.cons (.ifs (.val (.cmp .eq (.var 2) (.cst (.int 7))))
 (.cons (.ret (.bin .mod (.bi .int (.cons (.var 3) .nil)) (.bin .pow (.cst (.int 10)) (.cst (.int 20)))))
 .nil)
 .nil)
 (.cons (.ret (.bin .mod (.bi .int (.cons (.var 3) .nil)) (.cst (.int 1000))))
 .nil))))))))
abbrev f__law_tree : Nat := 9
def b__law_text : Stts :=
 (.cons (.ifs (.val (.bi (.isi .tuple) (.cons (.var 0) .nil)))
 (.cons (.asg (.nm 1) (.cst (.str "(")))
 (.cons (.for_ (.nm 2) (.range (.bi .len (.cons (.var 0) .nil)))
 (.cons (.ifs (.val (.cmp .gt (.var 2) (.cst (.int 0))))
 (.cons (.asg (.nm 1) (.bin .add (.var 1) (.cst (.str " "))))
 .nil)
 .nil)
 (.cons (.asg (.nm 1) (.bin .add (.var 1) (.call 10 (.cons (.idx (.var 0) (.var 2)) .nil))))
 .nil)))
 (.cons (.ret (.bin .add (.var 1) (.cst (.str ")"))))
 .nil)))
 .nil)
 (.cons (.ifs (.val (.cmp .is (.var 0) (.cst .non)))
 (.cons (.ret (.cst (.str "N")))
 .nil)
 .nil)
 (.cons (.ifs (.val (.cmp .is (.var 0) (.cst (.bl true))))
 (.cons (.ret (.cst (.str "T")))
 .nil)
 .nil)
 (.cons (.ifs (.val (.cmp .is (.var 0) (.cst (.bl false))))
 (.cons (.ret (.cst (.str "F")))
 .nil)
 .nil)
 (.cons (.ifs (.val (.bi (.isi .str) (.cons (.var 0) .nil)))
 (.cons (.ret (.var 0))
 .nil)
 .nil)
 (.cons (.ifs (.val (.cmp .lt (.var 0) (.cst (.int 0))))
 (.cons (.ret (.bin .add (.cst (.str "-")) (.call 10 (.cons (.bin .sub (.cst (.int 0)) (.var 0)) .nil))))
 .nil)
 .nil)
 (.cons (.asg (.nm 3) (.idx (.cst (.str "0123456789")) (.bin .mod (.bi .int (.cons (.var 0) .nil)) (.cst (.int 10)))))
 (.cons (.asg (.nm 0) (.bin .div (.bi .int (.cons (.var 0) .nil)) (.cst (.int 10))))
 (.cons (.while_ (.val (.cmp .gt (.var 0) (.cst (.int 0))))
 (.cons (.asg (.nm 3) (.bin .add (.idx (.cst (.str "0123456789")) (.bin .mod (.bi .int (.cons (.var 0) .nil)) (.cst (.int 10)))) (.var 3)))
 (.cons (.asg (.nm 0) (.bin .div (.bi .int (.cons (.var 0) .nil)) (.cst (.int 10))))
 .nil)))
 (.cons (.ret (.var 3))
 .nil))))))))))
abbrev f__law_text : Nat := 10
def b_law : Stts :=
 (.cons (.for_ (.nm 1) (.range (.cst (.int 8)))
 (.cons (.asg (.nm 2) (.call 9 (.cons (.call 7 (.cons (.var 0) (.cons (.var 1) .nil))) (.cons (.cst (.int 5)) .nil))))
 (.cons (.asg (.nm 3) (.call 10 (.cons (.var 2) .nil)))
 (.cons (.asg (.nm 4) (.call 0 (.cons (.var 2) .nil)))
 (.cons (.ifs (.or (.not (.val (.bi (.isi .str) (.cons (.var 4) .nil)))) (.val (.cmp .ne (.var 4) (.var 3))))
 (.cons (.ret (.cst (.bl false)))
 .nil)
 .nil)
 (.cons (.ifs (.or (.not (.val (.call 8 (.cons (.var 2) (.cons (.call 1 (.cons (.var 3) (.cons (.cst (.int 1)) .nil))) .nil))))) (.not (.val (.call 8 (.cons (.tup (.cons (.var 2) (.cons (.var 2) .nil))) (.cons (.call 1 (.cons (.bin .add (.bin .add (.bin .add (.bin .add (.cst (.str "(")) (.var 3)) (.cst (.str " "))) (.var 3)) (.cst (.str ")"))) (.cons (.var 1) .nil))) .nil))))))
 (.cons (.ret (.cst (.bl false)))
 .nil)
 .nil)
 .nil))))))
 (.cons (.ret (.cst (.bl true)))
 .nil))
abbrev f_law : Nat := 11
def fldsL : List (Nat × Str) := []
def ktsL : List (List D) := []
def exsL : List Nat := []
def prog : Prog := ⟨[⟨1, 2, b_write_tree, false⟩,
 ⟨2, 3, b_read_tree, false⟩,
 ⟨3, 4, b__read_from, false⟩,
 ⟨3, 8, b__read_tuple, false⟩,
 ⟨2, 2, b__read_plain, false⟩,
 ⟨1, 2, b__is_integer_text, false⟩,
 ⟨2, 3, b__consists_of, false⟩,
 ⟨2, 5, b__law_number, false⟩,
 ⟨2, 3, b__law_same, false⟩,
 ⟨2, 6, b__law_tree, false⟩,
 ⟨1, 4, b__law_text, false⟩,
 ⟨1, 5, b_law, false⟩], List.map Str.ofString ["write_tree", "read_tree", "_read_from", "_read_tuple", "_read_plain", "_is_integer_text", "_consists_of", "_law_number", "_law_same", "_law_tree", "_law_text", "law"], [], [(1, 0)], ktsL, fldsL, exsL⟩
end Lw
set_option genInjectivity true
set_option genSizeOf true
set_option genSizeOfSpec true
namespace Lw
open Tv
open L2 (atI)
theorem mulR {i j : Int} (h1 : -18446744073709551616 < j) (h2 : j < 18446744073709551616) : mulOk i j = true := mulOkR h1 h2
theorem mulL {i j : Int} (h1 : -18446744073709551616 < i) (h2 : i < 18446744073709551616) : mulOk i j = true := mulOkL h1 h2
theorem divR {j : Int} (h1 : 0 < j) (h2 : j < 18446744073709551616) : divOk j = true := divOkI h1 h2
theorem atI_at {xs : List D} {k : Nat} {x : D} (h : xs[k]? = some x) : atI xs (k : Int) = some x := by rw [atI_pos (by omega)]; exact h
theorem cs_write_tree {n : Nat} {as : List SV} {L : List Ow} {st : Sto} (hl : as.length = 1 := by rfl) : prog.call (n + 1) 0 as L st = result (execs (prog.cl (prog.call n) L) b_write_tree (as.map some ++ List.replicate (2 - as.length) none) st) := call_succ (np := 1) (ns := 2) (body := b_write_tree) rfl hl
theorem cs_read_tree {n : Nat} {as : List SV} {L : List Ow} {st : Sto} (hl : as.length = 2 := by rfl) : prog.call (n + 1) 1 as L st = result (execs (prog.cl (prog.call n) L) b_read_tree (as.map some ++ List.replicate (3 - as.length) none) st) := call_succ (np := 2) (ns := 3) (body := b_read_tree) rfl hl
theorem cs__read_from {n : Nat} {as : List SV} {L : List Ow} {st : Sto} (hl : as.length = 3 := by rfl) : prog.call (n + 1) 2 as L st = result (execs (prog.cl (prog.call n) L) b__read_from (as.map some ++ List.replicate (4 - as.length) none) st) := call_succ (np := 3) (ns := 4) (body := b__read_from) rfl hl
theorem cs__read_tuple {n : Nat} {as : List SV} {L : List Ow} {st : Sto} (hl : as.length = 3 := by rfl) : prog.call (n + 1) 3 as L st = result (execs (prog.cl (prog.call n) L) b__read_tuple (as.map some ++ List.replicate (8 - as.length) none) st) := call_succ (np := 3) (ns := 8) (body := b__read_tuple) rfl hl
theorem cs__read_plain {n : Nat} {as : List SV} {L : List Ow} {st : Sto} (hl : as.length = 2 := by rfl) : prog.call (n + 1) 4 as L st = result (execs (prog.cl (prog.call n) L) b__read_plain (as.map some ++ List.replicate (2 - as.length) none) st) := call_succ (np := 2) (ns := 2) (body := b__read_plain) rfl hl
theorem cs__is_integer_text {n : Nat} {as : List SV} {L : List Ow} {st : Sto} (hl : as.length = 1 := by rfl) : prog.call (n + 1) 5 as L st = result (execs (prog.cl (prog.call n) L) b__is_integer_text (as.map some ++ List.replicate (2 - as.length) none) st) := call_succ (np := 1) (ns := 2) (body := b__is_integer_text) rfl hl
theorem cs__consists_of {n : Nat} {as : List SV} {L : List Ow} {st : Sto} (hl : as.length = 2 := by rfl) : prog.call (n + 1) 6 as L st = result (execs (prog.cl (prog.call n) L) b__consists_of (as.map some ++ List.replicate (3 - as.length) none) st) := call_succ (np := 2) (ns := 3) (body := b__consists_of) rfl hl
theorem cs__law_number {n : Nat} {as : List SV} {L : List Ow} {st : Sto} (hl : as.length = 2 := by rfl) : prog.call (n + 1) 7 as L st = result (execs (prog.cl (prog.call n) L) b__law_number (as.map some ++ List.replicate (5 - as.length) none) st) := call_succ (np := 2) (ns := 5) (body := b__law_number) rfl hl
theorem cs__law_same {n : Nat} {as : List SV} {L : List Ow} {st : Sto} (hl : as.length = 2 := by rfl) : prog.call (n + 1) 8 as L st = result (execs (prog.cl (prog.call n) L) b__law_same (as.map some ++ List.replicate (3 - as.length) none) st) := call_succ (np := 2) (ns := 3) (body := b__law_same) rfl hl
theorem cs__law_tree {n : Nat} {as : List SV} {L : List Ow} {st : Sto} (hl : as.length = 2 := by rfl) : prog.call (n + 1) 9 as L st = result (execs (prog.cl (prog.call n) L) b__law_tree (as.map some ++ List.replicate (6 - as.length) none) st) := call_succ (np := 2) (ns := 6) (body := b__law_tree) rfl hl
theorem cs__law_text {n : Nat} {as : List SV} {L : List Ow} {st : Sto} (hl : as.length = 1 := by rfl) : prog.call (n + 1) 10 as L st = result (execs (prog.cl (prog.call n) L) b__law_text (as.map some ++ List.replicate (4 - as.length) none) st) := call_succ (np := 1) (ns := 4) (body := b__law_text) rfl hl
theorem cs_law {n : Nat} {as : List SV} {L : List Ow} {st : Sto} (hl : as.length = 1 := by rfl) : prog.call (n + 1) 11 as L st = result (execs (prog.cl (prog.call n) L) b_law (as.map some ++ List.replicate (5 - as.length) none) st) := call_succ (np := 1) (ns := 5) (body := b_law) rfl hl
local macro_rules | `(tactic| push_cast [$ls,*]) => `(tactic| simp only [e_bin, k_bin, k_bin2, e_cmp, k_cmp, bok_s, k_cmp2, e_var, e_cst, e_glob, e_neg, k_neg, k_bl, e_and, k_andT, k_andF, e_or, k_orF, k_orT, e_not, k_not, e_ite, k_iteT, k_iteF, dok_s, e_idx, k_idx, k_idx2, e_slice, k_sl, k_sl2, k_sl3, part_i, part_n, e_rev, e_tup, k_tup, k_tup2, e_lst, k_lst, k_lst2, toDs_nil, toDs_cons, k_ds, k_ds2, toD_d, e_call, k_go, e_bi, s_nil, s_cons, k_es, k_es2, t_yes, tok_s, t_val, k_val, t_and, k_tandT, k_tandF, t_or, k_torT, k_torF, t_not, k_tnot, i_seq, i_rng, k_rng, i_rev, k_revI, k_revI2, k_some, k_turnT, k_turnF, k_own, e_lc, k_lc, ss_nil', ss_cons', x_asg, nxo_s, k_asg, k_asgO, k_asgP, g_put, x_mv, set_v, x_if, k_ifT, k_ifF, x_for, k_for, k_retD, k_retO, x_ret_bin, x_ret_cmp, x_ret_and, x_ret_or, x_ret_not, x_ret_ite, x_ret_cst, x_ret_tup, x_ret_lst, x_ret_rev, x_ret_idx, x_ret_slice, x_ret_neg, x_ret_lc, x_ret_call, x_ret_bi, x_retV, x_retN, x_brk, x_cnt, x_pass, x_app, i_items, k_items, stay_o, stay_p, stay_a, k_put4F, put_f, del_fm, x_retBm, x_retCv, x_aug, k_aug, k_augA, k_augS, e_gidx, k_gi, gi_o, e_callv, k_cv, x_augSub, k_as, k_as2, k_as3, k_as3b, k_as4, k_as5, isD_m, x_ext, k_ext, k_ext3, ext_o, ext_s, r_nm, k_slot, k_push, rev_c, cast0, List.isEmpty_cons, List.isEmpty_nil, sl_tail, k_app, k_app1, k_app3, Lc.ow, b_add, b_sub, b_mul, b_div, b_mod, b_pow, c_lt, c_le, c_gt, c_ge, c_eq, c_ne, c_isN, c_eqB, c_eqS, all_map, toNatN, c_isntN, ix_tup, ix_c, bi_lenT, bi_lenC, bi_int', bi_listT, bi_listC, bi_tupleT, bi_tupleC, bi_isi, tr_bl, tr_int, tr_tup, tr_c, tr_non, q_tup, q_c, q_tupS, q_cS, q_cM, rt_nx, rt_rt,
  List.map, List.append, List.cons_append, List.nil_append, turn_c, k_turnE, turn_f, k_turnFE, filN_nil, filN_cons, Nat.reduceEqDiff, Nat.reduceLeDiff, wipeE, Tg.own, Tg.names, Tg.namess, dupN, List.length_cons, List.length_nil, List.length_map, List.length_reverse, decide_true, decide_false, List.replicate, Nat.reduceSub, Nat.reduceAdd, Nat.zero_add, List.getElem?_cons_zero, List.getElem?_cons_succ, List.set_cons_zero, List.set_cons_succ, rb_ok, sb_ok, sq_nx, sq_rt, sq_bk, sq_ct, Tg.free, Tg.frees, free_f, free_nil, free_cons, Tg.set, Tg.sets, Bool.and_true, Bool.true_and, Bool.not_true, Bool.not_false, if_true, cl_lk, cl_go, cl_kts, cl_locks, lockOf, argS, List.flatMap_cons, List.flatMap_nil, isTy, atI0, atI1, atI2, atI3, atI4, mulR, mulL, divR, powC, powC15, Ex.isV, Ex.isNon, if_false, Int.reduceNeg, Int.reducePow, Int.reduceLT, Int.reduceLE, Int.reduceToNat, reduceCtorEq, s_beq, stay_par, stay_scr, stay_own, stay_at, Int.zero_add, e_ls, k_ls, k_count, i_zip, k_zip1, k_zip2, k_zip3, k_zip4, x_drop, k_drop, bi_max2, bi_min2, sl_two, c_neT2, c_eqT2, c_inI, c_notinI, Bool.false_and, Bool.and_false, e_dct, k_dct, k_dct1, e_dct0K, bi_dictC, ix_m, c_inM, c_notinM, is_some, is_none, x_put, k_put, k_put2, k_put3, k_put4, k_putM, r_nm0, k_slot0, x_prom, k_promO, k_promD, ix_ref, k_refL, ty_ref, k_isL, bi_tupleR, k_tupR, last_at, ix_t, c_notinT, k_putT, i_enum, k_enum, k_enum2, e_dct0T, e_attr, k_attr, attr_o, attr_d, attr_c, attr_z, ins_o, e_meth, k_meth, k_meth1, k_meth2, k_methG, e_prop, k_prop, k_prop1, k_prop2, nox_ok, lk_cons, e_make, k_make, k_made, x_fld, k_fld, k_store, fld_o, fv_d, fv_c, okf_cons, okf_nil, put_nil, put_cons, k_nx, k_nxU, x_fldMv, k_fldMvO, k_fldMvD, x_fld2, k_fld21, k_sto, k_fld22, x_augFld, k_augF, k_augO, k_augF1, k_augF2, aug_add, aug_sub, k_augF3, st_set, st_setN, st_set2, st_setL, st_new, st_newS, lkf_nil, lkf_filt, lkf_c, lkf_f, lkf_s, lkf_app, r_fld, k_res, res_o, res_c, r_kind, k_kd, con_o, con_v, kd_o, isL_l, k_appF, app_f, set_o, set_p, s_beqF, b_addL, ne_eq, bi_minL, c_neB, eq_self, not_false_eq_true, e_chain, k_ch, k_ch2T, k_ch2F, k_ch3, x_del, k_del, k_delF, del_f, map_erase, x_par, k_par, k_par2, c_isC, c_isntC, trk_own, trk_par, trk_at, trk_d, s_beqC, x_ret_attr, x_ret_meth, x_ret_prop, x_ret_make, x_ret_glob, x_ret_dct, lku_hit, s_eqP, s_eqB, String.reduceEq, Nat.reduceLT, Bool.or_true, Bool.or_false, Bool.true_or, Bool.false_or, reduceIte, rb_ex, sb_ex, sq_ex, rt_ex, x_raise, k_raise, x_try, try_nx, try_rt, try_ct, try_ex, hd_cons, hd_y, hd_n, hd_nil, nex_nx, nex_rt, nex_ct, x_tryN, tryN_nx, tryN_rt, tryN_ex, unx_nx, unx_rt, hn_cons, hn_y, hn_n, e_xis, xis_o, k_xis, e_lsZ, i_row, k_lsZ, k_countZ, x_putL, k_putL, k_putL2, k_putL3, k_putL4, put_lv, c_neSt, k_slotC, k_cellL, k_slot0C, con_c1, k_appC, app_c, k_put4C, put_c, x_pop, k_pop, k_popC, pop_c, e_popc, k_popc, k_popcO, k_popc2, pop_d, pop_r, e_bm, k_bmG, k_bmGR, k_bmR1, k_bm2R, get_r, k_bm2C, bi_lenR, len_l, len_m, e_dc, k_dc, turn_d, k_turnDE, k_turnDT, k_turnDF, k_dcK, k_dcV, k_ownM, x_fldFz, k_fz1, fz_o, fz_c, fz_d, k_fz2, $ls,*, *])
section
local macro_rules | `(tactic| walk_at "sv") => `(tactic| push_cast [e_bin])
theorem atI_ints {ns : List Int} {k : Int} (h : 0 ≤ k) (h2 : k < ns.length) : atI (ns.map D.int) k = some (.int ((atI ns k).getD 0)) := by
  rw [atI_pos h, atI_pos h, List.getElem?_map]
  have h3 : k.toNat < ns.length := by omega
  rw [List.getElem?_eq_getElem h3]
  rfl
/-- the law's numbers -/
def num (ns : List Int) (k : Int) : Int :=
  let z := if k < ns.length then (atI ns k).getD 0 else 0
  let z := if z < 0 then 0 - 2 * z - 1 else z
  if 1000000000 ≤ z then z else
  let f := (z * 48271 + k * 69621 + 11) % 2147483647
  let f := (f * 16807 + k * 12345 + 99991) % 2147483629
  let s := (f * 40692 + k * 3791 + z) % 2147483399
  let s := (s * 69621 + 7) % 2147483647
  f * 2147483647 + s
theorem sp_number {n : Nat} {ns : List Int} {k : Int} {L : List Ow} {st : Sto} (hk : 0 ≤ k) : prog.call (n + 1) 7 [.c .scr (.l (ns.map .int)), .d (.int k)] (L.filter Ow.inStore) st = some (.ok (.d (.int (num ns k))) st) := by
  rw [cs__law_number]
  unfold num
  delta b__law_number
  by_cases h : k < ns.length
  · have e := atI_ints hk h
    generalize (atI ns k).getD 0 = z at e
    by_cases h2 : z < 0
    · by_cases h3 : 1000000000 ≤ 0 - 2 * z - 1 <;> walk_at "sv"
    · by_cases h3 : 1000000000 ≤ z <;> walk_at "sv"
  · walk_at "sv"
end
section
local macro_rules | `(tactic| walk_at "sv") => `(tactic| push_cast [e_bin])
/-- the text of these signs -/
def S (l : List Nat) : PySem.Str := ⟨l.toArray⟩
theorem S_cps {l : List Nat} : (S l).cps.toList = l := rfl
theorem S_len {l : List Nat} : (S l).length = l.length := rfl
theorem S_of (x : PySem.Str) : S x.cps.toList = x := rfl
theorem S_add {a b : List Nat} : S a ++ S b = S (a ++ b) := by
  show PySem.Str.mk (a.toArray ++ b.toArray) = ⟨(a ++ b).toArray⟩
  rw [List.append_toArray]
theorem S_inj {a b : List Nat} : S a = S b ↔ a = b := ⟨fun h => congrArg (fun x : PySem.Str => x.cps.toList) h, fun h => by rw [h]⟩
/-- the figures of a number -/
def dg (m : Nat) : List Nat := (Nat.toDigits 10 m).map Char.toNat
theorem dg_lt {m : Nat} (h : m < 10) : dg m = [48 + m] := by
  unfold dg
  rw [Nat.toDigits_of_lt_base h]
  match m, h with
  | 0, _ => rfl
  | 1, _ => rfl
  | 2, _ => rfl
  | 3, _ => rfl
  | 4, _ => rfl
  | 5, _ => rfl
  | 6, _ => rfl
  | 7, _ => rfl
  | 8, _ => rfl
  | 9, _ => rfl
theorem dg_ge {m : Nat} (h : 10 ≤ m) : dg m = dg (m / 10) ++ [48 + m % 10] := by
  have h1 : dg m = (Nat.toDigits 10 (m / 10) ++ [(m % 10).digitChar]).map Char.toNat := by
    unfold dg
    rw [Nat.toDigits_eq_if (by omega), if_neg (by omega)]
  rw [h1, List.map_append]
  have h2 := dg_lt (m := m % 10) (by omega)
  unfold dg at h2
  rw [Nat.toDigits_of_lt_base (by omega)] at h2
  rw [h2]
  rfl
theorem dg_all : ∀ (k m : Nat), m < k → PySem.NumText.AllDigits (dg m) ∧ dg m ≠ []
  | 0, m, h => absurd h (Nat.not_lt_zero _)
  | k + 1, m, h => by
    by_cases c : m < 10
    · rw [dg_lt c]
      exact ⟨fun x hx => by rw [List.mem_singleton.mp hx]; omega, by simp⟩
    · rw [dg_ge (by omega)]
      obtain ⟨h1, _⟩ := dg_all k (m / 10) (by omega)
      refine ⟨fun x hx => ?_, by simp⟩
      rcases List.mem_append.mp hx with z | z
      · exact h1 x z
      · rw [List.mem_singleton.mp z]; omega
theorem dg_digits (m : Nat) : ∀ c ∈ dg m, 48 ≤ c ∧ c ≤ 57 := (dg_all (m + 1) m (by omega)).1
theorem dg_ne (m : Nat) : dg m ≠ [] := (dg_all (m + 1) m (by omega)).2
theorem dg_len : ∀ (k m : Nat), m < 10 ^ (k + 1) → (dg m).length ≤ k + 1
  | 0, m, h => by rw [dg_lt (by omega)]; simp
  | k + 1, m, h => by
    by_cases c : m < 10
    · rw [dg_lt c]; simp
    · rw [dg_ge (by omega), List.length_append]
      have := dg_len k (m / 10) (by rw [Nat.pow_succ] at h; omega)
      simp only [List.length_cons, List.length_nil]
      omega
theorem dg_val (m : Nat) : PySem.NumText.digitsVal (dg m) = m := PySem.W.KIN.val_back m
theorem str_nat (m : Nat) : PySem.Str.ofString (toString (m : Int)) = S (dg m) := by
  rw [← S_of (PySem.Str.ofString _), PySem.W.KIN.signs_num]
  rfl
theorem neg_bytes (s : String) : ("-" ++ s).toByteArray.data.toList = 45 :: s.toByteArray.data.toList := by
  rw [String.toByteArray_append, ByteArray.data_append, Array.toList_append]
  rfl
theorem str_neg (m : Nat) : PySem.Str.ofString (toString (-((m + 1 : Nat) : Int))) = S (45 :: dg (m + 1)) := by
  have h1 : toString (-((m + 1 : Nat) : Int)) = "-" ++ toString (((m + 1 : Nat) : Int)) := rfl
  have h2 := str_nat (m + 1)
  rw [h1]
  unfold PySem.Str.ofString at h2 ⊢
  rw [neg_bytes]
  have h3 : ∀ bs : List UInt8, PySem.cpsOfBytes 0 0 (45 :: bs) = 45 :: PySem.cpsOfBytes 0 0 bs := fun bs => by
    rfl
  rw [h3]
  have h4 : PySem.cpsOfBytes 0 0 (toString (((m + 1 : Nat) : Int))).toByteArray.data.toList = dg (m + 1) := congrArg (fun x : PySem.Str => x.cps.toList) h2
  rw [h4]
  rfl
end
section
local macro_rules | `(tactic| walk_at "sv") => `(tactic| push_cast [Int.reduceEq, Int.reduceLE, Int.reduceLT, Int.reduceAdd])
def glue : List (List Nat) → List Nat
  | [] => []
  | [a] => a
  | a :: b :: r => a ++ 32 :: glue (b :: r)
theorem glue_snoc {y : List Nat} : ∀ {xs : List (List Nat)}, xs ≠ [] → glue (xs ++ [y]) = glue xs ++ 32 :: y
  | [], h => absurd rfl h
  | [a], _ => rfl
  | a :: b :: r, _ => by
    have := glue_snoc (y := y) (xs := b :: r) (by simp)
    show a ++ 32 :: glue ((b :: r) ++ [y]) = (a ++ 32 :: glue (b :: r)) ++ 32 :: y
    rw [this, List.append_assoc]
    rfl
theorem glue_len {b : Nat} : ∀ {xs : List (List Nat)}, (∀ x ∈ xs, x.length ≤ b) → (glue xs).length ≤ xs.length * (b + 1)
  | [], _ => Nat.zero_le _
  | [a], h => by have := h a (by simp); show a.length ≤ 1 * (b + 1); omega
  | a :: c :: r, h => by
    have h1 := h a (by simp)
    have h2 := glue_len (b := b) (xs := c :: r) (fun x hx => h x (List.mem_cons_of_mem _ hx))
    show (a ++ 32 :: glue (c :: r)).length ≤ _
    rw [List.length_append, List.length_cons, List.length_cons (a := a), Nat.succ_mul]
    omega
/-- the text of a leaf -/
def lx : D → List Nat
  | .bl b => if b then [84] else [70]
  | .non => [78]
  | .str w => w.cps.toList
  | .int i => if i < 0 then 45 :: dg (-i).toNat else dg i.toNat
  | _ => []
def tx : Nat → D → List Nat
  | 0, d => lx d
  | n + 1, d => match d with
    | .tup ts => 40 :: (glue (ts.map (tx n)) ++ [41])
    | d => lx d
def Wd (l : List Nat) : Prop := l ≠ [] ∧ l.length ≤ 21 ∧ ∀ c ∈ l, 97 ≤ c ∧ c ≤ 122
def Lf : D → Prop
  | .bl _ => True
  | .non => True
  | .str w => Wd w.cps.toList
  | .int i => -100000000000000000000 < i ∧ i < 100000000000000000000
  | _ => False
def Good : Nat → D → Prop
  | 0, d => Lf d
  | n + 1, d => Lf d ∨ ∃ ts, d = .tup ts ∧ ts.length ≤ 4 ∧ ∀ t ∈ ts, Good n t
theorem tx_leaf {d : D} (h : Lf d) : ∀ n, tx n d = lx d
  | 0 => rfl
  | n + 1 => by
    cases d with
    | tup ts => exact False.elim h
    | _ => rfl
theorem lx_len {d : D} (h : Lf d) : (lx d).length ≤ 21 := by
  cases d with
  | bl b => cases b <;> exact Nat.le_of_ble_eq_true rfl
  | non => exact Nat.le_of_ble_eq_true rfl
  | str w => exact h.2.1
  | int i =>
    obtain ⟨h1, h2⟩ := (show -100000000000000000000 < i ∧ i < 100000000000000000000 from h)
    show (if i < 0 then 45 :: dg (-i).toNat else dg i.toNat).length ≤ 21
    split
    · have := dg_len 19 (-i).toNat (by omega)
      rw [List.length_cons]; omega
    · have := dg_len 19 i.toNat (by omega)
      omega
  | tup ts => exact h.elim
  | ref k => exact h.elim
  | fn k => exact h.elim
def bnd : Nat → Nat
  | 0 => 21
  | n + 1 => 6 + 4 * bnd n
theorem bnd_ge : ∀ n, 21 ≤ bnd n
  | 0 => Nat.le_refl _
  | n + 1 => by have := bnd_ge n; show 21 ≤ 6 + 4 * bnd n; omega
theorem bnd_le {n : Nat} (h : n ≤ 6) : bnd n ≤ 1000000 := by
  match n, h with
  | 0, _ => decide
  | 1, _ => decide
  | 2, _ => decide
  | 3, _ => decide
  | 4, _ => decide
  | 5, _ => decide
  | 6, _ => decide
theorem good_len : ∀ {n : Nat} {d : D}, Good n d → (tx n d).length ≤ bnd n
  | 0, d, h => lx_len h
  | n + 1, d, h => by
    rcases h with h | ⟨ts, rfl, hl, h⟩
    · rw [tx_leaf h]
      exact Nat.le_trans (lx_len h) (bnd_ge _)
    · show (40 :: (glue (ts.map (tx n)) ++ [41])).length ≤ 6 + 4 * bnd n
      have := glue_len (b := bnd n) (xs := ts.map (tx n)) (fun x hx => by
        obtain ⟨t, ht, rfl⟩ := List.mem_map.mp hx
        exact good_len (h t ht))
      rw [List.length_map] at this
      have h2 : ts.length * (bnd n + 1) ≤ 4 * (bnd n + 1) := Nat.mul_le_mul_right _ hl
      rw [List.length_cons, List.length_append, List.length_cons, List.length_nil]
      omega
theorem good_up {d : D} : ∀ {n : Nat}, Lf d → Good n d
  | 0, h => h
  | n + 1, h => .inl h
/-- the law's leaf of a number -/
def leafF (z : Int) : D :=
  if z % 9 = 4 then (atI [.bl true, .bl false, .non] (z / 9 % 3)).getD .non
  else if z % 9 = 5 then (atI [.str "pay", .str "t", .str "f", .str "open", .str "none", .str "zz"] (z / 9 % 6)).getD .non
  else if z % 9 = 6 then .int (0 - z / 9 % 100)
  else if z % 9 = 7 then .int (z / 9 % 100000000000000000000)
  else .int (z / 9 % 1000)
def tre : Nat → Int → D
  | 0, z => leafF z
  | n + 1, z => if z % 9 < 4 then .tup ((List.range (z / 9 % 5).toNat).map fun (k : Nat) => tre n (z / 9 / (5 + 11 * (k : Int)))) else leafF z
theorem leaf_lf {z : Int} : Lf (leafF z) := by
  unfold leafF
  split
  · have : z / 9 % 3 = 0 ∨ z / 9 % 3 = 1 ∨ z / 9 % 3 = 2 := by omega
    rcases this with e | e | e <;> rw [e] <;> trivial
  · split
    · have : z / 9 % 6 = 0 ∨ z / 9 % 6 = 1 ∨ z / 9 % 6 = 2 ∨ z / 9 % 6 = 3 ∨ z / 9 % 6 = 4 ∨ z / 9 % 6 = 5 := by omega
      rcases this with e | e | e | e | e | e <;> rw [e]
      · show Wd (PySem.Str.ofString "pay").cps.toList
        rw [show (PySem.Str.ofString "pay").cps.toList = [112, 97, 121] by decide +kernel]
        exact ⟨by simp, by simp, by simp⟩
      · show Wd (PySem.Str.ofString "t").cps.toList
        rw [show (PySem.Str.ofString "t").cps.toList = [116] by decide +kernel]
        exact ⟨by simp, by simp, by simp⟩
      · show Wd (PySem.Str.ofString "f").cps.toList
        rw [show (PySem.Str.ofString "f").cps.toList = [102] by decide +kernel]
        exact ⟨by simp, by simp, by simp⟩
      · show Wd (PySem.Str.ofString "open").cps.toList
        rw [show (PySem.Str.ofString "open").cps.toList = [111, 112, 101, 110] by decide +kernel]
        exact ⟨by simp, by simp, by simp⟩
      · show Wd (PySem.Str.ofString "none").cps.toList
        rw [show (PySem.Str.ofString "none").cps.toList = [110, 111, 110, 101] by decide +kernel]
        exact ⟨by simp, by simp, by simp⟩
      · show Wd (PySem.Str.ofString "zz").cps.toList
        rw [show (PySem.Str.ofString "zz").cps.toList = [122, 122] by decide +kernel]
        exact ⟨by simp, by simp, by simp⟩
    · split
      · show -100000000000000000000 < 0 - z / 9 % 100 ∧ 0 - z / 9 % 100 < 100000000000000000000
        omega
      · split
        · show -100000000000000000000 < z / 9 % 100000000000000000000 ∧ z / 9 % 100000000000000000000 < 100000000000000000000
          omega
        · show -100000000000000000000 < z / 9 % 1000 ∧ z / 9 % 1000 < 100000000000000000000
          omega
theorem tre_good : ∀ {n : Nat} {z : Int}, Good n (tre n z)
  | 0, z => leaf_lf
  | n + 1, z => by
    unfold tre
    split
    · refine .inr ⟨_, rfl, ?_, fun t ht => ?_⟩
      · rw [List.length_map, List.length_range]; omega
      · obtain ⟨k, _, rfl⟩ := List.mem_map.mp ht
        exact tre_good
    · exact good_up leaf_lf
theorem sp_tree : ∀ (m : Nat) {n : Nat} {z : Int} {L : List Ow} {st : Sto}, prog.call (n + (m + 1)) 9 [.d (.int z), .d (.int m)] (L.filter Ow.inStore) st = some (.ok (.d (tre m z)) st) := by
  have leafE : ∀ (m n : Nat) {z : Int} {L : List Ow} {st : Sto}, ¬ (z % 9 < 4 ∧ 0 < m) → prog.call (n + (m + 1)) 9 [.d (.int z), .d (.int m)] (L.filter Ow.inStore) st = some (.ok (.d (leafF z)) st) := by
    intro m n z L st h
    rw [show n + (m + 1) = n + m + 1 from rfl, cs__law_tree]; delta b__law_tree
    unfold leafF
    have h3 : ∃ x, atI [D.bl true, .bl false, .non] (z / 9 % 3) = some x := by
      have : z / 9 % 3 = 0 ∨ z / 9 % 3 = 1 ∨ z / 9 % 3 = 2 := by omega
      rcases this with e | e | e <;> rw [e] <;> exact ⟨_, rfl⟩
    have h6 : ∃ x, atI [D.str "pay", .str "t", .str "f", .str "open", .str "none", .str "zz"] (z / 9 % 6) = some x := by
      have : z / 9 % 6 = 0 ∨ z / 9 % 6 = 1 ∨ z / 9 % 6 = 2 ∨ z / 9 % 6 = 3 ∨ z / 9 % 6 = 4 ∨ z / 9 % 6 = 5 := by omega
      rcases this with e | e | e | e | e | e <;> rw [e] <;> exact ⟨_, rfl⟩
    have hp : ∀ st : Sto, bin .pow (.d (.int 10)) (.d (.int 20)) st = ok (.d (.int 100000000000000000000)) st := fun st => rfl
    obtain ⟨x3, h3⟩ := h3
    obtain ⟨x6, h6⟩ := h6
    rw [h3, h6]
    simp only [Option.getD_some]
    by_cases c4 : z % 9 = 4
    · rw [if_pos c4]; walk_at "sv"
    · by_cases c5 : z % 9 = 5
      · rw [if_neg c4, if_pos c5]; walk_at "sv"
      · by_cases c6 : z % 9 = 6
        · rw [if_neg c4, if_neg c5, if_pos c6]; walk_at "sv"
        · by_cases c7 : z % 9 = 7
          · rw [if_neg c4, if_neg c5, if_neg c6, if_pos c7]; walk_at "sv"
          · rw [if_neg c4, if_neg c5, if_neg c6, if_neg c7]
            by_cases c1 : z % 9 < 4
            · have hm : m = 0 := by omega
              subst hm
              walk_at "sv"
            · walk_at "sv"
  intro m
  induction m with
  | zero => exact leafE 0 _ (by omega)
  | succ m ih =>
    intro n z L st
    unfold tre
    split
    · rename_i c
      rw [show n + (m + 1 + 1) = n + (m + 1) + 1 from rfl, cs__law_tree]; delta b__law_tree
      obtain ⟨M, hM⟩ : ∃ M : Int, ((m + 1 : Nat) : Int) = M := ⟨_, rfl⟩
      rw [hM]
      have h1 : M - 1 = (m : Int) := by omega
      have h0 : 0 < M := by omega
      clear hM
      obtain ⟨j, hj, hj5⟩ : ∃ j : Nat, z / 9 % 5 = (j : Int) ∧ j < 5 := ⟨(z / 9 % 5).toNat, by omega, by omega⟩
      rw [hj]
      have hsm : smallI (j : Int) = true := smallN (by omega)
      have hf := fun (z : Int) (L : List Ow) (st : Sto) => ih (n := n) (z := z) (L := L) (st := st)
      rw [toNatN]
      walk_at "sv"
      rw [sq_assoc]
      refine wp_res (wp_for (fun i env s => s = st ∧ i ≤ j ∧ ∃ o5, env = [some (.d (.int z)), some (.d (.int M)), some (.d (.int (z % 9))), some (.d (.int (z / 9))), some (.c .own (.l ((List.range i).map fun (k : Nat) => tre m (z / 9 / (5 + 11 * (k : Int)))))), o5]) ⟨rfl, Nat.zero_le _, _, rfl⟩ ?_ ?_)
      · rintro i x hx env s ⟨rfl, him, o5, rfl⟩
        obtain ⟨hi, rfl⟩ := range_at hx
        have hd : divOk (5 + 11 * (i : Int)) = true := divR (by omega) (by omega)
        have hm2 : mulOk 11 (i : Int) = true := mulL (by omega) (by omega)
        have hln : ((List.range i).map fun (k : Nat) => tre m (z / 9 / (5 + 11 * (k : Int)))).length < PySem.sizeLine := by
          rw [List.length_map, List.length_range]
          exact Nat.lt_of_lt_of_le (by omega : _ < 1000) size_k
        have hnx : ((List.range (i + 1)).map fun (k : Nat) => tre m (z / 9 / (5 + 11 * (k : Int)))) = ((List.range i).map fun (k : Nat) => tre m (z / 9 / (5 + 11 * (k : Int)))) ++ [tre m (z / 9 / (5 + 11 * (i : Int)))] := by
          rw [List.range_succ, List.map_append]
          rfl
        rw [hnx]
        generalize ((List.range i).map fun (k : Nat) => tre m (z / 9 / (5 + 11 * (k : Int)))) = acc at *
        clear hnx
        walk_at "sv"
        exact wp_some ⟨rfl, by omega, _, rfl⟩
      · rintro env s ⟨rfl, him, o5, rfl⟩
        have hz : ((List.range j).map fun (k : Nat) => tre m (z / 9 / (5 + 11 * (k : Int)))).length ≤ 1000 := by
          rw [List.length_map, List.length_range]
          omega
        walk_at "sv"
        refine wp_some ?_
        rw [len_range]
        rfl
    · rename_i c
      exact leafE (m + 1) _ (by omega)
end
section
local macro_rules | `(tactic| walk_at "sv") => `(tactic| push_cast [e_bin])
theorem l_op : PySem.Str.ofString "(" = S [40] := by decide +kernel
theorem l_cl : PySem.Str.ofString ")" = S [41] := by decide +kernel
theorem l_sp : PySem.Str.ofString " " = S [32] := by decide +kernel
theorem l_T : PySem.Str.ofString "T" = S [84] := by decide +kernel
theorem l_F : PySem.Str.ofString "F" = S [70] := by decide +kernel
theorem l_N : PySem.Str.ofString "N" = S [78] := by decide +kernel
theorem l_mi : PySem.Str.ofString "-" = S [45] := by decide +kernel
theorem l_dig : PySem.Str.ofString "0123456789" = S [48, 49, 50, 51, 52, 53, 54, 55, 56, 57] := by decide +kernel
theorem l_let : PySem.Str.ofString "abcdefghijklmnopqrstuvwxyz" = S [97, 98, 99, 100, 101, 102, 103, 104, 105, 106, 107, 108, 109, 110, 111, 112, 113, 114, 115, 116, 117, 118, 119, 120, 121, 122] := by decide +kernel
theorem l_stop : PySem.Str.ofString " ()" = S [32, 40, 41] := by decide +kernel
theorem l_emp : PySem.Str.ofString "" = S [] := by decide +kernel
section
variable {st : Sto} {a b : List Nat} {kt : List (List D)} {x : PySem.Str} {z : Int} {bl b2 : Bool} {ts : List D} {d : D}
theorem b_addS (h : a.length + b.length ≤ 16777216) : bin .add (.d (.str (S a))) (.d (.str (S b))) st = ok (.d (.str (S (a ++ b)))) st := by
  have h2 : bin .add (.d (.str (S a))) (.d (.str (S b))) st = if (S a).length + (S b).length ≤ PySem.sizeLine then ok (.d (.str (S a ++ S b))) st else none := rfl
  rw [h2, if_pos (show (S a).length + (S b).length ≤ PySem.sizeLine from h), S_add]
theorem b_addE {e : List Nat} (h : a.length + b.length ≤ 16777216) (he : a ++ b = e) : bin .add (.d (.str (S a))) (.d (.str (S b))) st = ok (.d (.str (S e))) st := he ▸ b_addS h
theorem ix_str : idx kt (.d (.str x)) (.d (.int z)) st = strAt x z := id rfl
theorem ty_tB : isTy .tuple (.d (.bl bl)) st = some false := id rfl
theorem ty_tN : isTy .tuple (.d .non) st = some false := id rfl
theorem ty_tS : isTy .tuple (.d (.str x)) st = some false := id rfl
theorem ty_tI : isTy .tuple (.d (.int z)) st = some false := id rfl
theorem ty_tT : isTy .tuple (.d (.tup ts)) st = some true := id rfl
theorem ty_sB : isTy .str (.d (.bl bl)) st = some false := id rfl
theorem ty_sS : isTy .str (.d (.str x)) st = some true := id rfl
theorem ty_sI : isTy .str (.d (.int z)) st = some false := id rfl
theorem ty_bB : isTy .bool (.d (.bl bl)) st = some true := id rfl
theorem ty_bS : isTy .bool (.d (.str x)) st = some false := id rfl
theorem ty_bI : isTy .bool (.d (.int z)) st = some false := id rfl
theorem ty_iI : isTy .int (.d (.int z)) st = some true := id rfl
theorem is_bb : cmp kt .is (.d (.bl bl)) (.d (.bl b2)) st = some (decide (bl = b2)) := id rfl
theorem is_nb : cmp kt .is (.d .non) (.d (.bl b2)) st = some false := id rfl
theorem is_sb : cmp kt .is (.d (.str x)) (.d (.bl b2)) st = some false := id rfl
theorem is_ib : cmp kt .is (.d (.int z)) (.d (.bl b2)) st = some false := id rfl
theorem is_tb : cmp kt .is (.d (.tup ts)) (.d (.bl b2)) st = some false := id rfl
theorem is_bn : cmp kt .is (.d (.bl bl)) (.d .non) st = some false := id rfl
theorem is_nn : cmp kt .is (.d .non) (.d .non) st = some true := id rfl
theorem is_sn : cmp kt .is (.d (.str x)) (.d .non) st = some false := id rfl
theorem is_in : cmp kt .is (.d (.int z)) (.d .non) st = some false := id rfl
theorem is_tn : cmp kt .is (.d (.tup ts)) (.d .non) st = some false := id rfl
end
theorem dig_at {m : Nat} (h : m < 10) : strAt (S [48, 49, 50, 51, 52, 53, 54, 55, 56, 57]) (m : Int) = some (.str (S [48 + m])) := by
  match m, h with
  | 0, _ => rfl
  | 1, _ => rfl
  | 2, _ => rfl
  | 3, _ => rfl
  | 4, _ => rfl
  | 5, _ => rfl
  | 6, _ => rfl
  | 7, _ => rfl
  | 8, _ => rfl
  | 9, _ => rfl
/-- what the figures so far come from -/
def hi (t : Nat) : List Nat := if t = 0 then [] else dg t
theorem hi_pos {t : Nat} (h : 0 < t) : hi t = hi (t / 10) ++ [48 + t % 10] := by
  unfold hi
  rw [if_neg (by omega)]
  by_cases c : t < 10
  · rw [dg_lt c, if_pos (by omega), Nat.mod_eq_of_lt c]
    rfl
  · rw [dg_ge (by omega), if_neg (by omega)]
theorem dg_hi (m : Nat) : dg m = hi (m / 10) ++ [48 + m % 10] := by
  by_cases h : 0 < m
  · rw [← hi_pos h]
    unfold hi
    rw [if_neg (by omega)]
  · have : m = 0 := by omega
    subst this
    rfl
theorem k_bmJ {c : Cl} {es : Exs} {env : Tv.Env} {x : PySem.Str} {st : Sto} : kBm c .join es env (.d (.str x)) st = rb (evs (c.lk (lockOf (.d (.str x)))) es env st) (kBm2 .join (.d (.str x))) := id rfl
theorem k_bm2 {m : Bm} {u : SV} {as : List SV} {st : Sto} : kBm2 m u as st = bmf m u as st := id rfl
def kChars : SV → Sto → Res Ito := fun u st => match u with
    | .d (.str x) => if x.length ≤ PySem.sizeLine then ok ⟨x.cps.toList.map fun c => .str ⟨#[c]⟩, []⟩ st else none
    | _ => none
theorem i_chars {c : Cl} {e : Ex} {env : Tv.Env} {st : Sto} : evI c (.chars e) env st = rb (ev c e env st) kChars := id rfl
theorem k_chars {l : List Nat} {st : Sto} (h : l.length ≤ PySem.sizeLine) : kChars (.d (.str (S l))) st = ok ⟨l.map fun c => .str ⟨#[c]⟩, []⟩ st := if_pos h
theorem in_sign {kt : List (List D)} {c : Nat} {l : List Nat} {st : Sto} : cmp kt .in (.d (.str ⟨#[c]⟩)) (.d (.str (S l))) st = some (decide (c ∈ l)) := id rfl
theorem notin_sign {kt : List (List D)} {c : Nat} {l : List Nat} {st : Sto} : cmp kt .notin (.d (.str ⟨#[c]⟩)) (.d (.str (S l))) st = some (!decide (c ∈ l)) := id rfl
theorem k_bmR {c : Cl} {es : Exs} {env : Tv.Env} {x : PySem.Str} {st : Sto} : kBm c .removeprefix es env (.d (.str x)) st = rb (evs (c.lk (lockOf (.d (.str x)))) es env st) (kBm2 .removeprefix (.d (.str x))) := id rfl
theorem all_bl {γ : Type} {q : Kd} {p : γ → Bool} {xs : List γ} {st : Sto} : biF .all [.c q (.l (xs.map fun x => D.bl (p x)))] st = ok (.d (.bl (xs.all p))) st := by
  have h1 : (xs.map fun x => D.bl (p x)).all D.isBl = true := List.all_eq_true.mpr fun x z => by obtain ⟨y, _, rfl⟩ := List.mem_map.mp z; rfl
  have h2 : ((xs.map fun x => D.bl (p x)).map D.bl').all id = xs.all p := by
    rw [List.map_map, List.all_map]
    rfl
  show (match allBl (xs.map fun x => D.bl (p x)) with | some bs => ok (SV.d (.bl (bs.all id))) st | none => none) = _
  unfold allBl
  rw [if_pos h1]
  show ok (SV.d (.bl (((xs.map fun x => D.bl (p x)).map D.bl').all id))) st = _
  rw [h2]
end
section
local macro_rules | `(tactic| walk_at "sv") => `(tactic| push_cast [Int.reduceEq, Int.reduceLE, Int.reduceLT, Int.reduceAdd, l_op, l_cl, l_sp, l_T, l_F, l_N, l_mi, l_dig, ix_str, ty_tB, ty_tN, ty_tS, ty_tI, ty_tT, ty_sB, ty_sS, ty_sI, is_bb, is_nb, is_sb, is_ib, is_tb, is_bn, is_nn, is_sn, is_in, is_tn, bi_isi, Bool.true_eq_false, Bool.false_eq_true, x_while])
theorem lt_nat {n m : Nat} {L : List Ow} {st : Sto} (hm : m < 100000000000000000000) : prog.call (n + 1) 10 [.d (.int (m : Int))] (L.filter Ow.inStore) st = some (.ok (.d (.str (S (dg m)))) st) := by
  rw [cs__law_text]; delta b__law_text
  have h0 : ¬ (m : Int) < 0 := by omega
  have hd := dig_at (m := m % 10) (by omega)
  rw [show ((m % 10 : Nat) : Int) = (m : Int) % 10 from rfl] at hd
  have hq : (m : Int) / 10 = ((m / 10 : Nat) : Int) := rfl
  walk_at "sv"
  have hlen := dg_len 19 m (by omega)
  refine wp_res (wp_seq (wp_while (I := fun k env s => s = st ∧ ∃ (t : Nat) (ds : List Nat), dg m = hi t ++ ds ∧ k = (hi t).length ∧ env = [some (.d (.int (t : Int))), none, none, some (.d (.str (S ds)))]) ?_ _ (hi (m / 10)).length _ _ ?_ ⟨rfl, m / 10, [48 + m % 10], dg_hi m, rfl, rfl⟩))
  · rintro k env s ⟨rfl, t, ds, h1, rfl, rfl⟩
    by_cases c : 0 < t
    · have c' : (0 : Int) < (t : Int) := by omega
      have hd := dig_at (m := t % 10) (by omega)
      rw [show ((t % 10 : Nat) : Int) = (t : Int) % 10 from rfl] at hd
      have hq : (t : Int) / 10 = ((t / 10 : Nat) : Int) := rfl
      have ha := fun (st : Sto) => b_addS (st := st) (a := [48 + t % 10]) (b := ds) (by
        rw [h1, List.length_append] at hlen
        rw [List.length_cons, List.length_nil]
        omega)
      have key : dg m = hi (t / 10) ++ ([48 + t % 10] ++ ds) := by rw [h1, hi_pos c, List.append_assoc]
      have hk : (hi t).length = (hi (t / 10)).length + 1 := by rw [hi_pos c, List.length_append]; rfl
      clear hlen h0 h1
      walk_at "sv"
      exact wp_some ⟨_, rfl, rfl, _, _, rfl, rfl, rfl⟩
    · have ht : t = 0 := by omega
      subst ht
      obtain rfl : ds = dg m := h1.symm
      clear h0 hlen h1 hd hq
      walk_at "sv"
      exact wp_some (wp_some rfl)
  · have h2 := dg_hi m
    have h3 : (hi (m / 10)).length ≤ 19 := by
      rw [h2, List.length_append, List.length_cons, List.length_nil] at hlen
      omega
    show _ < 100000000
    omega
theorem lt_leaf {n : Nat} {d : D} (h : Lf d) {L : List Ow} {st : Sto} : prog.call (n + 2) 10 [.d d] (L.filter Ow.inStore) st = some (.ok (.d (.str (S (lx d)))) st) := by
  cases d with
  | tup ts => exact h.elim
  | ref k => exact h.elim
  | fn k => exact h.elim
  | bl b =>
    rw [cs__law_text]; delta b__law_text
    cases b
    · rw [show lx (.bl false) = [70] from rfl]
      walk_at "sv"
    · rw [show lx (.bl true) = [84] from rfl]
      walk_at "sv"
  | non =>
    rw [cs__law_text]; delta b__law_text
    rw [show lx .non = [78] from rfl]
    walk_at "sv"
  | str w =>
    rw [cs__law_text]; delta b__law_text
    rw [show S (lx (.str w)) = w from rfl]
    walk_at "sv"
  | int i =>
    obtain ⟨h1, h2⟩ := (show -100000000000000000000 < i ∧ i < 100000000000000000000 from h)
    by_cases c : i < 0
    · obtain ⟨m, hm⟩ : ∃ m : Nat, 0 - i = (m : Int) := ⟨(0 - i).toNat, by omega⟩
      have hx : lx (.int i) = 45 :: dg m := by
        show (if i < 0 then 45 :: dg (-i).toNat else dg i.toNat) = _
        rw [if_pos c, show (-i).toNat = m by omega]
      have hl := dg_len 19 m (by omega)
      have hc := fun (L : List Ow) (st : Sto) => lt_nat (n := n) (m := m) (L := L) (st := st) (by omega)
      have ha := fun (st : Sto) => b_addS (st := st) (a := [45]) (b := dg m) (by rw [List.length_cons, List.length_nil]; omega)
      rw [hx, cs__law_text]; delta b__law_text
      clear hx h1 h2 hl h
      walk_at "sv"
    · obtain ⟨m, rfl⟩ : ∃ m : Nat, i = (m : Int) := ⟨i.toNat, by omega⟩
      have hx : lx (.int (m : Int)) = dg m := by
        show (if (m : Int) < 0 then 45 :: dg (-(m : Int)).toNat else dg (m : Int).toNat) = _
        rw [if_neg c, toNatN]
      rw [hx]
      exact lt_nat (n := n + 1) (by omega)
theorem lt_tup {n : Nat} {ts : List D} {f : D → List Nat} {b : Nat} (hl : ts.length ≤ 4) (hb : ∀ t ∈ ts, (f t).length ≤ b) (hb2 : b ≤ 1000000)
    (hc : ∀ t ∈ ts, ∀ (L : List Ow) (st : Sto), prog.call n 10 [.d t] (L.filter Ow.inStore) st = some (.ok (.d (.str (S (f t)))) st)) {L : List Ow} {st : Sto} :
    prog.call (n + 1) 10 [.d (.tup ts)] (L.filter Ow.inStore) st = some (.ok (.d (.str (S (40 :: (glue (ts.map f) ++ [41]))))) st) := by
  rw [cs__law_text]; delta b__law_text
  have hsm : smallI (ts.length : Int) = true := smallN (by omega)
  have hg : ∀ i, (glue ((ts.map f).take i)).length ≤ 4 * (b + 1) := fun i => by
    have h1 := glue_len (b := b) (xs := (ts.map f).take i) (fun x hx => by
      obtain ⟨t, ht, rfl⟩ := List.mem_map.mp (List.mem_of_mem_take hx)
      exact hb t ht)
    refine Nat.le_trans h1 (Nat.mul_le_mul_right _ ?_)
    rw [List.length_take, List.length_map]
    omega
  walk_at "sv"
  rw [sq_assoc]
  refine wp_res (wp_for (fun i env s => s = st ∧ i ≤ ts.length ∧ ∃ o2, env = [some (.d (.tup ts)), some (.d (.str (S (40 :: glue ((ts.map f).take i))))), o2, none]) ⟨rfl, Nat.zero_le _, _, rfl⟩ ?_ ?_)
  · rintro i x hx env s ⟨rfl, him, o2, rfl⟩
    obtain ⟨hi, rfl⟩ := range_at hx
    have hat : atI ts (i : Int) = some ts[i] := atI_at (List.getElem?_eq_getElem hi)
    have hct := hc ts[i] (List.getElem_mem hi)
    have hbt := hb ts[i] (List.getElem_mem hi)
    have hgi := hg i
    have hnx : (ts.map f).take (i + 1) = (ts.map f).take i ++ [f ts[i]] := by
      rw [List.take_add_one, List.getElem?_map, List.getElem?_eq_getElem hi]
      rfl
    by_cases c : 0 < i
    · have c' : (0 : Int) < (i : Int) := by omega
      have hne : (ts.map f).take i ≠ [] := fun z => by
        have := congrArg List.length z
        rw [List.length_take, List.length_map, List.length_nil] at this
        omega
      rw [hnx, glue_snoc hne]
      have h1 := fun (st : Sto) => b_addE (st := st) (a := 40 :: glue ((ts.map f).take i)) (b := [32]) (e := 40 :: (glue ((ts.map f).take i) ++ [32])) (by rw [List.length_cons, List.length_cons, List.length_nil]; omega) rfl
      have h2 := fun (st : Sto) => b_addE (st := st) (a := 40 :: (glue ((ts.map f).take i) ++ [32])) (b := f ts[i]) (e := 40 :: (glue ((ts.map f).take i) ++ 32 :: f ts[i])) (by rw [List.length_cons, List.length_append, List.length_cons, List.length_nil]; omega) (by rw [List.cons_append, List.append_assoc]; rfl)
      generalize ts[i] = t at *
      generalize glue ((ts.map f).take i) = G at *
      clear hc hb hg hnx hne hx hgi hbt
      walk_at "sv"
      exact wp_some ⟨rfl, by omega, _, rfl⟩
    · have : i = 0 := by omega
      subst this
      rw [hnx]
      have h2 := fun (st : Sto) => b_addE (st := st) (a := [40]) (b := f ts[0]) (e := 40 :: f ts[0]) (by rw [List.length_cons, List.length_nil]; omega) rfl
      have e0 : 40 :: glue ((ts.map f).take 0) = [40] := rfl
      have e1 : 40 :: glue ((ts.map f).take 0 ++ [f ts[0]]) = 40 :: f ts[0] := rfl
      rw [e0, e1]
      rw [show ((0 : Nat) : Int) = 0 from rfl] at hat
      generalize ts[0] = t at *
      clear hc hb hg hnx hx hgi hbt e0 e1
      walk_at "sv"
      exact wp_some ⟨rfl, by omega, _, rfl⟩
  · rintro env s ⟨rfl, him, o2, rfl⟩
    rw [len_range, List.take_of_length_le (by rw [List.length_map]; exact Nat.le_refl _)]
    have hgi := hg ts.length
    rw [List.take_of_length_le (by rw [List.length_map]; exact Nat.le_refl _)] at hgi
    have h1 := fun (st : Sto) => b_addS (st := st) (a := 40 :: glue (ts.map f)) (b := [41]) (by rw [List.length_cons, List.length_cons, List.length_nil]; omega)
    generalize glue (ts.map f) = G at *
    clear hc hb hg hgi
    walk_at "sv"
    exact wp_some rfl
end
section
local macro_rules | `(tactic| walk_at "sv") => `(tactic| push_cast [Int.reduceEq, Int.reduceLE, Int.reduceLT, Int.reduceAdd, l_op, l_cl, l_sp, l_T, l_F, l_N, l_mi, ix_str, ty_tB, ty_tN, ty_tS, ty_tI, ty_tT, is_bb, is_nb, is_sb, is_ib, is_tb, is_bn, is_nn, is_sn, is_in, is_tn, bi_isi, Bool.true_eq_false, Bool.false_eq_true, k_bmJ, k_bm2])
theorem str_int {i : Int} : PySem.Str.ofString (toString i) = S (lx (.int i)) := by
  by_cases c : i < 0
  · obtain ⟨m, rfl⟩ : ∃ m : Nat, i = -((m + 1 : Nat) : Int) := ⟨(-i).toNat - 1, by omega⟩
    rw [str_neg]
    show _ = S (if -((m + 1 : Nat) : Int) < 0 then 45 :: dg (- -((m + 1 : Nat) : Int)).toNat else dg (-((m + 1 : Nat) : Int)).toNat)
    rw [if_pos c, show (- -((m + 1 : Nat) : Int)).toNat = m + 1 by omega]
  · obtain ⟨m, rfl⟩ : ∃ m : Nat, i = (m : Int) := ⟨i.toNat, by omega⟩
    rw [str_nat]
    show _ = S (if (m : Int) < 0 then 45 :: dg (-(m : Int)).toNat else dg (m : Int).toNat)
    rw [if_neg c, toNatN]
theorem strs_map {f : D → List Nat} : ∀ {ts : List D}, strsOf (ts.map fun t => .str (S (f t))) = some (ts.map fun t => S (f t))
  | [] => rfl
  | t :: ts => by
    show (strsOf (ts.map fun t => .str (S (f t)))).map (S (f t) :: ·) = _
    rw [strs_map]
    rfl
theorem glued_fold : ∀ (xs : List (List Nat)) (acc : List Nat), List.foldl (fun (acc : Array Nat) (p : PySem.Str) => acc ++ (S [32]).cps ++ p.cps) acc.toArray (xs.map S) = (xs.foldl (fun a p => a ++ 32 :: p) acc).toArray
  | [], acc => rfl
  | x :: xs, acc => by
    have h1 : acc.toArray ++ (S [32]).cps ++ (S x).cps = (acc ++ 32 :: x).toArray := by
      show acc.toArray ++ [32].toArray ++ x.toArray = _
      rw [List.append_toArray, List.append_toArray, List.append_assoc]
      rfl
    show List.foldl _ (acc.toArray ++ (S [32]).cps ++ (S x).cps) (xs.map S) = _
    rw [h1, glued_fold xs]
    rfl
theorem glue_fold : ∀ (xs : List (List Nat)) (a : List Nat), glue (a :: xs) = xs.foldl (fun a p => a ++ 32 :: p) a
  | [], a => rfl
  | x :: xs, a => by
    have : ∀ (xs : List (List Nat)) (b c : List Nat), xs.foldl (fun a p => a ++ 32 :: p) (b ++ c) = b ++ xs.foldl (fun a p => a ++ 32 :: p) c := by
      intro xs
      induction xs with
      | nil => intro b c; rfl
      | cons y ys ih => intro b c; show ys.foldl _ ((b ++ c) ++ 32 :: y) = _; rw [List.append_assoc, ih]; rfl
    show a ++ 32 :: glue (x :: xs) = xs.foldl (fun a p => a ++ 32 :: p) (a ++ 32 :: x)
    rw [this, glue_fold xs x]
    have h2 := this xs [32] x
    rw [show ([32] : List Nat) ++ x = 32 :: x from rfl] at h2
    rw [h2]
    rfl
theorem join_glue (xs : List (List Nat)) : PySem.Txt.join (S [32]) (xs.map S) = S (glue xs) := by
  cases xs with
  | nil => rfl
  | cons a xs =>
    show PySem.Str.mk (List.foldl (fun (acc : Array Nat) (p : PySem.Str) => acc ++ (S [32]).cps ++ p.cps) a.toArray (xs.map S)) = _
    rw [glued_fold, glue_fold]
    rfl
theorem sum_len {f : D → List Nat} {b : Nat} : ∀ {ts : List D}, (∀ t ∈ ts, (f t).length ≤ b) → ((ts.map fun t => S (f t)).map (·.length)).sum ≤ ts.length * b
  | [], _ => Nat.zero_le _
  | t :: ts, h => by
    have h1 := h t (by simp)
    have h2 := sum_len (f := f) (b := b) (ts := ts) (fun x hx => h x (List.mem_cons_of_mem _ hx))
    show (f t).length + ((ts.map fun t => S (f t)).map (·.length)).sum ≤ (ts.length + 1) * b
    rw [Nat.succ_mul]
    omega
theorem bm_join {q : Kd} {ts : List D} {f : D → List Nat} {b : Nat} {st : Sto} (hl : ts.length ≤ 4) (hb : ∀ t ∈ ts, (f t).length ≤ b) (hb2 : b ≤ 1000000) : bmf .join (.d (.str (S [32]))) [.c q (.l (ts.map fun t => .str (S (f t))))] st = ok (.d (.str (S (glue (ts.map f))))) st := by
  have h1 : bmf .join (.d (.str (S [32]))) [.c q (.l (ts.map fun t => .str (S (f t))))] st = match strsOf (ts.map fun t => .str (S (f t))) with
      | some ys => if (ys.map (·.length)).sum + ys.length * (S [32]).length ≤ 16777216 then ok (SV.d (.str (PySem.Txt.join (S [32]) ys))) st else none
      | none => none := rfl
  rw [h1, strs_map]
  have h2 := sum_len hb
  have h3 : ts.length * b ≤ 4 * b := Nat.mul_le_mul_right _ hl
  show (if _ then _ else _) = _
  rw [if_pos (by rw [List.length_map, show (S [32]).length = 1 from rfl]; omega)]
  have h4 : (ts.map fun t => S (f t)) = (ts.map f).map S := by rw [List.map_map]; rfl
  rw [h4, join_glue]
theorem wt_leaf {n : Nat} {d : D} (h : Lf d) {L : List Ow} {st : Sto} : prog.call (n + 1) 0 [.d d] (L.filter Ow.inStore) st = some (.ok (.d (.str (S (lx d)))) st) := by
  cases d with
  | tup ts => exact h.elim
  | ref k => exact h.elim
  | fn k => exact h.elim
  | bl b =>
    rw [cs_write_tree]; delta b_write_tree
    cases b
    · rw [show lx (.bl false) = [70] from rfl]
      walk_at "sv"
    · rw [show lx (.bl true) = [84] from rfl]
      walk_at "sv"
  | non =>
    rw [cs_write_tree]; delta b_write_tree
    rw [show lx .non = [78] from rfl]
    walk_at "sv"
  | str w =>
    rw [cs_write_tree]; delta b_write_tree
    rw [show S (lx (.str w)) = w from rfl]
    have hb : ∀ st : Sto, biF .str [.d (.str w)] st = ok (.d (.str w)) st := fun st => rfl
    walk_at "sv"
  | int i =>
    obtain ⟨h1, h2⟩ := (show -100000000000000000000 < i ∧ i < 100000000000000000000 from h)
    rw [cs_write_tree]; delta b_write_tree
    have hb : ∀ st : Sto, biF .str [.d (.int i)] st = ok (.d (.str (S (lx (.int i))))) st := fun st => by
      have e : biF .str [.d (.int i)] st = if i.natAbs.log2 < 1920 then ok (SV.d (.str (PySem.Str.ofString (toString i)))) st else none := rfl
      rw [e, str_int, if_pos]
      have : i.natAbs < 2 ^ 67 := by omega
      by_cases z : i.natAbs = 0
      · rw [z]; decide
      · exact Nat.lt_of_lt_of_le ((Nat.log2_lt z).mpr this) (by omega)
    walk_at "sv"
theorem wt_tup {n : Nat} {ts : List D} {f : D → List Nat} {b : Nat} (hl : ts.length ≤ 4) (hb : ∀ t ∈ ts, (f t).length ≤ b) (hb2 : b ≤ 1000000)
    (hc : ∀ t ∈ ts, ∀ (L : List Ow) (st : Sto), prog.call n 0 [.d t] (L.filter Ow.inStore) st = some (.ok (.d (.str (S (f t)))) st)) {L : List Ow} {st : Sto} :
    prog.call (n + 1) 0 [.d (.tup ts)] (L.filter Ow.inStore) st = some (.ok (.d (.str (S (40 :: (glue (ts.map f) ++ [41]))))) st) := by
  rw [cs_write_tree]; delta b_write_tree
  have hj := fun (q : Kd) (st : Sto) => bm_join (q := q) (st := st) hl hb hb2
  have hg : (glue (ts.map f)).length ≤ 4 * (b + 1) := by
    have h1 := glue_len (b := b) (xs := ts.map f) (fun x hx => by
      obtain ⟨t, ht, rfl⟩ := List.mem_map.mp hx
      exact hb t ht)
    refine Nat.le_trans h1 (Nat.mul_le_mul_right _ ?_)
    rw [List.length_map]
    exact hl
  have ha := fun (st : Sto) => b_addE (st := st) (a := [40]) (b := glue (ts.map f)) (e := 40 :: glue (ts.map f)) (by rw [List.length_cons, List.length_nil]; omega) rfl
  have ha2 := fun (st : Sto) => b_addE (st := st) (a := 40 :: glue (ts.map f)) (b := [41]) (e := 40 :: (glue (ts.map f) ++ [41])) (by rw [List.length_cons, List.length_cons, List.length_nil]; omega) rfl
  have hz : ts.length ≤ PySem.sizeLine := Nat.le_trans (by omega : _ ≤ 1000) size_k
  generalize glue (ts.map f) = G at *
  walk_at "sv"
  rw [compL_map (f := fun t => .str (S (f t)))]
  · walk_at "sv"
  · intro t ht
    have hct := hc t ht
    walk_at "sv"
  · exact hz
theorem sp_wt : ∀ (k : Nat) {n : Nat} {d : D} (_ : Good k d) (_ : k ≤ 6) {L : List Ow} {st : Sto}, prog.call (n + (k + 1)) 0 [.d d] (L.filter Ow.inStore) st = some (.ok (.d (.str (S (tx k d)))) st)
  | 0, n, d, h, _, L, st => wt_leaf h
  | k + 1, n, d, h, hk, L, st => by
    rcases h with h | ⟨ts, rfl, hl, h⟩
    · rw [tx_leaf h]
      exact wt_leaf (n := n + (k + 1)) h
    · exact wt_tup (n := n + (k + 1)) (f := tx k) hl (fun t ht => good_len (h t ht)) (bnd_le (by omega)) (fun t ht L st => sp_wt k (h t ht) (by omega))
theorem sp_lt : ∀ (k : Nat) {n : Nat} {d : D} (_ : Good k d) (_ : k ≤ 6) {L : List Ow} {st : Sto}, prog.call (n + (k + 2)) 10 [.d d] (L.filter Ow.inStore) st = some (.ok (.d (.str (S (tx k d)))) st)
  | 0, n, d, h, _, L, st => lt_leaf h
  | k + 1, n, d, h, hk, L, st => by
    rcases h with h | ⟨ts, rfl, hl, h⟩
    · rw [tx_leaf h]
      exact lt_leaf (n := n + (k + 1)) h
    · exact lt_tup (n := n + (k + 2)) (f := tx k) hl (fun t ht => good_len (h t ht)) (bnd_le (by omega)) (fun t ht L st => sp_lt k (h t ht) (by omega))
end
section
local macro_rules | `(tactic| walk_at "sv") => `(tactic| push_cast [Int.reduceEq, Int.reduceLE, Int.reduceLT, Int.reduceAdd, ty_tB, ty_tN, ty_tS, ty_tI, ty_tT, ty_sB, ty_sS, ty_sI, ty_bB, ty_bS, ty_bI, ty_iI, is_bn, is_nn, is_sn, is_in, is_tn, bi_isi, Bool.true_eq_false, Bool.false_eq_true, c_eqB, c_eqS, c_eq])
theorem sp_same : ∀ (k : Nat) {n : Nat} {d : D} (_ : Good k d) {L : List Ow} {st : Sto}, prog.call (n + (k + 1)) 8 [.d d, .d d] (L.filter Ow.inStore) st = some (.ok (.d (.bl true)) st) := by
  have leafE : ∀ {n : Nat} {d : D} (_ : Lf d) {L : List Ow} {st : Sto}, prog.call (n + 1) 8 [.d d, .d d] (L.filter Ow.inStore) st = some (.ok (.d (.bl true)) st) := by
    intro n d h L st
    rw [cs__law_same]; delta b__law_same
    cases d with
    | tup ts => exact h.elim
    | ref k => exact h.elim
    | fn k => exact h.elim
    | bl b => walk_at "sv"
    | non => walk_at "sv"
    | str w => walk_at "sv"
    | int i => walk_at "sv"
  intro k
  induction k with
  | zero => intro n d h L st; exact leafE h
  | succ k ih =>
    intro n d h L st
    rcases h with h | ⟨ts, rfl, hl, h⟩
    · exact leafE (n := n + (k + 1)) h
    · rw [show n + (k + 1 + 1) = n + (k + 1) + 1 from rfl, cs__law_same]; delta b__law_same
      have hsm : smallI (ts.length : Int) = true := smallN (by omega)
      walk_at "sv"
      rw [compL_map (f := fun _ => D.bl true)]
      · walk_at "sv"
      · intro x hx
        obtain ⟨i, hi, rfl⟩ := mem_rangeD hx
        have hat : atI ts (i : Int) = some ts[i] := atI_at (List.getElem?_eq_getElem hi)
        have hct := fun (L : List Ow) (st : Sto) => ih (n := n) (h ts[i] (List.getElem_mem hi)) (L := L) (st := st)
        generalize ts[i] = t at *
        walk_at "sv"
      · rw [len_range]
        exact Nat.le_trans (by omega : _ ≤ 1000) size_k
end
section
local macro_rules | `(tactic| walk_at "sv") => `(tactic| push_cast [Int.reduceEq, Int.reduceLE, Int.reduceLT, Int.reduceAdd, l_dig, l_let, l_T, l_F, l_N, l_mi, l_emp, c_eqS, c_neSt, i_chars, k_chars, in_sign, e_glob, k_bmR, k_bm2, bi_isi])
/-- all signs stand among these, and there is one -/
def consF (l cs : List Nat) : Bool := decide (¬ l = []) && l.all fun c => decide (c ∈ cs)
theorem sp_cons {n : Nat} {l cs : List Nat} (hl : l.length ≤ 1000) {L : List Ow} {st : Sto} : prog.call (n + 1) 6 [.d (.str (S l)), .d (.str (S cs))] (L.filter Ow.inStore) st = some (.ok (.d (.bl (consF l cs))) st) := by
  rw [cs__consists_of]; delta b__consists_of
  unfold consF
  have hz : l.length ≤ PySem.sizeLine := Nat.le_trans hl size_k
  by_cases c : l = []
  · subst c
    have e : S [] = S [] := rfl
    walk_at "sv"
    rfl
  · have e : ¬ S l = S [] := fun z => c (S_inj.mp z)
    walk_at "sv"
    rw [compL_mapG (fun c => D.bl (decide (c ∈ cs)))]
    · walk_at "sv"
      rw [all_bl]
      walk_at "sv"
    · intro x hx
      walk_at "sv"
    · exact hz
abbrev digL : List Nat := [48, 49, 50, 51, 52, 53, 54, 55, 56, 57]
abbrev letL : List Nat := [97, 98, 99, 100, 101, 102, 103, 104, 105, 106, 107, 108, 109, 110, 111, 112, 113, 114, 115, 116, 117, 118, 119, 120, 121, 122]
theorem mem_dig {c : Nat} : c ∈ digL ↔ 48 ≤ c ∧ c ≤ 57 := by
  unfold digL
  simp only [List.mem_cons, List.not_mem_nil, or_false]
  omega
theorem mem_let {c : Nat} : c ∈ letL ↔ 97 ≤ c ∧ c ≤ 122 := by
  unfold letL
  simp only [List.mem_cons, List.not_mem_nil, or_false]
  omega
theorem cons_dig {m : Nat} : consF (dg m) digL = true := by
  unfold consF
  rw [decide_eq_true (dg_ne m), Bool.true_and, List.all_eq_true]
  intro c hc
  exact decide_eq_true (mem_dig.mpr (dg_digits m c hc))
theorem cons_let {l : List Nat} (h : Wd l) : consF l letL = true := by
  unfold consF
  rw [decide_eq_true h.1, Bool.true_and, List.all_eq_true]
  intro c hc
  exact decide_eq_true (mem_let.mpr (h.2.2 c hc))
theorem cons_no {c : Nat} {l cs : List Nat} (h : c ∉ cs) : consF (c :: l) cs = false := by
  unfold consF
  rw [List.all_cons, decide_eq_false h, Bool.false_and, Bool.and_false]
theorem rm_no {c : Nat} {l : List Nat} (h : c ≠ 45) : PySem.Txt.removeprefix (S (c :: l)) (S [45]) = S (c :: l) := by
  rw [PySem.StrLaws.removeprefix_eq, if_neg]
  rw [PySem.StrLaws.subAt_eq]
  intro z
  rw [Bool.and_eq_true] at z
  have z2 := z.2
  rw [S_cps, S_cps, show (S [45]).length = 1 from rfl] at z2
  simp only [List.drop_zero, List.take_succ_cons, List.take_zero, beq_iff_eq, List.cons.injEq] at z2
  exact h z2.1
theorem rm_yes {l : List Nat} : PySem.Txt.removeprefix (S (45 :: l)) (S [45]) = S l := by
  rw [PySem.StrLaws.removeprefix_eq, if_pos]
  · show PySem.Str.mk (List.take (l.length + 1 - 1) l).toArray = _
    rw [Nat.add_sub_cancel, List.take_length]
    rfl
  · rw [PySem.StrLaws.subAt_eq, S_cps, S_cps, show (S [45]).length = 1 from rfl, S_len, List.length_cons, Bool.and_eq_true]
    refine ⟨decide_eq_true (by omega), ?_⟩
    simp only [List.drop_zero, List.take_succ_cons, List.take_zero, beq_self_eq_true]
theorem sp_int {n : Nat} {i : Int} (h1 : -100000000000000000000 < i) (h2 : i < 100000000000000000000) {L : List Ow} {st : Sto} : prog.call (n + 2) 5 [.d (.str (S (lx (.int i))))] (L.filter Ow.inStore) st = some (.ok (.d (.bl true)) st) ∧ ∀ st : Sto, biF .int [.d (.str (S (lx (.int i))))] st = ok (.d (.int i)) st := by
  have hstr : ∀ st : Sto, biF .str [.d (.int i)] st = ok (.d (.str (S (lx (.int i))))) st := fun st => by
    have e : biF .str [.d (.int i)] st = if i.natAbs.log2 < 1920 then ok (SV.d (.str (PySem.Str.ofString (toString i)))) st else none := rfl
    rw [e, str_int, if_pos]
    have : i.natAbs < 2 ^ 67 := by omega
    by_cases z : i.natAbs = 0
    · rw [z]; decide
    · exact Nat.lt_of_lt_of_le ((Nat.log2_lt z).mpr this) (by omega)
  have hint : ∀ st : Sto, biF .int [.d (.str (S (lx (.int i))))] st = match PySem.intText? (S (lx (.int i))) with
      | some n => if (S (lx (.int i))).length ≤ 640 then ok (SV.d (.int n)) st else none
      | none => none := fun st => rfl
  by_cases c : i < 0
  · obtain ⟨m, hm⟩ : ∃ m : Nat, 0 - i = (m : Int) := ⟨(0 - i).toNat, by omega⟩
    have hx : lx (.int i) = 45 :: dg m := by
      show (if i < 0 then 45 :: dg (-i).toNat else dg i.toNat) = _
      rw [if_pos c, show (-i).toNat = m by omega]
    have hl := dg_len 19 m (by omega)
    have hl2 : (S (45 :: dg m)).length ≤ 640 := by rw [S_len, List.length_cons]; omega
    have hI : PySem.intText? (S (45 :: dg m)) = some i := by
      rw [PySem.intText_neg (cs := dg m) rfl (dg_digits m) (dg_ne m) (by omega), dg_val]
      congr 1
      omega
    have hint2 : ∀ st : Sto, biF .int [.d (.str (S (45 :: dg m)))] st = ok (.d (.int i)) st := fun st => by
      rw [hx] at hint
      rw [hint, hI]
      exact if_pos hl2
    rw [hx] at hstr ⊢
    refine ⟨?_, hint2⟩
    have hr : ∀ st : Sto, bmf .removeprefix (.d (.str (S (45 :: dg m)))) [.d (.str (S [45]))] st = ok (.d (.str (S (dg m)))) st := fun st => by
      have e : bmf .removeprefix (.d (.str (S (45 :: dg m)))) [.d (.str (S [45]))] st = if (S (45 :: dg m)).length ≤ PySem.sizeLine then ok (SV.d (.str (PySem.Txt.removeprefix (S (45 :: dg m)) (S [45])))) st else none := rfl
      rw [e, rm_yes, if_pos (Nat.le_trans (by omega : _ ≤ 1000) size_k)]
    have hc := fun (L : List Ow) (st : Sto) => sp_cons (n := n) (l := dg m) (cs := digL) (L := L) (st := st) (by omega)
    rw [cons_dig] at hc
    have hln : ∀ st : Sto, biF .len [.d (.str (S (dg m)))] st = ok (.d (.int (dg m).length)) st := fun st => if_pos (Nat.le_trans (by rw [S_len]; omega : _ ≤ 1000) size_k)
    have h20 : ¬ (20 : Int) < ((dg m).length : Int) := by omega
    rw [cs__is_integer_text]; delta b__is_integer_text
    clear hint hx hI hl2 hl
    walk_at "sv"
  · obtain ⟨m, rfl⟩ : ∃ m : Nat, i = (m : Int) := ⟨i.toNat, by omega⟩
    have hx : lx (.int (m : Int)) = dg m := by
      show (if (m : Int) < 0 then 45 :: dg (-(m : Int)).toNat else dg (m : Int).toNat) = _
      rw [if_neg c, toNatN]
    have hl := dg_len 19 m (by omega)
    have hl2 : (S (dg m)).length ≤ 640 := by rw [S_len]; omega
    have hI : PySem.intText? (S (dg m)) = some (m : Int) := by
      rw [PySem.intText_digits (x := S (dg m)) (dg_digits m) (dg_ne m) (by omega), S_cps, dg_val]
    have hint2 : ∀ st : Sto, biF .int [.d (.str (S (dg m)))] st = ok (.d (.int m)) st := fun st => by
      rw [hx] at hint
      rw [hint, hI]
      exact if_pos hl2
    rw [hx] at hstr ⊢
    refine ⟨?_, hint2⟩
    have hr : ∀ st : Sto, bmf .removeprefix (.d (.str (S (dg m)))) [.d (.str (S [45]))] st = ok (.d (.str (S (dg m)))) st := fun st => by
      have e : bmf .removeprefix (.d (.str (S (dg m)))) [.d (.str (S [45]))] st = if (S (dg m)).length ≤ PySem.sizeLine then ok (SV.d (.str (PySem.Txt.removeprefix (S (dg m)) (S [45])))) st else none := rfl
      obtain ⟨x, r, hxr⟩ : ∃ x r, dg m = x :: r := List.exists_cons_of_ne_nil (dg_ne m)
      have hxd := dg_digits m x (by rw [hxr]; exact List.mem_cons_self)
      rw [e, if_pos (Nat.le_trans (by omega : _ ≤ 1000) size_k), hxr, rm_no (by omega)]
    have hc := fun (L : List Ow) (st : Sto) => sp_cons (n := n) (l := dg m) (cs := digL) (L := L) (st := st) (by omega)
    rw [cons_dig] at hc
    have hln : ∀ st : Sto, biF .len [.d (.str (S (dg m)))] st = ok (.d (.int (dg m).length)) st := fun st => if_pos (Nat.le_trans (by rw [S_len]; omega : _ ≤ 1000) size_k)
    have h20 : ¬ (20 : Int) < ((dg m).length : Int) := by omega
    rw [cs__is_integer_text]; delta b__is_integer_text
    clear hint hx hI hl2 hl
    walk_at "sv"
end
section
local macro_rules | `(tactic| walk_at "sv") => `(tactic| push_cast [Int.reduceEq, Int.reduceLE, Int.reduceLT, Int.reduceAdd, l_dig, l_let, l_T, l_F, l_N, l_mi, l_emp, c_eqS, e_glob, S_inj])
theorem lx_int (i : Int) : ∃ c l, lx (.int i) = c :: l ∧ (c = 45 ∨ 48 ≤ c ∧ c ≤ 57) ∧ ∀ x ∈ l, 48 ≤ x ∧ x ≤ 57 := by
  show ∃ c l, (if i < 0 then 45 :: dg (-i).toNat else dg i.toNat) = c :: l ∧ _
  split
  · exact ⟨45, _, rfl, .inl rfl, dg_digits _⟩
  · obtain ⟨x, r, hxr⟩ : ∃ x r, dg i.toNat = x :: r := List.exists_cons_of_ne_nil (dg_ne _)
    have hd := dg_digits i.toNat
    rw [hxr] at hd ⊢
    exact ⟨x, r, rfl, .inr (hd x List.mem_cons_self), fun y hy => hd y (List.mem_cons_of_mem _ hy)⟩
theorem sp_plain {n : Nat} {d : D} {e : Int} (h : Lf d) {L : List Ow} {st : Sto} : prog.call (n + 3) 4 [.d (.str (S (lx d))), .d (.int e)] (L.filter Ow.inStore) st = some (.ok (.d (.tup [d, .int e])) st) := by
  rw [cs__read_plain]; delta b__read_plain
  cases d with
  | tup ts => exact h.elim
  | ref k => exact h.elim
  | fn k => exact h.elim
  | bl b =>
    cases b
    · rw [show lx (.bl false) = [70] from rfl]
      have h1 : ¬ ([70] : List Nat) = [84] := by decide
      walk_at "sv"
    · rw [show lx (.bl true) = [84] from rfl]
      walk_at "sv"
  | non =>
    rw [show lx .non = [78] from rfl]
    have h1 : ¬ ([78] : List Nat) = [84] := by decide
    have h2 : ¬ ([78] : List Nat) = [70] := by decide
    walk_at "sv"
  | str w =>
    have hw : Wd w.cps.toList := h
    rw [show S (lx (.str w)) = S w.cps.toList from rfl]
    have hS : D.str w = D.str (S w.cps.toList) := rfl
    rw [hS]
    generalize w.cps.toList = l at *
    clear h hS
    have h1 : ¬ l = [84] := fun z => by have := hw.2.2 84 (by rw [z]; exact List.mem_cons_self); omega
    have h2 : ¬ l = [70] := fun z => by have := hw.2.2 70 (by rw [z]; exact List.mem_cons_self); omega
    have h3 : ¬ l = [78] := fun z => by have := hw.2.2 78 (by rw [z]; exact List.mem_cons_self); omega
    have hc := fun (L : List Ow) (st : Sto) => sp_cons (n := n + 1) (l := l) (cs := letL) (L := L) (st := st) (Nat.le_trans hw.2.1 (by omega))
    rw [cons_let hw] at hc
    clear hw
    walk_at "sv"
  | int i =>
    obtain ⟨h1, h2⟩ := (show -100000000000000000000 < i ∧ i < 100000000000000000000 from h)
    have hI := fun (L : List Ow) (st : Sto) => (sp_int (n := n) (L := L) (st := st) h1 h2).1
    have hJ := (sp_int (n := n) (L := []) (st := []) h1 h2).2
    have hl := lx_len (d := .int i) h
    obtain ⟨c, l, hx, hc, _⟩ := lx_int i
    have hc2 := fun (L : List Ow) (st : Sto) => sp_cons (n := n + 1) (l := c :: l) (cs := letL) (L := L) (st := st) (by rw [← hx]; omega)
    rw [cons_no (fun z => by have := mem_let.mp z; omega)] at hc2
    rw [hx] at hI hJ ⊢
    have e1 : ¬ c :: l = [84] := fun z => by have := (List.cons.inj z).1; omega
    have e2 : ¬ c :: l = [70] := fun z => by have := (List.cons.inj z).1; omega
    have e3 : ¬ c :: l = [78] := fun z => by have := (List.cons.inj z).1; omega
    clear hx h1 h2 hl h hc
    generalize c :: l = t at *
    walk_at "sv"
end
section
local macro_rules | `(tactic| walk_at "sv") => `(tactic| push_cast [Int.reduceEq, Int.reduceLE, Int.reduceLT, Int.reduceAdd, l_op, l_cl, l_sp, l_stop, c_eqS, c_neSt, S_inj, ix_str, notin_sign, x_while])
theorem drop_take {l : List Nat} {p q : Nat} (h : p ≤ q) : (l.drop (min p l.length)).take (min q l.length - min p l.length) = (l.drop p).take (q - p) := by
  by_cases h1 : p ≤ l.length
  · rw [Nat.min_eq_left h1]
    by_cases h2 : q ≤ l.length
    · rw [Nat.min_eq_left h2]
    · rw [Nat.min_eq_right (by omega), List.take_of_length_le (by rw [List.length_drop]; omega), List.take_of_length_le (by rw [List.length_drop]; omega)]
  · rw [Nat.min_eq_right (by omega), Nat.min_eq_right (by omega), Nat.sub_self, List.take_zero, List.drop_of_length_le (by omega), List.take_nil]
theorem slc_S {l : List Nat} {p q : Nat} {st : Sto} (hl : l.length ≤ 1000000) (h : p ≤ q) : slc (.d (.str (S l))) (some (p : Int)) (some (q : Int)) st = ok (.d (.str (S ((l.drop p).take (q - p))))) st := by
  have e : slc (.d (.str (S l))) (some (p : Int)) (some (q : Int)) st = if (S l).length ≤ PySem.sizeLine then ok (SV.d (.str (S (cut l (some (p : Int)) (some (q : Int)))))) st else none := rfl
  have e2 : cut l (some (p : Int)) (some (q : Int)) = (l.drop p).take (q - p) := by
    rw [← drop_take h]
    have s1 : ∀ (n d p : Nat), HT.sIx n d (some (p : Int)) = min p n := fun n d p => by
      show (if (p : Int) < 0 then ((p : Int) + (n : Int)).toNat else min (p : Int).toNat n) = _
      rw [if_neg (by omega), toNatN]
    unfold cut
    rw [s1, s1]
  have hz : (S l).length ≤ PySem.sizeLine := (show l.length ≤ 16777216 by omega)
  rw [e, if_pos hz, e2]
theorem slc_1 {l : List Nat} {p : Nat} {st : Sto} (hl : l.length ≤ 1000000) : slc (.d (.str (S l))) (some (p : Int)) (some ((p : Int) + 1)) st = ok (.d (.str (S ((l.drop p).take 1)))) st := by
  have := slc_S (l := l) (p := p) (q := p + 1) (st := st) hl (by omega)
  rw [show p + 1 - p = 1 by omega] at this
  exact this
theorem strAt_S {l : List Nat} {q c : Nat} (hl : l.length ≤ 1000000) (h : l[q]? = some c) : strAt (S l) (q : Int) = some (.str ⟨#[c]⟩) := by
  have e : strAt (S l) (q : Int) = if (S l).length ≤ PySem.sizeLine then (atI l (q : Int)).map fun c => .str ⟨#[c]⟩ else none := rfl
  have hz : (S l).length ≤ PySem.sizeLine := (show l.length ≤ 16777216 by omega)
  rw [e, if_pos hz, atI_pos (by omega), toNatN, h]
  rfl
theorem len_S {l : List Nat} {st : Sto} (hl : l.length ≤ 1000000) : biF .len [.d (.str (S l))] st = ok (.d (.int l.length)) st := by
  have e : biF .len [.d (.str (S l))] st = if (S l).length ≤ PySem.sizeLine then ok (SV.d (.int (S l).length)) st else none := rfl
  have hz : (S l).length ≤ PySem.sizeLine := (show l.length ≤ 16777216 by omega)
  rw [e, if_pos hz, S_len]
/-- what may stand behind a tree -/
def Stop (rest : List Nat) : Prop := rest = [] ∨ ∃ c r, rest = c :: r ∧ (c = 32 ∨ c = 41)
/-- the signs of a leaf -/
def Pl (w : List Nat) : Prop := w ≠ [] ∧ ∀ c ∈ w, c ≠ 32 ∧ c ≠ 40 ∧ c ≠ 41
theorem lx_pl {d : D} (h : Lf d) : Pl (lx d) := by
  cases d with
  | tup ts => exact h.elim
  | ref k => exact h.elim
  | fn k => exact h.elim
  | bl b => cases b <;> exact ⟨by simp [lx], fun c hc => by simp [lx] at hc; omega⟩
  | non => exact ⟨by simp [lx], fun c hc => by simp [lx] at hc; omega⟩
  | str w =>
    have hw : Wd w.cps.toList := h
    exact ⟨hw.1, fun c hc => by have := hw.2.2 c hc; omega⟩
  | int i =>
    obtain ⟨c, l, hx, hc, hr⟩ := lx_int i
    rw [hx]
    refine ⟨by simp, fun x hx => ?_⟩
    rcases List.mem_cons.mp hx with e | e
    · subst e; omega
    · have := hr x e; omega
theorem get_drop {l w rest : List Nat} {p j : Nat} (h : l.drop p = w ++ rest) : l[p + j]? = (w ++ rest)[j]? := by
  rw [← h, List.getElem?_drop]
theorem rf_leaf {n p : Nat} {dep : Int} {l rest : List Nat} {d : D} (h : Lf d) (hd : l.drop p = lx d ++ rest) (hs : Stop rest) (hl : l.length ≤ 1000000) {L : List Ow} {st : Sto} :
    prog.call (n + 4) 2 [.d (.str (S l)), .d (.int (p : Int)), .d (.int dep)] (L.filter Ow.inStore) st = some (.ok (.d (.tup [d, .int ((p + (lx d).length : Nat) : Int)])) st) := by
  rw [cs__read_from]; delta b__read_from
  obtain ⟨hne, hp⟩ := lx_pl h
  have hpl := fun (L : List Ow) (st : Sto) => sp_plain (n := n) (e := ((p + (lx d).length : Nat) : Int)) (L := L) (st := st) h
  have hlen := congrArg List.length hd
  rw [List.length_drop, List.length_append] at hlen
  have hs2 := fun (st : Sto) => slc_S (l := l) (p := p) (q := p + (lx d).length) (st := st) hl (by omega)
  rw [hd, Nat.add_sub_cancel_left, List.take_left] at hs2
  have hs1 := fun (st : Sto) => slc_1 (l := l) (p := p) (st := st) hl
  have hln := fun (st : Sto) => len_S (l := l) (st := st) hl
  have hg := fun (j : Nat) => get_drop (j := j) hd
  rw [hd] at hs1
  clear h
  generalize lx d = w at *
  have hw1 : ∃ c, (w ++ rest).take 1 = [c] ∧ c ≠ 40 := by
    cases w with
    | nil => exact absurd rfl hne
    | cons c w => exact ⟨c, rfl, (hp c List.mem_cons_self).2.1⟩
  obtain ⟨c, hc1, hc2⟩ := hw1
  rw [hc1] at hs1
  have hc3 : ¬ ([c] : List Nat) = [40] := fun z => hc2 (List.cons.inj z).1
  clear hc1 hc2 hd
  walk_at "sv"
  refine wp_res (wp_seq (wp_mono (Q := fun r => r = .nx [some (.d (.str (S l))), some (.d (.int (p : Int))), some (.d (.int dep)), some (.d (.int ((p + w.length : Nat) : Int)))] st) (wp_while (I := fun k env s => s = st ∧ ∃ j, j + k = w.length ∧ env = [some (.d (.str (S l))), some (.d (.int (p : Int))), some (.d (.int dep)), some (.d (.int ((p + j : Nat) : Int)))]) ?_ _ w.length _ _ ?_ ⟨rfl, 0, by omega, rfl⟩) ?_))
  · rintro k env s ⟨rfl, j, hjk, rfl⟩
    by_cases hj : j < w.length
    · have hgj := hg j
      rw [List.getElem?_append_left hj, List.getElem?_eq_getElem hj] at hgj
      have hat := strAt_S hl hgj
      have hwj := hp w[j] (List.getElem_mem hj)
      have hno : ¬ w[j] ∈ [32, 40, 41] := fun z => by simp only [List.mem_cons, List.not_mem_nil, or_false] at z; omega
      have hlt : ((p + j : Nat) : Int) < (l.length : Int) := by omega
      have hq : ((p + j : Nat) : Int) + 1 = ((p + (j + 1) : Nat) : Int) := rfl
      obtain ⟨k', rfl⟩ : ∃ k', k = k' + 1 := ⟨k - 1, by omega⟩
      generalize ((p + j : Nat) : Int) = P at *
      generalize w[j] = x at *
      clear hpl hs2 hs1 hg hgj hwj hc3
      walk_at "sv"
      exact wp_some ⟨_, rfl, rfl, j + 1, by omega, rfl⟩
    · have hj' : j = w.length := by omega
      subst hj'
      rcases hs with rfl | ⟨x, r, rfl, hx⟩
      · have hlt : ¬ ((p + w.length : Nat) : Int) < (l.length : Int) := by
          rw [List.length_nil] at hlen
          omega
        generalize ((p + w.length : Nat) : Int) = P at *
        clear hg hs1 hlen hc3
        walk_at "sv"
        exact wp_some rfl
      · have hgj := hg w.length
        rw [List.getElem?_append_right (Nat.le_refl _), Nat.sub_self] at hgj
        have hat := strAt_S hl hgj
        have hin : x ∈ [32, 40, 41] := by
          simp only [List.mem_cons, List.not_mem_nil, or_false]
          omega
        have hlt : ((p + w.length : Nat) : Int) < (l.length : Int) := by
          rw [List.length_cons] at hlen
          omega
        generalize ((p + w.length : Nat) : Int) = P at *
        clear hg hs1 hlen hc3 hgj
        walk_at "sv"
        exact wp_some rfl
  · show _ < 100000000
    omega
  · rintro r rfl
    show Wp (execs _ _ _ _) _
    generalize ((p + w.length : Nat) : Int) = P at *
    clear hg hs1 hlen hc3
    walk_at "sv"
    exact wp_some rfl
end
section
local macro_rules | `(tactic| walk_at "sv") => `(tactic| push_cast [Int.reduceEq, Int.reduceLE, Int.reduceLT, Int.reduceAdd, l_op, l_cl, l_sp, l_stop, c_eqS, c_neSt, S_inj, ix_str, x_while, is_tn, e_glob])
theorem glue_cons {a : List Nat} {xs : List (List Nat)} (h : xs ≠ []) : glue (a :: xs) = a ++ 32 :: glue xs := by
  cases xs with
  | nil => exact absurd rfl h
  | cons b r => rfl
theorem drop_add {l a b : List Nat} {q : Nat} (h : l.drop q = a ++ b) : l.drop (q + a.length) = b := by
  rw [← List.drop_drop, h, List.drop_left]
theorem rt_tup {m p : Nat} {dep : Int} {l rest : List Nat} {ts : List D} {f : D → List Nat} (hts : ts.length ≤ 4) (hdep : dep ≤ 20) (hl : l.length ≤ 1000000)
    (hh : ∀ t ∈ ts, ∃ c r, f t = c :: r ∧ c ≠ 41)
    (hc : ∀ t ∈ ts, ∀ (q : Nat) (rest : List Nat), l.drop q = f t ++ rest → Stop rest → ∀ (L : List Ow) (st : Sto), prog.call m 2 [.d (.str (S l)), .d (.int (q : Int)), .d (.int dep)] (L.filter Ow.inStore) st = some (.ok (.d (.tup [t, .int ((q + (f t).length : Nat) : Int)])) st))
    (hd : l.drop p = glue (ts.map f) ++ 41 :: rest) {L : List Ow} {st : Sto} :
    prog.call (m + 1) 3 [.d (.str (S l)), .d (.int (p : Int)), .d (.int dep)] (L.filter Ow.inStore) st = some (.ok (.d (.tup [.tup ts, .int ((p + (glue (ts.map f)).length + 1 : Nat) : Int)])) st) := by
  rw [cs__read_tuple]; delta b__read_tuple
  have hd20 : ¬ 20 < dep := by omega
  have hs1 := fun (st : Sto) => slc_1 (l := l) (p := p) (st := st) hl
  rw [hd] at hs1
  by_cases hn : ts = []
  · subst hn
    rw [show (glue (List.map f []) ++ 41 :: rest).take 1 = [41] from rfl] at hs1
    rw [show ((p + (glue (List.map f [])).length + 1 : Nat) : Int) = (p : Int) + 1 from rfl]
    clear hc hh hd
    walk_at "sv"
  · obtain ⟨c, hc1, hc2⟩ : ∃ c, (glue (ts.map f) ++ 41 :: rest).take 1 = [c] ∧ c ≠ 41 := by
      cases ts with
      | nil => exact absurd rfl hn
      | cons t ts =>
        obtain ⟨c, r, e, h⟩ := hh t List.mem_cons_self
        refine ⟨c, ?_, h⟩
        rw [List.map_cons]
        by_cases hz : ts.map f = []
        · rw [hz, show glue [f t] = f t from rfl, e]
          rfl
        · rw [glue_cons hz, e]
          rfl
    rw [hc1] at hs1
    have hc3 : ¬ ([c] : List Nat) = [41] := fun z => hc2 (List.cons.inj z).1
    clear hc1 hc2
    walk_at "sv"
    refine wp_res (wp_seq (wp_mono (Q := fun r => ∃ o6 o7, r = .nx [some (.d (.str (S l))), some (.d (.int (p : Int))), some (.d (.int dep)), some (.c .own (.l ts)), some (.d (.int ((p + (glue (ts.map f)).length : Nat) : Int))), some (.d (.str (S [41]))), o6, o7] st)
      (wp_while (I := fun k env s => s = st ∧ ∃ (us vs : List D) (e : Int) (mk : List Nat) (o6 o7 : Option SV), ts = us ++ vs ∧ k = vs.length ∧ env = [some (.d (.str (S l))), some (.d (.int (p : Int))), some (.d (.int dep)), some (.c .own (.l us)), some (.d (.int e)), some (.d (.str (S mk))), o6, o7] ∧
        ((vs = [] ∧ mk = [41] ∧ e = ((p + (glue (ts.map f)).length : Nat) : Int)) ∨ (∃ q : Nat, vs ≠ [] ∧ mk = [32] ∧ e + 1 = (q : Int) ∧ l.drop q = glue (vs.map f) ++ 41 :: rest ∧ q + (glue (vs.map f)).length = p + (glue (ts.map f)).length))) ?_ _ ts.length _ _ ?_ ⟨rfl, [], ts, (p : Int) - 1, [32], none, none, rfl, rfl, rfl, .inr ⟨p, hn, rfl, by omega, hd, rfl⟩⟩) ?_))
    · rintro k env s ⟨rfl, us, vs, e, mk, o6, o7, hts2, rfl, rfl, h⟩
      rcases h with ⟨rfl, rfl, rfl⟩ | ⟨q, hvs, rfl, hq, hdq, hlq⟩
      · rw [List.append_nil] at hts2
        subst hts2
        have hf : ¬ ([41] : List Nat) = [32] := by decide
        generalize ((p + (glue (ts.map f)).length : Nat) : Int) = P at *
        clear hc hh hd hs1
        walk_at "sv"
        exact wp_some ⟨_, _, rfl⟩
      · cases vs with
        | nil => exact absurd rfl hvs
        | cons v vs =>
          have hv : v ∈ ts := by rw [hts2]; exact List.mem_append.mpr (.inr List.mem_cons_self)
          have hln : us.length < PySem.sizeLine := by
            have := congrArg List.length hts2
            rw [List.length_append] at this
            exact Nat.lt_of_lt_of_le (by omega : _ < 1000) size_k
          by_cases hz : vs = []
          · subst hz
            have hdq2 : l.drop q = f v ++ 41 :: rest := hdq
            have hcv := hc v hv q (41 :: rest) hdq2 (.inr ⟨41, rest, rfl, .inr rfl⟩)
            have hs2 := fun (st : Sto) => slc_1 (l := l) (p := q + (f v).length) (st := st) hl
            rw [drop_add hdq2, show (41 :: rest : List Nat).take 1 = [41] from rfl] at hs2
            have hlq2 : q + (f v).length = p + (glue (ts.map f)).length := hlq
            rw [hlq2] at hs2 hcv
            have hvn : us ++ [v] = ts := hts2.symm
            generalize ((p + (glue (ts.map f)).length : Nat) : Int) = P at *
            clear hc hh hd hs1 hdq hlq hdq2 hts2 hlq2
            walk_at "sv"
            exact wp_some ⟨0, rfl, rfl, ts, [], P, [41], _, _, (List.append_nil _).symm, rfl, rfl, .inl ⟨rfl, rfl, rfl⟩⟩
          · have hdq2 : l.drop q = f v ++ 32 :: (glue (vs.map f) ++ 41 :: rest) := by
              rw [hdq, List.map_cons, glue_cons (by simpa using hz), List.append_assoc]
              rfl
            have hcv := hc v hv q _ hdq2 (.inr ⟨32, _, rfl, .inl rfl⟩)
            have hs2 := fun (st : Sto) => slc_1 (l := l) (p := q + (f v).length) (st := st) hl
            rw [drop_add hdq2, show (32 :: (glue (vs.map f) ++ 41 :: rest) : List Nat).take 1 = [32] from rfl] at hs2
            have hd3 : l.drop (q + (f v).length + 1) = glue (vs.map f) ++ 41 :: rest := by
              rw [← List.drop_drop, drop_add hdq2]
              rfl
            have hlq2 : q + (f v).length + 1 + (glue (vs.map f)).length = p + (glue (ts.map f)).length := by
              rw [← hlq, List.map_cons, glue_cons (by simpa using hz), List.length_append, List.length_cons]
              omega
            have hP : Nonempty (PLift (((q + (f v).length : Nat) : Int) + 1 = ((q + (f v).length + 1 : Nat) : Int))) := ⟨⟨rfl⟩⟩
            generalize ((q + (f v).length : Nat) : Int) = P at *
            have hts3 : Nonempty (PLift (ts = (us ++ [v]) ++ vs)) := ⟨⟨by rw [hts2, List.append_assoc]; rfl⟩⟩
            clear hc hh hd hs1 hdq hlq hdq2 hts2
            walk_at "sv"
            obtain ⟨⟨hP⟩⟩ := hP
            obtain ⟨⟨hts3⟩⟩ := hts3
            exact wp_some ⟨vs.length, rfl, rfl, us ++ [v], vs, P, [32], _, _, hts3, rfl, rfl, .inr ⟨_, hz, rfl, hP, hd3, hlq2⟩⟩
    · show _ < 100000000
      omega
    · rintro r ⟨o6, o7, rfl⟩
      show Wp (execs _ _ _ _) _
      rw [show ((p + (glue (ts.map f)).length + 1 : Nat) : Int) = ((p + (glue (ts.map f)).length : Nat) : Int) + 1 from rfl]
      generalize ((p + (glue (ts.map f)).length : Nat) : Int) = P at *
      clear hc hh hd hs1 hc3
      walk_at "sv"
      exact wp_some rfl
end
section
local macro_rules | `(tactic| walk_at "sv") => `(tactic| push_cast [Int.reduceEq, Int.reduceLE, Int.reduceLT, Int.reduceAdd, l_op, c_eqS, c_neSt, S_inj, is_tn, e_glob])
theorem tx_head {k : Nat} {d : D} (h : Good k d) : ∃ c r, tx k d = c :: r ∧ c ≠ 41 := by
  have leafE : Lf d → ∃ c r, tx k d = c :: r ∧ c ≠ 41 := fun h => by
    rw [tx_leaf h]
    obtain ⟨h1, h2⟩ := lx_pl h
    obtain ⟨c, r, e⟩ := List.exists_cons_of_ne_nil h1
    exact ⟨c, r, e, (h2 c (by rw [e]; exact List.mem_cons_self)).2.2⟩
  cases k with
  | zero => exact leafE h
  | succ k =>
    rcases h with h | ⟨ts, rfl, _, _⟩
    · exact leafE h
    · exact ⟨40, _, rfl, by omega⟩
theorem sp_from : ∀ (k : Nat) {n p : Nat} {d : D} {dep : Int} {l rest : List Nat} (_ : Good k d) (_ : dep + k ≤ 20) (_ : l.length ≤ 1000000) (_ : l.drop p = tx k d ++ rest) (_ : Stop rest) {L : List Ow} {st : Sto},
    prog.call (n + (2 * k + 4)) 2 [.d (.str (S l)), .d (.int (p : Int)), .d (.int dep)] (L.filter Ow.inStore) st = some (.ok (.d (.tup [d, .int ((p + (tx k d).length : Nat) : Int)])) st)
  | 0, n, p, d, dep, l, rest, h, hk, hl, hd, hs, L, st => rf_leaf h hd hs hl
  | k + 1, n, p, d, dep, l, rest, h, hk, hl, hd, hs, L, st => by
    rcases h with h | ⟨ts, rfl, hts, h⟩
    · rw [tx_leaf h] at hd ⊢
      exact rf_leaf (n := n + 2 * (k + 1)) h hd hs hl
    · have hd1 : l.drop p = 40 :: (glue (ts.map (tx k)) ++ 41 :: rest) := by
        rw [hd]
        show 40 :: ((glue (ts.map (tx k)) ++ [41]) ++ rest) = _
        rw [List.append_assoc]
        rfl
      have hd2 : l.drop (p + 1) = glue (ts.map (tx k)) ++ 41 :: rest := by
        rw [← List.drop_drop, hd1]
        rfl
      have ht := fun (L : List Ow) (st : Sto) => rt_tup (m := n + (2 * k + 4)) (p := p + 1) (dep := dep + 1) (f := tx k) (L := L) (st := st) hts (by omega) hl (fun t ht => tx_head (h t ht))
        (fun t ht q rest hq hr L st => sp_from k (n := n) (p := q) (dep := dep + 1) (h t ht) (by omega) hl hq hr) hd2
      have hlen : p + 1 + (glue (ts.map (tx k))).length + 1 = p + (tx (k + 1) (.tup ts)).length := by
        show _ = p + (40 :: (glue (ts.map (tx k)) ++ [41])).length
        rw [List.length_cons, List.length_append, List.length_cons, List.length_nil]
        omega
      rw [hlen, show ((p + 1 : Nat) : Int) = (p : Int) + 1 from rfl] at ht
      have hs1 := fun (st : Sto) => slc_1 (l := l) (p := p) (st := st) hl
      rw [hd1, show (40 :: (glue (ts.map (tx k)) ++ 41 :: rest) : List Nat).take 1 = [40] from rfl] at hs1
      rw [show n + (2 * (k + 1) + 4) = (n + (2 * k + 4) + 1) + 1 by omega, cs__read_from]; delta b__read_from
      generalize ((p + (tx (k + 1) (.tup ts)).length : Nat) : Int) = P at *
      clear hlen hd hd1 hd2 h hk hs
      walk_at "sv"
theorem sp_read {k n : Nat} {d : D} {x : SV} (h : Good k d) (hk : k ≤ 6) {L : List Ow} {st : Sto} : prog.call (n + (2 * k + 5)) 1 [.d (.str (S (tx k d))), x] (L.filter Ow.inStore) st = some (.ok (.d d) st) := by
  have hl : (tx k d).length ≤ 1000000 := Nat.le_trans (good_len h) (bnd_le hk)
  have hf := fun (L : List Ow) (st : Sto) => sp_from k (n := n) (p := 0) (dep := 0) (rest := []) (L := L) (st := st) h (by omega) hl (by rw [List.append_nil]; rfl) (.inl rfl)
  have hln := fun (st : Sto) => len_S (l := tx k d) (st := st) hl
  rw [Nat.zero_add, show ((0 : Nat) : Int) = 0 from rfl] at hf
  rw [show n + (2 * k + 5) = n + (2 * k + 4) + 1 from rfl, cs_read_tree]; delta b_read_tree
  generalize tx k d = T at *
  clear h
  walk_at "sv"
end
section
local macro_rules | `(tactic| walk_at "sv") => `(tactic| push_cast [Int.reduceEq, Int.reduceLE, Int.reduceLT, Int.reduceAdd, l_op, l_cl, l_sp, c_eqS, c_neSt, S_inj, e_glob, ty_sS, bi_isi])
theorem law_pureX {n : Nat} (ns : List Int) : ∃ st', prog.call (n + 20) 11 [.c .scr (.l (ns.map .int))] (List.filter Ow.inStore []) [] = some (.ok (.d (.bl true)) st') := by
  refine ⟨[], ?_⟩
  rw [cs_law]; delta b_law
  walk_at "sv"
  refine wp_res (wp_for (fun i env s => s = [] ∧ ∃ o1 o2 o3 o4, env = [some (.c .scr (.l (ns.map .int))), o1, o2, o3, o4]) ⟨rfl, _, _, _, _, rfl⟩ ?_ ?_)
  · rintro i x hx env s ⟨rfl, o1, o2, o3, o4, rfl⟩
    obtain ⟨hi, rfl⟩ := range_at hx
    have hf := fun (L : List Ow) (st : Sto) => sp_number (n := n + 18) (ns := ns) (k := (i : Int)) (L := L) (st := st) (by omega)
    generalize num ns (i : Int) = z at hf
    have ht := fun (L : List Ow) (st : Sto) => sp_tree 5 (n := n + 13) (z := z) (L := L) (st := st)
    rw [show ((5 : Nat) : Int) = 5 from rfl] at ht
    have hg := tre_good (n := 5) (z := z)
    generalize tre 5 z = t at ht hg
    have hg2 : Good 6 (.tup [t, t]) := .inr ⟨[t, t], rfl, by simp, fun x hx => by
      simp only [List.mem_cons, List.not_mem_nil, or_false, or_self] at hx
      rw [hx]
      exact hg⟩
    have h1 := fun (L : List Ow) (st : Sto) => sp_lt 5 (n := n + 12) hg (by omega) (L := L) (st := st)
    have h2 := fun (L : List Ow) (st : Sto) => sp_wt 5 (n := n + 13) hg (by omega) (L := L) (st := st)
    have h3 := fun (x : SV) (L : List Ow) (st : Sto) => sp_read (n := n + 4) (x := x) hg (by omega) (L := L) (st := st)
    have h4 := fun (x : SV) (L : List Ow) (st : Sto) => sp_read (n := n + 2) (x := x) hg2 (by omega) (L := L) (st := st)
    have h5 := fun (L : List Ow) (st : Sto) => sp_same 5 (n := n + 13) hg (L := L) (st := st)
    have h6 := fun (L : List Ow) (st : Sto) => sp_same 6 (n := n + 12) hg2 (L := L) (st := st)
    have hl : (tx 5 t).length ≤ 1000000 := Nat.le_trans (good_len hg) (bnd_le (by omega))
    rw [show tx 6 (.tup [t, t]) = 40 :: ((tx 5 t ++ 32 :: tx 5 t) ++ [41]) from rfl] at h4
    generalize tx 5 t = T at *
    have a1 := fun (st : Sto) => b_addE (st := st) (a := [40]) (b := T) (e := 40 :: T) (by rw [List.length_cons, List.length_nil]; omega) rfl
    have a2 := fun (st : Sto) => b_addE (st := st) (a := 40 :: T) (b := [32]) (e := 40 :: (T ++ [32])) (by rw [List.length_cons, List.length_cons, List.length_nil]; omega) rfl
    have a3 := fun (st : Sto) => b_addE (st := st) (a := 40 :: (T ++ [32])) (b := T) (e := 40 :: (T ++ 32 :: T)) (by rw [List.length_cons, List.length_append, List.length_cons, List.length_nil]; omega) (by rw [List.cons_append, List.append_assoc]; rfl)
    have a4 := fun (st : Sto) => b_addE (st := st) (a := 40 :: (T ++ 32 :: T)) (b := [41]) (e := 40 :: ((T ++ 32 :: T) ++ [41])) (by rw [List.length_cons, List.length_append, List.length_cons, List.length_cons, List.length_nil]; omega) rfl
    clear hg hg2 hl hx
    walk_at "sv"
    exact wp_some ⟨rfl, _, _, _, _, rfl⟩
  · rintro env s ⟨rfl, o1, o2, o3, o4, rfl⟩
    walk_at "sv"
    exact wp_some rfl
end
end Lw
namespace Tw
open PySem L2 Tv Lw PySem.Spec PyProof.Rows
def top (i : Nat) : Stmt := PySem.Challenge.pw_turnpike_k70_trees_written_and_read.main.body.getD i (.Pass ⟨0, 0, 0, 0⟩)
abbrev s_write_tree : Stmt := (top 8)
abbrev N_write_tree : List Str := ["tree", "item"]
theorem sc_write_tree : FnScope N_write_tree ["tree"] (defScope s_write_tree) := ⟨rfl, rfl, rfl, by decide +kernel, rfl, by decide +kernel, by decide +kernel⟩
abbrev s_read_tree : Stmt := (top 9)
abbrev N_read_tree : List Str := ["text", "line", "found"]
theorem sc_read_tree : FnScope N_read_tree ["text", "line"] (defScope s_read_tree) := ⟨rfl, rfl, rfl, by decide +kernel, rfl, by decide +kernel, by decide +kernel⟩
abbrev s__read_from : Stmt := (top 10)
abbrev N__read_from : List Str := ["text", "start", "depth", "end"]
theorem sc__read_from : FnScope N__read_from ["text", "start", "depth"] (defScope s__read_from) := ⟨rfl, rfl, rfl, by decide +kernel, rfl, by decide +kernel, by decide +kernel⟩
abbrev s__read_tuple : Stmt := (top 11)
abbrev N__read_tuple : List Str := ["text", "start", "depth", "items", "end", "mark", "found", "item"]
theorem sc__read_tuple : FnScope N__read_tuple ["text", "start", "depth"] (defScope s__read_tuple) := ⟨rfl, rfl, rfl, by decide +kernel, rfl, by decide +kernel, by decide +kernel⟩
abbrev s__read_plain : Stmt := (top 12)
abbrev N__read_plain : List Str := ["text", "end"]
theorem sc__read_plain : FnScope N__read_plain ["text", "end"] (defScope s__read_plain) := ⟨rfl, rfl, rfl, by decide +kernel, rfl, by decide +kernel, by decide +kernel⟩
abbrev s__is_integer_text : Stmt := (top 13)
abbrev N__is_integer_text : List Str := ["text", "digits"]
theorem sc__is_integer_text : FnScope N__is_integer_text ["text"] (defScope s__is_integer_text) := ⟨rfl, rfl, rfl, by decide +kernel, rfl, by decide +kernel, by decide +kernel⟩
abbrev s__consists_of : Stmt := (top 14)
abbrev N__consists_of : List Str := ["text", "characters", "each"]
theorem sc__consists_of : FnScope N__consists_of ["text", "characters"] (defScope s__consists_of) := ⟨rfl, rfl, rfl, by decide +kernel, rfl, by decide +kernel, by decide +kernel⟩
abbrev s__law_number : Stmt := (top 16)
abbrev N__law_number : List Str := ["script", "k", "cell", "first", "second"]
theorem sc__law_number : FnScope N__law_number ["script", "k"] (defScope s__law_number) := ⟨rfl, rfl, rfl, by decide +kernel, rfl, by decide +kernel, by decide +kernel⟩
abbrev s__law_same : Stmt := (top 17)
abbrev N__law_same : List Str := ["one", "two", "k"]
theorem sc__law_same : FnScope N__law_same ["one", "two"] (defScope s__law_same) := ⟨rfl, rfl, rfl, by decide +kernel, rfl, by decide +kernel, by decide +kernel⟩
abbrev s__law_tree : Stmt := (top 18)
abbrev N__law_tree : List Str := ["number", "deep", "kind", "rest", "items", "k"]
theorem sc__law_tree : FnScope N__law_tree ["number", "deep"] (defScope s__law_tree) := ⟨rfl, rfl, rfl, by decide +kernel, rfl, by decide +kernel, by decide +kernel⟩
abbrev s__law_text : Stmt := (top 19)
abbrev N__law_text : List Str := ["tree", "text", "k", "digits"]
theorem sc__law_text : FnScope N__law_text ["tree"] (defScope s__law_text) := ⟨rfl, rfl, rfl, by decide +kernel, rfl, by decide +kernel, by decide +kernel⟩
abbrev s_law : Stmt := (top 20)
abbrev N_law : List Str := ["script", "k", "tree", "text", "actual"]
theorem sc_law : FnScope N_law ["script"] (defScope s_law) := ⟨rfl, rfl, rfl, by decide +kernel, rfl, by decide +kernel, by decide +kernel⟩
set_option genInjectivity false
set_option genSizeOf false
set_option genSizeOfSpec false
structure Txt (w : World) (K : PySem.W.Frag) (mg : Str → Option Value) where
  a_write_tree : Addr
  fd_write_tree : FuncData
  F_write_tree : Fun K "write_tree" "write_tree" s_write_tree a_write_tree fd_write_tree
  b_write_tree : Binds K fd_write_tree ["tree"] []
  m_write_tree : mg "write_tree" = some (.ref a_write_tree)
  a_read_tree : Addr
  fd_read_tree : FuncData
  F_read_tree : Fun K "read_tree" "read_tree" s_read_tree a_read_tree fd_read_tree
  kb_read_tree : KBn K fd_read_tree ["text", "line"] 1 ["line"] (fun us ws => us ++ ws) (fun vs zs => vs ++ zs)
  m_read_tree : mg "read_tree" = some (.ref a_read_tree)
  bx_read_tree : List Value
  bd_read_tree : Binds K fd_read_tree ["text", "line"] bx_read_tree
  bv_read_tree : Vals [V.int 1] bx_read_tree
  a__read_from : Addr
  fd__read_from : FuncData
  F__read_from : Fun K "_read_from" "_read_from" s__read_from a__read_from fd__read_from
  b__read_from : Binds K fd__read_from ["text", "start", "depth"] []
  m__read_from : mg "_read_from" = some (.ref a__read_from)
  a__read_tuple : Addr
  fd__read_tuple : FuncData
  F__read_tuple : Fun K "_read_tuple" "_read_tuple" s__read_tuple a__read_tuple fd__read_tuple
  b__read_tuple : Binds K fd__read_tuple ["text", "start", "depth"] []
  m__read_tuple : mg "_read_tuple" = some (.ref a__read_tuple)
  a__read_plain : Addr
  fd__read_plain : FuncData
  F__read_plain : Fun K "_read_plain" "_read_plain" s__read_plain a__read_plain fd__read_plain
  b__read_plain : Binds K fd__read_plain ["text", "end"] []
  m__read_plain : mg "_read_plain" = some (.ref a__read_plain)
  a__is_integer_text : Addr
  fd__is_integer_text : FuncData
  F__is_integer_text : Fun K "_is_integer_text" "_is_integer_text" s__is_integer_text a__is_integer_text fd__is_integer_text
  b__is_integer_text : Binds K fd__is_integer_text ["text"] []
  m__is_integer_text : mg "_is_integer_text" = some (.ref a__is_integer_text)
  a__consists_of : Addr
  fd__consists_of : FuncData
  F__consists_of : Fun K "_consists_of" "_consists_of" s__consists_of a__consists_of fd__consists_of
  b__consists_of : Binds K fd__consists_of ["text", "characters"] []
  m__consists_of : mg "_consists_of" = some (.ref a__consists_of)
  a__law_number : Addr
  fd__law_number : FuncData
  F__law_number : Fun K "_law_number" "_law_number" s__law_number a__law_number fd__law_number
  b__law_number : Binds K fd__law_number ["script", "k"] []
  m__law_number : mg "_law_number" = some (.ref a__law_number)
  a__law_same : Addr
  fd__law_same : FuncData
  F__law_same : Fun K "_law_same" "_law_same" s__law_same a__law_same fd__law_same
  b__law_same : Binds K fd__law_same ["one", "two"] []
  m__law_same : mg "_law_same" = some (.ref a__law_same)
  a__law_tree : Addr
  fd__law_tree : FuncData
  F__law_tree : Fun K "_law_tree" "_law_tree" s__law_tree a__law_tree fd__law_tree
  b__law_tree : Binds K fd__law_tree ["number", "deep"] []
  m__law_tree : mg "_law_tree" = some (.ref a__law_tree)
  a__law_text : Addr
  fd__law_text : FuncData
  F__law_text : Fun K "_law_text" "_law_text" s__law_text a__law_text fd__law_text
  b__law_text : Binds K fd__law_text ["tree"] []
  m__law_text : mg "_law_text" = some (.ref a__law_text)
  a_law : Addr
  fd_law : FuncData
  F_law : Fun K "law" "law" s_law a_law fd_law
  b_law : Binds K fd_law ["script"] []
  m_law : mg "law" = some (.ref a_law)
  t_DIGITS : Tok
  m_DIGITS : mg "DIGITS" = some (.str "0123456789" t_DIGITS)
  t_LETTERS : Tok
  m_LETTERS : mg "LETTERS" = some (.str "abcdefghijklmnopqrstuvwxyz" t_LETTERS)
  t_MOST_DEPTH : Tok
  m_MOST_DEPTH : mg "MOST_DEPTH" = some (.int 20 t_MOST_DEPTH)
  t_MOST_DIGITS : Tok
  m_MOST_DIGITS : mg "MOST_DIGITS" = some (.int 20 t_MOST_DIGITS)
  m_all : mg "all" = none
  m_bool : mg "bool" = none
  m_int : mg "int" = none
  m_isinstance : mg "isinstance" = none
  m_len : mg "len" = none
  m_range : mg "range" = none
  m_str : mg "str" = none
  m_tuple : mg "tuple" = none
section
variable {P : Program} {w : World} {K : PySem.W.Frag} {mg : Str → Option Value} {base : Heap}
def ET (T : Txt w K mg) : Tv.En := ⟨K, fun n => [0].getD n 0, fun n => [T.a_write_tree, T.a_read_tree, T.a__read_from, T.a__read_tuple, T.a__read_plain, T.a__is_integer_text, T.a__consists_of, T.a__law_number, T.a__law_same, T.a__law_tree, T.a__law_text, T.a_law].getD n 0, fun n => [0, 0].getD n 0, fun _ => Str.empty, ktsL, fldsL⟩
theorem enk (T : Txt w K mg) : Enk (ET T) := fun C f h => by
  have h : (C, f) ∈ fldsL := h
  unfold fldsL at h
  cases h
structure All (P : Program) (w : World) (base : Heap) (T : Txt w K mg) (n k : Nat) : Prop where
  c_write_tree : FnOk P w K mg base (L2.CX P w) k T.a_write_tree T.fd_write_tree ["tree"] (spT prog (ET T) n 0)
  c_read_tree : FnOk P w K mg base (L2.CX P w) k T.a_read_tree T.fd_read_tree ["text", "line"] (spT prog (ET T) n 1)
  c__read_from : FnOk P w K mg base (L2.CX P w) k T.a__read_from T.fd__read_from ["text", "start", "depth"] (spT prog (ET T) n 2)
  c__read_tuple : FnOk P w K mg base (L2.CX P w) k T.a__read_tuple T.fd__read_tuple ["text", "start", "depth"] (spT prog (ET T) n 3)
  c__read_plain : FnOk P w K mg base (L2.CX P w) k T.a__read_plain T.fd__read_plain ["text", "end"] (spT prog (ET T) n 4)
  c__is_integer_text : FnOk P w K mg base (L2.CX P w) k T.a__is_integer_text T.fd__is_integer_text ["text"] (spT prog (ET T) n 5)
  c__consists_of : FnOk P w K mg base (L2.CX P w) k T.a__consists_of T.fd__consists_of ["text", "characters"] (spT prog (ET T) n 6)
  c__law_number : FnOk P w K mg base (L2.CX P w) k T.a__law_number T.fd__law_number ["script", "k"] (spT prog (ET T) n 7)
  c__law_same : FnOk P w K mg base (L2.CX P w) k T.a__law_same T.fd__law_same ["one", "two"] (spT prog (ET T) n 8)
  c__law_tree : FnOk P w K mg base (L2.CX P w) k T.a__law_tree T.fd__law_tree ["number", "deep"] (spT prog (ET T) n 9)
  c__law_text : FnOk P w K mg base (L2.CX P w) k T.a__law_text T.fd__law_text ["tree"] (spT prog (ET T) n 10)
  c_law : FnOk P w K mg base (L2.CX P w) k T.a_law T.fd_law ["script"] (spT prog (ET T) n 11)
theorem ok_write_tree {n k : Nat} (T : Txt w K mg) (ih : All P w base T n k) : FnOk P w K mg base (L2.CX P w) (k + 2) T.a_write_tree T.fd_write_tree ["tree"] (spT prog (ET T) (n + 1) 0) := by
  refine fn_T (N := N_write_tree) (body := b_write_tree) T.F_write_tree sc_write_tree rfl (by decide) fun cdv A outer s H Y hr => ?_
  have hr0 := hr.mono (Nat.le_succ k)
  have hE := enk T
  have tk := takes_of (X := cxOf (L2.CX P w) P w K mg base N_write_tree "write_tree" (defScope s_write_tree) T.a_write_tree cdv A outer s H Y) rfl rfl rfl rfl
  have po : PassesOwn (model P w) _ _ _ := passes_of (X := cxOf (L2.CX P w) P w K mg base N_write_tree "write_tree" (defScope s_write_tree) T.a_write_tree cdv A outer s H Y) rfl
  have d : Dss (cxOf (L2.CX P w) P w K mg base N_write_tree "write_tree" (defScope s_write_tree) T.a_write_tree cdv A outer s H Y) ⟨prog, n, ET T, fun _ => none, fun cls d _ H => Y cls d H⟩ (defBody s_write_tree) b_write_tree _ :=
   (dss_cons (ds_if (dt_cmp rfl co_is (de_var 0) de_bl (by first | exact nomark _ | rfl))
    (dss_cons (ds_ret de_str)
    dss_nil)
    dss_nil)
    (dss_cons (ds_if (dt_cmp rfl co_is (de_var 0) de_bl (by first | exact nomark _ | rfl))
    (dss_cons (ds_ret de_str)
    dss_nil)
    dss_nil)
    (dss_cons (ds_if (dt_cmp rfl co_is (de_var 0) de_non (by first | exact nomark _ | rfl))
    (dss_cons (ds_ret de_str)
    dss_nil)
    dss_nil)
    (dss_cons (ds_if (dt_truth rfl (de_isi rfl rfl rfl T.m_isinstance b_isinstance rfl T.m_tuple b_tuple (de_var 0)))
    (dss_cons (ds_ret (de_bin (bo_add rfl) (de_bin (bo_add rfl) de_str (de_join rfl de_str (de_lcD rfl sc_write_tree.nd (blkOk_by (own := [("item", 1)]) (N := N_write_tree) (sc := defScope s_write_tree) (by decide +kernel)) (dic_seq rfl (de_var 0)) (fun _ _ _ _ _ => (dg_nm (i := 1) sc_write_tree.nd rfl (.inl rfl))) (fun _ _ _ _ _ => dts_nil) (fun _ _ _ _ _ => (de_call takes0 ih.c_write_tree hr0 rfl T.m_write_tree T.F_write_tree.kp T.b_write_tree (da_cons (de_var 1) da_nil) rfl)) rfl))) de_str))
    dss_nil)
    dss_nil)
    (dss_cons (ds_ret (de_ty bi_str rfl T.m_str b_str (da_cons (de_var 0) da_nil)))
    dss_nil)))))
  exact ⟨_, d.p, d.s⟩
theorem ok_read_tree {n k : Nat} (T : Txt w K mg) (ih : All P w base T n k) : FnOk P w K mg base (L2.CX P w) (k + 2) T.a_read_tree T.fd_read_tree ["text", "line"] (spT prog (ET T) (n + 1) 1) := by
  refine fn_T (N := N_read_tree) (body := b_read_tree) T.F_read_tree sc_read_tree rfl (by decide) fun cdv A outer s H Y hr => ?_
  have hr0 := hr.mono (Nat.le_succ k)
  have hE := enk T
  have tk := takes_of (X := cxOf (L2.CX P w) P w K mg base N_read_tree "read_tree" (defScope s_read_tree) T.a_read_tree cdv A outer s H Y) rfl rfl rfl rfl
  have po : PassesOwn (model P w) _ _ _ := passes_of (X := cxOf (L2.CX P w) P w K mg base N_read_tree "read_tree" (defScope s_read_tree) T.a_read_tree cdv A outer s H Y) rfl
  have d : Dss (cxOf (L2.CX P w) P w K mg base N_read_tree "read_tree" (defScope s_read_tree) T.a_read_tree cdv A outer s H Y) ⟨prog, n, ET T, fun _ => none, fun cls d _ H => Y cls d H⟩ (defBody s_read_tree) b_read_tree _ :=
   (dss_cons (ds_asg (de_call tk ih.c__read_from hr0 rfl T.m__read_from T.F__read_from.kp T.b__read_from (da_cons (de_var 0) (da_cons de_int (da_cons de_int da_nil))) rfl) (dg_nm (i := 2) sc_read_tree.nd rfl (.inl rfl)) (fun _ e => by cases e; rfl))
    (dss_cons (ds_if (dt_w (dw_or (dt_cmp rfl co_is (de_var 2) de_non (by first | exact nomark _ | rfl)) (dw_or1 (dt_cmp rfl (co_ne rfl hr) (de_idx rfl rfl hr (de_var 2) de_int (fun _ _ => rfl)) (de_bi (bi_len rfl) rfl T.m_len b_len (da_cons (de_var 0) da_nil)) (by first | exact nomark _ | rfl)))))
    (dss_cons ds_stuck
    dss_nil)
    dss_nil)
    (dss_cons (ds_ret (de_idx rfl rfl hr (de_var 2) de_int (fun _ _ => rfl)))
    dss_nil)))
  exact ⟨_, d.p, d.s⟩
theorem ok__read_from {n k : Nat} (T : Txt w K mg) (ih : All P w base T n k) : FnOk P w K mg base (L2.CX P w) (k + 2) T.a__read_from T.fd__read_from ["text", "start", "depth"] (spT prog (ET T) (n + 1) 2) := by
  refine fn_T (N := N__read_from) (body := b__read_from) T.F__read_from sc__read_from rfl (by decide) fun cdv A outer s H Y hr => ?_
  have hr0 := hr.mono (Nat.le_succ k)
  have hE := enk T
  have tk := takes_of (X := cxOf (L2.CX P w) P w K mg base N__read_from "_read_from" (defScope s__read_from) T.a__read_from cdv A outer s H Y) rfl rfl rfl rfl
  have po : PassesOwn (model P w) _ _ _ := passes_of (X := cxOf (L2.CX P w) P w K mg base N__read_from "_read_from" (defScope s__read_from) T.a__read_from cdv A outer s H Y) rfl
  have d : Dss (cxOf (L2.CX P w) P w K mg base N__read_from "_read_from" (defScope s__read_from) T.a__read_from cdv A outer s H Y) ⟨prog, n, ET T, fun _ => none, fun cls d _ H => Y cls d H⟩ (defBody s__read_from) b__read_from _ :=
   (dss_cons (ds_if (dt_cmp rfl (co_eq rfl hr) (de_slice rfl (de_var 0) (do_some (de_var 1)) (do_some (de_bin (bo_add rfl) (de_var 1) de_int))) de_str (by first | exact nomark _ | rfl))
    (dss_cons (ds_ret (de_call tk ih.c__read_tuple hr0 rfl T.m__read_tuple T.F__read_tuple.kp T.b__read_tuple (da_cons (de_var 0) (da_cons (de_bin (bo_add rfl) (de_var 1) de_int) (da_cons (de_bin (bo_add rfl) (de_var 2) de_int) da_nil))) rfl))
    dss_nil)
    dss_nil)
    (dss_cons (ds_mv (i := 3) (pv 1) (pgn 3 sc__read_from.nd (.inl rfl)))
    (dss_cons (ds_while po (dt_w (dw_and (dt_cmp rfl co_lt (de_var 3) (de_bi (bi_len rfl) rfl T.m_len b_len (da_cons (de_var 0) da_nil)) (by first | exact nomark _ | rfl)) (dw_and1 (dt_cmp rfl (co_notin rfl hr) (de_idx rfl rfl hr (de_var 0) (de_var 3) (fun _ _ => rfl)) de_str (by first | exact nomark _ | rfl)))))
    (dss_cons (ds_add 3 sc__read_from.nd rfl (.inl rfl) de_int)
    dss_nil))
    (dss_cons (ds_ret (de_call tk ih.c__read_plain hr0 rfl T.m__read_plain T.F__read_plain.kp T.b__read_plain (da_cons (de_slice rfl (de_var 0) (do_some (de_var 1)) (do_some (de_var 3))) (da_cons (de_var 3) da_nil)) rfl))
    dss_nil))))
  exact ⟨_, d.p, d.s⟩
theorem ok__read_tuple {n k : Nat} (T : Txt w K mg) (ih : All P w base T n k) : FnOk P w K mg base (L2.CX P w) (k + 2) T.a__read_tuple T.fd__read_tuple ["text", "start", "depth"] (spT prog (ET T) (n + 1) 3) := by
  refine fn_T (N := N__read_tuple) (body := b__read_tuple) T.F__read_tuple sc__read_tuple rfl (by decide) fun cdv A outer s H Y hr => ?_
  have hr0 := hr.mono (Nat.le_succ k)
  have hE := enk T
  have tk := takes_of (X := cxOf (L2.CX P w) P w K mg base N__read_tuple "_read_tuple" (defScope s__read_tuple) T.a__read_tuple cdv A outer s H Y) rfl rfl rfl rfl
  have po : PassesOwn (model P w) _ _ _ := passes_of (X := cxOf (L2.CX P w) P w K mg base N__read_tuple "_read_tuple" (defScope s__read_tuple) T.a__read_tuple cdv A outer s H Y) rfl
  have d : Dss (cxOf (L2.CX P w) P w K mg base N__read_tuple "_read_tuple" (defScope s__read_tuple) T.a__read_tuple cdv A outer s H Y) ⟨prog, n, ET T, fun _ => none, fun cls d _ H => Y cls d H⟩ (defBody s__read_tuple) b__read_tuple _ :=
   (dss_cons (ds_if (dt_cmp rfl co_gt (de_var 2) (de_glob (v := .int 20) rfl T.m_MOST_DEPTH ⟨_, rfl⟩ (fun _ _ => .int _)) (by first | exact nomark _ | rfl))
    (dss_cons (ds_ret de_non)
    dss_nil)
    dss_nil)
    (dss_cons (ds_if (dt_cmp rfl (co_eq rfl hr) (de_slice rfl (de_var 0) (do_some (de_var 1)) (do_some (de_bin (bo_add rfl) (de_var 1) de_int))) de_str (by first | exact nomark _ | rfl))
    (dss_cons (ds_ret (de_tup (da_cons (de_tup da_nil) (da_cons (de_bin (bo_add rfl) (de_var 1) de_int) da_nil))))
    dss_nil)
    dss_nil)
    (dss_cons (ds_asg (de_lst da_nil) (dg_nm (i := 3) sc__read_tuple.nd rfl (.inl rfl)) (fun _ e => by cases e; rfl))
    (dss_cons (ds_asg (de_bin bo_sub (de_var 1) de_int) (dg_nm (i := 4) sc__read_tuple.nd rfl (.inl rfl)) (fun _ e => by cases e; rfl))
    (dss_cons (ds_asg de_str (dg_nm (i := 5) sc__read_tuple.nd rfl (.inl rfl)) (fun _ e => by cases e; rfl))
    (dss_cons (ds_while po (dt_cmp rfl (co_eq rfl hr) (de_var 5) de_str (by first | exact nomark _ | rfl))
    (dss_cons (ds_asg (de_call tk ih.c__read_from hr0 rfl T.m__read_from T.F__read_from.kp T.b__read_from (da_cons (de_var 0) (da_cons (de_bin (bo_add rfl) (de_var 4) de_int) (da_cons (de_var 2) da_nil))) rfl) (dg_nm (i := 6) sc__read_tuple.nd rfl (.inl rfl)) (fun _ e => by cases e; rfl))
    (dss_cons (ds_if (dt_cmp rfl co_is (de_var 6) de_non (by first | exact nomark _ | rfl))
    (dss_cons (ds_ret de_non)
    dss_nil)
    dss_nil)
    (dss_cons (ds_asg (de_var 6) (dg_tp (n := 2) rfl rfl (dgs_cons (dg_nm (i := 7) sc__read_tuple.nd rfl (.inl rfl)) (dgs_cons (dg_nm (i := 4) sc__read_tuple.nd rfl (.inl rfl)) dgs_nil)) rfl rfl rfl) (fun _ e => by cases e))
    (dss_cons (ds_app rfl (dpl_nm 3 (pv 3)) (de_var 7))
    (dss_cons (ds_asg (de_slice rfl (de_var 0) (do_some (de_var 4)) (do_some (de_bin (bo_add rfl) (de_var 4) de_int))) (dg_nm (i := 5) sc__read_tuple.nd rfl (.inl rfl)) (fun _ e => by cases e; rfl))
    dss_nil))))))
    (dss_cons (ds_if (dt_cmp rfl (co_ne rfl hr) (de_var 5) de_str (by first | exact nomark _ | rfl))
    (dss_cons (ds_ret de_non)
    dss_nil)
    dss_nil)
    (dss_cons (ds_ret (de_tup (da_cons (de_ty (bi_tuple rfl) rfl T.m_tuple b_tuple (da_cons (de_var 3) da_nil)) (da_cons (de_bin (bo_add rfl) (de_var 4) de_int) da_nil))))
    dss_nil))))))))
  exact ⟨_, d.p, d.s⟩
theorem ok__read_plain {n k : Nat} (T : Txt w K mg) (ih : All P w base T n k) : FnOk P w K mg base (L2.CX P w) (k + 2) T.a__read_plain T.fd__read_plain ["text", "end"] (spT prog (ET T) (n + 1) 4) := by
  refine fn_T (N := N__read_plain) (body := b__read_plain) T.F__read_plain sc__read_plain rfl (by decide) fun cdv A outer s H Y hr => ?_
  have hr0 := hr.mono (Nat.le_succ k)
  have hE := enk T
  have tk := takes_of (X := cxOf (L2.CX P w) P w K mg base N__read_plain "_read_plain" (defScope s__read_plain) T.a__read_plain cdv A outer s H Y) rfl rfl rfl rfl
  have po : PassesOwn (model P w) _ _ _ := passes_of (X := cxOf (L2.CX P w) P w K mg base N__read_plain "_read_plain" (defScope s__read_plain) T.a__read_plain cdv A outer s H Y) rfl
  have d : Dss (cxOf (L2.CX P w) P w K mg base N__read_plain "_read_plain" (defScope s__read_plain) T.a__read_plain cdv A outer s H Y) ⟨prog, n, ET T, fun _ => none, fun cls d _ H => Y cls d H⟩ (defBody s__read_plain) b__read_plain _ :=
   (dss_cons (ds_if (dt_cmp rfl (co_eq rfl hr) (de_var 0) de_str (by first | exact nomark _ | rfl))
    (dss_cons (ds_ret (de_tup (da_cons de_bl (da_cons (de_var 1) da_nil))))
    dss_nil)
    dss_nil)
    (dss_cons (ds_if (dt_cmp rfl (co_eq rfl hr) (de_var 0) de_str (by first | exact nomark _ | rfl))
    (dss_cons (ds_ret (de_tup (da_cons de_bl (da_cons (de_var 1) da_nil))))
    dss_nil)
    dss_nil)
    (dss_cons (ds_if (dt_cmp rfl (co_eq rfl hr) (de_var 0) de_str (by first | exact nomark _ | rfl))
    (dss_cons (ds_ret (de_tup (da_cons de_non (da_cons (de_var 1) da_nil))))
    dss_nil)
    dss_nil)
    (dss_cons (ds_if (dt_truth rfl (de_call tk ih.c__consists_of hr0 rfl T.m__consists_of T.F__consists_of.kp T.b__consists_of (da_cons (de_var 0) (da_cons (de_glob (v := .str "abcdefghijklmnopqrstuvwxyz") rfl T.m_LETTERS ⟨_, rfl⟩ (fun _ _ => .str _)) da_nil)) rfl))
    (dss_cons (ds_ret (de_tup (da_cons (de_var 0) (da_cons (de_var 1) da_nil))))
    dss_nil)
    dss_nil)
    (dss_cons (ds_if (dt_truth rfl (de_call tk ih.c__is_integer_text hr0 rfl T.m__is_integer_text T.F__is_integer_text.kp T.b__is_integer_text (da_cons (de_var 0) da_nil) rfl))
    (dss_cons (ds_ret (de_tup (da_cons (de_ty bi_int rfl T.m_int b_int (da_cons (de_var 0) da_nil)) (da_cons (de_var 1) da_nil))))
    dss_nil)
    dss_nil)
    (dss_cons (ds_ret de_non)
    dss_nil))))))
  exact ⟨_, d.p, d.s⟩
theorem ok__is_integer_text {n k : Nat} (T : Txt w K mg) (ih : All P w base T n k) : FnOk P w K mg base (L2.CX P w) (k + 2) T.a__is_integer_text T.fd__is_integer_text ["text"] (spT prog (ET T) (n + 1) 5) := by
  refine fn_T (N := N__is_integer_text) (body := b__is_integer_text) T.F__is_integer_text sc__is_integer_text rfl (by decide) fun cdv A outer s H Y hr => ?_
  have hr0 := hr.mono (Nat.le_succ k)
  have hE := enk T
  have tk := takes_of (X := cxOf (L2.CX P w) P w K mg base N__is_integer_text "_is_integer_text" (defScope s__is_integer_text) T.a__is_integer_text cdv A outer s H Y) rfl rfl rfl rfl
  have po : PassesOwn (model P w) _ _ _ := passes_of (X := cxOf (L2.CX P w) P w K mg base N__is_integer_text "_is_integer_text" (defScope s__is_integer_text) T.a__is_integer_text cdv A outer s H Y) rfl
  have d : Dss (cxOf (L2.CX P w) P w K mg base N__is_integer_text "_is_integer_text" (defScope s__is_integer_text) T.a__is_integer_text cdv A outer s H Y) ⟨prog, n, ET T, fun _ => none, fun cls d _ H => Y cls d H⟩ (defBody s__is_integer_text) b__is_integer_text _ :=
   (dss_cons (ds_asg (de_rmpre rfl (de_var 0) de_str) (dg_nm (i := 1) sc__is_integer_text.nd rfl (.inl rfl)) (fun _ e => by cases e; rfl))
    (dss_cons (ds_if (dt_w (dw_or (dt_not (dt_truth rfl (de_call tk ih.c__consists_of hr0 rfl T.m__consists_of T.F__consists_of.kp T.b__consists_of (da_cons (de_var 1) (da_cons (de_glob (v := .str "0123456789") rfl T.m_DIGITS ⟨_, rfl⟩ (fun _ _ => .str _)) da_nil)) rfl))) (dw_or1 (dt_cmp rfl co_gt (de_bi (bi_len rfl) rfl T.m_len b_len (da_cons (de_var 1) da_nil)) (de_glob (v := .int 20) rfl T.m_MOST_DIGITS ⟨_, rfl⟩ (fun _ _ => .int _)) (by first | exact nomark _ | rfl)))))
    (dss_cons (ds_ret de_bl)
    dss_nil)
    dss_nil)
    (dss_cons (ds_ret (de_cmp rfl (co_eq rfl hr) (de_ty bi_str rfl T.m_str b_str (da_cons (de_ty bi_int rfl T.m_int b_int (da_cons (de_var 0) da_nil)) da_nil)) (de_var 0) (by first | exact nomark _ | rfl)))
    dss_nil)))
  exact ⟨_, d.p, d.s⟩
theorem ok__consists_of {n k : Nat} (T : Txt w K mg) (ih : All P w base T n k) : FnOk P w K mg base (L2.CX P w) (k + 2) T.a__consists_of T.fd__consists_of ["text", "characters"] (spT prog (ET T) (n + 1) 6) := by
  refine fn_T (N := N__consists_of) (body := b__consists_of) T.F__consists_of sc__consists_of rfl (by decide) fun cdv A outer s H Y hr => ?_
  have hr0 := hr.mono (Nat.le_succ k)
  have hE := enk T
  have tk := takes_of (X := cxOf (L2.CX P w) P w K mg base N__consists_of "_consists_of" (defScope s__consists_of) T.a__consists_of cdv A outer s H Y) rfl rfl rfl rfl
  have po : PassesOwn (model P w) _ _ _ := passes_of (X := cxOf (L2.CX P w) P w K mg base N__consists_of "_consists_of" (defScope s__consists_of) T.a__consists_of cdv A outer s H Y) rfl
  have d : Dss (cxOf (L2.CX P w) P w K mg base N__consists_of "_consists_of" (defScope s__consists_of) T.a__consists_of cdv A outer s H Y) ⟨prog, n, ET T, fun _ => none, fun cls d _ H => Y cls d H⟩ (defBody s__consists_of) b__consists_of _ :=
   (dss_cons (ds_ret (de_and (de_cmp rfl (co_ne rfl hr) (de_var 0) de_str (by first | exact nomark _ | rfl)) (de_one (de_bi (bi_all rfl) rfl T.m_all b_all (da_cons (de_lcD rfl sc__consists_of.nd (blkOk_by (own := [("each", 2)]) (N := N__consists_of) (sc := defScope s__consists_of) (by decide +kernel)) (dic_of (di_chars (de_var 0))) (fun _ _ _ _ _ => (dg_nm (i := 2) sc__consists_of.nd rfl (.inl rfl))) (fun _ _ _ _ _ => dts_nil) (fun _ _ _ _ _ => (de_cmp rfl (co_in rfl hr) (de_var 2) (de_var 1) (by first | exact nomark _ | rfl))) rfl) da_nil)))))
    dss_nil)
  exact ⟨_, d.p, d.s⟩
theorem ok__law_number {n k : Nat} (T : Txt w K mg) (ih : All P w base T n k) : FnOk P w K mg base (L2.CX P w) (k + 2) T.a__law_number T.fd__law_number ["script", "k"] (spT prog (ET T) (n + 1) 7) := by
  refine fn_T (N := N__law_number) (body := b__law_number) T.F__law_number sc__law_number rfl (by decide) fun cdv A outer s H Y hr => ?_
  have hr0 := hr.mono (Nat.le_succ k)
  have hE := enk T
  have tk := takes_of (X := cxOf (L2.CX P w) P w K mg base N__law_number "_law_number" (defScope s__law_number) T.a__law_number cdv A outer s H Y) rfl rfl rfl rfl
  have po : PassesOwn (model P w) _ _ _ := passes_of (X := cxOf (L2.CX P w) P w K mg base N__law_number "_law_number" (defScope s__law_number) T.a__law_number cdv A outer s H Y) rfl
  have d : Dss (cxOf (L2.CX P w) P w K mg base N__law_number "_law_number" (defScope s__law_number) T.a__law_number cdv A outer s H Y) ⟨prog, n, ET T, fun _ => none, fun cls d _ H => Y cls d H⟩ (defBody s__law_number) b__law_number _ :=
   (dss_cons (ds_asg de_int (dg_nm (i := 2) sc__law_number.nd rfl (.inl rfl)) (fun _ e => by cases e; rfl))
    (dss_cons (ds_if (dt_cmp rfl co_lt (de_var 1) (de_bi (bi_len rfl) rfl T.m_len b_len (da_cons (de_var 0) da_nil)) (by first | exact nomark _ | rfl))
    (dss_cons (ds_asg (de_idx rfl rfl hr (de_var 0) (de_var 1) (fun _ _ => rfl)) (dg_nm (i := 2) sc__law_number.nd rfl (.inl rfl)) (fun _ e => by cases e; rfl))
    dss_nil)
    dss_nil)
    (dss_cons (ds_if (dt_cmp rfl co_lt (de_var 2) de_int (by first | exact nomark _ | rfl))
    (dss_cons (ds_asg (de_bin bo_sub (de_bin bo_sub de_int (de_bin bo_mul de_int (de_var 2))) de_int) (dg_nm (i := 2) sc__law_number.nd rfl (.inl rfl)) (fun _ e => by cases e; rfl))
    dss_nil)
    dss_nil)
    (dss_cons (ds_if (dt_cmp rfl co_ge (de_var 2) (de_bin bo_pow de_int de_int) (by first | exact nomark _ | rfl))
    (dss_cons (ds_retV (pv 2))
    dss_nil)
    dss_nil)
    (dss_cons (ds_asg (de_bin bo_mod (de_ty bi_int rfl T.m_int b_int (da_cons (de_bin (bo_add rfl) (de_bin (bo_add rfl) (de_bin bo_mul (de_var 2) de_int) (de_bin bo_mul (de_var 1) de_int)) de_int) da_nil)) de_int) (dg_nm (i := 3) sc__law_number.nd rfl (.inl rfl)) (fun _ e => by cases e; rfl))
    (dss_cons (ds_asg (de_bin bo_mod (de_ty bi_int rfl T.m_int b_int (da_cons (de_bin (bo_add rfl) (de_bin (bo_add rfl) (de_bin bo_mul (de_var 3) de_int) (de_bin bo_mul (de_var 1) de_int)) de_int) da_nil)) de_int) (dg_nm (i := 3) sc__law_number.nd rfl (.inl rfl)) (fun _ e => by cases e; rfl))
    (dss_cons (ds_asg (de_bin bo_mod (de_ty bi_int rfl T.m_int b_int (da_cons (de_bin (bo_add rfl) (de_bin (bo_add rfl) (de_bin bo_mul (de_var 3) de_int) (de_bin bo_mul (de_var 1) de_int)) (de_var 2)) da_nil)) de_int) (dg_nm (i := 4) sc__law_number.nd rfl (.inl rfl)) (fun _ e => by cases e; rfl))
    (dss_cons (ds_asg (de_bin bo_mod (de_ty bi_int rfl T.m_int b_int (da_cons (de_bin (bo_add rfl) (de_bin bo_mul (de_var 4) de_int) de_int) da_nil)) de_int) (dg_nm (i := 4) sc__law_number.nd rfl (.inl rfl)) (fun _ e => by cases e; rfl))
    (dss_cons (ds_ret (de_bin (bo_add rfl) (de_bin bo_mul (de_var 3) de_int) (de_var 4)))
    dss_nil)))))))))
  exact ⟨_, d.p, d.s⟩
theorem ok__law_same {n k : Nat} (T : Txt w K mg) (ih : All P w base T n k) : FnOk P w K mg base (L2.CX P w) (k + 2) T.a__law_same T.fd__law_same ["one", "two"] (spT prog (ET T) (n + 1) 8) := by
  refine fn_T (N := N__law_same) (body := b__law_same) T.F__law_same sc__law_same rfl (by decide) fun cdv A outer s H Y hr => ?_
  have hr0 := hr.mono (Nat.le_succ k)
  have hE := enk T
  have tk := takes_of (X := cxOf (L2.CX P w) P w K mg base N__law_same "_law_same" (defScope s__law_same) T.a__law_same cdv A outer s H Y) rfl rfl rfl rfl
  have po : PassesOwn (model P w) _ _ _ := passes_of (X := cxOf (L2.CX P w) P w K mg base N__law_same "_law_same" (defScope s__law_same) T.a__law_same cdv A outer s H Y) rfl
  have d : Dss (cxOf (L2.CX P w) P w K mg base N__law_same "_law_same" (defScope s__law_same) T.a__law_same cdv A outer s H Y) ⟨prog, n, ET T, fun _ => none, fun cls d _ H => Y cls d H⟩ (defBody s__law_same) b__law_same _ :=
   (dss_cons (ds_if (dt_truth rfl (de_isi rfl rfl rfl T.m_isinstance b_isinstance rfl T.m_tuple b_tuple (de_var 0)))
    (dss_cons (ds_if (dt_w (dw_or (dt_not (dt_truth rfl (de_isi rfl rfl rfl T.m_isinstance b_isinstance rfl T.m_tuple b_tuple (de_var 1)))) (dw_or1 (dt_cmp rfl (co_ne rfl hr) (de_bi (bi_len rfl) rfl T.m_len b_len (da_cons (de_var 0) da_nil)) (de_bi (bi_len rfl) rfl T.m_len b_len (da_cons (de_var 1) da_nil)) (by first | exact nomark _ | rfl)))))
    (dss_cons (ds_ret de_bl)
    dss_nil)
    dss_nil)
    (dss_cons (ds_ret (de_bi (bi_all rfl) rfl T.m_all b_all (da_cons (de_lcD rfl sc__law_same.nd (blkOk_by (own := [("k", 2)]) (N := N__law_same) (sc := defScope s__law_same) (by decide +kernel)) (dic_of (di_range rfl T.m_range (de_bi (bi_len rfl) rfl T.m_len b_len (da_cons (de_var 0) da_nil)))) (fun _ _ _ _ _ => (dg_nm (i := 2) sc__law_same.nd rfl (.inl rfl))) (fun _ _ _ _ _ => dts_nil) (fun _ _ _ _ _ => (de_call takes0 ih.c__law_same hr0 rfl T.m__law_same T.F__law_same.kp T.b__law_same (da_cons (de_idx rfl rfl hr (de_var 0) (de_var 2) (fun _ _ => rfl)) (da_cons (de_idx rfl rfl hr (de_var 1) (de_var 2) (fun _ _ => rfl)) da_nil)) rfl)) rfl) da_nil)))
    dss_nil))
    dss_nil)
    (dss_cons (ds_if (dt_cmp rfl co_is (de_var 0) de_non (by first | exact nomark _ | rfl))
    (dss_cons (ds_ret (de_cmp rfl co_is (de_var 1) de_non (by first | exact nomark _ | rfl)))
    dss_nil)
    dss_nil)
    (dss_cons (ds_if (dt_truth rfl (de_isi rfl rfl rfl T.m_isinstance b_isinstance rfl T.m_bool b_bool (de_var 0)))
    (dss_cons (ds_ret (de_and (de_isi rfl rfl rfl T.m_isinstance b_isinstance rfl T.m_bool b_bool (de_var 1)) (de_one (de_cmp rfl (co_eq rfl hr) (de_var 0) (de_var 1) (by first | exact nomark _ | rfl)))))
    dss_nil)
    dss_nil)
    (dss_cons (ds_if (dt_truth rfl (de_isi rfl rfl rfl T.m_isinstance b_isinstance rfl T.m_str b_str (de_var 0)))
    (dss_cons (ds_ret (de_and (de_isi rfl rfl rfl T.m_isinstance b_isinstance rfl T.m_str b_str (de_var 1)) (de_one (de_cmp rfl (co_eq rfl hr) (de_var 0) (de_var 1) (by first | exact nomark _ | rfl)))))
    dss_nil)
    dss_nil)
    (dss_cons (ds_ret (de_and (de_isi rfl rfl rfl T.m_isinstance b_isinstance rfl T.m_int b_int (de_var 1)) (de_and (de_not (de_isi rfl rfl rfl T.m_isinstance b_isinstance rfl T.m_bool b_bool (de_var 1))) (de_one (de_cmp rfl (co_eq rfl hr) (de_var 0) (de_var 1) (by first | exact nomark _ | rfl))))))
    dss_nil)))))
  exact ⟨_, d.p, d.s⟩
theorem ok__law_tree {n k : Nat} (T : Txt w K mg) (ih : All P w base T n k) : FnOk P w K mg base (L2.CX P w) (k + 2) T.a__law_tree T.fd__law_tree ["number", "deep"] (spT prog (ET T) (n + 1) 9) := by
  refine fn_T (N := N__law_tree) (body := b__law_tree) T.F__law_tree sc__law_tree rfl (by decide) fun cdv A outer s H Y hr => ?_
  have hr0 := hr.mono (Nat.le_succ k)
  have hE := enk T
  have tk := takes_of (X := cxOf (L2.CX P w) P w K mg base N__law_tree "_law_tree" (defScope s__law_tree) T.a__law_tree cdv A outer s H Y) rfl rfl rfl rfl
  have po : PassesOwn (model P w) _ _ _ := passes_of (X := cxOf (L2.CX P w) P w K mg base N__law_tree "_law_tree" (defScope s__law_tree) T.a__law_tree cdv A outer s H Y) rfl
  have d : Dss (cxOf (L2.CX P w) P w K mg base N__law_tree "_law_tree" (defScope s__law_tree) T.a__law_tree cdv A outer s H Y) ⟨prog, n, ET T, fun _ => none, fun cls d _ H => Y cls d H⟩ (defBody s__law_tree) b__law_tree _ :=
   (dss_cons (ds_asg (de_bin bo_mod (de_ty bi_int rfl T.m_int b_int (da_cons (de_var 0) da_nil)) de_int) (dg_nm (i := 2) sc__law_tree.nd rfl (.inl rfl)) (fun _ e => by cases e; rfl))
    (dss_cons (ds_asg (de_bin bo_div (de_ty bi_int rfl T.m_int b_int (da_cons (de_var 0) da_nil)) de_int) (dg_nm (i := 3) sc__law_tree.nd rfl (.inl rfl)) (fun _ e => by cases e; rfl))
    (dss_cons (ds_if (dt_w (dw_and (dt_cmp rfl co_lt (de_var 2) de_int (by first | exact nomark _ | rfl)) (dw_and1 (dt_cmp rfl co_gt (de_var 1) de_int (by first | exact nomark _ | rfl)))))
    (dss_cons (ds_asg (de_lst da_nil) (dg_nm (i := 4) sc__law_tree.nd rfl (.inl rfl)) (fun _ e => by cases e; rfl))
    (dss_cons (ds_for po rfl (di_range rfl T.m_range (de_bin bo_mod (de_ty bi_int rfl T.m_int b_int (da_cons (de_var 3) da_nil)) de_int)) (dg_nm (i := 5) sc__law_tree.nd rfl (.inl rfl))
    (dss_cons (ds_app rfl (dpl_nm 4 (pv 4)) (de_call tk ih.c__law_tree hr0 rfl T.m__law_tree T.F__law_tree.kp T.b__law_tree (da_cons (de_bin bo_div (de_ty bi_int rfl T.m_int b_int (da_cons (de_var 3) da_nil)) (de_bin (bo_add rfl) de_int (de_bin bo_mul de_int (de_var 5)))) (da_cons (de_bin bo_sub (de_var 1) de_int) da_nil)) rfl))
    dss_nil))
    (dss_cons (ds_ret (de_ty (bi_tuple rfl) rfl T.m_tuple b_tuple (da_cons (de_var 4) da_nil)))
    dss_nil)))
    dss_nil)
    (dss_cons (ds_if (dt_cmp rfl (co_eq rfl hr) (de_var 2) de_int (by first | exact nomark _ | rfl))
    (dss_cons (ds_ret (de_idx rfl rfl hr (de_lst (da_cons de_bl (da_cons de_bl (da_cons de_non da_nil)))) (de_bin bo_mod (de_ty bi_int rfl T.m_int b_int (da_cons (de_var 3) da_nil)) de_int) (fun _ _ => rfl)))
    dss_nil)
    dss_nil)
    (dss_cons (ds_if (dt_cmp rfl (co_eq rfl hr) (de_var 2) de_int (by first | exact nomark _ | rfl))
    (dss_cons (ds_ret (de_idx rfl rfl hr (de_lst (da_cons de_str (da_cons de_str (da_cons de_str (da_cons de_str (da_cons de_str (da_cons de_str da_nil))))))) (de_bin bo_mod (de_ty bi_int rfl T.m_int b_int (da_cons (de_var 3) da_nil)) de_int) (fun _ _ => rfl)))
    dss_nil)
    dss_nil)
    (dss_cons (ds_if (dt_cmp rfl (co_eq rfl hr) (de_var 2) de_int (by first | exact nomark _ | rfl))
    (dss_cons (ds_ret (de_bin bo_sub de_int (de_bin bo_mod (de_ty bi_int rfl T.m_int b_int (da_cons (de_var 3) da_nil)) de_int)))
    dss_nil)
    dss_nil)
    (dss_cons (ds_if (dt_cmp rfl (co_eq rfl hr) (de_var 2) de_int (by first | exact nomark _ | rfl))
    (dss_cons (ds_ret (de_bin bo_mod (de_ty bi_int rfl T.m_int b_int (da_cons (de_var 3) da_nil)) (de_bin bo_pow de_int de_int)))
    dss_nil)
    dss_nil)
    (dss_cons (ds_ret (de_bin bo_mod (de_ty bi_int rfl T.m_int b_int (da_cons (de_var 3) da_nil)) de_int))
    dss_nil))))))))
  exact ⟨_, d.p, d.s⟩
theorem ok__law_text {n k : Nat} (T : Txt w K mg) (ih : All P w base T n k) : FnOk P w K mg base (L2.CX P w) (k + 2) T.a__law_text T.fd__law_text ["tree"] (spT prog (ET T) (n + 1) 10) := by
  refine fn_T (N := N__law_text) (body := b__law_text) T.F__law_text sc__law_text rfl (by decide) fun cdv A outer s H Y hr => ?_
  have hr0 := hr.mono (Nat.le_succ k)
  have hE := enk T
  have tk := takes_of (X := cxOf (L2.CX P w) P w K mg base N__law_text "_law_text" (defScope s__law_text) T.a__law_text cdv A outer s H Y) rfl rfl rfl rfl
  have po : PassesOwn (model P w) _ _ _ := passes_of (X := cxOf (L2.CX P w) P w K mg base N__law_text "_law_text" (defScope s__law_text) T.a__law_text cdv A outer s H Y) rfl
  have d : Dss (cxOf (L2.CX P w) P w K mg base N__law_text "_law_text" (defScope s__law_text) T.a__law_text cdv A outer s H Y) ⟨prog, n, ET T, fun _ => none, fun cls d _ H => Y cls d H⟩ (defBody s__law_text) b__law_text _ :=
   (dss_cons (ds_if (dt_truth rfl (de_isi rfl rfl rfl T.m_isinstance b_isinstance rfl T.m_tuple b_tuple (de_var 0)))
    (dss_cons (ds_asg de_str (dg_nm (i := 1) sc__law_text.nd rfl (.inl rfl)) (fun _ e => by cases e; rfl))
    (dss_cons (ds_for po rfl (di_range rfl T.m_range (de_bi (bi_len rfl) rfl T.m_len b_len (da_cons (de_var 0) da_nil))) (dg_nm (i := 2) sc__law_text.nd rfl (.inl rfl))
    (dss_cons (ds_if (dt_cmp rfl co_gt (de_var 2) de_int (by first | exact nomark _ | rfl))
    (dss_cons (ds_asg (de_bin (bo_add rfl) (de_var 1) de_str) (dg_nm (i := 1) sc__law_text.nd rfl (.inl rfl)) (fun _ e => by cases e; rfl))
    dss_nil)
    dss_nil)
    (dss_cons (ds_asg (de_bin (bo_add rfl) (de_var 1) (de_call tk ih.c__law_text hr0 rfl T.m__law_text T.F__law_text.kp T.b__law_text (da_cons (de_idx rfl rfl hr (de_var 0) (de_var 2) (fun _ _ => rfl)) da_nil) rfl)) (dg_nm (i := 1) sc__law_text.nd rfl (.inl rfl)) (fun _ e => by cases e; rfl))
    dss_nil)))
    (dss_cons (ds_ret (de_bin (bo_add rfl) (de_var 1) de_str))
    dss_nil)))
    dss_nil)
    (dss_cons (ds_if (dt_cmp rfl co_is (de_var 0) de_non (by first | exact nomark _ | rfl))
    (dss_cons (ds_ret de_str)
    dss_nil)
    dss_nil)
    (dss_cons (ds_if (dt_cmp rfl co_is (de_var 0) de_bl (by first | exact nomark _ | rfl))
    (dss_cons (ds_ret de_str)
    dss_nil)
    dss_nil)
    (dss_cons (ds_if (dt_cmp rfl co_is (de_var 0) de_bl (by first | exact nomark _ | rfl))
    (dss_cons (ds_ret de_str)
    dss_nil)
    dss_nil)
    (dss_cons (ds_if (dt_truth rfl (de_isi rfl rfl rfl T.m_isinstance b_isinstance rfl T.m_str b_str (de_var 0)))
    (dss_cons (ds_retV (pv 0))
    dss_nil)
    dss_nil)
    (dss_cons (ds_if (dt_cmp rfl co_lt (de_var 0) de_int (by first | exact nomark _ | rfl))
    (dss_cons (ds_ret (de_bin (bo_add rfl) de_str (de_call tk ih.c__law_text hr0 rfl T.m__law_text T.F__law_text.kp T.b__law_text (da_cons (de_bin bo_sub de_int (de_var 0)) da_nil) rfl)))
    dss_nil)
    dss_nil)
    (dss_cons (ds_asg (de_idx rfl rfl hr de_str (de_bin bo_mod (de_ty bi_int rfl T.m_int b_int (da_cons (de_var 0) da_nil)) de_int) (fun _ _ => rfl)) (dg_nm (i := 3) sc__law_text.nd rfl (.inl rfl)) (fun _ e => by cases e; rfl))
    (dss_cons (ds_asg (de_bin bo_div (de_ty bi_int rfl T.m_int b_int (da_cons (de_var 0) da_nil)) de_int) (dg_nm (i := 0) sc__law_text.nd rfl (.inl rfl)) (fun _ e => by cases e; rfl))
    (dss_cons (ds_while po (dt_cmp rfl co_gt (de_var 0) de_int (by first | exact nomark _ | rfl))
    (dss_cons (ds_asg (de_bin (bo_add rfl) (de_idx rfl rfl hr de_str (de_bin bo_mod (de_ty bi_int rfl T.m_int b_int (da_cons (de_var 0) da_nil)) de_int) (fun _ _ => rfl)) (de_var 3)) (dg_nm (i := 3) sc__law_text.nd rfl (.inl rfl)) (fun _ e => by cases e; rfl))
    (dss_cons (ds_asg (de_bin bo_div (de_ty bi_int rfl T.m_int b_int (da_cons (de_var 0) da_nil)) de_int) (dg_nm (i := 0) sc__law_text.nd rfl (.inl rfl)) (fun _ e => by cases e; rfl))
    dss_nil)))
    (dss_cons (ds_retV (pv 3))
    dss_nil))))))))))
  exact ⟨_, d.p, d.s⟩
theorem ok_law {n k : Nat} (T : Txt w K mg) (ih : All P w base T n k) : FnOk P w K mg base (L2.CX P w) (k + 2) T.a_law T.fd_law ["script"] (spT prog (ET T) (n + 1) 11) := by
  refine fn_T (N := N_law) (body := b_law) T.F_law sc_law rfl (by decide) fun cdv A outer s H Y hr => ?_
  have hr0 := hr.mono (Nat.le_succ k)
  have hE := enk T
  have tk := takes_of (X := cxOf (L2.CX P w) P w K mg base N_law "law" (defScope s_law) T.a_law cdv A outer s H Y) rfl rfl rfl rfl
  have po : PassesOwn (model P w) _ _ _ := passes_of (X := cxOf (L2.CX P w) P w K mg base N_law "law" (defScope s_law) T.a_law cdv A outer s H Y) rfl
  have d : Dss (cxOf (L2.CX P w) P w K mg base N_law "law" (defScope s_law) T.a_law cdv A outer s H Y) ⟨prog, n, ET T, fun _ => none, fun cls d _ H => Y cls d H⟩ (defBody s_law) b_law _ :=
   (dss_cons (ds_for po rfl (di_range rfl T.m_range de_int) (dg_nm (i := 1) sc_law.nd rfl (.inl rfl))
    (dss_cons (ds_asg (de_call tk ih.c__law_tree hr0 rfl T.m__law_tree T.F__law_tree.kp T.b__law_tree (da_cons (de_call tk ih.c__law_number hr0 rfl T.m__law_number T.F__law_number.kp T.b__law_number (da_cons (de_var 0) (da_cons (de_var 1) da_nil)) rfl) (da_cons de_int da_nil)) rfl) (dg_nm (i := 2) sc_law.nd rfl (.inl rfl)) (fun _ e => by cases e; rfl))
    (dss_cons (ds_asg (de_call tk ih.c__law_text hr0 rfl T.m__law_text T.F__law_text.kp T.b__law_text (da_cons (de_var 2) da_nil) rfl) (dg_nm (i := 3) sc_law.nd rfl (.inl rfl)) (fun _ e => by cases e; rfl))
    (dss_cons (ds_asg (de_call tk ih.c_write_tree hr0 rfl T.m_write_tree T.F_write_tree.kp T.b_write_tree (da_cons (de_var 2) da_nil) rfl) (dg_nm (i := 4) sc_law.nd rfl (.inl rfl)) (fun _ e => by cases e; rfl))
    (dss_cons (ds_if (dt_w (dw_or (dt_not (dt_truth rfl (de_isi rfl rfl rfl T.m_isinstance b_isinstance rfl T.m_str b_str (de_var 4)))) (dw_or1 (dt_cmp rfl (co_ne rfl hr) (de_var 4) (de_var 3) (by first | exact nomark _ | rfl)))))
    (dss_cons (ds_ret de_bl)
    dss_nil)
    dss_nil)
    (dss_cons (ds_if (dt_w (dw_or (dt_not (dt_truth rfl (de_call tk ih.c__law_same hr0 rfl T.m__law_same T.F__law_same.kp T.b__law_same (da_cons (de_var 2) (da_cons (de_callD tk ih.c_read_tree hr0 rfl T.m_read_tree T.F_read_tree.kp T.bd_read_tree T.bv_read_tree (.cons (fun _ _ => .int _) .nil) (da_cons (de_var 3) da_nil) rfl rfl) da_nil)) rfl))) (dw_or1 (dt_not (dt_truth rfl (de_call tk ih.c__law_same hr0 rfl T.m__law_same T.F__law_same.kp T.b__law_same (da_cons (de_tup (da_cons (de_var 2) (da_cons (de_var 2) da_nil))) (da_cons (de_callK tk ih.c_read_tree hr0 rfl T.m_read_tree T.F_read_tree.kp T.kb_read_tree (dak_cons (de_bin (bo_add rfl) (de_bin (bo_add rfl) (de_bin (bo_add rfl) (de_bin (bo_add rfl) de_str (de_var 3)) de_str) (de_var 3)) de_str) (dak_nil (dk_cons (de_var 1) dk_nil))) rfl rfl) da_nil)) rfl))))))
    (dss_cons (ds_ret de_bl)
    dss_nil)
    dss_nil)
    dss_nil))))))
    (dss_cons (ds_ret de_bl)
    dss_nil))
  exact ⟨_, d.p, d.s⟩
theorem all_0 (T : Txt w K mg) : All P w base T 0 0 := ⟨fn_0, fn_0, fn_0, fn_0, fn_0, fn_0, fn_0, fn_0, fn_0, fn_0, fn_0, fn_0⟩
theorem all_n (T : Txt w K mg) : ∀ n, All P w base T n (2 * n)
  | 0 => all_0 T
  | n + 1 => have ih := all_n T n
    ⟨ok_write_tree T ih, ok_read_tree T ih, ok__read_from T ih, ok__read_tuple T ih, ok__read_plain T ih, ok__is_integer_text T ih, ok__consists_of T ih, ok__law_number T ih, ok__law_same T ih, ok__law_tree T ih, ok__law_text T ih, ok_law T ih⟩
end
/-- what the law promises over its script -/
theorem law_pure (ns : List Int) (h : ns.length ≤ 63) : ∃ st', prog.call 40 f_law [.c .scr (.l (ns.map .int))] [] [] = some (.ok (.d (.bl true)) st') := by
  exact law_pureX (n := 20) ns
theorem all_mk {l : PySem.W.OpenLaw} {w : World} {K : PySem.W.Frag} {h : Heap} {mg : Str → Option Value} {fa f_write_tree f_read_tree f__read_from f__read_tuple f__read_plain f__is_integer_text f__consists_of f__law_number f__law_same f__law_tree f__law_text f_law D_read_tree : Addr} (X : K.In h) (G : h.Ns mainGlobals mg) (hfa : mg "law" = some (.ref fa))
    {od_write_tree an_write_tree : Option Addr} {sl_write_tree : Array (Option Value)} {oc_write_tree dc_write_tree pm_write_tree cd_write_tree ct_write_tree : Value}
    {kV_write_tree : Value}
    {od_read_tree an_read_tree : Option Addr} {sl_read_tree : Array (Option Value)} {oc_read_tree dc_read_tree pm_read_tree cd_read_tree ct_read_tree : Value}
    {od__read_from an__read_from : Option Addr} {sl__read_from : Array (Option Value)} {oc__read_from dc__read_from pm__read_from cd__read_from ct__read_from : Value}
    {kV__read_from : Value}
    {od__read_tuple an__read_tuple : Option Addr} {sl__read_tuple : Array (Option Value)} {oc__read_tuple dc__read_tuple pm__read_tuple cd__read_tuple ct__read_tuple : Value}
    {kV__read_tuple : Value}
    {od__read_plain an__read_plain : Option Addr} {sl__read_plain : Array (Option Value)} {oc__read_plain dc__read_plain pm__read_plain cd__read_plain ct__read_plain : Value}
    {kV__read_plain : Value}
    {od__is_integer_text an__is_integer_text : Option Addr} {sl__is_integer_text : Array (Option Value)} {oc__is_integer_text dc__is_integer_text pm__is_integer_text cd__is_integer_text ct__is_integer_text : Value}
    {kV__is_integer_text : Value}
    {od__consists_of an__consists_of : Option Addr} {sl__consists_of : Array (Option Value)} {oc__consists_of dc__consists_of pm__consists_of cd__consists_of ct__consists_of : Value}
    {kV__consists_of : Value}
    {od__law_number an__law_number : Option Addr} {sl__law_number : Array (Option Value)} {oc__law_number dc__law_number pm__law_number cd__law_number ct__law_number : Value}
    {kV__law_number : Value}
    {od__law_same an__law_same : Option Addr} {sl__law_same : Array (Option Value)} {oc__law_same dc__law_same pm__law_same cd__law_same ct__law_same : Value}
    {kV__law_same : Value}
    {od__law_tree an__law_tree : Option Addr} {sl__law_tree : Array (Option Value)} {oc__law_tree dc__law_tree pm__law_tree cd__law_tree ct__law_tree : Value}
    {kV__law_tree : Value}
    {od__law_text an__law_text : Option Addr} {sl__law_text : Array (Option Value)} {oc__law_text dc__law_text pm__law_text cd__law_text ct__law_text : Value}
    {kV__law_text : Value}
    {od_law an_law : Option Addr} {sl_law : Array (Option Value)} {oc_law dc_law pm_law cd_law ct_law : Value}
    {kV_law : Value}
    {t_DIGITS : Tok}
    {t_LETTERS : Tok}
    {t_MOST_DEPTH : Tok}
    {t_MOST_DIGITS : Tok}
    (g_write_tree : PySem.W.nsIn K mainGlobals "write_tree" = some (some (.ref f_write_tree)))
    (l_write_tree : K.lookup f_write_tree = some ⟨oc_write_tree, od_write_tree, .func (PySem.W.fnOf "write_tree" "write_tree" (defArgs s_write_tree) (defBody s_write_tree) (defScope s_write_tree) .none kV_write_tree dc_write_tree pm_write_tree an_write_tree cd_write_tree ct_write_tree), sl_write_tree⟩)
    (c_write_tree : PySem.W.codeIn K cd_write_tree "write_tree" = true) (k_write_tree : PySem.W.keepIn K (.ref f_write_tree) = true)
    (g_read_tree : PySem.W.nsIn K mainGlobals "read_tree" = some (some (.ref f_read_tree)))
    (l_read_tree : K.lookup f_read_tree = some ⟨oc_read_tree, od_read_tree, .func (PySem.W.fnOf "read_tree" "read_tree" (defArgs s_read_tree) (defBody s_read_tree) (defScope s_read_tree) .none (.ref D_read_tree) dc_read_tree pm_read_tree an_read_tree cd_read_tree ct_read_tree), sl_read_tree⟩)
    (c_read_tree : PySem.W.codeIn K cd_read_tree "read_tree" = true) (k_read_tree : PySem.W.keepIn K (.ref f_read_tree) = true)
    {t_read_tree_line : Tok} (q_read_tree_line : PySem.W.nsIn K D_read_tree "line" = some (some (.int 1 t_read_tree_line)))
    (g__read_from : PySem.W.nsIn K mainGlobals "_read_from" = some (some (.ref f__read_from)))
    (l__read_from : K.lookup f__read_from = some ⟨oc__read_from, od__read_from, .func (PySem.W.fnOf "_read_from" "_read_from" (defArgs s__read_from) (defBody s__read_from) (defScope s__read_from) .none kV__read_from dc__read_from pm__read_from an__read_from cd__read_from ct__read_from), sl__read_from⟩)
    (c__read_from : PySem.W.codeIn K cd__read_from "_read_from" = true) (k__read_from : PySem.W.keepIn K (.ref f__read_from) = true)
    (g__read_tuple : PySem.W.nsIn K mainGlobals "_read_tuple" = some (some (.ref f__read_tuple)))
    (l__read_tuple : K.lookup f__read_tuple = some ⟨oc__read_tuple, od__read_tuple, .func (PySem.W.fnOf "_read_tuple" "_read_tuple" (defArgs s__read_tuple) (defBody s__read_tuple) (defScope s__read_tuple) .none kV__read_tuple dc__read_tuple pm__read_tuple an__read_tuple cd__read_tuple ct__read_tuple), sl__read_tuple⟩)
    (c__read_tuple : PySem.W.codeIn K cd__read_tuple "_read_tuple" = true) (k__read_tuple : PySem.W.keepIn K (.ref f__read_tuple) = true)
    (g__read_plain : PySem.W.nsIn K mainGlobals "_read_plain" = some (some (.ref f__read_plain)))
    (l__read_plain : K.lookup f__read_plain = some ⟨oc__read_plain, od__read_plain, .func (PySem.W.fnOf "_read_plain" "_read_plain" (defArgs s__read_plain) (defBody s__read_plain) (defScope s__read_plain) .none kV__read_plain dc__read_plain pm__read_plain an__read_plain cd__read_plain ct__read_plain), sl__read_plain⟩)
    (c__read_plain : PySem.W.codeIn K cd__read_plain "_read_plain" = true) (k__read_plain : PySem.W.keepIn K (.ref f__read_plain) = true)
    (g__is_integer_text : PySem.W.nsIn K mainGlobals "_is_integer_text" = some (some (.ref f__is_integer_text)))
    (l__is_integer_text : K.lookup f__is_integer_text = some ⟨oc__is_integer_text, od__is_integer_text, .func (PySem.W.fnOf "_is_integer_text" "_is_integer_text" (defArgs s__is_integer_text) (defBody s__is_integer_text) (defScope s__is_integer_text) .none kV__is_integer_text dc__is_integer_text pm__is_integer_text an__is_integer_text cd__is_integer_text ct__is_integer_text), sl__is_integer_text⟩)
    (c__is_integer_text : PySem.W.codeIn K cd__is_integer_text "_is_integer_text" = true) (k__is_integer_text : PySem.W.keepIn K (.ref f__is_integer_text) = true)
    (g__consists_of : PySem.W.nsIn K mainGlobals "_consists_of" = some (some (.ref f__consists_of)))
    (l__consists_of : K.lookup f__consists_of = some ⟨oc__consists_of, od__consists_of, .func (PySem.W.fnOf "_consists_of" "_consists_of" (defArgs s__consists_of) (defBody s__consists_of) (defScope s__consists_of) .none kV__consists_of dc__consists_of pm__consists_of an__consists_of cd__consists_of ct__consists_of), sl__consists_of⟩)
    (c__consists_of : PySem.W.codeIn K cd__consists_of "_consists_of" = true) (k__consists_of : PySem.W.keepIn K (.ref f__consists_of) = true)
    (g__law_number : PySem.W.nsIn K mainGlobals "_law_number" = some (some (.ref f__law_number)))
    (l__law_number : K.lookup f__law_number = some ⟨oc__law_number, od__law_number, .func (PySem.W.fnOf "_law_number" "_law_number" (defArgs s__law_number) (defBody s__law_number) (defScope s__law_number) .none kV__law_number dc__law_number pm__law_number an__law_number cd__law_number ct__law_number), sl__law_number⟩)
    (c__law_number : PySem.W.codeIn K cd__law_number "_law_number" = true) (k__law_number : PySem.W.keepIn K (.ref f__law_number) = true)
    (g__law_same : PySem.W.nsIn K mainGlobals "_law_same" = some (some (.ref f__law_same)))
    (l__law_same : K.lookup f__law_same = some ⟨oc__law_same, od__law_same, .func (PySem.W.fnOf "_law_same" "_law_same" (defArgs s__law_same) (defBody s__law_same) (defScope s__law_same) .none kV__law_same dc__law_same pm__law_same an__law_same cd__law_same ct__law_same), sl__law_same⟩)
    (c__law_same : PySem.W.codeIn K cd__law_same "_law_same" = true) (k__law_same : PySem.W.keepIn K (.ref f__law_same) = true)
    (g__law_tree : PySem.W.nsIn K mainGlobals "_law_tree" = some (some (.ref f__law_tree)))
    (l__law_tree : K.lookup f__law_tree = some ⟨oc__law_tree, od__law_tree, .func (PySem.W.fnOf "_law_tree" "_law_tree" (defArgs s__law_tree) (defBody s__law_tree) (defScope s__law_tree) .none kV__law_tree dc__law_tree pm__law_tree an__law_tree cd__law_tree ct__law_tree), sl__law_tree⟩)
    (c__law_tree : PySem.W.codeIn K cd__law_tree "_law_tree" = true) (k__law_tree : PySem.W.keepIn K (.ref f__law_tree) = true)
    (g__law_text : PySem.W.nsIn K mainGlobals "_law_text" = some (some (.ref f__law_text)))
    (l__law_text : K.lookup f__law_text = some ⟨oc__law_text, od__law_text, .func (PySem.W.fnOf "_law_text" "_law_text" (defArgs s__law_text) (defBody s__law_text) (defScope s__law_text) .none kV__law_text dc__law_text pm__law_text an__law_text cd__law_text ct__law_text), sl__law_text⟩)
    (c__law_text : PySem.W.codeIn K cd__law_text "_law_text" = true) (k__law_text : PySem.W.keepIn K (.ref f__law_text) = true)
    (g_law : PySem.W.nsIn K mainGlobals "law" = some (some (.ref f_law)))
    (l_law : K.lookup f_law = some ⟨oc_law, od_law, .func (PySem.W.fnOf "law" "law" (defArgs s_law) (defBody s_law) (defScope s_law) .none kV_law dc_law pm_law an_law cd_law ct_law), sl_law⟩)
    (c_law : PySem.W.codeIn K cd_law "law" = true) (k_law : PySem.W.keepIn K (.ref f_law) = true)
    (v_DIGITS : PySem.W.nsIn K mainGlobals "DIGITS" = some (some (.str "0123456789" t_DIGITS)))
    (v_LETTERS : PySem.W.nsIn K mainGlobals "LETTERS" = some (some (.str "abcdefghijklmnopqrstuvwxyz" t_LETTERS)))
    (v_MOST_DEPTH : PySem.W.nsIn K mainGlobals "MOST_DEPTH" = some (some (.int 20 t_MOST_DEPTH)))
    (v_MOST_DIGITS : PySem.W.nsIn K mainGlobals "MOST_DIGITS" = some (some (.int 20 t_MOST_DIGITS)))
    (z_all : PySem.W.nsIn K mainGlobals "all" = some none)
    (z_bool : PySem.W.nsIn K mainGlobals "bool" = some none)
    (z_int : PySem.W.nsIn K mainGlobals "int" = some none)
    (z_isinstance : PySem.W.nsIn K mainGlobals "isinstance" = some none)
    (z_len : PySem.W.nsIn K mainGlobals "len" = some none)
    (z_range : PySem.W.nsIn K mainGlobals "range" = some none)
    (z_str : PySem.W.nsIn K mainGlobals "str" = some none)
    (z_tuple : PySem.W.nsIn K mainGlobals "tuple" = some none)
    : ∃ fd : FuncData, (∀ (s : Shared) (v : Value), BindsTo s fd ⟨[v], []⟩ [("script", v)]) ∧ ∀ base : Heap, K.In base → base.Ns mainGlobals mg → FnOk l.prog w K mg base (L2.CX l.prog w) 80 fa fd ["script"] (spL K) := by
  have e := hfa.symm.trans (PySem.W.mg_of X G g_law)
  cases e
  have F_write_tree := fun_mk (st := s_write_tree) l_write_tree c_write_tree k_write_tree
  have b_write_tree := F_write_tree.binds (ps := ["tree"]) fun _ _ _ _ _ _ us hl => match us, hl with | [_], _ => rfl
  have F_read_tree := fun_mk (st := s_read_tree) l_read_tree c_read_tree k_read_tree
  have kb_read_tree := Tv.fun_kbn F_read_tree (ps := ["text", "line"]) 1 ["line"] fun _ _ _ _ _ _ us ws h1 h2 => match us, h1, ws, h2 with | [_], _, [_], _ => rfl
  have fd_read_tree : FunD K "read_tree" "read_tree" (defArgs s_read_tree) (defBody s_read_tree) (defScope s_read_tree) [] [("line", V.int 1)] f_read_tree _ := ⟨⟨_, _, _, _, _, _, _, _, _, _, rfl, l_read_tree, c_read_tree, .inl ⟨rfl, rfl⟩, .inr ⟨D_read_tree, rfl, fun q hq => by simp only [List.mem_cons, List.not_mem_nil, or_false] at hq; rcases hq with rfl; exact ⟨_, q_read_tree_line, ⟨_, rfl⟩⟩⟩⟩, k_read_tree⟩
  obtain ⟨bx_read_tree, bv_read_tree, bd_read_tree⟩ := fd_read_tree.binds0 (ps := ["text", "line"]) 1 (by simp) rfl fun _ _ _ _ _ _ us ks h1 h2 => match us, h1, ks, h2 with | [_], _, [_], _ => ⟨_, _, _, _, _, _, rfl, rfl, rfl⟩
  have F__read_from := fun_mk (st := s__read_from) l__read_from c__read_from k__read_from
  have b__read_from := F__read_from.binds (ps := ["text", "start", "depth"]) fun _ _ _ _ _ _ us hl => match us, hl with | [_, _, _], _ => rfl
  have F__read_tuple := fun_mk (st := s__read_tuple) l__read_tuple c__read_tuple k__read_tuple
  have b__read_tuple := F__read_tuple.binds (ps := ["text", "start", "depth"]) fun _ _ _ _ _ _ us hl => match us, hl with | [_, _, _], _ => rfl
  have F__read_plain := fun_mk (st := s__read_plain) l__read_plain c__read_plain k__read_plain
  have b__read_plain := F__read_plain.binds (ps := ["text", "end"]) fun _ _ _ _ _ _ us hl => match us, hl with | [_, _], _ => rfl
  have F__is_integer_text := fun_mk (st := s__is_integer_text) l__is_integer_text c__is_integer_text k__is_integer_text
  have b__is_integer_text := F__is_integer_text.binds (ps := ["text"]) fun _ _ _ _ _ _ us hl => match us, hl with | [_], _ => rfl
  have F__consists_of := fun_mk (st := s__consists_of) l__consists_of c__consists_of k__consists_of
  have b__consists_of := F__consists_of.binds (ps := ["text", "characters"]) fun _ _ _ _ _ _ us hl => match us, hl with | [_, _], _ => rfl
  have F__law_number := fun_mk (st := s__law_number) l__law_number c__law_number k__law_number
  have b__law_number := F__law_number.binds (ps := ["script", "k"]) fun _ _ _ _ _ _ us hl => match us, hl with | [_, _], _ => rfl
  have F__law_same := fun_mk (st := s__law_same) l__law_same c__law_same k__law_same
  have b__law_same := F__law_same.binds (ps := ["one", "two"]) fun _ _ _ _ _ _ us hl => match us, hl with | [_, _], _ => rfl
  have F__law_tree := fun_mk (st := s__law_tree) l__law_tree c__law_tree k__law_tree
  have b__law_tree := F__law_tree.binds (ps := ["number", "deep"]) fun _ _ _ _ _ _ us hl => match us, hl with | [_, _], _ => rfl
  have F__law_text := fun_mk (st := s__law_text) l__law_text c__law_text k__law_text
  have b__law_text := F__law_text.binds (ps := ["tree"]) fun _ _ _ _ _ _ us hl => match us, hl with | [_], _ => rfl
  have F_law := fun_mk (st := s_law) l_law c_law k_law
  have b_law := F_law.binds (ps := ["script"]) fun _ _ _ _ _ _ us hl => match us, hl with | [_], _ => rfl
  let T : Txt w K mg := {
    a_write_tree := _, fd_write_tree := _, F_write_tree := F_write_tree, b_write_tree := b_write_tree,
    m_write_tree := PySem.W.mg_of X G g_write_tree,
    a_read_tree := _, fd_read_tree := _, F_read_tree := F_read_tree,
    m_read_tree := PySem.W.mg_of X G g_read_tree,
    kb_read_tree := kb_read_tree,
    bx_read_tree := _, bd_read_tree := bd_read_tree, bv_read_tree := bv_read_tree,
    a__read_from := _, fd__read_from := _, F__read_from := F__read_from, b__read_from := b__read_from,
    m__read_from := PySem.W.mg_of X G g__read_from,
    a__read_tuple := _, fd__read_tuple := _, F__read_tuple := F__read_tuple, b__read_tuple := b__read_tuple,
    m__read_tuple := PySem.W.mg_of X G g__read_tuple,
    a__read_plain := _, fd__read_plain := _, F__read_plain := F__read_plain, b__read_plain := b__read_plain,
    m__read_plain := PySem.W.mg_of X G g__read_plain,
    a__is_integer_text := _, fd__is_integer_text := _, F__is_integer_text := F__is_integer_text, b__is_integer_text := b__is_integer_text,
    m__is_integer_text := PySem.W.mg_of X G g__is_integer_text,
    a__consists_of := _, fd__consists_of := _, F__consists_of := F__consists_of, b__consists_of := b__consists_of,
    m__consists_of := PySem.W.mg_of X G g__consists_of,
    a__law_number := _, fd__law_number := _, F__law_number := F__law_number, b__law_number := b__law_number,
    m__law_number := PySem.W.mg_of X G g__law_number,
    a__law_same := _, fd__law_same := _, F__law_same := F__law_same, b__law_same := b__law_same,
    m__law_same := PySem.W.mg_of X G g__law_same,
    a__law_tree := _, fd__law_tree := _, F__law_tree := F__law_tree, b__law_tree := b__law_tree,
    m__law_tree := PySem.W.mg_of X G g__law_tree,
    a__law_text := _, fd__law_text := _, F__law_text := F__law_text, b__law_text := b__law_text,
    m__law_text := PySem.W.mg_of X G g__law_text,
    a_law := _, fd_law := _, F_law := F_law, b_law := b_law,
    m_law := PySem.W.mg_of X G g_law,
    t_DIGITS := _, m_DIGITS := PySem.W.mg_of X G v_DIGITS,
    t_LETTERS := _, m_LETTERS := PySem.W.mg_of X G v_LETTERS,
    t_MOST_DEPTH := _, m_MOST_DEPTH := PySem.W.mg_of X G v_MOST_DEPTH,
    t_MOST_DIGITS := _, m_MOST_DIGITS := PySem.W.mg_of X G v_MOST_DIGITS,
    m_all := PySem.W.mg_none_of X G z_all,
    m_bool := PySem.W.mg_none_of X G z_bool,
    m_int := PySem.W.mg_none_of X G z_int,
    m_isinstance := PySem.W.mg_none_of X G z_isinstance,
    m_len := PySem.W.mg_none_of X G z_len,
    m_range := PySem.W.mg_none_of X G z_range,
    m_str := PySem.W.mg_none_of X G z_str,
    m_tuple := PySem.W.mg_none_of X G z_tuple,
  }
  exact ⟨PySem.W.fnOf "law" "law" (defArgs s_law) (defBody s_law) (defScope s_law) .none kV_law dc_law pm_law an_law cd_law ct_law, fun s v => .of_eq rfl, fun base _ _ => to_spL rfl rfl (all_n T 40).c_law law_pure⟩
theorem sp_of {K : PySem.W.Frag} {H : Hp} {a : Addr} {ns : List Int} (hl : ns.length ≤ 63) (hS : SqL K H a (ns.map V.int)) : spL K [.ref a] H (fun v _ => v = .bl true) (fun _ _ _ => False) :=
  ⟨a, ns, rfl, hl, hS, fun _ => rfl⟩
theorem walk {l : PySem.W.OpenLaw} {q : Program} {loose : List Str} {XP : (Str → Option Value) → Heap → Prop} {YP : World → Heap → Prop} {d : DefRec} {K : Params → PySem.W.Frag} (hn : l.most = some 63) (hdf : d.params.defaults = [])
    (hY : ∀ (w : World) (h : Heap), YP w h → (K w.params).In h)
    (F : ∀ (w : World) (mg : Str → Option Value) (fa : Addr) (h : Heap), (K w.params).In h → h.Ns mainGlobals mg → mg d.name = some (.ref fa) →
      ∃ fd : FuncData, (∀ (s : Shared) (u : Value), BindsTo s fd ⟨[u], []⟩ [("script", u)]) ∧ ∀ base : Heap, (K w.params).In base → base.Ns mainGlobals mg → FnOk l.prog w (K w.params) mg base (L2.CX l.prog w) 80 fa fd ["script"] (spL (K w.params))) :
    PySem.W.WalkO q loose XP YP l.row.toRowW d [] (fun f vs => PySem.call f vs) :=
  L2.walk_of (n := 63) (k := 80) (x := "script") (CX := fun w => L2.CX l.prog w) (sp := fun w => spL (K w.params)) hn (by decide) hdf ⟨rfl, by decide, by decide⟩ hY F (fun _ _ _ _ hl _ hS => sp_of hl hS) fun _ _ _ _ _ z => cx_false z
end Tw
open PySem PySem.W PyProof.Rows
set_option maxRecDepth 100000 in
set_option maxHeartbeats 0 in
theorem PySem.Challenge.cw_turnpike_k70_trees_written_and_read_holds : PySem.Challenge.rw_turnpike_k70_trees_written_and_read.Holds := by
  w_on; o_law; k_head; (case hw => w_witness2)
  k_fill
  refine Tw.walk (l := PySem.Challenge.rw_turnpike_k70_trees_written_and_read) rfl rfl (fun w h Y => PySem.W.kIn_of Y) ?F
  case F =>
    intro w mg fa h KX G hmg
    refine' Tw.all_mk KX G hmg ?g_write_tree ?l_write_tree ?c_write_tree ?k_write_tree ?g_read_tree ?l_read_tree ?c_read_tree ?k_read_tree ?q_read_tree_line ?g__read_from ?l__read_from ?c__read_from ?k__read_from ?g__read_tuple ?l__read_tuple ?c__read_tuple ?k__read_tuple ?g__read_plain ?l__read_plain ?c__read_plain ?k__read_plain ?g__is_integer_text ?l__is_integer_text ?c__is_integer_text ?k__is_integer_text ?g__consists_of ?l__consists_of ?c__consists_of ?k__consists_of ?g__law_number ?l__law_number ?c__law_number ?k__law_number ?g__law_same ?l__law_same ?c__law_same ?k__law_same ?g__law_tree ?l__law_tree ?c__law_tree ?k__law_tree ?g__law_text ?l__law_text ?c__law_text ?k__law_text ?g_law ?l_law ?c_law ?k_law ?v_DIGITS ?v_LETTERS ?v_MOST_DEPTH ?v_MOST_DIGITS ?z_all ?z_bool ?z_int ?z_isinstance ?z_len ?z_range ?z_str ?z_tuple
    (case g_write_tree => k_is)
    (case l_write_tree => k_is)
    (case c_write_tree => k_is)
    (case k_write_tree => k_is)
    (case g_read_tree => k_is)
    (case l_read_tree => k_is)
    (case c_read_tree => k_is)
    (case k_read_tree => k_is)
    (case q_read_tree_line => k_is)
    (case g__read_from => k_is)
    (case l__read_from => k_is)
    (case c__read_from => k_is)
    (case k__read_from => k_is)
    (case g__read_tuple => k_is)
    (case l__read_tuple => k_is)
    (case c__read_tuple => k_is)
    (case k__read_tuple => k_is)
    (case g__read_plain => k_is)
    (case l__read_plain => k_is)
    (case c__read_plain => k_is)
    (case k__read_plain => k_is)
    (case g__is_integer_text => k_is)
    (case l__is_integer_text => k_is)
    (case c__is_integer_text => k_is)
    (case k__is_integer_text => k_is)
    (case g__consists_of => k_is)
    (case l__consists_of => k_is)
    (case c__consists_of => k_is)
    (case k__consists_of => k_is)
    (case g__law_number => k_is)
    (case l__law_number => k_is)
    (case c__law_number => k_is)
    (case k__law_number => k_is)
    (case g__law_same => k_is)
    (case l__law_same => k_is)
    (case c__law_same => k_is)
    (case k__law_same => k_is)
    (case g__law_tree => k_is)
    (case l__law_tree => k_is)
    (case c__law_tree => k_is)
    (case k__law_tree => k_is)
    (case g__law_text => k_is)
    (case l__law_text => k_is)
    (case c__law_text => k_is)
    (case k__law_text => k_is)
    (case g_law => k_is)
    (case l_law => k_is)
    (case c_law => k_is)
    (case k_law => k_is)
    (case v_DIGITS => k_is)
    (case v_LETTERS => k_is)
    (case v_MOST_DEPTH => k_is)
    (case v_MOST_DIGITS => k_is)
    (case z_all => k_is)
    (case z_bool => k_is)
    (case z_int => k_is)
    (case z_isinstance => k_is)
    (case z_len => k_is)
    (case z_range => k_is)
    (case z_str => k_is)
    (case z_tuple => k_is)
