import PyProof.Rows.All
import Wide.All
import OpenK.AllK
import Wide.FinOn
import HandS.ForMost
import HandS.IsInst
import HandS.Style
import HandS.Defaults
import HandS.TupAny
import HandS.ListItems
import HandS.Rev
import HandS.Exc
import HandS.ExcOwn
import HandS.WordsExc
import HandS.TryOnly
import HandS.CallSlots
import HandS.RaiseMore
import HandS.FStr
import HandS.ExcIs
import HandS.Wide
import KE.KAssignIn
import HandS.Flow
import HandS.MakeKwOnly
import HandS.Codes
import HandS.OwnEq
import PySem.Challenge.RW_turnpike_k11_legs
set_option Elab.async false
set_option linter.all false
set_option maxRecDepth 100000
set_option maxHeartbeats 4000000
/-! Turnpike: readings over plain data. -/
namespace Tn
open PySem L2

/-! ### heaps that grow -/
def Gr (H J : Hp) : Prop := ∀ a o, H a = some o → J a = some o
theorem Gr.rfl' (H : Hp) : Gr H H := fun _ _ z => z
theorem Gr.tr {H J L : Hp} (f : Gr H J) (g : Gr J L) : Gr H L := fun a o z => g a o (f a o z)
theorem Gr.lay {H : Hp} {p : Addr} {o : HO} (hp : H p = none) : Gr H (upd H p o) := by
  intro a u ha
  have n : a ≠ p := ne_of_none ha hp
  rw [upd_ne n]; exact ha
theorem Gr.lay2 {H J : Hp} {p : Addr} {o : HO} (g : Gr H J) (hp : H p = none) : Gr H (upd J p o) := by
  intro a u ha
  have n : a ≠ p := ne_of_none ha hp
  rw [upd_ne n]; exact g a u ha
theorem Gr.free {H J : Hp} {p : Addr} (g : Gr H J) (hp : J p = none) : H p = none := by
  cases e : H p with
  | none => rfl
  | some o => rw [g p o e] at hp; cases hp
theorem Gr.rd {H J : Hp} {a : Addr} {u : HO} (g : Gr H J) (h : Rd H a u) : Rd J a u := by
  rcases h with h | ⟨o, h⟩
  · exact .inl (g _ _ h)
  · exact .inr ⟨o, g _ _ h⟩
section
variable {K : PySem.W.Frag}
theorem Gr.sq {H J : Hp} {a : Addr} {xs : List V} (g : Gr H J) (h : SqL K H a xs) : SqL K J a xs := by
  rcases h with h | h
  · exact .inl (g.rd h)
  · exact .inr h
theorem Gr.st {H J : Hp} {a : Addr} {xs : List V} (g : Gr H J) (h : SqT K H a xs) : SqT K J a xs := by
  rcases h with h | h
  · exact .inl (g.rd h)
  · exact .inr h
/-- a tuple stays a tuple when something else is stored at the place of a list or a dict -/
theorem st_upd {H : Hp} {a p : Addr} {xs ys : List V} {o : HO} (h : SqT K H a xs) (hp : H p = some (.lst ys)) : SqT K (upd H p o) a xs := by
  rcases h with h | h
  · refine .inl ?_
    rcases h with h | ⟨o', h⟩
    · refine .inl ?_
      have n : a ≠ p := ne_of h hp (by intro z; cases z)
      rw [upd_ne n]; exact h
    · refine .inr ⟨o', ?_⟩
      have n : a ≠ p := ne_of h hp (by intro z; cases z)
      rw [upd_ne n]; exact h
  · exact .inr h
theorem st_updD {H : Hp} {a p : Addr} {xs : List V} {ys : List (Key × V)} {o : HO} (h : SqT K H a xs) (hp : H p = some (.dK ys)) : SqT K (upd H p o) a xs := by
  rcases h with h | h
  · refine .inl ?_
    rcases h with h | ⟨o', h⟩
    · refine .inl ?_
      have n : a ≠ p := ne_of h hp (by intro z; cases z)
      rw [upd_ne n]; exact h
    · refine .inr ⟨o', ?_⟩
      have n : a ≠ p := ne_of h hp (by intro z; cases z)
      rw [upd_ne n]; exact h
  · exact .inr h

/-! ### values as data: nothing that can change -/
mutual
inductive Tp (K : PySem.W.Frag) (H : Hp) : V → PyData → Prop
  | non : Tp K H .non .none
  | bl (b : Bool) : Tp K H (.bl b) (.bool b)
  | int (i : Int) : Tp K H (.int i) (.int i)
  | str (x : Str) : Tp K H (.str x) (.str x)
  | tup {a : Addr} {xs : List V} {ds : List PyData} : SqT K H a xs → TpA K H xs ds → Tp K H (.ref a) (.tuple ds)
inductive TpA (K : PySem.W.Frag) (H : Hp) : List V → List PyData → Prop
  | nil : TpA K H [] []
  | cons {v : V} {vs : List V} {d : PyData} {ds : List PyData} : Tp K H v d → TpA K H vs ds → TpA K H (v :: vs) (d :: ds)
end
/-- heaps between which tuples stay -/
def Tm (K : PySem.W.Frag) (H J : Hp) : Prop := ∀ a xs, SqT K H a xs → SqT K J a xs
theorem Gr.tm {H J : Hp} (g : Gr H J) : Tm K H J := fun _ _ z => g.st z
mutual
theorem Tp.mono {H J : Hp} (g : Tm K H J) : ∀ {v : V} {d : PyData}, Tp K H v d → Tp K J v d
  | _, _, .non => .non
  | _, _, .bl b => .bl b
  | _, _, .int i => .int i
  | _, _, .str x => .str x
  | _, _, .tup h ha => .tup (g _ _ h) (TpA.mono g ha)
theorem TpA.mono {H J : Hp} (g : Tm K H J) : ∀ {vs : List V} {ds : List PyData}, TpA K H vs ds → TpA K J vs ds
  | _, _, .nil => .nil
  | _, _, .cons h ha => .cons (Tp.mono g h) (TpA.mono g ha)
end
theorem Tp.int_of {H : Hp} {v : V} {i : Int} (h : Tp K H v (.int i)) : v = .int i := by cases h; rfl
theorem Tp.bl_of {H : Hp} {v : V} {b : Bool} (h : Tp K H v (.bool b)) : v = .bl b := by cases h; rfl
theorem Tp.str_of {H : Hp} {v : V} {b : Str} (h : Tp K H v (.str b)) : v = .str b := by cases h; rfl
theorem Tp.non_of {H : Hp} {v : V} (h : Tp K H v .none) : v = .non := by cases h; rfl
theorem Tp.tup_of {H : Hp} {v : V} {ds : List PyData} (h : Tp K H v (.tuple ds)) : ∃ a xs, v = .ref a ∧ SqT K H a xs ∧ TpA K H xs ds := by
  cases h with
  | tup h ha => exact ⟨_, _, rfl, h, ha⟩
theorem TpA.length {H : Hp} : ∀ {vs : List V} {ds : List PyData}, TpA K H vs ds → vs.length = ds.length
  | _, _, .nil => rfl
  | _, _, .cons _ t => by rw [List.length_cons, List.length_cons, TpA.length t]
theorem TpA.get {H : Hp} : ∀ {vs : List V} {ds : List PyData} {i : Nat} {d : PyData}, TpA K H vs ds → ds[i]? = some d → ∃ v, vs[i]? = some v ∧ Tp K H v d
  | _, _, _, _, .nil, e => by simp at e
  | _, _, 0, _, .cons r _, e => by simp at e; subst e; exact ⟨_, rfl, r⟩
  | _, _, i + 1, d, .cons _ t, e => by
    obtain ⟨u, h1, h2⟩ := TpA.get (i := i) (d := d) t (by simpa using e)
    exact ⟨u, by simpa using h1, h2⟩
theorem TpA.getV {H : Hp} : ∀ {vs : List V} {ds : List PyData} {i : Nat} {v : V}, TpA K H vs ds → vs[i]? = some v → ∃ d, ds[i]? = some d ∧ Tp K H v d
  | _, _, _, _, .nil, e => by simp at e
  | _, _, 0, _, .cons r _, e => by simp at e; subst e; exact ⟨_, rfl, r⟩
  | _, _, i + 1, d, .cons _ t, e => by
    obtain ⟨u, h1, h2⟩ := TpA.getV (i := i) (v := d) t (by simpa using e)
    exact ⟨u, by simpa using h1, h2⟩
theorem TpA.app {H : Hp} : ∀ {vs us : List V} {ds es : List PyData}, TpA K H vs ds → TpA K H us es → TpA K H (vs ++ us) (ds ++ es)
  | _, _, _, _, .nil, s => s
  | _, _, _, _, .cons r t, s => .cons r (TpA.app t s)
theorem TpA.take {H : Hp} : ∀ {vs : List V} {ds : List PyData} (n : Nat), TpA K H vs ds → TpA K H (vs.take n) (ds.take n)
  | _, _, 0, _ => by rw [List.take_zero, List.take_zero]; exact .nil
  | _, _, _ + 1, .nil => .nil
  | _, _, n + 1, .cons r t => .cons r (TpA.take n t)
theorem TpA.drop {H : Hp} : ∀ {vs : List V} {ds : List PyData} (n : Nat), TpA K H vs ds → TpA K H (vs.drop n) (ds.drop n)
  | _, _, 0, r => r
  | _, _, _ + 1, .nil => .nil
  | _, _, n + 1, .cons _ t => TpA.drop n t
theorem TpA.set {H : Hp} {x : V} {u : PyData} (r : Tp K H x u) : ∀ {xs : List V} {us : List PyData} (i : Nat), TpA K H xs us → TpA K H (xs.set i x) (us.set i u)
  | _, _, _, .nil => .nil
  | _, _, 0, .cons _ t => .cons r t
  | _, _, i + 1, .cons q t => .cons q (TpA.set r i t)
theorem TpA.erase {H : Hp} : ∀ {xs : List V} {us : List PyData} (i : Nat), TpA K H xs us → TpA K H (xs.eraseIdx i) (us.eraseIdx i)
  | _, _, _, .nil => .nil
  | _, _, 0, .cons _ t => t
  | _, _, i + 1, .cons q t => .cons q (TpA.erase i t)
theorem TpA.ints {H : Hp} : ∀ (ns : List Int), TpA K H (ns.map V.int) (ns.map PyData.int)
  | [] => .nil
  | n :: r => .cons (.int n) (TpA.ints r)
theorem TpA.ints_of {H : Hp} : ∀ {vs : List V} {ns : List Int}, TpA K H vs (ns.map PyData.int) → vs = ns.map V.int
  | _, [], h => by cases h; rfl
  | _, n :: r, h => by
    rw [List.map_cons] at h
    cases h with
    | cons h1 h2 => rw [h1.int_of, TpA.ints_of h2, List.map_cons]
mutual
theorem Tp.dp {H : Hp} : ∀ {v : V} {d : PyData}, Tp K H v d → Dp K H v d
  | _, _, .non => .non
  | _, _, .bl b => .bl b
  | _, _, .int i => .int i
  | _, _, .str x => .str x
  | _, _, .tup h ha => .tup h (TpA.dp ha)
theorem TpA.dp {H : Hp} : ∀ {vs : List V} {ds : List PyData}, TpA K H vs ds → DpAll K H vs ds
  | _, _, .nil => .nil
  | _, _, .cons h ha => .cons (Tp.dp h) (TpA.dp ha)
end

/-! ### what a slot holds -/
inductive KvA (K : PySem.W.Frag) (H : Hp) : List (Key × V) → List (Key × PyData) → Prop
  | nil : KvA K H [] []
  | cons {k : Key} {v : V} {d : PyData} {vs : List (Key × V)} {ds : List (Key × PyData)} : Tp K H v d → KvA K H vs ds → KvA K H ((k, v) :: vs) ((k, d) :: ds)
theorem KvA.mono {H J : Hp} (g : Tm K H J) : ∀ {vs : List (Key × V)} {ds : List (Key × PyData)}, KvA K H vs ds → KvA K J vs ds
  | _, _, .nil => .nil
  | _, _, .cons h t => .cons (h.mono g) (KvA.mono g t)
theorem KvA.length {H : Hp} : ∀ {vs : List (Key × V)} {ds : List (Key × PyData)}, KvA K H vs ds → vs.length = ds.length
  | _, _, .nil => rfl
  | _, _, .cons _ t => by rw [List.length_cons, List.length_cons, KvA.length t]
/-- what an attribute's own container holds: a dict of data, a list of instances, a dict of instances -/
inductive CT where
  | m (kvs : List (Key × PyData)) | lo (as : List Addr) | mo (kas : List (Key × Addr))
/-- an attribute of an instance: data, a list at its place, another instance, another container at its place -/
inductive FD where
  | d (x : PyData) | l (q : Addr) (ds : List PyData) | o (q : Addr) | c (q : Addr) (t : CT)
def Cont (o : HO) : Prop := (∃ vs, o = .lst vs) ∨ ∃ vs, o = .dK vs
theorem Cont.ntup {o : HO} (h : Cont o) : (∀ xs, o ≠ .tup xs) ∧ ∀ u xs, o ≠ .frz u (.tup xs) := by
  rcases h with ⟨vs, rfl⟩ | ⟨vs, rfl⟩ <;> exact ⟨fun _ z => (by cases z), fun _ _ z => (by cases z)⟩
theorem Cont.nins {o : HO} (h : Cont o) {C dx : Addr} {fs : List (Str × V)} : o ≠ .ins C dx fs := by
  rcases h with ⟨vs, rfl⟩ | ⟨vs, rfl⟩ <;> intro z <;> cases z
theorem Cont.nsolid {o : HO} (h : Cont o) : ¬ ((∃ xs, o = .tup xs) ∨ ∃ u xs, o = .frz u (.tup xs)) := fun z => by
  rcases z with ⟨xs, z⟩ | ⟨u, xs, z⟩
  · exact h.ntup.1 xs z
  · exact h.ntup.2 u xs z
def CV (K : PySem.W.Frag) (H : Hp) (o : HO) : CT → Prop
  | .m kvs => ∃ vs, o = .dK vs ∧ KvA K H vs kvs
  | .lo as => o = .lst (as.map V.ref)
  | .mo kas => o = .dK (kas.map fun p => (p.1, V.ref p.2))
theorem CV.mono {H J : Hp} {o : HO} {t : CT} (g : Tm K H J) (h : CV K H o t) : CV K J o t := by
  cases t with
  | m kvs => obtain ⟨vs, e, h1⟩ := h; exact ⟨vs, e, h1.mono g⟩
  | lo as => exact h
  | mo kas => exact h
theorem CV.cont {H : Hp} {o : HO} {t : CT} (h : CV K H o t) : Cont o := by
  cases t with
  | m kvs => obtain ⟨vs, e, h1⟩ := h; exact .inr ⟨vs, e⟩
  | lo as => exact .inl ⟨_, h⟩
  | mo kas => exact .inr ⟨_, h⟩
def FV (K : PySem.W.Frag) (B H : Hp) (v : V) : FD → Prop
  | .d x => Tp K H v x
  | .l q ds => v = .ref q ∧ ∃ vs, B q = some (.lst vs) ∧ TpA K H vs ds
  | .o q => v = .ref q
  | .c q t => v = .ref q ∧ ∃ o, B q = some o ∧ CV K H o t
def FsA (K : PySem.W.Frag) (B H : Hp) : List (Str × V) → List (Str × FD) → Prop
  | [], [] => True
  | (n, v) :: fv, (m, s) :: fs => n = m ∧ FV K B H v s ∧ FsA K B H fv fs
  | _, _ => False
theorem FV.to {B H C J : Hp} {v : V} {s : FD} (g : Tm K H J) (b : ∀ q o, Cont o → B q = some o → C q = some o) (h : FV K B H v s) : FV K C J v s := by
  cases s with
  | d x => exact Tp.mono g h
  | l q ds => obtain ⟨e, vs, h1, h2⟩ := h; exact ⟨e, vs, b _ _ (.inl ⟨_, rfl⟩) h1, h2.mono g⟩
  | o q => exact h
  | c q t => obtain ⟨e, o, h1, h2⟩ := h; exact ⟨e, o, b _ _ h2.cont h1, h2.mono g⟩
theorem FsA.to {B H C J : Hp} (g : Tm K H J) (b : ∀ q o, Cont o → B q = some o → C q = some o) : ∀ {fv : List (Str × V)} {fs : List (Str × FD)}, FsA K B H fv fs → FsA K C J fv fs
  | [], [], _ => trivial
  | (n, v) :: fv, (m, s) :: fs, ⟨h1, h2, h3⟩ => ⟨h1, h2.to g b, FsA.to g b h3⟩
  | [], _ :: _, h => h.elim
  | _ :: _, [], h => h.elim
/-- instances that stand in a heap: place, class, attributes -/
def GA (K : PySem.W.Frag) (B H : Hp) (G : List (Addr × Addr × List (Str × FD))) : Prop := ∀ o ∈ G, ∃ dx fv, B o.1 = some (.ins o.2.1 dx fv) ∧ FsA K B H fv o.2.2
theorem GA.to {B H C J : Hp} {G : List (Addr × Addr × List (Str × FD))} (g : Tm K H J) (b : ∀ q o, ((∃ C dx fs, o = .ins C dx fs) ∨ Cont o) → B q = some o → C q = some o) (h : GA K B H G) : GA K C J G := fun o m => by
  obtain ⟨dx, fv, h1, h2⟩ := h o m
  exact ⟨dx, fv, b _ _ (.inl ⟨_, _, _, rfl⟩) h1, h2.to g fun q o c e => b q o (.inr c) e⟩
/-- what was handed in, told of the heap G where it was so -/
inductive SF where
  | bor (ds : List PyData) | borD (kvs : List (Key × PyData)) | bob (a C : Addr) (fs : List (Str × FD)) | gob (a : Addr) (G : List (Addr × Addr × List (Str × FD)))
inductive SD where
  | emp | dat (d : PyData) | own (ds : List PyData) | bor (ds : List PyData) | ownD (kvs : List (Key × PyData)) | borD (kvs : List (Key × PyData)) | raw (v : V) | fix (G : Hp) (s : SF) | bob (a C : Addr) (fs : List (Str × FD)) | gob (a : Addr) (G : List (Addr × Addr × List (Str × FD)))
def VF (K : PySem.W.Frag) (G H : Hp) (v : V) : SF → Prop
  | .bor ds => ∃ a vs, v = .ref a ∧ SqL K G a vs ∧ TpA K H vs ds
  | .borD kvs => ∃ a kv, v = .ref a ∧ Rd G a (.dK kv) ∧ KvA K H kv kvs
  | .bob a C fs => v = .ref a ∧ ∃ dx fv, G a = some (.ins C dx fv) ∧ FsA K G H fv fs
  | .gob a gs => v = .ref a ∧ GA K G H gs
theorem VF.to {G H J : Hp} {v : V} {s : SF} (tm : Tm K H J) (h : VF K G H v s) : VF K G J v s := by
  cases s with
  | bor ds => obtain ⟨a, vs, e, h1, h2⟩ := h; exact ⟨a, vs, e, h1, h2.mono tm⟩
  | borD ds => obtain ⟨a, vs, e, h1, h2⟩ := h; exact ⟨a, vs, e, h1, h2.mono tm⟩
  | bob a C fs => obtain ⟨e, dx, fv, h1, h2⟩ := h; exact ⟨e, dx, fv, h1, h2.to tm fun _ _ _ z => z⟩
  | gob a gs => exact ⟨h.1, h.2.to tm fun _ _ _ z => z⟩
def Solid (o : HO) : Prop := (∃ xs, o = .tup xs) ∨ ∃ u xs, o = .frz u (.tup xs)
/-- what of G can change is of H0 -/
def Gn (G H0 : Hp) : Prop := ∀ a o, ¬ Solid o → G a = some o → H0 a = some o
theorem Gr.gn {G H0 : Hp} (g : Gr G H0) : Gn G H0 := fun a o _ e => g a o e
theorem Gn.then {G H0 H1 : Hp} (g : Gn G H0) (g2 : Gr H0 H1) : Gn G H1 := fun a o n e => g2 _ _ (g a o n e)
theorem lst_solid {xs : List V} : ¬ Solid (.lst xs) := fun s => by rcases s with ⟨_, z⟩ | ⟨_, _, z⟩ <;> cases z
theorem dK_solid {xs : List (Key × V)} : ¬ Solid (.dK xs) := fun s => by rcases s with ⟨_, z⟩ | ⟨_, _, z⟩ <;> cases z
theorem Gn.upd {G H0 H : Hp} {a : Addr} {u o : HO} (g : Gn G H0) (gh : Gr G H) (h0 : H0 a = none) (h : H a = some u) (n : ¬ Solid u) : Gr G (upd H a o) := fun b p e => by
  have nb : b ≠ a := fun z => by
    subst z
    have e2 := gh _ _ e
    rw [h] at e2
    cases e2
    rw [g _ _ n e] at h0
    cases h0
  rw [upd_ne nb]
  exact gh _ _ e
/-- a value, by what a slot says of it: H0 the heap where the def began, H the present one -/
def VS (K : PySem.W.Frag) (H0 H : Hp) (v : V) : SD → Prop
  | .emp => True
  | .dat d => Tp K H v d
  | .bor ds => ∃ a vs, v = .ref a ∧ SqL K H0 a vs ∧ TpA K H vs ds
  | .own ds => ∃ a vs, v = .ref a ∧ H0 a = none ∧ H a = some (.lst vs) ∧ TpA K H vs ds
  | .borD kvs => ∃ a kv, v = .ref a ∧ Rd H0 a (.dK kv) ∧ KvA K H kv kvs
  | .raw u => v = u
  | .bob a C fs => v = .ref a ∧ ∃ dx fv, H0 a = some (.ins C dx fv) ∧ FsA K H0 H fv fs
  | .gob a gs => v = .ref a ∧ GA K H0 H gs
  | .fix G s => Gn G H0 ∧ Gr G H ∧ VF K G H v s
  | .ownD kvs => ∃ a kv, v = .ref a ∧ H0 a = none ∧ H a = some (.dK kv) ∧ KvA K H kv kvs
theorem VS.mono {H0 H J : Hp} {v : V} {s : SD} (g : Gr H J) (h : VS K H0 H v s) : VS K H0 J v s := by
  cases s with
  | emp => trivial
  | raw u => exact h
  | bob a C fs => obtain ⟨e, dx, fv, h1, h2⟩ := h; exact ⟨e, dx, fv, h1, h2.to g.tm fun _ _ _ z => z⟩
  | gob a gs => exact ⟨h.1, h.2.to g.tm fun _ _ _ z => z⟩
  | fix G s => exact ⟨h.1, h.2.1.tr g, h.2.2.to g.tm⟩
  | dat d => exact Tp.mono g.tm h
  | bor ds => obtain ⟨a, vs, e, h1, h2⟩ := h; exact ⟨a, vs, e, h1, h2.mono g.tm⟩
  | own ds => obtain ⟨a, vs, e, h0, h1, h2⟩ := h; exact ⟨a, vs, e, h0, g _ _ h1, h2.mono g.tm⟩
  | borD ds => obtain ⟨a, vs, e, h1, h2⟩ := h; exact ⟨a, vs, e, h1, h2.mono g.tm⟩
  | ownD ds => obtain ⟨a, vs, e, h0, h1, h2⟩ := h; exact ⟨a, vs, e, h0, g _ _ h1, h2.mono g.tm⟩
def SlotOk (K : PySem.W.Frag) (H0 H : Hp) (o : Option V) : SD → Prop
  | .emp => True
  | s => ∃ v, o = some v ∧ VS K H0 H v s
def SD.ows : SD → Bool
  | .own _ => true
  | .ownD _ => true
  | _ => false
/-- the slots σ at the heap H are what δ says -/
structure Sd (K : PySem.W.Frag) (H0 H : Hp) (σ : L2.St) (δ : List SD) : Prop where
  gr : Gr H0 H
  len : σ.length = δ.length
  ok : ∀ (i : Nat) (s : SD), δ[i]? = some s → s ≠ .emp → ∃ v, σ[i]? = some (some v) ∧ VS K H0 H v s
  apart : ∀ (i j : Nat) (s t : SD) (a : Addr), δ[i]? = some s → δ[j]? = some t → s.ows = true → t.ows = true → σ[i]? = some (some (.ref a)) → σ[j]? = some (some (.ref a)) → i = j
theorem Sd.mono {H0 H J : Hp} {σ : L2.St} {δ : List SD} (g : Gr H J) (S : Sd K H0 H σ δ) : Sd K H0 J σ δ :=
  ⟨S.gr.tr g, S.len, fun i s h ne => by obtain ⟨v, h1, h2⟩ := S.ok i s h ne; exact ⟨v, h1, h2.mono g⟩, S.apart⟩
theorem get_set {α : Type} {l : List α} {i j : Nat} {x y : α} (h : (l.set i x)[j]? = some y) : (i = j ∧ y = x ∧ i < l.length) ∨ (i ≠ j ∧ l[j]? = some y) := by
  rw [List.getElem?_set] at h
  by_cases e : i = j
  · subst e
    rw [if_pos rfl] at h
    by_cases hl : i < l.length
    · rw [if_pos hl] at h; exact .inl ⟨rfl, (Option.some.inj h).symm, hl⟩
    · rw [if_neg hl] at h; cases h
  · rw [if_neg e] at h; exact .inr ⟨e, h⟩
theorem set_get_ne {α : Type} {l : List α} {i j : Nat} {x : α} (h : i ≠ j) : (l.set i x)[j]? = l[j]? := by
  rw [List.getElem?_set, if_neg h]
theorem set_get_eq {α : Type} {l : List α} {i : Nat} {x : α} (h : i < l.length) : (l.set i x)[i]? = some x := by
  rw [List.getElem?_set, if_pos rfl, if_pos h]
/-- a slot is stored: what is stored does not own, or stands at a new place -/
theorem Sd.store {H0 H : Hp} {σ : L2.St} {δ : List SD} {i : Nat} {v : V} {s : SD} (S : Sd K H0 H σ δ) (h : VS K H0 H v s) (hn : s.ows = true → ∀ (j : Nat) (t : SD) (a : Addr), i ≠ j → δ[j]? = some t → t.ows = true → σ[j]? = some (some (.ref a)) → v ≠ .ref a) :
    Sd K H0 H (σ.set i (some v)) (δ.set i s) := by
  refine ⟨S.gr, by rw [List.length_set, List.length_set]; exact S.len, fun j t hj ne => ?_, fun j k t u a hj hk ht hu ej ek => ?_⟩
  · rcases get_set hj with ⟨e, rfl, hl⟩ | ⟨e, h2⟩
    · subst e
      exact ⟨v, set_get_eq (by rw [S.len]; exact hl), h⟩
    · obtain ⟨w, h3, h4⟩ := S.ok j t h2 ne
      exact ⟨w, by rw [set_get_ne e]; exact h3, h4⟩
  · rcases get_set hj with ⟨e, rfl, hl⟩ | ⟨e, h2⟩
    · subst e
      rcases get_set hk with ⟨e', rfl, hl'⟩ | ⟨e', h2'⟩
      · exact e'
      · rw [set_get_ne e'] at ek
        rw [set_get_eq (by rw [S.len]; exact hl)] at ej
        exact absurd (Option.some.inj (Option.some.inj ej)) (hn ht k u a e' h2' hu ek)
    · rcases get_set hk with ⟨e', rfl, hl'⟩ | ⟨e', h2'⟩
      · subst e'
        rw [set_get_ne e] at ej
        rw [set_get_eq (by rw [S.len]; exact hl')] at ek
        exact absurd (Option.some.inj (Option.some.inj ek)) (hn hu j t a e h2 ht ej)
      · rw [set_get_ne e] at ej
        rw [set_get_ne e'] at ek
        exact S.apart j k t u a h2 h2' ht hu ej ek
/-- an own place is told in the heap -/
theorem Sd.own_at {H0 H : Hp} {σ : L2.St} {δ : List SD} {j : Nat} {t : SD} {a : Addr} (S : Sd K H0 H σ δ) (h : δ[j]? = some t) (ho : t.ows = true) (e : σ[j]? = some (some (.ref a))) : ∃ o, H a = some o := by
  cases t with
  | own ds =>
    obtain ⟨v, h1, b, vs, rfl, _, h2, _⟩ := S.ok j _ h (by intro z; cases z)
    rw [e] at h1
    cases h1
    exact ⟨_, h2⟩
  | ownD ds =>
    obtain ⟨v, h1, b, vs, rfl, _, h2, _⟩ := S.ok j _ h (by intro z; cases z)
    rw [e] at h1
    cases h1
    exact ⟨_, h2⟩
  | _ => cases ho
theorem Sd.storeD {H0 H : Hp} {σ : L2.St} {δ : List SD} {i : Nat} {v : V} {d : PyData} (S : Sd K H0 H σ δ) (h : Tp K H v d) : Sd K H0 H (σ.set i (some v)) (δ.set i (.dat d)) :=
  S.store h fun z => by cases z
/-- a new list into a slot: J the heap behind, in which it stands -/
theorem Sd.storeN {H0 H J : Hp} {σ : L2.St} {δ : List SD} {i : Nat} {p : Addr} {s : SD} (S : Sd K H0 H σ δ) (g : Gr H J) (hp : H p = none) (h : VS K H0 J (.ref p) s) : Sd K H0 J (σ.set i (some (.ref p))) (δ.set i s) :=
  (S.mono g).store h fun _ j t a _ hj ht ej z => by
    obtain ⟨o, ho⟩ := S.own_at hj ht ej
    cases z
    rw [hp] at ho
    cases ho
/-- a slot is forgotten -/
theorem Sd.drop {H0 H : Hp} {σ : L2.St} {δ : List SD} {i : Nat} (S : Sd K H0 H σ δ) : Sd K H0 H σ (δ.set i .emp) := by
  refine ⟨S.gr, by rw [List.length_set]; exact S.len, fun j t hj ne => ?_, fun j k t u a hj hk ht hu ej ek => ?_⟩
  · rcases get_set hj with ⟨e, rfl, hl⟩ | ⟨e, h2⟩
    · exact absurd rfl ne
    · exact S.ok j t h2 ne
  · rcases get_set hj with ⟨e, rfl, hl⟩ | ⟨e, h2⟩
    · cases ht
    · rcases get_set hk with ⟨e', rfl, hl'⟩ | ⟨e', h2'⟩
      · cases hu
      · exact S.apart j k t u a h2 h2' ht hu ej ek
/-- δ' says no more than δ -/
def Less (δ' δ : List SD) : Prop := δ'.length = δ.length ∧ ∀ (i : Nat) (s : SD), δ'[i]? = some s → s ≠ .emp → δ[i]? = some s
theorem Sd.less {H0 H : Hp} {σ : L2.St} {δ δ' : List SD} (S : Sd K H0 H σ δ) (l : Less δ' δ) : Sd K H0 H σ δ' := by
  refine ⟨S.gr, S.len.trans l.1.symm, fun j t hj ne => S.ok j t (l.2 j t hj ne) ne, fun j k t u a hj hk ht hu ej ek => ?_⟩
  exact S.apart j k t u a (l.2 j t hj (by intro z; subst z; cases ht)) (l.2 k u hk (by intro z; subst z; cases hu)) ht hu ej ek
theorem Less.rfl' (δ : List SD) : Less δ δ := ⟨rfl, fun _ _ h _ => h⟩
theorem Less.nil : Less [] [] := Less.rfl' []
theorem Less.emp {s : SD} {δ δ' : List SD} (l : Less δ' δ) : Less (.emp :: δ') (s :: δ) := ⟨by rw [List.length_cons, List.length_cons, l.1], fun i t h ne => by
  cases i with
  | zero => simp at h; exact absurd h.symm ne
  | succ i => simp at h ⊢; exact l.2 i t h ne⟩
theorem Less.same {s : SD} {δ δ' : List SD} (l : Less δ' δ) : Less (s :: δ') (s :: δ) := ⟨by rw [List.length_cons, List.length_cons, l.1], fun i t h ne => by
  cases i with
  | zero => simpa using h
  | succ i => simp at h ⊢; exact l.2 i t h ne⟩
/-- the own list of slot i is changed -/
theorem Sd.mut {H0 H : Hp} {σ : L2.St} {δ : List SD} {i : Nat} {a : Addr} {ds es : List PyData} {ws : List V} (S : Sd K H0 H σ δ) (hi : δ[i]? = some (.own ds)) (hv : σ[i]? = some (some (.ref a))) (hw : TpA K H ws es) :
    Sd K H0 (upd H a (.lst ws)) σ (δ.set i (.own es)) := by
  obtain ⟨v, h1, b, vs, rfl, h0, h2, h3⟩ := S.ok i _ hi (by intro z; cases z)
  rw [hv] at h1
  cases h1
  have tm : Tm K H (upd H a (.lst ws)) := fun _ _ z => st_upd z h2
  have hil : i < δ.length := (List.getElem?_eq_some_iff.mp hi).1
  refine ⟨Gr.lay2 S.gr h0, by rw [List.length_set]; exact S.len, fun j t hj ne => ?_, fun j k t u c hj hk ht hu ej ek => ?_⟩
  · rcases get_set hj with ⟨e, rfl, hl⟩ | ⟨e, hj2⟩
    · subst e
      exact ⟨_, hv, a, ws, rfl, h0, upd_same, hw.mono tm⟩
    · obtain ⟨v, e1, e2⟩ := S.ok j t hj2 ne
      refine ⟨v, e1, ?_⟩
      cases t with
      | emp => exact absurd rfl ne
      | raw u => exact e2
      | bob c C fs => obtain ⟨e, dx, fv, k1, k2⟩ := e2; exact ⟨e, dx, fv, k1, k2.to tm fun _ _ _ z => z⟩
      | gob c gs => exact ⟨e2.1, e2.2.to tm fun _ _ _ z => z⟩
      | fix G f => exact ⟨e2.1, e2.1.upd e2.2.1 h0 h2 lst_solid, e2.2.2.to tm⟩
      | dat d => exact Tp.mono tm e2
      | bor ds => obtain ⟨c, vs, e, k1, k2⟩ := e2; exact ⟨c, vs, e, k1, k2.mono tm⟩
      | borD ds => obtain ⟨c, vs, e, k1, k2⟩ := e2; exact ⟨c, vs, e, k1, k2.mono tm⟩
      | own ds =>
        obtain ⟨c, vs, rfl, k0, k1, k2⟩ := e2
        have n : c ≠ a := fun z => e (S.apart i j _ _ a hi hj2 rfl rfl hv (by rw [← z]; exact e1))
        exact ⟨c, vs, rfl, k0, by rw [upd_ne n]; exact k1, k2.mono tm⟩
      | ownD ds =>
        obtain ⟨c, vs, rfl, k0, k1, k2⟩ := e2
        have n : c ≠ a := ne_of k1 h2 (by intro z; cases z)
        exact ⟨c, vs, rfl, k0, by rw [upd_ne n]; exact k1, k2.mono tm⟩
  · have gj : ∃ t', δ[j]? = some t' ∧ t'.ows = true := by
      rcases get_set hj with ⟨e, rfl, hl⟩ | ⟨e, hj2⟩
      · subst e; exact ⟨_, hi, rfl⟩
      · exact ⟨t, hj2, ht⟩
    have gk : ∃ t', δ[k]? = some t' ∧ t'.ows = true := by
      rcases get_set hk with ⟨e, rfl, hl⟩ | ⟨e, hj2⟩
      · subst e; exact ⟨_, hi, rfl⟩
      · exact ⟨u, hj2, hu⟩
    obtain ⟨t', a1, a2⟩ := gj
    obtain ⟨u', b1, b2⟩ := gk
    exact S.apart j k t' u' c a1 b1 a2 b2 ej ek
/-- the own dict of slot i is changed -/
theorem Sd.mutD {H0 H : Hp} {σ : L2.St} {δ : List SD} {i : Nat} {a : Addr} {ds es : List (Key × PyData)} {ws : List (Key × V)} (S : Sd K H0 H σ δ) (hi : δ[i]? = some (.ownD ds)) (hv : σ[i]? = some (some (.ref a))) (hw : KvA K H ws es) :
    Sd K H0 (upd H a (.dK ws)) σ (δ.set i (.ownD es)) := by
  obtain ⟨v, h1, b, vs, rfl, h0, h2, h3⟩ := S.ok i _ hi (by intro z; cases z)
  rw [hv] at h1
  cases h1
  have tm : Tm K H (upd H a (.dK ws)) := fun _ _ z => st_updD z h2
  refine ⟨Gr.lay2 S.gr h0, by rw [List.length_set]; exact S.len, fun j t hj ne => ?_, fun j k t u c hj hk ht hu ej ek => ?_⟩
  · rcases get_set hj with ⟨e, rfl, hl⟩ | ⟨e, hj2⟩
    · subst e
      exact ⟨_, hv, a, ws, rfl, h0, upd_same, hw.mono tm⟩
    · obtain ⟨v, e1, e2⟩ := S.ok j t hj2 ne
      refine ⟨v, e1, ?_⟩
      cases t with
      | emp => exact absurd rfl ne
      | raw u => exact e2
      | bob c C fs => obtain ⟨e, dx, fv, k1, k2⟩ := e2; exact ⟨e, dx, fv, k1, k2.to tm fun _ _ _ z => z⟩
      | gob c gs => exact ⟨e2.1, e2.2.to tm fun _ _ _ z => z⟩
      | fix G f => exact ⟨e2.1, e2.1.upd e2.2.1 h0 h2 dK_solid, e2.2.2.to tm⟩
      | dat d => exact Tp.mono tm e2
      | bor ds => obtain ⟨c, vs, e, k1, k2⟩ := e2; exact ⟨c, vs, e, k1, k2.mono tm⟩
      | borD ds => obtain ⟨c, vs, e, k1, k2⟩ := e2; exact ⟨c, vs, e, k1, k2.mono tm⟩
      | ownD ds =>
        obtain ⟨c, vs, rfl, k0, k1, k2⟩ := e2
        have n : c ≠ a := fun z => e (S.apart i j _ _ a hi hj2 rfl rfl hv (by rw [← z]; exact e1))
        exact ⟨c, vs, rfl, k0, by rw [upd_ne n]; exact k1, k2.mono tm⟩
      | own ds =>
        obtain ⟨c, vs, rfl, k0, k1, k2⟩ := e2
        have n : c ≠ a := ne_of k1 h2 (by intro z; cases z)
        exact ⟨c, vs, rfl, k0, by rw [upd_ne n]; exact k1, k2.mono tm⟩
  · have gj : ∃ t', δ[j]? = some t' ∧ t'.ows = true := by
      rcases get_set hj with ⟨e, rfl, hl⟩ | ⟨e, hj2⟩
      · subst e; exact ⟨_, hi, rfl⟩
      · exact ⟨t, hj2, ht⟩
    have gk : ∃ t', δ[k]? = some t' ∧ t'.ows = true := by
      rcases get_set hk with ⟨e, rfl, hl⟩ | ⟨e, hj2⟩
      · subst e; exact ⟨_, hi, rfl⟩
      · exact ⟨u, hj2, hu⟩
    obtain ⟨t', a1, a2⟩ := gj
    obtain ⟨u', b1, b2⟩ := gk
    exact S.apart j k t' u' c a1 b1 a2 b2 ej ek
end
end Tn

namespace Tn
open PySem L2
/-! ### what values can be passed -/
inductive VA (K : PySem.W.Frag) (H : Hp) : List V → List SD → Prop
  | nil : VA K H [] []
  | cons {v : V} {vs : List V} {s : SD} {ss : List SD} : VS K H H v s → VA K H vs ss → VA K H (v :: vs) (s :: ss)
section
variable {K : PySem.W.Frag}
theorem VS.go {H J : Hp} {v : V} {s : SD} (g : Gr H J) (h : VS K H H v s) : VS K J J v s := by
  cases s with
  | emp => trivial
  | raw u => exact h
  | bob a C fs => obtain ⟨e, dx, fv, h1, h2⟩ := h; exact ⟨e, dx, fv, g _ _ h1, h2.to g.tm fun _ _ _ z => g _ _ z⟩
  | gob a gs => exact ⟨h.1, h.2.to g.tm fun _ _ _ z => g _ _ z⟩
  | fix G s => exact ⟨h.1.then g, h.2.1.tr g, h.2.2.to g.tm⟩
  | dat d => exact Tp.mono g.tm h
  | bor ds => obtain ⟨a, vs, e, h1, h2⟩ := h; exact ⟨a, vs, e, g.sq h1, h2.mono g.tm⟩
  | own ds => obtain ⟨a, vs, e, h0, h1, h2⟩ := h; rw [h0] at h1; cases h1
  | borD ds => obtain ⟨a, vs, e, h1, h2⟩ := h; exact ⟨a, vs, e, g.rd h1, h2.mono g.tm⟩
  | ownD ds => obtain ⟨a, vs, e, h0, h1, h2⟩ := h; rw [h0] at h1; cases h1
theorem VA.go {H J : Hp} (g : Gr H J) : ∀ {vs : List V} {ss : List SD}, VA K H vs ss → VA K J vs ss
  | _, _, .nil => .nil
  | _, _, .cons h t => .cons (h.go g) (VA.go g t)
theorem VA.length {H : Hp} : ∀ {vs : List V} {ss : List SD}, VA K H vs ss → vs.length = ss.length
  | _, _, .nil => rfl
  | _, _, .cons _ t => by rw [List.length_cons, List.length_cons, VA.length t]
theorem VA.app {H : Hp} : ∀ {vs us : List V} {ss ts : List SD}, VA K H vs ss → VA K H us ts → VA K H (vs ++ us) (ss ++ ts)
  | _, _, _, _, .nil, s => s
  | _, _, _, _, .cons r t, s => .cons r (VA.app t s)

/-! ### readings over data -/
def DE (K : PySem.W.Frag) (te : TE) (δ : List SD) (d : PyData) : Prop := ∀ (H0 H : Hp) (σ : L2.St), Sd K H0 H σ δ → ∀ Q : VK, (∀ v J, Gr H J → Tp K J v d → Q v J) → te σ H Q
def DL (K : PySem.W.Frag) (te : TE) (δ : List SD) (ds : List PyData) : Prop := ∀ (H0 H : Hp) (σ : L2.St), Sd K H0 H σ δ → ∀ Q : VK, (∀ a vs J, Gr H J → SqL K J a vs → TpA K J vs ds → Q (.ref a) J) → te σ H Q
def DN (K : PySem.W.Frag) (te : TE) (δ : List SD) (ds : List PyData) : Prop := ∀ (H0 H : Hp) (σ : L2.St), Sd K H0 H σ δ → ∀ Q : VK, (∀ p vs J, Gr H J → H p = none → J p = some (.lst vs) → TpA K J vs ds → Q (.ref p) J) → te σ H Q
def DK (K : PySem.W.Frag) (te : TE) (δ : List SD) (ds : List (Key × PyData)) : Prop := ∀ (H0 H : Hp) (σ : L2.St), Sd K H0 H σ δ → ∀ Q : VK, (∀ a vs J, Gr H J → Rd J a (.dK vs) → KvA K J vs ds → Q (.ref a) J) → te σ H Q
def DM (K : PySem.W.Frag) (te : TE) (δ : List SD) (ds : List (Key × PyData)) : Prop := ∀ (H0 H : Hp) (σ : L2.St), Sd K H0 H σ δ → ∀ Q : VK, (∀ p vs J, Gr H J → H p = none → J p = some (.dK vs) → KvA K J vs ds → Q (.ref p) J) → te σ H Q
def DT (K : PySem.W.Frag) (tt : TT) (δ : List SD) (b : Bool) : Prop := ∀ (H0 H : Hp) (σ : L2.St), Sd K H0 H σ δ → ∀ Q : Bool → Hp → Prop, (∀ J, Gr H J → Q b J) → tt σ H Q
def DA (K : PySem.W.Frag) (ta : TA) (δ : List SD) (ss : List SD) : Prop := ∀ (H0 H : Hp) (σ : L2.St), Sd K H0 H σ δ → ∀ Q : List V → Hp → Prop, (∀ vs J, Gr H J → VA K J vs ss → Q vs J) → ta σ H Q
def DO (K : PySem.W.Frag) (to : TO) (δ : List SD) (o : Option Int) : Prop := ∀ (H0 H : Hp) (σ : L2.St), Sd K H0 H σ δ → ∀ Q : Option Int → Hp → Prop, (∀ J, Gr H J → Q o J) → to σ H Q
variable {δ : List SD} {ta tb te : TE} {tt tu : TT} {x y z d e : PyData} {i j : Int} {ds es : List PyData} {ta' : TA}
theorem DE.is (h : DE K te δ d) (q : d = e) : DE K te δ e := q ▸ h
theorem DT.is {a b : Bool} (h : DT K tt δ a) (q : a = b) : DT K tt δ b := q ▸ h
theorem DL.is (h : DL K te δ ds) (q : ds = es) : DL K te δ es := q ▸ h
theorem DN.is (h : DN K te δ ds) (q : ds = es) : DN K te δ es := q ▸ h
theorem de_var {i : Nat} (h : δ[i]? = some (.dat d)) : DE K (tVar i) δ d := fun H0 H σ S Q q => by
  obtain ⟨v, h1, h2⟩ := S.ok i _ h (by intro z; cases z)
  exact ⟨v, h1, q v H (Gr.rfl' H) h2⟩
theorem dl_bor {i : Nat} (h : δ[i]? = some (.bor ds)) : DL K (tVar i) δ ds := fun H0 H σ S Q q => by
  obtain ⟨v, h1, a, vs, rfl, h2, h3⟩ := S.ok i _ h (by intro z; cases z)
  exact ⟨_, h1, q a vs H (Gr.rfl' H) (S.gr.sq h2) h3⟩
theorem dl_own {i : Nat} (h : δ[i]? = some (.own ds)) : DL K (tVar i) δ ds := fun H0 H σ S Q q => by
  obtain ⟨v, h1, a, vs, rfl, h0, h2, h3⟩ := S.ok i _ h (by intro z; cases z)
  exact ⟨_, h1, q a vs H (Gr.rfl' H) (SqL.of h2) h3⟩
theorem dl_fix {i : Nat} {G : Hp} (h : δ[i]? = some (.fix G (.bor ds))) : DL K (tVar i) δ ds := fun H0 H σ S Q q => by
  obtain ⟨v, h1, _, g, a, vs, rfl, h2, h3⟩ := S.ok i _ h (by intro z; cases z)
  exact ⟨_, h1, q a vs H (Gr.rfl' H) (g.sq h2) h3⟩
theorem DN.dl (h : DN K te δ ds) : DL K te δ ds := fun H0 H σ S Q q => h H0 H σ S Q fun p vs J g _ h1 h2 => q p vs J g (SqL.of h1) h2
theorem dk_bor {i : Nat} {ds : List (Key × PyData)} (h : δ[i]? = some (.borD ds)) : DK K (tVar i) δ ds := fun H0 H σ S Q q => by
  obtain ⟨v, h1, a, vs, rfl, h2, h3⟩ := S.ok i _ h (by intro z; cases z)
  exact ⟨_, h1, q a vs H (Gr.rfl' H) (S.gr.rd h2) h3⟩
theorem dk_own {i : Nat} {ds : List (Key × PyData)} (h : δ[i]? = some (.ownD ds)) : DK K (tVar i) δ ds := fun H0 H σ S Q q => by
  obtain ⟨v, h1, a, vs, rfl, h0, h2, h3⟩ := S.ok i _ h (by intro z; cases z)
  exact ⟨_, h1, q a vs H (Gr.rfl' H) (.inl h2) h3⟩
theorem dk_fix {i : Nat} {G : Hp} {ds : List (Key × PyData)} (h : δ[i]? = some (.fix G (.borD ds))) : DK K (tVar i) δ ds := fun H0 H σ S Q q => by
  obtain ⟨v, h1, _, g, a, vs, rfl, h2, h3⟩ := S.ok i _ h (by intro z; cases z)
  exact ⟨_, h1, q a vs H (Gr.rfl' H) (g.rd h2) h3⟩
theorem DM.dk {ds : List (Key × PyData)} (h : DM K te δ ds) : DK K te δ ds := fun H0 H σ S Q q => h H0 H σ S Q fun p vs J g _ h1 h2 => q p vs J g (.inl h1) h2
theorem de_int {i : Int} : DE K (tC (.int i)) δ (.int i) := fun _ H _ _ _ q => q _ H (Gr.rfl' H) (.int i)
theorem de_bl {b : Bool} : DE K (tC (.bl b)) δ (.bool b) := fun _ H _ _ _ q => q _ H (Gr.rfl' H) (.bl b)
theorem de_non : DE K (tC .non) δ .none := fun _ H _ _ _ q => q _ H (Gr.rfl' H) .non
theorem de_str {s : Str} : DE K (tC (.str s)) δ (.str s) := fun _ H _ _ _ q => q _ H (Gr.rfl' H) (.str s)
/-- an operator, by what it does on such values -/
theorem de_op {r : R2} (ha : DE K ta δ x) (hb : DE K tb δ y) (hr : ∀ H u v, Tp K H u x → Tp K H v y → ∀ Q : VK, (∀ w J, Gr H J → Tp K J w z → Q w J) → r u v H Q) : DE K (tOp r ta tb) δ z :=
  fun H0 H σ S Q q => ha H0 H σ S _ fun u J g hu => hb H0 J σ (S.mono g) _ fun v L g2 hv => hr L u v (hu.mono g2.tm) hv Q fun w M g3 hw => q w M ((g.tr g2).tr g3) hw
theorem de_opI {r : R2} (ha : DE K ta δ (.int i)) (hb : DE K tb δ (.int j)) (hr : ∀ H (Q : VK), (∀ w, Tp K H w z → Q w H) → r (.int i) (.int j) H Q) : DE K (tOp r ta tb) δ z :=
  de_op ha hb fun H u v hu hv Q q => by rw [hu.int_of, hv.int_of]; exact hr H Q fun w hw => q w H (Gr.rfl' H) hw
def rAddX (K : PySem.W.Frag) : R2 := fun x y H Q => rI0 (fun i j => .int (i + j)) x y H Q ∨ rCatA K x y H Q ∨ rCat x y H Q
def rSubX : R2 := rI0 fun i j => .int (i - j)
def rMulX : R2 := rI CMul fun i j => .int (i * j)
def rDivX : R2 := rI CDiv fun i j => .int (i / j)
def rModX : R2 := rI (fun _ j => 0 < j) fun i j => .int (i % j)
def rPowX : R2 := rI CPow fun i j => .int (i ^ j.toNat)
def rLtX : R2 := rI0 fun i j => .bl (decide (i < j))
def rLeX : R2 := rI0 fun i j => .bl (decide (i ≤ j))
def rGtX : R2 := rI0 fun i j => .bl (decide (j < i))
def rGeX : R2 := rI0 fun i j => .bl (decide (j ≤ i))
theorem de_add (ha : DE K ta δ (.int i)) (hb : DE K tb δ (.int j)) : DE K (tOp (rAddX K) ta tb) δ (.int (i + j)) := de_opI ha hb fun H Q q => .inl ⟨i, j, rfl, rfl, q _ (.int _)⟩
theorem de_sub (ha : DE K ta δ (.int i)) (hb : DE K tb δ (.int j)) : DE K (tOp rSubX ta tb) δ (.int (i - j)) := de_opI ha hb fun H Q q => ⟨i, j, rfl, rfl, q _ (.int _)⟩
theorem de_mul (ha : DE K ta δ (.int i)) (hb : DE K tb δ (.int j)) (hc : CMul i j) : DE K (tOp rMulX ta tb) δ (.int (i * j)) := de_opI ha hb fun H Q q => ⟨i, j, rfl, rfl, hc, q _ (.int _)⟩
theorem de_div (ha : DE K ta δ (.int i)) (hb : DE K tb δ (.int j)) (hc : CDiv i j) : DE K (tOp rDivX ta tb) δ (.int (i / j)) := de_opI ha hb fun H Q q => ⟨i, j, rfl, rfl, hc, q _ (.int _)⟩
theorem de_mod (ha : DE K ta δ (.int i)) (hb : DE K tb δ (.int j)) (hc : 0 < j) : DE K (tOp rModX ta tb) δ (.int (i % j)) := de_opI ha hb fun H Q q => ⟨i, j, rfl, rfl, hc, q _ (.int _)⟩
theorem de_pow (ha : DE K ta δ (.int i)) (hb : DE K tb δ (.int j)) (hc : CPow i j) : DE K (tOp rPowX ta tb) δ (.int (i ^ j.toNat)) := de_opI ha hb fun H Q q => ⟨i, j, rfl, rfl, hc, q _ (.int _)⟩
theorem de_lt (ha : DE K ta δ (.int i)) (hb : DE K tb δ (.int j)) : DE K (tOp rLtX ta tb) δ (.bool (decide (i < j))) := de_opI ha hb fun H Q q => ⟨i, j, rfl, rfl, q _ (.bl _)⟩
theorem de_le (ha : DE K ta δ (.int i)) (hb : DE K tb δ (.int j)) : DE K (tOp rLeX ta tb) δ (.bool (decide (i ≤ j))) := de_opI ha hb fun H Q q => ⟨i, j, rfl, rfl, q _ (.bl _)⟩
theorem de_gt (ha : DE K ta δ (.int i)) (hb : DE K tb δ (.int j)) : DE K (tOp rGtX ta tb) δ (.bool (decide (j < i))) := de_opI ha hb fun H Q q => ⟨i, j, rfl, rfl, q _ (.bl _)⟩
theorem de_ge (ha : DE K ta δ (.int i)) (hb : DE K tb δ (.int j)) : DE K (tOp rGeX ta tb) δ (.bool (decide (j ≤ i))) := de_opI ha hb fun H Q q => ⟨i, j, rfl, rfl, q _ (.bl _)⟩
theorem op_or {X : Cx} {f : Value → Value → Sem Value} {r r' : R2} (h : OpR X f r) (h' : OpR X f r') : OpR X f (fun x y H Q => r x y H Q ∨ r' x y H Q) := by
  intro pins s σ H x y v u Q I rx ry q
  rcases q with q | q
  · exact h pins s σ H x y v u Q I rx ry q
  · exact h' pins s σ H x y v u Q I rx ry q
theorem o_add {X : Cx} : OpR X (binaryOp .Add) (rAddX X.K) := op_or op_add (op_or op_catA op_cat)
theorem o_sub {X : Cx} : OpR X (binaryOp .Sub) rSubX := op_sub
theorem o_mul {X : Cx} : OpR X (binaryOp .Mult) rMulX := op_mul
theorem o_div {X : Cx} : OpR X (binaryOp .FloorDiv) rDivX := op_fdiv
theorem o_mod {X : Cx} : OpR X (binaryOp .Mod) rModX := op_mod
theorem o_pow {X : Cx} : OpR X (binaryOp .Pow) rPowX := op_pow
theorem o_lt {X : Cx} : OpR X (compareOp .Lt) rLtX := op_lt
theorem o_le {X : Cx} : OpR X (compareOp .LtE) rLeX := op_le
theorem o_gt {X : Cx} : OpR X (compareOp .Gt) rGtX := op_gt
theorem o_ge {X : Cx} : OpR X (compareOp .GtE) rGeX := op_ge
def rEqX (K : PySem.W.Frag) : R2 := fun x y H Q => rEq x y H Q ∨ rEqD K x y H Q
def rNeX (K : PySem.W.Frag) : R2 := fun x y H Q => rNe x y H Q ∨ rNeD K x y H Q
theorem hu64 {A : Around} {k : Nat} (hr : Room k A) : A.units + 64 < cLine := hr.units
theorem o_eq {X : Cx} (hu : X.A.units + 64 < cLine) : OpR X (compareOp .Eq) (rEqX X.K) := op_or op_eq (op_eqD hu)
theorem o_ne {X : Cx} (hu : X.A.units + 64 < cLine) : OpR X (compareOp .NotEq) (rNeX X.K) := op_or op_ne (op_neD hu)
theorem dec_int {i j : Int} : decide (V.int i = V.int j) = decide (i = j) := by
  by_cases h : i = j
  · subst h; simp
  · have : ¬ (V.int i = V.int j) := fun z => h (by cases z; rfl)
    rw [decide_eq_false h, decide_eq_false this]
theorem dec_bl {i j : Bool} : decide (V.bl i = V.bl j) = decide (i = j) := by cases i <;> cases j <;> rfl
theorem dec_str {i j : Str} : decide (V.str i = V.str j) = decide (i = j) := by
  by_cases h : i = j
  · subst h; simp
  · have : ¬ (V.str i = V.str j) := fun z => h (by cases z; rfl)
    rw [decide_eq_false h, decide_eq_false this]
theorem de_eqI (ha : DE K ta δ (.int i)) (hb : DE K tb δ (.int j)) : DE K (tOp (rEqX K) ta tb) δ (.bool (decide (i = j))) :=
  de_op ha hb fun H u v hu hv Q q => by rw [hu.int_of, hv.int_of]; exact .inl ⟨rfl, by rw [dec_int]; exact q _ H (Gr.rfl' H) (.bl _)⟩
theorem de_neI (ha : DE K ta δ (.int i)) (hb : DE K tb δ (.int j)) : DE K (tOp (rNeX K) ta tb) δ (.bool (!decide (i = j))) :=
  de_op ha hb fun H u v hu hv Q q => by rw [hu.int_of, hv.int_of]; exact .inl ⟨rfl, by rw [dec_int]; exact q _ H (Gr.rfl' H) (.bl _)⟩
theorem de_eqB {i j : Bool} (ha : DE K ta δ (.bool i)) (hb : DE K tb δ (.bool j)) : DE K (tOp (rEqX K) ta tb) δ (.bool (decide (i = j))) :=
  de_op ha hb fun H u v hu hv Q q => by rw [hu.bl_of, hv.bl_of]; exact .inl ⟨rfl, by rw [dec_bl]; exact q _ H (Gr.rfl' H) (.bl _)⟩
theorem de_neB {i j : Bool} (ha : DE K ta δ (.bool i)) (hb : DE K tb δ (.bool j)) : DE K (tOp (rNeX K) ta tb) δ (.bool (!decide (i = j))) :=
  de_op ha hb fun H u v hu hv Q q => by rw [hu.bl_of, hv.bl_of]; exact .inl ⟨rfl, by rw [dec_bl]; exact q _ H (Gr.rfl' H) (.bl _)⟩
theorem de_eqS {i j : Str} (ha : DE K ta δ (.str i)) (hb : DE K tb δ (.str j)) : DE K (tOp (rEqX K) ta tb) δ (.bool (decide (i = j))) :=
  de_op ha hb fun H u v hu hv Q q => by rw [hu.str_of, hv.str_of]; exact .inl ⟨rfl, by rw [dec_str]; exact q _ H (Gr.rfl' H) (.bl _)⟩
theorem de_neS {i j : Str} (ha : DE K ta δ (.str i)) (hb : DE K tb δ (.str j)) : DE K (tOp (rNeX K) ta tb) δ (.bool (!decide (i = j))) :=
  de_op ha hb fun H u v hu hv Q q => by rw [hu.str_of, hv.str_of]; exact .inl ⟨rfl, by rw [dec_str]; exact q _ H (Gr.rfl' H) (.bl _)⟩
theorem de_eqD (ha : DE K ta δ x) (hb : DE K tb δ y) (sx : SeqAt.shaped x = true) (sy : SeqAt.shaped y = true) : DE K (tOp (rEqX K) ta tb) δ (.bool (PyData.eqv x y)) :=
  de_op ha hb fun H u v hu hv Q q => .inr ⟨x, y, hu.dp, hv.dp, sx, sy, q _ H (Gr.rfl' H) (.bl _)⟩
theorem de_neD (ha : DE K ta δ x) (hb : DE K tb δ y) (sx : SeqAt.shaped x = true) (sy : SeqAt.shaped y = true) : DE K (tOp (rNeX K) ta tb) δ (.bool (!PyData.eqv x y)) :=
  de_op ha hb fun H u v hu hv Q q => .inr ⟨x, y, hu.dp, hv.dp, sx, sy, q _ H (Gr.rfl' H) (.bl _)⟩
/-- lists compared -/
theorem de_eqL (ha : DL K ta δ ds) (hb : DL K tb δ es) (sx : SeqAt.shaped (.list ds) = true) (sy : SeqAt.shaped (.list es) = true) : DE K (tOp (rEqX K) ta tb) δ (.bool (PyData.eqv (.list ds) (.list es))) :=
  fun H0 H σ S Q q => ha H0 H σ S _ fun a vs J g hs hv => hb H0 J σ (S.mono g) _ fun b us L g2 hs2 hv2 =>
    .inr ⟨_, _, .lst (g2.sq hs) (hv.mono g2.tm).dp, .lst hs2 hv2.dp, sx, sy, q _ L (g.tr g2) (.bl _)⟩
theorem de_neL (ha : DL K ta δ ds) (hb : DL K tb δ es) (sx : SeqAt.shaped (.list ds) = true) (sy : SeqAt.shaped (.list es) = true) : DE K (tOp (rNeX K) ta tb) δ (.bool (!PyData.eqv (.list ds) (.list es))) :=
  fun H0 H σ S Q q => ha H0 H σ S _ fun a vs J g hs hv => hb H0 J σ (S.mono g) _ fun b us L g2 hs2 hv2 =>
    .inr ⟨_, _, .lst (g2.sq hs) (hv.mono g2.tm).dp, .lst hs2 hv2.dp, sx, sy, q _ L (g.tr g2) (.bl _)⟩
/-! is -/
def rIsX : R2 := fun x y H Q => (y = .non ∧ Q (.bl (decide (x = .non))) H) ∨ rIsB x y H Q
def rIsntX : R2 := fun x y H Q => (y = .non ∧ Q (.bl (!decide (x = .non))) H) ∨ rNotB x y H Q
theorem o_is {X : Cx} : OpR X (compareOp .Is) rIsX := op_or op_isN op_isBl
theorem o_isnt {X : Cx} : OpR X (compareOp .IsNot) rIsntX := op_or op_notN op_notBl
def isN : PyData → Bool
  | .none => true
  | _ => false
theorem Tp.isN {H : Hp} {v : V} {d : PyData} (h : Tp K H v d) : decide (v = .non) = isN d := by cases h <;> rfl
theorem de_isN (ha : DE K ta δ x) : DE K (tOp rIsX ta (tC .non)) δ (.bool (isN x)) :=
  de_op ha de_non fun H u v hu hv Q q => by rw [hv.non_of]; exact .inl ⟨rfl, by rw [hu.isN]; exact q _ H (Gr.rfl' H) (.bl _)⟩
theorem de_isntN (ha : DE K ta δ x) : DE K (tOp rIsntX ta (tC .non)) δ (.bool (!isN x)) :=
  de_op ha de_non fun H u v hu hv Q q => by rw [hv.non_of]; exact .inl ⟨rfl, by rw [hu.isN]; exact q _ H (Gr.rfl' H) (.bl _)⟩
theorem de_isB {i j : Bool} (ha : DE K ta δ (.bool i)) (hb : DE K tb δ (.bool j)) : DE K (tOp rIsX ta tb) δ (.bool (decide (i = j))) :=
  de_op ha hb fun H u v hu hv Q q => by rw [hu.bl_of, hv.bl_of]; exact .inr ⟨_, _, rfl, rfl, q _ H (Gr.rfl' H) (.bl _)⟩
theorem de_isntB {i j : Bool} (ha : DE K ta δ (.bool i)) (hb : DE K tb δ (.bool j)) : DE K (tOp rIsntX ta tb) δ (.bool (!decide (i = j))) :=
  de_op ha hb fun H u v hu hv Q q => by rw [hu.bl_of, hv.bl_of]; exact .inr ⟨_, _, rfl, rfl, q _ H (Gr.rfl' H) (.bl _)⟩
/-! items -/
theorem atI_map {α β : Type} {xs : List α} {ys : List β} {i : Int} {x : α} (hl : xs.length = ys.length) (h : atI xs i = some x) : ∃ j : Nat, xs[j]? = some x ∧ ∀ y, ys[j]? = some y → atI ys i = some y := by
  unfold atI at h
  cases e : ixN xs.length i with
  | none => rw [e] at h; cases h
  | some j =>
    rw [e] at h
    refine ⟨j, h, fun y hy => ?_⟩
    unfold atI
    rw [← hl, e]
    exact hy
theorem TpA.atI {H : Hp} {vs : List V} {ds : List PyData} {i : Int} {d : PyData} (h : TpA K H vs ds) (e : L2.atI ds i = some d) : ∃ v, L2.atI vs i = some v ∧ Tp K H v d := by
  obtain ⟨j, h1, h2⟩ := atI_map h.length.symm e
  obtain ⟨v, h3, h4⟩ := h.get h1
  exact ⟨v, h2 v h3, h4⟩
theorem de_ixT (ha : DE K ta δ (.tuple ds)) (hb : DE K tb δ (.int i)) (h : atI ds i = some d) : DE K (tOp (rIx K) ta tb) δ d :=
  de_op ha hb fun H u v hu hv Q q => by
    obtain ⟨a, xs, rfl, h1, h2⟩ := hu.tup_of
    obtain ⟨w, h3, h4⟩ := h2.atI h
    rw [hv.int_of]
    exact .inr (.inl ⟨a, xs, i, w, rfl, rfl, h1, h3, q w H (Gr.rfl' H) h4⟩)
theorem de_ixL (ha : DL K ta δ ds) (hb : DE K tb δ (.int i)) (h : atI ds i = some d) : DE K (tOp (rIx K) ta tb) δ d :=
  fun H0 H σ S Q q => ha H0 H σ S _ fun a vs J g hs hv => hb H0 J σ (S.mono g) _ fun w L g2 hw => by
    obtain ⟨w', h3, h4⟩ := hv.atI h
    rw [hw.int_of]
    exact .inl ⟨a, vs, i, w', rfl, rfl, g2.sq hs, h3, q w' L (g.tr g2) (h4.mono g2.tm)⟩
/-! builtins -/
def rInt1 : List V → Hp → VK → Prop := fun xs H Q => (∃ i, xs = [.int i] ∧ Q (.int i) H) ∨ ∃ k, xs = [.bl k] ∧ Q (.int (if k then 1 else 0)) H
theorem c_int {X : Cx} : CallR X (.type "int") rInt1 := call_int1
theorem de_int1 (ha : DE K ta δ (.int i)) : DE K (tCB rInt1 (tCons ta tNil)) δ (.int i) := fun H0 H σ S Q q => ha H0 H σ S _ fun v J g hv => by
  rw [hv.int_of]
  exact .inl ⟨i, rfl, q _ J g (.int i)⟩
def rLenX (K : PySem.W.Frag) : List V → Hp → VK → Prop := fun xs H Q => (∃ p ys, xs = [.ref p] ∧ (SqL K H p ys ∨ SqT K H p ys) ∧ Q (.int ys.length) H) ∨ (∃ z, xs = [.str z] ∧ z.length ≤ sizeLine ∧ Q (.int z.length) H)
theorem cr_or {X : Cx} {f : Value} {r r' : List V → Hp → VK → Prop} (h : CallR X f r) (h' : CallR X f r') : CallR X f (fun xs H Q => r xs H Q ∨ r' xs H Q) := by
  intro pins s σ H xs us Q I rx q
  rcases q with q | q
  · exact h pins s σ H xs us Q I rx q
  · exact h' pins s σ H xs us Q I rx q
theorem c_len {X : Cx} : CallR X (.builtin "len") (rLenX X.K) := cr_or call_len_seq call_len_str
theorem de_lenT (ha : DE K ta δ (.tuple ds)) : DE K (tCB (rLenX K) (tCons ta tNil)) δ (.int (ds.length : Int)) := fun H0 H σ S Q q => ha H0 H σ S _ fun v J g hv => by
  obtain ⟨a, xs, rfl, h1, h2⟩ := hv.tup_of
  exact .inl ⟨a, xs, rfl, .inr h1, by rw [h2.length]; exact q _ J g (.int _)⟩
theorem de_lenL (ha : DL K ta δ ds) : DE K (tCB (rLenX K) (tCons ta tNil)) δ (.int (ds.length : Int)) := fun H0 H σ S Q q => ha H0 H σ S _ fun a vs J g hs hv =>
  .inl ⟨a, vs, rfl, .inl hs, by rw [hv.length]; exact q _ J g (.int _)⟩
def rListX (K : PySem.W.Frag) : List V → Hp → VK → Prop := fun xs H Q => ∃ p ys, xs = [.ref p] ∧ (SqL K H p ys ∨ SqT K H p ys) ∧ ∀ l, H l = none → Q (.ref l) (upd H l (.lst ys))
theorem c_list {X : Cx} : CallR X (.type "list") (rListX X.K) := call_list_of
theorem dn_listT (ha : DE K ta δ (.tuple ds)) : DN K (tCB (rListX K) (tCons ta tNil)) δ ds := fun H0 H σ S Q q => ha H0 H σ S _ fun v J g hv => by
  obtain ⟨a, xs, rfl, h1, h2⟩ := hv.tup_of
  exact ⟨a, xs, rfl, .inr h1, fun l hl => q l xs _ (g.tr (Gr.lay hl)) (g.free hl) upd_same (h2.mono (Gr.lay hl).tm)⟩
theorem dn_listL (ha : DL K ta δ ds) : DN K (tCB (rListX K) (tCons ta tNil)) δ ds := fun H0 H σ S Q q => ha H0 H σ S _ fun a vs J g hs hv =>
  ⟨a, vs, rfl, .inl hs, fun l hl => q l vs _ (g.tr (Gr.lay hl)) (g.free hl) upd_same (hv.mono (Gr.lay hl).tm)⟩
def rTupX (K : PySem.W.Frag) : List V → Hp → VK → Prop := fun xs H Q => ∃ p ys, xs = [.ref p] ∧ ((SqL K H p ys ∧ ∀ l, H l = none → Q (.ref l) (upd H l (.tup ys))) ∨ (SqT K H p ys ∧ Q (.ref p) H))
theorem c_tuple {X : Cx} : CallR X (.type "tuple") (rTupX X.K) := call_tuple_of
theorem de_tupleL (ha : DL K ta δ ds) : DE K (tCB (rTupX K) (tCons ta tNil)) δ (.tuple ds) := fun H0 H σ S Q q => ha H0 H σ S _ fun a vs J g hs hv =>
  ⟨a, vs, rfl, .inl ⟨hs, fun l hl => q _ _ (g.tr (Gr.lay hl)) (.tup (SqT.of upd_same) (hv.mono (Gr.lay hl).tm))⟩⟩
theorem de_tupleT (ha : DE K ta δ (.tuple ds)) : DE K (tCB (rTupX K) (tCons ta tNil)) δ (.tuple ds) := fun H0 H σ S Q q => ha H0 H σ S _ fun v J g hv => by
  obtain ⟨a, xs, rfl, h1, h2⟩ := hv.tup_of
  exact ⟨a, xs, rfl, .inr ⟨h1, q _ J g hv⟩⟩
def tyD : PyData → String
  | .none => "NoneType"
  | .bool _ => "bool"
  | .int _ => "int"
  | .str _ => "str"
  | .list _ => "list"
  | .tuple _ => "tuple"
  | .dict _ => "dict"
theorem Tp.ty {H : Hp} {v : V} {d : PyData} (h : Tp K H v d) : TyX K H v (.type (tyD d)) := by
  cases h with
  | non => exact .base .non
  | bl b => exact .base (.bl b)
  | int i => exact .base (.int i)
  | str x => exact .base (.str x)
  | tup h ha =>
    rcases h with (h | ⟨o, h⟩) | ⟨o, its, n, h, c, _⟩
    · exact .base (.tup h)
    · exact .fTuple h
    · exact .kTuple h c
theorem sq_ty {H : Hp} {a : Addr} {vs : List V} (h : SqL K H a vs) : TyX K H (.ref a) (.type "list") := by
  rcases h with (h | ⟨o, h⟩) | ⟨o, its, n, h, c, _⟩
  · exact .base (.lst h)
  · exact .base (.frz h)
  · exact .kList h c
theorem de_isi {n : String} {b : Bool} (ha : DE K ta δ x) (hk : kitB (tyD x) n = some b) : DE K (tCB (rIsi K) (tCons ta (tCons (tC (.ty n)) tNil))) δ (.bool b) := fun H0 H σ S Q q => ha H0 H σ S _ fun v J g hv =>
  ⟨v, .ty n, .type (tyD x), .type n, b, rfl, .ty n, hv.ty, kit_ty hk, q _ J g (.bl b)⟩
theorem de_isiL {n : String} {b : Bool} (ha : DL K ta δ ds) (hk : kitB "list" n = some b) : DE K (tCB (rIsi K) (tCons ta (tCons (tC (.ty n)) tNil))) δ (.bool b) := fun H0 H σ S Q q => ha H0 H σ S _ fun a vs J g hs hv =>
  ⟨_, .ty n, .type "list", .type n, b, rfl, .ty n, sq_ty hs, kit_ty hk, q _ J g (.bl b)⟩
theorem kb_ii : kitB "int" "int" = some true := by decide +kernel
theorem kb_ib : kitB "int" "bool" = some false := by decide +kernel
theorem kb_bi : kitB "bool" "int" = some true := by decide +kernel
theorem kb_bb : kitB "bool" "bool" = some true := by decide +kernel
theorem kb_tt : kitB "tuple" "tuple" = some true := by decide +kernel
theorem kb_it : kitB "int" "tuple" = some false := by decide +kernel
theorem kb_bt : kitB "bool" "tuple" = some false := by decide +kernel
theorem kb_st : kitB "str" "tuple" = some false := by decide +kernel
theorem kb_nt : kitB "NoneType" "tuple" = some false := by decide +kernel
theorem kb_is : kitB "int" "str" = some false := by decide +kernel
theorem kb_ss : kitB "str" "str" = some true := by decide +kernel
theorem kb_sb : kitB "str" "bool" = some false := by decide +kernel
theorem kb_ll : kitB "list" "list" = some true := by decide +kernel
theorem kb_tl : kitB "tuple" "list" = some false := by decide +kernel
theorem kb_lt : kitB "list" "tuple" = some false := by decide +kernel
def rMaxX : List V → Hp → VK → Prop := fun xs H Q => ∃ i j, xs = [.int i, .int j] ∧ Q (.int (if j > i then j else i)) H
def rMinX : List V → Hp → VK → Prop := fun xs H Q => ∃ i j, xs = [.int i, .int j] ∧ Q (.int (if j < i then j else i)) H
theorem c_max {X : Cx} (hc : X.calm = true) : CallR X (.builtin "max") rMaxX := call_max2 hc
theorem c_min {X : Cx} (hc : X.calm = true) : CallR X (.builtin "min") rMinX := call_min2 hc
theorem de_max (ha : DE K ta δ (.int i)) (hb : DE K tb δ (.int j)) : DE K (tCB rMaxX (tCons ta (tCons tb tNil))) δ (.int (if j > i then j else i)) := fun H0 H σ S Q q => ha H0 H σ S _ fun v J g hv => hb H0 J σ (S.mono g) _ fun w L g2 hw => by
  rw [hv.int_of, hw.int_of]
  exact ⟨i, j, rfl, q _ L (g.tr g2) (.int _)⟩
theorem de_min (ha : DE K ta δ (.int i)) (hb : DE K tb δ (.int j)) : DE K (tCB rMinX (tCons ta (tCons tb tNil))) δ (.int (if j < i then j else i)) := fun H0 H σ S Q q => ha H0 H σ S _ fun v J g hv => hb H0 J σ (S.mono g) _ fun w L g2 hw => by
  rw [hv.int_of, hw.int_of]
  exact ⟨i, j, rfl, q _ L (g.tr g2) (.int _)⟩
/-! tests -/
theorem dt_test {b : Bool} (h : DE K te δ (.bool b)) : DT K (tTest te) δ b := fun H0 H σ S Q q => h H0 H σ S _ fun v J g hv => ⟨b, hv.bl_of, q J g⟩
theorem dt_B {b : Bool} (h : DE K te δ (.bool b)) : DT K (tB te) δ b := fun H0 H σ S Q q => h H0 H σ S _ fun v J g hv => ⟨b, hv.bl_of, q J g⟩
theorem dt_and {a b : Bool} (h : DT K tt δ a) (h2 : a = true → DT K tu δ b) : DT K (tAnd tt tu) δ (a && b) := fun H0 H σ S Q q => h H0 H σ S _ fun J g => by
  cases a with
  | true => exact iteT (h2 rfl H0 J σ (S.mono g) _ fun L g2 => q L (g.tr g2))
  | false => exact iteF (q J g)
theorem dt_or {a b : Bool} (h : DT K tt δ a) (h2 : a = false → DT K tu δ b) : DT K (tOr tt tu) δ (a || b) := fun H0 H σ S Q q => h H0 H σ S _ fun J g => by
  cases a with
  | true => exact iteT (q J g)
  | false => exact iteF (h2 rfl H0 J σ (S.mono g) _ fun L g2 => q L (g.tr g2))
theorem dt_not {a : Bool} (h : DT K tt δ a) : DT K (tNot tt) δ (!a) := fun H0 H σ S Q q => h H0 H σ S _ fun J g => q J g
theorem de_and {a b : Bool} (h : DE K ta δ (.bool a)) (h2 : a = true → DE K tb δ (.bool b)) : DE K (tAndV ta tb) δ (.bool (a && b)) := fun H0 H σ S Q q => h H0 H σ S _ fun v J g hv => ⟨a, hv.bl_of, by
  cases a with
  | true => exact iteT (h2 rfl H0 J σ (S.mono g) _ fun w L g2 hw => q w L (g.tr g2) hw)
  | false => exact iteF (q _ J g (.bl _))⟩
theorem de_or {a b : Bool} (h : DE K ta δ (.bool a)) (h2 : a = false → DE K tb δ (.bool b)) : DE K (tOrV ta tb) δ (.bool (a || b)) := fun H0 H σ S Q q => h H0 H σ S _ fun v J g hv => ⟨a, hv.bl_of, by
  cases a with
  | true => exact iteT (q _ J g (.bl _))
  | false => exact iteF (h2 rfl H0 J σ (S.mono g) _ fun w L g2 hw => q w L (g.tr g2) hw)⟩
theorem de_not {a : Bool} (h : DE K ta δ (.bool a)) : DE K (tNotV ta) δ (.bool (!a)) := fun H0 H σ S Q q => h H0 H σ S _ fun v J g hv => ⟨a, hv.bl_of, q _ J g (.bl _)⟩
theorem de_if {b : Bool} (h : DT K tt δ b) (h1 : b = true → DE K ta δ d) (h2 : b = false → DE K tb δ d) : DE K (tIf tt ta tb) δ d := fun H0 H σ S Q q => h H0 H σ S _ fun J g => by
  cases b with
  | true => exact iteT (h1 rfl H0 J σ (S.mono g) _ fun w L g2 hw => q w L (g.tr g2) hw)
  | false => exact iteF (h2 rfl H0 J σ (S.mono g) _ fun w L g2 hw => q w L (g.tr g2) hw)
/-- a chain of two comparisons: a < b < c -/
theorem de_chain {tc : TE} {k : Int} {p q : Int → Int → Bool} (ha : DE K ta δ (.int i)) (hb : DE K tb δ (.int j)) (hc : DE K tc δ (.int k)) : DE K (tChain (rI0 fun i j => .bl (p i j)) (rI0 fun i j => .bl (q i j)) ta tb tc) δ (.bool (p i j && q j k)) :=
  fun H0 H σ S Q hq => ha H0 H σ S _ fun v J g hv => hb H0 J σ (S.mono g) _ fun w L g2 hw => by
    rw [hv.int_of, hw.int_of]
    refine ⟨i, j, rfl, rfl, p i j, rfl, ?_⟩
    have e2 : ∀ c : Bool, p i j = c → ∀ (w : V) (L : Hp), Tp K L w (.bool (c && q j k)) → Tp K L w (.bool (p i j && q j k)) := fun c e w L z => by rw [e]; exact z
    cases e : p i j with
    | false => exact iteF (hq _ L (g.tr g2) (e2 _ e _ _ (Tp.bl false)))
    | true =>
      refine iteT ?_
      refine hc H0 L σ ((S.mono g).mono g2) _ fun u M g3 hu => ?_
      rw [hu.int_of]
      exact ⟨j, k, rfl, rfl, hq _ M ((g.tr g2).tr g3) (e2 _ e _ _ (Tp.bl (q j k)))⟩
/-! displays, arguments, calls -/
theorem da_nil : DA K tNil δ [] := fun _ H _ _ _ q => q [] H (Gr.rfl' H) .nil
theorem da_d {ss : List SD} (h : DE K te δ d) (t : DA K ta' δ ss) : DA K (tCons te ta') δ (.dat d :: ss) := fun H0 H σ S Q q => h H0 H σ S _ fun v J g hv => t H0 J σ (S.mono g) _ fun vs L g2 hvs => q _ L (g.tr g2) (.cons (Tp.mono g2.tm hv) hvs)
theorem da_l {ss : List SD} (h : DL K te δ ds) (t : DA K ta' δ ss) : DA K (tCons te ta') δ (.bor ds :: ss) := fun H0 H σ S Q q => h H0 H σ S _ fun a vs J g hs hv => t H0 J σ (S.mono g) _ fun ws L g2 hvs => q _ L (g.tr g2) (.cons ⟨a, vs, rfl, g2.sq hs, hv.mono g2.tm⟩ hvs)
theorem da_k {ss : List SD} {ds : List (Key × PyData)} (h : DK K te δ ds) (t : DA K ta' δ ss) : DA K (tCons te ta') δ (.borD ds :: ss) := fun H0 H σ S Q q => h H0 H σ S _ fun a vs J g hs hv => t H0 J σ (S.mono g) _ fun ws L g2 hvs => q _ L (g.tr g2) (.cons ⟨a, vs, rfl, g2.rd hs, hv.mono g2.tm⟩ hvs)
theorem VA.dat {H : Hp} : ∀ {vs : List V} {ds : List PyData}, VA K H vs (ds.map .dat) → TpA K H vs ds
  | _, [], h => by cases h; exact .nil
  | _, d :: ds, h => by
    rw [List.map_cons] at h
    cases h with
    | cons h1 h2 => exact .cons h1 (VA.dat h2)
/-- items of a display: all data -/
def DAd (K : PySem.W.Frag) (ta : TA) (δ : List SD) (ds : List PyData) : Prop := ∀ (H0 H : Hp) (σ : L2.St), Sd K H0 H σ δ → ∀ Q : List V → Hp → Prop, (∀ vs J, Gr H J → TpA K J vs ds → Q vs J) → ta σ H Q
theorem dd_nil : DAd K tNil δ [] := fun _ H _ _ _ q => q [] H (Gr.rfl' H) .nil
theorem dd_cons (h : DE K te δ d) (t : DAd K ta' δ ds) : DAd K (tCons te ta') δ (d :: ds) := fun H0 H σ S Q q => h H0 H σ S _ fun v J g hv => t H0 J σ (S.mono g) _ fun vs L g2 hvs => q _ L (g.tr g2) (.cons (hv.mono g2.tm) hvs)
theorem de_tup (h : DAd K ta' δ ds) (hl : ds.length ≤ 1000) : DE K (tTup ta') δ (.tuple ds) := fun H0 H σ S Q q => h H0 H σ S _ fun vs J g hv =>
  ⟨by rw [hv.length]; exact Nat.le_trans hl (by decide), fun p hp => q _ _ (g.tr (Gr.lay hp)) (.tup (SqT.of upd_same) (hv.mono (Gr.lay hp).tm))⟩
theorem dn_lst (h : DAd K ta' δ ds) (hl : ds.length ≤ 1000) : DN K (tLst ta') δ ds := fun H0 H σ S Q q => h H0 H σ S _ fun vs J g hv =>
  ⟨by rw [hv.length]; exact Nat.le_trans hl (by decide), fun p hp => q p vs _ (g.tr (Gr.lay hp)) (g.free hp) upd_same (hv.mono (Gr.lay hp).tm)⟩
/-- a def's promise over data -/
def spR (K : PySem.W.Frag) (R : List SD → SD → Prop) : Sp := fun vs H Q _ => ∃ ss r, R ss r ∧ VA K H vs ss ∧ ∀ v J, Gr H J → VS K H J v r → Q v J
variable {R : List SD → SD → Prop} {E : XK} {ss : List SD}
theorem de_call (h : DA K ta' δ ss) (hR : R ss (.dat d)) : DE K (tCall (spR K R) [] E ta') δ d := fun H0 H σ S Q q => h H0 H σ S _ fun vs J g hv =>
  ⟨ss, _, hR, by rw [List.append_nil]; exact hv, fun v L g2 hv2 => q v L (g.tr g2) hv2⟩
theorem dn_call (h : DA K ta' δ ss) (hR : R ss (.own ds)) : DN K (tCall (spR K R) [] E ta') δ ds := fun H0 H σ S Q q => h H0 H σ S _ fun vs J g hv =>
  ⟨ss, _, hR, by rw [List.append_nil]; exact hv, fun v L g2 hv2 => by
    obtain ⟨p, us, rfl, h0, h1, h2⟩ := hv2
    exact q p us L (g.tr g2) (g.free h0) h1 h2⟩
theorem dm_call {ds : List (Key × PyData)} (h : DA K ta' δ ss) (hR : R ss (.ownD ds)) : DM K (tCall (spR K R) [] E ta') δ ds := fun H0 H σ S Q q => h H0 H σ S _ fun vs J g hv =>
  ⟨ss, _, hR, by rw [List.append_nil]; exact hv, fun v L g2 hv2 => by
    obtain ⟨p, us, rfl, h0, h1, h2⟩ := hv2
    exact q p us L (g.tr g2) (g.free h0) h1 h2⟩
/-- def-s with a default for the last arguments -/
theorem de_callD {dv : List V} {ts : List SD} (h : DA K ta' δ ss) (hd : ∀ H, VA K H dv ts) (hR : R (ss ++ ts) (.dat d)) : DE K (tCall (spR K R) dv E ta') δ d := fun H0 H σ S Q q => h H0 H σ S _ fun vs J g hv =>
  ⟨_, _, hR, hv.app (hd J), fun v L g2 hv2 => q v L (g.tr g2) hv2⟩
/-! slices -/
theorem do_none : DO K tNoPart δ none := fun _ H _ _ _ q => q H (Gr.rfl' H)
theorem do_some (h : DE K te δ (.int i)) : DO K (tPart te) δ (some i) := fun H0 H σ S Q q => h H0 H σ S _ fun v J g hv => ⟨i, hv.int_of, q J g⟩
def rSlX (K : PySem.W.Frag) : V → Option Int → Option Int → Hp → VK → Prop := fun x lo hi H Q => rSlL K x lo hi H Q ∨ rSlA K x lo hi H Q
theorem sl_x {X : Cx} : SlR X (rSlX X.K) := SlR.or sl_list sl_tupA
def cutD (xs : List PyData) (lo hi : Option Int) : List PyData := (xs.drop (HT.sIx xs.length 0 lo)).take (HT.sIx xs.length xs.length hi - HT.sIx xs.length 0 lo)
theorem TpA.cut {H : Hp} {vs : List V} {ds : List PyData} {lo hi : Option Int} (h : TpA K H vs ds) : TpA K H (cutV vs lo hi) (cutD ds lo hi) := by
  unfold cutV cutD
  rw [h.length]
  exact (h.drop _).take _
theorem dn_sl {tl th : TO} {lo hi : Option Int} (h : DL K te δ ds) (h1 : DO K tl δ lo) (h2 : DO K th δ hi) : DN K (tSl (rSlX K) te tl th) δ (cutD ds lo hi) := fun H0 H σ S Q q => h H0 H σ S _ fun a vs J g hs hv =>
  h1 H0 J σ (S.mono g) _ fun L g2 => h2 H0 L σ ((S.mono g).mono g2) _ fun M g3 => .inl ⟨a, vs, rfl, (g2.tr g3).sq hs, fun p hp =>
    q p _ _ (((g.tr g2).tr g3).tr (Gr.lay hp)) (((g.tr g2).tr g3).free hp) upd_same ((hv.cut).mono ((g2.tr g3).tr (Gr.lay hp)).tm)⟩
theorem cut_whole {xs : List PyData} {lo hi : Option Int} (h : HT.sIx xs.length 0 lo = 0 ∧ HT.sIx xs.length xs.length hi = xs.length) : cutD xs lo hi = xs := by
  unfold cutD
  rw [h.1, h.2, List.drop_zero, Nat.sub_zero, List.take_length]
theorem de_slT {tl th : TO} {lo hi : Option Int} (h : DE K te δ (.tuple ds)) (h1 : DO K tl δ lo) (h2 : DO K th δ hi) : DE K (tSl (rSlX K) te tl th) δ (.tuple (cutD ds lo hi)) := fun H0 H σ S Q q => h H0 H σ S _ fun v J g hv =>
  h1 H0 J σ (S.mono g) _ fun L g2 => h2 H0 L σ ((S.mono g).mono g2) _ fun M g3 => by
    obtain ⟨a, xs, rfl, hs, hx⟩ := (hv.mono (g2.tr g3).tm).tup_of
    have hl := hx.length
    refine .inr ⟨a, xs, rfl, hs, fun w => ?_, fun _ p hp => ?_⟩
    · rw [cut_whole (by rw [← hl]; exact w)] at q
      exact q _ M ((g.tr g2).tr g3) (.tup hs hx)
    · exact q _ _ (((g.tr g2).tr g3).tr (Gr.lay hp)) (.tup (SqT.of upd_same) (hx.cut.mono (Gr.lay hp).tm))
theorem de_catT (ha : DE K ta δ (.tuple ds)) (hb : DE K tb δ (.tuple es)) (hl : ds.length + es.length ≤ 100000) : DE K (tOp (rAddX K) ta tb) δ (.tuple (ds ++ es)) := fun H0 H σ S Q q => ha H0 H σ S _ fun v J g hv => hb H0 J σ (S.mono g) _ fun w L g2 hw => by
  obtain ⟨a, xs, rfl, hs, hx⟩ := (hv.mono g2.tm).tup_of
  obtain ⟨b, ys, rfl, hs2, hy⟩ := hw.tup_of
  have l1 := hx.length
  have l2 := hy.length
  refine .inr (.inl ⟨a, b, xs, ys, rfl, rfl, hs, hs2, by rw [l1, l2]; exact Nat.le_trans hl (by decide), fun e => ?_, fun _ e => ?_, fun _ _ p hp => ?_⟩)
  · subst e
    cases hx
    exact q _ L (g.tr g2) (.tup hs2 hy)
  · subst e
    cases hy
    rw [List.append_nil] at q
    exact q _ L (g.tr g2) (.tup hs hx)
  · exact q _ _ ((g.tr g2).tr (Gr.lay hp)) (.tup (SqT.of upd_same) ((hx.app hy).mono (Gr.lay hp).tm))
end
end Tn

namespace Tn
open PySem L2 PySem.Spec PyProof.Rows
/-! ### statements over data -/
inductive Out where
  | nx (δ : List SD) | rt (r : SD) | bk (δ : List SD) | ct (δ : List SD) | ex (δ : List SD) (Φ : L2.St → Hp → Prop)
section
variable {K : PySem.W.Frag}
def OutOk (K : PySem.W.Frag) (H0 : Hp) (D : Ends) : Out → Prop
  | .nx δ => ∀ σ J, Sd K H0 J σ δ → D.nx σ J
  | .rt r => ∀ v J, Gr H0 J → VS K H0 J v r → D.rt v J
  | .bk δ => ∀ σ J, Sd K H0 J σ δ → D.bk σ J
  | .ct δ => ∀ σ J, Sd K H0 J σ δ → D.ct σ J
  | .ex δ Φ => ∀ σ J, Sd K H0 J σ δ → Φ σ J
def WP (K : PySem.W.Frag) (ts : TS) (δ : List SD) (P : Out → Prop) : Prop := ∀ (H0 H : Hp) (σ : L2.St) (D : Ends), Sd K H0 H σ δ → (∀ o, P o → OutOk K H0 D o) → ts D σ H
def thenP (K : PySem.W.Frag) (u : TS) (P : Out → Prop) : Out → Prop
  | .nx δ => WP K u δ P
  | o => P o
variable {δ δ' : List SD} {ta tb te : TE} {tt tu : TT} {x y z d e : PyData} {i j : Nat} {ds es : List PyData} {ta' : TA} {t u : TS} {P P' : Out → Prop} {g : TG} {b : Bool}
theorem WP.less (h : WP K t δ' P) (l : Less δ' δ) : WP K t δ P := fun H0 H σ D S hP => h H0 H σ D (S.less l) hP
theorem WP.imp (h : WP K t δ P) (hp : ∀ o, P o → P' o) : WP K t δ P' := fun H0 H σ D S hP => h H0 H σ D S fun o p => hP o (hp o p)
theorem tw_seq (h : WP K t δ (thenP K u P)) : WP K (tSeq t u) δ P := fun H0 H σ D S hP =>
  h H0 H σ { D with nx := u D } S fun o p => by
    cases o with
    | nx δ => exact fun σ J S' => p H0 J σ D S' hP
    | rt r => exact hP (.rt r) p
    | bk δ => exact hP (.bk δ) p
    | ct δ => exact hP (.ct δ) p
    | ex δ Φ => exact hP (.ex δ Φ) p
theorem tw_next (h : P (.nx δ)) : WP K tNext δ P := fun H0 H σ D S hP => hP _ h σ H S
theorem tw_break (h : P (.bk δ)) : WP K tBreak δ P := fun H0 H σ D S hP => hP _ h σ H S
theorem tw_cont (h : P (.ct δ)) : WP K tCont δ P := fun H0 H σ D S hP => hP _ h σ H S
/-- a way that can't be -/
theorem tw_no (h : False) : WP K t δ P := h.elim
theorem tw_asg (h : DE K te δ d) (k : P (.nx (δ.set i (.dat d)))) : WP K (tAsg te (gName i)) δ P := fun H0 H σ D S hP =>
  h H0 H σ S _ fun v J g hv => hP _ k _ J ((S.mono g).storeD hv)
theorem tw_asgN (h : DN K te δ ds) (k : P (.nx (δ.set i (.own ds)))) : WP K (tAsg te (gName i)) δ P := fun H0 H σ D S hP =>
  h H0 H σ S _ fun p vs J g hp hj hv => hP _ k _ J (S.storeN g hp ⟨p, vs, rfl, S.gr.free hp, hj, hv⟩)
theorem tw_asgM {ds : List (Key × PyData)} (h : DM K te δ ds) (k : P (.nx (δ.set i (.ownD ds)))) : WP K (tAsg te (gName i)) δ P := fun H0 H σ D S hP =>
  h H0 H σ S _ fun p vs J g hp hj hv => hP _ k _ J (S.storeN g hp ⟨p, vs, rfl, S.gr.free hp, hj, hv⟩)
def GTd (K : PySem.W.Frag) (g : TG) (d : PyData) (δ δ' : List SD) : Prop := ∀ (H0 H : Hp) (σ : L2.St) (v : V) (Q : L2.St → Hp → Prop), Sd K H0 H σ δ → Tp K H v d → (∀ σ', Sd K H0 H σ' δ' → Q σ' H) → g v σ H Q
theorem g_name : GTd K (gName i) d δ (δ.set i (.dat d)) := fun H0 H σ v Q S h q => q _ (S.storeD h)
def setsD : List Nat → List PyData → List SD → List SD
  | i :: is, d :: ds, δ => setsD is ds (δ.set i (.dat d))
  | _, _, δ => δ
inductive GN : TGs → List Nat → Prop
  | nil : GN gNil []
  | cons {i : Nat} {t : TGs} {is : List Nat} : GN t is → GN (gCons (gName i) t) (i :: is)
theorem gn_sets {H0 H : Hp} : ∀ {t : TGs} {is : List Nat} {ds : List PyData} {vs : List V} {σ : L2.St} {δ : List SD} {Q : L2.St → Hp → Prop}, GN t is → ds.length = is.length → Sd K H0 H σ δ → TpA K H vs ds → (∀ σ', Sd K H0 H σ' (setsD is ds δ) → Q σ' H) → t vs σ H Q
  | _, _, [], _, _, _, _, .nil, _, S, .nil, q => ⟨rfl, q _ S⟩
  | _, _, d :: ds, _, _, _, _, .cons gn, hl, S, .cons h t, q => ⟨_, _, rfl, gn_sets gn (by simpa using hl) (S.storeD h) t q⟩
  | _, _, [], _, _, _, _, .cons gn, hl, _, _, _ => by simp at hl
  | _, _, d :: ds, _, _, _, _, .nil, hl, _, _, _ => by simp at hl
theorem g_tup {t : TGs} {is : List Nat} {n : Nat} (gn : GN t is) (h1 : ds.length = n) (h2 : is.length = n) : GTd K (gTup K n t) (.tuple ds) δ (setsD is ds δ) := fun H0 H σ v Q S h q => by
  obtain ⟨a, xs, rfl, hs, hx⟩ := h.tup_of
  exact ⟨a, xs, rfl, hs, hx.length.trans h1, gn_sets gn (h1.trans h2.symm) S hx q⟩
theorem tw_asgG (h : DE K te δ d) (hg : GTd K g d δ δ') (k : P (.nx δ')) : WP K (tAsg te g) δ P := fun H0 H σ D S hP =>
  h H0 H σ S _ fun v J g hv => hg H0 J σ v _ (S.mono g) hv fun σ' S' => hP _ k σ' J S'
theorem tw_par (h1 : DE K ta δ d) (h2 : DE K tb δ e) (k : P (.nx ((δ.set i (.dat d)).set j (.dat e)))) : WP K (tPar i j (tCons ta (tCons tb tNil))) δ P := fun H0 H σ D S hP =>
  h1 H0 H σ S _ fun v J g hv => h2 H0 J σ (S.mono g) _ fun w L g2 hw => ⟨v, w, rfl, hP _ k _ L ((((S.mono g).mono g2).storeD (hv.mono g2.tm)).storeD hw)⟩
theorem tw_aug {f : Int → Int → Int} {a b : Int} (hi : δ[i]? = some (.dat (.int a))) (h : DE K te δ (.int b)) (k : P (.nx (δ.set i (.dat (.int (f a b)))))) : WP K (tAug i te (ipI f)) δ P := fun H0 H σ D S hP => by
  obtain ⟨v, h1, h2⟩ := S.ok i _ hi (by intro z; cases z)
  have e := Tp.int_of h2
  subst e
  exact ⟨_, h1, h H0 H σ S _ fun w J g hw => ⟨a, b, rfl, hw.int_of, hP _ k _ J ((S.mono g).storeD (.int _))⟩⟩
theorem tw_if (h : DT K tt δ b) (h1 : b = true → WP K t δ P) (h2 : b = false → WP K u δ P) : WP K (tIfS tt t u) δ P := fun H0 H σ D S hP => h H0 H σ S _ fun J g => by
  cases b with
  | true => exact iteT (h1 rfl H0 J σ D (S.mono g) hP)
  | false => exact iteF (h2 rfl H0 J σ D (S.mono g) hP)
theorem tw_drop (h : DE K te δ d) (k : P (.nx δ)) : WP K (tDrop te) δ P := fun H0 H σ D S hP => h H0 H σ S _ fun v J g hv => hP _ k σ J (S.mono g)
theorem tw_ret (h : DE K te δ d) (k : P (.rt (.dat d))) : WP K (tRet te) δ P := fun H0 H σ D S hP => h H0 H σ S _ fun v J g hv => hP _ k v J (S.gr.tr g) hv
theorem tw_retN' (k : P (.rt (.dat .none))) : WP K tRetN δ P := fun H0 H σ D S hP => hP _ k .non H S.gr .non
theorem tw_retN (h : DN K te δ ds) (k : P (.rt (.own ds))) : WP K (tRet te) δ P := fun H0 H σ D S hP => h H0 H σ S _ fun p vs J g hp hj hv => hP _ k _ J (S.gr.tr g) ⟨p, vs, rfl, S.gr.free hp, hj, hv⟩
theorem tw_retM {ds : List (Key × PyData)} (h : DM K te δ ds) (k : P (.rt (.ownD ds))) : WP K (tRet te) δ P := fun H0 H σ D S hP => h H0 H σ S _ fun p vs J g hp hj hv => hP _ k _ J (S.gr.tr g) ⟨p, vs, rfl, S.gr.free hp, hj, hv⟩
theorem tw_retO (hi : δ[i]? = some (.own ds)) (k : P (.rt (.own ds))) : WP K (tRet (tVar i)) δ P := fun H0 H σ D S hP => by
  obtain ⟨v, h1, h2⟩ := S.ok i _ hi (by intro z; cases z)
  exact ⟨v, h1, hP _ k v H S.gr h2⟩
theorem tw_retOD {ds : List (Key × PyData)} (hi : δ[i]? = some (.ownD ds)) (k : P (.rt (.ownD ds))) : WP K (tRet (tVar i)) δ P := fun H0 H σ D S hP => by
  obtain ⟨v, h1, h2⟩ := S.ok i _ hi (by intro z; cases z)
  exact ⟨v, h1, hP _ k v H S.gr h2⟩
theorem tw_app (hi : δ[i]? = some (.own ds)) (h : DE K te δ d) (hl : ds.length < 100000) (k : P (.nx (δ.set i (.own (ds ++ [d]))))) : WP K (tDrop (tBM K "list" rAppend (tVar i) (tCons te tNil))) δ P := fun H0 H σ D S hP => by
  obtain ⟨v, h1, a, vs, rfl, h0, h2, h3⟩ := S.ok i _ hi (by intro z; cases z)
  refine ⟨_, h1, .inl ⟨rfl, vs, SqL.of h2⟩, h H0 H σ S _ fun w J g hw => ⟨a, vs, w, rfl, rfl, g _ _ h2, ?_, hP _ k σ _ ?_⟩⟩
  · rw [h3.length]; exact Nat.lt_trans hl (by decide)
  · exact (S.mono g).mut hi h1 ((h3.mono g.tm).app (.cons hw .nil))
theorem tw_setI {k' : Int} {n : Nat} (hi : δ[i]? = some (.own ds)) (h : DE K te δ d) (hk : DE K tb δ (.int k')) (hn : ixN ds.length k' = some n) (k : P (.nx (δ.set i (.own (ds.set n d))))) : WP K (tAsg te (gSub (tVar i) tb rSetL)) δ P := fun H0 H σ D S hP => by
  obtain ⟨v, h1, a, vs, rfl, h0, h2, h3⟩ := S.ok i _ hi (by intro z; cases z)
  refine h H0 H σ S _ fun w J g hw => ⟨_, h1, hk H0 J σ (S.mono g) _ fun u L g2 hu => ?_⟩
  rw [hu.int_of]
  refine ⟨a, vs, k', n, rfl, rfl, (g.tr g2) _ _ h2, by rw [h3.length]; exact hn, hP _ k σ _ ?_⟩
  exact ((S.mono g).mono g2).mut hi h1 ((h3.mono (g.tr g2).tm).set (hw.mono g2.tm) n)
/-! loops -/
def loopP (W : Nat → List SD → Prop) (k : Nat) (P : Out → Prop) : Out → Prop
  | .nx δ => ∃ δ', W (k + 1) δ' ∧ Less δ' δ
  | .ct δ => ∃ δ', W (k + 1) δ' ∧ Less δ' δ
  | .bk δ => P (.nx δ)
  | .rt r => P (.rt r)
  | .ex δ Φ => P (.ex δ Φ)
theorem loop_ends {W : Nat → List SD → Prop} {k : Nat} {H0 : Hp} {D : Ends} (hP : ∀ o, P o → OutOk K H0 D o) :
    ∀ o, loopP W k P o → OutOk K H0 { D with nx := fun σ J => ∃ δ, W (k + 1) δ ∧ Sd K H0 J σ δ, ct := fun σ J => ∃ δ, W (k + 1) δ ∧ Sd K H0 J σ δ, bk := D.nx } o
  | .nx δ, ⟨δ', w, l⟩ => fun σ J S => ⟨δ', w, S.less l⟩
  | .ct δ, ⟨δ', w, l⟩ => fun σ J S => ⟨δ', w, S.less l⟩
  | .bk δ, p => fun σ J S => hP (.nx δ) p σ J S
  | .rt r, p => hP (.rt r) p
  | .ex δ Φ, p => hP (.ex δ Φ) p
theorem tw_forR {n : Int} (W : Nat → List SD → Prop) (h : DA K ta' δ [.dat (.int n)]) (hn : n ≤ 1000000) (h0 : ∃ δ', W 0 δ' ∧ Less δ' δ)
    (hs : ∀ (k : Nat) δ', (k : Int) < n → W k δ' → WP K t (δ'.set i (.dat (.int (k : Int)))) (loopP W k P)) (hd : ∀ δ', W n.toNat δ' → P (.nx δ')) (hm : -1000000 ≤ n) : WP K (tFor (iRng1 ta') (gName i) t) δ P := fun H0 H σ D S hP =>
  h H0 H σ S _ fun vs J g hv => by
    cases hv with
    | cons hv t1 =>
      cases t1
      have e := Tp.int_of hv
      subst e
      obtain ⟨δ0, w0, l0⟩ := h0
      refine ⟨n, rfl, by omega, by omega, for_range (lo := 0) (n := n.toNat) (fun k σ J => ∃ δ', W k δ' ∧ Sd K H0 J σ δ') ⟨δ0, w0, (S.mono g).less l0⟩ (fun k σ J hk ⟨δ', w, S'⟩ => ?_) (fun σ J ⟨δ', w, S'⟩ => hP _ (hd δ' w) σ J S')⟩
      have e0 : (0 : Int) + (k : Int) = (k : Int) := Int.zero_add _
      show t _ (σ.set i (some (.int ((0 : Int) + (k : Int))))) J
      rw [e0]
      exact hs k δ' (by omega) w H0 J _ _ (S'.storeD (.int _)) (loop_ends hP)
theorem tw_forR2 {lo n : Int} (W : Nat → List SD → Prop) (h : DA K ta' δ [.dat (.int lo), .dat (.int n)]) (hn : n ≤ 1000000 ∧ -1000000 ≤ n ∧ lo ≤ 1000000 ∧ -1000000 ≤ lo) (h0 : ∃ δ', W 0 δ' ∧ Less δ' δ)
    (hs : ∀ (k : Nat) δ', lo + (k : Int) < n → W k δ' → WP K t (δ'.set i (.dat (.int (lo + (k : Int))))) (loopP W k P)) (hd : ∀ δ', W (n - lo).toNat δ' → P (.nx δ')) : WP K (tFor (iRng2 ta') (gName i) t) δ P := fun H0 H σ D S hP =>
  h H0 H σ S _ fun vs J g hv => by
    cases hv with
    | cons hv t1 =>
      cases t1 with
      | cons hv2 t2 =>
        cases t2
        have e := Tp.int_of hv
        subst e
        have e := Tp.int_of hv2
        subst e
        obtain ⟨δ0, w0, l0⟩ := h0
        refine ⟨lo, n, rfl, ⟨by omega, by omega, by omega, by omega⟩, for_range (lo := lo) (n := (n - lo).toNat) (fun k σ J => ∃ δ', W k δ' ∧ Sd K H0 J σ δ') ⟨δ0, w0, (S.mono g).less l0⟩ (fun k σ J hk ⟨δ', w, S'⟩ => ?_) (fun σ J ⟨δ', w, S'⟩ => hP _ (hd δ' w) σ J S')⟩
        exact hs k δ' (by omega) w H0 J _ _ (S'.storeD (.int _)) (loop_ends hP)
/-- what a for goes over: a list or a tuple -/
def iSeqX (K : PySem.W.Frag) (tl : TE) : TI := fun σ H R => iList K tl σ H R ∨ iTup K tl σ H R
theorem pi_x {X : Cx} {tg l : Expr} {tl : TE} (hl : PE X l tl) : PI X tg l (iSeqX X.K tl) := ⟨fun pins s σ H R I h => by
  rcases h with h | h
  · exact (pi_list hl).run pins s σ H R I h
  · exact (pi_tup hl).run pins s σ H R I h⟩
/-! what a body does keeps tuples -/
def tupB (H0 H : Hp) : Hp := fun b => match H0 b with
  | some o => some o
  | none => match H b with
    | some (.tup xs) => some (.tup xs)
    | some (.frz o (.tup xs)) => some (.frz o (.tup xs))
    | _ => none
theorem tupB_gr (H0 H : Hp) : Gr H0 (tupB H0 H) := fun a o h => by unfold tupB; rw [h]
theorem tupB_to {H0 H : Hp} (g : Gr H0 H) : Gr (tupB H0 H) H := fun a o h => by
  unfold tupB at h
  cases e : H0 a with
  | some u => rw [e] at h; rw [← h]; exact g a u e
  | none =>
    rw [e] at h
    simp only at h
    split at h
    · rename_i xs e2; rw [e2, ← h]
    · rename_i o2 xs e2; rw [e2, ← h]
    · cases h
theorem tupB_at {H0 H : Hp} {a : Addr} {o : HO} (g : Gr H0 H) (h : H a = some o) (ht : (∃ xs, o = .tup xs) ∨ ∃ u xs, o = .frz u (.tup xs)) : tupB H0 H a = some o := by
  unfold tupB
  cases e : H0 a with
  | some u => rw [g a u e] at h; exact h
  | none =>
    rcases ht with ⟨xs, rfl⟩ | ⟨u, xs, rfl⟩
    · simp only [h]
    · simp only [h]
theorem tupB_tm {H0 H L : Hp} (g : Gr H0 H) (g2 : Gr (tupB H0 H) L) : Tm K H L := fun a xs h => by
  rcases h with (h | ⟨o, h⟩) | h
  · exact .inl (.inl (g2 _ _ (tupB_at g h (.inl ⟨_, rfl⟩))))
  · exact .inl (.inr ⟨o, g2 _ _ (tupB_at g h (.inr ⟨_, _, rfl⟩))⟩)
  · exact .inr h
theorem tupB_none {H0 H : Hp} {p : Addr} (h : tupB H0 H p = none) : H0 p = none := (tupB_gr H0 H).free h
theorem tupB_new {H0 H : Hp} {p : Addr} {o : HO} (h : H0 p = none) (e : H p = some o) (ht : (∀ xs, o ≠ .tup xs) ∧ ∀ u xs, o ≠ .frz u (.tup xs)) : tupB H0 H p = none := by
  unfold tupB
  rw [h]
  simp only
  split
  · rename_i xs e2; rw [e2] at e; exact absurd (Option.some.inj e).symm (ht.1 xs)
  · rename_i u xs e2; rw [e2] at e; exact absurd (Option.some.inj e).symm (ht.2 u xs)
  · rfl
theorem tupB_rd {H0 H : Hp} {a : Addr} {u : HO} (h : Rd (tupB H0 H) a u) (hu : ∀ xs, u ≠ .tup xs) (hu2 : ∀ o xs, u ≠ .frz o (.tup xs)) : Rd H0 a u := by
  cases e : H0 a with
  | some o =>
    have e2 := (tupB_gr H0 H) a o e
    rcases h with h | ⟨o', h⟩
    · rw [e2] at h; rw [Rd, e]; exact .inl h
    · rw [e2] at h; rw [Rd, e]; exact .inr ⟨o', h⟩
  | none =>
    unfold Rd tupB at h
    rw [e] at h
    simp only at h
    split at h
    · rename_i xs e2
      rcases h with h | ⟨o, h⟩
      · exact absurd (Option.some.inj h).symm (hu xs)
      · cases h
    · rename_i o xs e2
      rcases h with h | ⟨o2, h⟩
      · exact absurd (Option.some.inj h).symm (hu2 _ _)
      · have h3 := Option.some.inj h
        injection h3 with h4 h5
        exact absurd h5.symm (hu xs)
    · rcases h with h | ⟨o, h⟩
      · cases h
      · cases h
theorem tupB_was {H0 H : Hp} {a : Addr} {o : HO} (h : tupB H0 H a = some o) (ht : (∀ xs, o ≠ .tup xs) ∧ ∀ u xs, o ≠ .frz u (.tup xs)) : H0 a = some o := by
  cases e : H0 a with
  | some u => unfold tupB at h; rw [e] at h; exact h
  | none =>
    unfold tupB at h
    rw [e] at h
    simp only at h
    split at h
    · rename_i xs e2; exact absurd (Option.some.inj h).symm (ht.1 xs)
    · rename_i u xs e2; exact absurd (Option.some.inj h).symm (ht.2 u xs)
    · cases h
theorem VS.up {H0 H J : Hp} {v : V} {s : SD} (g : Gr H0 H) (hj : ∀ p o, H0 p = none → J p = some o → tupB H0 H p = none ∨ (∃ xs, o = .tup xs) ∨ ∃ u xs, o = .frz u (.tup xs)) (h : VS K H0 J v s) : VS K (tupB H0 H) J v s := by
  cases s with
  | emp => trivial
  | raw u => exact h
  | bob a C fs => obtain ⟨e, dx, fv, h1, h2⟩ := h; exact ⟨e, dx, fv, tupB_gr H0 H _ _ h1, h2.to (fun _ _ z => z) fun _ _ _ z => tupB_gr H0 H _ _ z⟩
  | gob a gs => exact ⟨h.1, h.2.to (fun _ _ z => z) fun _ _ _ z => tupB_gr H0 H _ _ z⟩
  | fix G s => exact ⟨h.1.then (tupB_gr H0 H), h.2⟩
  | dat d => exact h
  | bor ds => obtain ⟨a, vs, e, h1, h2⟩ := h; exact ⟨a, vs, e, (tupB_gr H0 H).sq h1, h2⟩
  | own ds =>
    obtain ⟨a, vs, e, h0, h1, h2⟩ := h
    refine ⟨a, vs, e, ?_, h1, h2⟩
    rcases hj a _ h0 h1 with z | ⟨xs, z⟩ | ⟨u, xs, z⟩
    · exact z
    · cases z
    · cases z
  | borD ds => obtain ⟨a, vs, e, h1, h2⟩ := h; exact ⟨a, vs, e, (tupB_gr H0 H).rd h1, h2⟩
  | ownD ds =>
    obtain ⟨a, vs, e, h0, h1, h2⟩ := h
    refine ⟨a, vs, e, ?_, h1, h2⟩
    rcases hj a _ h0 h1 with z | ⟨xs, z⟩ | ⟨u, xs, z⟩
    · exact z
    · cases z
    · cases z
theorem VS.down {H0 H J : Hp} {v : V} {s : SD} (h : VS K (tupB H0 H) J v s) : VS K H0 J v s := by
  cases s with
  | emp => trivial
  | raw u => exact h
  | bob a C fs =>
    obtain ⟨e, dx, fv, h1, h2⟩ := h
    exact ⟨e, dx, fv, tupB_was h1 ⟨(fun xs z => by cases z), (fun u xs z => by cases z)⟩, h2.to (fun _ _ z => z) fun _ _ c z => tupB_was z c.ntup⟩
  | gob a gs =>
    exact ⟨h.1, h.2.to (fun _ _ z => z) fun q o c z => tupB_was z (by rcases c with ⟨C, dx, fs, rfl⟩ | c; exact ⟨(fun xs z => by cases z), (fun u xs z => by cases z)⟩; exact c.ntup)⟩
  | fix G s =>
    exact ⟨fun a o n e => tupB_was (h.1 a o n e) ⟨fun xs z => n (.inl ⟨xs, z⟩), fun u xs z => n (.inr ⟨u, xs, z⟩)⟩, h.2⟩
  | dat d => exact h
  | bor ds =>
    obtain ⟨a, vs, e, h1, h2⟩ := h
    refine ⟨a, vs, e, ?_, h2⟩
    rcases h1 with h1 | h1
    · exact .inl (tupB_rd h1 (fun xs z => by cases z) (fun o xs z => by cases z))
    · exact .inr h1
  | own ds => obtain ⟨a, vs, e, h0, h1, h2⟩ := h; exact ⟨a, vs, e, tupB_none h0, h1, h2⟩
  | borD ds =>
    obtain ⟨a, vs, e, h1, h2⟩ := h
    exact ⟨a, vs, e, tupB_rd h1 (fun xs z => by cases z) (fun o xs z => by cases z), h2⟩
  | ownD ds => obtain ⟨a, vs, e, h0, h1, h2⟩ := h; exact ⟨a, vs, e, tupB_none h0, h1, h2⟩
theorem Sd.up {H0 H : Hp} {σ : L2.St} (S : Sd K H0 H σ δ) : Sd K (tupB H0 H) H σ δ :=
  ⟨tupB_to S.gr, S.len, fun i s h ne => by
    obtain ⟨v, h1, h2⟩ := S.ok i s h ne
    refine ⟨v, h1, VS.up S.gr (fun p o hp ho => ?_) h2⟩
    by_cases ht : (∃ xs, o = .tup xs) ∨ ∃ u xs, o = .frz u (.tup xs)
    · exact .inr ht
    · exact .inl (tupB_new hp ho ⟨fun xs z => ht (.inl ⟨xs, z⟩), fun u xs z => ht (.inr ⟨u, xs, z⟩)⟩), S.apart⟩
theorem Sd.down {H0 H J : Hp} {σ : L2.St} (S : Sd K (tupB H0 H) J σ δ) : Sd K H0 J σ δ :=
  ⟨(tupB_gr H0 H).tr S.gr, S.len, fun i s h ne => by
    obtain ⟨v, h1, h2⟩ := S.ok i s h ne
    exact ⟨v, h1, h2.down⟩, S.apart⟩
def OutT (K : PySem.W.Frag) (H0 H : Hp) (D : Ends) : Out → Prop
  | .nx δ => ∀ σ J, Tm K H J → Sd K H0 J σ δ → D.nx σ J
  | .rt r => ∀ v J, Tm K H J → Gr H0 J → VS K H0 J v r → D.rt v J
  | .bk δ => ∀ σ J, Tm K H J → Sd K H0 J σ δ → D.bk σ J
  | .ct δ => ∀ σ J, Tm K H J → Sd K H0 J σ δ → D.ct σ J
  | .ex δ Φ => ∀ σ J, Tm K H J → Sd K H0 J σ δ → Φ σ J
/-- the same, with the tuples that stay -/
theorem WP.tm (h : WP K t δ P) {H0 H : Hp} {σ : L2.St} {D : Ends} (S : Sd K H0 H σ δ) (hP : ∀ o, P o → OutT K H0 H D o) : t D σ H :=
  h (tupB H0 H) H σ D S.up fun o p => by
    have q := hP o p
    cases o with
    | nx δ => exact fun σ J S' => q σ J (tupB_tm S.gr S'.gr) S'.down
    | rt r => exact fun v J g hv => q v J (tupB_tm S.gr g) ((tupB_gr H0 H).tr g) hv.down
    | bk δ => exact fun σ J S' => q σ J (tupB_tm S.gr S'.gr) S'.down
    | ct δ => exact fun σ J S' => q σ J (tupB_tm S.gr S'.gr) S'.down
    | ex δ Φ => exact fun σ J S' => q σ J (tupB_tm S.gr S'.gr) S'.down
theorem tw_forT (W : Nat → List SD → Prop) (h : DE K te δ (.tuple ds)) (h0 : ∃ δ', W 0 δ' ∧ Less δ' δ)
    (hs : ∀ (k : Nat) d δ', ds[k]? = some d → W k δ' → ∃ δ2, GTd K g d δ' δ2 ∧ WP K t δ2 (loopP W k P)) (hd : ∀ δ', W ds.length δ' → P (.nx δ')) : WP K (tFor (iSeqX K te) g t) δ P := fun H0 H σ D S hP =>
  .inr (h H0 H σ S _ fun v J g' hv => by
    obtain ⟨a, xs, rfl, hq, hx⟩ := hv.tup_of
    obtain ⟨δ0, w0, l0⟩ := h0
    have hl := hx.length
    refine ⟨a, rfl, ⟨xs, hq⟩, for_tup (K := K) (a := a) (xs := xs) (fun k σ L => ∃ δ', W k δ' ∧ Sd K H0 L σ δ' ∧ SqT K L a xs ∧ TpA K L xs ds) ⟨δ0, w0, (S.mono g').less l0, hq, hx⟩ (fun k σ L _ ⟨_, _, _, q, _⟩ => q) (fun k x σ L hk ⟨δ', w, S', q, hx'⟩ => ?_) (fun σ L ⟨δ', w, S', _⟩ => hP _ (hd δ' (by rw [← hl]; exact w)) σ L S')⟩
    obtain ⟨d, hd1, hd2⟩ := hx'.getV hk
    obtain ⟨δ2, hg, hw⟩ := hs k d δ' hd1 w
    refine hg H0 L σ x _ S' hd2 fun σ' S2 => ?_
    refine hw.tm S2 fun o p => ?_
    cases o with
    | nx δ => obtain ⟨δ3, w3, l3⟩ := p; exact fun σ J tm S' => ⟨δ3, w3, S'.less l3, tm _ _ q, hx'.mono tm⟩
    | ct δ => obtain ⟨δ3, w3, l3⟩ := p; exact fun σ J tm S' => ⟨δ3, w3, S'.less l3, tm _ _ q, hx'.mono tm⟩
    | bk δ => exact fun σ J tm S' => hP (.nx δ) p σ J S'
    | rt r => exact fun v J tm g hv => hP (.rt r) p v J g hv
    | ex δ Φ => exact fun σ J tm S' => hP (.ex δ Φ) p σ J S')
/-- over a list that was handed in -/
theorem tw_forL {j : Nat} (W : Nat → List SD → Prop) (h : δ[j]? = some (.bor ds)) (h0 : ∃ δ', W 0 δ' ∧ Less δ' δ)
    (hs : ∀ (k : Nat) d δ', ds[k]? = some d → W k δ' → ∃ δ2, GTd K g d δ' δ2 ∧ WP K t δ2 (loopP W k P)) (hd : ∀ δ', W ds.length δ' → P (.nx δ')) : WP K (tFor (iSeqX K (tVar j)) g t) δ P := fun H0 H σ D S hP => by
  obtain ⟨v, h1, a, xs, rfl, hq, hx⟩ := S.ok j _ h (by intro z; cases z)
  refine .inl ⟨_, h1, ?_⟩
  obtain ⟨δ0, w0, l0⟩ := h0
  have hl := hx.length
  refine ⟨a, rfl, ⟨xs, S.gr.sq hq⟩, for_list (K := K) (a := a) (xs := xs) (fun k σ L => ∃ δ', W k δ' ∧ Sd K H0 L σ δ' ∧ TpA K L xs ds) ⟨δ0, w0, S.less l0, hx⟩ (fun k σ L _ ⟨_, _, S', _⟩ => S'.gr.sq hq) (fun k x σ L hk ⟨δ', w, S', hx'⟩ => ?_) (fun σ L ⟨δ', w, S', _⟩ => hP _ (hd δ' (by rw [← hl]; exact w)) σ L S')⟩
  obtain ⟨d, hd1, hd2⟩ := hx'.getV hk
  obtain ⟨δ2, hg, hw⟩ := hs k d δ' hd1 w
  refine hg H0 L σ x _ S' hd2 fun σ' S2 => ?_
  refine hw.tm S2 fun o p => ?_
  cases o with
  | nx δ => obtain ⟨δ3, w3, l3⟩ := p; exact fun σ J tm S' => ⟨δ3, w3, S'.less l3, hx'.mono tm⟩
  | ct δ => obtain ⟨δ3, w3, l3⟩ := p; exact fun σ J tm S' => ⟨δ3, w3, S'.less l3, hx'.mono tm⟩
  | bk δ => exact fun σ J tm S' => hP (.nx δ) p σ J S'
  | rt r => exact fun v J tm g hv => hP (.rt r) p v J g hv
  | ex δ Φ => exact fun σ J tm S' => hP (.ex δ Φ) p σ J S'
/-! a list of one's own that is only read from here on -/
def RetOnly (P : Out → Prop) : Prop := ∀ o, P o → match o with
  | .rt (.dat _) => True
  | .rt (.own _) => True
  | .rt (.ownD _) => True
  | _ => False
theorem tw_freeze (hP : RetOnly P) (hi : δ[i]? = some (.own ds)) (h : WP K t (δ.set i (.bor ds)) P) : WP K t δ P := fun H0 H σ D S hD => by
  obtain ⟨v, h1, a, xs, rfl, h0, h2, hx⟩ := S.ok i _ hi (by intro z; cases z)
  have il : i < δ.length := (List.getElem?_eq_some_iff.mp hi).1
  have g1 : Gr H0 (upd H0 a (.lst xs)) := Gr.lay h0
  refine h (upd H0 a (.lst xs)) H σ D ⟨fun b o e => ?_, by rw [List.length_set]; exact S.len, fun j s hj ne => ?_, fun j k s u b hj hk hs hu ej ek => ?_⟩ fun o p => ?_
  · by_cases n : b = a
    · subst n; rw [upd_same] at e; rw [← e]; exact h2
    · rw [upd_ne n] at e; exact S.gr b o e
  · rcases get_set hj with ⟨rfl, rfl, hl⟩ | ⟨n, hj2⟩
    · exact ⟨_, h1, a, xs, rfl, SqL.of upd_same, hx⟩
    · obtain ⟨w, k1, k2⟩ := S.ok j s hj2 ne
      refine ⟨w, k1, ?_⟩
      cases s with
      | emp => trivial
      | raw u => exact k2
      | bob b C fs => obtain ⟨e, dx, fv, q1, q2⟩ := k2; exact ⟨e, dx, fv, g1 _ _ q1, q2.to (fun _ _ z => z) fun _ _ _ z => g1 _ _ z⟩
      | gob b gs => exact ⟨k2.1, k2.2.to (fun _ _ z => z) fun _ _ _ z => g1 _ _ z⟩
      | fix G f => exact ⟨k2.1.then g1, k2.2⟩
      | dat d => exact k2
      | bor ds => obtain ⟨b, vs, e, q1, q2⟩ := k2; exact ⟨b, vs, e, g1.sq q1, q2⟩
      | borD ds => obtain ⟨b, vs, e, q1, q2⟩ := k2; exact ⟨b, vs, e, g1.rd q1, q2⟩
      | own ds =>
        obtain ⟨b, vs, rfl, q0, q1, q2⟩ := k2
        have nb : b ≠ a := fun z => n (S.apart i j _ _ a hi hj2 rfl rfl h1 (by rw [← z]; exact k1))
        exact ⟨b, vs, rfl, by rw [upd_ne nb]; exact q0, q1, q2⟩
      | ownD ds =>
        obtain ⟨b, vs, rfl, q0, q1, q2⟩ := k2
        have nb : b ≠ a := ne_of q1 h2 (by intro z; cases z)
        exact ⟨b, vs, rfl, by rw [upd_ne nb]; exact q0, q1, q2⟩
  · rcases get_set hj with ⟨rfl, rfl, hl⟩ | ⟨n, hj2⟩
    · cases hs
    · rcases get_set hk with ⟨rfl, rfl, hl⟩ | ⟨n2, hk2⟩
      · cases hu
      · exact S.apart j k s u b hj2 hk2 hs hu ej ek
  · have q := hD o p
    have z := hP o p
    cases o with
    | rt r =>
      intro v J g hv
      refine q v J (g1.tr g) ?_
      cases r with
      | dat d => exact hv
      | own ds => obtain ⟨b, vs, e, q0, q1, q2⟩ := hv; exact ⟨b, vs, e, g1.free q0, q1, q2⟩
      | ownD ds => obtain ⟨b, vs, e, q0, q1, q2⟩ := hv; exact ⟨b, vs, e, g1.free q0, q1, q2⟩
      | _ => exact z.elim
    | _ => exact z.elim
end
/-! a def -/
def startD (N : List Str) (ss : List SD) : List SD := ss ++ List.replicate (N.length - ss.length) .emp
def fnO (r : SD) : Out → Prop
  | .nx _ => r = .dat .none
  | .rt r' => r' = r
  | _ => False
section
variable {K : PySem.W.Frag}
theorem va_get {H : Hp} : ∀ {vs : List V} {ss : List SD} {i : Nat} {s : SD}, VA K H vs ss → ss[i]? = some s → ∃ v, vs[i]? = some v ∧ VS K H H v s
  | _, _, _, _, .nil, e => by simp at e
  | _, _, 0, _, .cons r _, e => by simp at e; subst e; exact ⟨_, rfl, r⟩
  | _, _, i + 1, d, .cons _ t, e => by
    obtain ⟨u, h1, h2⟩ := va_get (i := i) (s := d) t (by simpa using e)
    exact ⟨u, by simpa using h1, h2⟩
theorem no_own {H : Hp} {v : V} {s : SD} (h : VS K H H v s) : s.ows = false := by
  cases s with
  | own ds => obtain ⟨a, vs, e, h0, h1, h2⟩ := h; rw [h0] at h1; cases h1
  | ownD ds => obtain ⟨a, vs, e, h0, h1, h2⟩ := h; rw [h0] at h1; cases h1
  | _ => rfl
theorem start_get {N : List Str} {ss : List SD} {i : Nat} {s : SD} (h : (startD N ss)[i]? = some s) : (ss[i]? = some s) ∨ s = .emp := by
  unfold startD at h
  rw [List.getElem?_append] at h
  split at h
  · exact .inl h
  · rw [List.getElem?_replicate] at h
    split at h
    · exact .inr (Option.some.inj h).symm
    · cases h
theorem sd_start {H : Hp} {N : List Str} {vs : List V} {ss : List SD} (h : VA K H vs ss) : Sd K H H (L2.start N vs) (startD N ss) := by
  have hl := h.length
  refine ⟨Gr.rfl' H, ?_, fun i s hi ne => ?_, fun i j s t a hi hj hs ht _ _ => ?_⟩
  · unfold L2.start startD
    simp [hl]
  · rcases start_get hi with hi | rfl
    · obtain ⟨v, h1, h2⟩ := va_get h hi
      refine ⟨v, ?_, h2⟩
      unfold L2.start
      have il : i < vs.length := (List.getElem?_eq_some_iff.mp h1).1
      rw [List.getElem?_append_left (by rw [List.length_map]; exact il), List.getElem?_map, h1]
      rfl
    · exact absurd rfl ne
  · rcases start_get hi with hi | rfl
    · obtain ⟨v, h1, h2⟩ := va_get h hi
      rw [no_own h2] at hs
      cases hs
    · cases hs
section
variable {P : Program} {w : World} {mg : Str → Option Value} {base : Heap}
theorem fn_R {x qual : Str} {st : Stmt} {f : Addr} {fd : FuncData} {N ps : List Str} {k : Nat} {R : List SD → SD → Prop} (F : Fun K x qual st f fd) (S : FnScope N ps (defScope st)) (len : ∀ ss r, R ss r → ss.length = ps.length)
    (hb : ∀ (cdv : Value) (A : Around) (outer : List Env) (s : Shared) (H : Hp) (E : XK), Room k (A.deeper (envOfC qual (defScope st) s.heap.objs.size f cdv)) →
      ∃ t, PSs (cxOf CX0 P w K mg base N qual (defScope st) f cdv A outer s H E).nox (defBody st) t ∧ ∀ ss r, R ss r → WP K t (startD N ss) (fnO r)) : FnOk P w K mg base CX0 (k + 1) f fd ps (spR K R) := by
  refine F.ok S (fun vs H Q E h => ?_) (fun cdv A outer s H vs Q E hr h => ?_)
  · obtain ⟨ss, r, hR, hv, _⟩ := h
    exact hv.length.trans (len ss r hR)
  · obtain ⟨ss, r, hR, hv, q⟩ := h
    obtain ⟨t, ht, hw⟩ := hb cdv A outer s H E hr
    refine ⟨t, ht, hw ss r hR H H _ _ (sd_start hv) fun o p => ?_⟩
    cases o with
    | nx δ =>
      have e : r = .dat .none := p
      subst e
      exact fun σ J S' => q .non J S'.gr .non
    | rt r' =>
      have e : r' = r := p
      subst e
      exact fun v J g hv => q v J g hv
    | bk δ => exact False.elim p
    | ct δ => exact False.elim p
    | ex δ Φ => exact False.elim p
end
end
end Tn

namespace Tn
open PySem L2 PySem.Spec PyProof.Rows
section
variable {K : PySem.W.Frag} {u : TS} {P : Out → Prop} {δ : List SD} {r : SD}
theorem then_nx (h : WP K u δ P) : thenP K u P (.nx δ) := h
theorem then_rt (h : P (.rt r)) : thenP K u P (.rt r) := h
theorem then_bk (h : P (.bk δ)) : thenP K u P (.bk δ) := h
theorem then_ct (h : P (.ct δ)) : thenP K u P (.ct δ) := h
theorem tw_seqA {te : TE} {g : TG} (h : WP K (tAsg te g) δ (thenP K u P)) : WP K (tSeq (tAsg te g) u) δ P := tw_seq h
theorem tw_seqR {te : TE} (h : WP K (tRet te) δ (thenP K u P)) : WP K (tSeq (tRet te) u) δ P := tw_seq h
theorem tw_seqD {te : TE} (h : WP K (tDrop te) δ (thenP K u P)) : WP K (tSeq (tDrop te) u) δ P := tw_seq h
theorem tw_seqI {c : TT} {a b : TS} (h : WP K (tIfS c a b) δ (thenP K u P)) : WP K (tSeq (tIfS c a b) u) δ P := tw_seq h
theorem tw_seqG {a b c : TE} (h : WP K (sDPut a b c) δ (thenP K u P)) : WP K (tSeq (sDPut a b c) u) δ P := tw_seq h
theorem tw_seqP {i j : Nat} {a : TA} (h : WP K (tPar i j a) δ (thenP K u P)) : WP K (tSeq (tPar i j a) u) δ P := tw_seq h
theorem tw_seqU {i : Nat} {a : TE} {b : TIp} (h : WP K (tAug i a b) δ (thenP K u P)) : WP K (tSeq (tAug i a b) u) δ P := tw_seq h
theorem tw_seqN (h : WP K tNext δ (thenP K u P)) : WP K (tSeq tNext u) δ P := tw_seq h
theorem fn_rt {r' : SD} (h : r' = r) : fnO r (.rt r') := h
theorem loop_nx {W : Nat → List SD → Prop} {k : Nat} (h : ∃ δ', W (k + 1) δ' ∧ Less δ' δ) : loopP W k P (.nx δ) := h
theorem loop_ct {W : Nat → List SD → Prop} {k : Nat} (h : ∃ δ', W (k + 1) δ' ∧ Less δ' δ) : loopP W k P (.ct δ) := h
theorem loop_bk {W : Nat → List SD → Prop} {k : Nat} (h : P (.nx δ)) : loopP W k P (.bk δ) := h
theorem loop_rt {W : Nat → List SD → Prop} {k : Nat} (h : P (.rt r)) : loopP W k P (.rt r) := h
theorem less_eq {s s' : SD} {δ δ' : List SD} (e : s' = s) (l : Less δ' δ) : Less (s' :: δ') (s :: δ) := e ▸ Less.same l
theorem ret_bool {b : Bool} : RetOnly (fnO (.dat (.bool b))) := fun o p => by
  cases o with
  | rt r => have e : r = .dat (.bool b) := p; subst e; trivial
  | nx δ => cases (show SD.dat (.bool b) = .dat .none from p)
  | bk δ => exact p.elim
  | ct δ => exact p.elim
  | ex δ Φ => exact p.elim
theorem ret_tup {b : List PyData} : RetOnly (fnO (.dat (.tuple b))) := fun o p => by
  cases o with
  | rt r => have e : r = .dat (.tuple b) := p; subst e; trivial
  | nx δ => cases (show SD.dat (.tuple b) = .dat .none from p)
  | bk δ => exact p.elim
  | ct δ => exact p.elim
  | ex δ Φ => exact p.elim
variable {te : TE} {ta' : TA} {d : PyData} {i : Int}
theorem de_neg (h : DE K te δ (.int i)) : DE K (tUn (rU fun i => .int (-i)) te) δ (.int (-i)) := fun H0 H σ S Q q => h H0 H σ S _ fun v J g hv => ⟨i, hv.int_of, q _ J g (.int _)⟩
theorem b_int : bootBuiltins "int" = some (.type "int") := by decide +kernel
theorem b_bool : bootBuiltins "bool" = some (.type "bool") := by decide +kernel
theorem b_tuple : bootBuiltins "tuple" = some (.type "tuple") := by decide +kernel
theorem b_list : bootBuiltins "list" = some (.type "list") := by decide +kernel
theorem b_str : bootBuiltins "str" = some (.type "str") := by decide +kernel
theorem b_dict : bootBuiltins "dict" = some (.type "dict") := by decide +kernel
theorem b_len : bootBuiltins "len" = some (.builtin "len") := by decide +kernel
theorem b_isinstance : bootBuiltins "isinstance" = some (.builtin "isinstance") := by decide +kernel
theorem b_max : bootBuiltins "max" = some (.builtin "max") := by decide +kernel
theorem b_min : bootBuiltins "min" = some (.builtin "min") := by decide +kernel
theorem b_sum : bootBuiltins "sum" = some (.builtin "sum") := by decide +kernel
theorem b_all : bootBuiltins "all" = some (.builtin "all") := by decide +kernel
theorem b_any : bootBuiltins "any" = some (.builtin "any") := by decide +kernel
theorem cxK {CX : CXT} {P : Program} {w : World} {K : PySem.W.Frag} {mg : Str → Option Value} {base : Heap} {N : List Str} {qual : Str} {scope : Scope} {f : Addr} {cd : Value} {A : Around} {outer : List Env} {s : Shared} {H : Hp} {E : XK} :
    (cxOf CX P w K mg base N qual scope f cd A outer s H E).nox.K = K := rfl
theorem cxK2 {CX : CXT} {P : Program} {w : World} {K : PySem.W.Frag} {mg : Str → Option Value} {base : Heap} {N : List Str} {qual : Str} {scope : Scope} {f : Addr} {cd : Value} {A : Around} {outer : List Env} {s : Shared} {H : Hp} {E : XK} :
    (cxOf CX P w K mg base N qual scope f cd A outer s H E).K = K := rfl
theorem o_addK {X : Cx} (K : PySem.W.Frag) (e : X.K = K) : OpR X (binaryOp .Add) (rAddX K) := e ▸ o_add
theorem o_eqK {X : Cx} (K : PySem.W.Frag) (e : X.K = K) (hu : X.A.units + 64 < cLine) : OpR X (compareOp .Eq) (rEqX K) := e ▸ o_eq hu
theorem o_neK {X : Cx} (K : PySem.W.Frag) (e : X.K = K) (hu : X.A.units + 64 < cLine) : OpR X (compareOp .NotEq) (rNeX K) := e ▸ o_ne hu
theorem ix_K {X : Cx} (K : PySem.W.Frag) (e : X.K = K) : IxR X (rIx K) := e ▸ ix_seq
theorem sl_K {X : Cx} (K : PySem.W.Frag) (e : X.K = K) : SlR X (rSlX K) := e ▸ sl_x
theorem c_lenK {X : Cx} (K : PySem.W.Frag) (e : X.K = K) : CallR X (.builtin "len") (rLenX K) := e ▸ c_len
theorem c_listK {X : Cx} (K : PySem.W.Frag) (e : X.K = K) : CallR X (.type "list") (rListX K) := e ▸ c_list
theorem c_tupleK {X : Cx} (K : PySem.W.Frag) (e : X.K = K) : CallR X (.type "tuple") (rTupX K) := e ▸ c_tuple
theorem c_isiK {X : Cx} (K : PySem.W.Frag) (e : X.K = K) : CallR X (.builtin "isinstance") (rIsi K) := e ▸ call_isi
theorem c_sumK {X : Cx} (K : PySem.W.Frag) (e : X.K = K) (hc : X.calm = true) : CallR X (.builtin "sum") (rSum K) := e ▸ cr_sum hc
theorem c_allK {X : Cx} (K : PySem.W.Frag) (e : X.K = K) (hc : X.calm = true) : CallR X (.builtin "all") (rAll K) := e ▸ cr_all hc
theorem c_anyK {X : Cx} (K : PySem.W.Frag) (e : X.K = K) (hc : X.calm = true) : CallR X (.builtin "any") (rAny K) := e ▸ cr_any hc
theorem c_inK {X : Cx} (K : PySem.W.Frag) (e : X.K = K) : OpR X (compareOp .In) (rIn K false) := e ▸ op_in_seq
theorem c_ninK {X : Cx} (K : PySem.W.Frag) (e : X.K = K) : OpR X (compareOp .NotIn) (rIn K true) := e ▸ op_notIn_seq
theorem pi_K {X : Cx} {tg l : Expr} {tl : TE} (K : PySem.W.Frag) (e : X.K = K) (hl : PE X l tl) : PI X tg l (iSeqX K tl) := e ▸ pi_x hl
theorem pg_tK {X : Cx} {es : List Expr} {k : Nat} {pos : Pos} {t : TGs} {n : Nat} (K : PySem.W.Frag) (e : X.K = K) (hc : X.calm = true) (h : PGs X es t) (hn : (assignEach es X.env).length = n) (hst : (assignEach es X.env).findIdx? (·.1) = none) : PG X (.Tuple es k pos) (gTup K n t) := by
  subst e
  exact pg_tup hc h hn hst
/-! the law's draws -/
def cell (ns : List Int) (k : Nat) : Int := if ns.getD k 0 < 0 then 0 - 2 * ns.getD k 0 - 1 else ns.getD k 0
theorem cell_nonneg (ns : List Int) (k : Nat) : 0 ≤ cell ns k := by unfold cell; split <;> omega
def mix1 (c k : Int) : Int := ((c * 48271 + k * 69621 + 11) % 2147483647 * 16807 + k * 12345 + 99991) % 2147483629
def mix2 (c k : Int) : Int := ((mix1 c k * 40692 + k * 3791 + c) % 2147483399 * 69621 + 7) % 2147483647
def num (ns : List Int) (k : Nat) : Int := if cell ns k ≥ 1000000000 then cell ns k else mix1 (cell ns k) k * 2147483647 + mix2 (cell ns k) k
theorem p9 : (10 : Int) ^ Int.toNat 9 = 1000000000 := by decide
theorem p12 : (10 : Int) ^ Int.toNat 12 = 1000000000000 := by decide
theorem p15 : (10 : Int) ^ Int.toNat 15 = 1000000000000000 := by decide
theorem num_nonneg (ns : List Int) (k : Nat) : 0 ≤ num ns k := by
  have h := cell_nonneg ns k
  unfold num mix1 mix2
  split
  · exact h
  · omega
def R_num : List SD → SD → Prop := fun ss r => ∃ (ns : List Int) (k : Int), ss = [.bor (ns.map .int), .dat (.int k)] ∧ 0 ≤ k ∧ r = .dat (.int (num ns k.toNat))
theorem at_ints {ns : List Int} {k : Nat} (h : k < ns.length) : atI (ns.map PyData.int) (k : Int) = some (.int (ns.getD k 0)) := by
  refine atI_nat ?_
  rw [List.getElem?_map, List.getElem?_eq_getElem h, List.getD_eq_getElem?_getD, List.getElem?_eq_getElem h]
  rfl
/-! items of a written list at a place that is not written -/
def isI : PyData → Bool
  | .int _ => true
  | _ => false
def intOf : PyData → Int
  | .int i => i
  | _ => 0
def intsOf (ds : List PyData) : List Int := ds.map intOf
theorem intsOf_map : ∀ {ds : List PyData}, ds.all isI = true → (intsOf ds).map .int = ds
  | [], _ => rfl
  | d :: ds, h => by
    rw [List.all_cons, Bool.and_eq_true] at h
    have e := intsOf_map h.2
    cases d with
    | int i => exact congrArg (PyData.int i :: ·) e
    | _ => exact absurd (show false = true from h.1) Bool.false_ne_true
theorem at_ds {ds : List PyData} {i : Int} (h : ds.all isI = true) (h0 : 0 ≤ i) (h1 : i < (ds.length : Int)) : atI ds i = some (.int ((intsOf ds).getD i.toNat 0)) := by
  have e := intsOf_map h
  have hl : (intsOf ds).length = ds.length := by unfold intsOf; rw [List.length_map]
  have := at_ints (ns := intsOf ds) (k := i.toNat) (by omega)
  rw [e, Int.toNat_of_nonneg h0] at this
  exact this
section
variable {a b c d e f g h : PyData} {ds : List PyData}
theorem at_c0 : atI (a :: ds) 0 = some a := atI_nat (j := 0) rfl
theorem at_c1 : atI (a :: b :: ds) 1 = some b := atI_nat (j := 1) rfl
theorem at_c2 : atI (a :: b :: c :: ds) 2 = some c := atI_nat (j := 2) rfl
theorem at_c3 : atI (a :: b :: c :: d :: ds) 3 = some d := atI_nat (j := 3) rfl
theorem at_c4 : atI (a :: b :: c :: d :: e :: ds) 4 = some e := atI_nat (j := 4) rfl
theorem at_c5 : atI (a :: b :: c :: d :: e :: f :: ds) 5 = some f := atI_nat (j := 5) rfl
theorem at_c6 : atI (a :: b :: c :: d :: e :: f :: g :: ds) 6 = some g := atI_nat (j := 6) rfl
end
theorem at_nat {ds : List PyData} {d : PyData} {i : Int} {j : Nat} (e : i = (j : Int)) (h : ds[j]? = some d) : atI ds i = some d := e ▸ atI_nat h
theorem at_get {ds : List PyData} {i : Int} (h0 : 0 ≤ i) (h1 : i < (ds.length : Int)) : atI ds i = some (ds.getD i.toNat .none) := by
  have hl : i.toNat < ds.length := by omega
  have := atI_nat (xs := ds) (j := i.toNat) (v := ds.getD i.toNat .none) (by rw [List.getD_eq_getElem?_getD, List.getElem?_eq_getElem hl]; rfl)
  rw [Int.toNat_of_nonneg h0] at this
  exact this
end
end Tn

namespace Tn
open PySem L2 PySem.Spec PyProof.Rows
/-! dicts -/
def putD (kvs : List (Key × PyData)) (k : Key) (v : PyData) : List (Key × PyData) :=
  if (kvs.any fun kv => decide (kv.1 = k)) = true then kvs.map (fun kv => if kv.1 = k then (kv.1, v) else kv) else kvs ++ [(k, v)]
def getD' (kvs : List (Key × PyData)) (k : Key) : Option PyData := (kvs.find? fun kv => decide (kv.1 = k)).map (·.2)
section
variable {K : PySem.W.Frag} {δ : List SD} {P : Out → Prop} {te td ty tv ta tb : TE} {d x y : PyData} {kvs : List (Key × PyData)} {i : Nat} {k j : Int}
theorem KvA.any {H : Hp} {k : Key} : ∀ {vs : List (Key × V)} {ds : List (Key × PyData)}, KvA K H vs ds → (vs.any fun kv => decide (kv.1 = k)) = (ds.any fun kv => decide (kv.1 = k))
  | _, _, .nil => rfl
  | _, _, .cons h t => by rw [List.any_cons, List.any_cons, KvA.any t]
theorem KvA.app {H : Hp} {k : Key} {v : V} {d : PyData} (h : Tp K H v d) : ∀ {vs : List (Key × V)} {ds : List (Key × PyData)}, KvA K H vs ds → KvA K H (vs ++ [(k, v)]) (ds ++ [(k, d)])
  | _, _, .nil => .cons h .nil
  | _, _, .cons q t => .cons q (KvA.app h t)
theorem KvA.mapped {H : Hp} {k : Key} {v : V} {d : PyData} (h : Tp K H v d) : ∀ {vs : List (Key × V)} {ds : List (Key × PyData)}, KvA K H vs ds → KvA K H (vs.map fun kv => if kv.1 = k then (kv.1, v) else kv) (ds.map fun kv => if kv.1 = k then (kv.1, d) else kv)
  | _, _, .nil => .nil
  | _, _, .cons (k := k') q t => by
    rw [List.map_cons, List.map_cons]
    by_cases e : k' = k
    · simp only [e, if_true]
      exact .cons h (KvA.mapped h t)
    · simp only [e, if_false]
      exact .cons q (KvA.mapped h t)
theorem KvA.put {H : Hp} {k : Key} {v : V} {d : PyData} (h : Tp K H v d) {vs : List (Key × V)} {ds : List (Key × PyData)} (q : KvA K H vs ds) : KvA K H (putK vs k v) (putD ds k d) := by
  unfold putK putD
  rw [q.any]
  split
  · exact KvA.mapped h q
  · exact KvA.app h q
theorem KvA.look {H : Hp} {k : Key} : ∀ {vs : List (Key × V)} {ds : List (Key × PyData)}, KvA K H vs ds → (getD' ds k = none ∧ valV vs k = none) ∨ ∃ v d, getD' ds k = some d ∧ valV vs k = some v ∧ Tp K H v d
  | _, _, .nil => .inl ⟨rfl, rfl⟩
  | _, _, .cons (k := k') q t => by
    unfold getD' valV
    rw [List.find?_cons, List.find?_cons]
    by_cases e : k' = k
    · simp only [e, decide_true]
      exact .inr ⟨_, _, rfl, rfl, q⟩
    · simp only [e, decide_false]
      exact KvA.look t
theorem dm_new : DM K tDNewK δ [] := fun H0 H σ S Q q => fun p hp => q p [] _ (Gr.lay hp) hp upd_same .nil
theorem tw_dput (hi : δ[i]? = some (.ownD kvs)) (hv : DE K tv δ d) (hk : DE K ty δ (.int k)) (hl : kvs.length < 100000) (p : P (.nx (δ.set i (.ownD (putD kvs (.inl k) d))))) : WP K (sDPut (tVar i) ty tv) δ P := fun H0 H σ D S hP => by
  obtain ⟨v, h1, a, vs, rfl, h0, h2, h3⟩ := S.ok i _ hi (by intro z; cases z)
  refine hv H0 H σ S _ fun w J g hw => ⟨_, h1, hk H0 J σ (S.mono g) _ fun u L g2 hu => ?_⟩
  rw [hu.int_of]
  refine ⟨a, _, rfl, DPut.k (k := .inl k) ((g.tr g2) _ _ h2) (by rw [h3.length]; exact Nat.lt_trans hl (by decide)), hP _ p σ _ ?_⟩
  exact ((S.mono g).mono g2).mutD hi h1 ((h3.mono (g.tr g2).tm).put (hw.mono g2.tm))
theorem de_dget (h : DK K td δ kvs) (hk : DE K ty δ (.int k)) (e : getD' kvs (.inl k) = some d) : DE K (tDGet td ty) δ d := fun H0 H σ S Q q => h H0 H σ S _ fun a vs J g hr hv => hk H0 J σ (S.mono g) _ fun u L g2 hu => by
  rw [hu.int_of]
  rcases hv.look (k := .inl k) with ⟨e1, _⟩ | ⟨v, d', e1, e2, e3⟩
  · rw [e1] at e; cases e
  · rw [e1] at e
    cases e
    exact ⟨a, v, rfl, .inl ⟨vs, .inl k, g2.rd hr, rfl, e2.symm⟩, q v L (g.tr g2) (e3.mono g2.tm)⟩
theorem de_din (h : DK K td δ kvs) (hk : DE K ty δ (.int k)) : DE K (tDIn ty td) δ (.bool (getD' kvs (.inl k)).isSome) := fun H0 H σ S Q q => hk H0 H σ S _ fun u J g hu => h H0 J σ (S.mono g) _ fun a vs L g2 hr hv => by
  rw [hu.int_of]
  rcases hv.look (k := .inl k) with ⟨e1, e2⟩ | ⟨v, d', e1, e2, e3⟩
  · refine ⟨a, none, rfl, .inl ⟨vs, .inl k, hr, rfl, e2.symm⟩, ?_⟩
    rw [e1] at q
    exact q _ L (g.tr g2) (.bl false)
  · refine ⟨a, some v, rfl, .inl ⟨vs, .inl k, hr, rfl, e2.symm⟩, ?_⟩
    rw [e1] at q
    exact q _ L (g.tr g2) (.bl true)
def keyD : Key → PyData
  | .inl i => .int i
  | .inr s => .str s
def itemD (p : Key × PyData) : PyData := .tuple [keyD p.1, p.2]
theorem Tp.key {H : Hp} (k : Key) : Tp K H (kV k) (keyD k) := by
  cases k with
  | inl i => exact .int i
  | inr s => exact .str s
theorem items_tp {H H' : Hp} (g : Gr H H') : ∀ {ts : List Addr} {vs : List (Key × V)} {ds : List (Key × PyData)}, Paired (fun (t : Addr) (q : Key × V) => H' t = some (.tup [kV q.1, q.2])) ts vs → KvA K H vs ds → TpA K H' (ts.map V.ref) (ds.map itemD)
  | _, _, _, .nil, .nil => .nil
  | _, _, _, .cons h t, .cons q r => .cons (.tup (SqT.of h) (.cons (Tp.key _) (.cons (q.mono g.tm) .nil))) (items_tp g t r)
theorem dn_items (hi : δ[i]? = some (.ownD kvs)) : DN K (LiI.tListItems (tVar i)) δ (kvs.map itemD) := fun H0 H σ S Q q => by
  obtain ⟨v, h1, a, vs, rfl, h0, h2, h3⟩ := S.ok i _ hi (by intro z; cases z)
  exact ⟨_, h1, a, vs, rfl, h2, fun H' p ts g hp _ _ hl hpd => q p _ H' g hp hl (items_tp g hpd h3)⟩
/-! comprehensions over a range, a list, a tuple: no test -/
def wipeD (δ : List SD) : List Nat → List SD
  | [] => δ
  | v :: vs => (wipeD δ vs).set v .emp
theorem Sd.wipe {H0 H : Hp} {σ : L2.St} : ∀ {vs : List Nat}, Sd K H0 H σ δ → Sd K H0 H (L2.wipe σ vs) (wipeD δ vs)
  | [], S => S
  | v :: vs, S => by
    have S' := Sd.wipe (vs := vs) S
    refine ⟨S'.gr, by show (List.set _ _ _).length = (List.set _ _ _).length; rw [List.length_set, List.length_set]; exact S'.len, fun i s hi ne => ?_, fun i j s t a hi hj hs ht ei ej => ?_⟩
    · rcases get_set hi with ⟨e, rfl, _⟩ | ⟨e, h2⟩
      · exact absurd rfl ne
      · obtain ⟨w, h3, h4⟩ := S'.ok i s h2 ne
        exact ⟨w, by show (List.set _ _ _)[i]? = _; rw [set_get_ne e]; exact h3, h4⟩
    · rcases get_set hi with ⟨e, rfl, _⟩ | ⟨e, h2⟩
      · cases hs
      · rcases get_set hj with ⟨e', rfl, _⟩ | ⟨e', h2'⟩
        · cases ht
        · have ei' : (L2.wipe σ vs)[i]? = some (some (.ref a)) := by rw [← ei]; exact (set_get_ne e).symm
          have ej' : (L2.wipe σ vs)[j]? = some (some (.ref a)) := by rw [← ej]; exact (set_get_ne e').symm
          exact S'.apart i j s t a h2 h2' hs ht ei' ej'
theorem TpA.map_range {H : Hp} {f : Nat → PyData} {n : Nat} {acc : List V} {v : V} (h : TpA K H acc ((List.range n).map f)) (hv : Tp K H v (f n)) : TpA K H (acc ++ [v]) ((List.range (n + 1)).map f) := by
  rw [List.range_succ, List.map_append]
  exact h.app (.cons hv .nil)
theorem wipe_one {σ : L2.St} {i : Nat} {x : Option V} : L2.wipe ((L2.wipe σ [i]).set i x) [i] = L2.wipe σ [i] := by
  show ((σ.set i none).set i x).set i none = σ.set i none
  rw [List.set_set, List.set_set]
/-- [e for x in range(n)] -/
theorem dn_lcR {ta : TA} {n : Int} (f : Nat → PyData) (h : DA K ta δ [.dat (.int n)]) (hn : -1000000 ≤ n ∧ n ≤ 1000000)
    (he : ∀ k : Nat, (k : Int) < n → DE K te ((wipeD δ [i]).set i (.dat (.int (k : Int)))) (f k)) : DN K (tLc (iRng1 ta) (gName i) tYes te [i]) δ ((List.range n.toNat).map f) := fun H0 H σ S Q q =>
  h H0 H σ S _ fun vs J g hv => by
    cases hv with
    | cons hv t1 =>
      cases t1
      have e := Tp.int_of hv
      subst e
      refine ⟨n, rfl, by omega, by omega, fun Dl hD => lc_range (lo := 0) (n := n.toNat) (fun k L => Gr J L ∧ ∃ acc, L Dl = some (.lst acc) ∧ TpA K L acc ((List.range k).map f)) ⟨Gr.lay hD, [], upd_same, .nil⟩ (fun k L hk ⟨gl, acc, hl, ha⟩ => ?_) (fun L ⟨gl, acc, hl, ha⟩ => q Dl acc L (g.tr gl) (g.free hD) hl ha)⟩
      have e0 : (0 : Int) + (k : Int) = (k : Int) := Int.zero_add _
      have len : acc.length = k := by rw [ha.length, List.length_map, List.length_range]
      show L2.wipe ((L2.wipe σ [i]).set i (some (.int (0 + (k : Int))))) [i] = L2.wipe σ [i] ∧ _
      refine ⟨wipe_one, ?_⟩
      rw [e0]
      show te _ L _
      refine he k (by omega) H0 L _ (((S.mono g).mono gl).wipe.storeD (.int _)) _ fun v M g2 hv => ?_
      have hl2 := g2 _ _ hl
      refine ⟨acc, hl2, by rw [len]; exact Nat.lt_of_lt_of_le (show k < 1000001 by omega) (by decide), ?_⟩
      refine ⟨Gr.lay2 (gl.tr g2) hD, _, upd_same, ?_⟩
      exact TpA.mono (fun _ _ z => st_upd z hl2) ((ha.mono g2.tm).map_range hv)
/-- [e for x in t], t a tuple; the target any -/
theorem dn_lcT {g : TG} {vs : List Nat} {ds : List PyData} {tl : TE} (f : PyData → PyData) (h : DE K tl δ (.tuple ds)) (hz : ds.length ≤ 10000)
    (hg : ∀ d ∈ ds, ∃ δ2, (∀ (H0 H : Hp) (σ : L2.St) (v : V) (Q : L2.St → Hp → Prop), Sd K H0 H σ δ → Tp K H v d → (∀ σ', Sd K H0 H σ' δ2 → L2.wipe σ' vs = L2.wipe σ vs → Q σ' H) → g v (L2.wipe σ vs) H Q) ∧ DE K te δ2 (f d)) :
    DN K (tLc (iSeqX K tl) g tYes te vs) δ (ds.map f) := fun H0 H σ S Q q => .inr (h H0 H σ S _ fun v J gj hv => by
    obtain ⟨a, xs, rfl, hq, hx⟩ := hv.tup_of
    have hl := hx.length
    refine ⟨a, rfl, ⟨xs, hq⟩, fun Dl hD => lc_tup (K := K) (a := a) (xs := xs) (fun k L => Gr J L ∧ ∃ acc, L Dl = some (.lst acc) ∧ TpA K L acc ((ds.take k).map f)) ⟨Gr.lay hD, [], upd_same, .nil⟩ (fun k L _ p => p.1.st hq) (fun k x L hk ⟨gl, acc, hl2, ha⟩ => ?_) (fun L ⟨gl, acc, hl2, ha⟩ => q Dl acc L (gj.tr gl) (gj.free hD) hl2 (by rw [hl, List.take_length] at ha; exact ha))⟩
    obtain ⟨d, hd1, hd2⟩ := hx.getV hk
    have hdm : d ∈ ds := List.mem_of_getElem? hd1
    obtain ⟨δ2, hg1, he⟩ := hg d hdm
    have len : acc.length ≤ ds.length := by rw [ha.length, List.length_map, List.length_take]; omega
    refine hg1 H0 L σ x _ ((S.mono gj).mono gl) (hd2.mono gl.tm) fun σ' S' hw => ⟨hw, ?_⟩
    show te _ L _
    refine he H0 L _ S' _ fun v M g2 hv => ?_
    have hl3 := g2 _ _ hl2
    refine ⟨acc, hl3, Nat.lt_of_le_of_lt len (Nat.lt_of_le_of_lt hz (by decide)), ?_⟩
    refine ⟨Gr.lay2 (gl.tr g2) hD, _, upd_same, ?_⟩
    have e3 : (ds.take (k + 1)).map f = (ds.take k).map f ++ [f d] := by
      rw [List.take_succ, hd1, List.map_append]; rfl
    rw [e3]
    exact TpA.mono (fun _ _ z => st_upd z hl3) ((ha.mono g2.tm).app (.cons hv .nil)))
theorem wipe_end {i : Nat} {x : Option V} : ∀ {vs : List Nat} {σ : L2.St}, (L2.wipe (σ.set i x) vs).set i none = (L2.wipe σ vs).set i none
  | [], σ => by show (σ.set i x).set i none = σ.set i none; rw [List.set_set]
  | v :: vs, σ => by
    show ((L2.wipe (σ.set i x) vs).set v none).set i none = ((L2.wipe σ vs).set v none).set i none
    by_cases e : v = i
    · subst e
      rw [List.set_set, List.set_set]
      exact wipe_end
    · rw [List.set_comm _ _ e, List.set_comm _ _ e, wipe_end]
theorem wipe_set {i : Nat} {x : Option V} : ∀ {vs : List Nat} {σ : L2.St}, i ∈ vs → L2.wipe (σ.set i x) vs = L2.wipe σ vs
  | [], _, h => by cases h
  | v :: vs, σ, h => by
    show (L2.wipe (σ.set i x) vs).set v none = (L2.wipe σ vs).set v none
    by_cases e : i = v
    · subst e; exact wipe_end
    · rcases List.mem_cons.mp h with h | h
      · exact absurd h e
      · rw [wipe_set h]
theorem wipe_wipe {vs : List Nat} {σ : L2.St} : ∀ {ws : List Nat}, (∀ w ∈ ws, w ∈ vs) → L2.wipe (L2.wipe σ ws) vs = L2.wipe σ vs
  | [], _ => rfl
  | w :: ws, h => by
    show L2.wipe ((L2.wipe σ ws).set w none) vs = _
    rw [wipe_set (h w List.mem_cons_self), wipe_wipe fun z hz => h z (List.mem_cons_of_mem _ hz)]
theorem gn_setsW {H0 H : Hp} {vs : List Nat} : ∀ {t : TGs} {is : List Nat} {ds : List PyData} {us : List V} {σ : L2.St} {δ : List SD} {Q : L2.St → Hp → Prop}, GN t is → ds.length = is.length → (∀ i ∈ is, i ∈ vs) → Sd K H0 H σ δ → TpA K H us ds →
    (∀ σ', Sd K H0 H σ' (setsD is ds δ) → L2.wipe σ' vs = L2.wipe σ vs → Q σ' H) → t us σ H Q
  | _, _, [], _, _, _, _, .nil, _, _, S, .nil, q => ⟨rfl, q _ S rfl⟩
  | _, _, d :: ds, _, _, _, _, .cons gn, hl, hv, S, .cons h t, q => ⟨_, _, rfl, gn_setsW gn (by simpa using hl) (fun i hi => hv i (List.mem_cons_of_mem _ hi)) (S.storeD h) t fun σ' S' w => q σ' S' (w.trans (wipe_set (hv _ List.mem_cons_self)))⟩
  | _, _, [], _, _, _, _, .cons gn, hl, _, _, _, _ => by simp at hl
  | _, _, d :: ds, _, _, _, _, .nil, hl, _, _, _, _ => by simp at hl
theorem lc_tgt {t : TGs} {is vs : List Nat} {n : Nat} {ds : List PyData} (gn : GN t is) (h1 : ds.length = n) (h2 : is.length = n) (hv : ∀ i ∈ is, i ∈ vs) (H0 H : Hp) (σ : L2.St) (v : V) (Q : L2.St → Hp → Prop) (S : Sd K H0 H σ δ) (h : Tp K H v (.tuple ds))
    (q : ∀ σ', Sd K H0 H σ' (setsD is ds (wipeD δ vs)) → L2.wipe σ' vs = L2.wipe σ vs → Q σ' H) : gTup K n t v (L2.wipe σ vs) H Q := by
  obtain ⟨a, xs, rfl, hs, hx⟩ := h.tup_of
  exact ⟨a, xs, rfl, hs, hx.length.trans h1, gn_setsW gn (h1.trans h2.symm) hv S.wipe hx fun σ' S' w => q σ' S' (w.trans (wipe_wipe fun _ z => z))⟩
theorem lc_tgtN {i : Nat} {d : PyData} (H0 H : Hp) (σ : L2.St) (v : V) (Q : L2.St → Hp → Prop) (S : Sd K H0 H σ δ) (h : Tp K H v d)
    (q : ∀ σ', Sd K H0 H σ' ((wipeD δ [i]).set i (.dat d)) → L2.wipe σ' [i] = L2.wipe σ [i] → Q σ' H) : gName i v (L2.wipe σ [i]) H Q := q _ (S.wipe.storeD h) wipe_one
/-! sum, all -/
theorem de_sum {ns : List Int} (h : DL K te δ (ns.map .int)) : DE K (tCB (rSum K) (tCons te tNil)) δ (.int ns.sum) := fun H0 H σ S Q q => h H0 H σ S _ fun a vs J g hs hv =>
  ⟨a, ns, rfl, by rw [hv.ints_of] at hs; exact hs, q _ J g (.int _)⟩
theorem TpA.bls_of {H : Hp} : ∀ {vs : List V} {bs : List Bool}, TpA K H vs (bs.map PyData.bool) → vs = bs.map V.bl
  | _, [], h => by cases h; rfl
  | _, n :: r, h => by
    rw [List.map_cons] at h
    cases h with
    | cons h1 h2 => rw [h1.bl_of, TpA.bls_of h2, List.map_cons]
theorem de_all {bs : List Bool} (h : DL K te δ (bs.map .bool)) : DE K (tCB (rAll K) (tCons te tNil)) δ (.bool (bs.all id)) := fun H0 H σ S Q q => h H0 H σ S _ fun a vs J g hs hv =>
  ⟨a, bs, rfl, by rw [hv.bls_of] at hs; exact hs, q _ J g (.bl _)⟩
end
/-! ### the laws' draws -/
def keyOf (s : Int) : Int := (s * 1103515245 + 12345) % 4294967296
def amt (n : Int) : Int := if n % 16 = 3 then 1000000000000000 - n / 16 % 3 else n / 16 % 40
def hgt (n : Int) : Int := if n % 16 = 5 then 1000000000000 - n / 16 % 3 else n / 16 % 24
structure Lock where
  key : Int
  amount : Int
  deadline : Int
  ff : Bool
  deriving DecidableEq
def Lock.d (l : Lock) : PyData := .tuple [.int l.key, .int l.amount, .int l.deadline, .bool l.ff]
def lockOf (n : Int) : Lock := ⟨keyOf (n / 2 % 6), amt (n / 12), hgt (n / 7777), decide (n % 2 = 0)⟩
def locksOf (n : Int) (m : Nat) : List Lock := (List.range m).map fun (k : Nat) => lockOf ((n + (k : Int) * 7919) * (2 * (k : Int) + 1) / ((k : Int) + 1))
theorem locksOf_succ (n : Int) (m : Nat) : locksOf n (m + 1) = locksOf n m ++ [lockOf ((n + (m : Int) * 7919) * (2 * (m : Int) + 1) / ((m : Int) + 1))] := by
  unfold locksOf
  rw [List.range_succ, List.map_append]
  rfl
def rcK (n : Int) (k : Nat) : Int := keyOf (n / (7 + (k : Int) * 5) % 6)
def rcH (n : Int) (k : Nat) : Int := hgt (n / (11 + (k : Int) * 13))
/-! receipts: heights under keys -/
def rt (t : List (Int × Int)) : List (Key × PyData) := t.map fun p => (Sum.inl p.1, PyData.int p.2)
def putI (t : List (Int × Int)) (k h : Int) : List (Int × Int) := if (t.any fun p => decide (p.1 = k)) = true then t.map (fun p => if p.1 = k then (p.1, h) else p) else t ++ [(k, h)]
def fndI (t : List (Int × Int)) (k : Int) : Option Int := (t.find? fun p => decide (p.1 = k)).map (·.2)
def opn (t : List (Int × Int)) (k dl : Int) : Bool := match fndI t k with
  | some h => decide (h ≤ dl)
  | none => false
def pairI (p : Int × Int) : PyData := .tuple [.int p.1, .int p.2]
theorem dec_inl {a b : Int} : decide ((Sum.inl a : Key) = Sum.inl b) = decide (a = b) := by
  by_cases h : a = b
  · subst h; simp
  · have : ¬ ((Sum.inl a : Key) = Sum.inl b) := fun z => h (by cases z; rfl)
    rw [decide_eq_false h, decide_eq_false this]
theorem any_rt (k : Int) : ∀ t : List (Int × Int), ((rt t).any fun kv => decide (kv.1 = Sum.inl k)) = (t.any fun p => decide (p.1 = k))
  | [] => rfl
  | p :: t => by
    have ih := any_rt k t
    unfold rt at ih ⊢
    rw [List.map_cons, List.any_cons, List.any_cons, ih, dec_inl]
theorem map_rt (k h : Int) : ∀ t : List (Int × Int), ((rt t).map fun kv => if kv.1 = Sum.inl k then (kv.1, PyData.int h) else kv) = rt (t.map fun p => if p.1 = k then (p.1, h) else p)
  | [] => rfl
  | p :: t => by
    have ih := map_rt k h t
    unfold rt at ih ⊢
    rw [List.map_cons, List.map_cons, List.map_cons, List.map_cons, ih]
    by_cases e : p.1 = k
    · simp [e]
    · have : ¬ ((Sum.inl p.1 : Key) = Sum.inl k) := fun z => e (by cases z; rfl)
      simp [e]
theorem putD_rt (t : List (Int × Int)) (k h : Int) : putD (rt t) (.inl k) (.int h) = rt (putI t k h) := by
  unfold putD putI
  rw [any_rt]
  split
  · exact map_rt k h t
  · unfold rt; rw [List.map_append]; rfl
theorem get_rt (k : Int) : ∀ t : List (Int × Int), getD' (rt t) (.inl k) = (fndI t k).map .int
  | [] => rfl
  | p :: t => by
    have ih := get_rt k t
    unfold getD' fndI rt at ih ⊢
    rw [List.map_cons, List.find?_cons, List.find?_cons, dec_inl]
    by_cases e : p.1 = k
    · simp [e]
    · simp only [e, decide_false]
      exact ih
theorem items_rt : ∀ t : List (Int × Int), (rt t).map itemD = t.map pairI
  | [] => rfl
  | p :: t => by
    have ih := items_rt t
    unfold rt at ih ⊢
    rw [List.map_cons, List.map_cons, List.map_cons, ih]
    rfl
theorem rt_len (t : List (Int × Int)) : (rt t).length = t.length := by unfold rt; rw [List.length_map]
theorem putI_len {t : List (Int × Int)} {k h : Int} : (putI t k h).length ≤ t.length + 1 := by
  unfold putI
  split
  · rw [List.length_map]; omega
  · rw [List.length_append]; simp
theorem putI_keys {t : List (Int × Int)} {k h : Int} : (t.map fun p => if p.1 = k then (p.1, h) else p).map (·.1) = t.map (·.1) := by
  rw [List.map_map]
  apply List.map_congr_left
  intro p _
  by_cases e : p.1 = k <;> simp [e]
theorem putI_nd {t : List (Int × Int)} {k h : Int} (n : (t.map (·.1)).Nodup) : ((putI t k h).map (·.1)).Nodup := by
  unfold putI
  split
  · rw [putI_keys]; exact n
  · rename_i hk
    rw [List.map_append, List.nodup_append]
    refine ⟨n, by simp, fun a ha b hb => ?_⟩
    have e : b = k := by simpa using hb
    subst e
    intro e
    subst e
    obtain ⟨p, hp, e2⟩ := List.mem_map.mp ha
    exact hk (List.any_eq_true.mpr ⟨p, hp, by simpa using e2⟩)
/-- in a dict whose keys differ: the one entry with the key -/
theorem any_opn (k dl : Int) : ∀ t : List (Int × Int), (t.map (·.1)).Nodup → (t.any fun p => decide (p.1 = k) && decide (p.2 ≤ dl)) = opn t k dl
  | [], _ => rfl
  | p :: t, n => by
    rw [List.map_cons, List.nodup_cons] at n
    have ih := any_opn k dl t n.2
    rw [List.any_cons, ih]
    unfold opn fndI
    rw [List.find?_cons]
    by_cases e : p.1 = k
    · have hn : t.find? (fun p => decide (p.1 = k)) = none := by
        rw [List.find?_eq_none]
        intro q hq z
        exact n.1 (List.mem_map.mpr ⟨q, hq, by rw [e]; simpa using z⟩)
      simp [e, hn]
    · simp only [e, decide_false, Bool.false_and, Bool.false_or]
theorem opn_mono {t : List (Int × Int)} {k dl dm : Int} (h : opn t k dl = true) (l : dl ≤ dm) : opn t k dm = true := by
  unfold opn at h ⊢
  split at h
  · rename_i x e
    rw [decide_eq_true_eq] at h ⊢
    omega
  · cases h
theorem fnd_map {k h : Int} : ∀ {t : List (Int × Int)}, (t.any fun p => decide (p.1 = k)) = true → fndI (t.map fun p => if p.1 = k then (p.1, h) else p) k = some h
  | [], e => by cases e
  | p :: t, e => by
    unfold fndI
    rw [List.map_cons, List.find?_cons]
    by_cases e2 : p.1 = k
    · simp [e2]
    · rw [List.any_cons, decide_eq_false e2, Bool.false_or] at e
      have ih := fnd_map (h := h) e
      unfold fndI at ih
      simp only [e2, if_false, decide_false]
      exact ih
theorem fnd_snoc {k h : Int} : ∀ {t : List (Int × Int)}, ¬ (t.any fun p => decide (p.1 = k)) = true → fndI (t ++ [(k, h)]) k = some h
  | [], _ => by simp [fndI]
  | p :: t, e => by
    unfold fndI
    rw [List.cons_append, List.find?_cons]
    by_cases e2 : p.1 = k
    · simp [e2] at e
    · rw [List.any_cons, decide_eq_false e2, Bool.false_or] at e
      have ih := fnd_snoc (h := h) e
      unfold fndI at ih
      simp only [e2, decide_false]
      exact ih
theorem fnd_put (t : List (Int × Int)) (k h : Int) : fndI (putI t k h) k = some h := by
  unfold putI
  split
  · rename_i e; exact fnd_map e
  · rename_i e; exact fnd_snoc e
theorem opn_put (t : List (Int × Int)) (k h dl : Int) : opn (putI t k h) k dl = decide (h ≤ dl) := by
  unfold opn; rw [fnd_put]
def rcT (n : Int) : Nat → List (Int × Int)
  | 0 => []
  | k + 1 => putI (rcT n k) (rcK n k) (rcH n k)
theorem rcT_len (n : Int) : ∀ k, (rcT n k).length ≤ k
  | 0 => Nat.le_refl _
  | k + 1 => Nat.le_trans putI_len (Nat.succ_le_succ (rcT_len n k))
theorem rcT_nd (n : Int) : ∀ k, ((rcT n k).map (·.1)).Nodup
  | 0 => List.nodup_nil
  | k + 1 => putI_nd (rcT_nd n k)
section
variable {K : PySem.W.Frag} {δ : List SD} {P : Out → Prop} {te td ty tv : TE} {t : List (Int × Int)} {i : Nat} {k h : Int}
theorem dm_newI : DM K tDNewK δ (rt []) := dm_new
theorem tw_dputI (hi : δ[i]? = some (.ownD (rt t))) (hv : DE K tv δ (.int h)) (hk : DE K ty δ (.int k)) (hl : t.length < 100000) (p : P (.nx (δ.set i (.ownD (rt (putI t k h)))))) : WP K (sDPut (tVar i) ty tv) δ P :=
  tw_dput hi hv hk (by rw [rt_len]; exact hl) (by rw [putD_rt]; exact p)
theorem dn_itemsI (hi : δ[i]? = some (.ownD (rt t))) : DN K (LiI.tListItems (tVar i)) δ (t.map pairI) := items_rt t ▸ dn_items hi
end
/-- a def of one number -/
def R1 (f : Int → PyData) : List SD → SD → Prop := fun ss r => ∃ n : Int, ss = [.dat (.int n)] ∧ r = .dat (f n)
def R_nat (f : Int → PyData) : List SD → SD → Prop := fun ss r => ∃ n : Int, ss = [.dat (.int n)] ∧ 0 ≤ n ∧ r = .dat (f n)
def RSc : List SD → SD → Prop := fun ss r => ∃ ns : List Int, ss = [.bor (ns.map .int)] ∧ ns.length ≤ 63 ∧ r = .dat (.bool true)
theorem shp_all {α : Type} {f : α → PyData} (h : ∀ a, (f a).canLay0 = true ∧ (f a).depth ≤ 60) : ∀ ls : List α, PyData.canLayAll0 (ls.map f) = true ∧ PyData.depthAll (ls.map f) ≤ 60
  | [] => ⟨rfl, Nat.zero_le _⟩
  | a :: ls => by
    have ih := shp_all h ls
    rw [List.map_cons]
    refine ⟨?_, ?_⟩
    · show (PyData.canLay0 (f a) && PyData.canLayAll0 (ls.map f)) = true
      rw [(h a).1, ih.1]; rfl
    · show max (f a).depth (PyData.depthAll (ls.map f)) ≤ 60
      exact Nat.max_le.mpr ⟨(h a).2, ih.2⟩
theorem shp_mapL {α : Type} {f : α → PyData} (h : ∀ a, (f a).canLay0 = true ∧ (f a).depth ≤ 60) (ls : List α) : SeqAt.shaped (.list (ls.map f)) = true := by
  have q := shp_all h ls
  show (PyData.canLayAll0 (ls.map f) && decide (PyData.depthAll (ls.map f) + 1 ≤ 64)) = true
  rw [q.1, decide_eq_true (by have := q.2; omega)]; rfl
theorem shp_mapT {α : Type} {f : α → PyData} (h : ∀ a, (f a).canLay0 = true ∧ (f a).depth ≤ 60) (ls : List α) : SeqAt.shaped (.tuple (ls.map f)) = true := shp_mapL h ls
theorem shp_pair (p : Int × Int) : (pairI p).canLay0 = true ∧ (pairI p).depth ≤ 60 := ⟨rfl, (by decide : 1 ≤ 60)⟩
theorem shp_lock (l : Lock) : l.d.canLay0 = true ∧ l.d.depth ≤ 60 := ⟨rfl, (by decide : 1 ≤ 60)⟩
theorem eqv_self {d : PyData} (h : SeqAt.shaped d = true) : PyData.eqv d d = true := SeqAt.eqv_refl d (SeqAt.canLay_of_shaped h)
theorem map_at {α : Type} {f : α → PyData} {ls : List α} {k : Nat} {d : PyData} (h : (ls.map f)[k]? = some d) : ∃ l, ls[k]? = some l ∧ d = f l := by
  rw [List.getElem?_map] at h
  cases e : ls[k]? with
  | none => rw [e] at h; cases h
  | some l => rw [e] at h; exact ⟨l, rfl, (Option.some.inj h).symm⟩
theorem pair_at {t : List (Int × Int)} {k : Nat} {d : PyData} (h : (t.map pairI)[k]? = some d) : ∃ p, t[k]? = some p ∧ d = .tuple [.int p.1, .int p.2] := map_at h
theorem lock_at {ls : List Lock} {k : Nat} {d : PyData} (h : (ls.map Lock.d)[k]? = some d) : ∃ l, ls[k]? = some l ∧ d = .tuple [.int l.key, .int l.amount, .int l.deadline, .bool l.ff] := map_at h
theorem take_more {α : Type} {ls : List α} {k : Nat} {l : α} (h : ls[k]? = some l) : ls.take (k + 1) = ls.take k ++ [l] := by
  rw [List.take_succ, h]; rfl
theorem keyOf_bd (n : Int) : 0 ≤ keyOf n ∧ keyOf n ≤ 4294967295 := by unfold keyOf; omega
theorem amt_bd (n : Int) : 0 ≤ amt n ∧ amt n ≤ 1000000000000000 := by unfold amt; split <;> omega
theorem hgt_bd (n : Int) : 0 ≤ hgt n ∧ hgt n ≤ 1000000000000 := by unfold hgt; split <;> omega
end Tn

namespace Tn
open PySem L2 PySem.Spec PyProof.Rows
section
variable {K : PySem.W.Frag} {δ : List SD} {P : Out → Prop} {te : TE} {t : TS} {g : TG} {ds : List PyData}
/-- xs[::-1] -/
theorem dn_rev (h : DL K te δ ds) : DN K (tRevL K te) δ ds.reverse := fun H0 H σ S Q q => h H0 H σ S _ fun a vs J g hs hv =>
  ⟨a, vs, rfl, hs, fun p hp => q p _ _ (g.tr (Gr.lay hp)) (g.free hp) upd_same ((TpA.rev hv).mono (Gr.lay hp).tm)⟩
where TpA.rev {H : Hp} : ∀ {vs : List V} {ds : List PyData}, TpA K H vs ds → TpA K H vs.reverse ds.reverse
  | _, _, .nil => .nil
  | _, _, .cons h t => by rw [List.reverse_cons, List.reverse_cons]; exact (TpA.rev t).app (.cons h .nil)
theorem pe_revK {X : Cx} (K : PySem.W.Frag) (e' : X.K = K) {e : Expr} {te : TE} {k : Nat} {p1 p2 p3 pos : Pos} (he : PE X e te) : PE X (.Subscript e (.Slice none none (some (.UnaryOp .USub (.Constant (.int 1) k p1) p2)) p3) pos) (tRevL K te) := e' ▸ pe_revL he
/-- for x in reversed(xs), xs handed in -/
theorem tw_forV {j : Nat} (W : Nat → List SD → Prop) (h : δ[j]? = some (.bor ds)) (h0 : ∃ δ', W 0 δ' ∧ Less δ' δ)
    (hs : ∀ (k : Nat) d δ', ds[ds.length - 1 - k]? = some d → k < ds.length → W k δ' → ∃ δ2, GTd K g d δ' δ2 ∧ WP K t δ2 (loopP W k P)) (hd : ∀ δ', W ds.length δ' → P (.nx δ')) : WP K (tFor (RT.iRevA K (tVar j)) g t) δ P := fun H0 H σ D S hP => by
  obtain ⟨v, h1, a, xs, rfl, hq, hx⟩ := S.ok j _ h (by intro z; cases z)
  obtain ⟨δ0, w0, l0⟩ := h0
  have hl := hx.length
  refine ⟨_, h1, a, xs, rfl, .inl ⟨S.gr.sq hq, ?_⟩⟩
  refine RT.for_Itv (K := K) (a := a) (xs := xs) (fun k σ L => ∃ δ', W k δ' ∧ Sd K H0 L σ δ' ∧ TpA K L xs ds) ⟨δ0, w0, S.less l0, hx⟩ (fun k σ L ⟨_, _, S', _⟩ => S'.gr.sq hq) (fun k x σ L hkl hk ⟨δ', w, S', hx'⟩ => ?_) (fun σ L ⟨δ', w, S', _⟩ => hP _ (hd δ' (by rw [← hl]; exact w)) σ L S')
  rw [hl] at hk hkl
  obtain ⟨d, hd1, hd2⟩ := hx'.getV hk
  obtain ⟨δ2, hg, hw⟩ := hs k d δ' hd1 hkl w
  refine hg H0 L σ x _ S' hd2 fun σ' S2 => ?_
  refine hw.tm S2 fun o p => ?_
  cases o with
  | nx δ => obtain ⟨δ3, w3, l3⟩ := p; exact fun σ J tm S' => ⟨δ3, w3, S'.less l3, hx'.mono tm⟩
  | ct δ => obtain ⟨δ3, w3, l3⟩ := p; exact fun σ J tm S' => ⟨δ3, w3, S'.less l3, hx'.mono tm⟩
  | bk δ => exact fun σ J tm S' => hP (.nx δ) p σ J S'
  | rt r => exact fun v J tm g hv => hP (.rt r) p v J g hv
  | ex δ Φ => exact fun σ J tm S' => hP (.ex δ Φ) p σ J S'
theorem pi_revK {X : Cx} {tg : Expr} (K : PySem.W.Frag) (e' : X.K = K) {e : Expr} {te : TE} {p pos : Pos} (hg : Gl X "reversed") (hm : X.mg "reversed" = none) (he : PE X e te) (hs : starEach [e] X.env = (false, eval e X.env) :: starEach [] X.env := by rfl) : PI X tg (.Call (.Name "reversed" p) [e] [] pos) (RT.iRevA K te) := by
  subst e'
  exact RT.pi_revA hg hm he hs
end
end Tn

namespace Tn
open PySem L2 PySem.Spec PyProof.Rows
/-! ### what raises -/
/-- a def's promise: it ends by R, or raises by RX -/
def spX (K : PySem.W.Frag) (R : List SD → SD → Prop) (RX : List SD → Value → Prop) : Sp := fun vs H Q E => ∃ ss, VA K H vs ss ∧ ((∃ r, R ss r ∧ ∀ v J, Gr H J → VS K H J v r → Q v J) ∨ ∃ c, RX ss c ∧ ∀ J, Gr H J → E c none J)
section
variable {K : PySem.W.Frag}
def DX (K : PySem.W.Frag) (te : TE) (δ : List SD) (Φ : L2.St → Hp → Prop) : Prop := ∀ (H0 H : Hp) (σ : L2.St), Sd K H0 H σ δ → (∀ J, Gr H J → Φ σ J) → ∀ Q : VK, te σ H Q
def DXT (K : PySem.W.Frag) (tt : TT) (δ : List SD) (Φ : L2.St → Hp → Prop) : Prop := ∀ (H0 H : Hp) (σ : L2.St), Sd K H0 H σ δ → (∀ J, Gr H J → Φ σ J) → ∀ Q : Bool → Hp → Prop, tt σ H Q
variable {δ δ' : List SD} {ta tb te : TE} {tt : TT} {d : PyData} {ds : List PyData} {ta' : TA} {ss : List SD} {R : List SD → SD → Prop} {RX : List SD → Value → Prop} {c cls : Value} {P : Out → Prop} {Φ : L2.St → Hp → Prop} {t u : TS} {i : Nat} {g : TG} {r2 : R2}
/-! calls -/
theorem dx_callS {E : L2.St → XK} (h : DA K ta' δ ss) (hR : RX ss c) : DX K (tCallS (spX K R RX) E ta') δ (fun σ J => E σ c none J) := fun H0 H σ S hΦ Q => h H0 H σ S _ fun vs J g hv => ⟨ss, hv, .inr ⟨c, hR, fun L g2 => hΦ L (g.tr g2)⟩⟩
theorem dx_callW {W : WX} (h : DA K ta' δ ss) (hR : RX ss c) : DX K (tCallS (spX K R RX) (WE W) ta') δ (W c none) := fun H0 H σ S hΦ Q => h H0 H σ S _ fun vs J g hv => ⟨ss, hv, .inr ⟨c, hR, fun L g2 => hΦ L (g.tr g2)⟩⟩
theorem de_callS {E : L2.St → XK} (h : DA K ta' δ ss) (hR : R ss (.dat d)) : DE K (tCallS (spX K R RX) E ta') δ d := fun H0 H σ S Q q => h H0 H σ S _ fun vs J g hv => ⟨ss, hv, .inl ⟨_, hR, fun v L g2 hv2 => q v L (g.tr g2) hv2⟩⟩
theorem dn_callS {E : L2.St → XK} (h : DA K ta' δ ss) (hR : R ss (.own ds)) : DN K (tCallS (spX K R RX) E ta') δ ds := fun H0 H σ S Q q => h H0 H σ S _ fun vs J g hv => ⟨ss, hv, .inl ⟨_, hR, fun v L g2 hv2 => by
    obtain ⟨p, us, rfl, h0, h1, h2⟩ := hv2
    exact q p us L (g.tr g2) (g.free h0) h1 h2⟩⟩
theorem de_callL {E : XK} (h : DA K ta' δ ss) (hR : R ss (.dat d)) : DE K (tCall (spX K R RX) [] E ta') δ d := fun H0 H σ S Q q => h H0 H σ S _ fun vs J g hv => ⟨ss, by rw [List.append_nil]; exact hv, .inl ⟨_, hR, fun v L g2 hv2 => q v L (g.tr g2) hv2⟩⟩
theorem dn_callL {E : XK} (h : DA K ta' δ ss) (hR : R ss (.own ds)) : DN K (tCall (spX K R RX) [] E ta') δ ds := fun H0 H σ S Q q => h H0 H σ S _ fun vs J g hv => ⟨ss, by rw [List.append_nil]; exact hv, .inl ⟨_, hR, fun v L g2 hv2 => by
    obtain ⟨p, us, rfl, h0, h1, h2⟩ := hv2
    exact q p us L (g.tr g2) (g.free h0) h1 h2⟩⟩
theorem dx_op1 (h : DX K ta δ Φ) : DX K (tOp r2 ta tb) δ Φ := fun H0 H σ S hΦ Q => h H0 H σ S hΦ _
theorem dx_op2 (ha : DE K ta δ d) (h : DX K tb δ Φ) : DX K (tOp r2 ta tb) δ Φ := fun H0 H σ S hΦ Q => ha H0 H σ S _ fun v J g hv => h H0 J σ (S.mono g) (fun L g2 => hΦ L (g.tr g2)) _
theorem dxt_test (h : DX K te δ Φ) : DXT K (tTest te) δ Φ := fun H0 H σ S hΦ Q => h H0 H σ S hΦ _
/-! statements -/
theorem tw_asgX (h : DX K te δ Φ) (k : P (.ex δ Φ)) : WP K (tAsg te g) δ P := fun H0 H σ D S hP => h H0 H σ S (fun J gr => hP _ k σ J (S.mono gr)) _
theorem tw_dropX (h : DX K te δ Φ) (k : P (.ex δ Φ)) : WP K (tDrop te) δ P := fun H0 H σ D S hP => h H0 H σ S (fun J gr => hP _ k σ J (S.mono gr)) _
theorem tw_retX (h : DX K te δ Φ) (k : P (.ex δ Φ)) : WP K (tRet te) δ P := fun H0 H σ D S hP => h H0 H σ S (fun J gr => hP _ k σ J (S.mono gr)) _
theorem tw_ifX (h : DXT K tt δ Φ) (k : P (.ex δ Φ)) : WP K (tIfS tt t u) δ P := fun H0 H σ D S hP => h H0 H σ S (fun J gr => hP _ k σ J (S.mono gr)) _
theorem then_ex (h : P (.ex δ Φ)) : thenP K u P (.ex δ Φ) := h
theorem loop_ex {W : Nat → List SD → Prop} {k : Nat} (h : P (.ex δ Φ)) : loopP W k P (.ex δ Φ) := h
/-- raise X(e) -/
def tRaise (ta : TE) (Φ : L2.St → Hp → Prop) : TS := fun _ σ H => ta σ H fun _ H1 => Φ σ H1
theorem ps_raise1 {X : Cx} {W : WX} {C : Addr} {bmB : List Value} {B newId initId : String} {x : Str} {e : Expr} {p pos pos2 : Pos} (hc : X.calm = true) (tk : Takes X W) (F : ExcBaseFacts B newId initId bmB) (q : PySem.W.excIn X.K C bmB newId = true) (gC : X.mg x = some (.ref C)) (kC : PySem.W.keepIn X.K (.ref C) = true) (r : Raises X (.ref C)) (hg : Gl X x)
    (he : PE X e ta) (hs : starEach [e] X.env = (false, eval e X.env) :: starEach [] X.env := by rfl) (hdb : (x == ("__debug__" : Str)) = false := by decide) :
    PS X (.Raise (some (.Call (.Name x p) [e] [] pos)) none pos2) (tRaise ta (W (.ref C) none)) := ps_raise hc tk (SkE.pmk_own1 F q gC kC r hg he hs hdb)
theorem tw_raise (h : DE K te δ d) (k : P (.ex δ Φ)) : WP K (tRaise te Φ) δ P := fun H0 H σ D S hP => h H0 H σ S _ fun v J gr _ => hP _ k σ J (S.mono gr)
/-! try -/
def tTryO (K : PySem.W.Frag) (c : Value) (ts : Addr → Value → Option Addr → TS) (tb : WX → TS) : TS := fun D σ H => tb (wOnly K c ts (fun _ _ _ _ => False) D) D σ H
def tTryA (K : PySem.W.Frag) (c : Value) (i : Nat) (ts : Addr → Value → Option Addr → TS) (tb : WX → TS) : TS := fun D σ H => tb (wAs K c i ts (fun _ _ _ _ => False) D) D σ H
theorem ps_tryO {X : Cx} {x : Str} {body suite : List Stmt} {b₀ : Stmt} {np pos pos' : Pos} {tb : WX → TS} {ts : Addr → Value → Option Addr → TS} (K : PySem.W.Frag) (e : X.K = K) (hs : X.stack = X.env :: X.outer) (hf : X.env.frame = some X.env.locals) (hc : Names X x c)
    (hb : ∀ (W : WX) (pn : List (Addr × Obj)) (xe : Value → Shared → Prop), Takes (X.tr pn xe) W → PassesOwn (model X.prog X.w) X.A X.env xe → PSs (X.tr pn xe) body (tb W))
    (hsu : ∀ (a : Addr) (oe : Obj) (cls : Value) (d : Option Addr) (pn : List (Addr × Obj)), Zc cls d oe → (∃ vs, oe.data = .fields vs) → PSs (X.suite a ((a, oe) :: pn)) (b₀ :: suite) (ts a cls d)) :
    PS X (.Try body [.ExceptHandler (some (.Name x np)) none (b₀ :: suite) pos'] [] [] pos) (tTryO K c ts tb) := by
  subst e
  exact ps_try_only hs hf hc takes0 hb hsu
theorem ps_tryA {X : Cx} {x n : Str} {i : Nat} {body suite : List Stmt} {b₀ : Stmt} {np pos pos' : Pos} {tb : WX → TS} {ts : Addr → Value → Option Addr → TS} (K : PySem.W.Frag) (e : X.K = K) (hs : X.stack = X.env :: X.outer) (hf : X.env.frame = some X.env.locals) (hN : X.N.Nodup) (hi : X.N[i]? = some n) (hln : X.env.kindOf n = some .local) (hc : Names X x c)
    (hb : ∀ (W : WX) (pn : List (Addr × Obj)) (xe : Value → Shared → Prop), Takes (X.tr pn xe) W → PassesOwn (model X.prog X.w) X.A X.env xe → PSs (X.tr pn xe) body (tb W))
    (hsu : ∀ (a : Addr) (oe : Obj) (cls : Value) (d : Option Addr) (pn : List (Addr × Obj)), Zc cls d oe → (∃ vs, oe.data = .fields vs) → PSs (X.suite a ((a, oe) :: pn)) (b₀ :: suite) (ts a cls d)) :
    PS X (.Try body [.ExceptHandler (some (.Name x np)) (some n) (b₀ :: suite) pos'] [] [] pos) (tTryA K c i ts tb) := by
  subst e
  exact ps_try_as hs hf hN hi hln hc takes0 hb hsu
def tryO (K : PySem.W.Frag) (c : Value) (ts : Addr → Value → Option Addr → TS) (W : WX) (P : Out → Prop) : Out → Prop
  | .ex δ Φ => ∃ cls, Φ = W cls none ∧ PySem.W.exmOne K cls c = some true ∧ ∀ a, WP K (ts a cls none) δ P
  | o => P o
theorem tw_tryO {ts : Addr → Value → Option Addr → TS} {tb : WX → TS} (h : ∀ W, WP K (tb W) δ (tryO K c ts W P)) : WP K (tTryO K c ts tb) δ P := fun H0 H σ D S hP =>
  h (wOnly K c ts (fun _ _ _ _ => False) D) H0 H σ D S fun o p => by
    cases o with
    | nx δ => exact hP (.nx δ) p
    | rt r => exact hP (.rt r) p
    | bk δ => exact hP (.bk δ) p
    | ct δ => exact hP (.ct δ) p
    | ex δ Φ =>
      obtain ⟨cls, rfl, hm, hw⟩ := p
      exact fun σ J S' => ⟨true, hm, fun _ a _ => hw a H0 J σ D S' hP, fun z => by cases z⟩
/-- behind the suite the error's name is unbound -/
def sufP (i : Nat) (P : Out → Prop) : Out → Prop
  | .nx δ => P (.nx (δ.set i .emp))
  | .bk δ => P (.bk (δ.set i .emp))
  | .ct δ => P (.ct (δ.set i .emp))
  | o => P o
def tryA (K : PySem.W.Frag) (c : Value) (i : Nat) (ts : Addr → Value → Option Addr → TS) (W : WX) (P : Out → Prop) : Out → Prop
  | .ex δ Φ => ∃ cls, Φ = W cls none ∧ PySem.W.exmOne K cls c = some true ∧ ∀ a, WP K (ts a cls none) (δ.set i (.raw (.ref a))) (sufP i P)
  | o => P o
theorem Sd.unset {H0 H : Hp} {σ : L2.St} {i : Nat} (S : Sd K H0 H σ δ) : Sd K H0 H (σ.set i none) (δ.set i .emp) := by
  refine ⟨S.gr, by rw [List.length_set, List.length_set]; exact S.len, fun j t hj ne => ?_, fun j k t u a hj hk ht hu ej ek => ?_⟩
  · rcases get_set hj with ⟨e, rfl, hl⟩ | ⟨e, h2⟩
    · exact absurd rfl ne
    · rw [set_get_ne e]
      exact S.ok j t h2 ne
  · rcases get_set hj with ⟨e, rfl, hl⟩ | ⟨e, h2⟩
    · cases ht
    · rcases get_set hk with ⟨e', rfl, hl'⟩ | ⟨e', h2'⟩
      · cases hu
      · rw [set_get_ne e] at ej
        rw [set_get_ne e'] at ek
        exact S.apart j k t u a h2 h2' ht hu ej ek
theorem tw_tryA {ts : Addr → Value → Option Addr → TS} {tb : WX → TS} (h : ∀ W, WP K (tb W) δ (tryA K c i ts W P)) : WP K (tTryA K c i ts tb) δ P := fun H0 H σ D S hP =>
  h (wAs K c i ts (fun _ _ _ _ => False) D) H0 H σ D S fun o p => by
    cases o with
    | nx δ => exact hP (.nx δ) p
    | rt r => exact hP (.rt r) p
    | bk δ => exact hP (.bk δ) p
    | ct δ => exact hP (.ct δ) p
    | ex δ Φ =>
      obtain ⟨cls, rfl, hm, hw⟩ := p
      refine fun σ J S' => ⟨true, hm, fun _ a _ => hw a H0 J _ _ (S'.store (v := .ref a) (s := .raw (.ref a)) rfl fun z => by cases z) fun o p => ?_, fun z => by cases z⟩
      cases o with
      | nx δ => exact fun σ J S2 => hP (.nx (δ.set i .emp)) p _ J S2.unset
      | rt r => exact hP (.rt r) p
      | bk δ => exact fun σ J S2 => hP (.bk (δ.set i .emp)) p _ J S2.unset
      | ct δ => exact fun σ J S2 => hP (.ct (δ.set i .emp)) p _ J S2.unset
      | ex δ Φ => exact hP (.ex δ Φ) p
theorem suf_rt {r : SD} (h : P (.rt r)) : sufP i P (.rt r) := h
theorem suf_nx (h : P (.nx (δ.set i .emp))) : sufP i P (.nx δ) := h
theorem suf_ct (h : P (.ct (δ.set i .emp))) : sufP i P (.ct δ) := h
theorem tryA_rt {ts : Addr → Value → Option Addr → TS} {W : WX} {r : SD} (h : P (.rt r)) : tryA K c i ts W P (.rt r) := h
theorem tryA_nx {ts : Addr → Value → Option Addr → TS} {W : WX} (h : P (.nx δ)) : tryA K c i ts W P (.nx δ) := h
theorem tryA_ct {ts : Addr → Value → Option Addr → TS} {W : WX} (h : P (.ct δ)) : tryA K c i ts W P (.ct δ) := h
theorem tryA_ex {ts : Addr → Value → Option Addr → TS} {W : WX} (h1 : PySem.W.exmOne K cls c = some true) (h2 : ∀ a, WP K (ts a cls none) (δ.set i (.raw (.ref a))) (sufP i P)) : tryA K c i ts W P (.ex δ (W cls none)) := ⟨cls, rfl, h1, h2⟩
theorem tryO_rt {ts : Addr → Value → Option Addr → TS} {W : WX} {r : SD} (h : P (.rt r)) : tryO K c ts W P (.rt r) := h
theorem tryO_nx {ts : Addr → Value → Option Addr → TS} {W : WX} (h : P (.nx δ)) : tryO K c ts W P (.nx δ) := h
theorem tryO_ct {ts : Addr → Value → Option Addr → TS} {W : WX} (h : P (.ct δ)) : tryO K c ts W P (.ct δ) := h
theorem tryO_ex {ts : Addr → Value → Option Addr → TS} {W : WX} (h1 : PySem.W.exmOne K cls c = some true) (h2 : ∀ a, WP K (ts a cls none) δ P) : tryO K c ts W P (.ex δ (W cls none)) := ⟨cls, rfl, h1, h2⟩
theorem tw_seqTA {ts : Addr → Value → Option Addr → TS} {tb : WX → TS} (h : WP K (tTryA K c i ts tb) δ (thenP K u P)) : WP K (tSeq (tTryA K c i ts tb) u) δ P := tw_seq h
theorem tw_seqTO {ts : Addr → Value → Option Addr → TS} {tb : WX → TS} (h : WP K (tTryO K c ts tb) δ (thenP K u P)) : WP K (tSeq (tTryO K c ts tb) u) δ P := tw_seq h
/-! isinstance of the error in hand -/
def rIsErr (K : PySem.W.Frag) (cls : Value) (d : Option Addr) (a : Addr) : List V → Hp → VK → Prop := fun xs H Q => ∃ D, cls = .ref D ∧ d = none ∧ ExcC K D ∧ rIsE K D a xs H Q
theorem call_isErr {X : Cx} {a : Addr} {oe : Obj} {cls : Value} {d : Option Addr} {pn : List (Addr × Obj)} (K : PySem.W.Frag) (e : X.K = K) (hz : Zc cls d oe) (hf : ∃ vs, oe.data = .fields vs) : CallR (X.suite a ((a, oe) :: pn)) (.builtin "isinstance") (rIsErr K cls d a) := by
  subst e
  intro pins s σ H xs us Q I r h
  obtain ⟨D, rfl, rfl, C, h⟩ := h
  exact call_isE C hz hf pins s σ H xs us Q I r h
theorem de_isErr {a D : Addr} {c : V} {cv : Value} {b : Bool} (hi : δ[i]? = some (.raw (.ref a))) (hD : ExcC K D) (hc : ∀ u, RelV c u → u = cv) (hk : PySem.W.kitOne K (.ref D) cv = some b) : DE K (tCB (rIsErr K (.ref D) none a) (tCons (tVar i) (tCons (tC c) tNil))) δ (.bool b) := fun H0 H σ S Q q => by
  obtain ⟨v, h1, h2⟩ := S.ok i _ hi (by intro z; cases z)
  have e : v = .ref a := h2
  subst e
  exact ⟨_, h1, D, rfl, rfl, hD, c, cv, b, rfl, hc, hk, q _ H (Gr.rfl' H) (.bl _)⟩
def rDivW : R2 := rI CDivW fun i j => .int (i / j)
theorem o_divW {X : Cx} : OpR X (binaryOp .FloorDiv) rDivW := op_fdivW
theorem de_divW {i j : Int} (ha : DE K ta δ (.int i)) (hb : DE K tb δ (.int j)) (hc : CDivW i j) : DE K (tOp rDivW ta tb) δ (.int (i / j)) := de_opI ha hb fun H Q q => ⟨i, j, rfl, rfl, hc, q _ (.int _)⟩
theorem de_chLe {tc : TE} {i j k : Int} (ha : DE K ta δ (.int i)) (hb : DE K tb δ (.int j)) (hc : DE K tc δ (.int k)) : DE K (tChain rLeX rLeX ta tb tc) δ (.bool (decide (i ≤ j) && decide (j ≤ k))) := de_chain (p := fun i j => decide (i ≤ j)) (q := fun i j => decide (i ≤ j)) ha hb hc
theorem de_chLt {tc : TE} {i j k : Int} (ha : DE K ta δ (.int i)) (hb : DE K tb δ (.int j)) (hc : DE K tc δ (.int k)) : DE K (tChain rLtX rLtX ta tb tc) δ (.bool (decide (i < j) && decide (j < k))) := de_chain (p := fun i j => decide (i < j)) (q := fun i j => decide (i < j)) ha hb hc
theorem de_chLeLt {tc : TE} {i j k : Int} (ha : DE K ta δ (.int i)) (hb : DE K tb δ (.int j)) (hc : DE K tc δ (.int k)) : DE K (tChain rLeX rLtX ta tb tc) δ (.bool (decide (i ≤ j) && decide (j < k))) := de_chain (p := fun i j => decide (i ≤ j)) (q := fun i j => decide (i < j)) ha hb hc
theorem de_chLtLe {tc : TE} {i j k : Int} (ha : DE K ta δ (.int i)) (hb : DE K tb δ (.int j)) (hc : DE K tc δ (.int k)) : DE K (tChain rLtX rLeX ta tb tc) δ (.bool (decide (i < j) && decide (j ≤ k))) := de_chain (p := fun i j => decide (i < j)) (q := fun i j => decide (i ≤ j)) ha hb hc
theorem log_small {j : Int} (h : 0 < j) (h2 : j < 1152921504606846976) : j.natAbs.log2 < 9000 := Nat.lt_trans ((Nat.log2_lt (by omega)).mpr (by omega : j.natAbs < 2 ^ 60)) (by decide)
/-! f-strings -/
theorem de_fmtS {y : Str} (h : DE K te δ (.str y)) (hl : y.length ≤ 100000) : DE K (tFmt te) δ (.str y) := fun H0 H σ S Q q => h H0 H σ S _ fun v J g hv => .inl ⟨y, hv.str_of, Nat.le_trans hl (by decide), q _ J g (.str _)⟩
theorem de_fmtI {k : Int} (h : DE K te δ (.int k)) (hl : k.natAbs.log2 < 1920) : DE K (tFmt te) δ (.str (toString k)) := fun H0 H σ S Q q => h H0 H σ S _ fun v J g hv => .inr ⟨k, hv.int_of, hl, q _ J g (.str _)⟩
/-- some value, no matter which -/
def DG (K : PySem.W.Frag) (te : TE) (δ : List SD) : Prop := ∀ (H0 H : Hp) (σ : L2.St), Sd K H0 H σ δ → ∀ Q : VK, (∀ v J, Gr H J → Q v J) → te σ H Q
theorem DE.dg (h : DE K te δ d) : DG K te δ := fun H0 H σ S Q q => h H0 H σ S Q fun v J g _ => q v J g
def tJoin (ts : List TE) : TE := fun σ H Q => tJs ts Str.empty σ H fun out H1 => Q (.str out) H1
theorem pe_join {X : Cx} {v1 v2 : Expr} {rest : List Expr} {ts : List TE} {pos : Pos} (h : PJ X (v1 :: v2 :: rest) ts) : PE X (.JoinedStr (v1 :: v2 :: rest) pos) (tJoin ts) := pe_joined h
def DJ (K : PySem.W.Frag) (ts : List TE) (δ : List SD) (n : Nat) : Prop := ∀ (acc : Str), acc.length + n ≤ 100000 → ∀ (H0 H : Hp) (σ : L2.St), Sd K H0 H σ δ → ∀ Q : Str → Hp → Prop, (∀ y J, Gr H J → Q y J) → tJs ts acc σ H Q
theorem dj_nil : DJ K [] δ 0 := fun acc _ H0 H σ S Q q => q _ H (Gr.rfl' H)
theorem dj_cons {ts : List TE} {y : Str} {m n : Nat} (h : DE K te δ (.str y)) (hl : y.length ≤ m) (r : DJ K ts δ n) : DJ K (te :: ts) δ (m + n) := fun acc ha H0 H σ S Q q => by
  refine h H0 H σ S _ fun v J g hv => ⟨y, hv.str_of, ?_, r (acc ++ y) ?_ H0 J σ (S.mono g) Q fun z L g2 => q z L (g.tr g2)⟩
  · have e : (acc ++ y).length = acc.length + y.length := PySem.Str.length_append _ _
    rw [e]
    exact Nat.le_trans (Nat.le_trans (Nat.add_le_add_left (Nat.le_trans hl (Nat.le_add_right m n)) _) ha) (by decide)
  · have e : (acc ++ y).length = acc.length + y.length := PySem.Str.length_append _ _
    rw [e]
    omega
theorem dg_join {ts : List TE} {n : Nat} (h : DJ K ts δ n) (hn : n ≤ 100000) : DG K (tJoin ts) δ := fun H0 H σ S Q q => h Str.empty (by have e : (Str.empty).length = 0 := rfl; rw [e]; omega) H0 H σ S _ fun y J g => q _ J g
theorem tw_raiseG (h : DG K te δ) (k : P (.ex δ Φ)) : WP K (tRaise te Φ) δ P := fun H0 H σ D S hP => h H0 H σ S _ fun v J gr => hP _ k σ J (S.mono gr)
/-! a def that may raise -/
def exO (E : XK) (c : Value) : Out → Prop
  | .ex _ Φ => Φ = fun _ J => E c none J
  | _ => False
theorem fn_ex {E : XK} {c : Value} (h : Φ = fun _ J => E c none J) : exO E c (.ex δ Φ) := h
/-- what the class of an error must say -/
structure ExK (K : PySem.W.Frag) (C : Addr) : Prop where
  x : PySem.W.excIn K C [.type "ValueError", .type "Exception", .type "BaseException", .type "object"] "ValueError.__new__" = true
  k : PySem.W.keepIn K (.ref C) = true
  e : ExcC K C
  t : PySem.W.typeIn K (.ref C) = some (.type "type")
  i : PySem.W.isClsIn K C = true
  s : PySem.W.subIn K (.ref C) (.ref C) = some true
theorem ExK.exm {C : Addr} {cls : Value} {b : Bool} (h : ExK K C) (h4 : PySem.W.subIn K cls (.ref C) = some b) : PySem.W.exmOne K cls (.ref C) = some b := PySem.W.exm_ref h.e.hs h.e.hd h.t h4
theorem ExK.kit {C D : Addr} {b : Bool} (h : ExK K C) (h4 : PySem.W.subIn K (.ref D) (.ref C) = some b) : PySem.W.kitOne K (.ref D) (.ref C) = some b := by
  by_cases e : D = C
  · subst e
    rw [h.s] at h4
    cases h4
    unfold PySem.W.kitOne
    rw [if_pos (by simp)]
  · unfold PySem.W.kitOne
    rw [if_neg (by simp [e])]
    have h2 : (PySem.W.clsIn K C).isSome = true := h.i
    show (if ((PySem.W.clsIn K C).isSome && PySem.W.typeIn K (.ref C) == some (.type "type")) = true then PySem.W.subIn K (.ref D) (.ref C) else none) = some b
    rw [if_pos (by rw [h2, h.t]; rfl)]
    exact h4
end
section
variable {P : Program} {w : World} {K : PySem.W.Frag} {mg : Str → Option Value} {base : Heap}
theorem fn_X {x qual : Str} {st : Stmt} {f : Addr} {fd : FuncData} {N ps : List Str} {k : Nat} {R : List SD → SD → Prop} {RX : List SD → Value → Prop} (F : Fun K x qual st f fd) (S : FnScope N ps (defScope st)) (len : ∀ ss r, R ss r → ss.length = ps.length) (lenX : ∀ ss c, RX ss c → ss.length = ps.length)
    (hb : ∀ (cdv : Value) (A : Around) (outer : List Env) (s : Shared) (H : Hp) (E : XK), Room k (A.deeper (envOfC qual (defScope st) s.heap.objs.size f cdv)) →
      ∃ t, PSs (cxOf (L2.CX P w) P w K mg base N qual (defScope st) f cdv A outer s H E) (defBody st) t ∧ (∀ ss r, R ss r → WP K t (startD N ss) (fnO r)) ∧ ∀ ss c, RX ss c → WP K t (startD N ss) (exO E c)) : FnOk P w K mg base (L2.CX P w) (k + 1) f fd ps (spX K R RX) := by
  refine F.okX S (fun vs H Q E h => ?_) (fun cdv A outer s H vs Q E hr h => ?_)
  · obtain ⟨ss, hv, h⟩ := h
    rcases h with ⟨r, hR, _⟩ | ⟨c, hR, _⟩
    · exact hv.length.trans (len ss r hR)
    · exact hv.length.trans (lenX ss c hR)
  · obtain ⟨t, ht, hw, hx⟩ := hb cdv A outer s H E hr
    obtain ⟨ss, hv, h⟩ := h
    refine ⟨t, ht, ?_⟩
    rcases h with ⟨r, hR, q⟩ | ⟨c, hR, q⟩
    · refine hw ss r hR H H _ _ (sd_start hv) fun o p => ?_
      cases o with
      | nx δ =>
        have e : r = .dat .none := p
        subst e
        exact fun σ J S' => q .non J S'.gr .non
      | rt r' =>
        have e : r' = r := p
        subst e
        exact fun v J g hv => q v J g hv
      | bk δ => exact False.elim p
      | ct δ => exact False.elim p
      | ex δ Φ => exact False.elim p
    · refine hx ss c hR H H _ _ (sd_start hv) fun o p => ?_
      cases o with
      | ex δ Φ =>
        have e : Φ = fun _ J => E c none J := p
        subst e
        exact fun σ J S' => q J S'.gr
      | nx δ => exact False.elim p
      | rt r' => exact False.elim p
      | bk δ => exact False.elim p
      | ct δ => exact False.elim p
end
end Tn

namespace Tn
open PySem L2 PySem.Spec PyProof.Rows
/-! ### several clauses `except X as e`, all of one name; no other error comes -/
abbrev Clause := Value × (Addr → Value → Option Addr → TS)
def sufD (i : Nat) (D : Ends) : Ends := { nx := fun σ H => D.nx (σ.set i none) H, rt := D.rt, bk := fun σ H => D.bk (σ.set i none) H, ct := fun σ H => D.ct (σ.set i none) H }
def wEach (K : PySem.W.Frag) (i : Nat) (D : Ends) : List Clause → WX
  | [], _, _, _, _ => False
  | (c, ts) :: r, cls, d, σ, H => ∃ b, PySem.W.exmOne K cls c = some b ∧ (b = true → ∀ a, H a = none → ts a cls d (sufD i D) (σ.set i (some (.ref a))) H) ∧ (b = false → wEach K i D r cls d σ H)
inductive Clauses (X : Cx) (n : Str) : List ExceptHandler → List Clause → Prop
  | nil : Clauses X n [] []
  | cons {x : Str} {c : Value} {ts : Addr → Value → Option Addr → TS} {b : Stmt} {bs : List Stmt} {p q : Pos} {hs : List ExceptHandler} {l : List Clause} (hc : Names X x c)
      (su : ∀ (a : Addr) (oe : Obj) (cls : Value) (d : Option Addr) (pn : List (Addr × Obj)), Zc cls d oe → (∃ vs, oe.data = .fields vs) → PSs (X.suite a ((a, oe) :: pn)) (b :: bs) (ts a cls d)) (r : Clauses X n hs l) :
      Clauses X n (.ExceptHandler (some (.Name x p)) (some n) (b :: bs) q :: hs) ((c, ts) :: l)
section
variable {X : Cx} {n : Str} {i : Nat}
/-- the clauses, one after the other, with the error in hand -/
theorem clauses_run {hds : List ExceptHandler} {l : List Clause} {pins : List (Addr × Obj)} {D : Ends} {a : Addr} {B : Heap} {cls : Value} {d : Option Addr} {σ : L2.St} {H : Hp} {sI s' : Shared} {h3 : Heap}
    (hf : X.env.frame = some X.env.locals) (hN : X.N.Nodup) (hi : X.N[i]? = some n) (hln : X.env.kindOf n = some .local) (ok : X.Ok)
    (J : Inv X pins σ H sI) (fl : HandSPX.FlyingZ B (X.env :: X.outer) a (Zc cls d) h3) (up : sI.heap.UpToSlots h3)
    (land : ∀ h4, HandSPX.FlyingZ B (X.env :: X.outer) a (Zc cls d) h4 → sI.heap.UpToSlots h4 → Inv X pins σ H { s' with heap := h4 })
    (na : H a = none) (nL : a ≠ X.env.locals) (nF : a ∉ X.fs) (C : Clauses X n hds l) (w : wEach X.K i D l cls d σ H) :
    wpAny (model X.prog X.w) X.A (handleBy (.ref a) X.env hds) (SP X pins D) X.xe { s' with heap := h3 } := by
  induction C with
  | nil => exact w.elim
  | @cons x c ts b₀ bs p q hs l hc su r ih =>
    obtain ⟨b, e1, yes, no⟩ := w
    have J3 := land h3 fl up
    obtain ⟨oe, vs, he, hz, hd⟩ := fl.there
    have S3 := J3.suite he hd na nL nF
    have asked : PySem.W.Looks (model X.prog X.w) h3 (typeOf (.ref a)) cls := fun A Q E s k q => wpAny_typeOf_ref (k _ _ he) (by rw [hz.1]; exact q)
    have same := PySem.W.exm_one (M := model X.prog X.w) J3.kIn asked e1
    refine wpAny_handleBy_cons (codeAny_handlers_test ?_) (by intro z; cases z)
    have name : ∀ {Q E : Value → Shared → Prop}, Q c { s' with heap := h3 } → wpAny (model X.prog X.w) (X.A.mark (some (.ref a))) (eval (.Name x p) X.env) Q E { s' with heap := h3 } := fun {Q E} z => by
      obtain ⟨g1, g2, g3 | ⟨g3, g4, g5⟩⟩ := hc
      · exact ld_glob (X := X.suite a ((a, oe) :: (X.pn ++ pins))) S3 g1 g3 z g2
      · exact ld_blt (X := X.suite a ((a, oe) :: (X.pn ++ pins))) S3 g1 g3 g4 z g5 g2
    refine name (same.here ?_)
    cases b with
    | false => exact ih (no rfl)
    | true =>
      refine codeAny_handlers_suite_as (HandSPX.lands_againZ fl fun h4 fl4 up4 => ?_)
      have J4 := land h4 fl4 (up.trans up4)
      obtain ⟨oe4, vs4, he4, hz4, hd4⟩ := fl4.there
      refine store_ok (X := X.suite a ((a, oe4) :: (X.pn ++ pins))) (v := .ref a) (J4.suite he4 hd4 na nL nF) hN hi (.inl hln) rfl (fun s5 S5 => ?_) (.inr hln)
      refine wpAny_mono ((su a oe4 cls d (X.pn ++ pins) hz4 ⟨_, hd4⟩).run [] s5 _ H _ S5 (yes rfl a na)) (fun f s6 hsp => ?_) (fun _ _ z => False.elim z)
      cases f with
      | next => obtain ⟨σ6, H6, S6, q6⟩ := hsp; exact gone_ok (S6.unsuite ok) hN hi hln fun s7 J7 => ⟨_, _, J7, q6⟩
      | brk => obtain ⟨σ6, H6, S6, q6⟩ := hsp; exact gone_ok (S6.unsuite ok) hN hi hln fun s7 J7 => ⟨_, _, J7, q6⟩
      | cont => obtain ⟨σ6, H6, S6, q6⟩ := hsp; exact gone_ok (S6.unsuite ok) hN hi hln fun s7 J7 => ⟨_, _, J7, q6⟩
      | ret u => obtain ⟨v6, σ6, H6, S6, r6, q6⟩ := hsp; exact gone_ok (S6.unsuite ok) hN hi hln fun s7 J7 => ⟨_, _, _, J7, r6, q6⟩
def tTryE (K : PySem.W.Frag) (i : Nat) (l : List Clause) (tb : WX → TS) : TS := fun D σ H => tb (wEach K i D l) D σ H
theorem ps_tryE {body : List Stmt} {h₀ : ExceptHandler} {hds : List ExceptHandler} {l : List Clause} {pos : Pos} {tb : WX → TS} (K : PySem.W.Frag) (e : X.K = K) (hs : X.stack = X.env :: X.outer) (hf : X.env.frame = some X.env.locals) (hN : X.N.Nodup) (hi : X.N[i]? = some n) (hln : X.env.kindOf n = some .local)
    (hb : ∀ (W : WX) (pn : List (Addr × Obj)) (xe : Value → Shared → Prop), Takes (X.tr pn xe) W → PassesOwn (model X.prog X.w) X.A X.env xe → PSs (X.tr pn xe) body (tb W))
    (C : Clauses X n (h₀ :: hds) l) : PS X (.Try body (h₀ :: hds) [] [] pos) (tTryE K i l tb) := by
  subst e
  refine ⟨fun pins s σ H D I h => ?_⟩
  have ok := I.ok
  have hfr : X.A.frames = some (X.env :: X.outer) := by rw [ok.frames, hs]
  have done : ∀ {f : Flow} {s1 : Shared}, SP (X.tr (X.pn ++ pins) (fun e s₁ => wpAny (model X.prog X.w) X.A (noteFrame e X.env) (fun _ s₂ => wpAny (model X.prog X.w) X.A (setFlight e none) (fun _ s₃ =>
    wpAny (model X.prog X.w) X.A (handleBy e X.env (h₀ :: hds)) (SP X pins D) X.xe s₃) X.xe s₂) X.xe s₁)) [] D f s1 → SP X pins D f s1 := fun {f s1} hsp => by
    cases f with
    | next => obtain ⟨σ', H', J', q⟩ := hsp; exact ⟨σ', H', J'.ofTry ok, q⟩
    | brk => obtain ⟨σ', H', J', q⟩ := hsp; exact ⟨σ', H', J'.ofTry ok, q⟩
    | cont => obtain ⟨σ', H', J', q⟩ := hsp; exact ⟨σ', H', J'.ofTry ok, q⟩
    | ret u => obtain ⟨v, σ', H', J', r, q⟩ := hsp; exact ⟨v, σ', H', J'.ofTry ok, r, q⟩
  refine wpAny_Try_except ?_
  refine wpAny_mono ((hb (wEach X.K i D l) (X.pn ++ pins) _ (fun u s' xx => ?_) PassesOwn.looking).run [] s σ H D (I.toTry _) h) (fun f s1 hsp => ?_) (fun e s1 he => he)
  · obtain ⟨a, B, sI, pins', σ', H', cls, d, rfl, J', nb, up, sky, na, os, ag, w⟩ := xx
    have J : Inv X pins σ' H' sI := J'.ofTry ok
    rw [show (X.tr (X.pn ++ pins) _).stack = X.env :: X.outer from hs] at sky
    show wpAny (model X.prog X.w) X.A (noteFrame (.ref a) X.env) _ _ _
    refine Sky.land Zc.steady hfr hf sky fun h3 fl up3 => ?_
    obtain ⟨oe, vs, he, hz, hd⟩ := fl.there
    have out : a ∉ frs (X.env :: X.outer) := fun m => by
      obtain ⟨_, o', e', k⟩ := fl.2.2.1.mem m
      rw [he] at e'
      cases e'
      exact k _ hd
    refine clauses_run hf hN hi hln ok J fl (up.trans up3) (fun h4 fl4 up4 => J.landed nb fl4.1 up4 os ag) na (fun z => out ?_) (fun m => out ?_) C w
    · exact List.mem_filterMap.mpr ⟨X.env, List.mem_cons_self, by rw [hf, z]⟩
    · obtain ⟨e, m1, m2⟩ := List.mem_filterMap.mp m
      exact List.mem_filterMap.mpr ⟨e, List.mem_cons_of_mem _ m1, m2⟩
  · cases f with
    | next => exact wpAny_execs_nil (done hsp)
    | brk => exact done hsp
    | cont => exact done hsp
    | ret u => exact done hsp
end
section
variable {K : PySem.W.Frag} {δ : List SD} {P : Out → Prop} {i : Nat} {u : TS} {cls : Value}
/-- the first clause that takes the class runs -/
def pick1 (K : PySem.W.Frag) (cls : Value) (i : Nat) (δ : List SD) (P : Out → Prop) : List Clause → Prop
  | [] => False
  | (c, ts) :: r => (PySem.W.exmOne K cls c = some true ∧ ∀ a, WP K (ts a cls none) (δ.set i (.raw (.ref a))) (sufP i P)) ∨ (PySem.W.exmOne K cls c = some false ∧ pick1 K cls i δ P r)
def tryE (K : PySem.W.Frag) (i : Nat) (l : List Clause) (W : WX) (P : Out → Prop) : Out → Prop
  | .ex δ Φ => ∃ cls, Φ = W cls none ∧ pick1 K cls i δ P l
  | o => P o
theorem pick_run {H0 H J : Hp} {σ : L2.St} {D : Ends} (hP : ∀ o, P o → OutOk K H0 D o) (S : Sd K H0 J σ δ) : ∀ {l : List Clause}, pick1 K cls i δ P l → wEach K i D l cls none σ J
  | [], h => h.elim
  | (c, ts) :: r, .inl ⟨h1, h2⟩ => ⟨true, h1, fun _ a _ => h2 a H0 J _ _ (S.store (v := .ref a) (s := .raw (.ref a)) rfl fun z => by cases z) fun o p => by
      cases o with
      | nx δ => exact fun σ J S2 => hP (.nx (δ.set i .emp)) p _ J S2.unset
      | rt r => exact hP (.rt r) p
      | bk δ => exact fun σ J S2 => hP (.bk (δ.set i .emp)) p _ J S2.unset
      | ct δ => exact fun σ J S2 => hP (.ct (δ.set i .emp)) p _ J S2.unset
      | ex δ Φ => exact hP (.ex δ Φ) p, fun z => by cases z⟩
  | (c, ts) :: r, .inr ⟨h1, h2⟩ => ⟨false, h1, (fun z => by cases z), fun _ => pick_run (H := H) hP S h2⟩
theorem tw_tryE {l : List Clause} {tb : WX → TS} (h : ∀ W, WP K (tb W) δ (tryE K i l W P)) : WP K (tTryE K i l tb) δ P := fun H0 H σ D S hP =>
  h (wEach K i D l) H0 H σ D S fun o p => by
    cases o with
    | nx δ => exact hP (.nx δ) p
    | rt r => exact hP (.rt r) p
    | bk δ => exact hP (.bk δ) p
    | ct δ => exact hP (.ct δ) p
    | ex δ Φ =>
      obtain ⟨cls, rfl, hw⟩ := p
      exact fun σ J S' => pick_run (H := J) hP S' hw
theorem tryE_ex {l : List Clause} {W : WX} (h : pick1 K cls i δ P l) : tryE K i l W P (.ex δ (W cls none)) := ⟨cls, rfl, h⟩
theorem tryE_nx {l : List Clause} {W : WX} (h : P (.nx δ)) : tryE K i l W P (.nx δ) := h
theorem tw_seqTE {l : List Clause} {tb : WX → TS} (h : WP K (tTryE K i l tb) δ (thenP K u P)) : WP K (tSeq (tTryE K i l tb) u) δ P := tw_seq h
theorem dn_catO {ta : TE} {ds es : List PyData} {j : Nat} (ha : DN K ta δ ds) (hj : δ[j]? = some (.own es)) (hl : ds.length + es.length ≤ 100000) : DN K (tOp (rAddX K) ta (tVar j)) δ (ds ++ es) := fun H0 H σ S Q q => ha H0 H σ S _ fun p vs J g hp h1 h2 => by
  obtain ⟨v, e1, b, us, rfl, k0, k1, k2⟩ := (S.mono g).ok j _ hj (by intro z; cases z)
  refine ⟨_, e1, .inr (.inr ⟨p, b, vs, us, rfl, rfl, h1, k1, by rw [h2.length, k2.length]; exact Nat.le_trans hl (by decide), fun r hr => ?_⟩)⟩
  exact q r _ _ (g.tr (Gr.lay hr)) (g.free hr) upd_same ((h2.app k2).mono (Gr.lay hr).tm)
end
end Tn

namespace Tn
open PySem L2 PySem.Spec PyProof.Rows
section
variable {X : Cx}
/-- o.f as a target -/
def gFld (K : PySem.W.Frag) (to : TE) (f : Str) : TG := fun v σ H Q => to σ H fun x H1 => ∃ a C dx fs, x = .ref a ∧ H1 a = some (.ins C dx fs) ∧ Cls K C ∧ NoAttr K C f ∧ fs.length < 1000 ∧ Q σ (upd H1 a (.ins C dx (putF f v fs)))
theorem pg_fld {o : Expr} {to : TE} {f : Str} {pos : Pos} (K : PySem.W.Frag) (e : X.K = K) (ho : PE X o to) : PG X (.Attribute o f pos) (gFld K to f) := by
  subst e
  refine ⟨fun pins s σ H v u Q I r h => PySem.W.kas_attr (thn (ho.run pins s σ H _ I h) fun ov s1 ⟨x, H1, I1, r1, a, C, dx, fs, ex, ea, c, n, l, q⟩ => ?_)⟩
  subst ex
  obtain rfl : ov = Value.ref a := r1
  exact setattr_ok I1 ea c n l r fun s2 I2 => ⟨σ, _, I2, q⟩
end
end Tn

namespace Tn
open PySem L2 PySem.Spec PyProof.Rows
/-! ### a region of the heap that is changed: Z its places
F: what lay there before and is not of the region; B: the base, F and the regions; H: the present heap -/
def InB (Z : List Addr) (B : Hp) : Prop := ∀ b ∈ Z, ∃ o, B b = some o ∧ ¬ Solid o
/-- all that is not of the region stays -/
def Fr (Z : List Addr) (H J : Hp) : Prop := ∀ b o, b ∉ Z → H b = some o → J b = some o
/-- the region may take new places -/
def NewZ (Z Z' : List Addr) (H : Hp) : Prop := ∀ b ∈ Z', b ∈ Z ∨ H b = none
def rebase (B J : Hp) (Z Z' : List Addr) : Hp := fun b => if b ∈ Z' then J b else if b ∈ Z then none else B b
section
variable {K : PySem.W.Frag} {B H J F : Hp} {Z Z' : List Addr} {δ : List SD} {σ : L2.St}
theorem Fr.tm (z : InB Z H) (f : Fr Z H J) : Tm K H J := fun a xs h => by
  have out : ∀ o, H a = some o → Solid o → a ∉ Z := fun o e s m => by
    obtain ⟨o', e', n⟩ := z a m
    rw [e] at e'
    cases e'
    exact n s
  rcases h with (h | ⟨o, h⟩) | h
  · exact .inl (.inl (f _ _ (out _ h (.inl ⟨_, rfl⟩)) h))
  · exact .inl (.inr ⟨o, f _ _ (out _ h (.inr ⟨_, _, rfl⟩)) h⟩)
  · exact .inr h
theorem InB.gr (z : InB Z B) (g : Gr B H) : InB Z H := fun b m => by
  obtain ⟨o, e, n⟩ := z b m
  exact ⟨o, g _ _ e, n⟩
theorem rebase_new {b : Addr} (m : b ∈ Z') : rebase B J Z Z' b = J b := if_pos m
theorem rebase_old {b : Addr} (m : b ∉ Z') (n : b ∉ Z) : rebase B J Z Z' b = B b := by
  unfold rebase
  rw [if_neg m, if_neg n]
theorem rebase_F (g : Gr F B) (gb : Gr B H) (nf : ∀ b ∈ Z, F b = none) (nz : NewZ Z Z' H) : Gr F (rebase B J Z Z') := fun b o e => by
  have n : b ∉ Z := fun m => by rw [nf b m] at e; cases e
  have n' : b ∉ Z' := fun m => by
    rcases nz b m with m | m
    · exact n m
    · rw [gb _ _ (g _ _ e)] at m; cases m
  rw [rebase_old n' n]
  exact g _ _ e
/-- slots that do not look into a base: all but lists and dicts that were handed in; a pinned list is one of F -/
def PinF (K : PySem.W.Frag) (F B : Hp) (δ : List SD) : Prop := ∀ (i : Nat) (s : SD), δ[i]? = some s → match s with
  | .bor _ => False
  | .borD _ => False
  | .bob _ _ _ => False
  | .gob _ _ => False
  | .fix G _ => Gr G F
  | _ => True
/-- the region was changed, as Fr says: the slots are as they were, over the new base -/
theorem Sd.swap (S : Sd K B H σ δ) (g : Gr F B) (z : InB Z B) (nf : ∀ b ∈ Z, F b = none) (f : Fr Z H J) (nz : NewZ Z Z' H) (p : PinF K F B δ) : Sd K (rebase B J Z Z') J σ δ := by
  have tm : Tm K H J := f.tm (z.gr S.gr)
  have gF := rebase_F (J := J) g S.gr nf nz
  have own : ∀ b, B b = none → (∃ o, H b = some o) → b ∉ Z ∧ rebase B J Z Z' b = none := fun b e ⟨o, h⟩ => by
    have n : b ∉ Z := fun m => by
      obtain ⟨o', e', _⟩ := z b m
      rw [e] at e'
      cases e'
    have n' : b ∉ Z' := fun m => by
      rcases nz b m with m | m
      · exact n m
      · rw [h] at m; cases m
    exact ⟨n, by rw [rebase_old n' n]; exact e⟩
  refine ⟨fun b o e => ?_, S.len, fun i s hi ne => ?_, S.apart⟩
  · by_cases m' : b ∈ Z'
    · rw [rebase_new m'] at e; exact e
    · by_cases m : b ∈ Z
      · unfold rebase at e; rw [if_neg m', if_pos m] at e; cases e
      · rw [rebase_old m' m] at e; exact f _ _ m (S.gr _ _ e)
  · obtain ⟨v, h1, h2⟩ := S.ok i s hi ne
    have q := p i s hi
    refine ⟨v, h1, ?_⟩
    cases s with
    | emp => trivial
    | raw u => exact h2
    | dat d => exact Tp.mono tm h2
    | bor ds => exact q.elim
    | borD ds => exact q.elim
    | bob c C fs => exact q.elim
    | gob c gs => exact q.elim
    | fix G s =>
      have q : Gr G F := q
      refine ⟨(q.tr gF).gn, fun b o e => f b o (fun m => ?_) (h2.2.1 b o e), h2.2.2.to tm⟩
      have e2 := q b o e
      rw [nf b m] at e2
      cases e2
    | own ds =>
      obtain ⟨b, vs, e, k0, k1, k2⟩ := h2
      have o := own b k0 ⟨_, k1⟩
      exact ⟨b, vs, e, o.2, f _ _ o.1 k1, k2.mono tm⟩
    | ownD ds =>
      obtain ⟨b, vs, e, k0, k1, k2⟩ := h2
      have o := own b k0 ⟨_, k1⟩
      exact ⟨b, vs, e, o.2, f _ _ o.1 k1, k2.mono tm⟩
end
end Tn

namespace Tn
open PySem L2 PySem.Spec PyProof.Rows
/-! ### instances that may change: each with its lists a region of its own -/
def lq : List (Str × FD) → List Addr
  | [] => []
  | (_, .l q _) :: r => q :: lq r
  | (_, .c q _) :: r => q :: lq r
  | _ :: r => lq r
structure Ob where
  a : Addr
  C : Addr
  fs : List (Str × FD)
def Ob.Z (o : Ob) : List Addr := o.a :: lq o.fs
def ObAt (K : PySem.W.Frag) (B H : Hp) (o : Ob) : Prop := ∃ dx fv, B o.a = some (.ins o.C dx fv) ∧ FsA K B H fv o.fs
section
variable {K : PySem.W.Frag} {B H J F C : Hp} {δ : List SD} {σ : L2.St} {o o' : Ob} {os pre post : List Ob}
theorem FsA.toZ (g : Tm K H J) : ∀ {fv : List (Str × V)} {fs : List (Str × FD)}, (∀ q ∈ lq fs, ∀ o, Cont o → B q = some o → C q = some o) → FsA K B H fv fs → FsA K C J fv fs
  | [], [], _, _ => trivial
  | (n, v) :: fv, (m, .d x) :: fs, b, ⟨h1, h2, h3⟩ => ⟨h1, Tp.mono g h2, FsA.toZ g b h3⟩
  | (n, v) :: fv, (m, .o q) :: fs, b, ⟨h1, h2, h3⟩ => ⟨h1, h2, FsA.toZ g b h3⟩
  | (n, v) :: fv, (m, .l q ds) :: fs, b, ⟨h1, ⟨e, vs, h2, h4⟩, h3⟩ => ⟨h1, ⟨e, vs, b q List.mem_cons_self _ (.inl ⟨_, rfl⟩) h2, h4.mono g⟩, FsA.toZ g (fun r hr => b r (List.mem_cons_of_mem _ hr)) h3⟩
  | (n, v) :: fv, (m, .c q t) :: fs, b, ⟨h1, ⟨e, o, h2, h4⟩, h3⟩ => ⟨h1, ⟨e, o, b q List.mem_cons_self _ h4.cont h2, h4.mono g⟩, FsA.toZ g (fun r hr => b r (List.mem_cons_of_mem _ hr)) h3⟩
  | [], _ :: _, _, h => h.elim
  | _ :: _, [], _, h => h.elim
theorem FsA.lists : ∀ {fv : List (Str × V)} {fs : List (Str × FD)}, FsA K B H fv fs → ∀ q ∈ lq fs, ∃ o, Cont o ∧ B q = some o
  | [], [], _, q, m => by cases m
  | (n, v) :: fv, (_, .d x) :: fs, ⟨h1, h2, h3⟩, q, m => FsA.lists h3 q m
  | (n, v) :: fv, (_, .o x) :: fs, ⟨h1, h2, h3⟩, q, m => FsA.lists h3 q m
  | (n, v) :: fv, (_, .l p ds) :: fs, ⟨h1, ⟨e, vs, h2, h4⟩, h3⟩, q, m => by
    rcases List.mem_cons.mp m with rfl | m
    · exact ⟨_, .inl ⟨vs, rfl⟩, h2⟩
    · exact FsA.lists h3 q m
  | (n, v) :: fv, (_, .c p t) :: fs, ⟨h1, ⟨e, o, h2, h4⟩, h3⟩, q, m => by
    rcases List.mem_cons.mp m with rfl | m
    · exact ⟨_, h4.cont, h2⟩
    · exact FsA.lists h3 q m
  | [], _ :: _, h, _, _ => h.elim
  | _ :: _, [], h, _, _ => h.elim
theorem ObAt.inb (h : ObAt K B H o) : InB o.Z B := fun b m => by
  obtain ⟨dx, fv, h1, h2⟩ := h
  rcases List.mem_cons.mp m with rfl | m
  · exact ⟨_, h1, fun s => by rcases s with ⟨xs, z⟩ | ⟨u, xs, z⟩ <;> cases z⟩
  · obtain ⟨o, c, e⟩ := h2.lists b m
    exact ⟨_, e, c.nsolid⟩
theorem ObAt.to (g : Tm K H J) (b : ∀ q ∈ o.Z, C q = B q) (h : ObAt K B H o) : ObAt K C J o := by
  obtain ⟨dx, fv, h1, h2⟩ := h
  exact ⟨dx, fv, by rw [b _ List.mem_cons_self]; exact h1, h2.toZ g fun q m o c e => by rw [b q (List.mem_cons_of_mem _ m)]; exact e⟩
structure Obs (K : PySem.W.Frag) (F B H : Hp) (os : List Ob) : Prop where
  at_ : ∀ o ∈ os, ObAt K B H o
  out : ∀ o ∈ os, ∀ b ∈ o.Z, F b = none
  nod : (os.flatMap Ob.Z).Nodup
theorem Obs.up (g : Tm K H J) (O : Obs K F B H os) : Obs K F B J os := ⟨fun o m => (O.at_ o m).to g fun _ _ => rfl, O.out, O.nod⟩
theorem Obs.apart (O : Obs K F B H (pre ++ o :: post)) : o.Z.Nodup ∧ ∀ o2, o2 ∈ pre ∨ o2 ∈ post → ∀ b ∈ o2.Z, b ∉ o.Z := by
  have n := O.nod
  rw [List.flatMap_append, List.flatMap_cons, List.nodup_append, List.nodup_append] at n
  obtain ⟨n1, ⟨n2, n3, n4⟩, n5⟩ := n
  refine ⟨n2, fun o2 m b hb hz => ?_⟩
  rcases m with m | m
  · exact n5 b (List.mem_flatMap.mpr ⟨o2, m, hb⟩) b (List.mem_append.mpr (.inl hz)) rfl
  · exact n4 b hz b (List.mem_flatMap.mpr ⟨o2, m, hb⟩) rfl
/-- one of them was changed -/
theorem Obs.swap (O : Obs K F B H (pre ++ o :: post)) (g : Gr F B) (gb : Gr B H) (f : Fr o.Z H J) (nz : NewZ o.Z o'.Z H) (nd : o'.Z.Nodup) (h : ObAt K J J o') :
    Obs K F (rebase B J o.Z o'.Z) J (pre ++ o' :: post) := by
  have hin : o ∈ pre ++ o :: post := List.mem_append.mpr (.inr List.mem_cons_self)
  have z := (O.at_ o hin).inb
  have tm : Tm K H J := f.tm (z.gr gb)
  obtain ⟨n0, far⟩ := O.apart
  have far' : ∀ o2, o2 ∈ pre ∨ o2 ∈ post → ∀ b ∈ o2.Z, b ∉ o'.Z := fun o2 m b hb hz => by
    rcases nz b hz with q | q
    · exact far o2 m b hb q
    · obtain ⟨u, e, _⟩ := (O.at_ o2 (by rcases m with m | m; exact List.mem_append.mpr (.inl m); exact List.mem_append.mpr (.inr (List.mem_cons_of_mem _ m)))).inb b hb
      rw [gb _ _ e] at q
      cases q
  have at2 : ∀ o2, o2 ∈ pre ∨ o2 ∈ post → ObAt K (rebase B J o.Z o'.Z) J o2 := fun o2 m =>
    (O.at_ o2 (by rcases m with m | m; exact List.mem_append.mpr (.inl m); exact List.mem_append.mpr (.inr (List.mem_cons_of_mem _ m)))).to tm fun q hq => rebase_old (far' o2 m q hq) (far o2 m q hq)
  refine ⟨fun o2 m => ?_, fun o2 m b hb => ?_, ?_⟩
  · rcases List.mem_append.mp m with m | m
    · exact at2 o2 (.inl m)
    · rcases List.mem_cons.mp m with rfl | m
      · exact h.to (fun _ _ z => z) fun q hq => rebase_new hq
      · exact at2 o2 (.inr m)
  · rcases List.mem_append.mp m with m | m
    · exact O.out o2 (List.mem_append.mpr (.inl m)) b hb
    · rcases List.mem_cons.mp m with rfl | m
      · rcases nz b hb with q | q
        · exact O.out o hin b q
        · exact g.free (gb.free q)
      · exact O.out o2 (List.mem_append.mpr (.inr (List.mem_cons_of_mem _ m))) b hb
  · have n := O.nod
    rw [List.flatMap_append, List.flatMap_cons, List.nodup_append, List.nodup_append] at n
    obtain ⟨n1, ⟨n2, n3, n4⟩, n5⟩ := n
    rw [List.flatMap_append, List.flatMap_cons, List.nodup_append, List.nodup_append]
    refine ⟨n1, ⟨nd, n3, fun b hb c hc e => ?_⟩, fun b hb c hc e => ?_⟩
    · subst e
      obtain ⟨o2, m, hz⟩ := List.mem_flatMap.mp hc
      exact far' o2 (.inr m) b hz hb
    · subst e
      obtain ⟨o2, m, hz⟩ := List.mem_flatMap.mp hb
      rcases List.mem_append.mp hc with hc | hc
      · exact far' o2 (.inl m) b hz hc
      · exact n5 b hb b (List.mem_append.mpr (.inr hc)) rfl
end
end Tn

namespace Tn
open PySem L2 PySem.Spec PyProof.Rows
/-! ### statements beside instances that may change -/
def hideS : SD → SD
  | .bob a _ _ => .raw (.ref a)
  | .gob a _ => .raw (.ref a)
  | s => s
def hide (δ : List SD) : List SD := δ.map hideS
/-- slots of places, seen as what stands there -/
inductive See (os : List Ob) : List SD → List SD → Prop
  | nil : See os [] []
  | same {s : SD} {δ δ' : List SD} : See os δ δ' → See os (s :: δ) (s :: δ')
  | ob {a : Addr} {s : SD} {δ δ' : List SD} : s.ows = false → (∀ (K : PySem.W.Frag) (F B H : Hp), Obs K F B H os → VS K B H (.ref a) s) → See os δ δ' → See os (.raw (.ref a) :: δ) (s :: δ')
inductive OB where
  | nx (δ : List SD) (os : List Ob) | rt (r : SD) (os : List Ob) | bk (δ : List SD) (os : List Ob) | ct (δ : List SD) (os : List Ob)
section
variable {K : PySem.W.Frag} {B H J F : Hp} {δ δ' δ2 : List SD} {σ : L2.St} {o o' : Ob} {os pre post : List Ob} {t u : TS} {te : TE} {tt : TT} {ta : TA} {d : PyData} {i : Nat} {b : Bool}
theorem See.get : ∀ {δ δ' : List SD} {i : Nat} {s : SD}, See os δ δ' → δ'[i]? = some s → δ[i]? = some s ∨ ∃ a, δ[i]? = some (.raw (.ref a)) ∧ s.ows = false ∧ ∀ (K : PySem.W.Frag) (F B H : Hp), Obs K F B H os → VS K B H (.ref a) s
  | _, _, _, _, .nil, h => by simp at h
  | _, _, 0, s, .same r, h => .inl (by simpa using h)
  | _, _, 0, s, .ob (a := a) (s := s') n m r, h => .inr ⟨a, rfl, by
      have h : s' = s := by simpa using h
      subst h
      exact ⟨n, m⟩⟩
  | _, _, i + 1, s, .same r, h => by simpa using See.get (i := i) (s := s) r (by simpa using h)
  | _, _, i + 1, s, .ob _ m r, h => by simpa using See.get (i := i) (s := s) r (by simpa using h)
theorem See.len : ∀ {δ δ' : List SD}, See os δ δ' → δ'.length = δ.length
  | _, _, .nil => rfl
  | _, _, .same r => by rw [List.length_cons, List.length_cons, See.len r]
  | _, _, .ob _ m r => by rw [List.length_cons, List.length_cons, See.len r]
theorem Sd.see (S : Sd K B H σ δ) (O : Obs K F B H os) (e : See os δ δ') : Sd K B H σ δ' := by
  refine ⟨S.gr, by rw [e.len]; exact S.len, fun i s h ne => ?_, fun i j s t a hi hj hs ht ei ej => ?_⟩
  · rcases e.get h with h0 | ⟨a, h0, n, m⟩
    · exact S.ok i s h0 ne
    · obtain ⟨v, h1, h2⟩ := S.ok i _ h0 (by intro z; cases z)
      have h2 : v = .ref a := h2
      subst h2
      exact ⟨_, h1, m K F B H O⟩
  · rcases e.get hi with hi0 | ⟨a, hi0, n, m⟩
    · rcases e.get hj with hj0 | ⟨a, hj0, n, m⟩
      · exact S.apart i j s t _ hi0 hj0 hs ht ei ej
      · rw [n] at ht; cases ht
    · rw [n] at hs; cases hs
theorem hide_get {s : SD} (h : (hide δ)[i]? = some s) : ∃ s', δ[i]? = some s' ∧ s = hideS s' := by
  unfold hide at h
  rw [List.getElem?_map] at h
  cases e : δ[i]? with
  | none => rw [e] at h; cases h
  | some s' => rw [e] at h; exact ⟨s', rfl, (Option.some.inj h).symm⟩
theorem Sd.hide (S : Sd K B H σ δ) : Sd K B H σ (hide δ) := by
  refine ⟨S.gr, by unfold Tn.hide; rw [List.length_map]; exact S.len, fun i s h ne => ?_, fun i j s t a hi hj hs ht ei ej => ?_⟩
  · obtain ⟨s', h', rfl⟩ := hide_get h
    have ne' : s' ≠ .emp := fun z => ne (by rw [z]; rfl)
    obtain ⟨v, h1, h2⟩ := S.ok i s' h' ne'
    refine ⟨v, h1, ?_⟩
    cases s' with
    | bob a C fs => exact h2.1
    | gob a gs => exact h2.1
    | _ => exact h2
  · obtain ⟨s', hi', rfl⟩ := hide_get hi
    obtain ⟨t', hj', rfl⟩ := hide_get hj
    have hs' : s'.ows = true := by cases s' <;> first | exact hs | cases hs
    have ht' : t'.ows = true := by cases t' <;> first | exact ht | cases ht
    exact S.apart i j s' t' a hi' hj' hs' ht' ei ej
def OutB (K : PySem.W.Frag) (F : Hp) (D : Ends) : OB → Prop
  | .nx δ os => ∀ B σ J, Gr F B → Obs K F B J os → Sd K B J σ δ → D.nx σ J
  | .rt r os => ∀ B v J, Gr F B → Obs K F B J os → Gr B J → VS K B J v r → D.rt v J
  | .bk δ os => ∀ B σ J, Gr F B → Obs K F B J os → Sd K B J σ δ → D.bk σ J
  | .ct δ os => ∀ B σ J, Gr F B → Obs K F B J os → Sd K B J σ δ → D.ct σ J
def WB (K : PySem.W.Frag) (F : Hp) (t : TS) (δ : List SD) (os : List Ob) (P : OB → Prop) : Prop := ∀ (B H : Hp) (σ : L2.St) (D : Ends), Gr F B → Obs K F B H os → Sd K B H σ δ → (∀ o, P o → OutB K F D o) → t D σ H
def liftB (os : List Ob) (P : OB → Prop) : Out → Prop
  | .nx δ => P (.nx (hide δ) os)
  | .rt r => P (.rt r os)
  | .bk δ => P (.bk (hide δ) os)
  | .ct δ => P (.ct (hide δ) os)
  | .ex _ _ => False
variable {P : OB → Prop}
theorem wb_of (e : See os δ δ2) (h : WP K t δ2 (liftB os P)) : WB K F t δ os P := fun B H σ D g O S hP => h.tm (S.see O e) fun o p => by
  cases o with
  | nx δ => exact fun σ J tm S' => hP (.nx (hide δ) os) p B σ J g (O.up tm) S'.hide
  | rt r => exact fun v J tm g' hv => hP (.rt r os) p B v J g (O.up tm) g' hv
  | bk δ => exact fun σ J tm S' => hP (.bk (hide δ) os) p B σ J g (O.up tm) S'.hide
  | ct δ => exact fun σ J tm S' => hP (.ct (hide δ) os) p B σ J g (O.up tm) S'.hide
  | ex δ Φ => exact False.elim p
def thenB (K : PySem.W.Frag) (F : Hp) (u : TS) (P : OB → Prop) : OB → Prop
  | .nx δ os => WB K F u δ os P
  | o => P o
theorem wb_seq (h : WB K F t δ os (thenB K F u P)) : WB K F (tSeq t u) δ os P := fun B H σ D g O S hP =>
  h B H σ { D with nx := u D } g O S fun o p => by
    cases o with
    | nx δ os => exact fun B σ J g O S' => p B J σ D g O S' hP
    | rt r os => exact hP (.rt r os) p
    | bk δ os => exact hP (.bk δ os) p
    | ct δ os => exact hP (.ct δ os) p
theorem wb_next (h : P (.nx δ os)) : WB K F tNext δ os P := fun B H σ D g O S hP => hP _ h B σ H g O S
theorem wb_if (e : See os δ δ2) (h : DT K tt δ2 b) (h1 : b = true → WB K F t δ os P) (h2 : b = false → WB K F u δ os P) : WB K F (tIfS tt t u) δ os P := fun B H σ D g O S hP => h B H σ (S.see O e) _ fun J gr => by
  cases b with
  | true => exact iteT (h1 rfl B J σ D g (O.up gr.tm) (S.mono gr) hP)
  | false => exact iteF (h2 rfl B J σ D g (O.up gr.tm) (S.mono gr) hP)
/-- an expression that may change them -/
def DB (K : PySem.W.Frag) (F : Hp) (te : TE) (δ : List SD) (os : List Ob) (R : PyData → List Ob → Prop) : Prop := ∀ (B H : Hp) (σ : L2.St), Gr F B → Obs K F B H os → Sd K B H σ δ → ∀ Q : VK,
  (∀ v d os' B' J, R d os' → Gr F B' → Obs K F B' J os' → Sd K B' J σ δ → Tp K J v d → Q v J) → te σ H Q
variable {R : PyData → List Ob → Prop}
theorem wb_asgB (h : DB K F te δ os R) (k : ∀ d os', R d os' → P (.nx (δ.set i (.dat d)) os')) : WB K F (tAsg te (gName i)) δ os P := fun B H σ D g O S hP => h B H σ g O S _ fun v d os' B' J r g' O' S' hv => hP _ (k d os' r) B' _ J g' O' (S'.storeD hv)
theorem wb_dropB (h : DB K F te δ os R) (k : ∀ d os', R d os' → P (.nx δ os')) : WB K F (tDrop te) δ os P := fun B H σ D g O S hP => h B H σ g O S _ fun v d os' B' J r g' O' S' hv => hP _ (k d os' r) B' _ J g' O' S'
theorem wb_retB (h : DB K F te δ os R) (k : ∀ d os', R d os' → P (.rt (.dat d) os')) : WB K F (tRet te) δ os P := fun B H σ D g O S hP => h B H σ g O S _ fun v d os' B' J r g' O' S' hv => hP _ (k d os' r) B' v J g' O' S'.gr hv
/-! methods: what they do to the instance, told without places -/
inductive FA where
  | d (x : PyData) | l (ds : List PyData) | o (q : Addr) | c (t : CT)
def FD.val : FD → FA
  | .d x => .d x
  | .l _ ds => .l ds
  | .o q => .o q
  | .c _ t => .c t
def Ob.vals (o : Ob) : List (Str × FA) := o.fs.map fun p => (p.1, p.2.val)
def spM (K : PySem.W.Frag) (C : Addr) (R : List (Str × FA) → List PyData → PyData → List (Str × FA) → Prop) : Sp := fun vs H Q _ => ∃ (o : Ob) (us : List V) (ds : List PyData) (d : PyData) (fs : List (Str × FA)),
  vs = .ref o.a :: us ∧ o.C = C ∧ ObAt K H H o ∧ o.Z.Nodup ∧ R o.vals ds d fs ∧ TpA K H us ds ∧
  ∀ v J (o' : Ob), o'.a = o.a → o'.C = C → o'.vals = fs → Fr o.Z H J → NewZ o.Z o'.Z H → o'.Z.Nodup → ObAt K J J o' → Tp K J v d → Q v J
variable {C : Addr} {m : Str} {RM : List (Str × FA) → List PyData → PyData → List (Str × FA) → Prop} {E : XK} {ds : List PyData} {fs : List (Str × FA)}
theorem fsA_no {fv : List (Str × V)} {n : Str} : ∀ {fv : List (Str × V)} {fs : List (Str × FD)}, FsA K B H fv fs → fs.lookup n = none → fv.lookup n = none
  | [], [], _, _ => rfl
  | (x, v) :: fv, (y, s) :: fs, ⟨h1, h2, h3⟩, e => by
    subst h1
    rw [List.lookup_cons] at e ⊢
    cases q : n == x with
    | true => rw [q] at e; cases e
    | false => rw [q] at e; exact fsA_no (fv := []) h3 e
  | [], _ :: _, h, _ => h.elim
  | _ :: _, [], h, _ => h.elim
theorem db_meth (hi : δ[i]? = some (.raw (.ref o.a))) (hC : o.C = C) (hm : o.fs.lookup m = none) (e : See (pre ++ o :: post) δ δ2) (ha : DAd K ta δ2 ds) (hR : RM o.vals ds d fs) (hp : ∀ B, Gr F B → PinF K F B δ) :
    DB K F (tMeth C m (spM K C RM) [] E (tVar i) ta) δ (pre ++ o :: post) (fun d' os' => d' = d ∧ ∃ o', os' = pre ++ o' :: post ∧ o'.a = o.a ∧ o'.C = C ∧ o'.vals = fs) := fun B H σ g O S Q q => by
  obtain ⟨v, h1, h2⟩ := S.ok i _ hi (by intro z; cases z)
  have h2 : v = .ref o.a := h2
  subst h2
  have hin : o ∈ pre ++ o :: post := List.mem_append.mpr (.inr List.mem_cons_self)
  obtain ⟨dx, fv, k1, k2⟩ := O.at_ o hin
  refine ⟨_, h1, o.a, dx, fv, rfl, by rw [← hC]; exact S.gr _ _ k1, fsA_no (fv := fv) k2 hm, ha B H σ (S.see O e) _ fun us J gr hu => ?_⟩
  have S2 := S.mono gr
  have O2 := O.up gr.tm
  refine ⟨o, us, ds, d, fs, by rw [List.append_nil], hC, ?_, O2.apart.1, hR, hu, fun v L o' e1 e2 e3 f nz nd at' hv => ?_⟩
  · obtain ⟨dx, fv, k1, k2⟩ := O2.at_ o hin
    exact ⟨dx, fv, S2.gr _ _ k1, k2.to (fun _ _ z => z) fun _ _ _ z => S2.gr _ _ z⟩
  · exact q v d _ _ L ⟨rfl, o', rfl, e1, e2, e3⟩ (rebase_F g S2.gr (O2.out o hin) nz) (O2.swap g S2.gr f nz nd at') (S2.swap g (O2.at_ o hin).inb (O2.out o hin) f nz (hp B g)) hv
end
end Tn

namespace Tn
open PySem L2 PySem.Spec PyProof.Rows
section
variable {K : PySem.W.Frag} {B H J F : Hp} {δ δ2 : List SD} {σ : L2.St} {o : Ob} {os pre post : List Ob} {te : TE} {d : PyData} {ds : List PyData} {i : Nat} {P : OB → Prop} {f : Str} {a C : Addr} {fs : List (Str × FD)}
theorem FsA.get : ∀ {fv : List (Str × V)} {fs : List (Str × FD)} {s : FD}, FsA K B H fv fs → fs.lookup f = some s → ∃ v, fv.lookup f = some v ∧ FV K B H v s
  | [], [], _, _, e => by cases e
  | (x, v) :: fv, (y, s) :: fs, _, ⟨h1, h2, h3⟩, e => by
    subst h1
    rw [List.lookup_cons] at e ⊢
    cases q : f == x with
    | true => rw [q] at e; cases e; exact ⟨v, rfl, h2⟩
    | false => rw [q] at e; exact FsA.get h3 e
  | [], _ :: _, _, h, _ => h.elim
  | _ :: _, [], _, h, _ => h.elim
/-- self.f, data -/
theorem de_fld (hi : δ[i]? = some (.bob a C fs)) (hc : Cls K C) (hn : NoAttr K C f) (hf : fs.lookup f = some (.d d)) : DE K (tFld K (tVar i) f) δ d := fun H0 H σ S Q q => by
  obtain ⟨v, h1, e, dx, fv, h2, h3⟩ := S.ok i _ hi (by intro z; cases z)
  subst e
  obtain ⟨w, k1, k2⟩ := h3.get hf
  exact ⟨_, h1, a, C, dx, fv, w, rfl, S.gr _ _ h2, hc, hn, k1, q w H (Gr.rfl' H) k2⟩
/-- self.f, a list -/
theorem dl_fld {p : Addr} (hi : δ[i]? = some (.bob a C fs)) (hc : Cls K C) (hn : NoAttr K C f) (hf : fs.lookup f = some (.l p ds)) : DL K (tFld K (tVar i) f) δ ds := fun H0 H σ S Q q => by
  obtain ⟨v, h1, e, dx, fv, h2, h3⟩ := S.ok i _ hi (by intro z; cases z)
  subst e
  obtain ⟨w, k1, rfl, vs, k2, k3⟩ := h3.get hf
  exact ⟨_, h1, a, C, dx, fv, _, rfl, S.gr _ _ h2, hc, hn, k1, q p vs H (Gr.rfl' H) (SqL.of (S.gr _ _ k2)) k3⟩
end
/-! a method's body -/
def mO (o : Ob) (d : PyData) (fs : List (Str × FA)) : OB → Prop
  | .rt r os => r = .dat d ∧ ∃ o', os = [o'] ∧ o'.a = o.a ∧ o'.C = o.C ∧ o'.vals = fs
  | .nx _ os => d = .none ∧ ∃ o', os = [o'] ∧ o'.a = o.a ∧ o'.C = o.C ∧ o'.vals = fs
  | _ => False
section
variable {P : Program} {w : World} {K : PySem.W.Frag} {mg : Str → Option Value} {base : Heap} {H : Hp}
theorem va_dats : ∀ {us : List V} {ds : List PyData}, TpA K H us ds → VA K H us (ds.map .dat)
  | _, _, .nil => .nil
  | _, _, .cons h t => .cons h (va_dats t)
theorem fn_M {x qual : Str} {st : Stmt} {f C : Addr} {fd : FuncData} {N ps : List Str} {k : Nat} {R : List (Str × FA) → List PyData → PyData → List (Str × FA) → Prop} (F : Fun K x qual st f fd) (S : FnScope N ps (defScope st)) (len : ∀ fs ds d fs', R fs ds d fs' → ds.length + 1 = ps.length)
    (hb : ∀ (cdv : Value) (A : Around) (outer : List Env) (s : Shared) (H : Hp) (E : XK), Room k (A.deeper (envOfC qual (defScope st) s.heap.objs.size f cdv)) →
      ∃ t, PSs (cxOf CX0 P w K mg base N qual (defScope st) f cdv A outer s H E).nox (defBody st) t ∧ ∀ (G : Hp) (o : Ob) ds d fs', o.C = C → R o.vals ds d fs' → WB K G t (startD N (.raw (.ref o.a) :: ds.map .dat)) [o] (mO o d fs')) : FnOk P w K mg base CX0 (k + 1) f fd ps (spM K C R) := by
  refine F.ok S (fun vs H Q E h => ?_) (fun cdv A outer s H vs Q E hr h => ?_)
  · obtain ⟨o, us, ds, d, fs, rfl, hC, hO, hn, hR, hu, _⟩ := h
    rw [List.length_cons, hu.length]
    exact len _ _ _ _ hR
  · obtain ⟨o, us, ds, d, fs, rfl, hC, hO, hn, hR, hu, q⟩ := h
    obtain ⟨t, ht, hw⟩ := hb cdv A outer s H E hr
    refine ⟨t, ht, ?_⟩
    have sd : Sd K H H (L2.start N (.ref o.a :: us)) (startD N (.raw (.ref o.a) :: ds.map .dat)) := sd_start (.cons rfl (va_dats hu))
    have g : Gr (fun b => if b ∈ o.Z then none else H b) H := fun b u e => by
      by_cases m : b ∈ o.Z
      · simp only [if_pos m] at e; cases e
      · simpa only [if_neg m] using e
    have O : Obs K (fun b => if b ∈ o.Z then none else H b) H H [o] := ⟨fun o2 m => by
        cases List.mem_singleton.mp m
        exact hO, fun o2 m b hb => by
        cases List.mem_singleton.mp m
        simp only [if_pos hb], by simpa using hn⟩
    have fin : ∀ (B J : Hp) (v : V) (o' : Ob), Gr (fun b => if b ∈ o.Z then none else H b) B → Obs K (fun b => if b ∈ o.Z then none else H b) B J [o'] → Gr B J → o'.a = o.a → o'.C = o.C → o'.vals = fs → Tp K J v d → Q v J := fun B J v o' g' O' gj e1 e2 e3 hv => by
      refine q v J o' e1 (e2.trans hC) e3 (fun b u m e => gj _ _ (g' _ _ ?_)) (fun b m => ?_) ?_ ?_ hv
      · simp only [if_neg m]; exact e
      · have z := O'.out o' List.mem_cons_self b m
        by_cases mm : b ∈ o.Z
        · exact .inl mm
        · simp only [if_neg mm] at z; exact .inr z
      · simpa using O'.nod
      · obtain ⟨dx, fv, k1, k2⟩ := O'.at_ o' List.mem_cons_self
        exact ⟨dx, fv, gj _ _ k1, k2.to (fun _ _ z => z) fun _ _ _ z => gj _ _ z⟩
    refine hw _ o ds d fs hC hR H H _ _ g O sd fun ob p => ?_
    cases ob with
    | nx δ os =>
      obtain ⟨rfl, o', rfl, e1, e2, e3⟩ := p
      exact fun B σ J g' O' S' => fin B J .non o' g' O' S'.gr e1 e2 e3 .non
    | rt r os =>
      obtain ⟨rfl, o', rfl, e1, e2, e3⟩ := p
      exact fun B v J g' O' gj hv => fin B J v o' g' O' gj e1 e2 e3 hv
    | bk δ os => exact False.elim p
    | ct δ os => exact False.elim p
end
end Tn

namespace Tn
open PySem L2 PySem.Spec PyProof.Rows
/-! ### what is stored in an instance -/
def putFD (f : Str) (s : FD) : List (Str × FD) → List (Str × FD)
  | [] => [(f, s)]
  | (g, x) :: r => if g = f then (g, s) :: r else (g, x) :: putFD f s r
section
variable {K : PySem.W.Frag} {B H J F L : Hp} {δ δ2 : List SD} {σ : L2.St} {o o' : Ob} {os pre post : List Ob} {tv te : TE} {d : PyData} {ds es : List PyData} {i : Nat} {P : OB → Prop} {f : Str} {D : Ends} {q : Addr} {vs : List V}
theorem FsA.length : ∀ {fv : List (Str × V)} {fs : List (Str × FD)}, FsA K B H fv fs → fv.length = fs.length
  | [], [], _ => rfl
  | _ :: _, _ :: _, ⟨_, _, h⟩ => by rw [List.length_cons, List.length_cons, FsA.length h]
  | [], _ :: _, h => h.elim
  | _ :: _, [], h => h.elim
theorem FsA.put {v : V} {s : FD} (hs : FV K J J v s) : ∀ {fv : List (Str × V)} {fs : List (Str × FD)}, FsA K J J fv fs → FsA K J J (putF f v fv) (putFD f s fs)
  | [], [], _ => ⟨rfl, hs, trivial⟩
  | (x, u) :: fv, (y, t) :: fs, ⟨h1, h2, h3⟩ => by
    subst h1
    unfold putF putFD
    by_cases e : x = f
    · rw [if_pos e, if_pos e]; exact ⟨rfl, hs, h3⟩
    · rw [if_neg e, if_neg e]; exact ⟨rfl, h2, FsA.put hs h3⟩
  | [], _ :: _, h => h.elim
  | _ :: _, [], h => h.elim
theorem lq_cons {x : Str} {s : FD} {fs : List (Str × FD)} : (lq fs).Sublist (lq ((x, s) :: fs)) := by
  cases s with
  | l q ds => exact List.Sublist.cons _ (List.Sublist.refl _)
  | d y => exact List.Sublist.refl _
  | o q => exact List.Sublist.refl _
  | c q t => exact List.Sublist.cons _ (List.Sublist.refl _)
theorem lq_put : ∀ {fs : List (Str × FD)}, (lq (putFD f (.d d) fs)).Sublist (lq fs)
  | [] => List.Sublist.refl _
  | (x, s) :: fs => by
    unfold putFD
    by_cases e : x = f
    · rw [if_pos e]; exact (show (lq fs).Sublist (lq ((x, s) :: fs)) from lq_cons)
    · rw [if_neg e]
      cases s with
      | l q ds => exact List.Sublist.cons₂ _ lq_put
      | d y => exact lq_put (fs := fs)
      | o q => exact lq_put (fs := fs)
      | c q t => exact List.Sublist.cons₂ _ lq_put
theorem step_swap (g : Gr F B) (O : Obs K F B H (pre ++ o :: post)) (S : Sd K B H σ δ) (p : PinF K F B δ) (f : Fr o.Z H J) (nz : NewZ o.Z o'.Z H) (nd : o'.Z.Nodup) (at' : ObAt K J J o') (k : OutB K F D (.nx δ (pre ++ o' :: post))) : D.nx σ J :=
  have hin : o ∈ pre ++ o :: post := List.mem_append.mpr (.inr List.mem_cons_self)
  k _ σ J (rebase_F g S.gr (O.out o hin) nz) (O.swap g S.gr f nz nd at') (S.swap g (O.at_ o hin).inb (O.out o hin) f nz p)
/-- self.f = data -/
theorem wb_fld (hi : δ[i]? = some (.raw (.ref o.a))) (hc : Cls K o.C) (hn : NoAttr K o.C f) (e : See (pre ++ o :: post) δ δ2) (h : DE K tv δ2 d) (hl : o.fs.length < 1000) (hp : ∀ B, Gr F B → PinF K F B δ)
    (k : P (.nx δ (pre ++ ⟨o.a, o.C, putFD f (.d d) o.fs⟩ :: post))) : WB K F (sFld K (tVar i) tv f) δ (pre ++ o :: post) P := fun B H σ D g O S hP => h B H σ (S.see O e) _ fun y L gr hy => by
  have hin : o ∈ pre ++ o :: post := List.mem_append.mpr (.inr List.mem_cons_self)
  obtain ⟨v, h1, h2⟩ := S.ok i _ hi (by intro z; cases z)
  have h2 : v = .ref o.a := h2
  subst h2
  have O2 := O.up gr.tm
  have S2 := S.mono gr
  obtain ⟨dx, fv, k1, k2⟩ := O2.at_ o hin
  have kL := S2.gr _ _ k1
  have fr : Fr o.Z L (upd L o.a (.ins o.C dx (putF f y fv))) := fun b u m e => by
    rw [upd_ne fun z => m (by rw [z]; exact List.mem_cons_self)]; exact e
  have tm : Tm K L (upd L o.a (.ins o.C dx (putF f y fv))) := fr.tm ((O2.at_ o hin).inb.gr S2.gr)
  have sub := lq_put (f := f) (d := d) (fs := o.fs)
  refine ⟨_, h1, o.a, o.C, dx, fv, rfl, kL, hc, hn, by rw [k2.length]; exact hl, step_swap (o' := ⟨o.a, o.C, putFD f (.d d) o.fs⟩) g O2 S2 (hp B g) fr (fun b m => ?_) ?_ ⟨dx, _, upd_same, ?_⟩ (hP _ k)⟩
  · rcases List.mem_cons.mp m with z | m
    · exact .inl (List.mem_cons.mpr (.inl z))
    · exact .inl (List.mem_cons_of_mem _ (sub.subset m))
  · have n := O2.apart.1
    exact List.Sublist.nodup (List.Sublist.cons₂ _ sub) n
  · refine FsA.put (s := .d d) (show Tp K _ y d from Tp.mono tm hy) (k2.toZ tm fun r m o c e => ?_)
    have eL := S2.gr _ _ e
    rw [upd_ne (ne_of eL kL c.nins)]
    exact eL
def FD.at : FD → Option Addr
  | .l q _ => some q
  | .c q _ => some q
  | _ => none
theorem lookup_at {s : FD} : ∀ {fs : List (Str × FD)}, fs.lookup f = some s → s.at = some q → q ∈ lq fs
  | (x, t) :: fs, e, h => by
    rw [List.lookup_cons] at e
    cases z : f == x with
    | true =>
      rw [z] at e
      cases e
      cases s with
      | l p ds => cases h; exact List.mem_cons_self
      | c p t => cases h; exact List.mem_cons_self
      | d y => cases h
      | o y => cases h
    | false => rw [z] at e; exact lq_cons.subset (lookup_at e h)
theorem lookup_lq {fs : List (Str × FD)} (e : fs.lookup f = some (.l q ds)) : q ∈ lq fs := lookup_at e rfl
theorem lq_same {s s' : FD} (h : s'.at = s.at) (hn : s.at ≠ none) : ∀ {fs : List (Str × FD)}, fs.lookup f = some s → lq (putFD f s' fs) = lq fs
  | (x, t) :: fs, e => by
    rw [List.lookup_cons] at e
    unfold putFD
    by_cases z : x = f
    · rw [if_pos z]
      rw [z, beq_self_eq_true] at e
      cases e
      cases s with
      | l p ds =>
        cases s' with
        | l p' ds' => cases h; rfl
        | c p' t' => cases h; rfl
        | d y => cases h
        | o y => cases h
      | c p t =>
        cases s' with
        | l p' ds' => cases h; rfl
        | c p' t' => cases h; rfl
        | d y => cases h
        | o y => cases h
      | d y => exact absurd rfl hn
      | o y => exact absurd rfl hn
    · rw [if_neg z]
      have z' : (f == x) = false := by simp [Ne.symm z]
      rw [z'] at e
      cases t with
      | l r rs => exact congrArg (r :: ·) (lq_same h hn e)
      | c r rs => exact congrArg (r :: ·) (lq_same h hn e)
      | d y => exact lq_same h hn (fs := fs) e
      | o r => exact lq_same h hn (fs := fs) e
theorem lq_putL {fs : List (Str × FD)} (e : fs.lookup f = some (.l q ds)) : lq (putFD f (.l q es) fs) = lq fs := lq_same (s := .l q ds) (s' := .l q es) rfl (fun z => by cases z) e
/-- the container at an attribute was changed -/
theorem FsA.putC {s s' : FD} (tm : Tm K L J) (hB : ∀ r o, Cont o → B r = some o → L r = some o) (hr : ∀ r, r ≠ q → ∀ o, Cont o → L r = some o → J r = some o) (h1 : s.at = some q) (h2 : s'.at = some q) (hv : ∀ u, u = V.ref q → FV K J J u s') :
    ∀ {fv : List (Str × V)} {fs : List (Str × FD)}, (lq fs).Nodup → fs.lookup f = some s → FsA K B L fv fs → FsA K J J fv (putFD f s' fs)
  | (x, u) :: fv, (y, t) :: fs, nd, e, ⟨k1, k2, k3⟩ => by
    subst k1
    rw [List.lookup_cons] at e
    unfold putFD
    by_cases z : x = f
    · rw [if_pos z]
      rw [z, beq_self_eq_true] at e
      cases e
      have eu : u = V.ref q := by
        cases s with
        | l p ds => cases h1; exact k2.1
        | c p t => cases h1; exact k2.1
        | d y => cases h1
        | o y => cases h1
      have nq : q ∉ lq fs := by
        cases s with
        | l p ds => cases h1; exact (List.nodup_cons.mp nd).1
        | c p t => cases h1; exact (List.nodup_cons.mp nd).1
        | d y => cases h1
        | o y => cases h1
      refine ⟨rfl, hv u eu, k3.toZ tm fun r m o c e => hr r (fun z => ?_) o c (hB _ _ c e)⟩
      rw [z] at m
      exact nq m
    · rw [if_neg z]
      have z' : (f == x) = false := by simp [Ne.symm z]
      rw [z'] at e
      have nd' : (lq fs).Nodup := List.Sublist.nodup lq_cons nd
      refine ⟨rfl, ?_, FsA.putC tm hB hr h1 h2 hv nd' e k3⟩
      cases t with
      | d w => exact Tp.mono tm k2
      | o w => exact k2
      | l r rs =>
        obtain ⟨eu, ws, k1, k2⟩ := k2
        refine ⟨eu, ws, hr r (fun z => ?_) _ (.inl ⟨_, rfl⟩) (hB _ _ (.inl ⟨_, rfl⟩) k1), k2.mono tm⟩
        rw [z] at nd
        exact (List.nodup_cons.mp nd).1 (lookup_at e h1)
      | c r rs =>
        obtain ⟨eu, o, k1, k2⟩ := k2
        refine ⟨eu, o, hr r (fun z => ?_) _ k2.cont (hB _ _ k2.cont k1), k2.mono tm⟩
        rw [z] at nd
        exact (List.nodup_cons.mp nd).1 (lookup_at e h1)
  | [], [], _, e, _ => by cases e
  | [], _ :: _, _, _, h => h.elim
  | _ :: _, [], _, e, _ => by cases e
theorem FsA.putL (tm : Tm K L J) (hB : ∀ r o, Cont o → B r = some o → L r = some o) (hr : ∀ r, r ≠ q → ∀ o, Cont o → L r = some o → J r = some o) (hq : J q = some (.lst vs)) (hv : TpA K J vs es) {fv : List (Str × V)} {fs : List (Str × FD)} (nd : (lq fs).Nodup) (e : fs.lookup f = some (.l q ds)) (h : FsA K B L fv fs) : FsA K J J fv (putFD f (.l q es) fs) :=
  FsA.putC (s := .l q ds) (s' := .l q es) tm hB hr rfl rfl (fun u eu => ⟨eu, vs, hq, hv⟩) nd e h
end
end Tn

namespace Tn
open PySem L2 PySem.Spec PyProof.Rows
section
variable {K : PySem.W.Frag} {B H J F L : Hp} {δ δ2 : List SD} {σ : L2.St} {o : Ob} {pre post : List Ob} {te ti : TE} {d : PyData} {ds es : List PyData} {i : Nat} {P : OB → Prop} {f : Str} {D : Ends} {q : Addr} {vs : List V} {ws : List V}
/-- the container at o.f is changed in place -/
theorem step_cont {s s' : FD} {u : HO} (g : Gr F B) (O : Obs K F B L (pre ++ o :: post)) (S : Sd K B L σ δ) (p : PinF K F B δ) (hf : o.fs.lookup f = some s) (e1 : s.at = some q) (e2 : s'.at = some q) (hv : ∀ J, Tm K L J → J q = some u → ∀ w, w = V.ref q → FV K J J w s') (k : OutB K F D (.nx δ (pre ++ ⟨o.a, o.C, putFD f s' o.fs⟩ :: post))) : D.nx σ (upd L q u) := by
  have hin : o ∈ pre ++ o :: post := List.mem_append.mpr (.inr List.mem_cons_self)
  obtain ⟨dx, fv, k1, k2⟩ := O.at_ o hin
  have kL := S.gr _ _ k1
  have hq := lookup_at hf e1
  obtain ⟨w, hc, hB⟩ := k2.lists q hq
  have hL := S.gr _ _ hB
  have fr : Fr o.Z L (upd L q u) := fun b u m e => by
    rw [upd_ne fun z => m (by rw [z]; exact List.mem_cons_of_mem _ hq)]; exact e
  have tm : Tm K L (upd L q u) := fr.tm ((O.at_ o hin).inb.gr S.gr)
  have eZ : (Ob.mk o.a o.C (putFD f s' o.fs)).Z = o.Z := congrArg (o.a :: ·) (lq_same (e2.trans e1.symm) (fun z => by rw [e1] at z; cases z) hf)
  have nd := O.apart.1
  refine step_swap (o' := ⟨o.a, o.C, putFD f s' o.fs⟩) g O S p fr (fun b m => ?_) ?_ ⟨dx, fv, ?_, ?_⟩ k
  · rw [eZ] at m; exact .inl m
  · rw [eZ]; exact nd
  · rw [upd_ne (ne_of kL hL (fun z => hc.nins z.symm))]; exact kL
  · exact FsA.putC tm (fun r o _ e => S.gr _ _ e) (fun r n o _ e => by rw [upd_ne n]; exact e) e1 e2 (hv _ tm upd_same) (List.nodup_cons.mp nd).2 hf k2
/-- the list at o.f is changed in place -/
theorem step_list (g : Gr F B) (O : Obs K F B L (pre ++ o :: post)) (S : Sd K B L σ δ) (p : PinF K F B δ) (hf : o.fs.lookup f = some (.l q ds)) (hw : TpA K L ws es) (k : OutB K F D (.nx δ (pre ++ ⟨o.a, o.C, putFD f (.l q es) o.fs⟩ :: post))) : D.nx σ (upd L q (.lst ws)) :=
  step_cont (s := .l q ds) (s' := .l q es) g O S p hf rfl rfl (fun J tm hJ w e => ⟨e, ws, hJ, hw.mono tm⟩) k
/-- self.f.append(e) -/
theorem wb_app (hi : δ[i]? = some (.raw (.ref o.a))) (hc : Cls K o.C) (hn : NoAttr K o.C f) (e : See (pre ++ o :: post) δ δ2) (hf : o.fs.lookup f = some (.l q ds)) (h : DE K te δ2 d) (hl : ds.length < 100000) (hp : ∀ B, Gr F B → PinF K F B δ)
    (k : P (.nx δ (pre ++ ⟨o.a, o.C, putFD f (.l q (ds ++ [d])) o.fs⟩ :: post))) : WB K F (tDrop (tBM K "list" rAppend (tFld K (tVar i) f) (tCons te tNil))) δ (pre ++ o :: post) P := fun B H σ D g O S hP => by
  have hin : o ∈ pre ++ o :: post := List.mem_append.mpr (.inr List.mem_cons_self)
  obtain ⟨v, h1, h2⟩ := S.ok i _ hi (by intro z; cases z)
  have h2 : v = .ref o.a := h2
  subst h2
  obtain ⟨dx, fv, k1, k2⟩ := O.at_ o hin
  obtain ⟨w, m1, rfl, vs, m2, m3⟩ := k2.get hf
  refine ⟨_, h1, o.a, o.C, dx, fv, _, rfl, S.gr _ _ k1, hc, hn, m1, .inl ⟨rfl, vs, SqL.of (S.gr _ _ m2)⟩, h B H σ (S.see O e) _ fun y L gr hy => ?_⟩
  have S2 := S.mono gr
  refine ⟨q, vs, y, rfl, rfl, S2.gr _ _ m2, ?_, step_list g (O.up gr.tm) S2 (hp B g) hf ((m3.mono gr.tm).app (.cons hy .nil)) (hP _ k)⟩
  rw [m3.length]
  exact Nat.lt_trans hl (by decide)
/-- del self.f[e] -/
theorem wb_del {j : Int} {n : Nat} (hi : δ[i]? = some (.raw (.ref o.a))) (hc : Cls K o.C) (hn : NoAttr K o.C f) (e : See (pre ++ o :: post) δ δ2) (hf : o.fs.lookup f = some (.l q ds)) (h : DE K ti δ2 (.int j)) (hj : -(2 ^ 63) ≤ j ∧ j < 2 ^ 63) (hk : seqIndex? j ds.length = some n) (hp : ∀ B, Gr F B → PinF K F B δ)
    (k : P (.nx δ (pre ++ ⟨o.a, o.C, putFD f (.l q (ds.eraseIdx n)) o.fs⟩ :: post))) : WB K F (tDelL (tFld K (tVar i) f) ti) δ (pre ++ o :: post) P := fun B H σ D g O S hP => by
  have hin : o ∈ pre ++ o :: post := List.mem_append.mpr (.inr List.mem_cons_self)
  obtain ⟨v, h1, h2⟩ := S.ok i _ hi (by intro z; cases z)
  have h2 : v = .ref o.a := h2
  subst h2
  obtain ⟨dx, fv, k1, k2⟩ := O.at_ o hin
  obtain ⟨w, m1, rfl, vs, m2, m3⟩ := k2.get hf
  refine ⟨_, h1, o.a, o.C, dx, fv, _, rfl, S.gr _ _ k1, hc, hn, m1, h B H σ (S.see O e) _ fun y L gr hy => ?_⟩
  have S2 := S.mono gr
  rw [hy.int_of]
  exact ⟨q, vs, j, n, rfl, rfl, S2.gr _ _ m2, hj.1, hj.2, by rw [m3.length]; exact hk, step_list g (O.up gr.tm) S2 (hp B g) hf ((m3.mono gr.tm).erase n) (hP _ k)⟩
/-- self.f op= e, ints -/
theorem wb_aug {x y z : Int} {rd : V → V → Hp → VK → Prop} (hi : δ[i]? = some (.raw (.ref o.a))) (hc : Cls K o.C) (hn : NoAttr K o.C f) (e : See (pre ++ o :: post) δ δ2) (hf : o.fs.lookup f = some (.d (.int x))) (h : DE K te δ2 (.int y)) (hl : o.fs.length < 1000) (hp : ∀ B, Gr F B → PinF K F B δ)
    (hr : ∀ (H : Hp) (Q : VK), Q (.int z) H → rd (.int x) (.int y) H Q) (k : P (.nx δ (pre ++ ⟨o.a, o.C, putFD f (.d (.int z)) o.fs⟩ :: post))) : WB K F (sFldAug K (tVar i) te rd f) δ (pre ++ o :: post) P := fun B H σ D g O S hP => by
  have hin : o ∈ pre ++ o :: post := List.mem_append.mpr (.inr List.mem_cons_self)
  obtain ⟨v, h1, h2⟩ := S.ok i _ hi (by intro z; cases z)
  have h2 : v = .ref o.a := h2
  subst h2
  obtain ⟨dx, fv, k1, k2⟩ := O.at_ o hin
  obtain ⟨w, m1, m2⟩ := k2.get hf
  have m2 : Tp K H w (.int x) := m2
  rw [m2.int_of] at m1
  refine ⟨_, h1, o.a, o.C, dx, fv, _, rfl, S.gr _ _ k1, hc, hn, m1, h B H σ (S.see O e) _ fun u L gr hy => ?_⟩
  rw [hy.int_of]
  have O2 := O.up gr.tm
  have S2 := S.mono gr
  obtain ⟨dx, fv, k1, k2⟩ := O2.at_ o hin
  have kL := S2.gr _ _ k1
  have fr : Fr o.Z L (upd L o.a (.ins o.C dx (putF f (.int z) fv))) := fun b u m e => by
    rw [upd_ne fun z => m (by rw [z]; exact List.mem_cons_self)]; exact e
  have tm : Tm K L (upd L o.a (.ins o.C dx (putF f (.int z) fv))) := fr.tm ((O2.at_ o hin).inb.gr S2.gr)
  have sub := lq_put (f := f) (d := .int z) (fs := o.fs)
  refine hr _ _ ⟨dx, fv, kL, by rw [k2.length]; exact hl, step_swap (o' := ⟨o.a, o.C, putFD f (.d (.int z)) o.fs⟩) g O2 S2 (hp B g) fr (fun b m => ?_) ?_ ⟨dx, _, upd_same, ?_⟩ (hP _ k)⟩
  · rcases List.mem_cons.mp m with z | m
    · exact .inl (List.mem_cons.mpr (.inl z))
    · exact .inl (List.mem_cons_of_mem _ (sub.subset m))
  · exact List.Sublist.nodup (List.Sublist.cons₂ _ sub) O2.apart.1
  · refine FsA.put (s := .d (.int z)) (show Tp K _ (.int z) (.int z) from .int _) (k2.toZ tm fun r m o c e => ?_)
    have eL := S2.gr _ _ e
    rw [upd_ne (ne_of eL kL c.nins)]
    exact eL
end
end Tn

namespace Tn
open PySem L2 PySem.Spec PyProof.Rows
section
variable {K : PySem.W.Frag} {B H J F L : Hp} {δ δ2 : List SD} {σ : L2.St} {o' : Ob} {os : List Ob} {ta : TA} {ds : List PyData} {i : Nat} {P : OB → Prop} {C : Addr} {E : XK} {R : List (Str × FA) → List PyData → PyData → List (Str × FA) → Prop} {fs : List (Str × FA)}
/-- a new instance beside the others -/
theorem Obs.add (O : Obs K F B H os) (g : Gr F B) (gb : Gr B H) (gr : Gr H J) (nz : NewZ [] o'.Z H) (nd : o'.Z.Nodup) (at' : ObAt K J J o') : Obs K F (rebase B J [] o'.Z) J (os ++ [o']) := by
  have far : ∀ o ∈ os, ∀ b ∈ o.Z, b ∉ o'.Z := fun o m b hb hz => by
    obtain ⟨u, e, _⟩ := (O.at_ o m).inb b hb
    rcases nz b hz with q | q
    · cases q
    · rw [gb _ _ e] at q; cases q
  refine ⟨fun o m => ?_, fun o m b hb => ?_, ?_⟩
  · rcases List.mem_append.mp m with m | m
    · exact (O.at_ o m).to gr.tm fun q hq => rebase_old (far o m q hq) (by intro z; cases z)
    · cases List.mem_singleton.mp m
      exact at'.to (fun _ _ z => z) fun q hq => rebase_new hq
  · rcases List.mem_append.mp m with m | m
    · exact O.out o m b hb
    · cases List.mem_singleton.mp m
      rcases nz b hb with q | q
      · cases q
      · exact g.free (gb.free q)
  · rw [List.flatMap_append, List.nodup_append]
    refine ⟨O.nod, by simpa using nd, fun b hb c hc e => ?_⟩
    subst e
    obtain ⟨o, m, hz⟩ := List.mem_flatMap.mp hb
    exact far o m b hz (by simpa using hc)
/-- x = C(..) -/
theorem wb_make (e : See os δ δ2) (ha : DAd K ta δ2 ds) (hR : R [] ds .none fs) (hp : ∀ B, Gr F B → PinF K F B δ) (k : ∀ o' : Ob, o'.C = C → o'.vals = fs → P (.nx (δ.set i (.raw (.ref o'.a))) (os ++ [o']))) :
    WB K F (tAsg (tMake C (spM K C R) [] E ta) (gName i)) δ os P := fun B H σ D g O S hP => ha B H σ (S.see O e) _ fun us L gr hu => by
  intro x dx hx hdx ne
  have S2 := S.mono gr
  have O2 := O.up gr.tm
  have g1 : Gr L (upd (upd L dx (.own x)) x (.ins C dx [])) := (Gr.lay hdx).tr (Gr.lay (by rw [upd_ne (Ne.symm ne)]; exact hx))
  refine ⟨⟨x, C, []⟩, us, ds, .none, fs, by rw [List.append_nil], rfl, ⟨dx, [], upd_same, trivial⟩, ?_, hR, hu.mono g1.tm, fun v J o' e1 e2 e3 f nz nd at' hv => ⟨?_, ?_⟩⟩
  · exact List.nodup_cons.mpr ⟨(by intro z; cases z), List.nodup_nil⟩
  · cases hv; rfl
  · have gJ : Gr L J := fun b u e => f b u (fun m => by
      cases List.mem_singleton.mp m
      rw [hx] at e; cases e) (g1 _ _ e)
    have nz' : NewZ [] o'.Z L := fun b m => .inr (by
      rcases nz b m with q | q
      · cases List.mem_singleton.mp q; exact hx
      · exact g1.free q)
    have S3 : Sd K (rebase B J [] o'.Z) J σ δ := S2.swap g (fun b m => by cases m) (fun b m => by cases m) (fun b u _ e => gJ _ _ e) nz' (hp B g)
    have ex : (V.ref x) = .ref o'.a := by rw [e1]
    exact hP _ (k o' e2 e3) _ _ J (rebase_F g S2.gr (fun b m => by cases m) nz') (O2.add g S2.gr gJ nz' nd at') (S3.store ex fun z => by cases z)
end
end Tn

namespace Tn
open PySem L2 PySem.Spec PyProof.Rows
/-! ### slots that may stand beside instances that change -/
def pinS (F : Hp) : SD → Prop
  | .bor _ => False
  | .borD _ => False
  | .bob _ _ _ => False
  | .gob _ _ => False
  | .fix G _ => Gr G F
  | _ => True
def PinL (F : Hp) (δ : List SD) : Prop := ∀ s ∈ δ, pinS F s
theorem PinL.nil {F : Hp} : PinL F [] := fun s m => by cases m
theorem PinL.cons {F : Hp} {s : SD} {δ : List SD} (h : pinS F s) (t : PinL F δ) : PinL F (s :: δ) := fun x m => by
  rcases List.mem_cons.mp m with rfl | m
  · exact h
  · exact t x m
theorem PinL.to {K : PySem.W.Frag} {F : Hp} {δ : List SD} (h : PinL F δ) : ∀ B, Gr F B → PinF K F B δ := fun B _ i s e => by
  have q := h s (List.mem_of_getElem? e)
  cases s <;> first | exact q | trivial
section
variable {K : PySem.W.Frag} {B H J F L : Hp} {δ δ' δ2 : List SD} {σ : L2.St} {o o' : Ob} {os os' pre post : List Ob} {ta tb te tv : TE} {tt tu : TT} {t u : TS} {g : TG} {d e : PyData} {ds es : List PyData} {i j k : Nat} {P : OB → Prop} {f m : Str} {D : Ends} {b : Bool} {ss : List SD} {ta' : TA} {a C : Addr} {fs : List (Str × FD)} {R : List SD → SD → Prop} {E : XK} {s : SD}
theorem split_at : ∀ {os : List Ob} {k : Nat}, os[k]? = some o → os = os.take k ++ o :: os.drop (k + 1)
  | [], k, h => by simp at h
  | x :: os, 0, h => by simp at h; subst h; rfl
  | x :: os, k + 1, h => congrArg (x :: ·) (split_at (os := os) (k := k) (by simpa using h))
theorem set_at : ∀ {os : List Ob} {k : Nat}, os[k]? = some o → os.set k o' = os.take k ++ o' :: os.drop (k + 1)
  | [], k, h => by simp at h
  | x :: os, 0, h => rfl
  | x :: os, k + 1, h => congrArg (x :: ·) (set_at (os := os) (k := k) (by simpa using h))
theorem wb_fldK (ho : os[k]? = some o) (hi : δ[i]? = some (.raw (.ref o.a))) (hc : Cls K o.C) (hn : NoAttr K o.C f) (e : See os δ δ2) (h : DE K tv δ2 d) (hl : o.fs.length < 1000) (hp : PinL F δ)
    (q : P (.nx δ (os.set k ⟨o.a, o.C, putFD f (.d d) o.fs⟩))) : WB K F (sFld K (tVar i) tv f) δ os P := by
  rw [set_at ho] at q
  rw [split_at ho] at e ⊢
  exact wb_fld hi hc hn e h hl hp.to q
theorem wb_appK {q : Addr} (ho : os[k]? = some o) (hi : δ[i]? = some (.raw (.ref o.a))) (hc : Cls K o.C) (hn : NoAttr K o.C f) (e : See os δ δ2) (hf : o.fs.lookup f = some (.l q ds)) (h : DE K te δ2 d) (hl : ds.length < 100000) (hp : PinL F δ)
    (z : P (.nx δ (os.set k ⟨o.a, o.C, putFD f (.l q (ds ++ [d])) o.fs⟩))) : WB K F (tDrop (tBM K "list" rAppend (tFld K (tVar i) f) (tCons te tNil))) δ os P := by
  rw [set_at ho] at z
  rw [split_at ho] at e ⊢
  exact wb_app hi hc hn e hf h hl hp.to z
theorem wb_delK {q : Addr} {j : Int} {n : Nat} (ho : os[k]? = some o) (hi : δ[i]? = some (.raw (.ref o.a))) (hc : Cls K o.C) (hn : NoAttr K o.C f) (e : See os δ δ2) (hf : o.fs.lookup f = some (.l q ds)) (h : DE K te δ2 (.int j)) (hj : -(2 ^ 63) ≤ j ∧ j < 2 ^ 63) (hk : seqIndex? j ds.length = some n) (hp : PinL F δ)
    (z : P (.nx δ (os.set k ⟨o.a, o.C, putFD f (.l q (ds.eraseIdx n)) o.fs⟩))) : WB K F (tDelL (tFld K (tVar i) f) te) δ os P := by
  rw [set_at ho] at z
  rw [split_at ho] at e ⊢
  exact wb_del hi hc hn e hf h hj hk hp.to z
theorem wb_augK {x y z : Int} {rd : V → V → Hp → VK → Prop} (ho : os[k]? = some o) (hi : δ[i]? = some (.raw (.ref o.a))) (hc : Cls K o.C) (hn : NoAttr K o.C f) (e : See os δ δ2) (hf : o.fs.lookup f = some (.d (.int x))) (h : DE K te δ2 (.int y)) (hl : o.fs.length < 1000) (hp : PinL F δ)
    (hr : ∀ (H : Hp) (Q : VK), Q (.int z) H → rd (.int x) (.int y) H Q) (q : P (.nx δ (os.set k ⟨o.a, o.C, putFD f (.d (.int z)) o.fs⟩))) : WB K F (sFldAug K (tVar i) te rd f) δ os P := by
  rw [set_at ho] at q
  rw [split_at ho] at e ⊢
  exact wb_aug hi hc hn e hf h hl hp.to hr q
theorem db_methK {RM : List (Str × FA) → List PyData → PyData → List (Str × FA) → Prop} {fs : List (Str × FA)} (ho : os[k]? = some o) (hi : δ[i]? = some (.raw (.ref o.a))) (hC : o.C = C) (hm : o.fs.lookup m = none) (e : See os δ δ2) (ha : DAd K ta' δ2 ds) (hR : RM o.vals ds d fs) (hp : PinL F δ) :
    DB K F (tMeth C m (spM K C RM) [] E (tVar i) ta') δ os (fun d' os' => d' = d ∧ ∃ o', os' = os.set k o' ∧ o'.a = o.a ∧ o'.C = C ∧ o'.vals = fs) := by
  have q := db_meth (K := K) (F := F) (E := E) (pre := os.take k) (post := os.drop (k + 1)) hi hC hm (by rw [← split_at ho]; exact e) ha hR hp.to
  rw [← split_at ho] at q
  intro B H σ g O S Q z
  refine q B H σ g O S Q fun v d' os' B' J r g' O' S' hv => z v d' os' B' J ?_ g' O' S' hv
  obtain ⟨r1, o', r2, r3⟩ := r
  exact ⟨r1, o', by rw [set_at ho]; exact r2, r3⟩
/-! ### reading instances -/
theorem de_methR (hi : δ[i]? = some (.bob a C fs)) (hm : fs.lookup m = none) (h : DA K ta' δ ss) (hR : R (.bob a C fs :: ss) (.dat d)) : DE K (tMeth C m (spR K R) [] E (tVar i) ta') δ d := fun H0 H σ S Q q => by
  obtain ⟨v, h1, e, dx, fv, h2, h3⟩ := S.ok i _ hi (by intro z; cases z)
  subst e
  refine ⟨_, h1, a, dx, fv, rfl, S.gr _ _ h2, fsA_no (fv := fv) h3 hm, h H0 H σ S _ fun vs J g hv => ?_⟩
  refine ⟨_, _, hR, ?_, fun v L g2 hv2 => q v L (g.tr g2) hv2⟩
  rw [List.append_nil]
  exact .cons ⟨rfl, dx, fv, g _ _ (S.gr _ _ h2), h3.to g.tm fun r ws _ z => g _ _ (S.gr _ _ z)⟩ hv
/-- an instance handed on -/
theorem da_o (hi : δ[i]? = some (.bob a C fs)) (t : DA K ta' δ ss) : DA K (tCons (tVar i) ta') δ (.bob a C fs :: ss) := fun H0 H σ S Q q => by
  obtain ⟨v, h1, e, dx, fv, h2, h3⟩ := S.ok i _ hi (by intro z; cases z)
  subst e
  exact ⟨_, h1, t H0 H σ S _ fun vs L g2 hvs => q _ L g2 (.cons ⟨rfl, dx, fv, g2 _ _ (S.gr _ _ h2), h3.to g2.tm fun r ws _ z => g2 _ _ (S.gr _ _ z)⟩ hvs)⟩
theorem da_of {G : Hp} (hi : δ[i]? = some (.fix G (.bob a C fs))) (t : DA K ta' δ ss) : DA K (tCons (tVar i) ta') δ (.bob a C fs :: ss) := fun H0 H σ S Q q => by
  obtain ⟨v, h1, _, g, e, dx, fv, h2, h3⟩ := S.ok i _ hi (by intro z; cases z)
  subst e
  exact ⟨_, h1, t H0 H σ S _ fun vs L g2 hvs => q _ L g2 (.cons ⟨rfl, dx, fv, g2 _ _ (g _ _ h2), h3.to g2.tm fun r ws _ z => g2 _ _ (g _ _ z)⟩ hvs)⟩
theorem de_fldF {G : Hp} (hi : δ[i]? = some (.fix G (.bob a C fs))) (hc : Cls K C) (hn : NoAttr K C f) (hf : fs.lookup f = some (.d d)) : DE K (tFld K (tVar i) f) δ d := fun H0 H σ S Q q => by
  obtain ⟨v, h1, _, g, e, dx, fv, h2, h3⟩ := S.ok i _ hi (by intro z; cases z)
  subst e
  obtain ⟨w, k1, k2⟩ := h3.get hf
  exact ⟨_, h1, a, C, dx, fv, w, rfl, g _ _ h2, hc, hn, k1, q w H (Gr.rfl' H) k2⟩
theorem See.obx (h : (⟨a, C, fs⟩ : Ob) ∈ os) (t : See os δ δ') : See os (.raw (.ref a) :: δ) (.bob a C fs :: δ') := See.ob rfl (fun K F B H O => by
  obtain ⟨dx, fv, q1, q2⟩ := O.at_ _ h
  exact ⟨rfl, dx, fv, q1, q2⟩) t
def Ob.tr (o : Ob) : Addr × Addr × List (Str × FD) := (o.a, o.C, o.fs)
/-- the whole graph is seen from a place -/
theorem See.gobx (t : See os δ δ') : See os (.raw (.ref a) :: δ) (.gob a (os.map Ob.tr) :: δ') := See.ob rfl (fun K F B H O => ⟨rfl, fun g m => by
  obtain ⟨o, m2, rfl⟩ := List.mem_map.mp m
  exact O.at_ o m2⟩) t
theorem See.rfl' : ∀ δ : List SD, See os δ δ
  | [] => .nil
  | _ :: δ => .same (See.rfl' δ)
/-! ### tests and expressions that change instances -/
theorem DB.of (e : See os δ δ2) (h : DE K te δ2 d) : DB K F te δ os (fun d' os' => d' = d ∧ os' = os) := fun B H σ g O S Q q => h B H σ (S.see O e) _ fun v J gr hv => q v d os B J ⟨rfl, rfl⟩ g (O.up gr.tm) (S.mono gr) hv
def DTB (K : PySem.W.Frag) (F : Hp) (tt : TT) (δ : List SD) (os : List Ob) (R : Bool → List Ob → Prop) : Prop := ∀ (B H : Hp) (σ : L2.St), Gr F B → Obs K F B H os → Sd K B H σ δ → ∀ Q : Bool → Hp → Prop,
  (∀ b os' B' J, R b os' → Gr F B' → Obs K F B' J os' → Sd K B' J σ δ → Q b J) → tt σ H Q
variable {RD : PyData → List Ob → Prop} {RT RT' : Bool → List Ob → Prop}
theorem dtb_B (h : DB K F te δ os RD) (hb : ∀ d os', RD d os' → ∃ b, d = .bool b ∧ RT b os') : DTB K F (tB te) δ os RT := fun B H σ g O S Q q => h B H σ g O S _ fun v d os' B' J r g' O' S' hv => by
  obtain ⟨b, rfl, rb⟩ := hb d os' r
  exact ⟨b, hv.bl_of, q b os' B' J rb g' O' S'⟩
theorem dtb_not (h : DTB K F tt δ os RT) : DTB K F (tNot tt) δ os (fun b => RT (!b)) := fun B H σ g O S Q q => h B H σ g O S _ fun b os' B' J r g' O' S' => q (!b) os' B' J (show RT (!(!b)) os' by rw [Bool.not_not]; exact r) g' O' S'
theorem wb_ifB (h : DTB K F tt δ os RT) (h1 : ∀ os', RT true os' → WB K F t δ os' P) (h2 : ∀ os', RT false os' → WB K F u δ os' P) : WB K F (tIfS tt t u) δ os P := fun B H σ D g O S hP => h B H σ g O S _ fun b os' B' J r g' O' S' => by
  cases b with
  | true => exact iteT (h1 os' r B' J σ D g' O' S' hP)
  | false => exact iteF (h2 os' r B' J σ D g' O' S' hP)
theorem WB.imp {P' : OB → Prop} (h : WB K F t δ os P) (hp : ∀ o, P o → P' o) : WB K F t δ os P' := fun B H σ D g O S hP => h B H σ D g O S fun o p => hP o (hp o p)
theorem WB.less (h : WB K F t δ' os P) (l : Less δ' δ) : WB K F t δ os P := fun B H σ D g O S hP => h B H σ D g O (S.less l) hP
theorem thenB_nx (h : WB K F u δ os P) : thenB K F u P (.nx δ os) := h
theorem thenB_rt (h : P (.rt s os)) : thenB K F u P (.rt s os) := h
theorem thenB_bk (h : P (.bk δ os)) : thenB K F u P (.bk δ os) := h
theorem thenB_ct (h : P (.ct δ os)) : thenB K F u P (.ct δ os) := h
theorem lift_nx (h : P (.nx (hide δ) os)) : liftB os P (.nx δ) := h
theorem lift_rt (h : P (.rt s os)) : liftB os P (.rt s) := h
theorem lift_bk (h : P (.bk (hide δ) os)) : liftB os P (.bk δ) := h
theorem lift_ct (h : P (.ct (hide δ) os)) : liftB os P (.ct δ) := h
/-! ### self.f = a new list; self.f, self.g = x, y -/
theorem lq_one {q : Addr} {x : Str} {s' : FD} {fs : List (Str × FD)} (h : s'.at = some q) : lq ((x, s') :: fs) = q :: lq fs := by
  cases s' with
  | l p ds => cases h; rfl
  | c p t => cases h; rfl
  | d y => cases h
  | o y => cases h
theorem lq_newC {q : Addr} {s' : FD} (hs : s'.at = some q) : ∀ {fs : List (Str × FD)}, ∀ r ∈ lq (putFD f s' fs), r = q ∨ r ∈ lq fs
  | [], r, m => by
    unfold putFD at m
    rw [lq_one hs] at m
    rcases List.mem_cons.mp m with rfl | m
    · exact .inl rfl
    · cases m
  | (x, s) :: fs, r, m => by
    unfold putFD at m
    by_cases z : x = f
    · rw [if_pos z, lq_one hs] at m
      rcases List.mem_cons.mp m with rfl | m
      · exact .inl rfl
      · exact .inr (lq_cons.subset m)
    · rw [if_neg z] at m
      cases s with
      | l p ds =>
        rcases List.mem_cons.mp m with rfl | m
        · exact .inr List.mem_cons_self
        · rcases lq_newC hs r m with h | h
          · exact .inl h
          · exact .inr (List.mem_cons_of_mem _ h)
      | c p ds =>
        rcases List.mem_cons.mp m with rfl | m
        · exact .inr List.mem_cons_self
        · rcases lq_newC hs r m with h | h
          · exact .inl h
          · exact .inr (List.mem_cons_of_mem _ h)
      | d y => exact lq_newC hs (fs := fs) r m
      | o p => exact lq_newC hs (fs := fs) r m
theorem lq_newNC {q : Addr} {s' : FD} (hs : s'.at = some q) : ∀ {fs : List (Str × FD)}, (lq fs).Nodup → q ∉ lq fs → (lq (putFD f s' fs)).Nodup
  | [], _, _ => by
    unfold putFD
    rw [lq_one hs]
    exact List.nodup_cons.mpr ⟨(by intro z; cases z), List.nodup_nil⟩
  | (x, s) :: fs, n, m => by
    unfold putFD
    have n' : (lq fs).Nodup := List.Sublist.nodup lq_cons n
    have m' : q ∉ lq fs := fun z => m (lq_cons.subset z)
    by_cases z : x = f
    · rw [if_pos z, lq_one hs]
      exact List.nodup_cons.mpr ⟨m', n'⟩
    · rw [if_neg z]
      cases s with
      | l p ds =>
        refine List.nodup_cons.mpr ⟨fun h => ?_, lq_newNC hs n' m'⟩
        rcases lq_newC hs p h with h | h
        · subst h; exact m List.mem_cons_self
        · exact (List.nodup_cons.mp n).1 h
      | c p ds =>
        refine List.nodup_cons.mpr ⟨fun h => ?_, lq_newNC hs n' m'⟩
        rcases lq_newC hs p h with h | h
        · subst h; exact m List.mem_cons_self
        · exact (List.nodup_cons.mp n).1 h
      | d y => exact lq_newNC hs (fs := fs) n' m'
      | o p => exact lq_newNC hs (fs := fs) n' m'
theorem lq_new {q : Addr} {es : List PyData} {fs : List (Str × FD)} : ∀ r ∈ lq (putFD f (.l q es) fs), r = q ∨ r ∈ lq fs := lq_newC rfl
theorem lq_newN {q : Addr} {es : List PyData} {fs : List (Str × FD)} : (lq fs).Nodup → q ∉ lq fs → (lq (putFD f (.l q es) fs)).Nodup := lq_newNC rfl
theorem wb_fldL' (hi : δ[i]? = some (.raw (.ref o.a))) (hc : Cls K o.C) (hn : NoAttr K o.C f) (e : See (pre ++ o :: post) δ δ2) (h : DN K tv δ2 ds) (hl : o.fs.length < 1000) (hp : ∀ B, Gr F B → PinF K F B δ)
    (k : ∀ p, P (.nx δ (pre ++ ⟨o.a, o.C, putFD f (.l p ds) o.fs⟩ :: post))) : WB K F (sFld K (tVar i) tv f) δ (pre ++ o :: post) P := fun B H σ D g O S hP => h B H σ (S.see O e) _ fun p vs L gr hpn hpl hvs => by
  have hin : o ∈ pre ++ o :: post := List.mem_append.mpr (.inr List.mem_cons_self)
  obtain ⟨v, h1, h2⟩ := S.ok i _ hi (by intro z; cases z)
  have h2 : v = .ref o.a := h2
  subst h2
  have O2 := O.up gr.tm
  obtain ⟨dx, fv, k1, k2⟩ := O2.at_ o hin
  have kH := S.gr _ _ k1
  have kL := gr _ _ kH
  have pa : p ≠ o.a := fun z => by rw [← z] at kH; rw [hpn] at kH; cases kH
  have frL : Fr o.Z L (upd L o.a (.ins o.C dx (putF f (.ref p) fv))) := fun b u m e => by
    rw [upd_ne fun z => m (by rw [z]; exact List.mem_cons_self)]; exact e
  have fr : Fr o.Z H (upd L o.a (.ins o.C dx (putF f (.ref p) fv))) := fun b u m e => frL b u m (gr _ _ e)
  have tm : Tm K L (upd L o.a (.ins o.C dx (putF f (.ref p) fv))) := frL.tm ((O2.at_ o hin).inb.gr (S.gr.tr gr))
  have pz : p ∉ o.Z := fun m => by
    obtain ⟨u, e, _⟩ := (O.at_ o hin).inb p m
    rw [S.gr _ _ e] at hpn
    cases hpn
  refine ⟨_, h1, o.a, o.C, dx, fv, rfl, kL, hc, hn, by rw [k2.length]; exact hl, step_swap (o' := ⟨o.a, o.C, putFD f (.l p ds) o.fs⟩) g O S (hp B g) fr (fun b m => ?_) ?_ ⟨dx, _, upd_same, ?_⟩ (hP _ (k p))⟩
  · rcases List.mem_cons.mp m with z | m
    · exact .inl (List.mem_cons.mpr (.inl z))
    · rcases lq_new b m with z | z
      · exact .inr (by rw [z]; exact hpn)
      · exact .inl (List.mem_cons_of_mem _ z)
  · have n := List.nodup_cons.mp O2.apart.1
    refine List.nodup_cons.mpr ⟨fun m => ?_, lq_newN n.2 fun z => pz (List.mem_cons_of_mem _ z)⟩
    rcases lq_new _ m with z | z
    · exact pa z.symm
    · exact n.1 z
  · refine FsA.put (s := .l p ds) ⟨rfl, vs, ?_, hvs.mono tm⟩ (k2.toZ tm fun r m o c e => ?_)
    · rw [upd_ne pa]; exact hpl
    · have eL := gr _ _ (S.gr _ _ e)
      rw [upd_ne (ne_of eL kL c.nins)]
      exact eL
theorem wb_fldL (ho : os[k]? = some o) (hi : δ[i]? = some (.raw (.ref o.a))) (hc : Cls K o.C) (hn : NoAttr K o.C f) (e : See os δ δ2) (h : DN K tv δ2 ds) (hl : o.fs.length < 1000) (hp : PinL F δ)
    (q : ∀ p, P (.nx δ (os.set k ⟨o.a, o.C, putFD f (.l p ds) o.fs⟩))) : WB K F (sFld K (tVar i) tv f) δ os P := by
  have q' := fun p => set_at (o' := ⟨o.a, o.C, putFD f (.l p ds) o.fs⟩) ho ▸ q p
  rw [split_at ho] at e ⊢
  exact wb_fldL' hi hc hn e h hl hp.to q'
theorem wb_fld2' {f2 : Str} (hi : δ[i]? = some (.raw (.ref o.a))) (hc : Cls K o.C) (hn : NoAttr K o.C f) (hn2 : NoAttr K o.C f2) (ee : See (pre ++ o :: post) δ δ2) (h : DAd K ta' δ2 [d, e]) (hl : o.fs.length < 900) (hp : ∀ B, Gr F B → PinF K F B δ)
    (k : P (.nx δ (pre ++ ⟨o.a, o.C, putFD f2 (.d e) (putFD f (.d d) o.fs)⟩ :: post))) : WB K F (tAsg (tTup ta') (gTup K 2 (gCons (gFld K (tVar i) f) (gCons (gFld K (tVar i) f2) gNil)))) δ (pre ++ o :: post) P := fun B H σ D g O S hP => h B H σ (S.see O ee) _ fun us L0 gr0 hus => by
  have hin : o ∈ pre ++ o :: post := List.mem_append.mpr (.inr List.mem_cons_self)
  obtain ⟨v, h1, h2⟩ := S.ok i _ hi (by intro z; cases z)
  have h2 : v = .ref o.a := h2
  subst h2
  refine ⟨by rw [hus.length]; exact (by decide : 2 ≤ sizeLine), fun p hpn => ?_⟩
  have gr : Gr H (upd L0 p (.tup us)) := gr0.tr (Gr.lay hpn)
  have hL : (upd L0 p (.tup us)) p = some (.tup us) := upd_same
  have hus := hus.mono (Gr.lay (o := .tup us) hpn).tm
  generalize upd L0 p (.tup us) = L at gr hL hus
  have O2 := O.up gr.tm
  obtain ⟨dx, fv, k1, k2⟩ := O2.at_ o hin
  have kL := gr _ _ (S.gr _ _ k1)
  cases hus with
  | cons hy hus =>
    cases hus with
    | cons hz hus =>
      cases hus
      rename_i y z
      have fr1 : Fr o.Z L (upd L o.a (.ins o.C dx (putF f y fv))) := fun b u m e => by
        rw [upd_ne fun z => m (by rw [z]; exact List.mem_cons_self)]; exact e
      have fr2 : Fr o.Z L (upd (upd L o.a (.ins o.C dx (putF f y fv))) o.a (.ins o.C dx (putF f2 z (putF f y fv)))) := fun b u m e => by
        rw [upd_ne fun z => m (by rw [z]; exact List.mem_cons_self)]; exact fr1 b u m e
      have tm : Tm K L (upd (upd L o.a (.ins o.C dx (putF f y fv))) o.a (.ins o.C dx (putF f2 z (putF f y fv)))) := fr2.tm ((O2.at_ o hin).inb.gr (S.gr.tr gr))
      have fr : Fr o.Z H (upd (upd L o.a (.ins o.C dx (putF f y fv))) o.a (.ins o.C dx (putF f2 z (putF f y fv)))) := fun b u m e => fr2 b u m (gr _ _ e)
      have sub := (lq_put (f := f2) (d := e) (fs := putFD f (.d d) o.fs)).trans (lq_put (f := f) (d := d) (fs := o.fs))
      have len : (putF f y fv).length ≤ fv.length + 1 := by
        clear k1 kL fr1 fr2 tm fr k2
        induction fv with
        | nil => exact Nat.le_refl _
        | cons q r ih =>
          obtain ⟨x, w⟩ := q
          unfold putF
          by_cases c : x = f
          · rw [if_pos c]; exact Nat.le_succ _
          · rw [if_neg c, List.length_cons, List.length_cons]; exact Nat.succ_le_succ ih
      have k2l := k2.length
      have tmp := k2.toZ (C := upd (upd L o.a (.ins o.C dx (putF f y fv))) o.a (.ins o.C dx (putF f2 z (putF f y fv)))) tm (fun r m o c e => by
        have eL := gr _ _ (S.gr _ _ e)
        have n := ne_of eL kL c.nins
        rw [upd_ne n, upd_ne n]
        exact eL)
      refine ⟨p, [y, z], rfl, SqT.of hL, rfl, y, [z], rfl, ?_⟩
      refine ⟨_, h1, o.a, o.C, dx, fv, rfl, kL, hc, hn, by omega, z, [], rfl, ?_⟩
      refine ⟨_, h1, o.a, o.C, dx, _, rfl, upd_same, hc, hn2, by omega, rfl, ?_⟩
      refine step_swap (o' := ⟨o.a, o.C, putFD f2 (.d e) (putFD f (.d d) o.fs)⟩) g O S (hp B g) fr (fun b m => ?_) ?_ ⟨dx, _, upd_same, ?_⟩ (hP _ k)
      · rcases List.mem_cons.mp m with z | m
        · exact .inl (List.mem_cons.mpr (.inl z))
        · exact .inl (List.mem_cons_of_mem _ (sub.subset m))
      · exact List.Sublist.nodup (List.Sublist.cons₂ _ sub) O2.apart.1
      · exact FsA.put (s := .d e) (show Tp K _ z e from Tp.mono tm hz) (FsA.put (s := .d d) (show Tp K _ y d from Tp.mono tm hy) tmp)
theorem wb_fld2 {f2 : Str} (ho : os[k]? = some o) (hi : δ[i]? = some (.raw (.ref o.a))) (hc : Cls K o.C) (hn : NoAttr K o.C f) (hn2 : NoAttr K o.C f2) (ee : See os δ δ2) (h : DAd K ta' δ2 [d, e]) (hl : o.fs.length < 900) (hp : PinL F δ)
    (q : P (.nx δ (os.set k ⟨o.a, o.C, putFD f2 (.d e) (putFD f (.d d) o.fs)⟩))) : WB K F (tAsg (tTup ta') (gTup K 2 (gCons (gFld K (tVar i) f) (gCons (gFld K (tVar i) f2) gNil)))) δ os P := by
  rw [set_at ho] at q
  rw [split_at ho] at ee ⊢
  exact wb_fld2' hi hc hn hn2 ee h hl hp.to q
end
end Tn

namespace Tn
open PySem L2 PySem.Spec PyProof.Rows
/-! ### loops beside instances that change; a def that makes instances of its own -/
def loopB (W : Nat → List SD → List Ob → Prop) (k : Nat) (P : OB → Prop) : OB → Prop
  | .nx δ os => ∃ δ', W (k + 1) δ' os ∧ Less δ' δ
  | .ct δ os => ∃ δ', W (k + 1) δ' os ∧ Less δ' δ
  | .bk δ os => P (.nx δ os)
  | .rt r os => P (.rt r os)
section
variable {K : PySem.W.Frag} {B H J F F' L : Hp} {δ δ' δ2 : List SD} {σ : L2.St} {os os' : List Ob} {te : TE} {t u : TS} {g : TG} {d : PyData} {ds : List PyData} {i j k : Nat} {P : OB → Prop} {D : Ends} {ta' : TA}
theorem Obs.base (O : Obs K F B H os) (gF : Gr F' F) : Obs K F' B H os := ⟨O.at_, fun o m b hb => gF.free (O.out o m b hb), O.nod⟩
theorem OutB.base {o : OB} (gF : Gr F F') (h : OutB K F D o) : OutB K F' D o := by
  cases o with
  | nx δ os => exact fun B σ J g O S => h B σ J (gF.tr g) (O.base gF) S
  | rt r os => exact fun B v J g O gj hv => h B v J (gF.tr g) (O.base gF) gj hv
  | bk δ os => exact fun B σ J g O S => h B σ J (gF.tr g) (O.base gF) S
  | ct δ os => exact fun B σ J g O S => h B σ J (gF.tr g) (O.base gF) S
theorem tupB_up (g : Gr F B) (gb : Gr B J) : Gr (tupB F J) (tupB B J) := fun a o h => by
  unfold tupB at h
  cases e : F a with
  | some u =>
    rw [e] at h
    unfold tupB
    rw [g a u e]
    exact h
  | none =>
    rw [e] at h
    simp only at h
    split at h
    · rename_i xs e2
      rw [← h]
      exact tupB_at gb e2 (.inl ⟨xs, rfl⟩)
    · rename_i u xs e2
      rw [← h]
      exact tupB_at gb e2 (.inr ⟨u, xs, rfl⟩)
    · cases h
/-- the frame takes the tuples that stand -/
theorem Obs.solid (O : Obs K F B J os) (g : Gr F B) (gb : Gr B J) : Obs K (tupB F J) (tupB B J) J os :=
  ⟨fun o m => by
    obtain ⟨dx, fv, h1, h2⟩ := O.at_ o m
    exact ⟨dx, fv, tupB_gr B J _ _ h1, h2.to (fun _ _ z => z) fun _ _ _ z => tupB_gr B J _ _ z⟩,
   fun o m b hb => by
    obtain ⟨u, e, n⟩ := (O.at_ o m).inb b hb
    exact tupB_new (O.out o m b hb) (gb _ _ e) ⟨fun xs z => n (.inl ⟨xs, z⟩), fun w xs z => n (.inr ⟨w, xs, z⟩)⟩, O.nod⟩
theorem loopB_ends {W : Nat → List SD → List Ob → Prop} {I : L2.St → Hp → Prop} (hI : ∀ B' σ L δ' os', W (k + 1) δ' os' → Gr F B' → Obs K F B' L os' → Sd K B' L σ δ' → I σ L) (hP : ∀ o, P o → OutB K F D o) :
    ∀ o, loopB W k P o → OutB K F { D with nx := I, ct := I, bk := D.nx } o
  | .nx δ os, ⟨δ', w, l⟩ => fun B σ J g O S => hI B σ J δ' os w g O (S.less l)
  | .ct δ os, ⟨δ', w, l⟩ => fun B σ J g O S => hI B σ J δ' os w g O (S.less l)
  | .bk δ os, p => hP (.nx δ os) p
  | .rt r os, p => hP (.rt r os) p
theorem wb_forT (W : Nat → List SD → List Ob → Prop) (e : See os δ δ2) (h : DE K te δ2 (.tuple ds)) (h0 : ∃ δ', W 0 δ' os ∧ Less δ' δ)
    (hs : ∀ (F' : Hp) (k : Nat) d δ' os', Gr F F' → ds[k]? = some d → W k δ' os' → ∃ δ3, GTd K g d δ' δ3 ∧ WB K F' t δ3 os' (loopB W k P)) (hd : ∀ δ' os', W ds.length δ' os' → P (.nx δ' os')) : WB K F (tFor (iSeqX K te) g t) δ os P := fun B H σ D gF O S hP =>
  .inr (h B H σ (S.see O e) _ fun v J g' hv => by
    obtain ⟨a, xs, rfl, hq, hx⟩ := hv.tup_of
    obtain ⟨δ0, w0, l0⟩ := h0
    have hl := hx.length
    have S1 := S.mono g'
    have O1 := O.up g'.tm
    have gJ : Gr F J := gF.tr S1.gr
    have gFF := tupB_gr F J
    have hP' : ∀ o, P o → OutB K (tupB F J) D o := fun o p => (hP o p).base gFF
    have tm : ∀ B' L, Gr (tupB F J) B' → Gr B' L → Tm K J L := fun B' L g1 g2 => tupB_tm gJ (g1.tr g2)
    refine ⟨a, rfl, ⟨xs, hq⟩, for_tup (K := K) (a := a) (xs := xs) (fun k σ L => ∃ δ' os' B', W k δ' os' ∧ Gr (tupB F J) B' ∧ Obs K (tupB F J) B' L os' ∧ Sd K B' L σ δ') ⟨δ0, os, tupB B J, w0, tupB_up gF S1.gr, O1.solid gF S1.gr, S1.up.less l0⟩
      (fun k σ L _ ⟨_, _, B', _, g1, _, S'⟩ => tm B' L g1 S'.gr a xs hq) (fun k x σ L hk ⟨δ', os', B', w, g1, O', S'⟩ => ?_) (fun σ L ⟨δ', os', B', w, g1, O', S'⟩ => hP' _ (hd δ' os' (by rw [← hl]; exact w)) B' σ L g1 O' S')⟩
    obtain ⟨d, hd1, hd2⟩ := (hx.mono (tm B' L g1 S'.gr)).getV hk
    obtain ⟨δ3, hg, hw⟩ := hs (tupB F J) k d δ' os' gFF hd1 w
    refine hg B' L σ x _ S' hd2 fun σ' S2 => ?_
    exact hw B' L σ' _ g1 O' S2 (loopB_ends (fun B' σ L δ' os' w g O S => ⟨δ', os', B', w, g, O, S⟩) hP'))
theorem wb_forR {n : Int} (W : Nat → List SD → List Ob → Prop) (e : See os δ δ2) (h : DA K ta' δ2 [.dat (.int n)]) (hn : n ≤ 1000000) (h0 : ∃ δ', W 0 δ' os ∧ Less δ' δ)
    (hs : ∀ (k : Nat) δ' os', (k : Int) < n → W k δ' os' → WB K F t (δ'.set i (.dat (.int (k : Int)))) os' (loopB W k P)) (hd : ∀ δ' os', W n.toNat δ' os' → P (.nx δ' os')) (hm : -1000000 ≤ n) : WB K F (tFor (iRng1 ta') (gName i) t) δ os P := fun B H σ D gF O S hP =>
  h B H σ (S.see O e) _ fun vs J g hv => by
    cases hv with
    | cons hv t1 =>
      cases t1
      have e := Tp.int_of hv
      subst e
      obtain ⟨δ0, w0, l0⟩ := h0
      refine ⟨n, rfl, by omega, by omega, for_range (lo := 0) (n := n.toNat) (fun k σ J => ∃ δ' os' B', W k δ' os' ∧ Gr F B' ∧ Obs K F B' J os' ∧ Sd K B' J σ δ') ⟨δ0, os, B, w0, gF, O.up g.tm, (S.mono g).less l0⟩ (fun k σ J hk ⟨δ', os', B', w, g1, O', S'⟩ => ?_) (fun σ J ⟨δ', os', B', w, g1, O', S'⟩ => hP _ (hd δ' os' w) B' σ J g1 O' S')⟩
      have e0 : (0 : Int) + (k : Int) = (k : Int) := Int.zero_add _
      show t _ (σ.set i (some (.int ((0 : Int) + (k : Int))))) J
      rw [e0]
      exact hs k δ' os' (by omega) w B' J _ _ g1 O' (S'.storeD (.int _)) (loopB_ends (fun B' σ L δ' os' w g O S => ⟨δ', os', B', w, g, O, S⟩) hP)
/-! a def over data that makes instances of its own -/
def fixS (F : Hp) : SD → SD
  | .bor ds => .fix F (.bor ds)
  | .borD ds => .fix F (.borD ds)
  | .bob a C fs => .fix F (.bob a C fs)
  | .gob a gs => .fix F (.gob a gs)
  | s => s
theorem Sd.fix (S : Sd K H H σ δ) : Sd K H H σ (δ.map (fixS H)) := by
  have at_ : ∀ {i : Nat} {s : SD}, (δ.map (fixS H))[i]? = some s → ∃ s', δ[i]? = some s' ∧ s = fixS H s' := fun {i s} h => by
    rw [List.getElem?_map] at h
    cases e : δ[i]? with
    | none => rw [e] at h; cases h
    | some s' => rw [e] at h; exact ⟨s', rfl, (Option.some.inj h).symm⟩
  refine ⟨S.gr, by rw [List.length_map]; exact S.len, fun i s h ne => ?_, fun i j s t a hi hj hs ht ei ej => ?_⟩
  · obtain ⟨s', h', rfl⟩ := at_ h
    have ne' : s' ≠ .emp := fun z => ne (by rw [z]; rfl)
    obtain ⟨v, h1, h2⟩ := S.ok i s' h' ne'
    refine ⟨v, h1, ?_⟩
    cases s' with
    | bor ds => exact ⟨(Gr.rfl' H).gn, Gr.rfl' H, h2⟩
    | borD ds => exact ⟨(Gr.rfl' H).gn, Gr.rfl' H, h2⟩
    | bob a C fs => exact ⟨(Gr.rfl' H).gn, Gr.rfl' H, h2⟩
    | gob a gs => exact ⟨(Gr.rfl' H).gn, Gr.rfl' H, h2⟩
    | _ => exact h2
  · obtain ⟨s', hi', rfl⟩ := at_ hi
    obtain ⟨t', hj', rfl⟩ := at_ hj
    have hs' : s'.ows = true := by cases s' <;> first | exact hs | cases hs
    have ht' : t'.ows = true := by cases t' <;> first | exact ht | cases ht
    exact S.apart i j s' t' a hi' hj' hs' ht' ei ej
def fnB (r : SD) : OB → Prop
  | .nx _ _ => r = .dat .none
  | .rt r' _ => r' = r
  | _ => False
def SD.out : SD → Bool
  | .dat _ => true
  | .own _ => true
  | .ownD _ => true
  | _ => false
theorem VS.outs {v : V} {s : SD} (g : Gr H B) (h : VS K B J v s) (q : s.out = true) : VS K H J v s := by
  cases s with
  | dat d => exact h
  | own ds => obtain ⟨a, vs, e, h0, h1, h2⟩ := h; exact ⟨a, vs, e, g.free h0, h1, h2⟩
  | ownD ds => obtain ⟨a, vs, e, h0, h1, h2⟩ := h; exact ⟨a, vs, e, g.free h0, h1, h2⟩
  | _ => cases q
end
section
variable {P : Program} {w : World} {K : PySem.W.Frag} {mg : Str → Option Value} {base : Heap}
theorem fn_B {x qual : Str} {st : Stmt} {f : Addr} {fd : FuncData} {N ps : List Str} {k : Nat} {R : List SD → SD → Prop} (F : Fun K x qual st f fd) (S : FnScope N ps (defScope st)) (len : ∀ ss r, R ss r → ss.length = ps.length) (out : ∀ ss r, R ss r → r.out = true)
    (hb : ∀ (cdv : Value) (A : Around) (outer : List Env) (s : Shared) (H : Hp) (E : XK), Room k (A.deeper (envOfC qual (defScope st) s.heap.objs.size f cdv)) →
      ∃ t, PSs (cxOf CX0 P w K mg base N qual (defScope st) f cdv A outer s H E).nox (defBody st) t ∧ ∀ ss r, R ss r → ∀ G : Hp, WB K G t ((startD N ss).map (fixS G)) [] (fnB r)) : FnOk P w K mg base CX0 (k + 1) f fd ps (spR K R) := by
  refine F.ok S (fun vs H Q E h => ?_) (fun cdv A outer s H vs Q E hr h => ?_)
  · obtain ⟨ss, r, hR, hv, _⟩ := h
    exact hv.length.trans (len ss r hR)
  · obtain ⟨ss, r, hR, hv, q⟩ := h
    obtain ⟨t, ht, hw⟩ := hb cdv A outer s H E hr
    refine ⟨t, ht, hw ss r hR H H H _ _ (Gr.rfl' H) ⟨(fun o m => by cases m), (fun o m => by cases m), List.nodup_nil⟩ (sd_start hv).fix fun o p => ?_⟩
    cases o with
    | nx δ os =>
      have e : r = .dat .none := p
      subst e
      exact fun B σ J g O S' => q .non J (g.tr S'.gr) .non
    | rt r' os =>
      have e : r' = r := p
      subst e
      exact fun B v J g O gj hv => q v J (g.tr gj) (hv.outs g (out ss r' hR))
    | bk δ os => exact False.elim p
    | ct δ os => exact False.elim p
end
end Tn

namespace Tn
open PySem L2 PySem.Spec PyProof.Rows
/-! ### terms over attributes, truths, keywords -/
section
variable {X : Cx}
theorem pe_fldK {e : Expr} {ta : TE} {f : Str} {pos : Pos} (K : PySem.W.Frag) (ek : X.K = K) (he : PE X e ta) (hb : attributeBase e f X.env (eval e X.env) = eval e X.env) : PE X (.Attribute e f pos) (tFld K ta f) := ek ▸ pe_fld he hb
theorem ps_fldK {o value : Expr} {ta tv : TE} {f : Str} {pos pos' : Pos} (K : PySem.W.Frag) (ek : X.K = K) (ha : PE X o ta) (hv : PE X value tv) (hs : swapsWith value (some (.Attribute o f pos')) pos.line X.env = pure false) : PS X (.Assign [.Attribute o f pos'] value pos) (sFld K ta tv f) := ek ▸ ps_fld ha hv hs
theorem ps_fldaugK {o value : Expr} {ta tv : TE} {f : Str} {pos tpos : Pos} {op : Operator} {rd : V → V → Hp → VK → Prop} (K : PySem.W.Frag) (ek : X.K = K) (ha : PE X o ta) (hv : PE X value tv) (hop : InOp X op rd) : PS X (.AugAssign (.Attribute o f tpos) op value pos) (sFldAug K ta tv rd f) := ek ▸ ps_fldaug ha hv hop
def tTruX (K : PySem.W.Frag) (ta : TE) : TT := fun σ H Q => ta σ H fun x H' => ∃ k, TruV K x H' k ∧ Q k H'
theorem pt_truK {a : Expr} {ta : TE} (K : PySem.W.Frag) (ek : X.K = K) (ha : PE X a ta) (he : ∀ whole, isTrue a X.env whole = (do let v ← whole; standAt a.pos; holding [v] (truthy v))) : PT X a (tTruX K ta) := ek ▸ pt_truth ha he
theorem io_add : InOp X .Add (ipI fun i j => i + j) := ip_add
theorem io_sub : InOp X .Sub (ipI fun i j => i - j) := ip_sub
end
section
variable {K : PySem.W.Frag} {B H J F L : Hp} {δ δ2 : List SD} {te : TE} {ds : List PyData} {d : PyData} {os : List Ob} {i k : Nat} {o : Ob} {f : Str} {P : OB → Prop} {ta' tk : TA} {R : List SD → SD → Prop} {ss : List SD} {E : XK} {n m : Nat}
theorem dt_truL (h : DL K te δ ds) : DT K (tTruX K te) δ (!ds.isEmpty) := fun H0 H σ S Q q => h H0 H σ S _ fun a vs J g hs hv =>
  ⟨!vs.isEmpty, .inl ⟨vs, hs, rfl⟩, by
    have e : vs.isEmpty = ds.isEmpty := by cases hv <;> rfl
    rw [e]
    exact q J g⟩
theorem dt_truB {b : Bool} (h : DE K te δ (.bool b)) : DT K (tTruX K te) δ b := fun H0 H σ S Q q => h H0 H σ S _ fun v J g hv => by
  rw [hv.bl_of]
  exact ⟨b, rfl, q J g⟩
theorem dt_truT (h : DE K te δ (.tuple ds)) : DT K (tTruX K te) δ (!ds.isEmpty) := fun H0 H σ S Q q => h H0 H σ S _ fun v J g hv => by
  obtain ⟨a, xs, rfl, hs, hx⟩ := hv.tup_of
  have e : xs.isEmpty = ds.isEmpty := by cases hx <;> rfl
  refine ⟨!ds.isEmpty, .inr (.inl ⟨xs, hs, by rw [e]⟩), q J g⟩
theorem dt_orT {tt tu : TT} {a : Bool} (h : DT K tt δ a) (e : a = true) : DT K (tOr tt tu) δ true := fun H0 H σ S Q q => h H0 H σ S _ fun J g => by
  rw [e]
  exact iteT (q J g)
theorem dt_andF {tt tu : TT} {a : Bool} (h : DT K tt δ a) (e : a = false) : DT K (tAnd tt tu) δ false := fun H0 H σ S Q q => h H0 H σ S _ fun J g => by
  rw [e]
  exact iteF (q J g)
/-- xs + [..], xs a list of one's own; two fresh lists -/
theorem dn_catV {ta : TE} {ds es : List PyData} {j : Nat} (hj : δ[j]? = some (.own ds)) (ha : DN K ta δ es) (hl : ds.length + es.length ≤ 100000) : DN K (tOp (rAddX K) (tVar j) ta) δ (ds ++ es) := fun H0 H σ S Q q => by
  obtain ⟨v, e1, b, us, rfl, k0, k1, k2⟩ := S.ok j _ hj (by intro z; cases z)
  refine ⟨_, e1, ha H0 H σ S _ fun p vs J g hp h1 h2 => ?_⟩
  refine .inr (.inr ⟨b, p, us, vs, rfl, rfl, g _ _ k1, h1, by rw [h2.length, k2.length]; exact Nat.le_trans hl (by decide), fun r hr => ?_⟩)
  exact q r _ _ (g.tr (Gr.lay hr)) (g.free hr) upd_same (((k2.mono g.tm).app h2).mono (Gr.lay hr).tm)
theorem dn_catN {ta tb : TE} {ds es : List PyData} (ha : DN K ta δ ds) (hb : DN K tb δ es) (hl : ds.length + es.length ≤ 100000) : DN K (tOp (rAddX K) ta tb) δ (ds ++ es) := fun H0 H σ S Q q => ha H0 H σ S _ fun p vs J g hp h1 h2 => hb H0 J σ (S.mono g) _ fun p2 us L g2 hp2 k1 k2 =>
  .inr (.inr ⟨p, p2, vs, us, rfl, rfl, g2 _ _ h1, k1, by rw [h2.length, k2.length]; exact Nat.le_trans hl (by decide), fun r hr =>
    q r _ _ ((g.tr g2).tr (Gr.lay hr)) ((g.tr g2).free hr) upd_same (((h2.mono g2.tm).app k2).mono (Gr.lay hr).tm)⟩)
theorem cut_erase {ds : List PyData} {p : Int} (h0 : 0 ≤ p) (h1 : p < (ds.length : Int)) : cutD ds none (some p) ++ cutD ds (some (p + 1)) none = ds.eraseIdx p.toNat := by
  have a1 : HT.sIx ds.length 0 none = 0 := rfl
  have a2 : HT.sIx ds.length ds.length (some p) = p.toNat := by
    show (if p < 0 then _ else min p.toNat ds.length) = p.toNat
    rw [if_neg (by omega)]
    omega
  have a3 : HT.sIx ds.length 0 (some (p + 1)) = p.toNat + 1 := by
    show (if p + 1 < 0 then _ else min (p + 1).toNat ds.length) = p.toNat + 1
    rw [if_neg (by omega)]
    omega
  have a4 : HT.sIx ds.length ds.length none = ds.length := rfl
  unfold cutD
  rw [a1, a2, a3, a4, List.drop_zero, Nat.sub_zero, List.eraseIdx_eq_take_drop_succ]
  congr 1
  rw [List.take_of_length_le]
  rw [List.length_drop]
  omega
theorem wb_augI {x y : Int} {fo : Int → Int → Int} (ho : os[k]? = some o) (hi : δ[i]? = some (.raw (.ref o.a))) (hc : Cls K o.C) (hn : NoAttr K o.C f) (e : See os δ δ2) (hf : o.fs.lookup f = some (.d (.int x))) (h : DE K te δ2 (.int y)) (hl : o.fs.length < 1000) (hp : PinL F δ)
    (q : P (.nx δ (os.set k ⟨o.a, o.C, putFD f (.d (.int (fo x y))) o.fs⟩))) : WB K F (sFldAug K (tVar i) te (ipI fo) f) δ os P :=
  wb_augK ho hi hc hn e hf h hl hp (fun H Q z => ⟨x, y, rfl, rfl, z⟩) q
/-- f(e, .., k = v, ..), all parameters given, in their order -/
theorem de_callN {s1 s2 : List SD} (h : DA K ta' δ s1) (hk : DA K tk δ s2) (h1 : s1.length = n) (h2 : s2.length = m) (hR : R (s1 ++ s2) (.dat d)) : DE K (tCallN n m (spR K R) (fun vs zs => vs ++ zs) E ta' tk) δ d := fun H0 H σ S Q q => h H0 H σ S _ fun vs J g hv => hk H0 J σ (S.mono g) _ fun zs L g2 hz =>
  ⟨by rw [hv.length]; exact h1, by rw [hz.length]; exact h2, _, _, hR, (hv.go g2).app hz, fun v M g3 hv2 => q v M ((g.tr g2).tr g3) hv2⟩
end
section
variable {K : PySem.W.Frag}
theorem Fun.kbn {x qual : Str} {st : Stmt} {f : Addr} {fd : FuncData} {ps : List Str} (F : Fun K x qual st f fd) (n : Nat) (ks : List Str)
    (h : ∀ (kV doc pm : Value) (an : Option Addr) (cdv ct : Value) (us ws : List Value), us.length = n → ws.length = ks.length → bindArgs (PySem.W.fnOf x qual (defArgs st) (defBody st) (defScope st) .none kV doc pm an cdv ct) ⟨us, ks.zip ws⟩ = pure (ps.zip (us ++ ws))) :
    KBn K fd ps n ks (fun us ws => us ++ ws) (fun vs zs => vs ++ zs) := by
  obtain ⟨oc, od, kV, doc, pm, an, cdv, ct, osl, rfl, lk, hcd⟩ := F.ex
  exact ⟨fun s us ws X l1 l2 => .of_eq (h kV doc pm an cdv ct us ws l1 l2), fun r1 r2 => r1.append r2⟩
theorem va_c00 {a : Addr} (h : ∀ H : Hp, SqT K H a [V.int 0, V.int 0]) (H : Hp) : VA K H [V.ref a] [.dat (.tuple [.int 0, .int 0])] := .cons (.tup (h H) (.cons (.int 0) (.cons (.int 0) .nil))) .nil
theorem st_of {K : PySem.W.Frag} {H : Hp} {a : Addr} {o : Obj} {its : Array Value} {n : Nat} {xs : List V} (l : K.lookup a = some o) (c : o.cls = .type "tuple") (d : o.data = .seq its n) (z : its.size ≤ sizeLine) (v : Vals xs its.toList) : SqT K H a xs := .inr ⟨o, its, n, l, c, d, z, v⟩
end
/-! the attributes of an instance, from what a method's promise tells -/
def fsOf (q : Nat → Addr) : Nat → List (Str × FA) → List (Str × FD)
  | _, [] => []
  | k, (n, .d x) :: r => (n, .d x) :: fsOf q (k + 1) r
  | k, (n, .l ds) :: r => (n, .l (q k) ds) :: fsOf q (k + 1) r
  | k, (n, .o a) :: r => (n, .o a) :: fsOf q (k + 1) r
  | k, (n, .c t) :: r => (n, .c (q k) t) :: fsOf q (k + 1) r
theorem fs_of : ∀ (fs : List (Str × FD)) (vs : List (Str × FA)) (k : Nat), fs.map (fun p => (p.1, p.2.val)) = vs → ∃ q : Nat → Addr, fs = fsOf q k vs
  | [], vs, k, h => by
    cases vs with
    | nil => exact ⟨fun _ => 0, rfl⟩
    | cons x r => cases h
  | (n, s) :: fs, vs, k, h => by
    cases vs with
    | nil => cases h
    | cons x r =>
      rw [List.map_cons] at h
      injection h with h1 h2
      obtain ⟨q, hq⟩ := fs_of fs r (k + 1) h2
      have key : ∀ (q1 q2 : Nat → Addr) (j : Nat) (vs : List (Str × FA)), (∀ i, j ≤ i → q1 i = q2 i) → fsOf q1 j vs = fsOf q2 j vs := by
        intro q1 q2 j vs
        induction vs generalizing j with
        | nil => intro _; rfl
        | cons y vs ih =>
          intro hh
          obtain ⟨n, y⟩ := y
          have ih' := ih (j + 1) fun i hi => hh i (by omega)
          cases y with
          | d x => exact congrArg ((n, FD.d x) :: ·) ih'
          | l ds => show (n, FD.l (q1 j) ds) :: _ = (n, FD.l (q2 j) ds) :: _; rw [hh j (Nat.le_refl _), ih']
          | o a => exact congrArg ((n, FD.o a) :: ·) ih'
          | c t => show (n, FD.c (q1 j) t) :: _ = (n, FD.c (q2 j) t) :: _; rw [hh j (Nat.le_refl _), ih']
      subst h1
      cases s with
      | d y => exact ⟨q, congrArg ((n, FD.d y) :: ·) hq⟩
      | o y => exact ⟨q, congrArg ((n, FD.o y) :: ·) hq⟩
      | c p t =>
        refine ⟨fun i => if i = k then p else q i, ?_⟩
        show (n, FD.c p t) :: fs = (n, FD.c (if k = k then p else q k) t) :: _
        rw [if_pos rfl, hq]
        refine congrArg ((n, FD.c p t) :: ·) (key _ _ _ _ fun i hi => ?_)
        rw [if_neg (by omega)]
      | l p ds =>
        refine ⟨fun i => if i = k then p else q i, ?_⟩
        show (n, FD.l p ds) :: fs = (n, FD.l (if k = k then p else q k) ds) :: _
        rw [if_pos rfl, hq]
        refine congrArg ((n, FD.l p ds) :: ·) (key _ _ _ _ fun i hi => ?_)
        rw [if_neg (by omega)]
end Tn

namespace Tn
open PySem L2 PySem.Spec PyProof.Rows
/-! ### calls with an argument that changes instances -/
section
variable {K : PySem.W.Frag} {F : Hp} {δ : List SD} {os : List Ob} {te : TE} {ta' : TA} {R : List SD → SD → Prop} {E : XK}
/-- f(o.m(..), e, ..) -/
theorem db_callB {RD RQ : PyData → List Ob → Prop} (h : DB K F te δ os RD) (hk : ∀ d os', RD d os' → ∃ δ2 ss d2, See os' δ δ2 ∧ DA K ta' δ2 ss ∧ R (.dat d :: ss) (.dat d2) ∧ RQ d2 os') : DB K F (tCall (spR K R) [] E (tCons te ta')) δ os RQ := fun B H σ g O S Q q => h B H σ g O S _ fun v d os' B' J r g' O' S' hv => by
  obtain ⟨δ2, ss, d2, e, ha, hR, rq⟩ := hk d os' r
  exact ha _ J σ (S'.see O' e) _ fun vs L gr hvs => ⟨_, _, hR, by rw [List.append_nil]; exact .cons (show Tp K L v d from Tp.mono gr.tm hv) hvs, fun w M g2 hw => q w d2 os' B' M rq g' (O'.up (gr.tr g2).tm) (S'.mono (gr.tr g2)) hw⟩
end
end Tn

namespace Tn
open PySem L2 PySem.Spec PyProof.Rows
/-! ### expressions that make an instance: DI; defs that hand one out: spO -/
def DI (K : PySem.W.Frag) (te : TE) (δ : List SD) (C : Addr) (fs : List (Str × FA)) : Prop := ∀ (B H : Hp) (σ : L2.St), Sd K B H σ δ → ∀ Q : VK,
  (∀ J (o : Ob), o.C = C → o.vals = fs → Gr H J → (∀ b ∈ o.Z, H b = none) → o.Z.Nodup → ObAt K J J o → Q (.ref o.a) J) → te σ H Q
def spO (K : PySem.W.Frag) (C : Addr) (R : List SD → List (Str × FA) → Prop) : Sp := fun vs H Q _ => ∃ ss fs, R ss fs ∧ VA K H vs ss ∧
  ∀ J (o : Ob), o.C = C → o.vals = fs → Gr H J → (∀ b ∈ o.Z, H b = none) → o.Z.Nodup → ObAt K J J o → Q (.ref o.a) J
section
variable {K : PySem.W.Frag} {B H J F L : Hp} {δ δ2 : List SD} {σ : L2.St} {o o' : Ob} {os os2 : List Ob} {ta tk : TA} {te : TE} {ds es : List PyData} {d : PyData} {i n m : Nat} {P : OB → Prop} {C : Addr} {E : XK} {R : List (Str × FA) → List PyData → PyData → List (Str × FA) → Prop} {RO : List SD → List (Str × FA) → Prop} {RS : List SD → SD → Prop} {fs : List (Str × FA)} {ss : List SD} {dvs : List V} {dds : List PyData} {t : TS}
/-- what __init__ does to a bare instance -/
theorem made (hR : R [] ds .none fs) {us : List V} (hu : TpA K L us ds) {Q : VK} (q : ∀ J (o : Ob), o.C = C → o.vals = fs → Gr L J → (∀ b ∈ o.Z, L b = none) → o.Z.Nodup → ObAt K J J o → Q (.ref o.a) J) :
    ∀ x dx, L x = none → L dx = none → dx ≠ x → spM K C R (.ref x :: us) (upd (upd L dx (.own x)) x (.ins C dx [])) (fun v H3 => v = .non ∧ Q (.ref x) H3) E := by
  intro x dx hx hdx ne
  have g1 : Gr L (upd (upd L dx (.own x)) x (.ins C dx [])) := (Gr.lay hdx).tr (Gr.lay (by rw [upd_ne (Ne.symm ne)]; exact hx))
  refine ⟨⟨x, C, []⟩, us, ds, .none, fs, rfl, rfl, ⟨dx, [], upd_same, trivial⟩, ?_, hR, hu.mono g1.tm, fun v J o' e1 e2 e3 f nz nd at' hv => ⟨?_, ?_⟩⟩
  · exact List.nodup_cons.mpr ⟨(by intro z; cases z), List.nodup_nil⟩
  · cases hv; rfl
  · have gJ : Gr L J := fun b u e => f b u (fun m => by
      cases List.mem_singleton.mp m
      rw [hx] at e; cases e) (g1 _ _ e)
    have ex : (V.ref x) = .ref o'.a := by rw [e1]
    rw [ex]
    refine q J o' e2 e3 gJ (fun b m => ?_) nd at'
    rcases nz b m with q | q
    · cases List.mem_singleton.mp q; exact hx
    · exact g1.free q
theorem di_make (ha : DAd K ta δ ds) (hR : R [] ds .none fs) : DI K (tMake C (spM K C R) [] E ta) δ C fs := fun B H σ S Q q => ha B H σ S _ fun us L gr hu => by
  rw [List.append_nil]
  exact made hR hu fun J o e1 e2 g nz nd at' => q J o e1 e2 (gr.tr g) (fun b m => gr.free (nz b m)) nd at'
theorem di_makeD (ha : DAd K ta δ ds) (hd : ∀ H, TpA K H dvs dds) (hR : R [] (ds ++ dds) .none fs) : DI K (tMake C (spM K C R) dvs E ta) δ C fs := fun B H σ S Q q => ha B H σ S _ fun us L gr hu =>
  made hR (hu.app (hd L)) fun J o e1 e2 g nz nd at' => q J o e1 e2 (gr.tr g) (fun b m => gr.free (nz b m)) nd at'
theorem di_makeK (ha : DAd K ta δ ds) (hk : DAd K tk δ es) (h1 : ds.length = n) (h2 : es.length = m) (hR : R [] (ds ++ es) .none fs) : DI K (tMakeK C n m (spM K C R) (fun vs zs => vs ++ zs) E ta tk) δ C fs := fun B H σ S Q q => ha B H σ S _ fun us L gr hu => hk B L σ (S.mono gr) _ fun zs M g2 hz =>
  ⟨hu.length.trans h1, hz.length.trans h2, made hR ((hu.mono g2.tm).app hz) fun J o e1 e2 g nz nd at' => q J o e1 e2 (gr.tr (g2.tr g)) (fun b m => gr.free (g2.free (nz b m))) nd at'⟩
theorem di_call (ha : DA K ta δ ss) (hR : RO ss fs) : DI K (tCall (spO K C RO) [] E ta) δ C fs := fun B H σ S Q q => ha B H σ S _ fun us L gr hu =>
  ⟨ss, fs, hR, by rw [List.append_nil]; exact hu, fun J o e1 e2 g nz nd at' => q J o e1 e2 (gr.tr g) (fun b m => gr.free (nz b m)) nd at'⟩
theorem sub_flat : ∀ {xs ys : List Ob}, xs.Sublist ys → (xs.flatMap Ob.Z).Sublist (ys.flatMap Ob.Z)
  | _, _, .slnil => .slnil
  | _, _, .cons a h => by rw [List.flatMap_cons]; exact (sub_flat h).trans (List.sublist_append_right _ _)
  | _, _, .cons₂ a h => by rw [List.flatMap_cons, List.flatMap_cons]; exact (List.Sublist.refl _).append (sub_flat h)
/-- fewer instances are looked at -/
theorem Obs.sub (O : Obs K F B H os) (s : os2.Sublist os) : Obs K F B H os2 := ⟨fun o m => O.at_ o (s.subset m), fun o m => O.out o (s.subset m), List.Sublist.nodup (sub_flat s) O.nod⟩
theorem wb_sub (s : os2.Sublist os) (h : WB K F t δ os2 P) : WB K F t δ os P := fun B H σ D g O S hP => h B H σ D g (O.sub s) S hP
theorem step_new (g : Gr F B) (O : Obs K F B L os) (S : Sd K B L σ δ) (hp : ∀ B, Gr F B → PinF K F B δ) (gJ : Gr L J) (nz : ∀ b ∈ o'.Z, L b = none) (nd : o'.Z.Nodup) (at' : ObAt K J J o') :
    Gr F (rebase B J [] o'.Z) ∧ Obs K F (rebase B J [] o'.Z) J (os ++ [o']) ∧ Sd K (rebase B J [] o'.Z) J σ δ :=
  have nz' : NewZ [] o'.Z L := fun b m => .inr (nz b m)
  ⟨rebase_F g S.gr (fun b m => by cases m) nz', O.add g S.gr gJ nz' nd at', S.swap g (fun b m => by cases m) (fun b m => by cases m) (fun b u _ e => gJ _ _ e) nz' (hp B g)⟩
/-- x = C(..), x = f(..) -/
theorem wb_asgI (e : See os δ δ2) (h : DI K te δ2 C fs) (hp : PinL F δ) (k : ∀ o' : Ob, o'.C = C → o'.vals = fs → P (.nx (δ.set i (.raw (.ref o'.a))) (os ++ [o']))) : WB K F (tAsg te (gName i)) δ os P := fun B H σ D g O S hP => h B H σ (S.see O e) _ fun J o' e1 e2 gr nz nd at' => by
  obtain ⟨z1, z2, z3⟩ := step_new g O S hp.to gr nz nd at'
  exact hP _ (k o' e1 e2) _ _ J z1 z2 (z3.store (s := .raw (.ref o'.a)) rfl fun z => by cases z)
/-- return C(..) -/
theorem wb_retI (e : See os δ δ2) (h : DI K te δ2 C fs) (hp : PinL F δ) (k : ∀ o' : Ob, o'.C = C → o'.vals = fs → P (.rt (.raw (.ref o'.a)) (os ++ [o']))) : WB K F (tRet te) δ os P := fun B H σ D g O S hP => h B H σ (S.see O e) _ fun J o' e1 e2 gr nz nd at' => by
  obtain ⟨z1, z2, z3⟩ := step_new g O S hp.to gr nz nd at'
  exact hP _ (k o' e1 e2) _ _ J z1 z2 z3.gr rfl
/-- return x, x an instance -/
theorem wb_retOb (hi : δ[i]? = some (.raw (.ref o.a))) (k : P (.rt (.raw (.ref o.a)) os)) : WB K F (tRet (tVar i)) δ os P := fun B H σ D g O S hP => by
  obtain ⟨v, h1, h2⟩ := S.ok i _ hi (by intro z; cases z)
  exact ⟨_, h1, hP _ k B v H g O S.gr h2⟩
/-! arguments, some of which are new instances -/
def DAX (K : PySem.W.Frag) (ta : TA) (δ : List SD) (T : List SD → Prop) : Prop := ∀ (B H : Hp) (σ : L2.St), Sd K B H σ δ → ∀ Q : List V → Hp → Prop,
  (∀ vs J ss, Gr H J → T ss → VA K J vs ss → Q vs J) → ta σ H Q
theorem dax_of (h : DA K ta δ ss) : DAX K ta δ (fun s => s = ss) := fun B H σ S Q q => h B H σ S _ fun vs J g hv => q vs J ss g rfl hv
theorem dax_i {T : List SD → Prop} (h : DI K te δ C fs) (t : DAX K ta δ T) : DAX K (tCons te ta) δ (fun s => ∃ a fd ss, s = .bob a C fd :: ss ∧ fd.map (fun p => (p.1, p.2.val)) = fs ∧ T ss) := fun B H σ S Q q => h B H σ S _ fun J o e1 e2 gr nz nd at' => t B J σ (S.mono gr) _ fun vs L ss g2 ht hv => by
  obtain ⟨dx, fv, k1, k2⟩ := at'
  refine q _ L _ (gr.tr g2) ⟨o.a, o.fs, ss, rfl, e2, ht⟩ (.cons ⟨rfl, dx, fv, ?_, k2.to g2.tm fun r ws _ z => g2 _ _ z⟩ hv)
  rw [← e1]
  exact g2 _ _ k1
theorem dax_d {T : List SD → Prop} (h : DE K te δ d) (t : DAX K ta δ T) : DAX K (tCons te ta) δ (fun s => ∃ ss, s = .dat d :: ss ∧ T ss) := fun B H σ S Q q => h B H σ S _ fun v J g hv => t B J σ (S.mono g) _ fun vs L ss g2 ht hvs =>
  q _ L _ (g.tr g2) ⟨ss, rfl, ht⟩ (.cons (show Tp K L v d from Tp.mono g2.tm hv) hvs)
theorem de_callX {T : List SD → Prop} (h : DAX K ta δ T) (hR : ∀ ss, T ss → RS ss (.dat d)) : DE K (tCall (spR K RS) [] E ta) δ d := fun B H σ S Q q => h B H σ S _ fun vs J ss g ht hv =>
  ⟨ss, _, hR ss ht, by rw [List.append_nil]; exact hv, fun v L g2 hv2 => q v L (g.tr g2) hv2⟩
end
/-! isinstance of an own class; == by an own method; or with a part that changes instances -/
def rIsC (C : Addr) : List V → Hp → VK → Prop := fun xs H Q => ∃ a dx fs, xs = [.ref a, .ref C] ∧ H a = some (.ins C dx fs) ∧ Q (.bl true) H
theorem c_isC {X : Cx} {C : Addr} (K : PySem.W.Frag) (e : X.K = K) (c : C8.InsC K C) : CallR X (.builtin "isinstance") (rIsC C) := C8.call_isC (e ▸ c)
def REq (K : PySem.W.Frag) (Rr : List SD → SD → Prop) (a b : Addr) (H : Hp) : Prop := ∃ ss, Rr ss (.dat (.bool true)) ∧ VA K H [.ref a, .ref b] ss
section
variable {K : PySem.W.Frag} {F : Hp} {δ : List SD} {os : List Ob} {te : TE} {tt tu : TT} {i : Nat} {a C : Addr} {fd : List (Str × FD)} {fs : List (Str × FA)} {Rr : List SD → SD → Prop}
theorem de_isOwn (hi : δ[i]? = some (.bob a C fd)) : DE K (tCB (rIsC C) (tCons (tVar i) (tCons (tC (.ref C)) tNil))) δ (.bool true) := fun H0 H σ S Q q => by
  obtain ⟨v, h1, e, dx, fv, h2, h3⟩ := S.ok i _ hi (by intro z; cases z)
  subst e
  exact ⟨_, h1, a, dx, fv, rfl, S.gr _ _ h2, q _ H (Gr.rfl' H) (.bl _)⟩
theorem de_eqOwn (hi : δ[i]? = some (.bob a C fd)) (h : DI K te δ C fs) (hR : ∀ b fe, fe.map (fun p => (p.1, p.2.val)) = fs → Rr [.bob a C fd, .bob b C fe] (.dat (.bool true))) : DE K (tOp (rEqG (DIns C (REq K Rr))) (tVar i) te) δ (.bool true) := fun H0 H σ S Q q => by
  obtain ⟨v, h1, e, dx, fv, h2, h3⟩ := S.ok i _ hi (by intro z; cases z)
  subst e
  refine ⟨_, h1, h H0 H σ S _ fun J o e1 e2 gr nz nd at' => ?_⟩
  obtain ⟨dy, gv, k1, k2⟩ := at'
  rw [e1] at k1
  have g := S.gr.tr gr
  exact ⟨⟨a, o.a, dx, dy, fv, gv, rfl, rfl, g _ _ h2, k1, _, hR o.a o.fs e2, .cons ⟨rfl, dx, fv, g _ _ h2, h3.to gr.tm fun r ws _ z => g _ _ z⟩ (.cons ⟨rfl, dy, gv, k1, k2⟩ .nil)⟩, fun L e => q _ L (gr.tr e) (.bl _)⟩
theorem spEq_of {vs : List V} {H : Hp} {Q : VK} {E : XK} (h : spEq (REq K Rr) vs H Q E) : spR K Rr vs H Q E := by
  obtain ⟨a, b, rfl, ⟨ss, hR, hv⟩, q⟩ := h
  exact ⟨ss, _, hR, hv, fun v J g hv => by
    have hv : Tp K J v (.bool true) := hv
    rw [hv.bl_of]
    exact q J g⟩
variable {RT RU : Bool → List Ob → Prop}
theorem dtb_or (h : DTB K F tt δ os RU) (k1 : ∀ os', RU true os' → RT true os') (k2 : ∀ os', RU false os' → ∃ δ2 b, See os' δ δ2 ∧ DT K tu δ2 b ∧ RT b os') : DTB K F (tOr tt tu) δ os RT := fun B H σ g O S Q q => h B H σ g O S _ fun b os' B' J r g' O' S' => by
  cases b with
  | true => exact iteT (q true os' B' J (k1 os' r) g' O' S')
  | false =>
    obtain ⟨δ2, b, e, hu, r2⟩ := k2 os' r
    exact iteF (hu B' J σ (S'.see O' e) _ fun L g2 => q b os' B' L r2 g' (O'.up g2.tm) (S'.mono g2))
end
/-! a def that hands out an instance of its own -/
def fnNew (C : Addr) (fs : List (Str × FA)) : OB → Prop
  | .rt r os => ∃ o ∈ os, r = .raw (.ref o.a) ∧ o.C = C ∧ o.vals = fs
  | _ => False
section
variable {P : Program} {w : World} {K : PySem.W.Frag} {mg : Str → Option Value} {base : Heap}
theorem fn_O {x qual : Str} {st : Stmt} {f C : Addr} {fd : FuncData} {N ps : List Str} {k : Nat} {R : List SD → List (Str × FA) → Prop} (F : Fun K x qual st f fd) (S : FnScope N ps (defScope st)) (len : ∀ ss fs, R ss fs → ss.length = ps.length)
    (hb : ∀ (cdv : Value) (A : Around) (outer : List Env) (s : Shared) (H : Hp) (E : XK), Room k (A.deeper (envOfC qual (defScope st) s.heap.objs.size f cdv)) →
      ∃ t, PSs (cxOf CX0 P w K mg base N qual (defScope st) f cdv A outer s H E).nox (defBody st) t ∧ ∀ ss fs, R ss fs → ∀ G : Hp, WB K G t ((startD N ss).map (fixS G)) [] (fnNew C fs)) : FnOk P w K mg base CX0 (k + 1) f fd ps (spO K C R) := by
  refine F.ok S (fun vs H Q E h => ?_) (fun cdv A outer s H vs Q E hr h => ?_)
  · obtain ⟨ss, fs, hR, hv, _⟩ := h
    exact hv.length.trans (len ss fs hR)
  · obtain ⟨ss, fs, hR, hv, q⟩ := h
    obtain ⟨t, ht, hw⟩ := hb cdv A outer s H E hr
    refine ⟨t, ht, hw ss fs hR H H H _ _ (Gr.rfl' H) ⟨(fun o m => by cases m), (fun o m => by cases m), List.nodup_nil⟩ (sd_start hv).fix fun o p => ?_⟩
    cases o with
    | rt r os =>
      obtain ⟨o, m, rfl, e1, e2⟩ := p
      exact fun B v J g O gj hv => by
        have hv : v = .ref o.a := hv
        subst hv
        have n : o.Z.Nodup := by
          have := O.nod
          obtain ⟨l1, l2, rfl⟩ := List.append_of_mem m
          rw [List.flatMap_append, List.flatMap_cons, List.nodup_append, List.nodup_append] at this
          exact this.2.1.1
        refine q J o e1 e2 (g.tr gj) (O.out o m) n ?_
        obtain ⟨dx, fv, k1, k2⟩ := O.at_ o m
        exact ⟨dx, fv, gj _ _ k1, k2.to (fun _ _ z => z) fun r ws _ z => gj _ _ z⟩
    | nx δ os => exact False.elim p
    | bk δ os => exact False.elim p
    | ct δ os => exact False.elim p
end
end Tn

namespace Tn
open PySem L2 PySem.Spec PyProof.Rows
/-! ### loops over lists beside instances that change -/
section
variable {K : PySem.W.Frag} {B H J F F' L : Hp} {δ δ' δ2 : List SD} {σ : L2.St} {os os' : List Ob} {te : TE} {t u : TS} {g : TG} {d : PyData} {ds : List PyData} {i j k : Nat} {P : OB → Prop} {D : Ends} {ta' : TA} {p : Addr} {vs : List V}
/-- a list that was made just now joins the frame -/
theorem frame_add (gF : Gr F B) (O : Obs K F B H os) (S : Sd K B H σ δ) (gr : Gr H J) (hp : H p = none) (hj : J p = some (.lst vs)) :
    Gr (upd F p (.lst vs)) (upd B p (.lst vs)) ∧ Obs K (upd F p (.lst vs)) (upd B p (.lst vs)) J os ∧ Sd K (upd B p (.lst vs)) J σ δ := by
  have hB := S.gr.free hp
  have O2 := O.up gr.tm
  have S2 := S.mono gr
  have gB : Gr B (upd B p (.lst vs)) := Gr.lay hB
  have np : ∀ {b : Addr} {o : HO}, H b = some o → b ≠ p := fun {b o} e z => by rw [z, hp] at e; cases e
  refine ⟨fun b o e => ?_, ⟨fun o m => ?_, fun o m b hb => ?_, O.nod⟩, ⟨fun b o e => ?_, S2.len, fun i s hi ne => ?_, S2.apart⟩⟩
  · by_cases n : b = p
    · subst n; rw [upd_same] at e ⊢; exact e
    · rw [upd_ne n] at e ⊢; exact gF _ _ e
  · obtain ⟨dx, fv, h1, h2⟩ := O2.at_ o m
    exact ⟨dx, fv, gB _ _ h1, h2.to (fun _ _ z => z) fun _ _ _ z => gB _ _ z⟩
  · have n : b ≠ p := by
      obtain ⟨u, e, _⟩ := (O.at_ o m).inb b hb
      exact np (S.gr _ _ e)
    rw [upd_ne n]
    exact O.out o m b hb
  · by_cases n : b = p
    · subst n; rw [upd_same] at e; rw [← e]; exact hj
    · rw [upd_ne n] at e; exact S2.gr _ _ e
  · obtain ⟨v, h1, h2⟩ := S.ok i s hi ne
    obtain ⟨v', h1', h3⟩ := S2.ok i s hi ne
    have ev : v' = v := by rw [h1'] at h1; cases h1; rfl
    subst ev
    refine ⟨v', h1, ?_⟩
    cases s with
    | emp => trivial
    | raw u => exact h3
    | bob b C fs => obtain ⟨e, dx, fv, q1, q2⟩ := h3; exact ⟨e, dx, fv, gB _ _ q1, q2.to (fun _ _ z => z) fun _ _ _ z => gB _ _ z⟩
    | gob b gs => exact ⟨h3.1, h3.2.to (fun _ _ z => z) fun _ _ _ z => gB _ _ z⟩
    | fix G f => exact ⟨h3.1.then gB, h3.2⟩
    | dat d => exact h3
    | bor ds => obtain ⟨b, ws, e, q1, q2⟩ := h3; exact ⟨b, ws, e, gB.sq q1, q2⟩
    | borD ds => obtain ⟨b, ws, e, q1, q2⟩ := h3; exact ⟨b, ws, e, gB.rd q1, q2⟩
    | own ds =>
      obtain ⟨b, ws, rfl, q0, q1, q2⟩ := h3
      obtain ⟨b', ws', e', r0, r1, r2⟩ := h2
      cases e'
      exact ⟨b, ws, rfl, by rw [upd_ne (np r1)]; exact q0, q1, q2⟩
    | ownD ds =>
      obtain ⟨b, ws, rfl, q0, q1, q2⟩ := h3
      obtain ⟨b', ws', e', r0, r1, r2⟩ := h2
      cases e'
      exact ⟨b, ws, rfl, by rw [upd_ne (np r1)]; exact q0, q1, q2⟩
/-- over a list of the frame -/
theorem loop_core (gF : Gr F B) (O : Obs K F B J os) (S : Sd K B J σ δ) (hq : F p = some (.lst vs)) (hx : TpA K J vs ds) (W : Nat → List SD → List Ob → Prop) (h0 : ∃ δ', W 0 δ' os ∧ Less δ' δ)
    (hs : ∀ (F' : Hp) (k : Nat) d δ' os', Gr F F' → ds[k]? = some d → W k δ' os' → ∃ δ3, GTd K g d δ' δ3 ∧ WB K F' t δ3 os' (loopB W k P)) (hd : ∀ δ' os', W ds.length δ' os' → P (.nx δ' os')) (hP : ∀ o, P o → OutB K F D o) :
    ∀ (R : Prop), ((∀ (I : Nat → L2.St → Hp → Prop), I 0 σ J → (∀ k σ L, k ≤ vs.length → I k σ L → SqL K L p vs) → (∀ k x σ L, vs[k]? = some x → I k σ L → g x σ L (fun σ' L' => t { D with nx := fun σ L => I (k + 1) σ L, ct := fun σ L => I (k + 1) σ L, bk := D.nx } σ' L')) → (∀ σ L, I vs.length σ L → D.nx σ L) → R) → R) := fun R q => by
  obtain ⟨δ0, w0, l0⟩ := h0
  have hl := hx.length
  have gFJ : Gr F J := gF.tr S.gr
  have gFF := tupB_gr F J
  have hP' : ∀ o, P o → OutB K (tupB F J) D o := fun o p => (hP o p).base gFF
  have tm : ∀ B' L, Gr (tupB F J) B' → Gr B' L → Tm K J L := fun B' L g1 g2 => tupB_tm gFJ (g1.tr g2)
  refine q (fun k σ L => ∃ δ' os' B', W k δ' os' ∧ Gr (tupB F J) B' ∧ Obs K (tupB F J) B' L os' ∧ Sd K B' L σ δ') ⟨δ0, os, tupB B J, w0, tupB_up gF S.gr, O.solid gF S.gr, S.up.less l0⟩ (fun k σ L _ ⟨_, _, B', _, g1, _, S'⟩ => SqL.of (S'.gr _ _ (g1 _ _ (gFF _ _ hq)))) (fun k x σ L hk ⟨δ', os', B', w, g1, O', S'⟩ => ?_) (fun σ L ⟨δ', os', B', w, g1, O', S'⟩ => hP' _ (hd δ' os' (by rw [← hl]; exact w)) B' σ L g1 O' S')
  obtain ⟨d, hd1, hd2⟩ := (hx.mono (tm B' L g1 S'.gr)).getV hk
  obtain ⟨δ3, hg, hw⟩ := hs (tupB F J) k d δ' os' gFF hd1 w
  refine hg B' L σ x _ S' hd2 fun σ' S2 => ?_
  exact hw B' L σ' _ g1 O' S2 (loopB_ends (fun B' σ L δ' os' w g O S => ⟨δ', os', B', w, g, O, S⟩) hP')
/-- over a fresh list -/
theorem wb_forN (W : Nat → List SD → List Ob → Prop) (e : See os δ δ2) (h : DN K te δ2 ds) (h0 : ∃ δ', W 0 δ' os ∧ Less δ' δ)
    (hs : ∀ (F' : Hp) (k : Nat) d δ' os', Gr F F' → ds[k]? = some d → W k δ' os' → ∃ δ3, GTd K g d δ' δ3 ∧ WB K F' t δ3 os' (loopB W k P)) (hd : ∀ δ' os', W ds.length δ' os' → P (.nx δ' os')) : WB K F (tFor (iSeqX K te) g t) δ os P := fun B H σ D gF O S hP =>
  .inl (h B H σ (S.see O e) _ fun p vs J gr hp hj hv => by
    obtain ⟨z1, z2, z3⟩ := frame_add gF O S gr hp hj
    have gFp : Gr F (upd F p (.lst vs)) := Gr.lay (gF.free (S.gr.free hp))
    refine ⟨p, rfl, ⟨vs, SqL.of hj⟩, ?_⟩
    exact loop_core z1 z2 z3 upd_same hv W h0 (fun F' k d δ' os' gg hk w => hs F' k d δ' os' (gFp.tr gg) hk w) hd (fun o p => (hP o p).base gFp) _ fun I i0 i1 i2 i3 => for_list (K := K) (a := p) (xs := vs) I i0 (fun k σ L hk => i1 k σ L hk) (fun k x σ L hk i => i2 k x σ L hk i) i3)
theorem dtb_notB {RD : PyData → List Ob → Prop} {RT : Bool → List Ob → Prop} (h : DB K F te δ os RD) (hb : ∀ d os', RD d os' → ∃ b, d = .bool b ∧ RT (!b) os') : DTB K F (tNot (tB te)) δ os RT := fun B H σ g O S Q q => h B H σ g O S _ fun v d os' B' J r g' O' S' hv => by
  obtain ⟨b, rfl, rb⟩ := hb d os' r
  exact ⟨b, hv.bl_of, q (!b) os' B' J rb g' O' S'⟩
end
/-! ### data that == may look through -/
def Lay (n : Nat) (d : PyData) : Prop := d.canLay0 = true ∧ d.depth ≤ n
def LayA (n : Nat) (ds : List PyData) : Prop := PyData.canLayAll0 ds = true ∧ PyData.depthAll ds ≤ n
theorem lay_int {n : Nat} {i : Int} : Lay n (.int i) := ⟨rfl, Nat.zero_le _⟩
theorem lay_bool {n : Nat} {b : Bool} : Lay n (.bool b) := ⟨rfl, Nat.zero_le _⟩
theorem lay_none {n : Nat} : Lay n .none := ⟨rfl, Nat.zero_le _⟩
theorem layA_nil {n : Nat} : LayA n [] := ⟨rfl, Nat.zero_le _⟩
theorem layA_cons {n : Nat} {d : PyData} {ds : List PyData} (h : Lay n d) (t : LayA n ds) : LayA n (d :: ds) := by
  refine ⟨?_, Nat.max_le.mpr ⟨h.2, t.2⟩⟩
  show (d.canLay0 && PyData.canLayAll0 ds) = true
  rw [h.1, t.1]; rfl
theorem lay_tup {n : Nat} {ds : List PyData} (t : LayA n ds) : Lay (n + 1) (.tuple ds) := ⟨t.1, Nat.succ_le_succ t.2⟩
theorem lay_lst {n : Nat} {ds : List PyData} (t : LayA n ds) : Lay (n + 1) (.list ds) := ⟨t.1, Nat.succ_le_succ t.2⟩
theorem layA_map {α : Type} {n : Nat} {f : α → PyData} (h : ∀ a, Lay n (f a)) : ∀ ls : List α, LayA n (ls.map f)
  | [] => layA_nil
  | a :: ls => by rw [List.map_cons]; exact layA_cons (h a) (layA_map h ls)
theorem Lay.up {n m : Nat} {d : PyData} (h : Lay n d) (le : n ≤ m) : Lay m d := ⟨h.1, Nat.le_trans h.2 le⟩
theorem lay_shp {n : Nat} {d : PyData} (h : Lay n d) (le : n ≤ 64) : SeqAt.shaped d = true := by
  show (d.canLay0 && decide (d.depth ≤ 64)) = true
  rw [h.1, decide_eq_true (Nat.le_trans h.2 le)]; rfl
section
variable {K : PySem.W.Frag} {δ : List SD} {ta tb : TE} {x y : PyData} {ds es : List PyData} {n : Nat}
theorem de_eqSame (ha : DE K ta δ x) (hb : DE K tb δ y) (e : x = y) (h : Lay 60 x) : DE K (tOp (rEqX K) ta tb) δ (.bool true) := by
  subst e
  exact DE.is (de_eqD ha hb (lay_shp h (by decide)) (lay_shp h (by decide))) (congrArg PyData.bool (eqv_self (lay_shp h (by decide))))
theorem de_neSame (ha : DE K ta δ x) (hb : DE K tb δ y) (e : x = y) (h : Lay 60 x) : DE K (tOp (rNeX K) ta tb) δ (.bool false) := by
  subst e
  exact DE.is (de_neD ha hb (lay_shp h (by decide)) (lay_shp h (by decide))) (by rw [eqv_self (lay_shp h (by decide))]; rfl)
theorem de_eqSameL (ha : DL K ta δ ds) (hb : DL K tb δ es) (e : ds = es) (h : LayA 60 ds) : DE K (tOp (rEqX K) ta tb) δ (.bool true) := by
  subst e
  exact DE.is (de_eqL ha hb (lay_shp (lay_lst h) (by decide)) (lay_shp (lay_lst h) (by decide))) (congrArg PyData.bool (eqv_self (lay_shp (lay_lst h) (by decide))))
theorem de_neSameL (ha : DL K ta δ ds) (hb : DL K tb δ es) (e : ds = es) (h : LayA 60 ds) : DE K (tOp (rNeX K) ta tb) δ (.bool false) := by
  subst e
  exact DE.is (de_neL ha hb (lay_shp (lay_lst h) (by decide)) (lay_shp (lay_lst h) (by decide))) (by rw [eqv_self (lay_shp (lay_lst h) (by decide))]; rfl)
end
end Tn

namespace Tn
open PySem L2 PySem.Spec PyProof.Rows
/-! ### comprehensions with a test -/
/-- a comprehension's target takes an item -/
def CG (K : PySem.W.Frag) (g : TG) (vs : List Nat) (d : PyData) (δ δ2 : List SD) : Prop := ∀ (H0 H : Hp) (σ : L2.St) (v : V) (Q : L2.St → Hp → Prop), Sd K H0 H σ δ → Tp K H v d → (∀ σ', Sd K H0 H σ' δ2 → L2.wipe σ' vs = L2.wipe σ vs → Q σ' H) → g v (L2.wipe σ vs) H Q
section
variable {K : PySem.W.Frag} {δ : List SD} {g : TG} {vs : List Nat} {ds : List PyData} {tl te : TE} {tt : TT} {p : PyData → Bool} {f : PyData → PyData} {d : PyData}
theorem cg_name {i : Nat} : CG K (gName i) [i] d δ ((wipeD δ [i]).set i (.dat d)) := fun H0 H σ v Q S h q => lc_tgtN H0 H σ v Q S h q
theorem cg_tup {t : TGs} {is : List Nat} {n : Nat} {es : List PyData} (gn : GN t is) (h1 : es.length = n) (h2 : is.length = n) (hv : ∀ i ∈ is, i ∈ vs) : CG K (gTup K n t) vs (.tuple es) δ (setsD is es (wipeD δ vs)) := fun H0 H σ v Q S h q => lc_tgt gn h1 h2 hv H0 H σ v Q S h q
theorem take_filter {α : Type} {ls : List α} {k : Nat} {l : α} {p : α → Bool} (h : ls[k]? = some l) : (ls.take (k + 1)).filter p = (ls.take k).filter p ++ (if p l = true then [l] else []) := by
  rw [take_more h, List.filter_append]
  congr 1
  cases e : p l with
  | true => rw [if_pos rfl, List.filter_cons, if_pos e, List.filter_nil]
  | false => rw [if_neg (by intro z; cases z), List.filter_cons, if_neg (by rw [e]; intro z; cases z), List.filter_nil]
theorem lc_turn {H0 H J L : Hp} {σ : L2.St} {k : Nat} {x : V} {Dl : Addr} (S : Sd K H0 H σ δ) (gj : Gr H J) (hz : ds.length ≤ 10000) (hD : J Dl = none) (hd1 : ds[k]? = some d) (hd2 : Tp K J x d) (gl : Gr J L) {acc : List V} (hl2 : L Dl = some (.lst acc)) (ha : TpA K L acc (((ds.take k).filter p).map f))
    (hg : ∃ δ2, CG K g vs d δ δ2 ∧ DT K tt δ2 (p d) ∧ (p d = true → DE K te δ2 (f d))) :
    g x (L2.wipe σ vs) L fun σ2 H2 => L2.wipe σ2 vs = L2.wipe σ vs ∧ tt σ2 H2 fun b H3 => if b = true then te σ2 H3 fun y H4 => ∃ acc, H4 Dl = some (.lst acc) ∧ acc.length < sizeLine ∧ (Gr J (upd H4 Dl (.lst (acc ++ [y]))) ∧ ∃ ac, upd H4 Dl (.lst (acc ++ [y])) Dl = some (.lst ac) ∧ TpA K (upd H4 Dl (.lst (acc ++ [y]))) ac (((ds.take (k + 1)).filter p).map f))
      else Gr J H3 ∧ ∃ ac, H3 Dl = some (.lst ac) ∧ TpA K H3 ac (((ds.take (k + 1)).filter p).map f) := by
  obtain ⟨δ2, hg1, ht, he⟩ := hg
  have len : acc.length ≤ ds.length := by
    rw [ha.length, List.length_map]
    refine Nat.le_trans (List.length_filter_le _ _) ?_
    rw [List.length_take]; omega
  refine hg1 H0 L σ x _ ((S.mono gj).mono gl) (hd2.mono gl.tm) fun σ' S' hw => ⟨hw, ?_⟩
  refine ht H0 L σ' S' _ fun M0 g1 => ?_
  have S2 := S'.mono g1
  have hl3 := g1 _ _ hl2
  have ha3 := ha.mono g1.tm
  cases e : p d with
  | false =>
    refine iteF ⟨gl.tr g1, acc, hl3, ?_⟩
    rw [take_filter hd1, if_neg (by rw [e]; intro z; cases z), List.append_nil]
    exact ha3
  | true =>
    refine iteT (he e H0 M0 σ' S2 _ fun v M g2 hv => ?_)
    have hl4 := g2 _ _ hl3
    refine ⟨acc, hl4, Nat.lt_of_le_of_lt len (Nat.lt_of_le_of_lt hz (by decide)), Gr.lay2 (gl.tr (g1.tr g2)) hD, _, upd_same, ?_⟩
    rw [take_filter hd1, if_pos e, List.map_append]
    exact TpA.mono (fun _ _ z => st_upd z hl4) ((ha3.mono g2.tm).app (.cons hv .nil))
/-- [e for t in xs if c], xs a tuple -/
theorem dn_lcIT (p : PyData → Bool) (f : PyData → PyData) (h : DE K tl δ (.tuple ds)) (hz : ds.length ≤ 10000) (hg : ∀ d ∈ ds, ∃ δ2, CG K g vs d δ δ2 ∧ DT K tt δ2 (p d) ∧ (p d = true → DE K te δ2 (f d))) :
    DN K (tLc (iSeqX K tl) g tt te vs) δ ((ds.filter p).map f) := fun H0 H σ S Q q => .inr (h H0 H σ S _ fun v J gj hv => by
  obtain ⟨a, xs, rfl, hq, hx⟩ := hv.tup_of
  have hl := hx.length
  refine ⟨a, rfl, ⟨xs, hq⟩, fun Dl hD => lc_tup (K := K) (a := a) (xs := xs) (fun k L => Gr J L ∧ ∃ acc, L Dl = some (.lst acc) ∧ TpA K L acc (((ds.take k).filter p).map f)) ⟨Gr.lay hD, [], upd_same, .nil⟩ (fun k L _ z => z.1.st hq) (fun k x L hk ⟨gl, acc, hl2, ha⟩ => ?_) (fun L ⟨gl, acc, hl2, ha⟩ => q Dl acc L (gj.tr gl) (gj.free hD) hl2 (by rw [hl, List.take_length] at ha; exact ha))⟩
  obtain ⟨d, hd1, hd2⟩ := hx.getV hk
  exact lc_turn S gj hz hD hd1 hd2 gl hl2 ha (hg d (List.mem_of_getElem? hd1)))
/-- xs a list -/
theorem dn_lcIL (p : PyData → Bool) (f : PyData → PyData) (h : DL K tl δ ds) (hz : ds.length ≤ 10000) (hg : ∀ d ∈ ds, ∃ δ2, CG K g vs d δ δ2 ∧ DT K tt δ2 (p d) ∧ (p d = true → DE K te δ2 (f d))) :
    DN K (tLc (iSeqX K tl) g tt te vs) δ ((ds.filter p).map f) := fun H0 H σ S Q q => .inl (h H0 H σ S _ fun a xs J gj hq hx => by
  have hl := hx.length
  refine ⟨a, rfl, ⟨xs, hq⟩, fun Dl hD => lc_list (K := K) (a := a) (xs := xs) (fun k L => Gr J L ∧ ∃ acc, L Dl = some (.lst acc) ∧ TpA K L acc (((ds.take k).filter p).map f)) ⟨Gr.lay hD, [], upd_same, .nil⟩ (fun k L _ z => z.1.sq hq) (fun k x L hk ⟨gl, acc, hl2, ha⟩ => ?_) (fun L ⟨gl, acc, hl2, ha⟩ => q Dl acc L (gj.tr gl) (gj.free hD) hl2 (by rw [hl, List.take_length] at ha; exact ha))⟩
  obtain ⟨d, hd1, hd2⟩ := hx.getV hk
  exact lc_turn S gj hz hD hd1 hd2 gl hl2 ha (hg d (List.mem_of_getElem? hd1)))
theorem dt_yes : DT K tYes δ true := fun H0 H σ S Q q => q H (Gr.rfl' H)
/-- [e for t in xs], xs a list -/
theorem dn_lcL (f : PyData → PyData) (h : DL K tl δ ds) (hz : ds.length ≤ 10000) (hg : ∀ d ∈ ds, ∃ δ2, CG K g vs d δ δ2 ∧ DE K te δ2 (f d)) : DN K (tLc (iSeqX K tl) g tYes te vs) δ (ds.map f) := by
  have q := dn_lcIL (tt := tYes) (fun _ => true) f h hz (fun d hd => by obtain ⟨δ2, h1, h2⟩ := hg d hd; exact ⟨δ2, h1, dt_yes, fun _ => h2⟩)
  rwa [List.filter_eq_self.mpr (fun _ _ => rfl)] at q
end
end Tn

namespace Tn
open PySem L2 PySem.Spec PyProof.Rows
/-! ### reading along attributes that are instances -/
/-- te is the place q -/
def DRf (te : TE) (K : PySem.W.Frag) (δ : List SD) (q : Addr) : Prop := ∀ (B H : Hp) (σ : L2.St), Sd K B H σ δ → ∀ Q : VK, Q (.ref q) H → te σ H Q
section
variable {K : PySem.W.Frag} {B H J F L : Hp} {δ δ2 : List SD} {te : TE} {ta' : TA} {i : Nat} {a q C : Addr} {gs : List (Addr × Addr × List (Str × FD))} {fs : List (Str × FD)} {f m : Str} {d : PyData} {ds : List PyData} {kvs : List (Key × PyData)} {ss : List SD} {R : List SD → SD → Prop} {E : XK} {p r : Addr}
/-- a slot tells of a graph -/
def HasG (δ : List SD) (gs : List (Addr × Addr × List (Str × FD))) : Prop := ∃ (i : Nat) (a : Addr), δ[i]? = some (.gob a gs) ∨ ∃ G, δ[i]? = some (.fix G (.gob a gs))
theorem HasG.ga {σ : L2.St} (h : HasG δ gs) (S : Sd K B H σ δ) : GA K H H gs := by
  obtain ⟨i, a, h | ⟨G, h⟩⟩ := h
  · obtain ⟨v, _, _, h2⟩ := S.ok i _ h (by intro z; cases z)
    exact h2.to (fun _ _ z => z) fun _ _ _ z => S.gr _ _ z
  · obtain ⟨v, _, _, g, _, h2⟩ := S.ok i _ h (by intro z; cases z)
    exact h2.to (fun _ _ z => z) fun _ _ _ z => g _ _ z
theorem dr_gob (hi : δ[i]? = some (.gob a gs)) : DRf (tVar i) K δ a := fun B H σ S Q q => by
  obtain ⟨v, h1, h2, _⟩ := S.ok i _ hi (by intro z; cases z)
  subst h2
  exact ⟨_, h1, q⟩
theorem dr_raw (hi : δ[i]? = some (.raw (.ref a))) : DRf (tVar i) K δ a := fun B H σ S Q q => by
  obtain ⟨v, h1, h2⟩ := S.ok i _ hi (by intro z; cases z)
  have h2 : v = .ref a := h2
  subst h2
  exact ⟨_, h1, q⟩
theorem dr_bob (hi : δ[i]? = some (.bob a C fs)) : DRf (tVar i) K δ a := fun B H σ S Q q => by
  obtain ⟨v, h1, h2, _⟩ := S.ok i _ hi (by intro z; cases z)
  subst h2
  exact ⟨_, h1, q⟩
theorem dr_gobF {G : Hp} (hi : δ[i]? = some (.fix G (.gob a gs))) : DRf (tVar i) K δ a := fun B H σ S Q q => by
  obtain ⟨v, h1, _, _, h2, _⟩ := S.ok i _ hi (by intro z; cases z)
  subst h2
  exact ⟨_, h1, q⟩
theorem dr_fld (h : DRf te K δ q) (hg : HasG δ gs) (hm : (q, C, fs) ∈ gs) (hc : Cls K C) (hn : NoAttr K C f) (hf : fs.lookup f = some (.o p)) : DRf (tFld K te f) K δ p := fun B H σ S Q z => h B H σ S _ (by
  obtain ⟨dx, fv, h1, h2⟩ := hg.ga S _ hm
  obtain ⟨w, k1, k2⟩ := h2.get hf
  have k2 : w = .ref p := k2
  subst k2
  exact ⟨q, C, dx, fv, _, rfl, h1, hc, hn, k1, z⟩)
theorem de_fldG (h : DRf te K δ q) (hg : HasG δ gs) (hm : (q, C, fs) ∈ gs) (hc : Cls K C) (hn : NoAttr K C f) (hf : fs.lookup f = some (.d d)) : DE K (tFld K te f) δ d := fun B H σ S Q z => h B H σ S _ (by
  obtain ⟨dx, fv, h1, h2⟩ := hg.ga S _ hm
  obtain ⟨w, k1, k2⟩ := h2.get hf
  exact ⟨q, C, dx, fv, _, rfl, h1, hc, hn, k1, z w H (Gr.rfl' H) k2⟩)
theorem dl_fldG (h : DRf te K δ q) (hg : HasG δ gs) (hm : (q, C, fs) ∈ gs) (hc : Cls K C) (hn : NoAttr K C f) (hf : fs.lookup f = some (.l p ds)) : DL K (tFld K te f) δ ds := fun B H σ S Q z => h B H σ S _ (by
  obtain ⟨dx, fv, h1, h2⟩ := hg.ga S _ hm
  obtain ⟨w, k1, k2, vs, k3, k4⟩ := h2.get hf
  subst k2
  exact ⟨q, C, dx, fv, _, rfl, h1, hc, hn, k1, z p vs H (Gr.rfl' H) (SqL.of k3) k4⟩)
theorem dk_fldG (h : DRf te K δ q) (hg : HasG δ gs) (hm : (q, C, fs) ∈ gs) (hc : Cls K C) (hn : NoAttr K C f) (hf : fs.lookup f = some (.c p (.m kvs))) : DK K (tFld K te f) δ kvs := fun B H σ S Q z => h B H σ S _ (by
  obtain ⟨dx, fv, h1, h2⟩ := hg.ga S _ hm
  obtain ⟨w, k1, k2, o, k3, vs, k4, k5⟩ := h2.get hf
  subst k2
  subst k4
  exact ⟨q, C, dx, fv, _, rfl, h1, hc, hn, k1, z p vs H (Gr.rfl' H) (.inl k3) k5⟩)
/-- an instance of the graph handed on: alone, or with the graph -/
theorem da_one (h : DRf te K δ q) (hg : HasG δ gs) (hm : (q, C, fs) ∈ gs) (t : DA K ta' δ ss) : DA K (tCons te ta') δ (.bob q C fs :: ss) := fun B H σ S Q z => h B H σ S _ (t B H σ S _ fun vs L g2 hvs => by
  obtain ⟨dx, fv, h1, h2⟩ := hg.ga S _ hm
  exact z _ L g2 (.cons ⟨rfl, dx, fv, g2 _ _ h1, h2.to g2.tm fun _ _ _ z => g2 _ _ z⟩ hvs))
theorem da_gob (h : DRf te K δ q) (hg : HasG δ gs) (t : DA K ta' δ ss) : DA K (tCons te ta') δ (.gob q gs :: ss) := fun B H σ S Q z => h B H σ S _ (t B H σ S _ fun vs L g2 hvs =>
  z _ L g2 (.cons ⟨rfl, (hg.ga S).to g2.tm fun _ _ _ z => g2 _ _ z⟩ hvs))
/-- a method that reads -/
theorem de_methG (h : DRf te K δ q) (hg : HasG δ gs) (hm : (q, C, fs) ∈ gs) (hl : fs.lookup m = none) (ha : DA K ta' δ ss) (hR : R (.bob q C fs :: ss) (.dat d)) : DE K (tMeth C m (spR K R) [] E te ta') δ d := fun B H σ S Q z => h B H σ S _ (by
  obtain ⟨dx, fv, h1, h2⟩ := hg.ga S _ hm
  refine ⟨q, dx, fv, rfl, h1, fsA_no (fv := fv) h2 hl, ha B H σ S _ fun vs J g hv => ⟨_, _, hR, ?_, fun v L g2 hv2 => z v L (g.tr g2) hv2⟩⟩
  rw [List.append_nil]
  exact .cons ⟨rfl, dx, fv, g _ _ h1, h2.to g.tm fun _ _ _ z => g _ _ z⟩ hv)
end
end Tn

namespace Tn
open PySem L2 PySem.Spec PyProof.Rows
/-! ### defs and methods that change several instances -/
def Reg (os : List Ob) : List Addr := os.flatMap Ob.Z
def off (Z : List Addr) (H : Hp) : Hp := fun b => if b ∈ Z then none else H b
/-- what stands at a place: the place, the class, the attributes without the places of lists and dicts -/
abbrev Sh := Addr × Addr × List (Str × FA)
def Ob.sh (o : Ob) : Sh := (o.a, o.C, o.vals)
/-- values handed in, told of a frame -/
inductive VB (K : PySem.W.Frag) (B H : Hp) : List V → List SD → Prop
  | nil : VB K B H [] []
  | cons {v : V} {vs : List V} {s : SD} {ss : List SD} : s.ows = false → VS K B H v s → VB K B H vs ss → VB K B H (v :: vs) (s :: ss)
def retOk : SD → Bool
  | .dat _ => true
  | .raw _ => true
  | _ => false
def spG (K : PySem.W.Frag) (R : List Sh → List SD → (SD → List Sh → Prop) → Prop) : Sp := fun vs H Q _ => ∃ (os : List Ob) (ss : List SD) (post : SD → List Sh → Prop) (F0 : Hp), R (os.map Ob.sh) ss post ∧ Gr F0 H ∧ (∀ b ∈ Reg os, F0 b = none) ∧ (Reg os).Nodup ∧ (∀ o ∈ os, ObAt K H H o) ∧ VB K F0 H vs ss ∧
  ∀ v J r (os' : List Ob), post r (os'.map Ob.sh) → Fr (Reg os) H J → (∀ b ∈ Reg os', b ∈ Reg os ∨ H b = none) → (Reg os').Nodup → (∀ o ∈ os', ObAt K J J o) → retOk r = true → VS K H J v r → Q v J
section
variable {K : PySem.W.Frag} {B H J F L F0 : Hp} {δ δ2 : List SD} {σ : L2.St} {os sel rest : List Ob} {vs us : List V} {ss : List SD} {N : List Str}
theorem VB.length : ∀ {vs : List V} {ss : List SD}, VB K B H vs ss → vs.length = ss.length
  | _, _, .nil => rfl
  | _, _, .cons _ _ t => by rw [List.length_cons, List.length_cons, VB.length t]
theorem VB.get : ∀ {vs : List V} {ss : List SD} {i : Nat} {s : SD}, VB K B H vs ss → ss[i]? = some s → ∃ v, vs[i]? = some v ∧ VS K B H v s ∧ s.ows = false
  | _, _, _, _, .nil, e => by simp at e
  | _, _, 0, s, .cons (v := v) n h t, e => by
    simp at e
    subst e
    exact ⟨v, rfl, h, n⟩
  | _, _, i + 1, s, .cons n h t, e => by simpa using VB.get (i := i) t (by simpa using e)
theorem sd_startG (h : VB K F0 H vs ss) (g : Gr F0 H) : Sd K H H (L2.start N vs) ((startD N ss).map (fixS F0)) := by
  have hl := h.length
  have at_ : ∀ {i : Nat} {s : SD}, ((startD N ss).map (fixS F0))[i]? = some s → ∃ s', (startD N ss)[i]? = some s' ∧ s = fixS F0 s' := fun {i s} h => by
    rw [List.getElem?_map] at h
    cases e : (startD N ss)[i]? with
    | none => rw [e] at h; cases h
    | some s' => rw [e] at h; exact ⟨s', rfl, (Option.some.inj h).symm⟩
  have no : ∀ {i : Nat} {s : SD}, ((startD N ss).map (fixS F0))[i]? = some s → s.ows = false := fun {i s} hi => by
    obtain ⟨s', hi', rfl⟩ := at_ hi
    rcases start_get hi' with hi' | rfl
    · obtain ⟨v, _, _, n⟩ := h.get hi'
      cases s' <;> first | rfl | exact n
    · rfl
  refine ⟨Gr.rfl' H, ?_, fun i s hi ne => ?_, fun i j s t a hi hj hs ht _ _ => ?_⟩
  · unfold L2.start startD
    simp [hl]
  · obtain ⟨s', hi', rfl⟩ := at_ hi
    rcases start_get hi' with hi' | rfl
    · obtain ⟨v, h1, h2, n⟩ := h.get hi'
      refine ⟨v, ?_, ?_⟩
      · unfold L2.start
        have il : i < vs.length := (List.getElem?_eq_some_iff.mp h1).1
        rw [List.getElem?_append_left (by rw [List.length_map]; exact il), List.getElem?_map, h1]
        rfl
      · cases s' with
        | emp => exact absurd rfl ne
        | raw u => exact h2
        | dat d => exact h2
        | own ds => cases n
        | ownD ds => cases n
        | bor ds => exact ⟨g.gn, g, h2⟩
        | borD ds => exact ⟨g.gn, g, h2⟩
        | bob a C fs => exact ⟨g.gn, g, h2⟩
        | gob a gs => exact ⟨g.gn, g, h2⟩
        | fix G s => exact ⟨h2.1.then g, h2.2⟩
    · exact absurd rfl ne
  · rw [no hi] at hs; cases hs
/-- several instances were changed -/
theorem Obs.swapG {os' : List Ob} (O : Obs K F B L (sel ++ rest)) (g : Gr F B) (gb : Gr B L) (f : Fr (Reg sel) L J) (nz : NewZ (Reg sel) (Reg os') L) (nd : (Reg os').Nodup) (h : ∀ o ∈ os', ObAt K J J o) :
    Obs K F (rebase B J (Reg sel) (Reg os')) J (os' ++ rest) ∧ InB (Reg sel) B ∧ ∀ b ∈ Reg sel, F b = none := by
  have inr : ∀ {o : Ob}, o ∈ rest → o ∈ sel ++ rest := fun m => List.mem_append.mpr (.inr m)
  have inl : ∀ {o : Ob}, o ∈ sel → o ∈ sel ++ rest := fun m => List.mem_append.mpr (.inl m)
  have z : InB (Reg sel) B := fun b m => by
    obtain ⟨o, mo, mb⟩ := List.mem_flatMap.mp m
    exact (O.at_ o (inl mo)).inb b mb
  have nf : ∀ b ∈ Reg sel, F b = none := fun b m => by
    obtain ⟨o, mo, mb⟩ := List.mem_flatMap.mp m
    exact O.out o (inl mo) b mb
  have n := O.nod
  rw [List.flatMap_append, List.nodup_append] at n
  obtain ⟨n1, n2, n3⟩ := n
  have far : ∀ o ∈ rest, ∀ b ∈ o.Z, b ∉ Reg sel := fun o m b hb hz => n3 b hz b (List.mem_flatMap.mpr ⟨o, m, hb⟩) rfl
  have far' : ∀ o ∈ rest, ∀ b ∈ o.Z, b ∉ Reg os' := fun o m b hb hz => by
    rcases nz b hz with q | q
    · exact far o m b hb q
    · obtain ⟨u, e, _⟩ := (O.at_ o (inr m)).inb b hb
      rw [gb _ _ e] at q
      cases q
  have tm : Tm K L J := f.tm (z.gr gb)
  refine ⟨⟨fun o m => ?_, fun o m b hb => ?_, ?_⟩, z, nf⟩
  · rcases List.mem_append.mp m with m | m
    · exact (h o m).to (fun _ _ z => z) fun q hq => rebase_new (List.mem_flatMap.mpr ⟨o, m, hq⟩)
    · exact (O.at_ o (inr m)).to tm fun q hq => rebase_old (far' o m q hq) (far o m q hq)
  · rcases List.mem_append.mp m with m | m
    · rcases nz b (List.mem_flatMap.mpr ⟨o, m, hb⟩) with q | q
      · exact nf b q
      · exact g.free (gb.free q)
    · exact O.out o (inr m) b hb
  · rw [List.flatMap_append, List.nodup_append]
    refine ⟨nd, n2, fun b hb c hc e => ?_⟩
    subst e
    obtain ⟨o, m, hz⟩ := List.mem_flatMap.mp hc
    exact far' o m b hz hb
/-! arguments told of the frame -/
def DAg (K : PySem.W.Frag) (F : Hp) (ta : TA) (δ : List SD) (ss : List SD) : Prop := ∀ (B H : Hp) (σ : L2.St), Gr F B → Sd K B H σ δ → ∀ Q : List V → Hp → Prop, (∀ vs J, Gr H J → VB K F J vs ss → Q vs J) → ta σ H Q
theorem VB.mono {J : Hp} (tm : Gr H J) : ∀ {vs : List V} {ss : List SD}, VB K F H vs ss → VB K F J vs ss
  | _, _, .nil => .nil
  | _, _, .cons n h t => .cons n (h.mono tm) (VB.mono tm t)
variable {te : TE} {ta : TA} {d : PyData} {i : Nat} {q : Addr} {ds : List PyData} {kvs : List (Key × PyData)}
theorem dg_nil : DAg K F tNil δ [] := fun B H σ g S Q z => z [] H (Gr.rfl' H) .nil
theorem dg_d (h : DE K te δ d) (t : DAg K F ta δ ss) : DAg K F (tCons te ta) δ (.dat d :: ss) := fun B H σ g S Q z => h B H σ S _ fun v J g1 hv => t B J σ g (S.mono g1) _ fun vs L g2 hvs => z _ L (g1.tr g2) (.cons rfl (show Tp K L v d from Tp.mono g2.tm hv) hvs)
theorem dg_r (h : DRf te K δ q) (t : DAg K F ta δ ss) : DAg K F (tCons te ta) δ (.raw (.ref q) :: ss) := fun B H σ g S Q z => h B H σ S _ (t B H σ g S _ fun vs L g2 hvs => z _ L g2 (.cons rfl rfl hvs))
theorem dg_l {G : Hp} (hi : δ[i]? = some (.fix G (.bor ds))) (gG : Gr G F) (t : DAg K F ta δ ss) : DAg K F (tCons (tVar i) ta) δ (.bor ds :: ss) := fun B H σ g S Q z => by
  obtain ⟨v, h1, _, gh, b, us, e, k1, k2⟩ := S.ok i _ hi (by intro z; cases z)
  exact ⟨_, h1, t B H σ g S _ fun vs L g2 hvs => z _ L g2 (.cons rfl ⟨b, us, e, gG.sq k1, k2.mono g2.tm⟩ hvs)⟩
theorem dg_k {G : Hp} (hi : δ[i]? = some (.fix G (.borD kvs))) (gG : Gr G F) (t : DAg K F ta δ ss) : DAg K F (tCons (tVar i) ta) δ (.borD kvs :: ss) := fun B H σ g S Q z => by
  obtain ⟨v, h1, _, gh, b, us, e, k1, k2⟩ := S.ok i _ hi (by intro z; cases z)
  exact ⟨_, h1, t B H σ g S _ fun vs L g2 hvs => z _ L g2 (.cons rfl ⟨b, us, e, gG.rd k1, k2.mono g2.tm⟩ hvs)⟩
/-! expressions that change instances; their value is data or a place -/
def DBr (K : PySem.W.Frag) (F : Hp) (te : TE) (δ : List SD) (os : List Ob) (R : SD → List Ob → Prop) : Prop := ∀ (B H : Hp) (σ : L2.St), Gr F B → Obs K F B H os → Sd K B H σ δ → ∀ Q : VK,
  (∀ v r os' B' J, R r os' → Gr F B' → Obs K F B' J os' → Sd K B' J σ δ → retOk r = true → VS K B' J v r → Q v J) → te σ H Q
variable {RR : SD → List Ob → Prop} {P : OB → Prop} {R : List Sh → List SD → (SD → List Sh → Prop) → Prop} {post : SD → List Sh → Prop} {E : XK} {C a : Addr} {m : Str} {dvs : List V}
theorem ret_ows {r : SD} (h : retOk r = true) : r.ows = false := by cases r <;> first | rfl | cases h
theorem wb_asgR (h : DBr K F te δ os RR) (k : ∀ r os', RR r os' → P (.nx (δ.set i r) os')) : WB K F (tAsg te (gName i)) δ os P := fun B H σ D g O S hP => h B H σ g O S _ fun v r os' B' J rr g' O' S' ho hv => hP _ (k r os' rr) B' _ J g' O' (S'.store hv fun z => by rw [ret_ows ho] at z; cases z)
theorem wb_dropR (h : DBr K F te δ os RR) (k : ∀ r os', RR r os' → P (.nx δ os')) : WB K F (tDrop te) δ os P := fun B H σ D g O S hP => h B H σ g O S _ fun v r os' B' J rr g' O' S' ho hv => hP _ (k r os' rr) B' _ J g' O' S'
theorem wb_retR (h : DBr K F te δ os RR) (k : ∀ r os', RR r os' → P (.rt r os')) : WB K F (tRet te) δ os P := fun B H σ D g O S hP => h B H σ g O S _ fun v r os' B' J rr g' O' S' ho hv => hP _ (k r os' rr) B' v J g' O' S'.gr hv
theorem db_of {RD : PyData → List Ob → Prop} (h : DBr K F te δ os RR) (k : ∀ r os', RR r os' → ∃ d, r = .dat d ∧ RD d os') : DB K F te δ os RD := fun B H σ g O S Q q => h B H σ g O S _ fun v r os' B' J rr g' O' S' ho hv => by
  obtain ⟨d, rfl, rd⟩ := k r os' rr
  exact q v d os' B' J rd g' O' S' hv
/-- the call itself -/
theorem call_core (O : Obs K F B L (sel ++ rest)) (g : Gr F B) (S : Sd K B L σ δ) (hp : PinL F δ) (hv : VB K F L vs ss) (hR : R (sel.map Ob.sh) ss post) {Q : VK}
    (q : ∀ v r os' B' J, (∃ sel', os' = sel' ++ rest ∧ post r (sel'.map Ob.sh)) → Gr F B' → Obs K F B' J os' → Sd K B' J σ δ → retOk r = true → VS K B' J v r → Q v J) : spG K R vs L Q E := by
  have n := O.nod
  rw [List.flatMap_append, List.nodup_append] at n
  refine ⟨sel, ss, post, F, hR, g.tr S.gr, fun b m => ?_, n.1, fun o m => ?_, hv, fun v J r os' hpost f nz nd at' ho hr => ?_⟩
  · obtain ⟨o, mo, mb⟩ := List.mem_flatMap.mp m
    exact O.out o (List.mem_append.mpr (.inl mo)) b mb
  · obtain ⟨dx, fv, k1, k2⟩ := O.at_ o (List.mem_append.mpr (.inl m))
    exact ⟨dx, fv, S.gr _ _ k1, k2.to (fun _ _ z => z) fun _ _ _ z => S.gr _ _ z⟩
  · obtain ⟨O', z, nf⟩ := O.swapG g S.gr f nz nd at'
    refine q v r _ _ J ⟨os', rfl, hpost⟩ (rebase_F g S.gr nf nz) O' (S.swap g z nf f nz (hp.to B g)) ho ?_
    cases r with
    | dat d => exact hr
    | raw u => exact hr
    | _ => cases ho
theorem dbr_call (e : See (sel ++ rest) δ δ2) (ha : DAg K F ta δ2 ss) (hR : R (sel.map Ob.sh) ss post) (hp : PinL F δ) :
    DBr K F (tCall (spG K R) [] E ta) δ (sel ++ rest) (fun r os' => ∃ sel', os' = sel' ++ rest ∧ post r (sel'.map Ob.sh)) := fun B H σ g O S Q q => ha B H σ g (S.see O e) _ fun vs L gr hv => by
  rw [List.append_nil]
  exact call_core (O.up gr.tm) g (S.mono gr) hp hv hR q
theorem dbr_meth {o : Ob} (ho : o ∈ sel ++ rest) (e : See (sel ++ rest) δ δ2) (hr : DRf te K δ2 o.a) (hC : o.C = C) (hm : o.fs.lookup m = none) (ha : DAg K F ta δ2 ss) (hR : R (sel.map Ob.sh) (.raw (.ref o.a) :: ss) post) (hp : PinL F δ) :
    DBr K F (tMeth C m (spG K R) [] E te ta) δ (sel ++ rest) (fun r os' => ∃ sel', os' = sel' ++ rest ∧ post r (sel'.map Ob.sh)) := fun B H σ g O S Q q => hr B H σ (S.see O e) _ (by
  obtain ⟨dx, fv, k1, k2⟩ := O.at_ o ho
  refine ⟨o.a, dx, fv, rfl, by rw [← hC]; exact S.gr _ _ k1, fsA_no (fv := fv) k2 hm, ha B H σ g (S.see O e) _ fun vs L gr hv => ?_⟩
  rw [List.append_nil]
  exact call_core (O.up gr.tm) g (S.mono gr) hp (VB.cons (v := .ref o.a) (s := .raw (.ref o.a)) rfl (show VS K F L (.ref o.a) (.raw (.ref o.a)) from rfl) hv) hR q)
end
/-! the wrapper of such a def -/
def gO (post : SD → List Sh → Prop) : OB → Prop
  | .rt r os => retOk r = true ∧ post r (os.map Ob.sh)
  | .nx _ os => post (.dat .none) (os.map Ob.sh)
  | _ => False
section
variable {P : Program} {w : World} {K : PySem.W.Frag} {mg : Str → Option Value} {base : Heap}
theorem fn_G {x qual : Str} {st : Stmt} {f : Addr} {fd : FuncData} {N ps : List Str} {k : Nat} {R : List Sh → List SD → (SD → List Sh → Prop) → Prop} (F : Fun K x qual st f fd) (S : FnScope N ps (defScope st)) (len : ∀ shs ss post, R shs ss post → ss.length = ps.length)
    (hb : ∀ (cdv : Value) (A : Around) (outer : List Env) (s : Shared) (H : Hp) (E : XK), Room k (A.deeper (envOfC qual (defScope st) s.heap.objs.size f cdv)) →
      ∃ t, PSs (cxOf CX0 P w K mg base N qual (defScope st) f cdv A outer s H E).nox (defBody st) t ∧ ∀ (os : List Ob) ss post, R (os.map Ob.sh) ss post → ∀ G0 G : Hp, Gr G0 G → WB K G t ((startD N ss).map (fixS G0)) os (gO post)) : FnOk P w K mg base CX0 (k + 1) f fd ps (spG K R) := by
  refine F.ok S (fun vs H Q E h => ?_) (fun cdv A outer s H vs Q E hr h => ?_)
  · obtain ⟨os, ss, post, F0, hR, _, _, _, _, hv, _⟩ := h
    exact hv.length.trans (len _ ss post hR)
  · obtain ⟨os, ss, post, F0, hR, g0, out, nd, at_, hv, q⟩ := h
    obtain ⟨t, ht, hw⟩ := hb cdv A outer s H E hr
    refine ⟨t, ht, ?_⟩
    have g : Gr (off (Reg os) H) H := fun b u e => by
      unfold off at e
      by_cases m : b ∈ Reg os
      · rw [if_pos m] at e; cases e
      · rw [if_neg m] at e; exact e
    have gF : Gr F0 (off (Reg os) H) := fun b u e => by
      unfold off
      rw [if_neg fun m => by rw [out b m] at e; cases e]
      exact g0 _ _ e
    have O : Obs K (off (Reg os) H) H H os := ⟨at_, fun o m b hb => by
      exact if_pos (show b ∈ Reg os from List.mem_flatMap.mpr ⟨o, m, hb⟩), nd⟩
    have fin : ∀ (B J : Hp) (v : V) (r : SD) (os' : List Ob), Gr (off (Reg os) H) B → Obs K (off (Reg os) H) B J os' → Gr B J → retOk r = true → post r (os'.map Ob.sh) → VS K B J v r → Q v J := fun B J v r os' g' O' gj ho hp hv => by
      refine q v J r os' hp (fun b u m e => gj _ _ (g' _ _ ?_)) (fun b m => ?_) O'.nod (fun o m => ?_) ho ?_
      · unfold off; rw [if_neg m]; exact e
      · obtain ⟨o, mo, mb⟩ := List.mem_flatMap.mp m
        have z := O'.out o mo b mb
        unfold off at z
        by_cases mm : b ∈ Reg os
        · exact .inl mm
        · rw [if_neg mm] at z; exact .inr z
      · obtain ⟨dx, fv, k1, k2⟩ := O'.at_ o m
        exact ⟨dx, fv, gj _ _ k1, k2.to (fun _ _ z => z) fun _ _ _ z => gj _ _ z⟩
      · cases r with
        | dat d => exact hv
        | raw u => exact hv
        | _ => cases ho
    refine hw os ss post hR F0 _ gF H H _ _ g O (sd_startG hv g0) fun ob p => ?_
    cases ob with
    | nx δ os' => exact fun B σ J g' O' S' => fin B J .non (.dat .none) os' g' O' S'.gr rfl p .non
    | rt r os' => exact fun B v J g' O' gj hv => fin B J v r os' g' O' gj p.1 p.2 hv
    | bk δ os => exact False.elim p
    | ct δ os => exact False.elim p
end
end Tn

namespace Tn
open PySem L2 PySem.Spec PyProof.Rows
/-! ### constructors over several instances; what is stored along a path -/
section
variable {K : PySem.W.Frag} {B H J F L F0 : Hp} {δ δ2 : List SD} {σ : L2.St} {os os2 sel rest pre tl : List Ob} {vs us : List V} {ss ds' : List SD} {te tv : TE} {ta tk : TA} {d : PyData} {i n m : Nat} {q p a C : Addr} {ds : List PyData} {RR : SD → List Ob → Prop} {P : OB → Prop} {R : List Sh → List SD → (SD → List Sh → Prop) → Prop} {E : XK} {dvs : List V} {f : Str} {o : Ob}
theorem Obs.comm (O : Obs K F B H (sel ++ rest)) : Obs K F B H (rest ++ sel) := by
  have sw : ∀ {o : Ob}, o ∈ rest ++ sel → o ∈ sel ++ rest := fun m => by
    rcases List.mem_append.mp m with m | m
    · exact List.mem_append.mpr (.inr m)
    · exact List.mem_append.mpr (.inl m)
  refine ⟨fun o m => O.at_ o (sw m), fun o m => O.out o (sw m), ?_⟩
  have n := O.nod
  rw [List.flatMap_append, List.nodup_append] at n ⊢
  exact ⟨n.2.1, n.1, fun b hb c hc e => n.2.2 c hc b hb e.symm⟩
theorem wb_comm {t : TS} (h : WB K F t δ (rest ++ sel) P) : WB K F t δ (sel ++ rest) P := fun B H σ D g O S hP => h B H σ D g O.comm S hP
/-- what __init__ does to a bare instance, with others that it makes -/
theorem madeG {post : Addr → SD → List Sh → Prop} (O : Obs K F B L os) (g : Gr F B) (S : Sd K B L σ δ) (hp : PinL F δ) (hv : VB K F L vs ss) (hR : ∀ x, R [(x, C, [])] (.raw (.ref x) :: ss) (post x)) (hn : ∀ x r shs, post x r shs → r = .dat .none) {Q : VK}
    (q : ∀ v r os' B' J, (∃ x sel', r = .raw (.ref x) ∧ os' = os ++ sel' ∧ post x (.dat .none) (sel'.map Ob.sh)) → Gr F B' → Obs K F B' J os' → Sd K B' J σ δ → retOk r = true → VS K B' J v r → Q v J) :
    ∀ x dx, L x = none → L dx = none → dx ≠ x → spG K R (.ref x :: vs) (upd (upd L dx (.own x)) x (.ins C dx [])) (fun v H3 => v = .non ∧ Q (.ref x) H3) E := by
  intro x dx hx hdx ne
  have g1 : Gr L (upd (upd L dx (.own x)) x (.ins C dx [])) := (Gr.lay hdx).tr (Gr.lay (by rw [upd_ne (Ne.symm ne)]; exact hx))
  have gFL : Gr F L := g.tr S.gr
  refine ⟨[⟨x, C, []⟩], .raw (.ref x) :: ss, post x, F, hR x, gFL.tr g1, fun b m => ?_, ?_, fun o m => ?_, .cons rfl rfl (hv.mono g1), fun v J r os' hpost fr nz nd at' ho hr => ?_⟩
  · have m : b ∈ [x] := m
    cases List.mem_singleton.mp m
    exact gFL.free hx
  · exact List.nodup_cons.mpr ⟨(by intro z; cases z), List.nodup_nil⟩
  · cases List.mem_singleton.mp m
    exact ⟨dx, [], upd_same, trivial⟩
  · have er := hn x r _ hpost
    subst er
    refine ⟨by cases hr; rfl, ?_⟩
    have gJ : Gr L J := fun b u e => fr b u (fun m => by
      have m : b ∈ [x] := m
      cases List.mem_singleton.mp m
      rw [hx] at e; cases e) (g1 _ _ e)
    have nz' : NewZ (Reg []) (Reg os') L := fun b m => .inr (by
      rcases nz b m with z | z
      · have z : b ∈ [x] := z
        cases List.mem_singleton.mp z; exact hx
      · exact g1.free z)
    obtain ⟨O', z, nf⟩ := Obs.swapG (sel := []) (rest := os) O g S.gr (fun b u _ e => gJ _ _ e) nz' nd at'
    exact q _ (.raw (.ref x)) _ _ J ⟨x, os', rfl, rfl, hpost⟩ (rebase_F g S.gr nf nz') O'.comm (S.swap g z nf (fun b u _ e => gJ _ _ e) nz' (hp.to B g)) rfl rfl
theorem dbr_make {post : Addr → SD → List Sh → Prop} (e : See os δ δ2) (ha : DAg K F ta δ2 ss) (hR : ∀ x, R [(x, C, [])] (.raw (.ref x) :: ss) (post x)) (hn : ∀ x r shs, post x r shs → r = .dat .none) (hp : PinL F δ) :
    DBr K F (tMake C (spG K R) [] E ta) δ os (fun r os' => ∃ x sel', r = .raw (.ref x) ∧ os' = os ++ sel' ∧ post x (.dat .none) (sel'.map Ob.sh)) := fun B H σ g O S Q q => ha B H σ g (S.see O e) _ fun vs L gr hv => by
  rw [List.append_nil]
  exact madeG (O.up gr.tm) g (S.mono gr) hp hv hR hn q
theorem VB.app : ∀ {vs us : List V} {ss ds' : List SD}, VB K F H vs ss → VB K F H us ds' → VB K F H (vs ++ us) (ss ++ ds')
  | _, _, _, _, .nil, t => t
  | _, _, _, _, .cons n h t, t2 => .cons n h (VB.app t t2)
theorem dbr_makeK {post : Addr → SD → List Sh → Prop} (e : See os δ δ2) (ha : DAg K F ta δ2 ss) (hk : DAg K F tk δ2 ds') (h1 : ss.length = n) (h2 : ds'.length = m) (hR : ∀ x, R [(x, C, [])] (.raw (.ref x) :: (ss ++ ds')) (post x)) (hn : ∀ x r shs, post x r shs → r = .dat .none) (hp : PinL F δ) :
    DBr K F (tMakeK C n m (spG K R) (fun vs zs => vs ++ zs) E ta tk) δ os (fun r os' => ∃ x sel', r = .raw (.ref x) ∧ os' = os ++ sel' ∧ post x (.dat .none) (sel'.map Ob.sh)) := fun B H σ g O S Q q => ha B H σ g (S.see O e) _ fun vs L gr hv => hk B L σ g ((S.see O e).mono gr) _ fun zs M g2 hz =>
  ⟨hv.length.trans h1, hz.length.trans h2, madeG (O.up (gr.tr g2).tm) g (S.mono (gr.tr g2)) hp ((hv.mono g2).app hz) hR hn q⟩
/-- an attribute that holds no container -/
theorem lq_putN {s' : FD} (h : s'.at = none) : ∀ {fs : List (Str × FD)}, (lq (putFD f s' fs)).Sublist (lq fs)
  | [] => by
    unfold putFD
    cases s' with
    | d y => exact List.Sublist.refl _
    | o y => exact List.Sublist.refl _
    | l p ds => cases h
    | c p t => cases h
  | (x, s) :: fs => by
    unfold putFD
    by_cases e : x = f
    · rw [if_pos e]
      have e2 : lq ((x, s') :: fs) = lq fs := by
        cases s' with
        | d y => rfl
        | o y => rfl
        | l p ds => cases h
        | c p t => cases h
      rw [e2]
      exact lq_cons
    · rw [if_neg e]
      cases s with
      | l q ds => exact List.Sublist.cons₂ _ (lq_putN h)
      | c q t => exact List.Sublist.cons₂ _ (lq_putN h)
      | d y => exact lq_putN h (fs := fs)
      | o q => exact lq_putN h (fs := fs)
def toFD : SD → FD
  | .dat d => .d d
  | .raw (.ref q) => .o q
  | _ => .d .none
def isFD : SD → Bool
  | .dat _ => true
  | .raw (.ref _) => true
  | _ => false
theorem toFD_at {r : SD} (h : isFD r = true) : (toFD r).at = none := by
  cases r with
  | raw v => cases v <;> first | rfl | cases h
  | dat d => rfl
  | _ => cases h
theorem toFD_fv {r : SD} {v : V} (h : isFD r = true) (hv : VS K B J v r) : FV K J J v (toFD r) := by
  cases r with
  | raw u =>
    cases u with
    | ref q => exact hv
    | _ => cases h
  | dat d => exact hv
  | _ => cases h
/-- self.f = a value that may change instances, or is one -/
theorem wb_fldR (hi : δ[i]? = some (.raw (.ref a))) (h : DBr K F tv δ os RR) (hp : PinL F δ)
    (k : ∀ r os', RR r os' → ∃ pre o tl, os' = pre ++ o :: tl ∧ o.a = a ∧ Cls K o.C ∧ NoAttr K o.C f ∧ o.fs.length < 1000 ∧ isFD r = true ∧ P (.nx δ (pre ++ ⟨o.a, o.C, putFD f (toFD r) o.fs⟩ :: tl))) : WB K F (sFld K (tVar i) tv f) δ os P := fun B H σ D g O S hP => h B H σ g O S _ fun y r os' B' L rr g' O' S' ho hy => by
  obtain ⟨pre, o, tl, rfl, ea, hc, hn, hl, hfd, kP⟩ := k r os' rr
  subst ea
  have hin : o ∈ pre ++ o :: tl := List.mem_append.mpr (.inr List.mem_cons_self)
  obtain ⟨v, h1, h2⟩ := S'.ok i _ hi (by intro z; cases z)
  have h2 : v = .ref o.a := h2
  subst h2
  obtain ⟨dx, fv, k1, k2⟩ := O'.at_ o hin
  have kL := S'.gr _ _ k1
  have fr : Fr o.Z L (upd L o.a (.ins o.C dx (putF f y fv))) := fun b u m e => by
    rw [upd_ne fun z => m (by rw [z]; exact List.mem_cons_self)]; exact e
  have tm : Tm K L (upd L o.a (.ins o.C dx (putF f y fv))) := fr.tm ((O'.at_ o hin).inb.gr S'.gr)
  have sub := lq_putN (f := f) (toFD_at hfd) (fs := o.fs)
  refine ⟨_, h1, o.a, o.C, dx, fv, rfl, kL, hc, hn, by rw [k2.length]; exact hl, step_swap (o' := ⟨o.a, o.C, putFD f (toFD r) o.fs⟩) g' O' S' (hp.to B' g') fr (fun b m => ?_) ?_ ⟨dx, _, upd_same, ?_⟩ (hP _ kP)⟩
  · rcases List.mem_cons.mp m with z | m
    · exact .inl (List.mem_cons.mpr (.inl z))
    · exact .inl (List.mem_cons_of_mem _ (sub.subset m))
  · exact List.Sublist.nodup (List.Sublist.cons₂ _ sub) O'.apart.1
  · refine FsA.put (s := toFD r) ?_ (k2.toZ tm fun r m o c e => ?_)
    · have q := toFD_fv hfd hy
      cases r with
      | dat d => exact Tp.mono tm q
      | raw u =>
        cases u with
        | ref p => exact q
        | _ => cases hfd
      | _ => cases hfd
    · have eL := S'.gr _ _ e
      rw [upd_ne (ne_of eL kL c.nins)]
      exact eL
/-- p.f.append(e), p a path -/
theorem wb_appP (hr : DRf te K δ2 o.a) (hc : Cls K o.C) (hn : NoAttr K o.C f) (e : See (pre ++ o :: tl) δ δ2) (hf : o.fs.lookup f = some (.l q ds)) (h : DE K tv δ2 d) (hl : ds.length < 100000) (hp : PinL F δ)
    (k : P (.nx δ (pre ++ ⟨o.a, o.C, putFD f (.l q (ds ++ [d])) o.fs⟩ :: tl))) : WB K F (tDrop (tBM K "list" rAppend (tFld K te f) (tCons tv tNil))) δ (pre ++ o :: tl) P := fun B H σ D g O S hP => hr B H σ (S.see O e) _ (by
  have hin : o ∈ pre ++ o :: tl := List.mem_append.mpr (.inr List.mem_cons_self)
  obtain ⟨dx, fv, k1, k2⟩ := O.at_ o hin
  obtain ⟨w, m1, rfl, vs, m2, m3⟩ := k2.get hf
  refine ⟨o.a, o.C, dx, fv, _, rfl, S.gr _ _ k1, hc, hn, m1, .inl ⟨rfl, vs, SqL.of (S.gr _ _ m2)⟩, h B H σ (S.see O e) _ fun y L gr hy => ?_⟩
  have S2 := S.mono gr
  refine ⟨q, vs, y, rfl, rfl, S2.gr _ _ m2, ?_, step_list g (O.up gr.tm) S2 (hp.to B g) hf ((m3.mono gr.tm).app (.cons hy .nil)) (hP _ k)⟩
  rw [m3.length]
  exact Nat.lt_trans hl (by decide))
end
end Tn

namespace Tn
open PySem L2 PySem.Spec PyProof.Rows
section
variable {K : PySem.W.Frag} {B H J F L : Hp} {δ δ2 : List SD} {σ : L2.St} {os sel rest : List Ob} {ss ds' : List SD} {te : TE} {ta tk : TA} {i n m : Nat} {q a C : Addr} {ds es : List PyData} {RR : SD → List Ob → Prop} {P : OB → Prop} {R : List Sh → List SD → (SD → List Sh → Prop) → Prop} {E : XK} {dvs : List V} {dds : List PyData} {f : Str} {fs : List (Str × FA)} {fd : List (Str × FD)} {RM : List (Str × FA) → List PyData → PyData → List (Str × FA) → Prop}
/-- a new instance, as a value that joins the others -/
theorem dbr_I (e : See os δ δ2) (h : DI K te δ2 C fs) (hp : PinL F δ) : DBr K F te δ os (fun r os' => ∃ o' : Ob, r = .raw (.ref o'.a) ∧ os' = os ++ [o'] ∧ o'.C = C ∧ o'.vals = fs) := fun B H σ g O S Q q => h B H σ (S.see O e) _ fun J o' e1 e2 gr nz nd at' => by
  obtain ⟨z1, z2, z3⟩ := step_new g O S hp.to gr nz nd at'
  exact q _ (.raw (.ref o'.a)) _ _ J ⟨o', rfl, rfl, e1, e2⟩ z1 z2 z3 rfl rfl
theorem dl_fldF {G : Hp} {p : Addr} (hi : δ[i]? = some (.fix G (.bob a C fd))) (hc : Cls K C) (hn : NoAttr K C f) (hf : fd.lookup f = some (.l p ds)) : DL K (tFld K (tVar i) f) δ ds := fun H0 H σ S Q q => by
  obtain ⟨v, h1, _, g, e, dx, fv, h2, h3⟩ := S.ok i _ hi (by intro z; cases z)
  subst e
  obtain ⟨w, k1, rfl, vs, k2, k3⟩ := h3.get hf
  exact ⟨_, h1, a, C, dx, fv, _, rfl, g _ _ h2, hc, hn, k1, q p vs H (Gr.rfl' H) (SqL.of (g _ _ k2)) k3⟩
/-- C(e, .., k = v, ..), the rest by default -/
theorem di_makeKD (ha : DAd K ta δ ds) (hk : DAd K tk δ es) (h1 : ds.length = n) (h2 : es.length = m) (hd : ∀ H, TpA K H dvs dds) (hR : RM [] (ds ++ es ++ dds) .none fs) : DI K (tMakeK C n m (spM K C RM) (fun vs zs => vs ++ zs ++ dvs) E ta tk) δ C fs := fun B H σ S Q q => ha B H σ S _ fun us L gr hu => hk B L σ (S.mono gr) _ fun zs M g2 hz =>
  ⟨hu.length.trans h1, hz.length.trans h2, made hR (((hu.mono g2.tm).app hz).app (hd M)) fun J o e1 e2 g nz nd at' => q J o e1 e2 (gr.tr (g2.tr g)) (fun b m => gr.free (g2.free (nz b m))) nd at'⟩
/-! arguments of which the first is a new instance -/
def DAn (K : PySem.W.Frag) (F : Hp) (ta : TA) (δ : List SD) (os : List Ob) (RA : List SD → List Ob → Prop) : Prop := ∀ (B H : Hp) (σ : L2.St), Gr F B → Obs K F B H os → Sd K B H σ δ → ∀ Q : List V → Hp → Prop,
  (∀ vs ss os' B' J, RA ss os' → Gr F B' → Obs K F B' J os' → Sd K B' J σ δ → VB K F J vs ss → Q vs J) → ta σ H Q
theorem dan_of (e : See os δ δ2) (h : DAg K F ta δ2 ss) : DAn K F ta δ os (fun s os' => s = ss ∧ os' = os) := fun B H σ g O S Q q => h B H σ g (S.see O e) _ fun vs J gr hv => q vs _ _ B J ⟨rfl, rfl⟩ g (O.up gr.tm) (S.mono gr) hv
theorem dan_r {RR : SD → List Ob → Prop} (h : DBr K F te δ os RR) (t : ∀ r os', RR r os' → ∃ δ2 ss q, r = .raw (.ref q) ∧ See os' δ δ2 ∧ DAg K F ta δ2 ss ∧ RA (.raw (.ref q) :: ss) os') : DAn K F (tCons te ta) δ os RA := fun B H σ g O S Q q => h B H σ g O S _ fun v r os' B' J rr g' O' S' ho hv => by
  obtain ⟨δ2, ss, p, rfl, e, ht, ra⟩ := t r os' rr
  exact ht B' J σ g' (S'.see O' e) _ fun vs L gr hvs => q _ _ _ B' L ra g' (O'.up gr.tm) (S'.mono gr) (.cons rfl hv hvs)
theorem Obs.perm {os2 : List Ob} (O : Obs K F B H os) (p : os.Perm os2) : Obs K F B H os2 := ⟨fun o m => O.at_ o (p.mem_iff.mpr m), fun o m => O.out o (p.mem_iff.mpr m), (List.Perm.flatMap_right Ob.Z p).nodup_iff.mp O.nod⟩
theorem wb_perm {os2 : List Ob} {t : TS} (p : os.Perm os2) (h : WB K F t δ os2 P) : WB K F t δ os P := fun B H σ D g O S hP => h B H σ D g (O.perm p) S hP
/-- p.m(..) with such arguments -/
theorem dbr_methN {o : Ob} {RA : List SD → List Ob → Prop} {RQ : SD → List Ob → Prop} {mm : Str} (ho : o ∈ os) (e : See os δ δ2) (hr : DRf te K δ2 o.a) (hC : o.C = C) (hm : o.fs.lookup mm = none) (ha : DAn K F ta δ os RA)
    (hk : ∀ ss os', RA ss os' → ∃ sel rest post, os'.Perm (sel ++ rest) ∧ R (sel.map Ob.sh) (.raw (.ref o.a) :: ss) post ∧ ∀ r sel', post r (sel'.map Ob.sh) → RQ r (sel' ++ rest)) (hp : PinL F δ) :
    DBr K F (tMeth C mm (spG K R) [] E te ta) δ os RQ := fun B H σ g O S Q q => hr B H σ (S.see O e) _ (by
  obtain ⟨dx, fv, k1, k2⟩ := O.at_ o ho
  refine ⟨o.a, dx, fv, rfl, by rw [← hC]; exact S.gr _ _ k1, fsA_no (fv := fv) k2 hm, ha B H σ g O S _ fun vs ss os' B' L ra g' O' S' hv => ?_⟩
  obtain ⟨sel, rest, post, pm, hR, hq⟩ := hk ss os' ra
  rw [List.append_nil]
  refine call_core (O'.perm pm) g' S' hp (VB.cons (v := .ref o.a) (s := .raw (.ref o.a)) rfl (show VS K F L (.ref o.a) (.raw (.ref o.a)) from rfl) hv) hR fun v r os2 B2 J h2 g2 O2 S2 ho hv2 => ?_
  obtain ⟨sel', rfl, hpost⟩ := h2
  exact q v r _ B2 J (hq r sel' hpost) g2 O2 S2 ho hv2)
end
/-! min and max of a list -/
theorem c_minL {X : Cx} (K : PySem.W.Frag) (e : X.K = K) (hc : X.calm = true) : CallR X (.builtin "min") (rMin K) := e ▸ cr_min hc
theorem c_maxL {X : Cx} (K : PySem.W.Frag) (e : X.K = K) (hc : X.calm = true) : CallR X (.builtin "max") (rMax K) := e ▸ cr_max hc
section
variable {K : PySem.W.Frag} {δ : List SD} {te : TE} {ns : List Int} {m : Int}
theorem de_minL (h : DL K te δ (ns.map .int)) (hm : m ∈ ns) (hl : ∀ y ∈ ns, m ≤ y) : DE K (tCB (rMin K) (tCons te tNil)) δ (.int m) := fun H0 H σ S Q q => h H0 H σ S _ fun a vs J g hs hv =>
  ⟨a, ns, rfl, by rw [hv.ints_of] at hs; exact hs, List.length_pos_of_mem hm, fun m' h1 h2 => by
    have e : m' = m := Int.le_antisymm (h2 m hm) (hl m' h1)
    subst e
    exact q _ J g (.int _)⟩
theorem de_maxL (h : DL K te δ (ns.map .int)) (hm : m ∈ ns) (hl : ∀ y ∈ ns, y ≤ m) : DE K (tCB (rMax K) (tCons te tNil)) δ (.int m) := fun H0 H σ S Q q => h H0 H σ S _ fun a vs J g hs hv =>
  ⟨a, ns, rfl, by rw [hv.ints_of] at hs; exact hs, List.length_pos_of_mem hm, fun m' h1 h2 => by
    have e : m' = m := Int.le_antisymm (hl m' h1) (h2 m hm)
    subst e
    exact q _ J g (.int _)⟩
end
section
variable {K : PySem.W.Frag} {δ : List SD} {t : TS} {g : TG} {P : Out → Prop} {a C p : Addr} {fs : List (Str × FD)} {ds : List PyData} {f : Str} {ta tb : TE} {tt : TT}
/-- over a list at an attribute of an instance that was handed in -/
theorem tw_forB {j : Nat} (W : Nat → List SD → Prop) (h : δ[j]? = some (.bob a C fs)) (hc : Cls K C) (hn : NoAttr K C f) (hf : fs.lookup f = some (.l p ds)) (h0 : ∃ δ', W 0 δ' ∧ Less δ' δ)
    (hs : ∀ (k : Nat) d δ', ds[k]? = some d → W k δ' → ∃ δ2, GTd K g d δ' δ2 ∧ WP K t δ2 (loopP W k P)) (hd : ∀ δ', W ds.length δ' → P (.nx δ')) : WP K (tFor (iSeqX K (tFld K (tVar j) f)) g t) δ P := fun H0 H σ D S hP => by
  obtain ⟨v, h1, e, dx, fv, h2, h3⟩ := S.ok j _ h (by intro z; cases z)
  subst e
  obtain ⟨w, k1, rfl, xs, hq, hx⟩ := h3.get hf
  refine .inl ⟨_, h1, a, C, dx, fv, _, rfl, S.gr _ _ h2, hc, hn, k1, ?_⟩
  obtain ⟨δ0, w0, l0⟩ := h0
  have hl := hx.length
  refine ⟨p, rfl, ⟨xs, SqL.of (S.gr _ _ hq)⟩, for_list (K := K) (a := p) (xs := xs) (fun k σ L => ∃ δ', W k δ' ∧ Sd K H0 L σ δ' ∧ TpA K L xs ds) ⟨δ0, w0, S.less l0, hx⟩ (fun k σ L _ ⟨_, _, S', _⟩ => SqL.of (S'.gr _ _ hq)) (fun k x σ L hk ⟨δ', w, S', hx'⟩ => ?_) (fun σ L ⟨δ', w, S', hx'⟩ => hP _ (hd δ' (by rw [← hl]; exact w)) σ L S')⟩
  obtain ⟨d, hd1, hd2⟩ := hx'.getV hk
  obtain ⟨δ2, hg, hw⟩ := hs k d δ' hd1 w
  refine hg H0 L σ x _ S' hd2 fun σ' S2 => ?_
  refine hw.tm S2 fun o p => ?_
  cases o with
  | nx δ => obtain ⟨δ3, w3, l3⟩ := p; exact fun σ J tm S' => ⟨δ3, w3, S'.less l3, hx'.mono tm⟩
  | ct δ => obtain ⟨δ3, w3, l3⟩ := p; exact fun σ J tm S' => ⟨δ3, w3, S'.less l3, hx'.mono tm⟩
  | bk δ => exact fun σ J tm S' => hP (.nx δ) p σ J S'
  | rt r => exact fun v J tm g hv => hP (.rt r) p v J g hv
  | ex δ Φ => exact fun σ J tm S' => hP (.ex δ Φ) p σ J S'
theorem dn_if {b : Bool} (h : DT K tt δ b) (h1 : b = true → DN K ta δ ds) (h2 : b = false → DN K tb δ ds) : DN K (tIf tt ta tb) δ ds := fun H0 H σ S Q q => h H0 H σ S _ fun J g => by
  cases b with
  | true => exact iteT (h1 rfl H0 J σ (S.mono g) _ fun p vs L g2 hp k1 k2 => q p vs L (g.tr g2) (g.free hp) k1 k2)
  | false => exact iteF (h2 rfl H0 J σ (S.mono g) _ fun p vs L g2 hp k1 k2 => q p vs L (g.tr g2) (g.free hp) k1 k2)
theorem sh_cons {os : List Ob} {a C : Addr} {vs : List (Str × FA)} {l : List Sh} (h : os.map Ob.sh = (a, C, vs) :: l) : ∃ fs os', os = ⟨a, C, fs⟩ :: os' ∧ fs.map (fun p => (p.1, p.2.val)) = vs ∧ os'.map Ob.sh = l := by
  cases os with
  | nil => cases h
  | cons o os =>
    obtain ⟨b, D, fs⟩ := o
    rw [List.map_cons] at h
    injection h with h1 h2
    have e1 : b = a := congrArg Prod.fst h1
    have e2 : D = C := congrArg (fun z : Sh => z.2.1) h1
    have e3 : fs.map (fun p => (p.1, p.2.val)) = vs := congrArg (fun z : Sh => z.2.2) h1
    subst e1 e2
    exact ⟨fs, os, rfl, e3, h2⟩
theorem sh_nil {os : List Ob} (h : os.map Ob.sh = []) : os = [] := List.map_eq_nil_iff.mp h
end
end Tn

namespace Tw
open PySem L2 Tn PySem.Spec PyProof.Rows
local macro_rules | `(tactic| walk_at "side") => `(tactic| first | decide | omega | (unfold CDiv; omega) | (unfold CMul; omega) | (unfold CPow; omega) | (simp only [List.length_cons, List.length_nil]; omega) | exact Nat.le_of_ble_eq_true rfl | rfl)
local macro_rules | `(tactic| walk_at "kb") => `(tactic| first | exact kb_ii | exact kb_ib | exact kb_bb | exact kb_bi | exact kb_tt | exact kb_it | exact kb_bt | exact kb_st | exact kb_nt | exact kb_is | exact kb_ss | exact kb_sb | exact kb_ll | exact kb_tl | exact kb_lt)
local macro_rules | `(tactic| walk_at "atc") => `(tactic| first | exact at_c0 | exact at_c1 | exact at_c2 | exact at_c3 | exact at_c4 | exact at_c5 | exact at_c6)
local macro_rules | `(tactic| walk_at "ev") => `(tactic| first
  | (with_reducible assumption)
  | exact de_var rfl
  | exact de_int
  | exact de_bl
  | exact de_str
  | exact de_non
  | ((with_reducible apply de_int1); walk_at "ev")
  | ((with_reducible apply de_add); (walk_at "ev"); (walk_at "ev"))
  | ((with_reducible apply de_sub); (walk_at "ev"); (walk_at "ev"))
  | ((with_reducible apply de_mul); (walk_at "ev"); (walk_at "ev"); walk_at "side")
  | ((with_reducible apply de_div); (walk_at "ev"); (walk_at "ev"); walk_at "side")
  | ((with_reducible apply de_mod); (walk_at "ev"); (walk_at "ev"); walk_at "side")
  | ((with_reducible apply de_pow); (walk_at "ev"); (walk_at "ev"); walk_at "side")
  | ((with_reducible apply de_lt); (walk_at "ev"); (walk_at "ev"))
  | ((with_reducible apply de_le); (walk_at "ev"); (walk_at "ev"))
  | ((with_reducible apply de_gt); (walk_at "ev"); (walk_at "ev"))
  | ((with_reducible apply de_ge); (walk_at "ev"); (walk_at "ev"))
  | ((with_reducible apply de_eqI); (walk_at "ev"); (walk_at "ev"))
  | ((with_reducible apply de_neI); (walk_at "ev"); (walk_at "ev"))
  | ((with_reducible apply de_eqB); (walk_at "ev"); (walk_at "ev"))
  | ((with_reducible apply de_neB); (walk_at "ev"); (walk_at "ev"))
  | ((with_reducible apply de_eqS); (walk_at "ev"); (walk_at "ev"))
  | ((with_reducible apply de_neS); (walk_at "ev"); (walk_at "ev"))
  | ((with_reducible apply de_isN); walk_at "ev")
  | ((with_reducible apply de_isntN); walk_at "ev")
  | ((with_reducible apply de_isB); (walk_at "ev"); (walk_at "ev"))
  | ((with_reducible apply de_isntB); (walk_at "ev"); (walk_at "ev"))
  | ((with_reducible apply de_neg); walk_at "ev")
  | ((with_reducible apply de_not); walk_at "ev")
  | ((with_reducible apply de_and); (walk_at "ev"); (intro _; walk_at "ev"))
  | ((with_reducible apply de_or); (walk_at "ev"); (intro _; walk_at "ev"))
  | ((with_reducible apply de_lenT); walk_at "ev")
  | ((with_reducible apply de_lenL); walk_at "ev")
  | ((with_reducible apply de_isi); (walk_at "ev"); walk_at "kb")
  | ((with_reducible apply de_isiL); (walk_at "ev"); walk_at "kb")
  | ((with_reducible apply de_ixT); (walk_at "ev"); (walk_at "ev"); (first | walk_at "atc" | assumption | rfl))
  | ((with_reducible apply de_ixL); (walk_at "ev"); (walk_at "ev"); (first | walk_at "atc" | assumption | exact at_ds rfl (by omega) (by simp only [List.length_cons, List.length_nil]; omega) | rfl))
  | ((with_reducible apply de_max); (walk_at "ev"); (walk_at "ev"))
  | ((with_reducible apply de_min); (walk_at "ev"); (walk_at "ev"))
  | ((with_reducible apply de_tup); (walk_at "ev"); walk_at "side")
  | ((with_reducible apply de_tupleL); walk_at "ev")
  | ((with_reducible apply de_tupleT); walk_at "ev")
  | ((with_reducible apply de_slT); (walk_at "ev"); (walk_at "ev"); (walk_at "ev"))
  | ((with_reducible apply de_call); (walk_at "ev"); walk_at "rel")
  | ((with_reducible apply de_din); (walk_at "ev"); (walk_at "ev"))
  | ((with_reducible apply de_dget); (walk_at "ev"); (walk_at "ev"); (first | assumption | rfl))
  | ((with_reducible apply de_sum); (walk_at "ev"))
  | exact dn_itemsI rfl
  | exact dm_newI
  | exact dn_items rfl
  | exact dd_nil
  | ((with_reducible apply dd_cons); (walk_at "ev"); (walk_at "ev"))
  | exact da_nil
  | ((with_reducible apply da_d); (walk_at "ev"); (walk_at "ev"))
  | ((with_reducible apply da_l); (walk_at "ev"); (walk_at "ev"))
  | ((with_reducible apply da_k); (walk_at "ev"); (walk_at "ev"))
  | exact dl_bor rfl
  | exact dl_own rfl
  | exact dk_bor rfl
  | exact dk_own rfl
  | exact do_none
  | ((with_reducible apply do_some); walk_at "ev")
  | ((with_reducible apply dt_test); walk_at "ev")
  | ((with_reducible apply dt_B); walk_at "ev")
  | ((with_reducible apply dt_not); walk_at "ev")
  | ((with_reducible apply dt_and); (walk_at "ev"); (intro _; walk_at "ev"))
  | ((with_reducible apply dt_or); (walk_at "ev"); (intro _; walk_at "ev"))
  | ((with_reducible apply dn_lst); (walk_at "ev"); walk_at "side")
  | ((with_reducible apply dn_listT); walk_at "ev")
  | ((with_reducible apply dn_listL); walk_at "ev")
  | ((with_reducible apply dn_sl); (walk_at "ev"); (walk_at "ev"); (walk_at "ev"))
  | ((with_reducible apply dn_call); (walk_at "ev"); walk_at "rel")
  | ((with_reducible apply dm_call); (walk_at "ev"); walk_at "rel")
  | ((with_reducible apply de_catT); (walk_at "ev"); (walk_at "ev"); walk_at "side")
  | ((with_reducible apply DM.dk); (walk_at "ev"))
  | ((with_reducible apply dn_rev); (walk_at "ev"))
  | ((with_reducible apply DN.dl); walk_at "ev"))
local macro_rules | `(tactic| walk_at "gn") => `(tactic| first | exact GN.nil | (apply GN.cons; walk_at "gn"))
local macro_rules | `(tactic| walk_at "gt") => `(tactic| first | exact g_name | (apply g_tup; (walk_at "gn"); rfl; rfl))
local macro_rules | `(tactic| walk_at "wp0") => `(tactic| first
  | ((with_reducible apply then_nx))
  | ((with_reducible apply then_rt))
  | ((with_reducible apply loop_nx))
  | ((with_reducible apply loop_rt))
  | ((with_reducible apply then_ct))
  | ((with_reducible apply then_bk))
  | ((with_reducible apply tw_next))
  | ((with_reducible apply tw_cont))
  | ((with_reducible apply tw_break))
  | ((with_reducible apply tw_asg); (walk_at "ev"); dsimp only [List.set])
  | ((with_reducible apply tw_asgN); (walk_at "ev"); dsimp only [List.set])
  | ((with_reducible apply tw_asgM); (walk_at "ev"); dsimp only [List.set])
  | ((with_reducible apply tw_app); rfl; (walk_at "ev"); (first | assumption | walk_at "side"); dsimp only [List.set])
  | ((with_reducible apply tw_drop); (walk_at "ev"))
  | ((with_reducible apply tw_setI); rfl; (walk_at "ev"); (walk_at "ev"); rfl; dsimp only [List.set])
  | ((with_reducible apply tw_dputI); rfl; (walk_at "ev"); (walk_at "ev"); (first | assumption | walk_at "side"); dsimp only [List.set])
  | ((with_reducible apply tw_par); (walk_at "ev"); (walk_at "ev"); dsimp only [List.set])
  | ((with_reducible apply tw_aug); rfl; (walk_at "ev"); dsimp only [List.set])
  | ((with_reducible apply tw_asgG); (walk_at "ev"); (walk_at "gt"); dsimp only [List.set, setsD])
  | ((with_reducible apply tw_retO); rfl; skip)
  | ((with_reducible apply tw_retOD); rfl; skip)
  | ((with_reducible apply tw_ret); (walk_at "ev"); skip)
  | ((with_reducible apply tw_retN); (walk_at "ev"); skip)
  | ((with_reducible apply tw_retM); (walk_at "ev"); skip))
local macro_rules | `(tactic| walk_at "wp1") => `(tactic| first | (with_reducible apply tw_seq) | walk_at "wp0")
local macro_rules | `(tactic| walk_at "wpf1") => `(tactic| first | (with_reducible apply tw_seqA) | (with_reducible apply tw_seqR) | (with_reducible apply tw_seqD) | (with_reducible apply tw_seqI) | (with_reducible apply tw_seqG) | (with_reducible apply tw_seqP) | (with_reducible apply tw_seqU) | (with_reducible apply tw_seqN) | walk_at "wp0")
local macro_rules | `(tactic| walk_at "wpf") => `(tactic| repeat (walk_at "wpf1"))
local macro_rules | `(tactic| walk_at "wp") => `(tactic| repeat (walk_at "wp1"))
local macro_rules | `(tactic| walk_at "if") => `(tactic| ((with_reducible apply tw_if); (walk_at "ev")))
local macro_rules | `(tactic| walk_at "less") => `(tactic| first | exact Less.nil | (apply Less.emp; walk_at "less") | (apply Less.same; walk_at "less") | (apply less_eq; rotate_left; walk_at "less"; skip))
local macro_rules | `(tactic| walk_at "len") => `(tactic| first | (intro ss r h; obtain ⟨h1, _⟩ := h; exact congrArg List.length h1) | (intro ss r h; obtain ⟨_, h1, _⟩ := h; exact congrArg List.length h1) | (intro ss r h; obtain ⟨_, _, h1, _⟩ := h; exact congrArg List.length h1) | (intro ss r h; obtain ⟨_, _, _, h1, _⟩ := h; exact congrArg List.length h1) | (intro ss r h; obtain ⟨_, _, _, _, h1, _⟩ := h; exact congrArg List.length h1) | (intro ss r h; obtain ⟨_, _, _, _, _, h1, _⟩ := h; exact congrArg List.length h1) | (intro ss r h; obtain ⟨_, _, _, _, _, _, h1, _⟩ := h; exact congrArg List.length h1) | (intro ss r h; obtain ⟨_, _, _, _, _, _, _, h1, _⟩ := h; exact congrArg List.length h1) | (intro ss r h; obtain ⟨_, _, _, _, _, _, _, _, h1, _⟩ := h; exact congrArg List.length h1) | (intro ss r h; obtain ⟨_, _, _, _, _, _, _, _, _, h1, _⟩ := h; exact congrArg List.length h1) | (intro ss r h; obtain ⟨_, _, _, _, _, _, _, _, _, _, h1, _⟩ := h; exact congrArg List.length h1) | (intro ss r h; obtain ⟨_, _, _, _, _, _, _, _, _, _, _, h1, _⟩ := h; exact congrArg List.length h1) | (intro ss r h; obtain ⟨_, _, _, _, _, _, _, _, _, _, _, _, h1, _⟩ := h; exact congrArg List.length h1) | (intro ss r h; obtain ⟨_, _, _, _, _, _, _, _, _, _, _, _, _, h1, _⟩ := h; exact congrArg List.length h1) | (intro ss r h; obtain ⟨_, _, _, _, _, _, _, _, _, _, _, _, _, _, h1, _⟩ := h; exact congrArg List.length h1) | (intro ss r h; obtain ⟨_, _, _, _, _, _, _, _, _, _, _, _, _, _, _, h1, _⟩ := h; exact congrArg List.length h1) | (intro ss r h; obtain ⟨_, _, _, _, _, _, _, _, _, _, _, _, _, _, _, _, h1, _⟩ := h; exact congrArg List.length h1) | (intro ss r h; obtain ⟨_, _, _, _, _, _, _, _, _, _, _, _, _, _, _, _, _, h1, _⟩ := h; exact congrArg List.length h1) | (intro ss r h; obtain ⟨_, _, _, _, _, _, _, _, _, _, _, _, _, _, _, _, _, _, h1, _⟩ := h; exact congrArg List.length h1) | (intro ss r h; obtain ⟨_, _, _, _, _, _, _, _, _, _, _, _, _, _, _, _, _, _, _, h1, _⟩ := h; exact congrArg List.length h1))
local macro_rules | `(tactic| walk_at "fact") => `(tactic| first | assumption | exact num_nonneg _ _ | omega | exact ⟨rfl, Nat.le_of_ble_eq_true rfl⟩)
local macro_rules | `(tactic| walk_at "rel2") => `(tactic| first | exact rfl | (apply And.intro; (walk_at "fact"); walk_at "rel2"))
local macro_rules | `(tactic| walk_at "rel") => `(tactic| ((repeat apply Exists.intro); (apply And.intro); (first | exact rfl | exact Or.inl rfl | exact Or.inr rfl); walk_at "rel2"))
local macro_rules | `(tactic| walk_at "ifF") => `(tactic| ((with_reducible apply tw_if); (walk_at "ev"); (intro h; cases (show false = true from h)); intro _))
local macro_rules | `(tactic| walk_at "ifT") => `(tactic| ((with_reducible apply tw_if); (walk_at "ev"); rotate_left; (intro h; cases (show true = false from h)); intro _))

local macro_rules | `(tactic| walk_at "ev") => `(tactic| first
  | ((with_reducible apply de_fld); rfl; assumption; assumption; rfl)
  | ((with_reducible apply dl_fld); rfl; assumption; assumption; rfl)
  | ((with_reducible apply de_fldF); rfl; assumption; assumption; rfl)
  | ((with_reducible apply de_chLe); (walk_at "ev"); (walk_at "ev"); (walk_at "ev"))
  | ((with_reducible apply de_methR); rfl; rfl; (walk_at "ev"); walk_at "rel")
  | ((with_reducible apply de_callN); (walk_at "ev"); (walk_at "ev"); rfl; rfl; walk_at "rel")
  | ((with_reducible apply dt_truL); walk_at "ev")
  | ((with_reducible apply dt_truB); walk_at "ev")
  | ((with_reducible apply dt_truT); walk_at "ev")
  | ((with_reducible apply da_o); rfl; walk_at "ev")
  | ((with_reducible apply da_of); rfl; walk_at "ev")
  | exact de_isOwn rfl
  | exact dl_fix rfl
  | exact dk_fix rfl
  | (with_reducible assumption))
local macro_rules | `(tactic| walk_at "mem") => `(tactic| first | exact List.mem_cons_self | (apply List.mem_cons_of_mem; walk_at "mem"))
local macro_rules | `(tactic| walk_at "see") => `(tactic| first | exact See.nil | ((with_reducible apply See.obx); (walk_at "mem"); walk_at "see") | (apply See.same; walk_at "see"))
local macro_rules | `(tactic| walk_at "pin") => `(tactic| first | exact PinL.nil | (apply PinL.cons; (first | exact True.intro | exact Gr.rfl' _ | assumption); walk_at "pin"))
local macro_rules | `(tactic| walk_at "wb0") => `(tactic| first
  | (with_reducible apply thenB_nx)
  | (with_reducible apply thenB_rt)
  | (with_reducible apply thenB_bk)
  | (with_reducible apply thenB_ct)
  | ((with_reducible apply wb_fldK (k := 0)); rfl; rfl; assumption; assumption; (walk_at "see"); (walk_at "ev"); (walk_at "side"); (walk_at "pin"); dsimp only [List.set])
  | ((with_reducible apply wb_augI (k := 0)); rfl; rfl; assumption; assumption; (walk_at "see"); rfl; (walk_at "ev"); (walk_at "side"); (walk_at "pin"); dsimp only [List.set])
  | ((with_reducible apply wb_appK (k := 0)); rfl; rfl; assumption; assumption; (walk_at "see"); rfl; (walk_at "ev"); (first | assumption | walk_at "side"); (walk_at "pin"); dsimp only [List.set])
  | ((with_reducible apply wb_delK (k := 0)); rfl; rfl; assumption; assumption; (walk_at "see"); rfl; (walk_at "ev"); (assumption); (assumption); (walk_at "pin"); dsimp only [List.set])
  | ((with_reducible apply wb_fldL (k := 0)); rfl; rfl; assumption; assumption; (walk_at "see"); (walk_at "ev"); (walk_at "side"); (walk_at "pin"); dsimp only [List.set]; intro _)
  | ((with_reducible apply wb_fld2 (k := 0)); rfl; rfl; assumption; assumption; assumption; (walk_at "see"); (walk_at "ev"); (walk_at "side"); (walk_at "pin"); dsimp only [List.set])
  | ((with_reducible apply wb_next))
  | ((with_reducible apply wb_of); (walk_at "see"); (walk_at "wp0"); (first | (with_reducible apply lift_nx) | (with_reducible apply lift_rt) | (with_reducible apply lift_bk) | (with_reducible apply lift_ct)); (try dsimp only [hide, hideS, List.map])))
local macro_rules | `(tactic| walk_at "wb1") => `(tactic| first | (with_reducible apply wb_seq) | walk_at "wb0")
local macro_rules | `(tactic| walk_at "wb") => `(tactic| repeat (walk_at "wb1"))
local macro_rules | `(tactic| walk_at "bif") => `(tactic| ((with_reducible apply wb_if); (walk_at "see"); (walk_at "ev")))
local macro_rules | `(tactic| walk_at "bifF") => `(tactic| ((with_reducible apply wb_if); (walk_at "see"); (walk_at "ev"); (intro h; cases (show false = true from h)); intro _))
local macro_rules | `(tactic| walk_at "bifT") => `(tactic| ((with_reducible apply wb_if); (walk_at "see"); (walk_at "ev"); rotate_left; (intro h; cases (show true = false from h)); intro _))
local macro_rules | `(tactic| walk_at "lenM") => `(tactic| first | (intro fs ds d fs' h; obtain ⟨_, h1, _⟩ := h; exact congrArg (fun l => List.length l + 1) h1) | (intro fs ds d fs' h; obtain ⟨_, _, h1, _⟩ := h; exact congrArg (fun l => List.length l + 1) h1) | (intro fs ds d fs' h; obtain ⟨_, _, _, h1, _⟩ := h; exact congrArg (fun l => List.length l + 1) h1) | (intro fs ds d fs' h; obtain ⟨_, _, _, _, h1, _⟩ := h; exact congrArg (fun l => List.length l + 1) h1) | (intro fs ds d fs' h; obtain ⟨_, _, _, _, _, h1, _⟩ := h; exact congrArg (fun l => List.length l + 1) h1) | (intro fs ds d fs' h; obtain ⟨_, _, _, _, _, _, h1, _⟩ := h; exact congrArg (fun l => List.length l + 1) h1) | (intro fs ds d fs' h; obtain ⟨_, _, _, _, _, _, _, h1, _⟩ := h; exact congrArg (fun l => List.length l + 1) h1))
local macro_rules | `(tactic| walk_at "out") => `(tactic| first | (intro ss r h; obtain ⟨_, e⟩ := h; rw [e]; rfl) | (intro ss r h; obtain ⟨_, _, e⟩ := h; rw [e]; rfl) | (intro ss r h; obtain ⟨_, _, _, e⟩ := h; rw [e]; rfl) | (intro ss r h; obtain ⟨_, _, _, _, e⟩ := h; rw [e]; rfl) | (intro ss r h; obtain ⟨_, _, _, _, _, e⟩ := h; rw [e]; rfl) | (intro ss r h; obtain ⟨_, _, _, _, _, _, e⟩ := h; rw [e]; rfl) | (intro ss r h; obtain ⟨_, _, _, _, _, _, _, e⟩ := h; rw [e]; rfl) | (intro ss r h; obtain ⟨_, _, _, _, _, _, _, _, e⟩ := h; rw [e]; rfl) | (intro ss r h; obtain ⟨_, _, _, _, _, _, _, _, _, e⟩ := h; rw [e]; rfl) | (intro ss r h; obtain ⟨_, _, _, _, _, _, _, _, _, _, e⟩ := h; rw [e]; rfl) | (intro ss r h; obtain ⟨_, _, _, _, _, _, _, _, _, _, _, e⟩ := h; rw [e]; rfl) | (intro ss r h; obtain ⟨_, _, _, _, _, _, _, _, _, _, _, _, e⟩ := h; rw [e]; rfl) | (intro ss r h; obtain ⟨_, _, _, _, _, _, _, _, _, _, _, _, _, e⟩ := h; rw [e]; rfl) | (intro ss r h; obtain ⟨_, _, _, _, _, _, _, _, _, _, _, _, _, _, e⟩ := h; rw [e]; rfl) | (intro ss r h; obtain ⟨_, _, _, _, _, _, _, _, _, _, _, _, _, _, _, e⟩ := h; rw [e]; rfl))
local macro_rules | `(tactic| walk_at "lay") => `(tactic| first | exact lay_int | exact lay_bool | exact lay_none | exact layA_nil | assumption | ((with_reducible apply layA_cons); (walk_at "lay"); walk_at "lay") | ((with_reducible apply lay_tup); walk_at "lay") | ((with_reducible apply lay_lst); walk_at "lay") | ((with_reducible apply layA_map); intro _; walk_at "lay"))
local macro_rules | `(tactic| walk_at "lenG") => `(tactic| first | (intro shs ss post h; obtain ⟨_, h1, _⟩ := h; exact congrArg List.length h1) | (intro shs ss post h; obtain ⟨_, _, h1, _⟩ := h; exact congrArg List.length h1) | (intro shs ss post h; obtain ⟨_, _, _, h1, _⟩ := h; exact congrArg List.length h1) | (intro shs ss post h; obtain ⟨_, _, _, _, h1, _⟩ := h; exact congrArg List.length h1) | (intro shs ss post h; obtain ⟨_, _, _, _, _, h1, _⟩ := h; exact congrArg List.length h1) | (intro shs ss post h; obtain ⟨_, _, _, _, _, _, h1, _⟩ := h; exact congrArg List.length h1) | (intro shs ss post h; obtain ⟨_, _, _, _, _, _, _, h1, _⟩ := h; exact congrArg List.length h1) | (intro shs ss post h; obtain ⟨_, _, _, _, _, _, _, _, h1, _⟩ := h; exact congrArg List.length h1) | (intro shs ss post h; obtain ⟨_, _, _, _, _, _, _, _, _, h1, _⟩ := h; exact congrArg List.length h1) | (intro shs ss post h; obtain ⟨_, _, _, _, _, _, _, _, _, _, h1, _⟩ := h; exact congrArg List.length h1) | (intro shs ss post h; obtain ⟨_, _, _, _, _, _, _, _, _, _, _, h1, _⟩ := h; exact congrArg List.length h1))
local macro_rules | `(tactic| walk_at "seeg") => `(tactic| first | exact See.nil | ((with_reducible apply See.gobx); walk_at "seeg") | (apply See.same; walk_at "seeg"))

local macro_rules | `(tactic| walk_at "ev") => `(tactic| first
  | ((with_reducible apply de_callS); (walk_at "ev"); walk_at "rel")
  | ((with_reducible apply dn_callS); (walk_at "ev"); walk_at "rel")
  | ((with_reducible apply de_isErr); rfl; assumption; (intro u h; exact h); assumption)
  | ((with_reducible apply de_eqL); (walk_at "ev"); (walk_at "ev"); assumption; assumption)
  | ((with_reducible apply de_neL); (walk_at "ev"); (walk_at "ev"); assumption; assumption))

def top (i : Nat) : Stmt := PySem.Challenge.pw_turnpike_k11_legs.main.body.getD i (.Pass ⟨0, 0, 0, 0⟩)
abbrev s__law_number : Stmt := (top 11)
abbrev N__law_number : List Str := ["script", "k", "cell", "first", "second"]
theorem sc__law_number : FnScope N__law_number ["script", "k"] (defScope s__law_number) := ⟨rfl, rfl, rfl, by decide +kernel, rfl, by decide +kernel, by decide +kernel⟩
abbrev s__law_amount : Stmt := (top 13)
abbrev N__law_amount : List Str := ["number"]
theorem sc__law_amount : FnScope N__law_amount ["number"] (defScope s__law_amount) := ⟨rfl, rfl, rfl, by decide +kernel, rfl, by decide +kernel, by decide +kernel⟩
abbrev s__law_tolls : Stmt := (top 19)
abbrev N__law_tolls : List Str := ["script", "k", "many", "tolls", "j", "number"]
theorem sc__law_tolls : FnScope N__law_tolls ["script", "k", "many"] (defScope s__law_tolls) := ⟨rfl, rfl, rfl, by decide +kernel, rfl, by decide +kernel, by decide +kernel⟩
abbrev s__law_height : Stmt := (top 14)
abbrev N__law_height : List Str := ["number"]
theorem sc__law_height : FnScope N__law_height ["number"] (defScope s__law_height) := ⟨rfl, rfl, rfl, by decide +kernel, rfl, by decide +kernel, by decide +kernel⟩
abbrev s__law_due : Stmt := (top 20)
abbrev N__law_due : List Str := ["amount", "deadline", "tolls", "rows", "k", "toll", "asked", "part"]
theorem sc__law_due : FnScope N__law_due ["amount", "deadline", "tolls"] (defScope s__law_due) := ⟨rfl, rfl, rfl, by decide +kernel, rfl, by decide +kernel, by decide +kernel⟩
abbrev s__law_same : Stmt := (top 18)
abbrev N__law_same : List Str := ["one", "two", "k"]
theorem sc__law_same : FnScope N__law_same ["one", "two"] (defScope s__law_same) := ⟨rfl, rfl, rfl, by decide +kernel, rfl, by decide +kernel, by decide +kernel⟩
abbrev s_must_come_in : Stmt := (top 7)
abbrev N_must_come_in : List Str := ["toll", "amount", "base", "per_mille", "_"]
theorem sc_must_come_in : FnScope N_must_come_in ["toll", "amount"] (defScope s_must_come_in) := ⟨rfl, rfl, rfl, by decide +kernel, rfl, by decide +kernel, by decide +kernel⟩
abbrev s_unbounded_legs : Stmt := (top 9)
abbrev N_unbounded_legs : List Str := ["amount", "deadline", "tolls", "found", "toll", "_", "gap"]
theorem sc_unbounded_legs : FnScope N_unbounded_legs ["amount", "deadline", "tolls"] (defScope s_unbounded_legs) := ⟨rfl, rfl, rfl, by decide +kernel, rfl, by decide +kernel, by decide +kernel⟩
abbrev s_legs : Stmt := (top 8)
abbrev N_legs : List Str := ["amount", "deadline", "tolls", "found", "each", "_"]
theorem sc_legs : FnScope N_legs ["amount", "deadline", "tolls"] (defScope s_legs) := ⟨rfl, rfl, rfl, by decide +kernel, rfl, by decide +kernel, by decide +kernel⟩
abbrev s_law : Stmt := (top 21)
abbrev N_law : List Str := ["script", "number", "many", "tolls", "amount", "deadline", "due", "given", "rows", "e"]
theorem sc_law : FnScope N_law ["script"] (defScope s_law) := ⟨rfl, rfl, rfl, by decide +kernel, rfl, by decide +kernel, by decide +kernel⟩
structure Txt (K : PySem.W.Frag) (mg : Str → Option Value) where
  a__law_number : Addr
  fd__law_number : FuncData
  F__law_number : Fun K "_law_number" "_law_number" s__law_number a__law_number fd__law_number
  b__law_number : Binds K fd__law_number ["script", "k"] []
  m__law_number : mg "_law_number" = some (.ref a__law_number)
  a__law_amount : Addr
  fd__law_amount : FuncData
  F__law_amount : Fun K "_law_amount" "_law_amount" s__law_amount a__law_amount fd__law_amount
  b__law_amount : Binds K fd__law_amount ["number"] []
  m__law_amount : mg "_law_amount" = some (.ref a__law_amount)
  a__law_tolls : Addr
  fd__law_tolls : FuncData
  F__law_tolls : Fun K "_law_tolls" "_law_tolls" s__law_tolls a__law_tolls fd__law_tolls
  b__law_tolls : Binds K fd__law_tolls ["script", "k", "many"] []
  m__law_tolls : mg "_law_tolls" = some (.ref a__law_tolls)
  a__law_height : Addr
  fd__law_height : FuncData
  F__law_height : Fun K "_law_height" "_law_height" s__law_height a__law_height fd__law_height
  b__law_height : Binds K fd__law_height ["number"] []
  m__law_height : mg "_law_height" = some (.ref a__law_height)
  a__law_due : Addr
  fd__law_due : FuncData
  F__law_due : Fun K "_law_due" "_law_due" s__law_due a__law_due fd__law_due
  b__law_due : Binds K fd__law_due ["amount", "deadline", "tolls"] []
  m__law_due : mg "_law_due" = some (.ref a__law_due)
  a__law_same : Addr
  fd__law_same : FuncData
  F__law_same : Fun K "_law_same" "_law_same" s__law_same a__law_same fd__law_same
  b__law_same : Binds K fd__law_same ["one", "two"] []
  m__law_same : mg "_law_same" = some (.ref a__law_same)
  a_must_come_in : Addr
  fd_must_come_in : FuncData
  F_must_come_in : Fun K "must_come_in" "must_come_in" s_must_come_in a_must_come_in fd_must_come_in
  b_must_come_in : Binds K fd_must_come_in ["toll", "amount"] []
  m_must_come_in : mg "must_come_in" = some (.ref a_must_come_in)
  a_unbounded_legs : Addr
  fd_unbounded_legs : FuncData
  F_unbounded_legs : Fun K "unbounded_legs" "unbounded_legs" s_unbounded_legs a_unbounded_legs fd_unbounded_legs
  b_unbounded_legs : Binds K fd_unbounded_legs ["amount", "deadline", "tolls"] []
  m_unbounded_legs : mg "unbounded_legs" = some (.ref a_unbounded_legs)
  a_legs : Addr
  fd_legs : FuncData
  F_legs : Fun K "legs" "legs" s_legs a_legs fd_legs
  b_legs : Binds K fd_legs ["amount", "deadline", "tolls"] []
  m_legs : mg "legs" = some (.ref a_legs)
  a_law : Addr
  fd_law : FuncData
  F_law : Fun K "law" "law" s_law a_law fd_law
  b_law : Binds K fd_law ["script"] []
  m_law : mg "law" = some (.ref a_law)
  t_GREATEST_AMOUNT : Tok
  m_GREATEST_AMOUNT : mg "GREATEST_AMOUNT" = some (.int 1000000000000000 t_GREATEST_AMOUNT)
  t_MOST_TOLLS : Tok
  m_MOST_TOLLS : mg "MOST_TOLLS" = some (.int 20 t_MOST_TOLLS)
  m_all : mg "all" = none
  m_bool : mg "bool" = none
  m_int : mg "int" = none
  m_isinstance : mg "isinstance" = none
  m_len : mg "len" = none
  m_list : mg "list" = none
  m_max : mg "max" = none
  m_range : mg "range" = none
  m_reversed : mg "reversed" = none
  m_str : mg "str" = none
  m_tuple : mg "tuple" = none
  a_OutOfBounds : Addr
  m_OutOfBounds : mg "OutOfBounds" = some (.ref a_OutOfBounds)
  e_OutOfBounds : ExK K a_OutOfBounds
  a_TooMuchMoney : Addr
  m_TooMuchMoney : mg "TooMuchMoney" = some (.ref a_TooMuchMoney)
  e_TooMuchMoney : ExK K a_TooMuchMoney
  a_TurnpikeError : Addr
  m_TurnpikeError : mg "TurnpikeError" = some (.ref a_TurnpikeError)
  e_TurnpikeError : ExK K a_TurnpikeError
  u_OutOfBounds_TooMuchMoney : PySem.W.subIn K (.ref a_OutOfBounds) (.ref a_TooMuchMoney) = some false
  u_OutOfBounds_TurnpikeError : PySem.W.subIn K (.ref a_OutOfBounds) (.ref a_TurnpikeError) = some true
  u_TooMuchMoney_OutOfBounds : PySem.W.subIn K (.ref a_TooMuchMoney) (.ref a_OutOfBounds) = some false
  u_TooMuchMoney_TurnpikeError : PySem.W.subIn K (.ref a_TooMuchMoney) (.ref a_TurnpikeError) = some true
  u_TurnpikeError_OutOfBounds : PySem.W.subIn K (.ref a_TurnpikeError) (.ref a_OutOfBounds) = some false
  u_TurnpikeError_TooMuchMoney : PySem.W.subIn K (.ref a_TurnpikeError) (.ref a_TooMuchMoney) = some false
def R__law_number := R_num
def R__law_amount := R1 fun s => .int (amt s)
def R__law_height := R1 fun s => .int (hgt s)
mutual
def imm : PyData → Bool
  | .list _ | .dict _ => false
  | .tuple ds => decide (ds.length ≤ 1000) && immA ds
  | .none | .bool _ | .int _ | .str _ => true
def immA : List PyData → Bool
  | [] => true
  | d :: ds => imm d && immA ds
end
theorem immA_get : ∀ {ds : List PyData} {i : Nat} {d : PyData}, immA ds = true → ds[i]? = some d → imm d = true
  | [], _, _, _, e => by simp at e
  | x :: ds, 0, d, h, e => by
    simp at e
    subst e
    have h' : (imm x && immA ds) = true := h
    rw [Bool.and_eq_true] at h'
    exact h'.1
  | x :: ds, i + 1, d, h, e => by
    have h' : (imm x && immA ds) = true := h
    rw [Bool.and_eq_true] at h'
    exact immA_get h'.2 (by simpa using e)
theorem depth_get : ∀ {ds : List PyData} {i : Nat} {d : PyData}, ds[i]? = some d → d.depth ≤ PyData.depthAll ds
  | [], _, _, e => by simp at e
  | x :: ds, 0, d, e => by
    simp at e
    subst e
    exact Nat.le_max_left _ _
  | x :: ds, i + 1, d, e => Nat.le_trans (depth_get (by simpa using e)) (Nat.le_max_right _ _)
theorem imm_locks : ∀ ls : List Lock, immA (ls.map Lock.d) = true
  | [] => rfl
  | _ :: ls => imm_locks ls
def R_same (k : Nat) : List SD → SD → Prop := fun ss r => ∃ d : PyData, ss = [.dat d, .dat d] ∧ (imm d = true ∧ d.depth ≤ k) ∧ r = .dat (.bool true)
def R__law_same := R_same 4
def mci (b p a : Int) : Int := a + b + (a * p + 999) / 1000
def R_must_come_in : List SD → SD → Prop := fun ss r => ∃ b p g a : Int, ss = [.dat (.tuple [.int b, .int p, .int g]), .dat (.int a)] ∧ (0 ≤ p ∧ p ≤ 1000000) ∧ r = .dat (.int (mci b p a))
def R_law := RSc
structure Tl where
  b : Int
  p : Int
  g : Int
def Tl.d (t : Tl) : PyData := .tuple [.int t.b, .int t.p, .int t.g]
def la (a : Int) : List Tl → Int
  | [] => a
  | t :: ts => mci t.b t.p (la a ts)
def ld (d : Int) : List Tl → Int
  | [] => d
  | t :: ts => ld d ts + t.g
def lgRow (a d : Int) (ts : List Tl) (k : Nat) : PyData := .tuple [.int (la a (ts.drop k)), .int (ld d (ts.drop k))]
def R_legs : List SD → SD → Prop := fun ss r => ∃ (a d : Int) (ts : List Tl), ss = [.dat (.int a), .dat (.int d), .bor (ts.map Tl.d)] ∧ (ts.length ≤ 20 ∧ (∀ k, la a (ts.drop k) ≤ 1000000000000000) ∧ ∀ t ∈ ts, 0 ≤ t.p ∧ t.p ≤ 1000000) ∧
  r = .own ((List.range (ts.length + 1)).map (lgRow a d ts))
def R_unbounded_legs : List SD → SD → Prop := fun ss r => ∃ (a d : Int) (ts : List Tl), ss = [.dat (.int a), .dat (.int d), .bor (ts.map Tl.d)] ∧ (ts.length ≤ 20 ∧ ∀ t ∈ ts, 0 ≤ t.p ∧ t.p ≤ 1000000) ∧
  r = .own ((List.range (ts.length + 1)).map (lgRow a d ts))
def RX_legs (C M : Addr) (ss : List SD) (c : Value) : Prop := ∃ (a d : Int) (ts : List Tl), ss = [.dat (.int a), .dat (.int d), .bor (ts.map Tl.d)] ∧ (∀ t ∈ ts, 0 ≤ t.p ∧ t.p ≤ 1000000) ∧
  ((20 < ts.length ∧ c = .ref C) ∨ (ts.length ≤ 20 ∧ (∃ k, 1000000000000000 < la a (ts.drop k)) ∧ c = .ref M))
theorem rev_range (f : Nat → PyData) (n : Nat) : ((List.range (n + 1)).map fun i => f (n - i)).reverse = (List.range (n + 1)).map f := by
  apply List.ext_getElem
  · simp
  · intro i h1 h2
    simp at h1 h2
    simp only [List.getElem_reverse, List.getElem_map, List.getElem_range, List.length_map, List.length_range]
    congr 1
    omega
theorem drop_back {ts : List Tl} {j : Nat} {t : Tl} (ht : ts[ts.length - 1 - j]? = some t) (hj : j < ts.length) : ts.drop (ts.length - (j + 1)) = t :: ts.drop (ts.length - j) := by
  have hlt : ts.length - 1 - j < ts.length := by omega
  rw [show ts.length - (j + 1) = ts.length - 1 - j by omega, List.drop_eq_getElem_cons hlt]
  rw [List.getElem?_eq_getElem hlt] at ht
  rw [Option.some.inj ht, show ts.length - 1 - j + 1 = ts.length - j by omega]
def tlAt (ns : List Int) (k : Int) (j : Nat) : Tl := ⟨amt (num ns (k + (j : Int)).toNat / 13), num ns (k + (j : Int)).toNat % 1300, num ns (k + (j : Int)).toNat / 1300 % 12⟩
def tlK (ns : List Int) (k : Int) (n : Nat) : List Tl := (List.range n).map (tlAt ns k)
def R__law_tolls : List SD → SD → Prop := fun ss r => ∃ (ns : List Int) (k n : Int), ss = [.bor (ns.map .int), .dat (.int k), .dat (.int n)] ∧ (0 ≤ k ∧ 0 ≤ n ∧ n ≤ 1000) ∧ r = .own ((tlK ns k n.toNat).map Tl.d)
def R__law_due : List SD → SD → Prop := fun ss r => ∃ (a d : Int) (ts : List Tl), ss = [.dat (.int a), .dat (.int d), .bor (ts.map Tl.d)] ∧ (ts.length ≤ 1000 ∧ ∀ t ∈ ts, 0 ≤ t.p ∧ t.p ≤ 1000000) ∧ r = .own ((List.range (ts.length + 1)).map (lgRow a d ts))
theorem due_step {a d : Int} {ts : List Tl} {j : Nat} (hj : j < ts.length) : (List.range (j + 1 + 1)).map (fun i => lgRow a d ts (ts.length - (j + 1) + i)) = lgRow a d ts (ts.length - (j + 1)) :: (List.range (j + 1)).map fun i => lgRow a d ts (ts.length - j + i) := by
  rw [List.range_succ_eq_map, List.map_cons, List.map_map]
  congr 1
  apply List.map_congr_left
  intro i _
  show lgRow a d ts (ts.length - (j + 1) + (i + 1)) = _
  congr 1
  omega
theorem at_range {f : Nat → PyData} {n k : Nat} (h : k < n) : atI ((List.range n).map f) (k : Int) = some (f k) := by
  refine atI_nat ?_
  rw [List.getElem?_map, List.getElem?_range h]
  rfl
def mny (c : Int) : Int := if c = 0 then 3 else if c = 1 then 0 else if c = 2 then 1 else if c = 3 then 20 else if c = 4 then 21 else if c = 5 then 22 else if c = 6 then 2 else 5
theorem mny_at (n : Int) : atI [PyData.int 3, .int 0, .int 1, .int 20, .int 21, .int 22, .int 2, .int 5] (n % 8) = some (.int (mny (n % 8))) := by
  rcases (show n % 8 = 0 ∨ n % 8 = 1 ∨ n % 8 = 2 ∨ n % 8 = 3 ∨ n % 8 = 4 ∨ n % 8 = 5 ∨ n % 8 = 6 ∨ n % 8 = 7 by omega) with e | e | e | e | e | e | e | e <;> rw [e] <;> rfl
theorem mny_bd (c : Int) : 0 ≤ mny c ∧ mny c ≤ 22 := by
  unfold mny
  repeat' split
  all_goals omega
theorem tlK_ok (ns : List Int) (k : Int) (n : Nat) : ∀ t ∈ tlK ns k n, 0 ≤ t.b ∧ 0 ≤ t.p ∧ t.p < 1300 := by
  intro t ht
  obtain ⟨j, _, rfl⟩ := List.mem_map.mp ht
  exact ⟨(amt_bd _).1, by simp only [tlAt]; omega, by simp only [tlAt]; omega⟩
theorem la_mono {a : Int} (ha : 0 ≤ a) {ts : List Tl} (h : ∀ t ∈ ts, 0 ≤ t.b ∧ 0 ≤ t.p) : ∀ k, la a (ts.drop k) ≤ la a ts := by
  have up : ∀ us : List Tl, (∀ t ∈ us, 0 ≤ t.b ∧ 0 ≤ t.p) → 0 ≤ la a us := by
    intro us
    induction us with
    | nil => exact fun _ => ha
    | cons t us ih =>
      intro hu
      have h1 := ih fun u m => hu u (List.mem_cons_of_mem _ m)
      have h2 := hu t List.mem_cons_self
      have h3 := Int.mul_nonneg h1 h2.2
      simp only [la, mci]
      omega
  induction ts with
  | nil => intro k; simp
  | cons t ts ih =>
    intro k
    cases k with
    | zero => exact Int.le_refl _
    | succ k =>
      have h1 := ih (fun u m => h u (List.mem_cons_of_mem _ m)) k
      have h2 := h t List.mem_cons_self
      have h3 := up ts fun u m => h u (List.mem_cons_of_mem _ m)
      have h4 := Int.mul_nonneg h3 h2.2
      simp only [List.drop_succ_cons, la, mci]
      omega
theorem rows_imm (a d : Int) (ts : List Tl) : ∀ l : List Nat, immA (l.map (lgRow a d ts)) = true ∧ PyData.depthAll (l.map (lgRow a d ts)) ≤ 1
  | [] => ⟨rfl, Nat.zero_le _⟩
  | k :: l => by
    have ih := rows_imm a d ts l
    refine ⟨?_, Nat.max_le.mpr ⟨?_, ih.2⟩⟩
    · show (imm (lgRow a d ts k) && immA (l.map (lgRow a d ts))) = true
      rw [ih.1]
      rfl
    · exact Nat.le_of_eq rfl
theorem max_of : ∀ l : List Int, l ≠ [] → ∃ m ∈ l, ∀ y ∈ l, y ≤ m
  | [], h => absurd rfl h
  | [x], _ => ⟨x, List.mem_singleton.mpr rfl, fun y hy => by rw [List.mem_singleton.mp hy]; exact Int.le_refl _⟩
  | x :: z :: l, _ => by
    obtain ⟨m, hm, hl⟩ := max_of (z :: l) (by simp)
    by_cases h : m ≤ x
    · exact ⟨x, List.mem_cons_self, fun y hy => by
        rcases List.mem_cons.mp hy with e | e
        · omega
        · have := hl y e
          omega⟩
    · exact ⟨m, List.mem_cons_of_mem _ hm, fun y hy => by
        rcases List.mem_cons.mp hy with e | e
        · omega
        · exact hl y e⟩
theorem max_rows (a d : Int) (ts : List Tl) : ∃ m ∈ (List.range (ts.length + 1)).map (fun k => la a (ts.drop k)), ∀ y ∈ (List.range (ts.length + 1)).map (fun k => la a (ts.drop k)), y ≤ m := max_of _ (by simp)
def fst' : PyData → PyData
  | .tuple [x, _] => x
  | d => d

section
variable {P : Program} {w : World} {K : PySem.W.Frag} {mg : Str → Option Value} {base : Heap}
theorem ok__law_number (T : Txt K mg) : FnOk P w K mg base CX0 1 T.a__law_number T.fd__law_number ["script", "k"] (spR K R__law_number) := by
  refine fn_R T.F__law_number sc__law_number (by walk_at "len") fun cdv A outer s H E hr => ⟨_, (pss_cons (ps_asg pe_int (pg_name (i := 2) sc__law_number.nd rfl (.inl rfl)))
    (pss_cons (ps_if (pt_cmpR o_lt (pv 1) (pe_callB (c_lenK K rfl) (by rfl) T.m_len b_len (pa_cons (pv 0) pa_nil)) (nomark _))
    (pss_cons (ps_asg (pe_ix (ix_K K rfl) (pv 0) (pv 1) (fun _ _ => rfl)) (pg_name (i := 2) sc__law_number.nd rfl (.inl rfl)))
    pss_nil)
    pss_nil)
    (pss_cons (ps_if (pt_cmpR o_lt (pv 2) pe_int (nomark _))
    (pss_cons (ps_asg (pe_op o_sub (pe_op o_sub pe_int (pe_op o_mul pe_int (pv 2))) pe_int) (pg_name (i := 2) sc__law_number.nd rfl (.inl rfl)))
    pss_nil)
    pss_nil)
    (pss_cons (ps_if (pt_cmpR o_ge (pv 2) (pe_op o_pow pe_int pe_int) (nomark _))
    (pss_cons (ps_ret (pv 2))
    pss_nil)
    pss_nil)
    (pss_cons (ps_asg (pe_op o_mod (pe_callTy c_int (by rfl) T.m_int b_int (pa_cons (pe_op (o_addK K rfl) (pe_op (o_addK K rfl) (pe_op o_mul (pv 2) pe_int) (pe_op o_mul (pv 1) pe_int)) pe_int) pa_nil)) pe_int) (pg_name (i := 3) sc__law_number.nd rfl (.inl rfl)))
    (pss_cons (ps_asg (pe_op o_mod (pe_callTy c_int (by rfl) T.m_int b_int (pa_cons (pe_op (o_addK K rfl) (pe_op (o_addK K rfl) (pe_op o_mul (pv 3) pe_int) (pe_op o_mul (pv 1) pe_int)) pe_int) pa_nil)) pe_int) (pg_name (i := 3) sc__law_number.nd rfl (.inl rfl)))
    (pss_cons (ps_asg (pe_op o_mod (pe_callTy c_int (by rfl) T.m_int b_int (pa_cons (pe_op (o_addK K rfl) (pe_op (o_addK K rfl) (pe_op o_mul (pv 3) pe_int) (pe_op o_mul (pv 1) pe_int)) (pv 2)) pa_nil)) pe_int) (pg_name (i := 4) sc__law_number.nd rfl (.inl rfl)))
    (pss_cons (ps_asg (pe_op o_mod (pe_callTy c_int (by rfl) T.m_int b_int (pa_cons (pe_op (o_addK K rfl) (pe_op o_mul (pv 4) pe_int) pe_int) pa_nil)) pe_int) (pg_name (i := 4) sc__law_number.nd rfl (.inl rfl)))
    (pss_cons (ps_ret (pe_op (o_addK K rfl) (pe_op o_mul (pv 3) pe_int) (pv 4)))
    pss_nil))))))))), fun ss r h => ?_⟩
  try simp only [cxK, cxK2]
  obtain ⟨ns, k, rfl, hk, rfl⟩ := h
  obtain ⟨k, rfl⟩ := Int.eq_ofNat_of_zero_le hk
  rw [Int.toNat_natCast]
  show WP K _ [.bor (ns.map .int), .dat (.int k), .emp, .emp, .emp] _
  walk_at "wp"
  walk_at "if" <;> intro h1 <;> simp only [decide_eq_true_eq, decide_eq_false_iff_not, List.length_map] at h1
  · have ha := at_ints (ns := ns) (k := k) (by omega)
    walk_at "wp"
    walk_at "if" <;> intro h2 <;> simp only [decide_eq_true_eq, decide_eq_false_iff_not] at h2
    all_goals walk_at "wp"
    all_goals walk_at "if" <;> intro h3 <;> simp only [decide_eq_true_eq, decide_eq_false_iff_not, p9] at h3
    all_goals walk_at "wp"
    all_goals apply fn_rt
    all_goals simp only [num, cell, mix1, mix2, h2, if_true, if_false, ge_iff_le]
    all_goals first | (rw [if_pos h3]) | (rw [if_neg h3])
  · walk_at "wp"
    have hg : ns.getD k 0 = 0 := by
      rw [List.getD_eq_getElem?_getD, List.getElem?_eq_none (by omega)]
      rfl
    walk_at "if" <;> intro h2 <;> simp only [decide_eq_true_eq, decide_eq_false_iff_not] at h2
    · exact absurd h2 (by decide)
    walk_at "wp"
    walk_at "if" <;> intro h3 <;> simp only [decide_eq_true_eq, decide_eq_false_iff_not, p9] at h3
    · exact absurd h3 (by decide)
    walk_at "wp"
    apply fn_rt
    simp only [num, cell, mix1, mix2, hg, h2, if_false, ge_iff_le]
    rw [if_neg h3]
theorem ok__law_amount (T : Txt K mg) : FnOk P w K mg base CX0 1 T.a__law_amount T.fd__law_amount ["number"] (spR K R__law_amount) := by
  refine fn_R T.F__law_amount sc__law_amount (by walk_at "len") fun cdv A outer s H E hr => ⟨_, (pss_cons (ps_if (pt_cmpR (o_eqK K rfl (hu64 hr)) (pe_op o_mod (pe_callTy c_int (by rfl) T.m_int b_int (pa_cons (pv 0) pa_nil)) pe_int) pe_int (nomark _))
    (pss_cons (ps_ret (pe_op o_sub (pe_op o_pow pe_int pe_int) (pe_op o_mod (pe_op o_div (pe_callTy c_int (by rfl) T.m_int b_int (pa_cons (pv 0) pa_nil)) pe_int) pe_int)))
    pss_nil)
    pss_nil)
    (pss_cons (ps_ret (pe_op o_mod (pe_op o_div (pe_callTy c_int (by rfl) T.m_int b_int (pa_cons (pv 0) pa_nil)) pe_int) pe_int))
    pss_nil)), fun ss r h => ?_⟩
  try simp only [cxK, cxK2]
  obtain ⟨n, rfl, rfl⟩ := h
  show WP K _ [.dat (.int n)] _
  walk_at "wp"
  walk_at "if" <;> intro h1 <;> simp only [decide_eq_true_eq, decide_eq_false_iff_not] at h1
  all_goals walk_at "wp"
  all_goals apply fn_rt
  all_goals simp only [amt, h1, if_true, if_false, p15]
theorem ok__law_tolls (T : Txt K mg) : FnOk P w K mg base CX0 2 T.a__law_tolls T.fd__law_tolls ["script", "k", "many"] (spR K R__law_tolls) := by
  refine fn_R T.F__law_tolls sc__law_tolls (by walk_at "len") fun cdv A outer s H E hr => ⟨_, (pss_cons (ps_asg (pe_lst pa_nil) (pg_name (i := 3) sc__law_tolls.nd rfl (.inl rfl)))
    (pss_cons (ps_for PassesOwn.never rfl (pi_range1 (by rfl) T.m_range (pa_cons (pv 2) pa_nil)) (pg_name (i := 4) sc__law_tolls.nd rfl (.inl rfl))
    (pss_cons (ps_asg (pe_callTy c_int (by rfl) T.m_int b_int (pa_cons (pe_call (ok__law_number T) (hr.mono (by decide)) rfl T.m__law_number T.F__law_number.kp T.b__law_number .nil pass0 (pa_cons (pv 0) (pa_cons (pe_op (o_addK K rfl) (pv 1) (pv 4)) pa_nil))) pa_nil)) (pg_name (i := 5) sc__law_tolls.nd rfl (.inl rfl)))
    (pss_cons (ps_expr (pe_bm PySem.F.plainAttrs_list PySem.F.slot_list_append PySem.F.type_list_append mt_append (pv 3) (pa_cons (pe_tup (pa_cons (pe_call (ok__law_amount T) (hr.mono (by decide)) rfl T.m__law_amount T.F__law_amount.kp T.b__law_amount .nil pass0 (pa_cons (pe_op o_div (pe_callTy c_int (by rfl) T.m_int b_int (pa_cons (pv 5) pa_nil)) pe_int) pa_nil)) (pa_cons (pe_op o_mod (pe_callTy c_int (by rfl) T.m_int b_int (pa_cons (pv 5) pa_nil)) pe_int) (pa_cons (pe_op o_mod (pe_op o_div (pe_callTy c_int (by rfl) T.m_int b_int (pa_cons (pv 5) pa_nil)) pe_int) pe_int) pa_nil)))) pa_nil)))
    pss_nil)))
    (pss_cons (ps_ret (pv 3))
    pss_nil))), fun ss r h => ?_⟩
  try simp only [cxK, cxK2]
  obtain ⟨ns, k, n, rfl, ⟨hk0, hn0, hn⟩, rfl⟩ := h
  show WP K _ [.bor (ns.map .int), .dat (.int k), .dat (.int n), .emp, .emp, .emp] _
  walk_at "wp"
  refine tw_forR (n := n) (fun j δ' => δ' = [.bor (ns.map .int), .dat (.int k), .dat (.int n), .own ((tlK ns k j).map Tl.d), .emp, .emp]) (by walk_at "ev") (by omega) ⟨_, rfl, Less.rfl' _⟩ ?_ ?_ (by omega)
  · rintro j δ' hj rfl
    dsimp only [List.set]
    have hlen : ((tlK ns k j).map Tl.d).length < 100000 := by simp [tlK]; omega
    have hkj : 0 ≤ k + (j : Int) := by omega
    walk_at "wp"
    refine ⟨_, rfl, Less.same (Less.same (Less.same (less_eq ?_ (by walk_at "less"))))⟩
    unfold tlK
    rw [List.range_succ, List.map_append, List.map_append]
    rfl
  · rintro δ' rfl
    walk_at "wp"
    rfl
theorem ok__law_height (T : Txt K mg) : FnOk P w K mg base CX0 1 T.a__law_height T.fd__law_height ["number"] (spR K R__law_height) := by
  refine fn_R T.F__law_height sc__law_height (by walk_at "len") fun cdv A outer s H E hr => ⟨_, (pss_cons (ps_if (pt_cmpR (o_eqK K rfl (hu64 hr)) (pe_op o_mod (pe_callTy c_int (by rfl) T.m_int b_int (pa_cons (pv 0) pa_nil)) pe_int) pe_int (nomark _))
    (pss_cons (ps_ret (pe_op o_sub (pe_op o_pow pe_int pe_int) (pe_op o_mod (pe_op o_div (pe_callTy c_int (by rfl) T.m_int b_int (pa_cons (pv 0) pa_nil)) pe_int) pe_int)))
    pss_nil)
    pss_nil)
    (pss_cons (ps_ret (pe_op o_mod (pe_op o_div (pe_callTy c_int (by rfl) T.m_int b_int (pa_cons (pv 0) pa_nil)) pe_int) pe_int))
    pss_nil)), fun ss r h => ?_⟩
  try simp only [cxK, cxK2]
  obtain ⟨n, rfl, rfl⟩ := h
  show WP K _ [.dat (.int n)] _
  walk_at "wp"
  walk_at "if" <;> intro h1 <;> simp only [decide_eq_true_eq, decide_eq_false_iff_not] at h1
  all_goals walk_at "wp"
  all_goals apply fn_rt
  all_goals simp only [hgt, h1, if_true, if_false, p12]
theorem ok__law_due (T : Txt K mg) : FnOk P w K mg base CX0 1 T.a__law_due T.fd__law_due ["amount", "deadline", "tolls"] (spR K R__law_due) := by
  refine fn_R T.F__law_due sc__law_due (by walk_at "len") fun cdv A outer s H E hr => ⟨_, (pss_cons (ps_asg (pe_lst (pa_cons (pe_tup (pa_cons (pv 0) (pa_cons (pv 1) pa_nil))) pa_nil)) (pg_name (i := 3) sc__law_due.nd rfl (.inl rfl)))
    (pss_cons (ps_for PassesOwn.never rfl (pi_range1 (by rfl) T.m_range (pa_cons (pe_callB (c_lenK K rfl) (by rfl) T.m_len b_len (pa_cons (pv 2) pa_nil)) pa_nil)) (pg_name (i := 4) sc__law_due.nd rfl (.inl rfl))
    (pss_cons (ps_asg (pe_ix (ix_K K rfl) (pv 2) (pe_op o_sub (pe_op o_sub (pe_callB (c_lenK K rfl) (by rfl) T.m_len b_len (pa_cons (pv 2) pa_nil)) pe_int) (pv 4)) (fun _ _ => rfl)) (pg_name (i := 5) sc__law_due.nd rfl (.inl rfl)))
    (pss_cons (ps_asg (pe_op o_mul (pe_ix (ix_K K rfl) (pe_ix (ix_K K rfl) (pv 3) pe_int (fun _ _ => rfl)) pe_int (fun _ _ => rfl)) (pe_ix (ix_K K rfl) (pv 5) pe_int (fun _ _ => rfl))) (pg_name (i := 6) sc__law_due.nd rfl (.inl rfl)))
    (pss_cons (ps_asg (pe_op o_div (pv 6) pe_int) (pg_name (i := 7) sc__law_due.nd rfl (.inl rfl)))
    (pss_cons (ps_if (pt_cmpR o_lt (pe_op o_mul (pv 7) pe_int) (pv 6) (nomark _))
    (pss_cons (ps_asg (pe_op (o_addK K rfl) (pv 7) pe_int) (pg_name (i := 7) sc__law_due.nd rfl (.inl rfl)))
    pss_nil)
    pss_nil)
    (pss_cons (ps_asg (pe_op (o_addK K rfl) (pe_lst (pa_cons (pe_tup (pa_cons (pe_op (o_addK K rfl) (pe_op (o_addK K rfl) (pe_ix (ix_K K rfl) (pe_ix (ix_K K rfl) (pv 3) pe_int (fun _ _ => rfl)) pe_int (fun _ _ => rfl)) (pe_ix (ix_K K rfl) (pv 5) pe_int (fun _ _ => rfl))) (pv 7)) (pa_cons (pe_op (o_addK K rfl) (pe_ix (ix_K K rfl) (pe_ix (ix_K K rfl) (pv 3) pe_int (fun _ _ => rfl)) pe_int (fun _ _ => rfl)) (pe_ix (ix_K K rfl) (pv 5) pe_int (fun _ _ => rfl))) pa_nil))) pa_nil)) (pv 3)) (pg_name (i := 3) sc__law_due.nd rfl (.inl rfl)))
    pss_nil))))))
    (pss_cons (ps_ret (pv 3))
    pss_nil))), fun ss r h => ?_⟩
  try simp only [cxK, cxK2]
  obtain ⟨a, d, ts, rfl, ⟨hl, hp⟩, rfl⟩ := h
  show WP K _ [.dat (.int a), .dat (.int d), .bor (ts.map Tl.d), .emp, .emp, .emp, .emp, .emp] _
  walk_at "wp"
  refine tw_forR (n := ((ts.map Tl.d).length : Int)) (fun j δ' => δ' = [.dat (.int a), .dat (.int d), .bor (ts.map Tl.d), .own ((List.range (j + 1)).map fun i => lgRow a d ts (ts.length - j + i)), .emp, .emp, .emp, .emp]) (by walk_at "ev") (by rw [List.length_map]; omega) ⟨_, rfl, ?_⟩ ?_ ?_ (by omega)
  · refine Less.same (Less.same (Less.same (less_eq ?_ (by walk_at "less"))))
    simp [lgRow, la, ld]
  · rintro j δ' hj rfl
    rw [List.length_map] at hj
    dsimp only [List.set]
    have hjl : j < ts.length := by omega
    obtain ⟨t, ht⟩ : ∃ t, ts[ts.length - 1 - j]? = some t := ⟨_, List.getElem?_eq_getElem (by omega)⟩
    have hpt := hp t (List.mem_of_getElem? ht)
    have ed := drop_back ht hjl
    have ea : la a (ts.drop (ts.length - (j + 1))) = mci t.b t.p (la a (ts.drop (ts.length - j))) := by rw [ed]; rfl
    have eb : ld d (ts.drop (ts.length - (j + 1))) = ld d (ts.drop (ts.length - j)) + t.g := by rw [ed]; rfl
    have hat : atI (ts.map Tl.d) (((ts.map Tl.d).length : Int) - 1 - (j : Int)) = some (.tuple [.int t.b, .int t.p, .int t.g]) := by
      rw [List.length_map, show ((ts.length : Int) - 1 - (j : Int)) = ((ts.length - 1 - j : Nat) : Int) by omega]
      refine atI_nat ?_
      rw [List.getElem?_map, ht]
      rfl
    have hat0 : atI ((List.range (j + 1)).map fun i => lgRow a d ts (ts.length - j + i)) 0 = some (.tuple [.int (la a (ts.drop (ts.length - j))), .int (ld d (ts.drop (ts.length - j)))]) := at_range (f := fun i => lgRow a d ts (ts.length - j + i)) (k := 0) (by omega)
    have hst := due_step (a := a) (d := d) hjl
    have hrow : lgRow a d ts (ts.length - (j + 1)) = .tuple [.int (mci t.b t.p (la a (ts.drop (ts.length - j)))), .int (ld d (ts.drop (ts.length - j)) + t.g)] := by rw [lgRow, ea, eb]
    have hlr : ((List.range (j + 1)).map fun i => lgRow a d ts (ts.length - j + i)).length = j + 1 := by simp
    rw [hrow] at hst
    generalize la a (ts.drop (ts.length - j)) = A at *
    generalize ld d (ts.drop (ts.length - j)) = D' at *
    generalize (List.range (j + 1)).map (fun i => lgRow a d ts (ts.length - j + i)) = rows at *
    walk_at "wp"
    walk_at "if" <;> intro h1 <;> simp only [decide_eq_true_eq, decide_eq_false_iff_not] at h1
    all_goals walk_at "wp"
    all_goals refine tw_asgN (dn_catO (by walk_at "ev") rfl (by simp only [List.length_cons, List.length_nil]; omega)) ?_
    all_goals dsimp only [List.set]
    all_goals walk_at "wp"
    all_goals refine ⟨_, rfl, Less.same (Less.same (Less.same (less_eq ?_ (by walk_at "less"))))⟩
    all_goals rw [hst]
    all_goals simp only [mci, List.cons_append, List.nil_append]
    all_goals generalize A * t.p = x at h1 ⊢
    · rw [show (x + 999) / 1000 = x / 1000 + 1 by omega]
    · rw [show (x + 999) / 1000 = x / 1000 by omega]
  · rintro δ' rfl
    walk_at "wp"
    apply fn_rt
    rw [Int.toNat_natCast, List.length_map, Nat.sub_self]
    simp
theorem same_step (T : Txt K mg) : ∀ k : Nat, FnOk P w K mg base CX0 (k + 1) T.a__law_same T.fd__law_same ["one", "two"] (spR K (R_same k)) := by
  intro k
  induction k with
  | zero =>
    refine fn_R T.F__law_same sc__law_same (by walk_at "len") fun cdv A outer s H E hr => ⟨_, (pss_cons (ps_if (pt_val (pe_callB (c_isiK K rfl) (by rfl) T.m_isinstance b_isinstance (pa_cons (pv 0) (pa_cons (pe_bltn (v := .ty "tuple") (by rfl) T.m_tuple b_tuple rfl) pa_nil))))
    pss_never
    pss_nil)
    (pss_cons (ps_if (pt_cmpR o_is (pv 0) pe_non (nomark _))
    (pss_cons (ps_ret (pe_cmpR o_is (pv 1) pe_non (nomark _)))
    pss_nil)
    pss_nil)
    (pss_cons (ps_if (pt_val (pe_callB (c_isiK K rfl) (by rfl) T.m_isinstance b_isinstance (pa_cons (pv 0) (pa_cons (pe_bltn (v := .ty "bool") (by rfl) T.m_bool b_bool rfl) pa_nil))))
    (pss_cons (ps_ret (pe_and (pe_callB (c_isiK K rfl) (by rfl) T.m_isinstance b_isinstance (pa_cons (pv 1) (pa_cons (pe_bltn (v := .ty "bool") (by rfl) T.m_bool b_bool rfl) pa_nil))) (pe_one (pe_cmpR (o_eqK K rfl (hu64 hr)) (pv 0) (pv 1) (nomark _)))))
    pss_nil)
    pss_nil)
    (pss_cons (ps_if (pt_val (pe_callB (c_isiK K rfl) (by rfl) T.m_isinstance b_isinstance (pa_cons (pv 0) (pa_cons (pe_bltn (v := .ty "str") (by rfl) T.m_str b_str rfl) pa_nil))))
    (pss_cons (ps_ret (pe_and (pe_callB (c_isiK K rfl) (by rfl) T.m_isinstance b_isinstance (pa_cons (pv 1) (pa_cons (pe_bltn (v := .ty "str") (by rfl) T.m_str b_str rfl) pa_nil))) (pe_one (pe_cmpR (o_eqK K rfl (hu64 hr)) (pv 0) (pv 1) (nomark _)))))
    pss_nil)
    pss_nil)
    (pss_cons (ps_ret (pe_and (pe_callB (c_isiK K rfl) (by rfl) T.m_isinstance b_isinstance (pa_cons (pv 1) (pa_cons (pe_bltn (v := .ty "int") (by rfl) T.m_int b_int rfl) pa_nil))) (pe_and (pe_not (pe_callB (c_isiK K rfl) (by rfl) T.m_isinstance b_isinstance (pa_cons (pv 1) (pa_cons (pe_bltn (v := .ty "bool") (by rfl) T.m_bool b_bool rfl) pa_nil)))) (pe_one (pe_cmpR (o_eqK K rfl (hu64 hr)) (pv 0) (pv 1) (nomark _))))))
    pss_nil))))), fun ss r h => ?_⟩
    try simp only [cxK, cxK2]
    obtain ⟨d, rfl, ⟨hi, hd⟩, rfl⟩ := h
    show WP K _ [.dat d, .dat d, .emp] _
    cases d with
    | none => walk_at "wp"; walk_at "ifF"; walk_at "wp"; walk_at "ifT"; walk_at "wp"; rfl
    | bool b => walk_at "wp"; walk_at "ifF"; walk_at "wp"; walk_at "ifF"; walk_at "wp"; walk_at "ifT"; walk_at "wp"; apply fn_rt; simp
    | str b => walk_at "wp"; walk_at "ifF"; walk_at "wp"; walk_at "ifF"; walk_at "wp"; walk_at "ifF"; walk_at "wp"; walk_at "ifT"; walk_at "wp"; apply fn_rt; simp
    | int b => walk_at "wp"; walk_at "ifF"; walk_at "wp"; walk_at "ifF"; walk_at "wp"; walk_at "ifF"; walk_at "wp"; walk_at "ifF"; walk_at "wp"; apply fn_rt; simp
    | tuple ds => exact absurd hd (Nat.not_succ_le_zero _)
    | list ds => cases (show false = true from hi)
    | dict ds => cases (show false = true from hi)
  | succ k ih =>
    have hm : k + 1 ≤ k + 1 := Nat.le_refl _
    refine fn_R T.F__law_same sc__law_same (by walk_at "len") fun cdv A outer s H E hr => ⟨_, (pss_cons (ps_if (pt_val (pe_callB (c_isiK K rfl) (by rfl) T.m_isinstance b_isinstance (pa_cons (pv 0) (pa_cons (pe_bltn (v := .ty "tuple") (by rfl) T.m_tuple b_tuple rfl) pa_nil))))
    (pss_cons (ps_if (PW.pt (pw_or (pt_not (pt_val (pe_callB (c_isiK K rfl) (by rfl) T.m_isinstance b_isinstance (pa_cons (pv 1) (pa_cons (pe_bltn (v := .ty "tuple") (by rfl) T.m_tuple b_tuple rfl) pa_nil))))) (pw_or1 (pt_cmpR (o_neK K rfl (hu64 hr)) (pe_callB (c_lenK K rfl) (by rfl) T.m_len b_len (pa_cons (pv 0) pa_nil)) (pe_callB (c_lenK K rfl) (by rfl) T.m_len b_len (pa_cons (pv 1) pa_nil)) (nomark _)))))
    (pss_cons (ps_ret pe_bl)
    pss_nil)
    pss_nil)
    (pss_cons (ps_ret (pe_callB (c_allK K rfl rfl) (by rfl) T.m_all b_all (pa_cons (pe_lc (own := [("k", 2)]) (g := (gName 2)) (tt := tYes) (by rfl) sc__law_same.nd (pi_range1 (by rfl) T.m_range (pa_cons (pe_callB (c_lenK K rfl) (by rfl) T.m_len b_len (pa_cons (pv 0) pa_nil)) pa_nil)) (blkOk_by (own := [("k", 2)]) (N := N__law_same) (sc := defScope s__law_same) (by decide +kernel)) (fun _ _ _ _ _ => pg_name (i := 2) sc__law_same.nd rfl (Or.inl rfl)) (fun _ _ _ _ _ => pts_nil) (fun _ _ _ _ _ => (pe_call ih (hr.mono hm) rfl T.m__law_same T.F__law_same.kp T.b__law_same .nil pass0 (pa_cons (pe_ix (ix_K K rfl) (pv 0) (pv 2) (fun _ _ => rfl)) (pa_cons (pe_ix (ix_K K rfl) (pv 1) (pv 2) (fun _ _ => rfl)) pa_nil))))) pa_nil)))
    pss_nil))
    pss_nil)
    (pss_cons (ps_if (pt_cmpR o_is (pv 0) pe_non (nomark _))
    (pss_cons (ps_ret (pe_cmpR o_is (pv 1) pe_non (nomark _)))
    pss_nil)
    pss_nil)
    (pss_cons (ps_if (pt_val (pe_callB (c_isiK K rfl) (by rfl) T.m_isinstance b_isinstance (pa_cons (pv 0) (pa_cons (pe_bltn (v := .ty "bool") (by rfl) T.m_bool b_bool rfl) pa_nil))))
    (pss_cons (ps_ret (pe_and (pe_callB (c_isiK K rfl) (by rfl) T.m_isinstance b_isinstance (pa_cons (pv 1) (pa_cons (pe_bltn (v := .ty "bool") (by rfl) T.m_bool b_bool rfl) pa_nil))) (pe_one (pe_cmpR (o_eqK K rfl (hu64 hr)) (pv 0) (pv 1) (nomark _)))))
    pss_nil)
    pss_nil)
    (pss_cons (ps_if (pt_val (pe_callB (c_isiK K rfl) (by rfl) T.m_isinstance b_isinstance (pa_cons (pv 0) (pa_cons (pe_bltn (v := .ty "str") (by rfl) T.m_str b_str rfl) pa_nil))))
    (pss_cons (ps_ret (pe_and (pe_callB (c_isiK K rfl) (by rfl) T.m_isinstance b_isinstance (pa_cons (pv 1) (pa_cons (pe_bltn (v := .ty "str") (by rfl) T.m_str b_str rfl) pa_nil))) (pe_one (pe_cmpR (o_eqK K rfl (hu64 hr)) (pv 0) (pv 1) (nomark _)))))
    pss_nil)
    pss_nil)
    (pss_cons (ps_ret (pe_and (pe_callB (c_isiK K rfl) (by rfl) T.m_isinstance b_isinstance (pa_cons (pv 1) (pa_cons (pe_bltn (v := .ty "int") (by rfl) T.m_int b_int rfl) pa_nil))) (pe_and (pe_not (pe_callB (c_isiK K rfl) (by rfl) T.m_isinstance b_isinstance (pa_cons (pv 1) (pa_cons (pe_bltn (v := .ty "bool") (by rfl) T.m_bool b_bool rfl) pa_nil)))) (pe_one (pe_cmpR (o_eqK K rfl (hu64 hr)) (pv 0) (pv 1) (nomark _))))))
    pss_nil))))), fun ss r h => ?_⟩
    try simp only [cxK, cxK2]
    obtain ⟨d, rfl, ⟨hi, hd⟩, rfl⟩ := h
    show WP K _ [.dat d, .dat d, .emp] _
    cases d with
    | none => walk_at "wp"; walk_at "ifF"; walk_at "wp"; walk_at "ifT"; walk_at "wp"; rfl
    | bool b => walk_at "wp"; walk_at "ifF"; walk_at "wp"; walk_at "ifF"; walk_at "wp"; walk_at "ifT"; walk_at "wp"; apply fn_rt; simp
    | str b => walk_at "wp"; walk_at "ifF"; walk_at "wp"; walk_at "ifF"; walk_at "wp"; walk_at "ifF"; walk_at "wp"; walk_at "ifT"; walk_at "wp"; apply fn_rt; simp
    | int b => walk_at "wp"; walk_at "ifF"; walk_at "wp"; walk_at "ifF"; walk_at "wp"; walk_at "ifF"; walk_at "wp"; walk_at "ifF"; walk_at "wp"; apply fn_rt; simp
    | tuple ds =>
      have hi' : (decide (ds.length ≤ 1000) && immA ds) = true := hi
      rw [Bool.and_eq_true, decide_eq_true_eq] at hi'
      have hd' : PyData.depthAll ds + 1 ≤ k + 1 := hd
      walk_at "wp"
      walk_at "ifT"
      walk_at "wp"
      walk_at "if" <;> intro h1
      · simp at h1
      walk_at "wp"
      refine tw_ret (DE.is (de_all (bs := (List.range ds.length).map fun _ => true) (DL.is (DN.dl (dn_lcR (n := (ds.length : Int)) (fun _ => .bool true) (by walk_at "ev") ⟨by omega, by omega⟩ ?_)) (by rw [Int.toNat_natCast, List.map_map]; rfl))) (e := .bool true) (by simp)) ?_
      · intro j hj
        have hj' : j < ds.length := by omega
        have hg : ds[j]? = some ds[j] := List.getElem?_eq_getElem hj'
        refine de_call (da_d (de_ixT (ds := ds) (de_var rfl) (de_var rfl) (atI_nat hg)) (da_d (de_ixT (ds := ds) (de_var rfl) (de_var rfl) (atI_nat hg)) da_nil)) ⟨_, rfl, ⟨immA_get hi'.2 hg, ?_⟩, rfl⟩
        have := depth_get hg
        omega
      · walk_at "wp"
        rfl
    | list ds => cases (show false = true from hi)
    | dict ds => cases (show false = true from hi)
theorem ok__law_same (T : Txt K mg) : FnOk P w K mg base CX0 5 T.a__law_same T.fd__law_same ["one", "two"] (spR K R__law_same) := same_step T 4

theorem ok_must_come_in (T : Txt K mg) : FnOk P w K mg base CX0 1 T.a_must_come_in T.fd_must_come_in ["toll", "amount"] (spR K R_must_come_in) := by
  refine fn_R T.F_must_come_in sc_must_come_in (by walk_at "len") fun cdv A outer s H E hr => ⟨_, (pss_cons (ps_asg (pv 0) (pg_tK (n := 3) K rfl rfl (pgs_cons (pg_name (i := 2) sc_must_come_in.nd rfl (.inl rfl)) (pgs_cons (pg_name (i := 3) sc_must_come_in.nd rfl (.inl rfl)) (pgs_cons (pg_name (i := 4) sc_must_come_in.nd rfl (.inl rfl)) pgs_nil))) rfl rfl))
    (pss_cons (ps_ret (pe_op (o_addK K rfl) (pe_op (o_addK K rfl) (pv 1) (pv 2)) (pe_op o_div (pe_op (o_addK K rfl) (pe_op o_mul (pv 1) (pv 3)) pe_int) pe_int)))
    pss_nil)), fun ss r h => ?_⟩
  try simp only [cxK, cxK2]
  obtain ⟨b, p, g, a, rfl, hp, rfl⟩ := h
  show WP K _ [.dat (.tuple [.int b, .int p, .int g]), .dat (.int a), .emp, .emp, .emp] _
  walk_at "wp"
  rfl
theorem ok_unbounded_legs (T : Txt K mg) : FnOk P w K mg base CX0 2 T.a_unbounded_legs T.fd_unbounded_legs ["amount", "deadline", "tolls"] (spR K R_unbounded_legs) := by
  refine fn_R T.F_unbounded_legs sc_unbounded_legs (by walk_at "len") fun cdv A outer s H E hr => ⟨_, (pss_cons (ps_asg (pe_lst (pa_cons (pe_tup (pa_cons (pv 0) (pa_cons (pv 1) pa_nil))) pa_nil)) (pg_name (i := 3) sc_unbounded_legs.nd rfl (.inl rfl)))
    (pss_cons (ps_for PassesOwn.never rfl (pi_revK K rfl (by rfl) T.m_reversed (pv 2)) (pg_name (i := 4) sc_unbounded_legs.nd rfl (.inl rfl))
    (pss_cons (ps_asg (pv 4) (pg_tK (n := 3) K rfl rfl (pgs_cons (pg_name (i := 5) sc_unbounded_legs.nd rfl (.inl rfl)) (pgs_cons (pg_name (i := 5) sc_unbounded_legs.nd rfl (.inl rfl)) (pgs_cons (pg_name (i := 6) sc_unbounded_legs.nd rfl (.inl rfl)) pgs_nil))) rfl rfl))
    (pss_cons (ps_asg (pe_call (ok_must_come_in T) (hr.mono (by decide)) rfl T.m_must_come_in T.F_must_come_in.kp T.b_must_come_in .nil pass0 (pa_cons (pv 4) (pa_cons (pv 0) pa_nil))) (pg_name (i := 0) sc_unbounded_legs.nd rfl (.inl rfl)))
    (pss_cons (ps_asg (pe_op (o_addK K rfl) (pv 1) (pv 6)) (pg_name (i := 1) sc_unbounded_legs.nd rfl (.inl rfl)))
    (pss_cons (ps_expr (pe_bm PySem.F.plainAttrs_list PySem.F.slot_list_append PySem.F.type_list_append mt_append (pv 3) (pa_cons (pe_tup (pa_cons (pv 0) (pa_cons (pv 1) pa_nil))) pa_nil)))
    pss_nil)))))
    (pss_cons (ps_ret (pe_revK K rfl (pv 3)))
    pss_nil))), fun ss r h => ?_⟩
  try simp only [cxK, cxK2]
  obtain ⟨a, d, ts, rfl, ⟨hl, hp⟩, rfl⟩ := h
  show WP K _ [.dat (.int a), .dat (.int d), .bor (ts.map Tl.d), .emp, .emp, .emp, .emp] _
  walk_at "wp"
  refine tw_forV (fun (j : Nat) δ' => δ' = [.dat (.int (la a (ts.drop (ts.length - j)))), .dat (.int (ld d (ts.drop (ts.length - j)))), .bor (ts.map Tl.d), .own ((List.range (j + 1)).map fun i => lgRow a d ts (ts.length - i)), .emp, .emp, .emp]) rfl ⟨_, rfl, ?_⟩ ?_ ?_
  · refine less_eq ?_ (less_eq ?_ (Less.same (less_eq ?_ (Less.rfl' _))))
    · rw [Nat.sub_zero, List.drop_length]; rfl
    · rw [Nat.sub_zero, List.drop_length]; rfl
    · simp [lgRow, la, ld]
  · rintro j d' δ' hk hj rfl
    rw [List.length_map] at hk hj
    obtain ⟨t, ht, rfl⟩ := map_at hk
    have hpt := hp t (List.mem_of_getElem? ht)
    have ed := drop_back ht hj
    have ea : la a (ts.drop (ts.length - (j + 1))) = mci t.b t.p (la a (ts.drop (ts.length - j))) := by rw [ed]; rfl
    have eb : ld d (ts.drop (ts.length - (j + 1))) = ld d (ts.drop (ts.length - j)) + t.g := by rw [ed]; rfl
    have hlen : ((List.range (j + 1)).map fun i => lgRow a d ts (ts.length - i)).length < 100000 := by simp; omega
    refine ⟨_, g_name, ?_⟩
    rw [show Tl.d t = .tuple [.int t.b, .int t.p, .int t.g] from rfl]
    dsimp only [List.set]
    walk_at "wp"
    refine ⟨_, rfl, less_eq ?_ (less_eq ?_ (Less.same (less_eq ?_ (by walk_at "less"))))⟩
    · rw [ea]
    · rw [eb]
    · rw [List.range_succ, List.map_append, List.map_singleton, lgRow, ea, eb]
  · rintro δ' rfl
    rw [List.length_map, Nat.sub_self]
    walk_at "wp"
    apply fn_rt
    rw [rev_range]
theorem ok_legs (T : Txt K mg) : FnOk P w K mg base (L2.CX P w) 3 T.a_legs T.fd_legs ["amount", "deadline", "tolls"] (spX K R_legs (RX_legs T.a_OutOfBounds T.a_TooMuchMoney)) := by
  refine fn_X T.F_legs sc_legs (by walk_at "len") (by walk_at "len") fun cdv A outer s H E hr => ⟨_, (pss_cons (ps_if (pt_cmpR o_gt (pe_callB (c_lenK K rfl) (by rfl) T.m_len b_len (pa_cons (pv 2) pa_nil)) (pe_glob (v := .int 20) rfl T.m_MOST_TOLLS ⟨_, rfl⟩) (nomark _))
    (pss_cons (ps_raise1 rfl (takes_of rfl rfl rfl rfl) PySem.F.excBase_ValueError T.e_OutOfBounds.x T.m_OutOfBounds T.e_OutOfBounds.k (raises_own T.e_OutOfBounds.e.hs T.e_OutOfBounds.t) rfl (pe_join (.cons pe_str (.cons (pe_fmt (pe_glob (v := .int 20) rfl T.m_MOST_TOLLS ⟨_, rfl⟩)) (.cons pe_str .nil)))))
    pss_nil)
    pss_nil)
    (pss_cons (ps_asg (pe_call (ok_unbounded_legs T) (hr.mono (by decide)) rfl T.m_unbounded_legs T.F_unbounded_legs.kp T.b_unbounded_legs .nil pass0 (pa_cons (pv 0) (pa_cons (pv 1) (pa_cons (pv 2) pa_nil)))) (pg_name (i := 3) sc_legs.nd rfl (.inl rfl)))
    (pss_cons (ps_if (pt_cmpR o_gt (pe_callB (c_maxL K rfl rfl) (by rfl) T.m_max b_max (pa_cons (pe_lc (own := [("each", 4), ("_", 5)]) (g := (gTup K 2 (gCons (gName 4) (gCons (gName 5) gNil)))) (tt := tYes) (by rfl) sc_legs.nd (pi_K K rfl (pv 3)) (blkOk_by (own := [("each", 4), ("_", 5)]) (N := N_legs) (sc := defScope s_legs) (by decide +kernel)) (fun _ _ _ _ _ => (pg_tK (n := 2) K rfl rfl (pgs_cons (pg_name (i := 4) sc_legs.nd rfl (.inl rfl)) (pgs_cons (pg_name (i := 5) sc_legs.nd rfl (.inl rfl)) pgs_nil)) rfl rfl)) (fun _ _ _ _ _ => pts_nil) (fun _ _ _ _ _ => (pv 4))) pa_nil)) (pe_glob (v := .int 1000000000000000) rfl T.m_GREATEST_AMOUNT ⟨_, rfl⟩) (nomark _))
    (pss_cons (ps_raise1 rfl (takes_of rfl rfl rfl rfl) PySem.F.excBase_ValueError T.e_TooMuchMoney.x T.m_TooMuchMoney T.e_TooMuchMoney.k (raises_own T.e_TooMuchMoney.e.hs T.e_TooMuchMoney.t) rfl (pe_join (.cons pe_str (.cons (pe_fmt (pe_glob (v := .int 1000000000000000) rfl T.m_GREATEST_AMOUNT ⟨_, rfl⟩)) .nil))))
    pss_nil)
    pss_nil)
    (pss_cons (ps_ret (pv 3))
    pss_nil)))), ?_, ?_⟩
  all_goals (try simp only [cxK, cxK2])
  · rintro ss r ⟨a, d, ts, rfl, ⟨hl, hb, hp⟩, rfl⟩
    show WP K _ [.dat (.int a), .dat (.int d), .bor (ts.map Tl.d), .emp, .emp, .emp] _
    have hun : ts.length ≤ 20 ∧ ∀ t ∈ ts, 0 ≤ t.p ∧ t.p ≤ 1000000 := ⟨hl, hp⟩
    walk_at "wpf"
    walk_at "if" <;> intro h1
    · simp only [decide_eq_true_eq, List.length_map] at h1
      omega
    apply tw_next
    apply then_nx
    apply tw_seq
    refine tw_asgN (dn_call (by walk_at "ev") ⟨a, d, ts, rfl, hun, rfl⟩) ?_
    dsimp only [List.set]
    apply then_nx
    apply tw_seq
    obtain ⟨m, hm, hle⟩ := max_rows a d ts
    refine tw_if (dt_test (de_gt (de_maxL (ns := (List.range (ts.length + 1)).map fun k => la a (ts.drop k)) ?_ hm hle) de_int)) ?_ ?_
    · refine DN.dl (DN.is (dn_lcL fst' (dl_own rfl) (by simp; omega) ?_) (by rw [List.map_map, List.map_map]; rfl))
      intro d' hd'
      obtain ⟨k, _, rfl⟩ := List.mem_map.mp hd'
      refine ⟨_, cg_tup (.cons (.cons .nil)) rfl rfl (by simp), ?_⟩
      unfold lgRow fst'
      dsimp only [wipeD, setsD, List.set]
      walk_at "ev"
    · intro h2
      exfalso
      obtain ⟨k, _, rfl⟩ := List.mem_map.mp hm
      have := hb k
      simp only [decide_eq_true_eq] at h2
      omega
    intro _
    walk_at "wp"
    exact rfl
  · rintro ss c ⟨a, d, ts, rfl, hp, hc⟩
    show WP K _ [.dat (.int a), .dat (.int d), .bor (ts.map Tl.d), .emp, .emp, .emp] _
    walk_at "wpf"
    walk_at "if" <;> intro h1 <;> simp only [decide_eq_true_eq, decide_eq_false_iff_not, List.length_map] at h1
    · rcases hc with ⟨_, rfl⟩ | ⟨h2, _⟩
      · walk_at "wp"
        apply tw_raiseG
        · apply dg_join
          · exact dj_cons (m := 100) de_str (by decide +kernel) (dj_cons (m := 100) (de_fmtI (by walk_at "ev") (by decide +kernel)) (by decide +kernel) (dj_cons (m := 100) de_str (by decide +kernel) dj_nil))
          · decide
        · exact rfl
      · exfalso
        omega
    · rcases hc with ⟨h2, _⟩ | ⟨h2, ⟨k0, hk0⟩, rfl⟩
      · exfalso
        omega
      have hun : ts.length ≤ 20 ∧ ∀ t ∈ ts, 0 ≤ t.p ∧ t.p ≤ 1000000 := ⟨h2, hp⟩
      apply tw_next
      apply then_nx
      apply tw_seq
      refine tw_asgN (dn_call (by walk_at "ev") ⟨a, d, ts, rfl, hun, rfl⟩) ?_
      dsimp only [List.set]
      apply then_nx
      apply tw_seq
      obtain ⟨m, hm, hle⟩ := max_rows a d ts
      refine tw_if (dt_test (de_gt (de_maxL (ns := (List.range (ts.length + 1)).map fun k => la a (ts.drop k)) ?_ hm hle) de_int)) ?_ ?_
      · refine DN.dl (DN.is (dn_lcL fst' (dl_own rfl) (by simp; omega) ?_) (by rw [List.map_map, List.map_map]; rfl))
        intro d' hd'
        obtain ⟨k, _, rfl⟩ := List.mem_map.mp hd'
        refine ⟨_, cg_tup (.cons (.cons .nil)) rfl rfl (by simp), ?_⟩
        unfold lgRow fst'
        dsimp only [wipeD, setsD, List.set]
        walk_at "ev"
      · intro _
        walk_at "wp"
        apply tw_raiseG
        · apply dg_join
          · exact dj_cons (m := 100) de_str (by decide +kernel) (dj_cons (m := 100) (de_fmtI (by walk_at "ev") (by decide +kernel)) (by decide +kernel) dj_nil)
          · decide
        · exact rfl
      · intro h3
        exfalso
        simp only [decide_eq_false_iff_not] at h3
        by_cases hk : k0 ≤ ts.length
        · have := hle (la a (ts.drop k0)) (List.mem_map.mpr ⟨k0, List.mem_range.mpr (by omega), rfl⟩)
          omega
        · have := hle (la a (ts.drop ts.length)) (List.mem_map.mpr ⟨ts.length, List.mem_range.mpr (by omega), rfl⟩)
          rw [List.drop_eq_nil_of_le (by omega)] at hk0 this
          omega
theorem ok_law (T : Txt K mg) : FnOk P w K mg base CX0 6 T.a_law T.fd_law ["script"] (spR K R_law) := by
  refine fn_R T.F_law sc_law (by walk_at "len") fun cdv A outer s H E hr => ⟨_, (pss_cons (ps_asg (pe_call (ok__law_number T) (hr.mono (by decide)) rfl T.m__law_number T.F__law_number.kp T.b__law_number .nil pass0 (pa_cons (pv 0) (pa_cons pe_int pa_nil))) (pg_name (i := 1) sc_law.nd rfl (.inl rfl)))
    (pss_cons (ps_asg (pe_ix (ix_K K rfl) (pe_lst (pa_cons pe_int (pa_cons pe_int (pa_cons pe_int (pa_cons pe_int (pa_cons pe_int (pa_cons pe_int (pa_cons pe_int (pa_cons pe_int pa_nil))))))))) (pe_op o_mod (pe_callTy c_int (by rfl) T.m_int b_int (pa_cons (pv 1) pa_nil)) pe_int) (fun _ _ => rfl)) (pg_name (i := 2) sc_law.nd rfl (.inl rfl)))
    (pss_cons (ps_asg (pe_call (ok__law_tolls T) (hr.mono (by decide)) rfl T.m__law_tolls T.F__law_tolls.kp T.b__law_tolls .nil pass0 (pa_cons (pv 0) (pa_cons pe_int (pa_cons (pv 2) pa_nil)))) (pg_name (i := 3) sc_law.nd rfl (.inl rfl)))
    (pss_cons (ps_asg (pe_call (ok__law_amount T) (hr.mono (by decide)) rfl T.m__law_amount T.F__law_amount.kp T.b__law_amount .nil pass0 (pa_cons (pe_call (ok__law_number T) (hr.mono (by decide)) rfl T.m__law_number T.F__law_number.kp T.b__law_number .nil pass0 (pa_cons (pv 0) (pa_cons pe_int pa_nil))) pa_nil)) (pg_name (i := 4) sc_law.nd rfl (.inl rfl)))
    (pss_cons (ps_asg (pe_call (ok__law_height T) (hr.mono (by decide)) rfl T.m__law_height T.F__law_height.kp T.b__law_height .nil pass0 (pa_cons (pe_op o_div (pe_callTy c_int (by rfl) T.m_int b_int (pa_cons (pv 1) pa_nil)) pe_int) pa_nil)) (pg_name (i := 5) sc_law.nd rfl (.inl rfl)))
    (pss_cons (ps_asg (pe_call (ok__law_due T) (hr.mono (by decide)) rfl T.m__law_due T.F__law_due.kp T.b__law_due .nil pass0 (pa_cons (pv 4) (pa_cons (pv 5) (pa_cons (pv 3) pa_nil)))) (pg_name (i := 6) sc_law.nd rfl (.inl rfl)))
    (pss_cons (ps_asg (pe_callTy (c_listK K rfl) (by rfl) T.m_list b_list (pa_cons (pv 3) pa_nil)) (pg_name (i := 7) sc_law.nd rfl (.inl rfl)))
    (pss_cons (ps_tryE (n := "e") (i := 9) K rfl rfl rfl sc_law.nd rfl rfl (fun W pn xe tk po => (pss_cons (ps_asg (pe_callS (ok_legs T) (hr.mono (by decide)) rfl T.m_legs T.F_legs.kp T.b_legs (fun σ => passAt tk σ) (pa_cons (pv 4) (pa_cons (pv 5) (pa_cons (pv 7) pa_nil)))) (pg_name (i := 8) sc_law.nd rfl (.inl rfl)))
    pss_nil)) (.cons ⟨rfl, by decide, .inl T.m_OutOfBounds⟩ (fun a oe cls d pn hz hf => (pss_cons (ps_ret (pe_and (pe_cmpR o_gt (pv 2) pe_int (nomark _)) (pe_and (pe_callB (call_isErr K rfl hz hf) (by rfl) T.m_isinstance b_isinstance (pa_cons (pv 9) (pa_cons (pe_glob (v := .ref T.a_TurnpikeError) rfl T.m_TurnpikeError rfl) pa_nil))) (pe_and (pe_not (pe_callB (call_isErr K rfl hz hf) (by rfl) T.m_isinstance b_isinstance (pa_cons (pv 9) (pa_cons (pe_glob (v := .ref T.a_TooMuchMoney) rfl T.m_TooMuchMoney rfl) pa_nil)))) (pe_one (pe_cmpR (o_eqK K rfl (have hu := hu64 hr; hu)) (pv 7) (pv 3) (nomark _)))))))
    pss_nil)) (.cons ⟨rfl, by decide, .inl T.m_TooMuchMoney⟩ (fun a oe cls d pn hz hf => (pss_cons (ps_ret (pe_and (pe_cmpR o_le (pv 2) pe_int (nomark _)) (pe_and (pe_cmpR o_gt (pe_ix (ix_K K rfl) (pe_ix (ix_K K rfl) (pv 6) pe_int (fun _ _ => rfl)) pe_int (fun _ _ => rfl)) (pe_op o_pow pe_int pe_int) (nomark _)) (pe_and (pe_callB (call_isErr K rfl hz hf) (by rfl) T.m_isinstance b_isinstance (pa_cons (pv 9) (pa_cons (pe_glob (v := .ref T.a_TurnpikeError) rfl T.m_TurnpikeError rfl) pa_nil))) (pe_one (pe_cmpR (o_eqK K rfl (have hu := hu64 hr; hu)) (pv 7) (pv 3) (nomark _)))))))
    pss_nil)) .nil)))
    (pss_cons (ps_if (PW.pt (pw_or (pt_cmpR o_gt (pv 2) pe_int (nomark _)) (pw_or (pt_cmpR o_gt (pe_ix (ix_K K rfl) (pe_ix (ix_K K rfl) (pv 6) pe_int (fun _ _ => rfl)) pe_int (fun _ _ => rfl)) (pe_op o_pow pe_int pe_int) (nomark _)) (pw_or (pt_cmpR (o_neK K rfl (hu64 hr)) (pv 7) (pv 3) (nomark _)) (pw_or1 (pt_not (pt_val (pe_callB (c_isiK K rfl) (by rfl) T.m_isinstance b_isinstance (pa_cons (pv 8) (pa_cons (pe_bltn (v := .ty "list") (by rfl) T.m_list b_list rfl) pa_nil))))))))))
    (pss_cons (ps_ret pe_bl)
    pss_nil)
    pss_nil)
    (pss_cons (ps_ret (pe_call (ok__law_same T) (hr.mono (by decide)) rfl T.m__law_same T.F__law_same.kp T.b__law_same .nil pass0 (pa_cons (pe_callTy (c_tupleK K rfl) (by rfl) T.m_tuple b_tuple (pa_cons (pv 6) pa_nil)) (pa_cons (pe_callTy (c_tupleK K rfl) (by rfl) T.m_tuple b_tuple (pa_cons (pv 8) pa_nil)) pa_nil))))
    pss_nil)))))))))), fun ss r h => ?_⟩
  try simp only [cxK, cxK2]
  obtain ⟨ns, rfl, hl, rfl⟩ := h
  show WP K _ [.bor (ns.map .int), .emp, .emp, .emp, .emp, .emp, .emp, .emp, .emp, .emp] _
  have hO : ExcC K T.a_OutOfBounds := T.e_OutOfBounds.e
  have hM : ExcC K T.a_TooMuchMoney := T.e_TooMuchMoney.e
  have k1 : PySem.W.kitOne K (.ref T.a_OutOfBounds) (.ref T.a_TurnpikeError) = some true := T.e_TurnpikeError.kit T.u_OutOfBounds_TurnpikeError
  have k2 : PySem.W.kitOne K (.ref T.a_OutOfBounds) (.ref T.a_TooMuchMoney) = some false := T.e_TooMuchMoney.kit T.u_OutOfBounds_TooMuchMoney
  have k3 : PySem.W.kitOne K (.ref T.a_TooMuchMoney) (.ref T.a_TurnpikeError) = some true := T.e_TurnpikeError.kit T.u_TooMuchMoney_TurnpikeError
  have x1 : PySem.W.exmOne K (.ref T.a_OutOfBounds) (.ref T.a_OutOfBounds) = some true := T.e_OutOfBounds.exm T.e_OutOfBounds.s
  have x2 : PySem.W.exmOne K (.ref T.a_TooMuchMoney) (.ref T.a_OutOfBounds) = some false := T.e_OutOfBounds.exm T.u_TooMuchMoney_OutOfBounds
  have x3 : PySem.W.exmOne K (.ref T.a_TooMuchMoney) (.ref T.a_TooMuchMoney) = some true := T.e_TooMuchMoney.exm T.e_TooMuchMoney.s
  have hn0 := num_nonneg ns (Int.toNat 0)
  have hq : ∀ b : Bool, b = true → SD.dat (PyData.bool b) = SD.dat (PyData.bool true) := fun b h => h ▸ rfl
  apply tw_seqA
  apply tw_asg (by walk_at "ev")
  dsimp only [List.set]
  generalize num ns (Int.toNat 0) = n0 at hn0 ⊢
  have ha := mny_at n0
  have hmb := mny_bd (n0 % 8)
  walk_at "wpf"
  generalize mny (n0 % 8) = many at *
  have htl := tlK_ok ns 2 many.toNat
  have hts : (tlK ns 2 many.toNat).length = many.toNat := by simp [tlK]
  generalize tlK ns 2 many.toNat = ts at *
  have hps : ∀ t ∈ ts, 0 ≤ t.p ∧ t.p ≤ 1000000 := fun t ht => by have := (htl t ht).2; omega
  have hdue : ts.length ≤ 1000 ∧ ∀ t ∈ ts, 0 ≤ t.p ∧ t.p ≤ 1000000 := ⟨by omega, hps⟩
  have hlen : (ts.length : Int) = many := by omega
  have hab := amt_bd (num ns (Int.toNat 1))
  generalize amt (num ns (Int.toNat 1)) = a at *
  generalize hgt (n0 / 8) = d at *
  have hat0 : atI ((List.range (ts.length + 1)).map (lgRow a d ts)) 0 = some (.tuple [.int (la a ts), .int (ld d ts)]) := at_range (f := lgRow a d ts) (k := 0) (by omega)
  have sT : SeqAt.shaped (.list (ts.map Tl.d)) = true := shp_mapL (f := Tl.d) (fun t => ⟨rfl, (by decide : 1 ≤ 60)⟩) ts
  have eT := eqv_self sT
  walk_at "wpf"
  apply tw_seqTE
  apply tw_tryE
  intro W
  have hmono := la_mono (a := a) hab.1 (ts := ts) fun t ht => ⟨(htl t ht).1, (htl t ht).2.1⟩
  by_cases h20 : 20 < ts.length
  · apply tw_seq
    apply tw_asgX
    · apply dx_callW
      · walk_at "ev"
      · exact ⟨_, _, _, rfl, hps, .inl ⟨h20, rfl⟩⟩
    repeat (with_reducible apply then_ex)
    refine tryE_ex (.inl ⟨x1, fun e => ?_⟩)
    dsimp only [List.set]
    walk_at "wp"
    refine hq _ ?_
    rw [eT, decide_eq_true (show (20 : Int) < many by omega)]
    rfl
  by_cases hbig : ∃ k, 1000000000000000 < la a (ts.drop k)
  · have hb2 : 1000000000000000 < la a ts := by
      obtain ⟨k, hk⟩ := hbig
      have := hmono k
      omega
    apply tw_seq
    apply tw_asgX
    · apply dx_callW
      · walk_at "ev"
      · exact ⟨_, _, _, rfl, hps, .inr ⟨by omega, hbig, rfl⟩⟩
    repeat (with_reducible apply then_ex)
    refine tryE_ex (.inr ⟨x2, .inl ⟨x3, fun e => ?_⟩⟩)
    dsimp only [List.set]
    walk_at "wp"
    refine hq _ ?_
    rw [eT, decide_eq_true (show many ≤ (20 : Int) by omega), p15, decide_eq_true hb2]
    rfl
  · have hle : ∀ k, la a (ts.drop k) ≤ 1000000000000000 := fun k => by
      by_cases h : la a (ts.drop k) ≤ 1000000000000000
      · exact h
      · exact absurd ⟨k, by omega⟩ hbig
    have hlg : ts.length ≤ 20 ∧ (∀ k, la a (ts.drop k) ≤ 1000000000000000) ∧ ∀ t ∈ ts, 0 ≤ t.p ∧ t.p ≤ 1000000 := ⟨by omega, hle, hps⟩
    apply tw_seq
    apply tw_asgN (by walk_at "ev")
    dsimp only [List.set]
    apply then_nx
    apply tw_next
    apply tryE_nx
    apply then_nx
    walk_at "wpf"
    walk_at "if" <;> intro h1
    · exfalso
      have h0 := hle 0
      rw [List.drop_zero] at h0
      rw [eT, p15] at h1
      simp at h1
      omega
    have hi := rows_imm a d ts (List.range (ts.length + 1))
    have hll : ((List.range (ts.length + 1)).map (lgRow a d ts)).length ≤ 1000 := by simp; omega
    generalize (List.range (ts.length + 1)).map (lgRow a d ts) = rows at *
    have hI : imm (.tuple rows) = true := by
      show (decide (rows.length ≤ 1000) && immA rows) = true
      rw [hi.1, decide_eq_true hll]
      rfl
    have hD : (PyData.tuple rows).depth ≤ 4 := by
      show PyData.depthAll rows + 1 ≤ 4
      omega
    walk_at "wpf"
    refine tw_ret (de_call (ss := [.dat (.tuple rows), .dat (.tuple rows)]) (by walk_at "ev") ⟨_, rfl, ⟨hI, hD⟩, rfl⟩) ?_
    exact rfl
end
theorem all_mk {l : PySem.W.OpenLaw} {w : World} {K : PySem.W.Frag} {h : Heap} {mg : Str → Option Value} {fa f__law_number f__law_amount f__law_tolls f__law_height f__law_due f__law_same f_must_come_in f_unbounded_legs f_legs f_law f_OutOfBounds f_TooMuchMoney f_TurnpikeError : Addr} (X : K.In h) (G : h.Ns mainGlobals mg) (hfa : mg "law" = some (.ref fa))
    {od__law_number an__law_number : Option Addr} {sl__law_number : Array (Option Value)} {oc__law_number dc__law_number pm__law_number cd__law_number ct__law_number : Value}
    {kV__law_number : Value}
    {od__law_amount an__law_amount : Option Addr} {sl__law_amount : Array (Option Value)} {oc__law_amount dc__law_amount pm__law_amount cd__law_amount ct__law_amount : Value}
    {kV__law_amount : Value}
    {od__law_tolls an__law_tolls : Option Addr} {sl__law_tolls : Array (Option Value)} {oc__law_tolls dc__law_tolls pm__law_tolls cd__law_tolls ct__law_tolls : Value}
    {kV__law_tolls : Value}
    {od__law_height an__law_height : Option Addr} {sl__law_height : Array (Option Value)} {oc__law_height dc__law_height pm__law_height cd__law_height ct__law_height : Value}
    {kV__law_height : Value}
    {od__law_due an__law_due : Option Addr} {sl__law_due : Array (Option Value)} {oc__law_due dc__law_due pm__law_due cd__law_due ct__law_due : Value}
    {kV__law_due : Value}
    {od__law_same an__law_same : Option Addr} {sl__law_same : Array (Option Value)} {oc__law_same dc__law_same pm__law_same cd__law_same ct__law_same : Value}
    {kV__law_same : Value}
    {od_must_come_in an_must_come_in : Option Addr} {sl_must_come_in : Array (Option Value)} {oc_must_come_in dc_must_come_in pm_must_come_in cd_must_come_in ct_must_come_in : Value}
    {kV_must_come_in : Value}
    {od_unbounded_legs an_unbounded_legs : Option Addr} {sl_unbounded_legs : Array (Option Value)} {oc_unbounded_legs dc_unbounded_legs pm_unbounded_legs cd_unbounded_legs ct_unbounded_legs : Value}
    {kV_unbounded_legs : Value}
    {od_legs an_legs : Option Addr} {sl_legs : Array (Option Value)} {oc_legs dc_legs pm_legs cd_legs ct_legs : Value}
    {kV_legs : Value}
    {od_law an_law : Option Addr} {sl_law : Array (Option Value)} {oc_law dc_law pm_law cd_law ct_law : Value}
    {kV_law : Value}
    {t_GREATEST_AMOUNT : Tok}
    {t_MOST_TOLLS : Tok}
    (g__law_number : PySem.W.nsIn K mainGlobals "_law_number" = some (some (.ref f__law_number)))
    (l__law_number : K.lookup f__law_number = some ⟨oc__law_number, od__law_number, .func (PySem.W.fnOf "_law_number" "_law_number" (defArgs s__law_number) (defBody s__law_number) (defScope s__law_number) .none kV__law_number dc__law_number pm__law_number an__law_number cd__law_number ct__law_number), sl__law_number⟩)
    (c__law_number : PySem.W.codeIn K cd__law_number "_law_number" = true) (k__law_number : PySem.W.keepIn K (.ref f__law_number) = true)
    (g__law_amount : PySem.W.nsIn K mainGlobals "_law_amount" = some (some (.ref f__law_amount)))
    (l__law_amount : K.lookup f__law_amount = some ⟨oc__law_amount, od__law_amount, .func (PySem.W.fnOf "_law_amount" "_law_amount" (defArgs s__law_amount) (defBody s__law_amount) (defScope s__law_amount) .none kV__law_amount dc__law_amount pm__law_amount an__law_amount cd__law_amount ct__law_amount), sl__law_amount⟩)
    (c__law_amount : PySem.W.codeIn K cd__law_amount "_law_amount" = true) (k__law_amount : PySem.W.keepIn K (.ref f__law_amount) = true)
    (g__law_tolls : PySem.W.nsIn K mainGlobals "_law_tolls" = some (some (.ref f__law_tolls)))
    (l__law_tolls : K.lookup f__law_tolls = some ⟨oc__law_tolls, od__law_tolls, .func (PySem.W.fnOf "_law_tolls" "_law_tolls" (defArgs s__law_tolls) (defBody s__law_tolls) (defScope s__law_tolls) .none kV__law_tolls dc__law_tolls pm__law_tolls an__law_tolls cd__law_tolls ct__law_tolls), sl__law_tolls⟩)
    (c__law_tolls : PySem.W.codeIn K cd__law_tolls "_law_tolls" = true) (k__law_tolls : PySem.W.keepIn K (.ref f__law_tolls) = true)
    (g__law_height : PySem.W.nsIn K mainGlobals "_law_height" = some (some (.ref f__law_height)))
    (l__law_height : K.lookup f__law_height = some ⟨oc__law_height, od__law_height, .func (PySem.W.fnOf "_law_height" "_law_height" (defArgs s__law_height) (defBody s__law_height) (defScope s__law_height) .none kV__law_height dc__law_height pm__law_height an__law_height cd__law_height ct__law_height), sl__law_height⟩)
    (c__law_height : PySem.W.codeIn K cd__law_height "_law_height" = true) (k__law_height : PySem.W.keepIn K (.ref f__law_height) = true)
    (g__law_due : PySem.W.nsIn K mainGlobals "_law_due" = some (some (.ref f__law_due)))
    (l__law_due : K.lookup f__law_due = some ⟨oc__law_due, od__law_due, .func (PySem.W.fnOf "_law_due" "_law_due" (defArgs s__law_due) (defBody s__law_due) (defScope s__law_due) .none kV__law_due dc__law_due pm__law_due an__law_due cd__law_due ct__law_due), sl__law_due⟩)
    (c__law_due : PySem.W.codeIn K cd__law_due "_law_due" = true) (k__law_due : PySem.W.keepIn K (.ref f__law_due) = true)
    (g__law_same : PySem.W.nsIn K mainGlobals "_law_same" = some (some (.ref f__law_same)))
    (l__law_same : K.lookup f__law_same = some ⟨oc__law_same, od__law_same, .func (PySem.W.fnOf "_law_same" "_law_same" (defArgs s__law_same) (defBody s__law_same) (defScope s__law_same) .none kV__law_same dc__law_same pm__law_same an__law_same cd__law_same ct__law_same), sl__law_same⟩)
    (c__law_same : PySem.W.codeIn K cd__law_same "_law_same" = true) (k__law_same : PySem.W.keepIn K (.ref f__law_same) = true)
    (g_must_come_in : PySem.W.nsIn K mainGlobals "must_come_in" = some (some (.ref f_must_come_in)))
    (l_must_come_in : K.lookup f_must_come_in = some ⟨oc_must_come_in, od_must_come_in, .func (PySem.W.fnOf "must_come_in" "must_come_in" (defArgs s_must_come_in) (defBody s_must_come_in) (defScope s_must_come_in) .none kV_must_come_in dc_must_come_in pm_must_come_in an_must_come_in cd_must_come_in ct_must_come_in), sl_must_come_in⟩)
    (c_must_come_in : PySem.W.codeIn K cd_must_come_in "must_come_in" = true) (k_must_come_in : PySem.W.keepIn K (.ref f_must_come_in) = true)
    (g_unbounded_legs : PySem.W.nsIn K mainGlobals "unbounded_legs" = some (some (.ref f_unbounded_legs)))
    (l_unbounded_legs : K.lookup f_unbounded_legs = some ⟨oc_unbounded_legs, od_unbounded_legs, .func (PySem.W.fnOf "unbounded_legs" "unbounded_legs" (defArgs s_unbounded_legs) (defBody s_unbounded_legs) (defScope s_unbounded_legs) .none kV_unbounded_legs dc_unbounded_legs pm_unbounded_legs an_unbounded_legs cd_unbounded_legs ct_unbounded_legs), sl_unbounded_legs⟩)
    (c_unbounded_legs : PySem.W.codeIn K cd_unbounded_legs "unbounded_legs" = true) (k_unbounded_legs : PySem.W.keepIn K (.ref f_unbounded_legs) = true)
    (g_legs : PySem.W.nsIn K mainGlobals "legs" = some (some (.ref f_legs)))
    (l_legs : K.lookup f_legs = some ⟨oc_legs, od_legs, .func (PySem.W.fnOf "legs" "legs" (defArgs s_legs) (defBody s_legs) (defScope s_legs) .none kV_legs dc_legs pm_legs an_legs cd_legs ct_legs), sl_legs⟩)
    (c_legs : PySem.W.codeIn K cd_legs "legs" = true) (k_legs : PySem.W.keepIn K (.ref f_legs) = true)
    (g_law : PySem.W.nsIn K mainGlobals "law" = some (some (.ref f_law)))
    (l_law : K.lookup f_law = some ⟨oc_law, od_law, .func (PySem.W.fnOf "law" "law" (defArgs s_law) (defBody s_law) (defScope s_law) .none kV_law dc_law pm_law an_law cd_law ct_law), sl_law⟩)
    (c_law : PySem.W.codeIn K cd_law "law" = true) (k_law : PySem.W.keepIn K (.ref f_law) = true)
    (v_GREATEST_AMOUNT : PySem.W.nsIn K mainGlobals "GREATEST_AMOUNT" = some (some (.int 1000000000000000 t_GREATEST_AMOUNT)))
    (v_MOST_TOLLS : PySem.W.nsIn K mainGlobals "MOST_TOLLS" = some (some (.int 20 t_MOST_TOLLS)))
    (z_all : PySem.W.nsIn K mainGlobals "all" = some none)
    (z_bool : PySem.W.nsIn K mainGlobals "bool" = some none)
    (z_int : PySem.W.nsIn K mainGlobals "int" = some none)
    (z_isinstance : PySem.W.nsIn K mainGlobals "isinstance" = some none)
    (z_len : PySem.W.nsIn K mainGlobals "len" = some none)
    (z_list : PySem.W.nsIn K mainGlobals "list" = some none)
    (z_max : PySem.W.nsIn K mainGlobals "max" = some none)
    (z_range : PySem.W.nsIn K mainGlobals "range" = some none)
    (z_reversed : PySem.W.nsIn K mainGlobals "reversed" = some none)
    (z_str : PySem.W.nsIn K mainGlobals "str" = some none)
    (z_tuple : PySem.W.nsIn K mainGlobals "tuple" = some none)
    (xn : PySem.W.specialIn K (.builtin "object.__class__") "__get__" = some (some (.builtin "getset_descriptor.__get__"))) (xtk : PySem.W.takesIn K (.builtin "object.__class__") = some true)
    (g_OutOfBounds : PySem.W.nsIn K mainGlobals "OutOfBounds" = some (some (.ref f_OutOfBounds)))
    (xx_OutOfBounds : PySem.W.excIn K f_OutOfBounds [.type "ValueError", .type "Exception", .type "BaseException", .type "object"] "ValueError.__new__" = true)
    (xk_OutOfBounds : PySem.W.keepIn K (.ref f_OutOfBounds) = true)
    (xg_OutOfBounds : PySem.W.findIn K (.ref f_OutOfBounds) "__getattribute__" = some (some (.builtin "BaseException.__getattribute__")))
    (xh_OutOfBounds : PySem.W.findIn K (.ref f_OutOfBounds) "__getattr__" = some none)
    (xs_OutOfBounds : PySem.W.subIn K (.ref f_OutOfBounds) (.type "BaseException") = some true)
    (xd_OutOfBounds : PySem.W.hasDictIn K f_OutOfBounds = true)
    (xa_OutOfBounds : PySem.W.findIn K (.ref f_OutOfBounds) "__class__" = some (some (.builtin "object.__class__")))
    (xm_OutOfBounds : PySem.W.mroIn K f_OutOfBounds (.type "object") = some true)
    (xt_OutOfBounds : PySem.W.typeIn K (.ref f_OutOfBounds) = some (.type "type"))
    (xi_OutOfBounds : PySem.W.isClsIn K f_OutOfBounds = true)
    (xu_OutOfBounds : PySem.W.subIn K (.ref f_OutOfBounds) (.ref f_OutOfBounds) = some true)
    (g_TooMuchMoney : PySem.W.nsIn K mainGlobals "TooMuchMoney" = some (some (.ref f_TooMuchMoney)))
    (xx_TooMuchMoney : PySem.W.excIn K f_TooMuchMoney [.type "ValueError", .type "Exception", .type "BaseException", .type "object"] "ValueError.__new__" = true)
    (xk_TooMuchMoney : PySem.W.keepIn K (.ref f_TooMuchMoney) = true)
    (xg_TooMuchMoney : PySem.W.findIn K (.ref f_TooMuchMoney) "__getattribute__" = some (some (.builtin "BaseException.__getattribute__")))
    (xh_TooMuchMoney : PySem.W.findIn K (.ref f_TooMuchMoney) "__getattr__" = some none)
    (xs_TooMuchMoney : PySem.W.subIn K (.ref f_TooMuchMoney) (.type "BaseException") = some true)
    (xd_TooMuchMoney : PySem.W.hasDictIn K f_TooMuchMoney = true)
    (xa_TooMuchMoney : PySem.W.findIn K (.ref f_TooMuchMoney) "__class__" = some (some (.builtin "object.__class__")))
    (xm_TooMuchMoney : PySem.W.mroIn K f_TooMuchMoney (.type "object") = some true)
    (xt_TooMuchMoney : PySem.W.typeIn K (.ref f_TooMuchMoney) = some (.type "type"))
    (xi_TooMuchMoney : PySem.W.isClsIn K f_TooMuchMoney = true)
    (xu_TooMuchMoney : PySem.W.subIn K (.ref f_TooMuchMoney) (.ref f_TooMuchMoney) = some true)
    (g_TurnpikeError : PySem.W.nsIn K mainGlobals "TurnpikeError" = some (some (.ref f_TurnpikeError)))
    (xx_TurnpikeError : PySem.W.excIn K f_TurnpikeError [.type "ValueError", .type "Exception", .type "BaseException", .type "object"] "ValueError.__new__" = true)
    (xk_TurnpikeError : PySem.W.keepIn K (.ref f_TurnpikeError) = true)
    (xg_TurnpikeError : PySem.W.findIn K (.ref f_TurnpikeError) "__getattribute__" = some (some (.builtin "BaseException.__getattribute__")))
    (xh_TurnpikeError : PySem.W.findIn K (.ref f_TurnpikeError) "__getattr__" = some none)
    (xs_TurnpikeError : PySem.W.subIn K (.ref f_TurnpikeError) (.type "BaseException") = some true)
    (xd_TurnpikeError : PySem.W.hasDictIn K f_TurnpikeError = true)
    (xa_TurnpikeError : PySem.W.findIn K (.ref f_TurnpikeError) "__class__" = some (some (.builtin "object.__class__")))
    (xm_TurnpikeError : PySem.W.mroIn K f_TurnpikeError (.type "object") = some true)
    (xt_TurnpikeError : PySem.W.typeIn K (.ref f_TurnpikeError) = some (.type "type"))
    (xi_TurnpikeError : PySem.W.isClsIn K f_TurnpikeError = true)
    (xu_TurnpikeError : PySem.W.subIn K (.ref f_TurnpikeError) (.ref f_TurnpikeError) = some true)
    (xp_OutOfBounds_TooMuchMoney : PySem.W.subIn K (.ref f_OutOfBounds) (.ref f_TooMuchMoney) = some false)
    (xp_OutOfBounds_TurnpikeError : PySem.W.subIn K (.ref f_OutOfBounds) (.ref f_TurnpikeError) = some true)
    (xp_TooMuchMoney_OutOfBounds : PySem.W.subIn K (.ref f_TooMuchMoney) (.ref f_OutOfBounds) = some false)
    (xp_TooMuchMoney_TurnpikeError : PySem.W.subIn K (.ref f_TooMuchMoney) (.ref f_TurnpikeError) = some true)
    (xp_TurnpikeError_OutOfBounds : PySem.W.subIn K (.ref f_TurnpikeError) (.ref f_OutOfBounds) = some false)
    (xp_TurnpikeError_TooMuchMoney : PySem.W.subIn K (.ref f_TurnpikeError) (.ref f_TooMuchMoney) = some false)
    : ∃ fd : FuncData, (∀ (s : Shared) (v : Value), BindsTo s fd ⟨[v], []⟩ [("script", v)]) ∧ ∀ base : Heap, K.In base → base.Ns mainGlobals mg → FnOk l.prog w K mg base CX0 6 fa fd ["script"] (spR K R_law) := by
  have e := hfa.symm.trans (PySem.W.mg_of X G g_law)
  cases e
  have F__law_number := fun_mk (st := s__law_number) l__law_number c__law_number k__law_number
  have b__law_number := F__law_number.binds (ps := ["script", "k"]) fun _ _ _ _ _ _ us hl => match us, hl with | [_, _], _ => rfl
  have F__law_amount := fun_mk (st := s__law_amount) l__law_amount c__law_amount k__law_amount
  have b__law_amount := F__law_amount.binds (ps := ["number"]) fun _ _ _ _ _ _ us hl => match us, hl with | [_], _ => rfl
  have F__law_tolls := fun_mk (st := s__law_tolls) l__law_tolls c__law_tolls k__law_tolls
  have b__law_tolls := F__law_tolls.binds (ps := ["script", "k", "many"]) fun _ _ _ _ _ _ us hl => match us, hl with | [_, _, _], _ => rfl
  have F__law_height := fun_mk (st := s__law_height) l__law_height c__law_height k__law_height
  have b__law_height := F__law_height.binds (ps := ["number"]) fun _ _ _ _ _ _ us hl => match us, hl with | [_], _ => rfl
  have F__law_due := fun_mk (st := s__law_due) l__law_due c__law_due k__law_due
  have b__law_due := F__law_due.binds (ps := ["amount", "deadline", "tolls"]) fun _ _ _ _ _ _ us hl => match us, hl with | [_, _, _], _ => rfl
  have F__law_same := fun_mk (st := s__law_same) l__law_same c__law_same k__law_same
  have b__law_same := F__law_same.binds (ps := ["one", "two"]) fun _ _ _ _ _ _ us hl => match us, hl with | [_, _], _ => rfl
  have F_must_come_in := fun_mk (st := s_must_come_in) l_must_come_in c_must_come_in k_must_come_in
  have b_must_come_in := F_must_come_in.binds (ps := ["toll", "amount"]) fun _ _ _ _ _ _ us hl => match us, hl with | [_, _], _ => rfl
  have F_unbounded_legs := fun_mk (st := s_unbounded_legs) l_unbounded_legs c_unbounded_legs k_unbounded_legs
  have b_unbounded_legs := F_unbounded_legs.binds (ps := ["amount", "deadline", "tolls"]) fun _ _ _ _ _ _ us hl => match us, hl with | [_, _, _], _ => rfl
  have F_legs := fun_mk (st := s_legs) l_legs c_legs k_legs
  have b_legs := F_legs.binds (ps := ["amount", "deadline", "tolls"]) fun _ _ _ _ _ _ us hl => match us, hl with | [_, _, _], _ => rfl
  have F_law := fun_mk (st := s_law) l_law c_law k_law
  have b_law := F_law.binds (ps := ["script"]) fun _ _ _ _ _ _ us hl => match us, hl with | [_], _ => rfl
  let T : Txt K mg := {
    a__law_number := _, fd__law_number := _, F__law_number := F__law_number, b__law_number := b__law_number,
    m__law_number := PySem.W.mg_of X G g__law_number,
    a__law_amount := _, fd__law_amount := _, F__law_amount := F__law_amount, b__law_amount := b__law_amount,
    m__law_amount := PySem.W.mg_of X G g__law_amount,
    a__law_tolls := _, fd__law_tolls := _, F__law_tolls := F__law_tolls, b__law_tolls := b__law_tolls,
    m__law_tolls := PySem.W.mg_of X G g__law_tolls,
    a__law_height := _, fd__law_height := _, F__law_height := F__law_height, b__law_height := b__law_height,
    m__law_height := PySem.W.mg_of X G g__law_height,
    a__law_due := _, fd__law_due := _, F__law_due := F__law_due, b__law_due := b__law_due,
    m__law_due := PySem.W.mg_of X G g__law_due,
    a__law_same := _, fd__law_same := _, F__law_same := F__law_same, b__law_same := b__law_same,
    m__law_same := PySem.W.mg_of X G g__law_same,
    a_must_come_in := _, fd_must_come_in := _, F_must_come_in := F_must_come_in, b_must_come_in := b_must_come_in,
    m_must_come_in := PySem.W.mg_of X G g_must_come_in,
    a_unbounded_legs := _, fd_unbounded_legs := _, F_unbounded_legs := F_unbounded_legs, b_unbounded_legs := b_unbounded_legs,
    m_unbounded_legs := PySem.W.mg_of X G g_unbounded_legs,
    a_legs := _, fd_legs := _, F_legs := F_legs, b_legs := b_legs,
    m_legs := PySem.W.mg_of X G g_legs,
    a_law := _, fd_law := _, F_law := F_law, b_law := b_law,
    m_law := PySem.W.mg_of X G g_law,
    t_GREATEST_AMOUNT := _, m_GREATEST_AMOUNT := PySem.W.mg_of X G v_GREATEST_AMOUNT,
    t_MOST_TOLLS := _, m_MOST_TOLLS := PySem.W.mg_of X G v_MOST_TOLLS,
    m_all := PySem.W.mg_none_of X G z_all,
    m_bool := PySem.W.mg_none_of X G z_bool,
    m_int := PySem.W.mg_none_of X G z_int,
    m_isinstance := PySem.W.mg_none_of X G z_isinstance,
    m_len := PySem.W.mg_none_of X G z_len,
    m_list := PySem.W.mg_none_of X G z_list,
    m_max := PySem.W.mg_none_of X G z_max,
    m_range := PySem.W.mg_none_of X G z_range,
    m_reversed := PySem.W.mg_none_of X G z_reversed,
    m_str := PySem.W.mg_none_of X G z_str,
    m_tuple := PySem.W.mg_none_of X G z_tuple,
    a_OutOfBounds := _, m_OutOfBounds := PySem.W.mg_of X G g_OutOfBounds, e_OutOfBounds := ⟨xx_OutOfBounds, xk_OutOfBounds, ⟨xg_OutOfBounds, xh_OutOfBounds, xs_OutOfBounds, xd_OutOfBounds, xa_OutOfBounds, xn, xtk, xm_OutOfBounds⟩, xt_OutOfBounds, xi_OutOfBounds, xu_OutOfBounds⟩,
    a_TooMuchMoney := _, m_TooMuchMoney := PySem.W.mg_of X G g_TooMuchMoney, e_TooMuchMoney := ⟨xx_TooMuchMoney, xk_TooMuchMoney, ⟨xg_TooMuchMoney, xh_TooMuchMoney, xs_TooMuchMoney, xd_TooMuchMoney, xa_TooMuchMoney, xn, xtk, xm_TooMuchMoney⟩, xt_TooMuchMoney, xi_TooMuchMoney, xu_TooMuchMoney⟩,
    a_TurnpikeError := _, m_TurnpikeError := PySem.W.mg_of X G g_TurnpikeError, e_TurnpikeError := ⟨xx_TurnpikeError, xk_TurnpikeError, ⟨xg_TurnpikeError, xh_TurnpikeError, xs_TurnpikeError, xd_TurnpikeError, xa_TurnpikeError, xn, xtk, xm_TurnpikeError⟩, xt_TurnpikeError, xi_TurnpikeError, xu_TurnpikeError⟩,
    u_OutOfBounds_TooMuchMoney := xp_OutOfBounds_TooMuchMoney,
    u_OutOfBounds_TurnpikeError := xp_OutOfBounds_TurnpikeError,
    u_TooMuchMoney_OutOfBounds := xp_TooMuchMoney_OutOfBounds,
    u_TooMuchMoney_TurnpikeError := xp_TooMuchMoney_TurnpikeError,
    u_TurnpikeError_OutOfBounds := xp_TurnpikeError_OutOfBounds,
    u_TurnpikeError_TooMuchMoney := xp_TurnpikeError_TooMuchMoney,
  }
  exact ⟨PySem.W.fnOf "law" "law" (defArgs s_law) (defBody s_law) (defScope s_law) .none kV_law dc_law pm_law an_law cd_law ct_law, fun s v => .of_eq rfl, fun base _ _ => ok_law T⟩
theorem sp_of {K : PySem.W.Frag} {H : Hp} {a : Addr} {ns : List Int} (hl : ns.length ≤ 63) (hS : SqL K H a (ns.map V.int)) : spR K R_law [.ref a] H (fun v _ => v = .bl true) (fun _ _ _ => False) :=
  ⟨[.bor (ns.map .int)], .dat (.bool true), ⟨ns, rfl, hl, rfl⟩, .cons ⟨a, _, rfl, hS, TpA.ints ns⟩ .nil, fun v J _ hv => Tp.bl_of hv⟩
theorem walk {l : PySem.W.OpenLaw} {q : Program} {loose : List Str} {XP : (Str → Option Value) → Heap → Prop} {YP : World → Heap → Prop} {d : DefRec} {K : Params → PySem.W.Frag} (hn : l.most = some 63) (hdf : d.params.defaults = [])
    (hY : ∀ (w : World) (h : Heap), YP w h → (K w.params).In h)
    (F : ∀ (w : World) (mg : Str → Option Value) (fa : Addr) (h : Heap), (K w.params).In h → h.Ns mainGlobals mg → mg d.name = some (.ref fa) →
      ∃ fd : FuncData, (∀ (s : Shared) (u : Value), BindsTo s fd ⟨[u], []⟩ [("script", u)]) ∧ ∀ base : Heap, (K w.params).In base → base.Ns mainGlobals mg → FnOk l.prog w (K w.params) mg base CX0 6 fa fd ["script"] (spR (K w.params) R_law)) :
    PySem.W.WalkO q loose XP YP l.row.toRowW d [] (fun f vs => PySem.call f vs) :=
  L2.walk_of (n := 63) (k := 6) (x := "script") (CX := fun _ => CX0) (sp := fun w => spR (K w.params) R_law) hn (by decide) hdf ⟨rfl, by decide, by decide⟩ hY F (fun _ _ _ _ hl _ hS => sp_of hl hS) fun _ _ _ _ _ z => z
end Tw
open PySem PySem.W PyProof.Rows
set_option maxRecDepth 100000 in
set_option maxHeartbeats 0 in
theorem PySem.Challenge.cw_turnpike_k11_legs_holds : PySem.Challenge.rw_turnpike_k11_legs.Holds := by
  w_on; o_law; k_head; (case hw => w_witness2)
  k_fill
  refine Tw.walk (l := PySem.Challenge.rw_turnpike_k11_legs) rfl rfl (fun w h Y => PySem.W.kIn_of Y) ?F
  case F =>
    intro w mg fa h KX G hmg
    refine' Tw.all_mk KX G hmg ?g__law_number ?l__law_number ?c__law_number ?k__law_number ?g__law_amount ?l__law_amount ?c__law_amount ?k__law_amount ?g__law_tolls ?l__law_tolls ?c__law_tolls ?k__law_tolls ?g__law_height ?l__law_height ?c__law_height ?k__law_height ?g__law_due ?l__law_due ?c__law_due ?k__law_due ?g__law_same ?l__law_same ?c__law_same ?k__law_same ?g_must_come_in ?l_must_come_in ?c_must_come_in ?k_must_come_in ?g_unbounded_legs ?l_unbounded_legs ?c_unbounded_legs ?k_unbounded_legs ?g_legs ?l_legs ?c_legs ?k_legs ?g_law ?l_law ?c_law ?k_law ?v_GREATEST_AMOUNT ?v_MOST_TOLLS ?z_all ?z_bool ?z_int ?z_isinstance ?z_len ?z_list ?z_max ?z_range ?z_reversed ?z_str ?z_tuple ?xn ?xtk ?g_OutOfBounds ?xx_OutOfBounds ?xk_OutOfBounds ?xg_OutOfBounds ?xh_OutOfBounds ?xs_OutOfBounds ?xd_OutOfBounds ?xa_OutOfBounds ?xm_OutOfBounds ?xt_OutOfBounds ?xi_OutOfBounds ?xu_OutOfBounds ?g_TooMuchMoney ?xx_TooMuchMoney ?xk_TooMuchMoney ?xg_TooMuchMoney ?xh_TooMuchMoney ?xs_TooMuchMoney ?xd_TooMuchMoney ?xa_TooMuchMoney ?xm_TooMuchMoney ?xt_TooMuchMoney ?xi_TooMuchMoney ?xu_TooMuchMoney ?g_TurnpikeError ?xx_TurnpikeError ?xk_TurnpikeError ?xg_TurnpikeError ?xh_TurnpikeError ?xs_TurnpikeError ?xd_TurnpikeError ?xa_TurnpikeError ?xm_TurnpikeError ?xt_TurnpikeError ?xi_TurnpikeError ?xu_TurnpikeError ?xp_OutOfBounds_TooMuchMoney ?xp_OutOfBounds_TurnpikeError ?xp_TooMuchMoney_OutOfBounds ?xp_TooMuchMoney_TurnpikeError ?xp_TurnpikeError_OutOfBounds ?xp_TurnpikeError_TooMuchMoney
    (case g__law_number => k_is)
    (case l__law_number => k_is)
    (case c__law_number => k_is)
    (case k__law_number => k_is)
    (case g__law_amount => k_is)
    (case l__law_amount => k_is)
    (case c__law_amount => k_is)
    (case k__law_amount => k_is)
    (case g__law_tolls => k_is)
    (case l__law_tolls => k_is)
    (case c__law_tolls => k_is)
    (case k__law_tolls => k_is)
    (case g__law_height => k_is)
    (case l__law_height => k_is)
    (case c__law_height => k_is)
    (case k__law_height => k_is)
    (case g__law_due => k_is)
    (case l__law_due => k_is)
    (case c__law_due => k_is)
    (case k__law_due => k_is)
    (case g__law_same => k_is)
    (case l__law_same => k_is)
    (case c__law_same => k_is)
    (case k__law_same => k_is)
    (case g_must_come_in => k_is)
    (case l_must_come_in => k_is)
    (case c_must_come_in => k_is)
    (case k_must_come_in => k_is)
    (case g_unbounded_legs => k_is)
    (case l_unbounded_legs => k_is)
    (case c_unbounded_legs => k_is)
    (case k_unbounded_legs => k_is)
    (case g_legs => k_is)
    (case l_legs => k_is)
    (case c_legs => k_is)
    (case k_legs => k_is)
    (case g_law => k_is)
    (case l_law => k_is)
    (case c_law => k_is)
    (case k_law => k_is)
    (case v_GREATEST_AMOUNT => k_is)
    (case v_MOST_TOLLS => k_is)
    (case z_all => k_is)
    (case z_bool => k_is)
    (case z_int => k_is)
    (case z_isinstance => k_is)
    (case z_len => k_is)
    (case z_list => k_is)
    (case z_max => k_is)
    (case z_range => k_is)
    (case z_reversed => k_is)
    (case z_str => k_is)
    (case z_tuple => k_is)
    (case xn => k_is)
    (case xtk => k_is)
    (case g_OutOfBounds => k_is)
    (case xx_OutOfBounds => k_exc)
    (case xk_OutOfBounds => k_is)
    (case xg_OutOfBounds => k_is)
    (case xh_OutOfBounds => k_is)
    (case xs_OutOfBounds => k_is)
    (case xd_OutOfBounds => k_is)
    (case xa_OutOfBounds => k_is)
    (case xm_OutOfBounds => k_is)
    (case xt_OutOfBounds => k_is)
    (case xi_OutOfBounds => k_is)
    (case xu_OutOfBounds => first | rfl | k_is)
    (case g_TooMuchMoney => k_is)
    (case xx_TooMuchMoney => k_exc)
    (case xk_TooMuchMoney => k_is)
    (case xg_TooMuchMoney => k_is)
    (case xh_TooMuchMoney => k_is)
    (case xs_TooMuchMoney => k_is)
    (case xd_TooMuchMoney => k_is)
    (case xa_TooMuchMoney => k_is)
    (case xm_TooMuchMoney => k_is)
    (case xt_TooMuchMoney => k_is)
    (case xi_TooMuchMoney => k_is)
    (case xu_TooMuchMoney => first | rfl | k_is)
    (case g_TurnpikeError => k_is)
    (case xx_TurnpikeError => k_exc)
    (case xk_TurnpikeError => k_is)
    (case xg_TurnpikeError => k_is)
    (case xh_TurnpikeError => k_is)
    (case xs_TurnpikeError => k_is)
    (case xd_TurnpikeError => k_is)
    (case xa_TurnpikeError => k_is)
    (case xm_TurnpikeError => k_is)
    (case xt_TurnpikeError => k_is)
    (case xi_TurnpikeError => k_is)
    (case xu_TurnpikeError => first | rfl | k_is)
    (case xp_OutOfBounds_TooMuchMoney => k_is)
    (case xp_OutOfBounds_TurnpikeError => k_is)
    (case xp_TooMuchMoney_OutOfBounds => k_is)
    (case xp_TooMuchMoney_TurnpikeError => k_is)
    (case xp_TurnpikeError_OutOfBounds => k_is)
    (case xp_TurnpikeError_TooMuchMoney => k_is)
