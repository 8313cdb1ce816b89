import PyProof.Rows.All
import Wide.All
import OpenK.AllK
import Wide.FinOn
import HandS.ForMost
import HandS.IsInst
import HandS.Style
import HandS.Defaults
import HandS.TupAny
import HandS.ListItems
import HandS.Rev
import HandS.Exc
import HandS.ExcOwn
import HandS.WordsExc
import HandS.TryOnly
import HandS.CallSlots
import HandS.RaiseMore
import HandS.FStr
import HandS.ExcIs
import HandS.Wide
import PySem.Challenge.RW_turnpike_k14_waiting_bounds
set_option Elab.async false
set_option linter.all false
set_option maxRecDepth 100000
set_option maxHeartbeats 4000000
/-! Turnpike: readings over plain data. -/
namespace Tn
open PySem L2

/-! ### heaps that grow -/
def Gr (H J : Hp) : Prop := ∀ a o, H a = some o → J a = some o
theorem Gr.rfl' (H : Hp) : Gr H H := fun _ _ z => z
theorem Gr.tr {H J L : Hp} (f : Gr H J) (g : Gr J L) : Gr H L := fun a o z => g a o (f a o z)
theorem Gr.lay {H : Hp} {p : Addr} {o : HO} (hp : H p = none) : Gr H (upd H p o) := by
  intro a u ha
  have n : a ≠ p := ne_of_none ha hp
  rw [upd_ne n]; exact ha
theorem Gr.lay2 {H J : Hp} {p : Addr} {o : HO} (g : Gr H J) (hp : H p = none) : Gr H (upd J p o) := by
  intro a u ha
  have n : a ≠ p := ne_of_none ha hp
  rw [upd_ne n]; exact g a u ha
theorem Gr.free {H J : Hp} {p : Addr} (g : Gr H J) (hp : J p = none) : H p = none := by
  cases e : H p with
  | none => rfl
  | some o => rw [g p o e] at hp; cases hp
theorem Gr.rd {H J : Hp} {a : Addr} {u : HO} (g : Gr H J) (h : Rd H a u) : Rd J a u := by
  rcases h with h | ⟨o, h⟩
  · exact .inl (g _ _ h)
  · exact .inr ⟨o, g _ _ h⟩
section
variable {K : PySem.W.Frag}
theorem Gr.sq {H J : Hp} {a : Addr} {xs : List V} (g : Gr H J) (h : SqL K H a xs) : SqL K J a xs := by
  rcases h with h | h
  · exact .inl (g.rd h)
  · exact .inr h
theorem Gr.st {H J : Hp} {a : Addr} {xs : List V} (g : Gr H J) (h : SqT K H a xs) : SqT K J a xs := by
  rcases h with h | h
  · exact .inl (g.rd h)
  · exact .inr h
/-- a tuple stays a tuple when something else is stored at the place of a list or a dict -/
theorem st_upd {H : Hp} {a p : Addr} {xs ys : List V} {o : HO} (h : SqT K H a xs) (hp : H p = some (.lst ys)) : SqT K (upd H p o) a xs := by
  rcases h with h | h
  · refine .inl ?_
    rcases h with h | ⟨o', h⟩
    · refine .inl ?_
      have n : a ≠ p := ne_of h hp (by intro z; cases z)
      rw [upd_ne n]; exact h
    · refine .inr ⟨o', ?_⟩
      have n : a ≠ p := ne_of h hp (by intro z; cases z)
      rw [upd_ne n]; exact h
  · exact .inr h
theorem st_updD {H : Hp} {a p : Addr} {xs : List V} {ys : List (Key × V)} {o : HO} (h : SqT K H a xs) (hp : H p = some (.dK ys)) : SqT K (upd H p o) a xs := by
  rcases h with h | h
  · refine .inl ?_
    rcases h with h | ⟨o', h⟩
    · refine .inl ?_
      have n : a ≠ p := ne_of h hp (by intro z; cases z)
      rw [upd_ne n]; exact h
    · refine .inr ⟨o', ?_⟩
      have n : a ≠ p := ne_of h hp (by intro z; cases z)
      rw [upd_ne n]; exact h
  · exact .inr h

/-! ### values as data: nothing that can change -/
mutual
inductive Tp (K : PySem.W.Frag) (H : Hp) : V → PyData → Prop
  | non : Tp K H .non .none
  | bl (b : Bool) : Tp K H (.bl b) (.bool b)
  | int (i : Int) : Tp K H (.int i) (.int i)
  | str (x : Str) : Tp K H (.str x) (.str x)
  | tup {a : Addr} {xs : List V} {ds : List PyData} : SqT K H a xs → TpA K H xs ds → Tp K H (.ref a) (.tuple ds)
inductive TpA (K : PySem.W.Frag) (H : Hp) : List V → List PyData → Prop
  | nil : TpA K H [] []
  | cons {v : V} {vs : List V} {d : PyData} {ds : List PyData} : Tp K H v d → TpA K H vs ds → TpA K H (v :: vs) (d :: ds)
end
/-- heaps between which tuples stay -/
def Tm (K : PySem.W.Frag) (H J : Hp) : Prop := ∀ a xs, SqT K H a xs → SqT K J a xs
theorem Gr.tm {H J : Hp} (g : Gr H J) : Tm K H J := fun _ _ z => g.st z
mutual
theorem Tp.mono {H J : Hp} (g : Tm K H J) : ∀ {v : V} {d : PyData}, Tp K H v d → Tp K J v d
  | _, _, .non => .non
  | _, _, .bl b => .bl b
  | _, _, .int i => .int i
  | _, _, .str x => .str x
  | _, _, .tup h ha => .tup (g _ _ h) (TpA.mono g ha)
theorem TpA.mono {H J : Hp} (g : Tm K H J) : ∀ {vs : List V} {ds : List PyData}, TpA K H vs ds → TpA K J vs ds
  | _, _, .nil => .nil
  | _, _, .cons h ha => .cons (Tp.mono g h) (TpA.mono g ha)
end
theorem Tp.int_of {H : Hp} {v : V} {i : Int} (h : Tp K H v (.int i)) : v = .int i := by cases h; rfl
theorem Tp.bl_of {H : Hp} {v : V} {b : Bool} (h : Tp K H v (.bool b)) : v = .bl b := by cases h; rfl
theorem Tp.str_of {H : Hp} {v : V} {b : Str} (h : Tp K H v (.str b)) : v = .str b := by cases h; rfl
theorem Tp.non_of {H : Hp} {v : V} (h : Tp K H v .none) : v = .non := by cases h; rfl
theorem Tp.tup_of {H : Hp} {v : V} {ds : List PyData} (h : Tp K H v (.tuple ds)) : ∃ a xs, v = .ref a ∧ SqT K H a xs ∧ TpA K H xs ds := by
  cases h with
  | tup h ha => exact ⟨_, _, rfl, h, ha⟩
theorem TpA.length {H : Hp} : ∀ {vs : List V} {ds : List PyData}, TpA K H vs ds → vs.length = ds.length
  | _, _, .nil => rfl
  | _, _, .cons _ t => by rw [List.length_cons, List.length_cons, TpA.length t]
theorem TpA.get {H : Hp} : ∀ {vs : List V} {ds : List PyData} {i : Nat} {d : PyData}, TpA K H vs ds → ds[i]? = some d → ∃ v, vs[i]? = some v ∧ Tp K H v d
  | _, _, _, _, .nil, e => by simp at e
  | _, _, 0, _, .cons r _, e => by simp at e; subst e; exact ⟨_, rfl, r⟩
  | _, _, i + 1, d, .cons _ t, e => by
    obtain ⟨u, h1, h2⟩ := TpA.get (i := i) (d := d) t (by simpa using e)
    exact ⟨u, by simpa using h1, h2⟩
theorem TpA.getV {H : Hp} : ∀ {vs : List V} {ds : List PyData} {i : Nat} {v : V}, TpA K H vs ds → vs[i]? = some v → ∃ d, ds[i]? = some d ∧ Tp K H v d
  | _, _, _, _, .nil, e => by simp at e
  | _, _, 0, _, .cons r _, e => by simp at e; subst e; exact ⟨_, rfl, r⟩
  | _, _, i + 1, d, .cons _ t, e => by
    obtain ⟨u, h1, h2⟩ := TpA.getV (i := i) (v := d) t (by simpa using e)
    exact ⟨u, by simpa using h1, h2⟩
theorem TpA.app {H : Hp} : ∀ {vs us : List V} {ds es : List PyData}, TpA K H vs ds → TpA K H us es → TpA K H (vs ++ us) (ds ++ es)
  | _, _, _, _, .nil, s => s
  | _, _, _, _, .cons r t, s => .cons r (TpA.app t s)
theorem TpA.take {H : Hp} : ∀ {vs : List V} {ds : List PyData} (n : Nat), TpA K H vs ds → TpA K H (vs.take n) (ds.take n)
  | _, _, 0, _ => by rw [List.take_zero, List.take_zero]; exact .nil
  | _, _, _ + 1, .nil => .nil
  | _, _, n + 1, .cons r t => .cons r (TpA.take n t)
theorem TpA.drop {H : Hp} : ∀ {vs : List V} {ds : List PyData} (n : Nat), TpA K H vs ds → TpA K H (vs.drop n) (ds.drop n)
  | _, _, 0, r => r
  | _, _, _ + 1, .nil => .nil
  | _, _, n + 1, .cons _ t => TpA.drop n t
theorem TpA.set {H : Hp} {x : V} {u : PyData} (r : Tp K H x u) : ∀ {xs : List V} {us : List PyData} (i : Nat), TpA K H xs us → TpA K H (xs.set i x) (us.set i u)
  | _, _, _, .nil => .nil
  | _, _, 0, .cons _ t => .cons r t
  | _, _, i + 1, .cons q t => .cons q (TpA.set r i t)
theorem TpA.erase {H : Hp} : ∀ {xs : List V} {us : List PyData} (i : Nat), TpA K H xs us → TpA K H (xs.eraseIdx i) (us.eraseIdx i)
  | _, _, _, .nil => .nil
  | _, _, 0, .cons _ t => t
  | _, _, i + 1, .cons q t => .cons q (TpA.erase i t)
theorem TpA.ints {H : Hp} : ∀ (ns : List Int), TpA K H (ns.map V.int) (ns.map PyData.int)
  | [] => .nil
  | n :: r => .cons (.int n) (TpA.ints r)
theorem TpA.ints_of {H : Hp} : ∀ {vs : List V} {ns : List Int}, TpA K H vs (ns.map PyData.int) → vs = ns.map V.int
  | _, [], h => by cases h; rfl
  | _, n :: r, h => by
    rw [List.map_cons] at h
    cases h with
    | cons h1 h2 => rw [h1.int_of, TpA.ints_of h2, List.map_cons]
mutual
theorem Tp.dp {H : Hp} : ∀ {v : V} {d : PyData}, Tp K H v d → Dp K H v d
  | _, _, .non => .non
  | _, _, .bl b => .bl b
  | _, _, .int i => .int i
  | _, _, .str x => .str x
  | _, _, .tup h ha => .tup h (TpA.dp ha)
theorem TpA.dp {H : Hp} : ∀ {vs : List V} {ds : List PyData}, TpA K H vs ds → DpAll K H vs ds
  | _, _, .nil => .nil
  | _, _, .cons h ha => .cons (Tp.dp h) (TpA.dp ha)
end

/-! ### what a slot holds -/
inductive KvA (K : PySem.W.Frag) (H : Hp) : List (Key × V) → List (Key × PyData) → Prop
  | nil : KvA K H [] []
  | cons {k : Key} {v : V} {d : PyData} {vs : List (Key × V)} {ds : List (Key × PyData)} : Tp K H v d → KvA K H vs ds → KvA K H ((k, v) :: vs) ((k, d) :: ds)
theorem KvA.mono {H J : Hp} (g : Tm K H J) : ∀ {vs : List (Key × V)} {ds : List (Key × PyData)}, KvA K H vs ds → KvA K J vs ds
  | _, _, .nil => .nil
  | _, _, .cons h t => .cons (h.mono g) (KvA.mono g t)
theorem KvA.length {H : Hp} : ∀ {vs : List (Key × V)} {ds : List (Key × PyData)}, KvA K H vs ds → vs.length = ds.length
  | _, _, .nil => rfl
  | _, _, .cons _ t => by rw [List.length_cons, List.length_cons, KvA.length t]
/-- what an attribute's own container holds: a dict of data, a list of instances, a dict of instances -/
inductive CT where
  | m (kvs : List (Key × PyData)) | lo (as : List Addr) | mo (kas : List (Key × Addr))
/-- an attribute of an instance: data, a list at its place, another instance, another container at its place -/
inductive FD where
  | d (x : PyData) | l (q : Addr) (ds : List PyData) | o (q : Addr) | c (q : Addr) (t : CT)
def Cont (o : HO) : Prop := (∃ vs, o = .lst vs) ∨ ∃ vs, o = .dK vs
theorem Cont.ntup {o : HO} (h : Cont o) : (∀ xs, o ≠ .tup xs) ∧ ∀ u xs, o ≠ .frz u (.tup xs) := by
  rcases h with ⟨vs, rfl⟩ | ⟨vs, rfl⟩ <;> exact ⟨fun _ z => (by cases z), fun _ _ z => (by cases z)⟩
theorem Cont.nins {o : HO} (h : Cont o) {C dx : Addr} {fs : List (Str × V)} : o ≠ .ins C dx fs := by
  rcases h with ⟨vs, rfl⟩ | ⟨vs, rfl⟩ <;> intro z <;> cases z
theorem Cont.nsolid {o : HO} (h : Cont o) : ¬ ((∃ xs, o = .tup xs) ∨ ∃ u xs, o = .frz u (.tup xs)) := fun z => by
  rcases z with ⟨xs, z⟩ | ⟨u, xs, z⟩
  · exact h.ntup.1 xs z
  · exact h.ntup.2 u xs z
def CV (K : PySem.W.Frag) (H : Hp) (o : HO) : CT → Prop
  | .m kvs => ∃ vs, o = .dK vs ∧ KvA K H vs kvs
  | .lo as => o = .lst (as.map V.ref)
  | .mo kas => o = .dK (kas.map fun p => (p.1, V.ref p.2))
theorem CV.mono {H J : Hp} {o : HO} {t : CT} (g : Tm K H J) (h : CV K H o t) : CV K J o t := by
  cases t with
  | m kvs => obtain ⟨vs, e, h1⟩ := h; exact ⟨vs, e, h1.mono g⟩
  | lo as => exact h
  | mo kas => exact h
theorem CV.cont {H : Hp} {o : HO} {t : CT} (h : CV K H o t) : Cont o := by
  cases t with
  | m kvs => obtain ⟨vs, e, h1⟩ := h; exact .inr ⟨vs, e⟩
  | lo as => exact .inl ⟨_, h⟩
  | mo kas => exact .inr ⟨_, h⟩
def FV (K : PySem.W.Frag) (B H : Hp) (v : V) : FD → Prop
  | .d x => Tp K H v x
  | .l q ds => v = .ref q ∧ ∃ vs, B q = some (.lst vs) ∧ TpA K H vs ds
  | .o q => v = .ref q
  | .c q t => v = .ref q ∧ ∃ o, B q = some o ∧ CV K H o t
def FsA (K : PySem.W.Frag) (B H : Hp) : List (Str × V) → List (Str × FD) → Prop
  | [], [] => True
  | (n, v) :: fv, (m, s) :: fs => n = m ∧ FV K B H v s ∧ FsA K B H fv fs
  | _, _ => False
theorem FV.to {B H C J : Hp} {v : V} {s : FD} (g : Tm K H J) (b : ∀ q o, Cont o → B q = some o → C q = some o) (h : FV K B H v s) : FV K C J v s := by
  cases s with
  | d x => exact Tp.mono g h
  | l q ds => obtain ⟨e, vs, h1, h2⟩ := h; exact ⟨e, vs, b _ _ (.inl ⟨_, rfl⟩) h1, h2.mono g⟩
  | o q => exact h
  | c q t => obtain ⟨e, o, h1, h2⟩ := h; exact ⟨e, o, b _ _ h2.cont h1, h2.mono g⟩
theorem FsA.to {B H C J : Hp} (g : Tm K H J) (b : ∀ q o, Cont o → B q = some o → C q = some o) : ∀ {fv : List (Str × V)} {fs : List (Str × FD)}, FsA K B H fv fs → FsA K C J fv fs
  | [], [], _ => trivial
  | (n, v) :: fv, (m, s) :: fs, ⟨h1, h2, h3⟩ => ⟨h1, h2.to g b, FsA.to g b h3⟩
  | [], _ :: _, h => h.elim
  | _ :: _, [], h => h.elim
/-- instances that stand in a heap: place, class, attributes -/
def GA (K : PySem.W.Frag) (B H : Hp) (G : List (Addr × Addr × List (Str × FD))) : Prop := ∀ o ∈ G, ∃ dx fv, B o.1 = some (.ins o.2.1 dx fv) ∧ FsA K B H fv o.2.2
theorem GA.to {B H C J : Hp} {G : List (Addr × Addr × List (Str × FD))} (g : Tm K H J) (b : ∀ q o, ((∃ C dx fs, o = .ins C dx fs) ∨ Cont o) → B q = some o → C q = some o) (h : GA K B H G) : GA K C J G := fun o m => by
  obtain ⟨dx, fv, h1, h2⟩ := h o m
  exact ⟨dx, fv, b _ _ (.inl ⟨_, _, _, rfl⟩) h1, h2.to g fun q o c e => b q o (.inr c) e⟩
/-- what was handed in, told of the heap G where it was so -/
inductive SF where
  | bor (ds : List PyData) | borD (kvs : List (Key × PyData)) | bob (a C : Addr) (fs : List (Str × FD)) | gob (a : Addr) (G : List (Addr × Addr × List (Str × FD)))
inductive SD where
  | emp | dat (d : PyData) | own (ds : List PyData) | bor (ds : List PyData) | ownD (kvs : List (Key × PyData)) | borD (kvs : List (Key × PyData)) | raw (v : V) | fix (G : Hp) (s : SF) | bob (a C : Addr) (fs : List (Str × FD)) | gob (a : Addr) (G : List (Addr × Addr × List (Str × FD)))
def VF (K : PySem.W.Frag) (G H : Hp) (v : V) : SF → Prop
  | .bor ds => ∃ a vs, v = .ref a ∧ SqL K G a vs ∧ TpA K H vs ds
  | .borD kvs => ∃ a kv, v = .ref a ∧ Rd G a (.dK kv) ∧ KvA K H kv kvs
  | .bob a C fs => v = .ref a ∧ ∃ dx fv, G a = some (.ins C dx fv) ∧ FsA K G H fv fs
  | .gob a gs => v = .ref a ∧ GA K G H gs
theorem VF.to {G H J : Hp} {v : V} {s : SF} (tm : Tm K H J) (h : VF K G H v s) : VF K G J v s := by
  cases s with
  | bor ds => obtain ⟨a, vs, e, h1, h2⟩ := h; exact ⟨a, vs, e, h1, h2.mono tm⟩
  | borD ds => obtain ⟨a, vs, e, h1, h2⟩ := h; exact ⟨a, vs, e, h1, h2.mono tm⟩
  | bob a C fs => obtain ⟨e, dx, fv, h1, h2⟩ := h; exact ⟨e, dx, fv, h1, h2.to tm fun _ _ _ z => z⟩
  | gob a gs => exact ⟨h.1, h.2.to tm fun _ _ _ z => z⟩
def Solid (o : HO) : Prop := (∃ xs, o = .tup xs) ∨ ∃ u xs, o = .frz u (.tup xs)
/-- what of G can change is of H0 -/
def Gn (G H0 : Hp) : Prop := ∀ a o, ¬ Solid o → G a = some o → H0 a = some o
theorem Gr.gn {G H0 : Hp} (g : Gr G H0) : Gn G H0 := fun a o _ e => g a o e
theorem Gn.then {G H0 H1 : Hp} (g : Gn G H0) (g2 : Gr H0 H1) : Gn G H1 := fun a o n e => g2 _ _ (g a o n e)
theorem lst_solid {xs : List V} : ¬ Solid (.lst xs) := fun s => by rcases s with ⟨_, z⟩ | ⟨_, _, z⟩ <;> cases z
theorem dK_solid {xs : List (Key × V)} : ¬ Solid (.dK xs) := fun s => by rcases s with ⟨_, z⟩ | ⟨_, _, z⟩ <;> cases z
theorem Gn.upd {G H0 H : Hp} {a : Addr} {u o : HO} (g : Gn G H0) (gh : Gr G H) (h0 : H0 a = none) (h : H a = some u) (n : ¬ Solid u) : Gr G (upd H a o) := fun b p e => by
  have nb : b ≠ a := fun z => by
    subst z
    have e2 := gh _ _ e
    rw [h] at e2
    cases e2
    rw [g _ _ n e] at h0
    cases h0
  rw [upd_ne nb]
  exact gh _ _ e
/-- a value, by what a slot says of it: H0 the heap where the def began, H the present one -/
def VS (K : PySem.W.Frag) (H0 H : Hp) (v : V) : SD → Prop
  | .emp => True
  | .dat d => Tp K H v d
  | .bor ds => ∃ a vs, v = .ref a ∧ SqL K H0 a vs ∧ TpA K H vs ds
  | .own ds => ∃ a vs, v = .ref a ∧ H0 a = none ∧ H a = some (.lst vs) ∧ TpA K H vs ds
  | .borD kvs => ∃ a kv, v = .ref a ∧ Rd H0 a (.dK kv) ∧ KvA K H kv kvs
  | .raw u => v = u
  | .bob a C fs => v = .ref a ∧ ∃ dx fv, H0 a = some (.ins C dx fv) ∧ FsA K H0 H fv fs
  | .gob a gs => v = .ref a ∧ GA K H0 H gs
  | .fix G s => Gn G H0 ∧ Gr G H ∧ VF K G H v s
  | .ownD kvs => ∃ a kv, v = .ref a ∧ H0 a = none ∧ H a = some (.dK kv) ∧ KvA K H kv kvs
theorem VS.mono {H0 H J : Hp} {v : V} {s : SD} (g : Gr H J) (h : VS K H0 H v s) : VS K H0 J v s := by
  cases s with
  | emp => trivial
  | raw u => exact h
  | bob a C fs => obtain ⟨e, dx, fv, h1, h2⟩ := h; exact ⟨e, dx, fv, h1, h2.to g.tm fun _ _ _ z => z⟩
  | gob a gs => exact ⟨h.1, h.2.to g.tm fun _ _ _ z => z⟩
  | fix G s => exact ⟨h.1, h.2.1.tr g, h.2.2.to g.tm⟩
  | dat d => exact Tp.mono g.tm h
  | bor ds => obtain ⟨a, vs, e, h1, h2⟩ := h; exact ⟨a, vs, e, h1, h2.mono g.tm⟩
  | own ds => obtain ⟨a, vs, e, h0, h1, h2⟩ := h; exact ⟨a, vs, e, h0, g _ _ h1, h2.mono g.tm⟩
  | borD ds => obtain ⟨a, vs, e, h1, h2⟩ := h; exact ⟨a, vs, e, h1, h2.mono g.tm⟩
  | ownD ds => obtain ⟨a, vs, e, h0, h1, h2⟩ := h; exact ⟨a, vs, e, h0, g _ _ h1, h2.mono g.tm⟩
def SlotOk (K : PySem.W.Frag) (H0 H : Hp) (o : Option V) : SD → Prop
  | .emp => True
  | s => ∃ v, o = some v ∧ VS K H0 H v s
def SD.ows : SD → Bool
  | .own _ => true
  | .ownD _ => true
  | _ => false
/-- the slots σ at the heap H are what δ says -/
structure Sd (K : PySem.W.Frag) (H0 H : Hp) (σ : L2.St) (δ : List SD) : Prop where
  gr : Gr H0 H
  len : σ.length = δ.length
  ok : ∀ (i : Nat) (s : SD), δ[i]? = some s → s ≠ .emp → ∃ v, σ[i]? = some (some v) ∧ VS K H0 H v s
  apart : ∀ (i j : Nat) (s t : SD) (a : Addr), δ[i]? = some s → δ[j]? = some t → s.ows = true → t.ows = true → σ[i]? = some (some (.ref a)) → σ[j]? = some (some (.ref a)) → i = j
theorem Sd.mono {H0 H J : Hp} {σ : L2.St} {δ : List SD} (g : Gr H J) (S : Sd K H0 H σ δ) : Sd K H0 J σ δ :=
  ⟨S.gr.tr g, S.len, fun i s h ne => by obtain ⟨v, h1, h2⟩ := S.ok i s h ne; exact ⟨v, h1, h2.mono g⟩, S.apart⟩
theorem get_set {α : Type} {l : List α} {i j : Nat} {x y : α} (h : (l.set i x)[j]? = some y) : (i = j ∧ y = x ∧ i < l.length) ∨ (i ≠ j ∧ l[j]? = some y) := by
  rw [List.getElem?_set] at h
  by_cases e : i = j
  · subst e
    rw [if_pos rfl] at h
    by_cases hl : i < l.length
    · rw [if_pos hl] at h; exact .inl ⟨rfl, (Option.some.inj h).symm, hl⟩
    · rw [if_neg hl] at h; cases h
  · rw [if_neg e] at h; exact .inr ⟨e, h⟩
theorem set_get_ne {α : Type} {l : List α} {i j : Nat} {x : α} (h : i ≠ j) : (l.set i x)[j]? = l[j]? := by
  rw [List.getElem?_set, if_neg h]
theorem set_get_eq {α : Type} {l : List α} {i : Nat} {x : α} (h : i < l.length) : (l.set i x)[i]? = some x := by
  rw [List.getElem?_set, if_pos rfl, if_pos h]
/-- a slot is stored: what is stored does not own, or stands at a new place -/
theorem Sd.store {H0 H : Hp} {σ : L2.St} {δ : List SD} {i : Nat} {v : V} {s : SD} (S : Sd K H0 H σ δ) (h : VS K H0 H v s) (hn : s.ows = true → ∀ (j : Nat) (t : SD) (a : Addr), i ≠ j → δ[j]? = some t → t.ows = true → σ[j]? = some (some (.ref a)) → v ≠ .ref a) :
    Sd K H0 H (σ.set i (some v)) (δ.set i s) := by
  refine ⟨S.gr, by rw [List.length_set, List.length_set]; exact S.len, fun j t hj ne => ?_, fun j k t u a hj hk ht hu ej ek => ?_⟩
  · rcases get_set hj with ⟨e, rfl, hl⟩ | ⟨e, h2⟩
    · subst e
      exact ⟨v, set_get_eq (by rw [S.len]; exact hl), h⟩
    · obtain ⟨w, h3, h4⟩ := S.ok j t h2 ne
      exact ⟨w, by rw [set_get_ne e]; exact h3, h4⟩
  · rcases get_set hj with ⟨e, rfl, hl⟩ | ⟨e, h2⟩
    · subst e
      rcases get_set hk with ⟨e', rfl, hl'⟩ | ⟨e', h2'⟩
      · exact e'
      · rw [set_get_ne e'] at ek
        rw [set_get_eq (by rw [S.len]; exact hl)] at ej
        exact absurd (Option.some.inj (Option.some.inj ej)) (hn ht k u a e' h2' hu ek)
    · rcases get_set hk with ⟨e', rfl, hl'⟩ | ⟨e', h2'⟩
      · subst e'
        rw [set_get_ne e] at ej
        rw [set_get_eq (by rw [S.len]; exact hl')] at ek
        exact absurd (Option.some.inj (Option.some.inj ek)) (hn hu j t a e h2 ht ej)
      · rw [set_get_ne e] at ej
        rw [set_get_ne e'] at ek
        exact S.apart j k t u a h2 h2' ht hu ej ek
/-- an own place is told in the heap -/
theorem Sd.own_at {H0 H : Hp} {σ : L2.St} {δ : List SD} {j : Nat} {t : SD} {a : Addr} (S : Sd K H0 H σ δ) (h : δ[j]? = some t) (ho : t.ows = true) (e : σ[j]? = some (some (.ref a))) : ∃ o, H a = some o := by
  cases t with
  | own ds =>
    obtain ⟨v, h1, b, vs, rfl, _, h2, _⟩ := S.ok j _ h (by intro z; cases z)
    rw [e] at h1
    cases h1
    exact ⟨_, h2⟩
  | ownD ds =>
    obtain ⟨v, h1, b, vs, rfl, _, h2, _⟩ := S.ok j _ h (by intro z; cases z)
    rw [e] at h1
    cases h1
    exact ⟨_, h2⟩
  | _ => cases ho
theorem Sd.storeD {H0 H : Hp} {σ : L2.St} {δ : List SD} {i : Nat} {v : V} {d : PyData} (S : Sd K H0 H σ δ) (h : Tp K H v d) : Sd K H0 H (σ.set i (some v)) (δ.set i (.dat d)) :=
  S.store h fun z => by cases z
/-- a new list into a slot: J the heap behind, in which it stands -/
theorem Sd.storeN {H0 H J : Hp} {σ : L2.St} {δ : List SD} {i : Nat} {p : Addr} {s : SD} (S : Sd K H0 H σ δ) (g : Gr H J) (hp : H p = none) (h : VS K H0 J (.ref p) s) : Sd K H0 J (σ.set i (some (.ref p))) (δ.set i s) :=
  (S.mono g).store h fun _ j t a _ hj ht ej z => by
    obtain ⟨o, ho⟩ := S.own_at hj ht ej
    cases z
    rw [hp] at ho
    cases ho
/-- a slot is forgotten -/
theorem Sd.drop {H0 H : Hp} {σ : L2.St} {δ : List SD} {i : Nat} (S : Sd K H0 H σ δ) : Sd K H0 H σ (δ.set i .emp) := by
  refine ⟨S.gr, by rw [List.length_set]; exact S.len, fun j t hj ne => ?_, fun j k t u a hj hk ht hu ej ek => ?_⟩
  · rcases get_set hj with ⟨e, rfl, hl⟩ | ⟨e, h2⟩
    · exact absurd rfl ne
    · exact S.ok j t h2 ne
  · rcases get_set hj with ⟨e, rfl, hl⟩ | ⟨e, h2⟩
    · cases ht
    · rcases get_set hk with ⟨e', rfl, hl'⟩ | ⟨e', h2'⟩
      · cases hu
      · exact S.apart j k t u a h2 h2' ht hu ej ek
/-- δ' says no more than δ -/
def Less (δ' δ : List SD) : Prop := δ'.length = δ.length ∧ ∀ (i : Nat) (s : SD), δ'[i]? = some s → s ≠ .emp → δ[i]? = some s
theorem Sd.less {H0 H : Hp} {σ : L2.St} {δ δ' : List SD} (S : Sd K H0 H σ δ) (l : Less δ' δ) : Sd K H0 H σ δ' := by
  refine ⟨S.gr, S.len.trans l.1.symm, fun j t hj ne => S.ok j t (l.2 j t hj ne) ne, fun j k t u a hj hk ht hu ej ek => ?_⟩
  exact S.apart j k t u a (l.2 j t hj (by intro z; subst z; cases ht)) (l.2 k u hk (by intro z; subst z; cases hu)) ht hu ej ek
theorem Less.rfl' (δ : List SD) : Less δ δ := ⟨rfl, fun _ _ h _ => h⟩
theorem Less.nil : Less [] [] := Less.rfl' []
theorem Less.emp {s : SD} {δ δ' : List SD} (l : Less δ' δ) : Less (.emp :: δ') (s :: δ) := ⟨by rw [List.length_cons, List.length_cons, l.1], fun i t h ne => by
  cases i with
  | zero => simp at h; exact absurd h.symm ne
  | succ i => simp at h ⊢; exact l.2 i t h ne⟩
theorem Less.same {s : SD} {δ δ' : List SD} (l : Less δ' δ) : Less (s :: δ') (s :: δ) := ⟨by rw [List.length_cons, List.length_cons, l.1], fun i t h ne => by
  cases i with
  | zero => simpa using h
  | succ i => simp at h ⊢; exact l.2 i t h ne⟩
/-- the own list of slot i is changed -/
theorem Sd.mut {H0 H : Hp} {σ : L2.St} {δ : List SD} {i : Nat} {a : Addr} {ds es : List PyData} {ws : List V} (S : Sd K H0 H σ δ) (hi : δ[i]? = some (.own ds)) (hv : σ[i]? = some (some (.ref a))) (hw : TpA K H ws es) :
    Sd K H0 (upd H a (.lst ws)) σ (δ.set i (.own es)) := by
  obtain ⟨v, h1, b, vs, rfl, h0, h2, h3⟩ := S.ok i _ hi (by intro z; cases z)
  rw [hv] at h1
  cases h1
  have tm : Tm K H (upd H a (.lst ws)) := fun _ _ z => st_upd z h2
  have hil : i < δ.length := (List.getElem?_eq_some_iff.mp hi).1
  refine ⟨Gr.lay2 S.gr h0, by rw [List.length_set]; exact S.len, fun j t hj ne => ?_, fun j k t u c hj hk ht hu ej ek => ?_⟩
  · rcases get_set hj with ⟨e, rfl, hl⟩ | ⟨e, hj2⟩
    · subst e
      exact ⟨_, hv, a, ws, rfl, h0, upd_same, hw.mono tm⟩
    · obtain ⟨v, e1, e2⟩ := S.ok j t hj2 ne
      refine ⟨v, e1, ?_⟩
      cases t with
      | emp => exact absurd rfl ne
      | raw u => exact e2
      | bob c C fs => obtain ⟨e, dx, fv, k1, k2⟩ := e2; exact ⟨e, dx, fv, k1, k2.to tm fun _ _ _ z => z⟩
      | gob c gs => exact ⟨e2.1, e2.2.to tm fun _ _ _ z => z⟩
      | fix G f => exact ⟨e2.1, e2.1.upd e2.2.1 h0 h2 lst_solid, e2.2.2.to tm⟩
      | dat d => exact Tp.mono tm e2
      | bor ds => obtain ⟨c, vs, e, k1, k2⟩ := e2; exact ⟨c, vs, e, k1, k2.mono tm⟩
      | borD ds => obtain ⟨c, vs, e, k1, k2⟩ := e2; exact ⟨c, vs, e, k1, k2.mono tm⟩
      | own ds =>
        obtain ⟨c, vs, rfl, k0, k1, k2⟩ := e2
        have n : c ≠ a := fun z => e (S.apart i j _ _ a hi hj2 rfl rfl hv (by rw [← z]; exact e1))
        exact ⟨c, vs, rfl, k0, by rw [upd_ne n]; exact k1, k2.mono tm⟩
      | ownD ds =>
        obtain ⟨c, vs, rfl, k0, k1, k2⟩ := e2
        have n : c ≠ a := ne_of k1 h2 (by intro z; cases z)
        exact ⟨c, vs, rfl, k0, by rw [upd_ne n]; exact k1, k2.mono tm⟩
  · have gj : ∃ t', δ[j]? = some t' ∧ t'.ows = true := by
      rcases get_set hj with ⟨e, rfl, hl⟩ | ⟨e, hj2⟩
      · subst e; exact ⟨_, hi, rfl⟩
      · exact ⟨t, hj2, ht⟩
    have gk : ∃ t', δ[k]? = some t' ∧ t'.ows = true := by
      rcases get_set hk with ⟨e, rfl, hl⟩ | ⟨e, hj2⟩
      · subst e; exact ⟨_, hi, rfl⟩
      · exact ⟨u, hj2, hu⟩
    obtain ⟨t', a1, a2⟩ := gj
    obtain ⟨u', b1, b2⟩ := gk
    exact S.apart j k t' u' c a1 b1 a2 b2 ej ek
/-- the own dict of slot i is changed -/
theorem Sd.mutD {H0 H : Hp} {σ : L2.St} {δ : List SD} {i : Nat} {a : Addr} {ds es : List (Key × PyData)} {ws : List (Key × V)} (S : Sd K H0 H σ δ) (hi : δ[i]? = some (.ownD ds)) (hv : σ[i]? = some (some (.ref a))) (hw : KvA K H ws es) :
    Sd K H0 (upd H a (.dK ws)) σ (δ.set i (.ownD es)) := by
  obtain ⟨v, h1, b, vs, rfl, h0, h2, h3⟩ := S.ok i _ hi (by intro z; cases z)
  rw [hv] at h1
  cases h1
  have tm : Tm K H (upd H a (.dK ws)) := fun _ _ z => st_updD z h2
  refine ⟨Gr.lay2 S.gr h0, by rw [List.length_set]; exact S.len, fun j t hj ne => ?_, fun j k t u c hj hk ht hu ej ek => ?_⟩
  · rcases get_set hj with ⟨e, rfl, hl⟩ | ⟨e, hj2⟩
    · subst e
      exact ⟨_, hv, a, ws, rfl, h0, upd_same, hw.mono tm⟩
    · obtain ⟨v, e1, e2⟩ := S.ok j t hj2 ne
      refine ⟨v, e1, ?_⟩
      cases t with
      | emp => exact absurd rfl ne
      | raw u => exact e2
      | bob c C fs => obtain ⟨e, dx, fv, k1, k2⟩ := e2; exact ⟨e, dx, fv, k1, k2.to tm fun _ _ _ z => z⟩
      | gob c gs => exact ⟨e2.1, e2.2.to tm fun _ _ _ z => z⟩
      | fix G f => exact ⟨e2.1, e2.1.upd e2.2.1 h0 h2 dK_solid, e2.2.2.to tm⟩
      | dat d => exact Tp.mono tm e2
      | bor ds => obtain ⟨c, vs, e, k1, k2⟩ := e2; exact ⟨c, vs, e, k1, k2.mono tm⟩
      | borD ds => obtain ⟨c, vs, e, k1, k2⟩ := e2; exact ⟨c, vs, e, k1, k2.mono tm⟩
      | ownD ds =>
        obtain ⟨c, vs, rfl, k0, k1, k2⟩ := e2
        have n : c ≠ a := fun z => e (S.apart i j _ _ a hi hj2 rfl rfl hv (by rw [← z]; exact e1))
        exact ⟨c, vs, rfl, k0, by rw [upd_ne n]; exact k1, k2.mono tm⟩
      | own ds =>
        obtain ⟨c, vs, rfl, k0, k1, k2⟩ := e2
        have n : c ≠ a := ne_of k1 h2 (by intro z; cases z)
        exact ⟨c, vs, rfl, k0, by rw [upd_ne n]; exact k1, k2.mono tm⟩
  · have gj : ∃ t', δ[j]? = some t' ∧ t'.ows = true := by
      rcases get_set hj with ⟨e, rfl, hl⟩ | ⟨e, hj2⟩
      · subst e; exact ⟨_, hi, rfl⟩
      · exact ⟨t, hj2, ht⟩
    have gk : ∃ t', δ[k]? = some t' ∧ t'.ows = true := by
      rcases get_set hk with ⟨e, rfl, hl⟩ | ⟨e, hj2⟩
      · subst e; exact ⟨_, hi, rfl⟩
      · exact ⟨u, hj2, hu⟩
    obtain ⟨t', a1, a2⟩ := gj
    obtain ⟨u', b1, b2⟩ := gk
    exact S.apart j k t' u' c a1 b1 a2 b2 ej ek
end
end Tn

namespace Tn
open PySem L2
/-! ### what values can be passed -/
inductive VA (K : PySem.W.Frag) (H : Hp) : List V → List SD → Prop
  | nil : VA K H [] []
  | cons {v : V} {vs : List V} {s : SD} {ss : List SD} : VS K H H v s → VA K H vs ss → VA K H (v :: vs) (s :: ss)
section
variable {K : PySem.W.Frag}
theorem VS.go {H J : Hp} {v : V} {s : SD} (g : Gr H J) (h : VS K H H v s) : VS K J J v s := by
  cases s with
  | emp => trivial
  | raw u => exact h
  | bob a C fs => obtain ⟨e, dx, fv, h1, h2⟩ := h; exact ⟨e, dx, fv, g _ _ h1, h2.to g.tm fun _ _ _ z => g _ _ z⟩
  | gob a gs => exact ⟨h.1, h.2.to g.tm fun _ _ _ z => g _ _ z⟩
  | fix G s => exact ⟨h.1.then g, h.2.1.tr g, h.2.2.to g.tm⟩
  | dat d => exact Tp.mono g.tm h
  | bor ds => obtain ⟨a, vs, e, h1, h2⟩ := h; exact ⟨a, vs, e, g.sq h1, h2.mono g.tm⟩
  | own ds => obtain ⟨a, vs, e, h0, h1, h2⟩ := h; rw [h0] at h1; cases h1
  | borD ds => obtain ⟨a, vs, e, h1, h2⟩ := h; exact ⟨a, vs, e, g.rd h1, h2.mono g.tm⟩
  | ownD ds => obtain ⟨a, vs, e, h0, h1, h2⟩ := h; rw [h0] at h1; cases h1
theorem VA.go {H J : Hp} (g : Gr H J) : ∀ {vs : List V} {ss : List SD}, VA K H vs ss → VA K J vs ss
  | _, _, .nil => .nil
  | _, _, .cons h t => .cons (h.go g) (VA.go g t)
theorem VA.length {H : Hp} : ∀ {vs : List V} {ss : List SD}, VA K H vs ss → vs.length = ss.length
  | _, _, .nil => rfl
  | _, _, .cons _ t => by rw [List.length_cons, List.length_cons, VA.length t]
theorem VA.app {H : Hp} : ∀ {vs us : List V} {ss ts : List SD}, VA K H vs ss → VA K H us ts → VA K H (vs ++ us) (ss ++ ts)
  | _, _, _, _, .nil, s => s
  | _, _, _, _, .cons r t, s => .cons r (VA.app t s)

/-! ### readings over data -/
def DE (K : PySem.W.Frag) (te : TE) (δ : List SD) (d : PyData) : Prop := ∀ (H0 H : Hp) (σ : L2.St), Sd K H0 H σ δ → ∀ Q : VK, (∀ v J, Gr H J → Tp K J v d → Q v J) → te σ H Q
def DL (K : PySem.W.Frag) (te : TE) (δ : List SD) (ds : List PyData) : Prop := ∀ (H0 H : Hp) (σ : L2.St), Sd K H0 H σ δ → ∀ Q : VK, (∀ a vs J, Gr H J → SqL K J a vs → TpA K J vs ds → Q (.ref a) J) → te σ H Q
def DN (K : PySem.W.Frag) (te : TE) (δ : List SD) (ds : List PyData) : Prop := ∀ (H0 H : Hp) (σ : L2.St), Sd K H0 H σ δ → ∀ Q : VK, (∀ p vs J, Gr H J → H p = none → J p = some (.lst vs) → TpA K J vs ds → Q (.ref p) J) → te σ H Q
def DK (K : PySem.W.Frag) (te : TE) (δ : List SD) (ds : List (Key × PyData)) : Prop := ∀ (H0 H : Hp) (σ : L2.St), Sd K H0 H σ δ → ∀ Q : VK, (∀ a vs J, Gr H J → Rd J a (.dK vs) → KvA K J vs ds → Q (.ref a) J) → te σ H Q
def DM (K : PySem.W.Frag) (te : TE) (δ : List SD) (ds : List (Key × PyData)) : Prop := ∀ (H0 H : Hp) (σ : L2.St), Sd K H0 H σ δ → ∀ Q : VK, (∀ p vs J, Gr H J → H p = none → J p = some (.dK vs) → KvA K J vs ds → Q (.ref p) J) → te σ H Q
def DT (K : PySem.W.Frag) (tt : TT) (δ : List SD) (b : Bool) : Prop := ∀ (H0 H : Hp) (σ : L2.St), Sd K H0 H σ δ → ∀ Q : Bool → Hp → Prop, (∀ J, Gr H J → Q b J) → tt σ H Q
def DA (K : PySem.W.Frag) (ta : TA) (δ : List SD) (ss : List SD) : Prop := ∀ (H0 H : Hp) (σ : L2.St), Sd K H0 H σ δ → ∀ Q : List V → Hp → Prop, (∀ vs J, Gr H J → VA K J vs ss → Q vs J) → ta σ H Q
def DO (K : PySem.W.Frag) (to : TO) (δ : List SD) (o : Option Int) : Prop := ∀ (H0 H : Hp) (σ : L2.St), Sd K H0 H σ δ → ∀ Q : Option Int → Hp → Prop, (∀ J, Gr H J → Q o J) → to σ H Q
variable {δ : List SD} {ta tb te : TE} {tt tu : TT} {x y z d e : PyData} {i j : Int} {ds es : List PyData} {ta' : TA}
theorem DE.is (h : DE K te δ d) (q : d = e) : DE K te δ e := q ▸ h
theorem DT.is {a b : Bool} (h : DT K tt δ a) (q : a = b) : DT K tt δ b := q ▸ h
theorem DL.is (h : DL K te δ ds) (q : ds = es) : DL K te δ es := q ▸ h
theorem DN.is (h : DN K te δ ds) (q : ds = es) : DN K te δ es := q ▸ h
theorem de_var {i : Nat} (h : δ[i]? = some (.dat d)) : DE K (tVar i) δ d := fun H0 H σ S Q q => by
  obtain ⟨v, h1, h2⟩ := S.ok i _ h (by intro z; cases z)
  exact ⟨v, h1, q v H (Gr.rfl' H) h2⟩
theorem dl_bor {i : Nat} (h : δ[i]? = some (.bor ds)) : DL K (tVar i) δ ds := fun H0 H σ S Q q => by
  obtain ⟨v, h1, a, vs, rfl, h2, h3⟩ := S.ok i _ h (by intro z; cases z)
  exact ⟨_, h1, q a vs H (Gr.rfl' H) (S.gr.sq h2) h3⟩
theorem dl_own {i : Nat} (h : δ[i]? = some (.own ds)) : DL K (tVar i) δ ds := fun H0 H σ S Q q => by
  obtain ⟨v, h1, a, vs, rfl, h0, h2, h3⟩ := S.ok i _ h (by intro z; cases z)
  exact ⟨_, h1, q a vs H (Gr.rfl' H) (SqL.of h2) h3⟩
theorem dl_fix {i : Nat} {G : Hp} (h : δ[i]? = some (.fix G (.bor ds))) : DL K (tVar i) δ ds := fun H0 H σ S Q q => by
  obtain ⟨v, h1, _, g, a, vs, rfl, h2, h3⟩ := S.ok i _ h (by intro z; cases z)
  exact ⟨_, h1, q a vs H (Gr.rfl' H) (g.sq h2) h3⟩
theorem DN.dl (h : DN K te δ ds) : DL K te δ ds := fun H0 H σ S Q q => h H0 H σ S Q fun p vs J g _ h1 h2 => q p vs J g (SqL.of h1) h2
theorem dk_bor {i : Nat} {ds : List (Key × PyData)} (h : δ[i]? = some (.borD ds)) : DK K (tVar i) δ ds := fun H0 H σ S Q q => by
  obtain ⟨v, h1, a, vs, rfl, h2, h3⟩ := S.ok i _ h (by intro z; cases z)
  exact ⟨_, h1, q a vs H (Gr.rfl' H) (S.gr.rd h2) h3⟩
theorem dk_own {i : Nat} {ds : List (Key × PyData)} (h : δ[i]? = some (.ownD ds)) : DK K (tVar i) δ ds := fun H0 H σ S Q q => by
  obtain ⟨v, h1, a, vs, rfl, h0, h2, h3⟩ := S.ok i _ h (by intro z; cases z)
  exact ⟨_, h1, q a vs H (Gr.rfl' H) (.inl h2) h3⟩
theorem dk_fix {i : Nat} {G : Hp} {ds : List (Key × PyData)} (h : δ[i]? = some (.fix G (.borD ds))) : DK K (tVar i) δ ds := fun H0 H σ S Q q => by
  obtain ⟨v, h1, _, g, a, vs, rfl, h2, h3⟩ := S.ok i _ h (by intro z; cases z)
  exact ⟨_, h1, q a vs H (Gr.rfl' H) (g.rd h2) h3⟩
theorem DM.dk {ds : List (Key × PyData)} (h : DM K te δ ds) : DK K te δ ds := fun H0 H σ S Q q => h H0 H σ S Q fun p vs J g _ h1 h2 => q p vs J g (.inl h1) h2
theorem de_int {i : Int} : DE K (tC (.int i)) δ (.int i) := fun _ H _ _ _ q => q _ H (Gr.rfl' H) (.int i)
theorem de_bl {b : Bool} : DE K (tC (.bl b)) δ (.bool b) := fun _ H _ _ _ q => q _ H (Gr.rfl' H) (.bl b)
theorem de_non : DE K (tC .non) δ .none := fun _ H _ _ _ q => q _ H (Gr.rfl' H) .non
theorem de_str {s : Str} : DE K (tC (.str s)) δ (.str s) := fun _ H _ _ _ q => q _ H (Gr.rfl' H) (.str s)
/-- an operator, by what it does on such values -/
theorem de_op {r : R2} (ha : DE K ta δ x) (hb : DE K tb δ y) (hr : ∀ H u v, Tp K H u x → Tp K H v y → ∀ Q : VK, (∀ w J, Gr H J → Tp K J w z → Q w J) → r u v H Q) : DE K (tOp r ta tb) δ z :=
  fun H0 H σ S Q q => ha H0 H σ S _ fun u J g hu => hb H0 J σ (S.mono g) _ fun v L g2 hv => hr L u v (hu.mono g2.tm) hv Q fun w M g3 hw => q w M ((g.tr g2).tr g3) hw
theorem de_opI {r : R2} (ha : DE K ta δ (.int i)) (hb : DE K tb δ (.int j)) (hr : ∀ H (Q : VK), (∀ w, Tp K H w z → Q w H) → r (.int i) (.int j) H Q) : DE K (tOp r ta tb) δ z :=
  de_op ha hb fun H u v hu hv Q q => by rw [hu.int_of, hv.int_of]; exact hr H Q fun w hw => q w H (Gr.rfl' H) hw
def rAddX (K : PySem.W.Frag) : R2 := fun x y H Q => rI0 (fun i j => .int (i + j)) x y H Q ∨ rCatA K x y H Q ∨ rCat x y H Q
def rSubX : R2 := rI0 fun i j => .int (i - j)
def rMulX : R2 := rI CMul fun i j => .int (i * j)
def rDivX : R2 := rI CDiv fun i j => .int (i / j)
def rModX : R2 := rI (fun _ j => 0 < j) fun i j => .int (i % j)
def rPowX : R2 := rI CPow fun i j => .int (i ^ j.toNat)
def rLtX : R2 := rI0 fun i j => .bl (decide (i < j))
def rLeX : R2 := rI0 fun i j => .bl (decide (i ≤ j))
def rGtX : R2 := rI0 fun i j => .bl (decide (j < i))
def rGeX : R2 := rI0 fun i j => .bl (decide (j ≤ i))
theorem de_add (ha : DE K ta δ (.int i)) (hb : DE K tb δ (.int j)) : DE K (tOp (rAddX K) ta tb) δ (.int (i + j)) := de_opI ha hb fun H Q q => .inl ⟨i, j, rfl, rfl, q _ (.int _)⟩
theorem de_sub (ha : DE K ta δ (.int i)) (hb : DE K tb δ (.int j)) : DE K (tOp rSubX ta tb) δ (.int (i - j)) := de_opI ha hb fun H Q q => ⟨i, j, rfl, rfl, q _ (.int _)⟩
theorem de_mul (ha : DE K ta δ (.int i)) (hb : DE K tb δ (.int j)) (hc : CMul i j) : DE K (tOp rMulX ta tb) δ (.int (i * j)) := de_opI ha hb fun H Q q => ⟨i, j, rfl, rfl, hc, q _ (.int _)⟩
theorem de_div (ha : DE K ta δ (.int i)) (hb : DE K tb δ (.int j)) (hc : CDiv i j) : DE K (tOp rDivX ta tb) δ (.int (i / j)) := de_opI ha hb fun H Q q => ⟨i, j, rfl, rfl, hc, q _ (.int _)⟩
theorem de_mod (ha : DE K ta δ (.int i)) (hb : DE K tb δ (.int j)) (hc : 0 < j) : DE K (tOp rModX ta tb) δ (.int (i % j)) := de_opI ha hb fun H Q q => ⟨i, j, rfl, rfl, hc, q _ (.int _)⟩
theorem de_pow (ha : DE K ta δ (.int i)) (hb : DE K tb δ (.int j)) (hc : CPow i j) : DE K (tOp rPowX ta tb) δ (.int (i ^ j.toNat)) := de_opI ha hb fun H Q q => ⟨i, j, rfl, rfl, hc, q _ (.int _)⟩
theorem de_lt (ha : DE K ta δ (.int i)) (hb : DE K tb δ (.int j)) : DE K (tOp rLtX ta tb) δ (.bool (decide (i < j))) := de_opI ha hb fun H Q q => ⟨i, j, rfl, rfl, q _ (.bl _)⟩
theorem de_le (ha : DE K ta δ (.int i)) (hb : DE K tb δ (.int j)) : DE K (tOp rLeX ta tb) δ (.bool (decide (i ≤ j))) := de_opI ha hb fun H Q q => ⟨i, j, rfl, rfl, q _ (.bl _)⟩
theorem de_gt (ha : DE K ta δ (.int i)) (hb : DE K tb δ (.int j)) : DE K (tOp rGtX ta tb) δ (.bool (decide (j < i))) := de_opI ha hb fun H Q q => ⟨i, j, rfl, rfl, q _ (.bl _)⟩
theorem de_ge (ha : DE K ta δ (.int i)) (hb : DE K tb δ (.int j)) : DE K (tOp rGeX ta tb) δ (.bool (decide (j ≤ i))) := de_opI ha hb fun H Q q => ⟨i, j, rfl, rfl, q _ (.bl _)⟩
theorem op_or {X : Cx} {f : Value → Value → Sem Value} {r r' : R2} (h : OpR X f r) (h' : OpR X f r') : OpR X f (fun x y H Q => r x y H Q ∨ r' x y H Q) := by
  intro pins s σ H x y v u Q I rx ry q
  rcases q with q | q
  · exact h pins s σ H x y v u Q I rx ry q
  · exact h' pins s σ H x y v u Q I rx ry q
theorem o_add {X : Cx} : OpR X (binaryOp .Add) (rAddX X.K) := op_or op_add (op_or op_catA op_cat)
theorem o_sub {X : Cx} : OpR X (binaryOp .Sub) rSubX := op_sub
theorem o_mul {X : Cx} : OpR X (binaryOp .Mult) rMulX := op_mul
theorem o_div {X : Cx} : OpR X (binaryOp .FloorDiv) rDivX := op_fdiv
theorem o_mod {X : Cx} : OpR X (binaryOp .Mod) rModX := op_mod
theorem o_pow {X : Cx} : OpR X (binaryOp .Pow) rPowX := op_pow
theorem o_lt {X : Cx} : OpR X (compareOp .Lt) rLtX := op_lt
theorem o_le {X : Cx} : OpR X (compareOp .LtE) rLeX := op_le
theorem o_gt {X : Cx} : OpR X (compareOp .Gt) rGtX := op_gt
theorem o_ge {X : Cx} : OpR X (compareOp .GtE) rGeX := op_ge
def rEqX (K : PySem.W.Frag) : R2 := fun x y H Q => rEq x y H Q ∨ rEqD K x y H Q
def rNeX (K : PySem.W.Frag) : R2 := fun x y H Q => rNe x y H Q ∨ rNeD K x y H Q
theorem hu64 {A : Around} {k : Nat} (hr : Room k A) : A.units + 64 < cLine := hr.units
theorem o_eq {X : Cx} (hu : X.A.units + 64 < cLine) : OpR X (compareOp .Eq) (rEqX X.K) := op_or op_eq (op_eqD hu)
theorem o_ne {X : Cx} (hu : X.A.units + 64 < cLine) : OpR X (compareOp .NotEq) (rNeX X.K) := op_or op_ne (op_neD hu)
theorem dec_int {i j : Int} : decide (V.int i = V.int j) = decide (i = j) := by
  by_cases h : i = j
  · subst h; simp
  · have : ¬ (V.int i = V.int j) := fun z => h (by cases z; rfl)
    rw [decide_eq_false h, decide_eq_false this]
theorem dec_bl {i j : Bool} : decide (V.bl i = V.bl j) = decide (i = j) := by cases i <;> cases j <;> rfl
theorem dec_str {i j : Str} : decide (V.str i = V.str j) = decide (i = j) := by
  by_cases h : i = j
  · subst h; simp
  · have : ¬ (V.str i = V.str j) := fun z => h (by cases z; rfl)
    rw [decide_eq_false h, decide_eq_false this]
theorem de_eqI (ha : DE K ta δ (.int i)) (hb : DE K tb δ (.int j)) : DE K (tOp (rEqX K) ta tb) δ (.bool (decide (i = j))) :=
  de_op ha hb fun H u v hu hv Q q => by rw [hu.int_of, hv.int_of]; exact .inl ⟨rfl, by rw [dec_int]; exact q _ H (Gr.rfl' H) (.bl _)⟩
theorem de_neI (ha : DE K ta δ (.int i)) (hb : DE K tb δ (.int j)) : DE K (tOp (rNeX K) ta tb) δ (.bool (!decide (i = j))) :=
  de_op ha hb fun H u v hu hv Q q => by rw [hu.int_of, hv.int_of]; exact .inl ⟨rfl, by rw [dec_int]; exact q _ H (Gr.rfl' H) (.bl _)⟩
theorem de_eqB {i j : Bool} (ha : DE K ta δ (.bool i)) (hb : DE K tb δ (.bool j)) : DE K (tOp (rEqX K) ta tb) δ (.bool (decide (i = j))) :=
  de_op ha hb fun H u v hu hv Q q => by rw [hu.bl_of, hv.bl_of]; exact .inl ⟨rfl, by rw [dec_bl]; exact q _ H (Gr.rfl' H) (.bl _)⟩
theorem de_neB {i j : Bool} (ha : DE K ta δ (.bool i)) (hb : DE K tb δ (.bool j)) : DE K (tOp (rNeX K) ta tb) δ (.bool (!decide (i = j))) :=
  de_op ha hb fun H u v hu hv Q q => by rw [hu.bl_of, hv.bl_of]; exact .inl ⟨rfl, by rw [dec_bl]; exact q _ H (Gr.rfl' H) (.bl _)⟩
theorem de_eqS {i j : Str} (ha : DE K ta δ (.str i)) (hb : DE K tb δ (.str j)) : DE K (tOp (rEqX K) ta tb) δ (.bool (decide (i = j))) :=
  de_op ha hb fun H u v hu hv Q q => by rw [hu.str_of, hv.str_of]; exact .inl ⟨rfl, by rw [dec_str]; exact q _ H (Gr.rfl' H) (.bl _)⟩
theorem de_neS {i j : Str} (ha : DE K ta δ (.str i)) (hb : DE K tb δ (.str j)) : DE K (tOp (rNeX K) ta tb) δ (.bool (!decide (i = j))) :=
  de_op ha hb fun H u v hu hv Q q => by rw [hu.str_of, hv.str_of]; exact .inl ⟨rfl, by rw [dec_str]; exact q _ H (Gr.rfl' H) (.bl _)⟩
theorem de_eqD (ha : DE K ta δ x) (hb : DE K tb δ y) (sx : SeqAt.shaped x = true) (sy : SeqAt.shaped y = true) : DE K (tOp (rEqX K) ta tb) δ (.bool (PyData.eqv x y)) :=
  de_op ha hb fun H u v hu hv Q q => .inr ⟨x, y, hu.dp, hv.dp, sx, sy, q _ H (Gr.rfl' H) (.bl _)⟩
theorem de_neD (ha : DE K ta δ x) (hb : DE K tb δ y) (sx : SeqAt.shaped x = true) (sy : SeqAt.shaped y = true) : DE K (tOp (rNeX K) ta tb) δ (.bool (!PyData.eqv x y)) :=
  de_op ha hb fun H u v hu hv Q q => .inr ⟨x, y, hu.dp, hv.dp, sx, sy, q _ H (Gr.rfl' H) (.bl _)⟩
/-- lists compared -/
theorem de_eqL (ha : DL K ta δ ds) (hb : DL K tb δ es) (sx : SeqAt.shaped (.list ds) = true) (sy : SeqAt.shaped (.list es) = true) : DE K (tOp (rEqX K) ta tb) δ (.bool (PyData.eqv (.list ds) (.list es))) :=
  fun H0 H σ S Q q => ha H0 H σ S _ fun a vs J g hs hv => hb H0 J σ (S.mono g) _ fun b us L g2 hs2 hv2 =>
    .inr ⟨_, _, .lst (g2.sq hs) (hv.mono g2.tm).dp, .lst hs2 hv2.dp, sx, sy, q _ L (g.tr g2) (.bl _)⟩
theorem de_neL (ha : DL K ta δ ds) (hb : DL K tb δ es) (sx : SeqAt.shaped (.list ds) = true) (sy : SeqAt.shaped (.list es) = true) : DE K (tOp (rNeX K) ta tb) δ (.bool (!PyData.eqv (.list ds) (.list es))) :=
  fun H0 H σ S Q q => ha H0 H σ S _ fun a vs J g hs hv => hb H0 J σ (S.mono g) _ fun b us L g2 hs2 hv2 =>
    .inr ⟨_, _, .lst (g2.sq hs) (hv.mono g2.tm).dp, .lst hs2 hv2.dp, sx, sy, q _ L (g.tr g2) (.bl _)⟩
/-! is -/
def rIsX : R2 := fun x y H Q => (y = .non ∧ Q (.bl (decide (x = .non))) H) ∨ rIsB x y H Q
def rIsntX : R2 := fun x y H Q => (y = .non ∧ Q (.bl (!decide (x = .non))) H) ∨ rNotB x y H Q
theorem o_is {X : Cx} : OpR X (compareOp .Is) rIsX := op_or op_isN op_isBl
theorem o_isnt {X : Cx} : OpR X (compareOp .IsNot) rIsntX := op_or op_notN op_notBl
def isN : PyData → Bool
  | .none => true
  | _ => false
theorem Tp.isN {H : Hp} {v : V} {d : PyData} (h : Tp K H v d) : decide (v = .non) = isN d := by cases h <;> rfl
theorem de_isN (ha : DE K ta δ x) : DE K (tOp rIsX ta (tC .non)) δ (.bool (isN x)) :=
  de_op ha de_non fun H u v hu hv Q q => by rw [hv.non_of]; exact .inl ⟨rfl, by rw [hu.isN]; exact q _ H (Gr.rfl' H) (.bl _)⟩
theorem de_isntN (ha : DE K ta δ x) : DE K (tOp rIsntX ta (tC .non)) δ (.bool (!isN x)) :=
  de_op ha de_non fun H u v hu hv Q q => by rw [hv.non_of]; exact .inl ⟨rfl, by rw [hu.isN]; exact q _ H (Gr.rfl' H) (.bl _)⟩
theorem de_isB {i j : Bool} (ha : DE K ta δ (.bool i)) (hb : DE K tb δ (.bool j)) : DE K (tOp rIsX ta tb) δ (.bool (decide (i = j))) :=
  de_op ha hb fun H u v hu hv Q q => by rw [hu.bl_of, hv.bl_of]; exact .inr ⟨_, _, rfl, rfl, q _ H (Gr.rfl' H) (.bl _)⟩
theorem de_isntB {i j : Bool} (ha : DE K ta δ (.bool i)) (hb : DE K tb δ (.bool j)) : DE K (tOp rIsntX ta tb) δ (.bool (!decide (i = j))) :=
  de_op ha hb fun H u v hu hv Q q => by rw [hu.bl_of, hv.bl_of]; exact .inr ⟨_, _, rfl, rfl, q _ H (Gr.rfl' H) (.bl _)⟩
/-! items -/
theorem atI_map {α β : Type} {xs : List α} {ys : List β} {i : Int} {x : α} (hl : xs.length = ys.length) (h : atI xs i = some x) : ∃ j : Nat, xs[j]? = some x ∧ ∀ y, ys[j]? = some y → atI ys i = some y := by
  unfold atI at h
  cases e : ixN xs.length i with
  | none => rw [e] at h; cases h
  | some j =>
    rw [e] at h
    refine ⟨j, h, fun y hy => ?_⟩
    unfold atI
    rw [← hl, e]
    exact hy
theorem TpA.atI {H : Hp} {vs : List V} {ds : List PyData} {i : Int} {d : PyData} (h : TpA K H vs ds) (e : L2.atI ds i = some d) : ∃ v, L2.atI vs i = some v ∧ Tp K H v d := by
  obtain ⟨j, h1, h2⟩ := atI_map h.length.symm e
  obtain ⟨v, h3, h4⟩ := h.get h1
  exact ⟨v, h2 v h3, h4⟩
theorem de_ixT (ha : DE K ta δ (.tuple ds)) (hb : DE K tb δ (.int i)) (h : atI ds i = some d) : DE K (tOp (rIx K) ta tb) δ d :=
  de_op ha hb fun H u v hu hv Q q => by
    obtain ⟨a, xs, rfl, h1, h2⟩ := hu.tup_of
    obtain ⟨w, h3, h4⟩ := h2.atI h
    rw [hv.int_of]
    exact .inr (.inl ⟨a, xs, i, w, rfl, rfl, h1, h3, q w H (Gr.rfl' H) h4⟩)
theorem de_ixL (ha : DL K ta δ ds) (hb : DE K tb δ (.int i)) (h : atI ds i = some d) : DE K (tOp (rIx K) ta tb) δ d :=
  fun H0 H σ S Q q => ha H0 H σ S _ fun a vs J g hs hv => hb H0 J σ (S.mono g) _ fun w L g2 hw => by
    obtain ⟨w', h3, h4⟩ := hv.atI h
    rw [hw.int_of]
    exact .inl ⟨a, vs, i, w', rfl, rfl, g2.sq hs, h3, q w' L (g.tr g2) (h4.mono g2.tm)⟩
/-! builtins -/
def rInt1 : List V → Hp → VK → Prop := fun xs H Q => (∃ i, xs = [.int i] ∧ Q (.int i) H) ∨ ∃ k, xs = [.bl k] ∧ Q (.int (if k then 1 else 0)) H
theorem c_int {X : Cx} : CallR X (.type "int") rInt1 := call_int1
theorem de_int1 (ha : DE K ta δ (.int i)) : DE K (tCB rInt1 (tCons ta tNil)) δ (.int i) := fun H0 H σ S Q q => ha H0 H σ S _ fun v J g hv => by
  rw [hv.int_of]
  exact .inl ⟨i, rfl, q _ J g (.int i)⟩
def rLenX (K : PySem.W.Frag) : List V → Hp → VK → Prop := fun xs H Q => (∃ p ys, xs = [.ref p] ∧ (SqL K H p ys ∨ SqT K H p ys) ∧ Q (.int ys.length) H) ∨ (∃ z, xs = [.str z] ∧ z.length ≤ sizeLine ∧ Q (.int z.length) H)
theorem cr_or {X : Cx} {f : Value} {r r' : List V → Hp → VK → Prop} (h : CallR X f r) (h' : CallR X f r') : CallR X f (fun xs H Q => r xs H Q ∨ r' xs H Q) := by
  intro pins s σ H xs us Q I rx q
  rcases q with q | q
  · exact h pins s σ H xs us Q I rx q
  · exact h' pins s σ H xs us Q I rx q
theorem c_len {X : Cx} : CallR X (.builtin "len") (rLenX X.K) := cr_or call_len_seq call_len_str
theorem de_lenT (ha : DE K ta δ (.tuple ds)) : DE K (tCB (rLenX K) (tCons ta tNil)) δ (.int (ds.length : Int)) := fun H0 H σ S Q q => ha H0 H σ S _ fun v J g hv => by
  obtain ⟨a, xs, rfl, h1, h2⟩ := hv.tup_of
  exact .inl ⟨a, xs, rfl, .inr h1, by rw [h2.length]; exact q _ J g (.int _)⟩
theorem de_lenL (ha : DL K ta δ ds) : DE K (tCB (rLenX K) (tCons ta tNil)) δ (.int (ds.length : Int)) := fun H0 H σ S Q q => ha H0 H σ S _ fun a vs J g hs hv =>
  .inl ⟨a, vs, rfl, .inl hs, by rw [hv.length]; exact q _ J g (.int _)⟩
def rListX (K : PySem.W.Frag) : List V → Hp → VK → Prop := fun xs H Q => ∃ p ys, xs = [.ref p] ∧ (SqL K H p ys ∨ SqT K H p ys) ∧ ∀ l, H l = none → Q (.ref l) (upd H l (.lst ys))
theorem c_list {X : Cx} : CallR X (.type "list") (rListX X.K) := call_list_of
theorem dn_listT (ha : DE K ta δ (.tuple ds)) : DN K (tCB (rListX K) (tCons ta tNil)) δ ds := fun H0 H σ S Q q => ha H0 H σ S _ fun v J g hv => by
  obtain ⟨a, xs, rfl, h1, h2⟩ := hv.tup_of
  exact ⟨a, xs, rfl, .inr h1, fun l hl => q l xs _ (g.tr (Gr.lay hl)) (g.free hl) upd_same (h2.mono (Gr.lay hl).tm)⟩
theorem dn_listL (ha : DL K ta δ ds) : DN K (tCB (rListX K) (tCons ta tNil)) δ ds := fun H0 H σ S Q q => ha H0 H σ S _ fun a vs J g hs hv =>
  ⟨a, vs, rfl, .inl hs, fun l hl => q l vs _ (g.tr (Gr.lay hl)) (g.free hl) upd_same (hv.mono (Gr.lay hl).tm)⟩
def rTupX (K : PySem.W.Frag) : List V → Hp → VK → Prop := fun xs H Q => ∃ p ys, xs = [.ref p] ∧ ((SqL K H p ys ∧ ∀ l, H l = none → Q (.ref l) (upd H l (.tup ys))) ∨ (SqT K H p ys ∧ Q (.ref p) H))
theorem c_tuple {X : Cx} : CallR X (.type "tuple") (rTupX X.K) := call_tuple_of
theorem de_tupleL (ha : DL K ta δ ds) : DE K (tCB (rTupX K) (tCons ta tNil)) δ (.tuple ds) := fun H0 H σ S Q q => ha H0 H σ S _ fun a vs J g hs hv =>
  ⟨a, vs, rfl, .inl ⟨hs, fun l hl => q _ _ (g.tr (Gr.lay hl)) (.tup (SqT.of upd_same) (hv.mono (Gr.lay hl).tm))⟩⟩
theorem de_tupleT (ha : DE K ta δ (.tuple ds)) : DE K (tCB (rTupX K) (tCons ta tNil)) δ (.tuple ds) := fun H0 H σ S Q q => ha H0 H σ S _ fun v J g hv => by
  obtain ⟨a, xs, rfl, h1, h2⟩ := hv.tup_of
  exact ⟨a, xs, rfl, .inr ⟨h1, q _ J g hv⟩⟩
def tyD : PyData → String
  | .none => "NoneType"
  | .bool _ => "bool"
  | .int _ => "int"
  | .str _ => "str"
  | .list _ => "list"
  | .tuple _ => "tuple"
  | .dict _ => "dict"
theorem Tp.ty {H : Hp} {v : V} {d : PyData} (h : Tp K H v d) : TyX K H v (.type (tyD d)) := by
  cases h with
  | non => exact .base .non
  | bl b => exact .base (.bl b)
  | int i => exact .base (.int i)
  | str x => exact .base (.str x)
  | tup h ha =>
    rcases h with (h | ⟨o, h⟩) | ⟨o, its, n, h, c, _⟩
    · exact .base (.tup h)
    · exact .fTuple h
    · exact .kTuple h c
theorem sq_ty {H : Hp} {a : Addr} {vs : List V} (h : SqL K H a vs) : TyX K H (.ref a) (.type "list") := by
  rcases h with (h | ⟨o, h⟩) | ⟨o, its, n, h, c, _⟩
  · exact .base (.lst h)
  · exact .base (.frz h)
  · exact .kList h c
theorem de_isi {n : String} {b : Bool} (ha : DE K ta δ x) (hk : kitB (tyD x) n = some b) : DE K (tCB (rIsi K) (tCons ta (tCons (tC (.ty n)) tNil))) δ (.bool b) := fun H0 H σ S Q q => ha H0 H σ S _ fun v J g hv =>
  ⟨v, .ty n, .type (tyD x), .type n, b, rfl, .ty n, hv.ty, kit_ty hk, q _ J g (.bl b)⟩
theorem de_isiL {n : String} {b : Bool} (ha : DL K ta δ ds) (hk : kitB "list" n = some b) : DE K (tCB (rIsi K) (tCons ta (tCons (tC (.ty n)) tNil))) δ (.bool b) := fun H0 H σ S Q q => ha H0 H σ S _ fun a vs J g hs hv =>
  ⟨_, .ty n, .type "list", .type n, b, rfl, .ty n, sq_ty hs, kit_ty hk, q _ J g (.bl b)⟩
theorem kb_ii : kitB "int" "int" = some true := by decide +kernel
theorem kb_ib : kitB "int" "bool" = some false := by decide +kernel
theorem kb_bi : kitB "bool" "int" = some true := by decide +kernel
theorem kb_bb : kitB "bool" "bool" = some true := by decide +kernel
theorem kb_tt : kitB "tuple" "tuple" = some true := by decide +kernel
theorem kb_it : kitB "int" "tuple" = some false := by decide +kernel
theorem kb_bt : kitB "bool" "tuple" = some false := by decide +kernel
theorem kb_st : kitB "str" "tuple" = some false := by decide +kernel
theorem kb_nt : kitB "NoneType" "tuple" = some false := by decide +kernel
theorem kb_is : kitB "int" "str" = some false := by decide +kernel
theorem kb_ss : kitB "str" "str" = some true := by decide +kernel
theorem kb_sb : kitB "str" "bool" = some false := by decide +kernel
theorem kb_ll : kitB "list" "list" = some true := by decide +kernel
theorem kb_tl : kitB "tuple" "list" = some false := by decide +kernel
theorem kb_lt : kitB "list" "tuple" = some false := by decide +kernel
def rMaxX : List V → Hp → VK → Prop := fun xs H Q => ∃ i j, xs = [.int i, .int j] ∧ Q (.int (if j > i then j else i)) H
def rMinX : List V → Hp → VK → Prop := fun xs H Q => ∃ i j, xs = [.int i, .int j] ∧ Q (.int (if j < i then j else i)) H
theorem c_max {X : Cx} (hc : X.calm = true) : CallR X (.builtin "max") rMaxX := call_max2 hc
theorem c_min {X : Cx} (hc : X.calm = true) : CallR X (.builtin "min") rMinX := call_min2 hc
theorem de_max (ha : DE K ta δ (.int i)) (hb : DE K tb δ (.int j)) : DE K (tCB rMaxX (tCons ta (tCons tb tNil))) δ (.int (if j > i then j else i)) := fun H0 H σ S Q q => ha H0 H σ S _ fun v J g hv => hb H0 J σ (S.mono g) _ fun w L g2 hw => by
  rw [hv.int_of, hw.int_of]
  exact ⟨i, j, rfl, q _ L (g.tr g2) (.int _)⟩
theorem de_min (ha : DE K ta δ (.int i)) (hb : DE K tb δ (.int j)) : DE K (tCB rMinX (tCons ta (tCons tb tNil))) δ (.int (if j < i then j else i)) := fun H0 H σ S Q q => ha H0 H σ S _ fun v J g hv => hb H0 J σ (S.mono g) _ fun w L g2 hw => by
  rw [hv.int_of, hw.int_of]
  exact ⟨i, j, rfl, q _ L (g.tr g2) (.int _)⟩
/-! tests -/
theorem dt_test {b : Bool} (h : DE K te δ (.bool b)) : DT K (tTest te) δ b := fun H0 H σ S Q q => h H0 H σ S _ fun v J g hv => ⟨b, hv.bl_of, q J g⟩
theorem dt_B {b : Bool} (h : DE K te δ (.bool b)) : DT K (tB te) δ b := fun H0 H σ S Q q => h H0 H σ S _ fun v J g hv => ⟨b, hv.bl_of, q J g⟩
theorem dt_and {a b : Bool} (h : DT K tt δ a) (h2 : a = true → DT K tu δ b) : DT K (tAnd tt tu) δ (a && b) := fun H0 H σ S Q q => h H0 H σ S _ fun J g => by
  cases a with
  | true => exact iteT (h2 rfl H0 J σ (S.mono g) _ fun L g2 => q L (g.tr g2))
  | false => exact iteF (q J g)
theorem dt_or {a b : Bool} (h : DT K tt δ a) (h2 : a = false → DT K tu δ b) : DT K (tOr tt tu) δ (a || b) := fun H0 H σ S Q q => h H0 H σ S _ fun J g => by
  cases a with
  | true => exact iteT (q J g)
  | false => exact iteF (h2 rfl H0 J σ (S.mono g) _ fun L g2 => q L (g.tr g2))
theorem dt_not {a : Bool} (h : DT K tt δ a) : DT K (tNot tt) δ (!a) := fun H0 H σ S Q q => h H0 H σ S _ fun J g => q J g
theorem de_and {a b : Bool} (h : DE K ta δ (.bool a)) (h2 : a = true → DE K tb δ (.bool b)) : DE K (tAndV ta tb) δ (.bool (a && b)) := fun H0 H σ S Q q => h H0 H σ S _ fun v J g hv => ⟨a, hv.bl_of, by
  cases a with
  | true => exact iteT (h2 rfl H0 J σ (S.mono g) _ fun w L g2 hw => q w L (g.tr g2) hw)
  | false => exact iteF (q _ J g (.bl _))⟩
theorem de_or {a b : Bool} (h : DE K ta δ (.bool a)) (h2 : a = false → DE K tb δ (.bool b)) : DE K (tOrV ta tb) δ (.bool (a || b)) := fun H0 H σ S Q q => h H0 H σ S _ fun v J g hv => ⟨a, hv.bl_of, by
  cases a with
  | true => exact iteT (q _ J g (.bl _))
  | false => exact iteF (h2 rfl H0 J σ (S.mono g) _ fun w L g2 hw => q w L (g.tr g2) hw)⟩
theorem de_not {a : Bool} (h : DE K ta δ (.bool a)) : DE K (tNotV ta) δ (.bool (!a)) := fun H0 H σ S Q q => h H0 H σ S _ fun v J g hv => ⟨a, hv.bl_of, q _ J g (.bl _)⟩
theorem de_if {b : Bool} (h : DT K tt δ b) (h1 : b = true → DE K ta δ d) (h2 : b = false → DE K tb δ d) : DE K (tIf tt ta tb) δ d := fun H0 H σ S Q q => h H0 H σ S _ fun J g => by
  cases b with
  | true => exact iteT (h1 rfl H0 J σ (S.mono g) _ fun w L g2 hw => q w L (g.tr g2) hw)
  | false => exact iteF (h2 rfl H0 J σ (S.mono g) _ fun w L g2 hw => q w L (g.tr g2) hw)
/-- a chain of two comparisons: a < b < c -/
theorem de_chain {tc : TE} {k : Int} {p q : Int → Int → Bool} (ha : DE K ta δ (.int i)) (hb : DE K tb δ (.int j)) (hc : DE K tc δ (.int k)) : DE K (tChain (rI0 fun i j => .bl (p i j)) (rI0 fun i j => .bl (q i j)) ta tb tc) δ (.bool (p i j && q j k)) :=
  fun H0 H σ S Q hq => ha H0 H σ S _ fun v J g hv => hb H0 J σ (S.mono g) _ fun w L g2 hw => by
    rw [hv.int_of, hw.int_of]
    refine ⟨i, j, rfl, rfl, p i j, rfl, ?_⟩
    have e2 : ∀ c : Bool, p i j = c → ∀ (w : V) (L : Hp), Tp K L w (.bool (c && q j k)) → Tp K L w (.bool (p i j && q j k)) := fun c e w L z => by rw [e]; exact z
    cases e : p i j with
    | false => exact iteF (hq _ L (g.tr g2) (e2 _ e _ _ (Tp.bl false)))
    | true =>
      refine iteT ?_
      refine hc H0 L σ ((S.mono g).mono g2) _ fun u M g3 hu => ?_
      rw [hu.int_of]
      exact ⟨j, k, rfl, rfl, hq _ M ((g.tr g2).tr g3) (e2 _ e _ _ (Tp.bl (q j k)))⟩
/-! displays, arguments, calls -/
theorem da_nil : DA K tNil δ [] := fun _ H _ _ _ q => q [] H (Gr.rfl' H) .nil
theorem da_d {ss : List SD} (h : DE K te δ d) (t : DA K ta' δ ss) : DA K (tCons te ta') δ (.dat d :: ss) := fun H0 H σ S Q q => h H0 H σ S _ fun v J g hv => t H0 J σ (S.mono g) _ fun vs L g2 hvs => q _ L (g.tr g2) (.cons (Tp.mono g2.tm hv) hvs)
theorem da_l {ss : List SD} (h : DL K te δ ds) (t : DA K ta' δ ss) : DA K (tCons te ta') δ (.bor ds :: ss) := fun H0 H σ S Q q => h H0 H σ S _ fun a vs J g hs hv => t H0 J σ (S.mono g) _ fun ws L g2 hvs => q _ L (g.tr g2) (.cons ⟨a, vs, rfl, g2.sq hs, hv.mono g2.tm⟩ hvs)
theorem da_k {ss : List SD} {ds : List (Key × PyData)} (h : DK K te δ ds) (t : DA K ta' δ ss) : DA K (tCons te ta') δ (.borD ds :: ss) := fun H0 H σ S Q q => h H0 H σ S _ fun a vs J g hs hv => t H0 J σ (S.mono g) _ fun ws L g2 hvs => q _ L (g.tr g2) (.cons ⟨a, vs, rfl, g2.rd hs, hv.mono g2.tm⟩ hvs)
theorem VA.dat {H : Hp} : ∀ {vs : List V} {ds : List PyData}, VA K H vs (ds.map .dat) → TpA K H vs ds
  | _, [], h => by cases h; exact .nil
  | _, d :: ds, h => by
    rw [List.map_cons] at h
    cases h with
    | cons h1 h2 => exact .cons h1 (VA.dat h2)
/-- items of a display: all data -/
def DAd (K : PySem.W.Frag) (ta : TA) (δ : List SD) (ds : List PyData) : Prop := ∀ (H0 H : Hp) (σ : L2.St), Sd K H0 H σ δ → ∀ Q : List V → Hp → Prop, (∀ vs J, Gr H J → TpA K J vs ds → Q vs J) → ta σ H Q
theorem dd_nil : DAd K tNil δ [] := fun _ H _ _ _ q => q [] H (Gr.rfl' H) .nil
theorem dd_cons (h : DE K te δ d) (t : DAd K ta' δ ds) : DAd K (tCons te ta') δ (d :: ds) := fun H0 H σ S Q q => h H0 H σ S _ fun v J g hv => t H0 J σ (S.mono g) _ fun vs L g2 hvs => q _ L (g.tr g2) (.cons (hv.mono g2.tm) hvs)
theorem de_tup (h : DAd K ta' δ ds) (hl : ds.length ≤ 1000) : DE K (tTup ta') δ (.tuple ds) := fun H0 H σ S Q q => h H0 H σ S _ fun vs J g hv =>
  ⟨by rw [hv.length]; exact Nat.le_trans hl (by decide), fun p hp => q _ _ (g.tr (Gr.lay hp)) (.tup (SqT.of upd_same) (hv.mono (Gr.lay hp).tm))⟩
theorem dn_lst (h : DAd K ta' δ ds) (hl : ds.length ≤ 1000) : DN K (tLst ta') δ ds := fun H0 H σ S Q q => h H0 H σ S _ fun vs J g hv =>
  ⟨by rw [hv.length]; exact Nat.le_trans hl (by decide), fun p hp => q p vs _ (g.tr (Gr.lay hp)) (g.free hp) upd_same (hv.mono (Gr.lay hp).tm)⟩
/-- a def's promise over data -/
def spR (K : PySem.W.Frag) (R : List SD → SD → Prop) : Sp := fun vs H Q _ => ∃ ss r, R ss r ∧ VA K H vs ss ∧ ∀ v J, Gr H J → VS K H J v r → Q v J
variable {R : List SD → SD → Prop} {E : XK} {ss : List SD}
theorem de_call (h : DA K ta' δ ss) (hR : R ss (.dat d)) : DE K (tCall (spR K R) [] E ta') δ d := fun H0 H σ S Q q => h H0 H σ S _ fun vs J g hv =>
  ⟨ss, _, hR, by rw [List.append_nil]; exact hv, fun v L g2 hv2 => q v L (g.tr g2) hv2⟩
theorem dn_call (h : DA K ta' δ ss) (hR : R ss (.own ds)) : DN K (tCall (spR K R) [] E ta') δ ds := fun H0 H σ S Q q => h H0 H σ S _ fun vs J g hv =>
  ⟨ss, _, hR, by rw [List.append_nil]; exact hv, fun v L g2 hv2 => by
    obtain ⟨p, us, rfl, h0, h1, h2⟩ := hv2
    exact q p us L (g.tr g2) (g.free h0) h1 h2⟩
theorem dm_call {ds : List (Key × PyData)} (h : DA K ta' δ ss) (hR : R ss (.ownD ds)) : DM K (tCall (spR K R) [] E ta') δ ds := fun H0 H σ S Q q => h H0 H σ S _ fun vs J g hv =>
  ⟨ss, _, hR, by rw [List.append_nil]; exact hv, fun v L g2 hv2 => by
    obtain ⟨p, us, rfl, h0, h1, h2⟩ := hv2
    exact q p us L (g.tr g2) (g.free h0) h1 h2⟩
/-- def-s with a default for the last arguments -/
theorem de_callD {dv : List V} {ts : List SD} (h : DA K ta' δ ss) (hd : ∀ H, VA K H dv ts) (hR : R (ss ++ ts) (.dat d)) : DE K (tCall (spR K R) dv E ta') δ d := fun H0 H σ S Q q => h H0 H σ S _ fun vs J g hv =>
  ⟨_, _, hR, hv.app (hd J), fun v L g2 hv2 => q v L (g.tr g2) hv2⟩
/-! slices -/
theorem do_none : DO K tNoPart δ none := fun _ H _ _ _ q => q H (Gr.rfl' H)
theorem do_some (h : DE K te δ (.int i)) : DO K (tPart te) δ (some i) := fun H0 H σ S Q q => h H0 H σ S _ fun v J g hv => ⟨i, hv.int_of, q J g⟩
def rSlX (K : PySem.W.Frag) : V → Option Int → Option Int → Hp → VK → Prop := fun x lo hi H Q => rSlL K x lo hi H Q ∨ rSlA K x lo hi H Q
theorem sl_x {X : Cx} : SlR X (rSlX X.K) := SlR.or sl_list sl_tupA
def cutD (xs : List PyData) (lo hi : Option Int) : List PyData := (xs.drop (HT.sIx xs.length 0 lo)).take (HT.sIx xs.length xs.length hi - HT.sIx xs.length 0 lo)
theorem TpA.cut {H : Hp} {vs : List V} {ds : List PyData} {lo hi : Option Int} (h : TpA K H vs ds) : TpA K H (cutV vs lo hi) (cutD ds lo hi) := by
  unfold cutV cutD
  rw [h.length]
  exact (h.drop _).take _
theorem dn_sl {tl th : TO} {lo hi : Option Int} (h : DL K te δ ds) (h1 : DO K tl δ lo) (h2 : DO K th δ hi) : DN K (tSl (rSlX K) te tl th) δ (cutD ds lo hi) := fun H0 H σ S Q q => h H0 H σ S _ fun a vs J g hs hv =>
  h1 H0 J σ (S.mono g) _ fun L g2 => h2 H0 L σ ((S.mono g).mono g2) _ fun M g3 => .inl ⟨a, vs, rfl, (g2.tr g3).sq hs, fun p hp =>
    q p _ _ (((g.tr g2).tr g3).tr (Gr.lay hp)) (((g.tr g2).tr g3).free hp) upd_same ((hv.cut).mono ((g2.tr g3).tr (Gr.lay hp)).tm)⟩
theorem cut_whole {xs : List PyData} {lo hi : Option Int} (h : HT.sIx xs.length 0 lo = 0 ∧ HT.sIx xs.length xs.length hi = xs.length) : cutD xs lo hi = xs := by
  unfold cutD
  rw [h.1, h.2, List.drop_zero, Nat.sub_zero, List.take_length]
theorem de_slT {tl th : TO} {lo hi : Option Int} (h : DE K te δ (.tuple ds)) (h1 : DO K tl δ lo) (h2 : DO K th δ hi) : DE K (tSl (rSlX K) te tl th) δ (.tuple (cutD ds lo hi)) := fun H0 H σ S Q q => h H0 H σ S _ fun v J g hv =>
  h1 H0 J σ (S.mono g) _ fun L g2 => h2 H0 L σ ((S.mono g).mono g2) _ fun M g3 => by
    obtain ⟨a, xs, rfl, hs, hx⟩ := (hv.mono (g2.tr g3).tm).tup_of
    have hl := hx.length
    refine .inr ⟨a, xs, rfl, hs, fun w => ?_, fun _ p hp => ?_⟩
    · rw [cut_whole (by rw [← hl]; exact w)] at q
      exact q _ M ((g.tr g2).tr g3) (.tup hs hx)
    · exact q _ _ (((g.tr g2).tr g3).tr (Gr.lay hp)) (.tup (SqT.of upd_same) (hx.cut.mono (Gr.lay hp).tm))
theorem de_catT (ha : DE K ta δ (.tuple ds)) (hb : DE K tb δ (.tuple es)) (hl : ds.length + es.length ≤ 100000) : DE K (tOp (rAddX K) ta tb) δ (.tuple (ds ++ es)) := fun H0 H σ S Q q => ha H0 H σ S _ fun v J g hv => hb H0 J σ (S.mono g) _ fun w L g2 hw => by
  obtain ⟨a, xs, rfl, hs, hx⟩ := (hv.mono g2.tm).tup_of
  obtain ⟨b, ys, rfl, hs2, hy⟩ := hw.tup_of
  have l1 := hx.length
  have l2 := hy.length
  refine .inr (.inl ⟨a, b, xs, ys, rfl, rfl, hs, hs2, by rw [l1, l2]; exact Nat.le_trans hl (by decide), fun e => ?_, fun _ e => ?_, fun _ _ p hp => ?_⟩)
  · subst e
    cases hx
    exact q _ L (g.tr g2) (.tup hs2 hy)
  · subst e
    cases hy
    rw [List.append_nil] at q
    exact q _ L (g.tr g2) (.tup hs hx)
  · exact q _ _ ((g.tr g2).tr (Gr.lay hp)) (.tup (SqT.of upd_same) ((hx.app hy).mono (Gr.lay hp).tm))
end
end Tn

namespace Tn
open PySem L2 PySem.Spec PyProof.Rows
/-! ### statements over data -/
inductive Out where
  | nx (δ : List SD) | rt (r : SD) | bk (δ : List SD) | ct (δ : List SD) | ex (δ : List SD) (Φ : L2.St → Hp → Prop)
section
variable {K : PySem.W.Frag}
def OutOk (K : PySem.W.Frag) (H0 : Hp) (D : Ends) : Out → Prop
  | .nx δ => ∀ σ J, Sd K H0 J σ δ → D.nx σ J
  | .rt r => ∀ v J, Gr H0 J → VS K H0 J v r → D.rt v J
  | .bk δ => ∀ σ J, Sd K H0 J σ δ → D.bk σ J
  | .ct δ => ∀ σ J, Sd K H0 J σ δ → D.ct σ J
  | .ex δ Φ => ∀ σ J, Sd K H0 J σ δ → Φ σ J
def WP (K : PySem.W.Frag) (ts : TS) (δ : List SD) (P : Out → Prop) : Prop := ∀ (H0 H : Hp) (σ : L2.St) (D : Ends), Sd K H0 H σ δ → (∀ o, P o → OutOk K H0 D o) → ts D σ H
def thenP (K : PySem.W.Frag) (u : TS) (P : Out → Prop) : Out → Prop
  | .nx δ => WP K u δ P
  | o => P o
variable {δ δ' : List SD} {ta tb te : TE} {tt tu : TT} {x y z d e : PyData} {i j : Nat} {ds es : List PyData} {ta' : TA} {t u : TS} {P P' : Out → Prop} {g : TG} {b : Bool}
theorem WP.less (h : WP K t δ' P) (l : Less δ' δ) : WP K t δ P := fun H0 H σ D S hP => h H0 H σ D (S.less l) hP
theorem WP.imp (h : WP K t δ P) (hp : ∀ o, P o → P' o) : WP K t δ P' := fun H0 H σ D S hP => h H0 H σ D S fun o p => hP o (hp o p)
theorem tw_seq (h : WP K t δ (thenP K u P)) : WP K (tSeq t u) δ P := fun H0 H σ D S hP =>
  h H0 H σ { D with nx := u D } S fun o p => by
    cases o with
    | nx δ => exact fun σ J S' => p H0 J σ D S' hP
    | rt r => exact hP (.rt r) p
    | bk δ => exact hP (.bk δ) p
    | ct δ => exact hP (.ct δ) p
    | ex δ Φ => exact hP (.ex δ Φ) p
theorem tw_next (h : P (.nx δ)) : WP K tNext δ P := fun H0 H σ D S hP => hP _ h σ H S
theorem tw_break (h : P (.bk δ)) : WP K tBreak δ P := fun H0 H σ D S hP => hP _ h σ H S
theorem tw_cont (h : P (.ct δ)) : WP K tCont δ P := fun H0 H σ D S hP => hP _ h σ H S
/-- a way that can't be -/
theorem tw_no (h : False) : WP K t δ P := h.elim
theorem tw_asg (h : DE K te δ d) (k : P (.nx (δ.set i (.dat d)))) : WP K (tAsg te (gName i)) δ P := fun H0 H σ D S hP =>
  h H0 H σ S _ fun v J g hv => hP _ k _ J ((S.mono g).storeD hv)
theorem tw_asgN (h : DN K te δ ds) (k : P (.nx (δ.set i (.own ds)))) : WP K (tAsg te (gName i)) δ P := fun H0 H σ D S hP =>
  h H0 H σ S _ fun p vs J g hp hj hv => hP _ k _ J (S.storeN g hp ⟨p, vs, rfl, S.gr.free hp, hj, hv⟩)
theorem tw_asgM {ds : List (Key × PyData)} (h : DM K te δ ds) (k : P (.nx (δ.set i (.ownD ds)))) : WP K (tAsg te (gName i)) δ P := fun H0 H σ D S hP =>
  h H0 H σ S _ fun p vs J g hp hj hv => hP _ k _ J (S.storeN g hp ⟨p, vs, rfl, S.gr.free hp, hj, hv⟩)
def GTd (K : PySem.W.Frag) (g : TG) (d : PyData) (δ δ' : List SD) : Prop := ∀ (H0 H : Hp) (σ : L2.St) (v : V) (Q : L2.St → Hp → Prop), Sd K H0 H σ δ → Tp K H v d → (∀ σ', Sd K H0 H σ' δ' → Q σ' H) → g v σ H Q
theorem g_name : GTd K (gName i) d δ (δ.set i (.dat d)) := fun H0 H σ v Q S h q => q _ (S.storeD h)
def setsD : List Nat → List PyData → List SD → List SD
  | i :: is, d :: ds, δ => setsD is ds (δ.set i (.dat d))
  | _, _, δ => δ
inductive GN : TGs → List Nat → Prop
  | nil : GN gNil []
  | cons {i : Nat} {t : TGs} {is : List Nat} : GN t is → GN (gCons (gName i) t) (i :: is)
theorem gn_sets {H0 H : Hp} : ∀ {t : TGs} {is : List Nat} {ds : List PyData} {vs : List V} {σ : L2.St} {δ : List SD} {Q : L2.St → Hp → Prop}, GN t is → ds.length = is.length → Sd K H0 H σ δ → TpA K H vs ds → (∀ σ', Sd K H0 H σ' (setsD is ds δ) → Q σ' H) → t vs σ H Q
  | _, _, [], _, _, _, _, .nil, _, S, .nil, q => ⟨rfl, q _ S⟩
  | _, _, d :: ds, _, _, _, _, .cons gn, hl, S, .cons h t, q => ⟨_, _, rfl, gn_sets gn (by simpa using hl) (S.storeD h) t q⟩
  | _, _, [], _, _, _, _, .cons gn, hl, _, _, _ => by simp at hl
  | _, _, d :: ds, _, _, _, _, .nil, hl, _, _, _ => by simp at hl
theorem g_tup {t : TGs} {is : List Nat} {n : Nat} (gn : GN t is) (h1 : ds.length = n) (h2 : is.length = n) : GTd K (gTup K n t) (.tuple ds) δ (setsD is ds δ) := fun H0 H σ v Q S h q => by
  obtain ⟨a, xs, rfl, hs, hx⟩ := h.tup_of
  exact ⟨a, xs, rfl, hs, hx.length.trans h1, gn_sets gn (h1.trans h2.symm) S hx q⟩
theorem tw_asgG (h : DE K te δ d) (hg : GTd K g d δ δ') (k : P (.nx δ')) : WP K (tAsg te g) δ P := fun H0 H σ D S hP =>
  h H0 H σ S _ fun v J g hv => hg H0 J σ v _ (S.mono g) hv fun σ' S' => hP _ k σ' J S'
theorem tw_par (h1 : DE K ta δ d) (h2 : DE K tb δ e) (k : P (.nx ((δ.set i (.dat d)).set j (.dat e)))) : WP K (tPar i j (tCons ta (tCons tb tNil))) δ P := fun H0 H σ D S hP =>
  h1 H0 H σ S _ fun v J g hv => h2 H0 J σ (S.mono g) _ fun w L g2 hw => ⟨v, w, rfl, hP _ k _ L ((((S.mono g).mono g2).storeD (hv.mono g2.tm)).storeD hw)⟩
theorem tw_aug {f : Int → Int → Int} {a b : Int} (hi : δ[i]? = some (.dat (.int a))) (h : DE K te δ (.int b)) (k : P (.nx (δ.set i (.dat (.int (f a b)))))) : WP K (tAug i te (ipI f)) δ P := fun H0 H σ D S hP => by
  obtain ⟨v, h1, h2⟩ := S.ok i _ hi (by intro z; cases z)
  have e := Tp.int_of h2
  subst e
  exact ⟨_, h1, h H0 H σ S _ fun w J g hw => ⟨a, b, rfl, hw.int_of, hP _ k _ J ((S.mono g).storeD (.int _))⟩⟩
theorem tw_if (h : DT K tt δ b) (h1 : b = true → WP K t δ P) (h2 : b = false → WP K u δ P) : WP K (tIfS tt t u) δ P := fun H0 H σ D S hP => h H0 H σ S _ fun J g => by
  cases b with
  | true => exact iteT (h1 rfl H0 J σ D (S.mono g) hP)
  | false => exact iteF (h2 rfl H0 J σ D (S.mono g) hP)
theorem tw_drop (h : DE K te δ d) (k : P (.nx δ)) : WP K (tDrop te) δ P := fun H0 H σ D S hP => h H0 H σ S _ fun v J g hv => hP _ k σ J (S.mono g)
theorem tw_ret (h : DE K te δ d) (k : P (.rt (.dat d))) : WP K (tRet te) δ P := fun H0 H σ D S hP => h H0 H σ S _ fun v J g hv => hP _ k v J (S.gr.tr g) hv
theorem tw_retN' (k : P (.rt (.dat .none))) : WP K tRetN δ P := fun H0 H σ D S hP => hP _ k .non H S.gr .non
theorem tw_retN (h : DN K te δ ds) (k : P (.rt (.own ds))) : WP K (tRet te) δ P := fun H0 H σ D S hP => h H0 H σ S _ fun p vs J g hp hj hv => hP _ k _ J (S.gr.tr g) ⟨p, vs, rfl, S.gr.free hp, hj, hv⟩
theorem tw_retM {ds : List (Key × PyData)} (h : DM K te δ ds) (k : P (.rt (.ownD ds))) : WP K (tRet te) δ P := fun H0 H σ D S hP => h H0 H σ S _ fun p vs J g hp hj hv => hP _ k _ J (S.gr.tr g) ⟨p, vs, rfl, S.gr.free hp, hj, hv⟩
theorem tw_retO (hi : δ[i]? = some (.own ds)) (k : P (.rt (.own ds))) : WP K (tRet (tVar i)) δ P := fun H0 H σ D S hP => by
  obtain ⟨v, h1, h2⟩ := S.ok i _ hi (by intro z; cases z)
  exact ⟨v, h1, hP _ k v H S.gr h2⟩
theorem tw_retOD {ds : List (Key × PyData)} (hi : δ[i]? = some (.ownD ds)) (k : P (.rt (.ownD ds))) : WP K (tRet (tVar i)) δ P := fun H0 H σ D S hP => by
  obtain ⟨v, h1, h2⟩ := S.ok i _ hi (by intro z; cases z)
  exact ⟨v, h1, hP _ k v H S.gr h2⟩
theorem tw_app (hi : δ[i]? = some (.own ds)) (h : DE K te δ d) (hl : ds.length < 100000) (k : P (.nx (δ.set i (.own (ds ++ [d]))))) : WP K (tDrop (tBM K "list" rAppend (tVar i) (tCons te tNil))) δ P := fun H0 H σ D S hP => by
  obtain ⟨v, h1, a, vs, rfl, h0, h2, h3⟩ := S.ok i _ hi (by intro z; cases z)
  refine ⟨_, h1, .inl ⟨rfl, vs, SqL.of h2⟩, h H0 H σ S _ fun w J g hw => ⟨a, vs, w, rfl, rfl, g _ _ h2, ?_, hP _ k σ _ ?_⟩⟩
  · rw [h3.length]; exact Nat.lt_trans hl (by decide)
  · exact (S.mono g).mut hi h1 ((h3.mono g.tm).app (.cons hw .nil))
theorem tw_setI {k' : Int} {n : Nat} (hi : δ[i]? = some (.own ds)) (h : DE K te δ d) (hk : DE K tb δ (.int k')) (hn : ixN ds.length k' = some n) (k : P (.nx (δ.set i (.own (ds.set n d))))) : WP K (tAsg te (gSub (tVar i) tb rSetL)) δ P := fun H0 H σ D S hP => by
  obtain ⟨v, h1, a, vs, rfl, h0, h2, h3⟩ := S.ok i _ hi (by intro z; cases z)
  refine h H0 H σ S _ fun w J g hw => ⟨_, h1, hk H0 J σ (S.mono g) _ fun u L g2 hu => ?_⟩
  rw [hu.int_of]
  refine ⟨a, vs, k', n, rfl, rfl, (g.tr g2) _ _ h2, by rw [h3.length]; exact hn, hP _ k σ _ ?_⟩
  exact ((S.mono g).mono g2).mut hi h1 ((h3.mono (g.tr g2).tm).set (hw.mono g2.tm) n)
/-! loops -/
def loopP (W : Nat → List SD → Prop) (k : Nat) (P : Out → Prop) : Out → Prop
  | .nx δ => ∃ δ', W (k + 1) δ' ∧ Less δ' δ
  | .ct δ => ∃ δ', W (k + 1) δ' ∧ Less δ' δ
  | .bk δ => P (.nx δ)
  | .rt r => P (.rt r)
  | .ex δ Φ => P (.ex δ Φ)
theorem loop_ends {W : Nat → List SD → Prop} {k : Nat} {H0 : Hp} {D : Ends} (hP : ∀ o, P o → OutOk K H0 D o) :
    ∀ o, loopP W k P o → OutOk K H0 { D with nx := fun σ J => ∃ δ, W (k + 1) δ ∧ Sd K H0 J σ δ, ct := fun σ J => ∃ δ, W (k + 1) δ ∧ Sd K H0 J σ δ, bk := D.nx } o
  | .nx δ, ⟨δ', w, l⟩ => fun σ J S => ⟨δ', w, S.less l⟩
  | .ct δ, ⟨δ', w, l⟩ => fun σ J S => ⟨δ', w, S.less l⟩
  | .bk δ, p => fun σ J S => hP (.nx δ) p σ J S
  | .rt r, p => hP (.rt r) p
  | .ex δ Φ, p => hP (.ex δ Φ) p
theorem tw_forR {n : Int} (W : Nat → List SD → Prop) (h : DA K ta' δ [.dat (.int n)]) (hn : n ≤ 1000000) (h0 : ∃ δ', W 0 δ' ∧ Less δ' δ)
    (hs : ∀ (k : Nat) δ', (k : Int) < n → W k δ' → WP K t (δ'.set i (.dat (.int (k : Int)))) (loopP W k P)) (hd : ∀ δ', W n.toNat δ' → P (.nx δ')) (hm : -1000000 ≤ n) : WP K (tFor (iRng1 ta') (gName i) t) δ P := fun H0 H σ D S hP =>
  h H0 H σ S _ fun vs J g hv => by
    cases hv with
    | cons hv t1 =>
      cases t1
      have e := Tp.int_of hv
      subst e
      obtain ⟨δ0, w0, l0⟩ := h0
      refine ⟨n, rfl, by omega, by omega, for_range (lo := 0) (n := n.toNat) (fun k σ J => ∃ δ', W k δ' ∧ Sd K H0 J σ δ') ⟨δ0, w0, (S.mono g).less l0⟩ (fun k σ J hk ⟨δ', w, S'⟩ => ?_) (fun σ J ⟨δ', w, S'⟩ => hP _ (hd δ' w) σ J S')⟩
      have e0 : (0 : Int) + (k : Int) = (k : Int) := Int.zero_add _
      show t _ (σ.set i (some (.int ((0 : Int) + (k : Int))))) J
      rw [e0]
      exact hs k δ' (by omega) w H0 J _ _ (S'.storeD (.int _)) (loop_ends hP)
theorem tw_forR2 {lo n : Int} (W : Nat → List SD → Prop) (h : DA K ta' δ [.dat (.int lo), .dat (.int n)]) (hn : n ≤ 1000000 ∧ -1000000 ≤ n ∧ lo ≤ 1000000 ∧ -1000000 ≤ lo) (h0 : ∃ δ', W 0 δ' ∧ Less δ' δ)
    (hs : ∀ (k : Nat) δ', lo + (k : Int) < n → W k δ' → WP K t (δ'.set i (.dat (.int (lo + (k : Int))))) (loopP W k P)) (hd : ∀ δ', W (n - lo).toNat δ' → P (.nx δ')) : WP K (tFor (iRng2 ta') (gName i) t) δ P := fun H0 H σ D S hP =>
  h H0 H σ S _ fun vs J g hv => by
    cases hv with
    | cons hv t1 =>
      cases t1 with
      | cons hv2 t2 =>
        cases t2
        have e := Tp.int_of hv
        subst e
        have e := Tp.int_of hv2
        subst e
        obtain ⟨δ0, w0, l0⟩ := h0
        refine ⟨lo, n, rfl, ⟨by omega, by omega, by omega, by omega⟩, for_range (lo := lo) (n := (n - lo).toNat) (fun k σ J => ∃ δ', W k δ' ∧ Sd K H0 J σ δ') ⟨δ0, w0, (S.mono g).less l0⟩ (fun k σ J hk ⟨δ', w, S'⟩ => ?_) (fun σ J ⟨δ', w, S'⟩ => hP _ (hd δ' w) σ J S')⟩
        exact hs k δ' (by omega) w H0 J _ _ (S'.storeD (.int _)) (loop_ends hP)
/-- what a for goes over: a list or a tuple -/
def iSeqX (K : PySem.W.Frag) (tl : TE) : TI := fun σ H R => iList K tl σ H R ∨ iTup K tl σ H R
theorem pi_x {X : Cx} {tg l : Expr} {tl : TE} (hl : PE X l tl) : PI X tg l (iSeqX X.K tl) := ⟨fun pins s σ H R I h => by
  rcases h with h | h
  · exact (pi_list hl).run pins s σ H R I h
  · exact (pi_tup hl).run pins s σ H R I h⟩
/-! what a body does keeps tuples -/
def tupB (H0 H : Hp) : Hp := fun b => match H0 b with
  | some o => some o
  | none => match H b with
    | some (.tup xs) => some (.tup xs)
    | some (.frz o (.tup xs)) => some (.frz o (.tup xs))
    | _ => none
theorem tupB_gr (H0 H : Hp) : Gr H0 (tupB H0 H) := fun a o h => by unfold tupB; rw [h]
theorem tupB_to {H0 H : Hp} (g : Gr H0 H) : Gr (tupB H0 H) H := fun a o h => by
  unfold tupB at h
  cases e : H0 a with
  | some u => rw [e] at h; rw [← h]; exact g a u e
  | none =>
    rw [e] at h
    simp only at h
    split at h
    · rename_i xs e2; rw [e2, ← h]
    · rename_i o2 xs e2; rw [e2, ← h]
    · cases h
theorem tupB_at {H0 H : Hp} {a : Addr} {o : HO} (g : Gr H0 H) (h : H a = some o) (ht : (∃ xs, o = .tup xs) ∨ ∃ u xs, o = .frz u (.tup xs)) : tupB H0 H a = some o := by
  unfold tupB
  cases e : H0 a with
  | some u => rw [g a u e] at h; exact h
  | none =>
    rcases ht with ⟨xs, rfl⟩ | ⟨u, xs, rfl⟩
    · simp only [h]
    · simp only [h]
theorem tupB_tm {H0 H L : Hp} (g : Gr H0 H) (g2 : Gr (tupB H0 H) L) : Tm K H L := fun a xs h => by
  rcases h with (h | ⟨o, h⟩) | h
  · exact .inl (.inl (g2 _ _ (tupB_at g h (.inl ⟨_, rfl⟩))))
  · exact .inl (.inr ⟨o, g2 _ _ (tupB_at g h (.inr ⟨_, _, rfl⟩))⟩)
  · exact .inr h
theorem tupB_none {H0 H : Hp} {p : Addr} (h : tupB H0 H p = none) : H0 p = none := (tupB_gr H0 H).free h
theorem tupB_new {H0 H : Hp} {p : Addr} {o : HO} (h : H0 p = none) (e : H p = some o) (ht : (∀ xs, o ≠ .tup xs) ∧ ∀ u xs, o ≠ .frz u (.tup xs)) : tupB H0 H p = none := by
  unfold tupB
  rw [h]
  simp only
  split
  · rename_i xs e2; rw [e2] at e; exact absurd (Option.some.inj e).symm (ht.1 xs)
  · rename_i u xs e2; rw [e2] at e; exact absurd (Option.some.inj e).symm (ht.2 u xs)
  · rfl
theorem tupB_rd {H0 H : Hp} {a : Addr} {u : HO} (h : Rd (tupB H0 H) a u) (hu : ∀ xs, u ≠ .tup xs) (hu2 : ∀ o xs, u ≠ .frz o (.tup xs)) : Rd H0 a u := by
  cases e : H0 a with
  | some o =>
    have e2 := (tupB_gr H0 H) a o e
    rcases h with h | ⟨o', h⟩
    · rw [e2] at h; rw [Rd, e]; exact .inl h
    · rw [e2] at h; rw [Rd, e]; exact .inr ⟨o', h⟩
  | none =>
    unfold Rd tupB at h
    rw [e] at h
    simp only at h
    split at h
    · rename_i xs e2
      rcases h with h | ⟨o, h⟩
      · exact absurd (Option.some.inj h).symm (hu xs)
      · cases h
    · rename_i o xs e2
      rcases h with h | ⟨o2, h⟩
      · exact absurd (Option.some.inj h).symm (hu2 _ _)
      · have h3 := Option.some.inj h
        injection h3 with h4 h5
        exact absurd h5.symm (hu xs)
    · rcases h with h | ⟨o, h⟩
      · cases h
      · cases h
theorem tupB_was {H0 H : Hp} {a : Addr} {o : HO} (h : tupB H0 H a = some o) (ht : (∀ xs, o ≠ .tup xs) ∧ ∀ u xs, o ≠ .frz u (.tup xs)) : H0 a = some o := by
  cases e : H0 a with
  | some u => unfold tupB at h; rw [e] at h; exact h
  | none =>
    unfold tupB at h
    rw [e] at h
    simp only at h
    split at h
    · rename_i xs e2; exact absurd (Option.some.inj h).symm (ht.1 xs)
    · rename_i u xs e2; exact absurd (Option.some.inj h).symm (ht.2 u xs)
    · cases h
theorem VS.up {H0 H J : Hp} {v : V} {s : SD} (g : Gr H0 H) (hj : ∀ p o, H0 p = none → J p = some o → tupB H0 H p = none ∨ (∃ xs, o = .tup xs) ∨ ∃ u xs, o = .frz u (.tup xs)) (h : VS K H0 J v s) : VS K (tupB H0 H) J v s := by
  cases s with
  | emp => trivial
  | raw u => exact h
  | bob a C fs => obtain ⟨e, dx, fv, h1, h2⟩ := h; exact ⟨e, dx, fv, tupB_gr H0 H _ _ h1, h2.to (fun _ _ z => z) fun _ _ _ z => tupB_gr H0 H _ _ z⟩
  | gob a gs => exact ⟨h.1, h.2.to (fun _ _ z => z) fun _ _ _ z => tupB_gr H0 H _ _ z⟩
  | fix G s => exact ⟨h.1.then (tupB_gr H0 H), h.2⟩
  | dat d => exact h
  | bor ds => obtain ⟨a, vs, e, h1, h2⟩ := h; exact ⟨a, vs, e, (tupB_gr H0 H).sq h1, h2⟩
  | own ds =>
    obtain ⟨a, vs, e, h0, h1, h2⟩ := h
    refine ⟨a, vs, e, ?_, h1, h2⟩
    rcases hj a _ h0 h1 with z | ⟨xs, z⟩ | ⟨u, xs, z⟩
    · exact z
    · cases z
    · cases z
  | borD ds => obtain ⟨a, vs, e, h1, h2⟩ := h; exact ⟨a, vs, e, (tupB_gr H0 H).rd h1, h2⟩
  | ownD ds =>
    obtain ⟨a, vs, e, h0, h1, h2⟩ := h
    refine ⟨a, vs, e, ?_, h1, h2⟩
    rcases hj a _ h0 h1 with z | ⟨xs, z⟩ | ⟨u, xs, z⟩
    · exact z
    · cases z
    · cases z
theorem VS.down {H0 H J : Hp} {v : V} {s : SD} (h : VS K (tupB H0 H) J v s) : VS K H0 J v s := by
  cases s with
  | emp => trivial
  | raw u => exact h
  | bob a C fs =>
    obtain ⟨e, dx, fv, h1, h2⟩ := h
    exact ⟨e, dx, fv, tupB_was h1 ⟨(fun xs z => by cases z), (fun u xs z => by cases z)⟩, h2.to (fun _ _ z => z) fun _ _ c z => tupB_was z c.ntup⟩
  | gob a gs =>
    exact ⟨h.1, h.2.to (fun _ _ z => z) fun q o c z => tupB_was z (by rcases c with ⟨C, dx, fs, rfl⟩ | c; exact ⟨(fun xs z => by cases z), (fun u xs z => by cases z)⟩; exact c.ntup)⟩
  | fix G s =>
    exact ⟨fun a o n e => tupB_was (h.1 a o n e) ⟨fun xs z => n (.inl ⟨xs, z⟩), fun u xs z => n (.inr ⟨u, xs, z⟩)⟩, h.2⟩
  | dat d => exact h
  | bor ds =>
    obtain ⟨a, vs, e, h1, h2⟩ := h
    refine ⟨a, vs, e, ?_, h2⟩
    rcases h1 with h1 | h1
    · exact .inl (tupB_rd h1 (fun xs z => by cases z) (fun o xs z => by cases z))
    · exact .inr h1
  | own ds => obtain ⟨a, vs, e, h0, h1, h2⟩ := h; exact ⟨a, vs, e, tupB_none h0, h1, h2⟩
  | borD ds =>
    obtain ⟨a, vs, e, h1, h2⟩ := h
    exact ⟨a, vs, e, tupB_rd h1 (fun xs z => by cases z) (fun o xs z => by cases z), h2⟩
  | ownD ds => obtain ⟨a, vs, e, h0, h1, h2⟩ := h; exact ⟨a, vs, e, tupB_none h0, h1, h2⟩
theorem Sd.up {H0 H : Hp} {σ : L2.St} (S : Sd K H0 H σ δ) : Sd K (tupB H0 H) H σ δ :=
  ⟨tupB_to S.gr, S.len, fun i s h ne => by
    obtain ⟨v, h1, h2⟩ := S.ok i s h ne
    refine ⟨v, h1, VS.up S.gr (fun p o hp ho => ?_) h2⟩
    by_cases ht : (∃ xs, o = .tup xs) ∨ ∃ u xs, o = .frz u (.tup xs)
    · exact .inr ht
    · exact .inl (tupB_new hp ho ⟨fun xs z => ht (.inl ⟨xs, z⟩), fun u xs z => ht (.inr ⟨u, xs, z⟩)⟩), S.apart⟩
theorem Sd.down {H0 H J : Hp} {σ : L2.St} (S : Sd K (tupB H0 H) J σ δ) : Sd K H0 J σ δ :=
  ⟨(tupB_gr H0 H).tr S.gr, S.len, fun i s h ne => by
    obtain ⟨v, h1, h2⟩ := S.ok i s h ne
    exact ⟨v, h1, h2.down⟩, S.apart⟩
def OutT (K : PySem.W.Frag) (H0 H : Hp) (D : Ends) : Out → Prop
  | .nx δ => ∀ σ J, Tm K H J → Sd K H0 J σ δ → D.nx σ J
  | .rt r => ∀ v J, Tm K H J → Gr H0 J → VS K H0 J v r → D.rt v J
  | .bk δ => ∀ σ J, Tm K H J → Sd K H0 J σ δ → D.bk σ J
  | .ct δ => ∀ σ J, Tm K H J → Sd K H0 J σ δ → D.ct σ J
  | .ex δ Φ => ∀ σ J, Tm K H J → Sd K H0 J σ δ → Φ σ J
/-- the same, with the tuples that stay -/
theorem WP.tm (h : WP K t δ P) {H0 H : Hp} {σ : L2.St} {D : Ends} (S : Sd K H0 H σ δ) (hP : ∀ o, P o → OutT K H0 H D o) : t D σ H :=
  h (tupB H0 H) H σ D S.up fun o p => by
    have q := hP o p
    cases o with
    | nx δ => exact fun σ J S' => q σ J (tupB_tm S.gr S'.gr) S'.down
    | rt r => exact fun v J g hv => q v J (tupB_tm S.gr g) ((tupB_gr H0 H).tr g) hv.down
    | bk δ => exact fun σ J S' => q σ J (tupB_tm S.gr S'.gr) S'.down
    | ct δ => exact fun σ J S' => q σ J (tupB_tm S.gr S'.gr) S'.down
    | ex δ Φ => exact fun σ J S' => q σ J (tupB_tm S.gr S'.gr) S'.down
theorem tw_forT (W : Nat → List SD → Prop) (h : DE K te δ (.tuple ds)) (h0 : ∃ δ', W 0 δ' ∧ Less δ' δ)
    (hs : ∀ (k : Nat) d δ', ds[k]? = some d → W k δ' → ∃ δ2, GTd K g d δ' δ2 ∧ WP K t δ2 (loopP W k P)) (hd : ∀ δ', W ds.length δ' → P (.nx δ')) : WP K (tFor (iSeqX K te) g t) δ P := fun H0 H σ D S hP =>
  .inr (h H0 H σ S _ fun v J g' hv => by
    obtain ⟨a, xs, rfl, hq, hx⟩ := hv.tup_of
    obtain ⟨δ0, w0, l0⟩ := h0
    have hl := hx.length
    refine ⟨a, rfl, ⟨xs, hq⟩, for_tup (K := K) (a := a) (xs := xs) (fun k σ L => ∃ δ', W k δ' ∧ Sd K H0 L σ δ' ∧ SqT K L a xs ∧ TpA K L xs ds) ⟨δ0, w0, (S.mono g').less l0, hq, hx⟩ (fun k σ L _ ⟨_, _, _, q, _⟩ => q) (fun k x σ L hk ⟨δ', w, S', q, hx'⟩ => ?_) (fun σ L ⟨δ', w, S', _⟩ => hP _ (hd δ' (by rw [← hl]; exact w)) σ L S')⟩
    obtain ⟨d, hd1, hd2⟩ := hx'.getV hk
    obtain ⟨δ2, hg, hw⟩ := hs k d δ' hd1 w
    refine hg H0 L σ x _ S' hd2 fun σ' S2 => ?_
    refine hw.tm S2 fun o p => ?_
    cases o with
    | nx δ => obtain ⟨δ3, w3, l3⟩ := p; exact fun σ J tm S' => ⟨δ3, w3, S'.less l3, tm _ _ q, hx'.mono tm⟩
    | ct δ => obtain ⟨δ3, w3, l3⟩ := p; exact fun σ J tm S' => ⟨δ3, w3, S'.less l3, tm _ _ q, hx'.mono tm⟩
    | bk δ => exact fun σ J tm S' => hP (.nx δ) p σ J S'
    | rt r => exact fun v J tm g hv => hP (.rt r) p v J g hv
    | ex δ Φ => exact fun σ J tm S' => hP (.ex δ Φ) p σ J S')
/-- over a list that was handed in -/
theorem tw_forL {j : Nat} (W : Nat → List SD → Prop) (h : δ[j]? = some (.bor ds)) (h0 : ∃ δ', W 0 δ' ∧ Less δ' δ)
    (hs : ∀ (k : Nat) d δ', ds[k]? = some d → W k δ' → ∃ δ2, GTd K g d δ' δ2 ∧ WP K t δ2 (loopP W k P)) (hd : ∀ δ', W ds.length δ' → P (.nx δ')) : WP K (tFor (iSeqX K (tVar j)) g t) δ P := fun H0 H σ D S hP => by
  obtain ⟨v, h1, a, xs, rfl, hq, hx⟩ := S.ok j _ h (by intro z; cases z)
  refine .inl ⟨_, h1, ?_⟩
  obtain ⟨δ0, w0, l0⟩ := h0
  have hl := hx.length
  refine ⟨a, rfl, ⟨xs, S.gr.sq hq⟩, for_list (K := K) (a := a) (xs := xs) (fun k σ L => ∃ δ', W k δ' ∧ Sd K H0 L σ δ' ∧ TpA K L xs ds) ⟨δ0, w0, S.less l0, hx⟩ (fun k σ L _ ⟨_, _, S', _⟩ => S'.gr.sq hq) (fun k x σ L hk ⟨δ', w, S', hx'⟩ => ?_) (fun σ L ⟨δ', w, S', _⟩ => hP _ (hd δ' (by rw [← hl]; exact w)) σ L S')⟩
  obtain ⟨d, hd1, hd2⟩ := hx'.getV hk
  obtain ⟨δ2, hg, hw⟩ := hs k d δ' hd1 w
  refine hg H0 L σ x _ S' hd2 fun σ' S2 => ?_
  refine hw.tm S2 fun o p => ?_
  cases o with
  | nx δ => obtain ⟨δ3, w3, l3⟩ := p; exact fun σ J tm S' => ⟨δ3, w3, S'.less l3, hx'.mono tm⟩
  | ct δ => obtain ⟨δ3, w3, l3⟩ := p; exact fun σ J tm S' => ⟨δ3, w3, S'.less l3, hx'.mono tm⟩
  | bk δ => exact fun σ J tm S' => hP (.nx δ) p σ J S'
  | rt r => exact fun v J tm g hv => hP (.rt r) p v J g hv
  | ex δ Φ => exact fun σ J tm S' => hP (.ex δ Φ) p σ J S'
/-! a list of one's own that is only read from here on -/
def RetOnly (P : Out → Prop) : Prop := ∀ o, P o → match o with
  | .rt (.dat _) => True
  | .rt (.own _) => True
  | .rt (.ownD _) => True
  | _ => False
theorem tw_freeze (hP : RetOnly P) (hi : δ[i]? = some (.own ds)) (h : WP K t (δ.set i (.bor ds)) P) : WP K t δ P := fun H0 H σ D S hD => by
  obtain ⟨v, h1, a, xs, rfl, h0, h2, hx⟩ := S.ok i _ hi (by intro z; cases z)
  have il : i < δ.length := (List.getElem?_eq_some_iff.mp hi).1
  have g1 : Gr H0 (upd H0 a (.lst xs)) := Gr.lay h0
  refine h (upd H0 a (.lst xs)) H σ D ⟨fun b o e => ?_, by rw [List.length_set]; exact S.len, fun j s hj ne => ?_, fun j k s u b hj hk hs hu ej ek => ?_⟩ fun o p => ?_
  · by_cases n : b = a
    · subst n; rw [upd_same] at e; rw [← e]; exact h2
    · rw [upd_ne n] at e; exact S.gr b o e
  · rcases get_set hj with ⟨rfl, rfl, hl⟩ | ⟨n, hj2⟩
    · exact ⟨_, h1, a, xs, rfl, SqL.of upd_same, hx⟩
    · obtain ⟨w, k1, k2⟩ := S.ok j s hj2 ne
      refine ⟨w, k1, ?_⟩
      cases s with
      | emp => trivial
      | raw u => exact k2
      | bob b C fs => obtain ⟨e, dx, fv, q1, q2⟩ := k2; exact ⟨e, dx, fv, g1 _ _ q1, q2.to (fun _ _ z => z) fun _ _ _ z => g1 _ _ z⟩
      | gob b gs => exact ⟨k2.1, k2.2.to (fun _ _ z => z) fun _ _ _ z => g1 _ _ z⟩
      | fix G f => exact ⟨k2.1.then g1, k2.2⟩
      | dat d => exact k2
      | bor ds => obtain ⟨b, vs, e, q1, q2⟩ := k2; exact ⟨b, vs, e, g1.sq q1, q2⟩
      | borD ds => obtain ⟨b, vs, e, q1, q2⟩ := k2; exact ⟨b, vs, e, g1.rd q1, q2⟩
      | own ds =>
        obtain ⟨b, vs, rfl, q0, q1, q2⟩ := k2
        have nb : b ≠ a := fun z => n (S.apart i j _ _ a hi hj2 rfl rfl h1 (by rw [← z]; exact k1))
        exact ⟨b, vs, rfl, by rw [upd_ne nb]; exact q0, q1, q2⟩
      | ownD ds =>
        obtain ⟨b, vs, rfl, q0, q1, q2⟩ := k2
        have nb : b ≠ a := ne_of q1 h2 (by intro z; cases z)
        exact ⟨b, vs, rfl, by rw [upd_ne nb]; exact q0, q1, q2⟩
  · rcases get_set hj with ⟨rfl, rfl, hl⟩ | ⟨n, hj2⟩
    · cases hs
    · rcases get_set hk with ⟨rfl, rfl, hl⟩ | ⟨n2, hk2⟩
      · cases hu
      · exact S.apart j k s u b hj2 hk2 hs hu ej ek
  · have q := hD o p
    have z := hP o p
    cases o with
    | rt r =>
      intro v J g hv
      refine q v J (g1.tr g) ?_
      cases r with
      | dat d => exact hv
      | own ds => obtain ⟨b, vs, e, q0, q1, q2⟩ := hv; exact ⟨b, vs, e, g1.free q0, q1, q2⟩
      | ownD ds => obtain ⟨b, vs, e, q0, q1, q2⟩ := hv; exact ⟨b, vs, e, g1.free q0, q1, q2⟩
      | _ => exact z.elim
    | _ => exact z.elim
end
/-! a def -/
def startD (N : List Str) (ss : List SD) : List SD := ss ++ List.replicate (N.length - ss.length) .emp
def fnO (r : SD) : Out → Prop
  | .nx _ => r = .dat .none
  | .rt r' => r' = r
  | _ => False
section
variable {K : PySem.W.Frag}
theorem va_get {H : Hp} : ∀ {vs : List V} {ss : List SD} {i : Nat} {s : SD}, VA K H vs ss → ss[i]? = some s → ∃ v, vs[i]? = some v ∧ VS K H H v s
  | _, _, _, _, .nil, e => by simp at e
  | _, _, 0, _, .cons r _, e => by simp at e; subst e; exact ⟨_, rfl, r⟩
  | _, _, i + 1, d, .cons _ t, e => by
    obtain ⟨u, h1, h2⟩ := va_get (i := i) (s := d) t (by simpa using e)
    exact ⟨u, by simpa using h1, h2⟩
theorem no_own {H : Hp} {v : V} {s : SD} (h : VS K H H v s) : s.ows = false := by
  cases s with
  | own ds => obtain ⟨a, vs, e, h0, h1, h2⟩ := h; rw [h0] at h1; cases h1
  | ownD ds => obtain ⟨a, vs, e, h0, h1, h2⟩ := h; rw [h0] at h1; cases h1
  | _ => rfl
theorem start_get {N : List Str} {ss : List SD} {i : Nat} {s : SD} (h : (startD N ss)[i]? = some s) : (ss[i]? = some s) ∨ s = .emp := by
  unfold startD at h
  rw [List.getElem?_append] at h
  split at h
  · exact .inl h
  · rw [List.getElem?_replicate] at h
    split at h
    · exact .inr (Option.some.inj h).symm
    · cases h
theorem sd_start {H : Hp} {N : List Str} {vs : List V} {ss : List SD} (h : VA K H vs ss) : Sd K H H (L2.start N vs) (startD N ss) := by
  have hl := h.length
  refine ⟨Gr.rfl' H, ?_, fun i s hi ne => ?_, fun i j s t a hi hj hs ht _ _ => ?_⟩
  · unfold L2.start startD
    simp [hl]
  · rcases start_get hi with hi | rfl
    · obtain ⟨v, h1, h2⟩ := va_get h hi
      refine ⟨v, ?_, h2⟩
      unfold L2.start
      have il : i < vs.length := (List.getElem?_eq_some_iff.mp h1).1
      rw [List.getElem?_append_left (by rw [List.length_map]; exact il), List.getElem?_map, h1]
      rfl
    · exact absurd rfl ne
  · rcases start_get hi with hi | rfl
    · obtain ⟨v, h1, h2⟩ := va_get h hi
      rw [no_own h2] at hs
      cases hs
    · cases hs
section
variable {P : Program} {w : World} {mg : Str → Option Value} {base : Heap}
theorem fn_R {x qual : Str} {st : Stmt} {f : Addr} {fd : FuncData} {N ps : List Str} {k : Nat} {R : List SD → SD → Prop} (F : Fun K x qual st f fd) (S : FnScope N ps (defScope st)) (len : ∀ ss r, R ss r → ss.length = ps.length)
    (hb : ∀ (cdv : Value) (A : Around) (outer : List Env) (s : Shared) (H : Hp) (E : XK), Room k (A.deeper (envOfC qual (defScope st) s.heap.objs.size f cdv)) →
      ∃ t, PSs (cxOf CX0 P w K mg base N qual (defScope st) f cdv A outer s H E).nox (defBody st) t ∧ ∀ ss r, R ss r → WP K t (startD N ss) (fnO r)) : FnOk P w K mg base CX0 (k + 1) f fd ps (spR K R) := by
  refine F.ok S (fun vs H Q E h => ?_) (fun cdv A outer s H vs Q E hr h => ?_)
  · obtain ⟨ss, r, hR, hv, _⟩ := h
    exact hv.length.trans (len ss r hR)
  · obtain ⟨ss, r, hR, hv, q⟩ := h
    obtain ⟨t, ht, hw⟩ := hb cdv A outer s H E hr
    refine ⟨t, ht, hw ss r hR H H _ _ (sd_start hv) fun o p => ?_⟩
    cases o with
    | nx δ =>
      have e : r = .dat .none := p
      subst e
      exact fun σ J S' => q .non J S'.gr .non
    | rt r' =>
      have e : r' = r := p
      subst e
      exact fun v J g hv => q v J g hv
    | bk δ => exact False.elim p
    | ct δ => exact False.elim p
    | ex δ Φ => exact False.elim p
end
end
end Tn

namespace Tn
open PySem L2 PySem.Spec PyProof.Rows
section
variable {K : PySem.W.Frag} {u : TS} {P : Out → Prop} {δ : List SD} {r : SD}
theorem then_nx (h : WP K u δ P) : thenP K u P (.nx δ) := h
theorem then_rt (h : P (.rt r)) : thenP K u P (.rt r) := h
theorem then_bk (h : P (.bk δ)) : thenP K u P (.bk δ) := h
theorem then_ct (h : P (.ct δ)) : thenP K u P (.ct δ) := h
theorem tw_seqA {te : TE} {g : TG} (h : WP K (tAsg te g) δ (thenP K u P)) : WP K (tSeq (tAsg te g) u) δ P := tw_seq h
theorem tw_seqR {te : TE} (h : WP K (tRet te) δ (thenP K u P)) : WP K (tSeq (tRet te) u) δ P := tw_seq h
theorem tw_seqD {te : TE} (h : WP K (tDrop te) δ (thenP K u P)) : WP K (tSeq (tDrop te) u) δ P := tw_seq h
theorem tw_seqI {c : TT} {a b : TS} (h : WP K (tIfS c a b) δ (thenP K u P)) : WP K (tSeq (tIfS c a b) u) δ P := tw_seq h
theorem tw_seqG {a b c : TE} (h : WP K (sDPut a b c) δ (thenP K u P)) : WP K (tSeq (sDPut a b c) u) δ P := tw_seq h
theorem tw_seqP {i j : Nat} {a : TA} (h : WP K (tPar i j a) δ (thenP K u P)) : WP K (tSeq (tPar i j a) u) δ P := tw_seq h
theorem tw_seqU {i : Nat} {a : TE} {b : TIp} (h : WP K (tAug i a b) δ (thenP K u P)) : WP K (tSeq (tAug i a b) u) δ P := tw_seq h
theorem tw_seqN (h : WP K tNext δ (thenP K u P)) : WP K (tSeq tNext u) δ P := tw_seq h
theorem fn_rt {r' : SD} (h : r' = r) : fnO r (.rt r') := h
theorem loop_nx {W : Nat → List SD → Prop} {k : Nat} (h : ∃ δ', W (k + 1) δ' ∧ Less δ' δ) : loopP W k P (.nx δ) := h
theorem loop_ct {W : Nat → List SD → Prop} {k : Nat} (h : ∃ δ', W (k + 1) δ' ∧ Less δ' δ) : loopP W k P (.ct δ) := h
theorem loop_bk {W : Nat → List SD → Prop} {k : Nat} (h : P (.nx δ)) : loopP W k P (.bk δ) := h
theorem loop_rt {W : Nat → List SD → Prop} {k : Nat} (h : P (.rt r)) : loopP W k P (.rt r) := h
theorem less_eq {s s' : SD} {δ δ' : List SD} (e : s' = s) (l : Less δ' δ) : Less (s' :: δ') (s :: δ) := e ▸ Less.same l
theorem ret_bool {b : Bool} : RetOnly (fnO (.dat (.bool b))) := fun o p => by
  cases o with
  | rt r => have e : r = .dat (.bool b) := p; subst e; trivial
  | nx δ => cases (show SD.dat (.bool b) = .dat .none from p)
  | bk δ => exact p.elim
  | ct δ => exact p.elim
  | ex δ Φ => exact p.elim
theorem ret_tup {b : List PyData} : RetOnly (fnO (.dat (.tuple b))) := fun o p => by
  cases o with
  | rt r => have e : r = .dat (.tuple b) := p; subst e; trivial
  | nx δ => cases (show SD.dat (.tuple b) = .dat .none from p)
  | bk δ => exact p.elim
  | ct δ => exact p.elim
  | ex δ Φ => exact p.elim
variable {te : TE} {ta' : TA} {d : PyData} {i : Int}
theorem de_neg (h : DE K te δ (.int i)) : DE K (tUn (rU fun i => .int (-i)) te) δ (.int (-i)) := fun H0 H σ S Q q => h H0 H σ S _ fun v J g hv => ⟨i, hv.int_of, q _ J g (.int _)⟩
theorem b_int : bootBuiltins "int" = some (.type "int") := by decide +kernel
theorem b_bool : bootBuiltins "bool" = some (.type "bool") := by decide +kernel
theorem b_tuple : bootBuiltins "tuple" = some (.type "tuple") := by decide +kernel
theorem b_list : bootBuiltins "list" = some (.type "list") := by decide +kernel
theorem b_str : bootBuiltins "str" = some (.type "str") := by decide +kernel
theorem b_dict : bootBuiltins "dict" = some (.type "dict") := by decide +kernel
theorem b_len : bootBuiltins "len" = some (.builtin "len") := by decide +kernel
theorem b_isinstance : bootBuiltins "isinstance" = some (.builtin "isinstance") := by decide +kernel
theorem b_max : bootBuiltins "max" = some (.builtin "max") := by decide +kernel
theorem b_min : bootBuiltins "min" = some (.builtin "min") := by decide +kernel
theorem b_sum : bootBuiltins "sum" = some (.builtin "sum") := by decide +kernel
theorem b_all : bootBuiltins "all" = some (.builtin "all") := by decide +kernel
theorem b_any : bootBuiltins "any" = some (.builtin "any") := by decide +kernel
theorem cxK {CX : CXT} {P : Program} {w : World} {K : PySem.W.Frag} {mg : Str → Option Value} {base : Heap} {N : List Str} {qual : Str} {scope : Scope} {f : Addr} {cd : Value} {A : Around} {outer : List Env} {s : Shared} {H : Hp} {E : XK} :
    (cxOf CX P w K mg base N qual scope f cd A outer s H E).nox.K = K := rfl
theorem cxK2 {CX : CXT} {P : Program} {w : World} {K : PySem.W.Frag} {mg : Str → Option Value} {base : Heap} {N : List Str} {qual : Str} {scope : Scope} {f : Addr} {cd : Value} {A : Around} {outer : List Env} {s : Shared} {H : Hp} {E : XK} :
    (cxOf CX P w K mg base N qual scope f cd A outer s H E).K = K := rfl
theorem o_addK {X : Cx} (K : PySem.W.Frag) (e : X.K = K) : OpR X (binaryOp .Add) (rAddX K) := e ▸ o_add
theorem o_eqK {X : Cx} (K : PySem.W.Frag) (e : X.K = K) (hu : X.A.units + 64 < cLine) : OpR X (compareOp .Eq) (rEqX K) := e ▸ o_eq hu
theorem o_neK {X : Cx} (K : PySem.W.Frag) (e : X.K = K) (hu : X.A.units + 64 < cLine) : OpR X (compareOp .NotEq) (rNeX K) := e ▸ o_ne hu
theorem ix_K {X : Cx} (K : PySem.W.Frag) (e : X.K = K) : IxR X (rIx K) := e ▸ ix_seq
theorem sl_K {X : Cx} (K : PySem.W.Frag) (e : X.K = K) : SlR X (rSlX K) := e ▸ sl_x
theorem c_lenK {X : Cx} (K : PySem.W.Frag) (e : X.K = K) : CallR X (.builtin "len") (rLenX K) := e ▸ c_len
theorem c_listK {X : Cx} (K : PySem.W.Frag) (e : X.K = K) : CallR X (.type "list") (rListX K) := e ▸ c_list
theorem c_tupleK {X : Cx} (K : PySem.W.Frag) (e : X.K = K) : CallR X (.type "tuple") (rTupX K) := e ▸ c_tuple
theorem c_isiK {X : Cx} (K : PySem.W.Frag) (e : X.K = K) : CallR X (.builtin "isinstance") (rIsi K) := e ▸ call_isi
theorem c_sumK {X : Cx} (K : PySem.W.Frag) (e : X.K = K) (hc : X.calm = true) : CallR X (.builtin "sum") (rSum K) := e ▸ cr_sum hc
theorem c_allK {X : Cx} (K : PySem.W.Frag) (e : X.K = K) (hc : X.calm = true) : CallR X (.builtin "all") (rAll K) := e ▸ cr_all hc
theorem c_anyK {X : Cx} (K : PySem.W.Frag) (e : X.K = K) (hc : X.calm = true) : CallR X (.builtin "any") (rAny K) := e ▸ cr_any hc
theorem c_inK {X : Cx} (K : PySem.W.Frag) (e : X.K = K) : OpR X (compareOp .In) (rIn K false) := e ▸ op_in_seq
theorem c_ninK {X : Cx} (K : PySem.W.Frag) (e : X.K = K) : OpR X (compareOp .NotIn) (rIn K true) := e ▸ op_notIn_seq
theorem pi_K {X : Cx} {tg l : Expr} {tl : TE} (K : PySem.W.Frag) (e : X.K = K) (hl : PE X l tl) : PI X tg l (iSeqX K tl) := e ▸ pi_x hl
theorem pg_tK {X : Cx} {es : List Expr} {k : Nat} {pos : Pos} {t : TGs} {n : Nat} (K : PySem.W.Frag) (e : X.K = K) (hc : X.calm = true) (h : PGs X es t) (hn : (assignEach es X.env).length = n) (hst : (assignEach es X.env).findIdx? (·.1) = none) : PG X (.Tuple es k pos) (gTup K n t) := by
  subst e
  exact pg_tup hc h hn hst
/-! the law's draws -/
def cell (ns : List Int) (k : Nat) : Int := if ns.getD k 0 < 0 then 0 - 2 * ns.getD k 0 - 1 else ns.getD k 0
theorem cell_nonneg (ns : List Int) (k : Nat) : 0 ≤ cell ns k := by unfold cell; split <;> omega
def mix1 (c k : Int) : Int := ((c * 48271 + k * 69621 + 11) % 2147483647 * 16807 + k * 12345 + 99991) % 2147483629
def mix2 (c k : Int) : Int := ((mix1 c k * 40692 + k * 3791 + c) % 2147483399 * 69621 + 7) % 2147483647
def num (ns : List Int) (k : Nat) : Int := if cell ns k ≥ 1000000000 then cell ns k else mix1 (cell ns k) k * 2147483647 + mix2 (cell ns k) k
theorem p9 : (10 : Int) ^ Int.toNat 9 = 1000000000 := by decide
theorem p12 : (10 : Int) ^ Int.toNat 12 = 1000000000000 := by decide
theorem p15 : (10 : Int) ^ Int.toNat 15 = 1000000000000000 := by decide
theorem num_nonneg (ns : List Int) (k : Nat) : 0 ≤ num ns k := by
  have h := cell_nonneg ns k
  unfold num mix1 mix2
  split
  · exact h
  · omega
def R_num : List SD → SD → Prop := fun ss r => ∃ (ns : List Int) (k : Int), ss = [.bor (ns.map .int), .dat (.int k)] ∧ 0 ≤ k ∧ r = .dat (.int (num ns k.toNat))
theorem at_ints {ns : List Int} {k : Nat} (h : k < ns.length) : atI (ns.map PyData.int) (k : Int) = some (.int (ns.getD k 0)) := by
  refine atI_nat ?_
  rw [List.getElem?_map, List.getElem?_eq_getElem h, List.getD_eq_getElem?_getD, List.getElem?_eq_getElem h]
  rfl
/-! items of a written list at a place that is not written -/
def isI : PyData → Bool
  | .int _ => true
  | _ => false
def intOf : PyData → Int
  | .int i => i
  | _ => 0
def intsOf (ds : List PyData) : List Int := ds.map intOf
theorem intsOf_map : ∀ {ds : List PyData}, ds.all isI = true → (intsOf ds).map .int = ds
  | [], _ => rfl
  | d :: ds, h => by
    rw [List.all_cons, Bool.and_eq_true] at h
    have e := intsOf_map h.2
    cases d with
    | int i => exact congrArg (PyData.int i :: ·) e
    | _ => exact absurd (show false = true from h.1) Bool.false_ne_true
theorem at_ds {ds : List PyData} {i : Int} (h : ds.all isI = true) (h0 : 0 ≤ i) (h1 : i < (ds.length : Int)) : atI ds i = some (.int ((intsOf ds).getD i.toNat 0)) := by
  have e := intsOf_map h
  have hl : (intsOf ds).length = ds.length := by unfold intsOf; rw [List.length_map]
  have := at_ints (ns := intsOf ds) (k := i.toNat) (by omega)
  rw [e, Int.toNat_of_nonneg h0] at this
  exact this
section
variable {a b c d e f g h : PyData} {ds : List PyData}
theorem at_c0 : atI (a :: ds) 0 = some a := atI_nat (j := 0) rfl
theorem at_c1 : atI (a :: b :: ds) 1 = some b := atI_nat (j := 1) rfl
theorem at_c2 : atI (a :: b :: c :: ds) 2 = some c := atI_nat (j := 2) rfl
theorem at_c3 : atI (a :: b :: c :: d :: ds) 3 = some d := atI_nat (j := 3) rfl
theorem at_c4 : atI (a :: b :: c :: d :: e :: ds) 4 = some e := atI_nat (j := 4) rfl
theorem at_c5 : atI (a :: b :: c :: d :: e :: f :: ds) 5 = some f := atI_nat (j := 5) rfl
theorem at_c6 : atI (a :: b :: c :: d :: e :: f :: g :: ds) 6 = some g := atI_nat (j := 6) rfl
end
theorem at_nat {ds : List PyData} {d : PyData} {i : Int} {j : Nat} (e : i = (j : Int)) (h : ds[j]? = some d) : atI ds i = some d := e ▸ atI_nat h
theorem at_get {ds : List PyData} {i : Int} (h0 : 0 ≤ i) (h1 : i < (ds.length : Int)) : atI ds i = some (ds.getD i.toNat .none) := by
  have hl : i.toNat < ds.length := by omega
  have := atI_nat (xs := ds) (j := i.toNat) (v := ds.getD i.toNat .none) (by rw [List.getD_eq_getElem?_getD, List.getElem?_eq_getElem hl]; rfl)
  rw [Int.toNat_of_nonneg h0] at this
  exact this
end
end Tn

namespace Tn
open PySem L2 PySem.Spec PyProof.Rows
/-! dicts -/
def putD (kvs : List (Key × PyData)) (k : Key) (v : PyData) : List (Key × PyData) :=
  if (kvs.any fun kv => decide (kv.1 = k)) = true then kvs.map (fun kv => if kv.1 = k then (kv.1, v) else kv) else kvs ++ [(k, v)]
def getD' (kvs : List (Key × PyData)) (k : Key) : Option PyData := (kvs.find? fun kv => decide (kv.1 = k)).map (·.2)
section
variable {K : PySem.W.Frag} {δ : List SD} {P : Out → Prop} {te td ty tv ta tb : TE} {d x y : PyData} {kvs : List (Key × PyData)} {i : Nat} {k j : Int}
theorem KvA.any {H : Hp} {k : Key} : ∀ {vs : List (Key × V)} {ds : List (Key × PyData)}, KvA K H vs ds → (vs.any fun kv => decide (kv.1 = k)) = (ds.any fun kv => decide (kv.1 = k))
  | _, _, .nil => rfl
  | _, _, .cons h t => by rw [List.any_cons, List.any_cons, KvA.any t]
theorem KvA.app {H : Hp} {k : Key} {v : V} {d : PyData} (h : Tp K H v d) : ∀ {vs : List (Key × V)} {ds : List (Key × PyData)}, KvA K H vs ds → KvA K H (vs ++ [(k, v)]) (ds ++ [(k, d)])
  | _, _, .nil => .cons h .nil
  | _, _, .cons q t => .cons q (KvA.app h t)
theorem KvA.mapped {H : Hp} {k : Key} {v : V} {d : PyData} (h : Tp K H v d) : ∀ {vs : List (Key × V)} {ds : List (Key × PyData)}, KvA K H vs ds → KvA K H (vs.map fun kv => if kv.1 = k then (kv.1, v) else kv) (ds.map fun kv => if kv.1 = k then (kv.1, d) else kv)
  | _, _, .nil => .nil
  | _, _, .cons (k := k') q t => by
    rw [List.map_cons, List.map_cons]
    by_cases e : k' = k
    · simp only [e, if_true]
      exact .cons h (KvA.mapped h t)
    · simp only [e, if_false]
      exact .cons q (KvA.mapped h t)
theorem KvA.put {H : Hp} {k : Key} {v : V} {d : PyData} (h : Tp K H v d) {vs : List (Key × V)} {ds : List (Key × PyData)} (q : KvA K H vs ds) : KvA K H (putK vs k v) (putD ds k d) := by
  unfold putK putD
  rw [q.any]
  split
  · exact KvA.mapped h q
  · exact KvA.app h q
theorem KvA.look {H : Hp} {k : Key} : ∀ {vs : List (Key × V)} {ds : List (Key × PyData)}, KvA K H vs ds → (getD' ds k = none ∧ valV vs k = none) ∨ ∃ v d, getD' ds k = some d ∧ valV vs k = some v ∧ Tp K H v d
  | _, _, .nil => .inl ⟨rfl, rfl⟩
  | _, _, .cons (k := k') q t => by
    unfold getD' valV
    rw [List.find?_cons, List.find?_cons]
    by_cases e : k' = k
    · simp only [e, decide_true]
      exact .inr ⟨_, _, rfl, rfl, q⟩
    · simp only [e, decide_false]
      exact KvA.look t
theorem dm_new : DM K tDNewK δ [] := fun H0 H σ S Q q => fun p hp => q p [] _ (Gr.lay hp) hp upd_same .nil
theorem tw_dput (hi : δ[i]? = some (.ownD kvs)) (hv : DE K tv δ d) (hk : DE K ty δ (.int k)) (hl : kvs.length < 100000) (p : P (.nx (δ.set i (.ownD (putD kvs (.inl k) d))))) : WP K (sDPut (tVar i) ty tv) δ P := fun H0 H σ D S hP => by
  obtain ⟨v, h1, a, vs, rfl, h0, h2, h3⟩ := S.ok i _ hi (by intro z; cases z)
  refine hv H0 H σ S _ fun w J g hw => ⟨_, h1, hk H0 J σ (S.mono g) _ fun u L g2 hu => ?_⟩
  rw [hu.int_of]
  refine ⟨a, _, rfl, DPut.k (k := .inl k) ((g.tr g2) _ _ h2) (by rw [h3.length]; exact Nat.lt_trans hl (by decide)), hP _ p σ _ ?_⟩
  exact ((S.mono g).mono g2).mutD hi h1 ((h3.mono (g.tr g2).tm).put (hw.mono g2.tm))
theorem de_dget (h : DK K td δ kvs) (hk : DE K ty δ (.int k)) (e : getD' kvs (.inl k) = some d) : DE K (tDGet td ty) δ d := fun H0 H σ S Q q => h H0 H σ S _ fun a vs J g hr hv => hk H0 J σ (S.mono g) _ fun u L g2 hu => by
  rw [hu.int_of]
  rcases hv.look (k := .inl k) with ⟨e1, _⟩ | ⟨v, d', e1, e2, e3⟩
  · rw [e1] at e; cases e
  · rw [e1] at e
    cases e
    exact ⟨a, v, rfl, .inl ⟨vs, .inl k, g2.rd hr, rfl, e2.symm⟩, q v L (g.tr g2) (e3.mono g2.tm)⟩
theorem de_din (h : DK K td δ kvs) (hk : DE K ty δ (.int k)) : DE K (tDIn ty td) δ (.bool (getD' kvs (.inl k)).isSome) := fun H0 H σ S Q q => hk H0 H σ S _ fun u J g hu => h H0 J σ (S.mono g) _ fun a vs L g2 hr hv => by
  rw [hu.int_of]
  rcases hv.look (k := .inl k) with ⟨e1, e2⟩ | ⟨v, d', e1, e2, e3⟩
  · refine ⟨a, none, rfl, .inl ⟨vs, .inl k, hr, rfl, e2.symm⟩, ?_⟩
    rw [e1] at q
    exact q _ L (g.tr g2) (.bl false)
  · refine ⟨a, some v, rfl, .inl ⟨vs, .inl k, hr, rfl, e2.symm⟩, ?_⟩
    rw [e1] at q
    exact q _ L (g.tr g2) (.bl true)
def keyD : Key → PyData
  | .inl i => .int i
  | .inr s => .str s
def itemD (p : Key × PyData) : PyData := .tuple [keyD p.1, p.2]
theorem Tp.key {H : Hp} (k : Key) : Tp K H (kV k) (keyD k) := by
  cases k with
  | inl i => exact .int i
  | inr s => exact .str s
theorem items_tp {H H' : Hp} (g : Gr H H') : ∀ {ts : List Addr} {vs : List (Key × V)} {ds : List (Key × PyData)}, Paired (fun (t : Addr) (q : Key × V) => H' t = some (.tup [kV q.1, q.2])) ts vs → KvA K H vs ds → TpA K H' (ts.map V.ref) (ds.map itemD)
  | _, _, _, .nil, .nil => .nil
  | _, _, _, .cons h t, .cons q r => .cons (.tup (SqT.of h) (.cons (Tp.key _) (.cons (q.mono g.tm) .nil))) (items_tp g t r)
theorem dn_items (hi : δ[i]? = some (.ownD kvs)) : DN K (LiI.tListItems (tVar i)) δ (kvs.map itemD) := fun H0 H σ S Q q => by
  obtain ⟨v, h1, a, vs, rfl, h0, h2, h3⟩ := S.ok i _ hi (by intro z; cases z)
  exact ⟨_, h1, a, vs, rfl, h2, fun H' p ts g hp _ _ hl hpd => q p _ H' g hp hl (items_tp g hpd h3)⟩
/-! comprehensions over a range, a list, a tuple: no test -/
def wipeD (δ : List SD) : List Nat → List SD
  | [] => δ
  | v :: vs => (wipeD δ vs).set v .emp
theorem Sd.wipe {H0 H : Hp} {σ : L2.St} : ∀ {vs : List Nat}, Sd K H0 H σ δ → Sd K H0 H (L2.wipe σ vs) (wipeD δ vs)
  | [], S => S
  | v :: vs, S => by
    have S' := Sd.wipe (vs := vs) S
    refine ⟨S'.gr, by show (List.set _ _ _).length = (List.set _ _ _).length; rw [List.length_set, List.length_set]; exact S'.len, fun i s hi ne => ?_, fun i j s t a hi hj hs ht ei ej => ?_⟩
    · rcases get_set hi with ⟨e, rfl, _⟩ | ⟨e, h2⟩
      · exact absurd rfl ne
      · obtain ⟨w, h3, h4⟩ := S'.ok i s h2 ne
        exact ⟨w, by show (List.set _ _ _)[i]? = _; rw [set_get_ne e]; exact h3, h4⟩
    · rcases get_set hi with ⟨e, rfl, _⟩ | ⟨e, h2⟩
      · cases hs
      · rcases get_set hj with ⟨e', rfl, _⟩ | ⟨e', h2'⟩
        · cases ht
        · have ei' : (L2.wipe σ vs)[i]? = some (some (.ref a)) := by rw [← ei]; exact (set_get_ne e).symm
          have ej' : (L2.wipe σ vs)[j]? = some (some (.ref a)) := by rw [← ej]; exact (set_get_ne e').symm
          exact S'.apart i j s t a h2 h2' hs ht ei' ej'
theorem TpA.map_range {H : Hp} {f : Nat → PyData} {n : Nat} {acc : List V} {v : V} (h : TpA K H acc ((List.range n).map f)) (hv : Tp K H v (f n)) : TpA K H (acc ++ [v]) ((List.range (n + 1)).map f) := by
  rw [List.range_succ, List.map_append]
  exact h.app (.cons hv .nil)
theorem wipe_one {σ : L2.St} {i : Nat} {x : Option V} : L2.wipe ((L2.wipe σ [i]).set i x) [i] = L2.wipe σ [i] := by
  show ((σ.set i none).set i x).set i none = σ.set i none
  rw [List.set_set, List.set_set]
/-- [e for x in range(n)] -/
theorem dn_lcR {ta : TA} {n : Int} (f : Nat → PyData) (h : DA K ta δ [.dat (.int n)]) (hn : -1000000 ≤ n ∧ n ≤ 1000000)
    (he : ∀ k : Nat, (k : Int) < n → DE K te ((wipeD δ [i]).set i (.dat (.int (k : Int)))) (f k)) : DN K (tLc (iRng1 ta) (gName i) tYes te [i]) δ ((List.range n.toNat).map f) := fun H0 H σ S Q q =>
  h H0 H σ S _ fun vs J g hv => by
    cases hv with
    | cons hv t1 =>
      cases t1
      have e := Tp.int_of hv
      subst e
      refine ⟨n, rfl, by omega, by omega, fun Dl hD => lc_range (lo := 0) (n := n.toNat) (fun k L => Gr J L ∧ ∃ acc, L Dl = some (.lst acc) ∧ TpA K L acc ((List.range k).map f)) ⟨Gr.lay hD, [], upd_same, .nil⟩ (fun k L hk ⟨gl, acc, hl, ha⟩ => ?_) (fun L ⟨gl, acc, hl, ha⟩ => q Dl acc L (g.tr gl) (g.free hD) hl ha)⟩
      have e0 : (0 : Int) + (k : Int) = (k : Int) := Int.zero_add _
      have len : acc.length = k := by rw [ha.length, List.length_map, List.length_range]
      show L2.wipe ((L2.wipe σ [i]).set i (some (.int (0 + (k : Int))))) [i] = L2.wipe σ [i] ∧ _
      refine ⟨wipe_one, ?_⟩
      rw [e0]
      show te _ L _
      refine he k (by omega) H0 L _ (((S.mono g).mono gl).wipe.storeD (.int _)) _ fun v M g2 hv => ?_
      have hl2 := g2 _ _ hl
      refine ⟨acc, hl2, by rw [len]; exact Nat.lt_of_lt_of_le (show k < 1000001 by omega) (by decide), ?_⟩
      refine ⟨Gr.lay2 (gl.tr g2) hD, _, upd_same, ?_⟩
      exact TpA.mono (fun _ _ z => st_upd z hl2) ((ha.mono g2.tm).map_range hv)
/-- [e for x in t], t a tuple; the target any -/
theorem dn_lcT {g : TG} {vs : List Nat} {ds : List PyData} {tl : TE} (f : PyData → PyData) (h : DE K tl δ (.tuple ds)) (hz : ds.length ≤ 10000)
    (hg : ∀ d ∈ ds, ∃ δ2, (∀ (H0 H : Hp) (σ : L2.St) (v : V) (Q : L2.St → Hp → Prop), Sd K H0 H σ δ → Tp K H v d → (∀ σ', Sd K H0 H σ' δ2 → L2.wipe σ' vs = L2.wipe σ vs → Q σ' H) → g v (L2.wipe σ vs) H Q) ∧ DE K te δ2 (f d)) :
    DN K (tLc (iSeqX K tl) g tYes te vs) δ (ds.map f) := fun H0 H σ S Q q => .inr (h H0 H σ S _ fun v J gj hv => by
    obtain ⟨a, xs, rfl, hq, hx⟩ := hv.tup_of
    have hl := hx.length
    refine ⟨a, rfl, ⟨xs, hq⟩, fun Dl hD => lc_tup (K := K) (a := a) (xs := xs) (fun k L => Gr J L ∧ ∃ acc, L Dl = some (.lst acc) ∧ TpA K L acc ((ds.take k).map f)) ⟨Gr.lay hD, [], upd_same, .nil⟩ (fun k L _ p => p.1.st hq) (fun k x L hk ⟨gl, acc, hl2, ha⟩ => ?_) (fun L ⟨gl, acc, hl2, ha⟩ => q Dl acc L (gj.tr gl) (gj.free hD) hl2 (by rw [hl, List.take_length] at ha; exact ha))⟩
    obtain ⟨d, hd1, hd2⟩ := hx.getV hk
    have hdm : d ∈ ds := List.mem_of_getElem? hd1
    obtain ⟨δ2, hg1, he⟩ := hg d hdm
    have len : acc.length ≤ ds.length := by rw [ha.length, List.length_map, List.length_take]; omega
    refine hg1 H0 L σ x _ ((S.mono gj).mono gl) (hd2.mono gl.tm) fun σ' S' hw => ⟨hw, ?_⟩
    show te _ L _
    refine he H0 L _ S' _ fun v M g2 hv => ?_
    have hl3 := g2 _ _ hl2
    refine ⟨acc, hl3, Nat.lt_of_le_of_lt len (Nat.lt_of_le_of_lt hz (by decide)), ?_⟩
    refine ⟨Gr.lay2 (gl.tr g2) hD, _, upd_same, ?_⟩
    have e3 : (ds.take (k + 1)).map f = (ds.take k).map f ++ [f d] := by
      rw [List.take_succ, hd1, List.map_append]; rfl
    rw [e3]
    exact TpA.mono (fun _ _ z => st_upd z hl3) ((ha.mono g2.tm).app (.cons hv .nil)))
theorem wipe_end {i : Nat} {x : Option V} : ∀ {vs : List Nat} {σ : L2.St}, (L2.wipe (σ.set i x) vs).set i none = (L2.wipe σ vs).set i none
  | [], σ => by show (σ.set i x).set i none = σ.set i none; rw [List.set_set]
  | v :: vs, σ => by
    show ((L2.wipe (σ.set i x) vs).set v none).set i none = ((L2.wipe σ vs).set v none).set i none
    by_cases e : v = i
    · subst e
      rw [List.set_set, List.set_set]
      exact wipe_end
    · rw [List.set_comm _ _ e, List.set_comm _ _ e, wipe_end]
theorem wipe_set {i : Nat} {x : Option V} : ∀ {vs : List Nat} {σ : L2.St}, i ∈ vs → L2.wipe (σ.set i x) vs = L2.wipe σ vs
  | [], _, h => by cases h
  | v :: vs, σ, h => by
    show (L2.wipe (σ.set i x) vs).set v none = (L2.wipe σ vs).set v none
    by_cases e : i = v
    · subst e; exact wipe_end
    · rcases List.mem_cons.mp h with h | h
      · exact absurd h e
      · rw [wipe_set h]
theorem wipe_wipe {vs : List Nat} {σ : L2.St} : ∀ {ws : List Nat}, (∀ w ∈ ws, w ∈ vs) → L2.wipe (L2.wipe σ ws) vs = L2.wipe σ vs
  | [], _ => rfl
  | w :: ws, h => by
    show L2.wipe ((L2.wipe σ ws).set w none) vs = _
    rw [wipe_set (h w List.mem_cons_self), wipe_wipe fun z hz => h z (List.mem_cons_of_mem _ hz)]
theorem gn_setsW {H0 H : Hp} {vs : List Nat} : ∀ {t : TGs} {is : List Nat} {ds : List PyData} {us : List V} {σ : L2.St} {δ : List SD} {Q : L2.St → Hp → Prop}, GN t is → ds.length = is.length → (∀ i ∈ is, i ∈ vs) → Sd K H0 H σ δ → TpA K H us ds →
    (∀ σ', Sd K H0 H σ' (setsD is ds δ) → L2.wipe σ' vs = L2.wipe σ vs → Q σ' H) → t us σ H Q
  | _, _, [], _, _, _, _, .nil, _, _, S, .nil, q => ⟨rfl, q _ S rfl⟩
  | _, _, d :: ds, _, _, _, _, .cons gn, hl, hv, S, .cons h t, q => ⟨_, _, rfl, gn_setsW gn (by simpa using hl) (fun i hi => hv i (List.mem_cons_of_mem _ hi)) (S.storeD h) t fun σ' S' w => q σ' S' (w.trans (wipe_set (hv _ List.mem_cons_self)))⟩
  | _, _, [], _, _, _, _, .cons gn, hl, _, _, _, _ => by simp at hl
  | _, _, d :: ds, _, _, _, _, .nil, hl, _, _, _, _ => by simp at hl
theorem lc_tgt {t : TGs} {is vs : List Nat} {n : Nat} {ds : List PyData} (gn : GN t is) (h1 : ds.length = n) (h2 : is.length = n) (hv : ∀ i ∈ is, i ∈ vs) (H0 H : Hp) (σ : L2.St) (v : V) (Q : L2.St → Hp → Prop) (S : Sd K H0 H σ δ) (h : Tp K H v (.tuple ds))
    (q : ∀ σ', Sd K H0 H σ' (setsD is ds (wipeD δ vs)) → L2.wipe σ' vs = L2.wipe σ vs → Q σ' H) : gTup K n t v (L2.wipe σ vs) H Q := by
  obtain ⟨a, xs, rfl, hs, hx⟩ := h.tup_of
  exact ⟨a, xs, rfl, hs, hx.length.trans h1, gn_setsW gn (h1.trans h2.symm) hv S.wipe hx fun σ' S' w => q σ' S' (w.trans (wipe_wipe fun _ z => z))⟩
theorem lc_tgtN {i : Nat} {d : PyData} (H0 H : Hp) (σ : L2.St) (v : V) (Q : L2.St → Hp → Prop) (S : Sd K H0 H σ δ) (h : Tp K H v d)
    (q : ∀ σ', Sd K H0 H σ' ((wipeD δ [i]).set i (.dat d)) → L2.wipe σ' [i] = L2.wipe σ [i] → Q σ' H) : gName i v (L2.wipe σ [i]) H Q := q _ (S.wipe.storeD h) wipe_one
/-! sum, all -/
theorem de_sum {ns : List Int} (h : DL K te δ (ns.map .int)) : DE K (tCB (rSum K) (tCons te tNil)) δ (.int ns.sum) := fun H0 H σ S Q q => h H0 H σ S _ fun a vs J g hs hv =>
  ⟨a, ns, rfl, by rw [hv.ints_of] at hs; exact hs, q _ J g (.int _)⟩
theorem TpA.bls_of {H : Hp} : ∀ {vs : List V} {bs : List Bool}, TpA K H vs (bs.map PyData.bool) → vs = bs.map V.bl
  | _, [], h => by cases h; rfl
  | _, n :: r, h => by
    rw [List.map_cons] at h
    cases h with
    | cons h1 h2 => rw [h1.bl_of, TpA.bls_of h2, List.map_cons]
theorem de_all {bs : List Bool} (h : DL K te δ (bs.map .bool)) : DE K (tCB (rAll K) (tCons te tNil)) δ (.bool (bs.all id)) := fun H0 H σ S Q q => h H0 H σ S _ fun a vs J g hs hv =>
  ⟨a, bs, rfl, by rw [hv.bls_of] at hs; exact hs, q _ J g (.bl _)⟩
end
/-! ### the laws' draws -/
def keyOf (s : Int) : Int := (s * 1103515245 + 12345) % 4294967296
def amt (n : Int) : Int := if n % 16 = 3 then 1000000000000000 - n / 16 % 3 else n / 16 % 40
def hgt (n : Int) : Int := if n % 16 = 5 then 1000000000000 - n / 16 % 3 else n / 16 % 24
structure Lock where
  key : Int
  amount : Int
  deadline : Int
  ff : Bool
  deriving DecidableEq
def Lock.d (l : Lock) : PyData := .tuple [.int l.key, .int l.amount, .int l.deadline, .bool l.ff]
def lockOf (n : Int) : Lock := ⟨keyOf (n / 2 % 6), amt (n / 12), hgt (n / 7777), decide (n % 2 = 0)⟩
def locksOf (n : Int) (m : Nat) : List Lock := (List.range m).map fun (k : Nat) => lockOf ((n + (k : Int) * 7919) * (2 * (k : Int) + 1) / ((k : Int) + 1))
theorem locksOf_succ (n : Int) (m : Nat) : locksOf n (m + 1) = locksOf n m ++ [lockOf ((n + (m : Int) * 7919) * (2 * (m : Int) + 1) / ((m : Int) + 1))] := by
  unfold locksOf
  rw [List.range_succ, List.map_append]
  rfl
def rcK (n : Int) (k : Nat) : Int := keyOf (n / (7 + (k : Int) * 5) % 6)
def rcH (n : Int) (k : Nat) : Int := hgt (n / (11 + (k : Int) * 13))
/-! receipts: heights under keys -/
def rt (t : List (Int × Int)) : List (Key × PyData) := t.map fun p => (Sum.inl p.1, PyData.int p.2)
def putI (t : List (Int × Int)) (k h : Int) : List (Int × Int) := if (t.any fun p => decide (p.1 = k)) = true then t.map (fun p => if p.1 = k then (p.1, h) else p) else t ++ [(k, h)]
def fndI (t : List (Int × Int)) (k : Int) : Option Int := (t.find? fun p => decide (p.1 = k)).map (·.2)
def opn (t : List (Int × Int)) (k dl : Int) : Bool := match fndI t k with
  | some h => decide (h ≤ dl)
  | none => false
def pairI (p : Int × Int) : PyData := .tuple [.int p.1, .int p.2]
theorem dec_inl {a b : Int} : decide ((Sum.inl a : Key) = Sum.inl b) = decide (a = b) := by
  by_cases h : a = b
  · subst h; simp
  · have : ¬ ((Sum.inl a : Key) = Sum.inl b) := fun z => h (by cases z; rfl)
    rw [decide_eq_false h, decide_eq_false this]
theorem any_rt (k : Int) : ∀ t : List (Int × Int), ((rt t).any fun kv => decide (kv.1 = Sum.inl k)) = (t.any fun p => decide (p.1 = k))
  | [] => rfl
  | p :: t => by
    have ih := any_rt k t
    unfold rt at ih ⊢
    rw [List.map_cons, List.any_cons, List.any_cons, ih, dec_inl]
theorem map_rt (k h : Int) : ∀ t : List (Int × Int), ((rt t).map fun kv => if kv.1 = Sum.inl k then (kv.1, PyData.int h) else kv) = rt (t.map fun p => if p.1 = k then (p.1, h) else p)
  | [] => rfl
  | p :: t => by
    have ih := map_rt k h t
    unfold rt at ih ⊢
    rw [List.map_cons, List.map_cons, List.map_cons, List.map_cons, ih]
    by_cases e : p.1 = k
    · simp [e]
    · have : ¬ ((Sum.inl p.1 : Key) = Sum.inl k) := fun z => e (by cases z; rfl)
      simp [e]
theorem putD_rt (t : List (Int × Int)) (k h : Int) : putD (rt t) (.inl k) (.int h) = rt (putI t k h) := by
  unfold putD putI
  rw [any_rt]
  split
  · exact map_rt k h t
  · unfold rt; rw [List.map_append]; rfl
theorem get_rt (k : Int) : ∀ t : List (Int × Int), getD' (rt t) (.inl k) = (fndI t k).map .int
  | [] => rfl
  | p :: t => by
    have ih := get_rt k t
    unfold getD' fndI rt at ih ⊢
    rw [List.map_cons, List.find?_cons, List.find?_cons, dec_inl]
    by_cases e : p.1 = k
    · simp [e]
    · simp only [e, decide_false]
      exact ih
theorem items_rt : ∀ t : List (Int × Int), (rt t).map itemD = t.map pairI
  | [] => rfl
  | p :: t => by
    have ih := items_rt t
    unfold rt at ih ⊢
    rw [List.map_cons, List.map_cons, List.map_cons, ih]
    rfl
theorem rt_len (t : List (Int × Int)) : (rt t).length = t.length := by unfold rt; rw [List.length_map]
theorem putI_len {t : List (Int × Int)} {k h : Int} : (putI t k h).length ≤ t.length + 1 := by
  unfold putI
  split
  · rw [List.length_map]; omega
  · rw [List.length_append]; simp
theorem putI_keys {t : List (Int × Int)} {k h : Int} : (t.map fun p => if p.1 = k then (p.1, h) else p).map (·.1) = t.map (·.1) := by
  rw [List.map_map]
  apply List.map_congr_left
  intro p _
  by_cases e : p.1 = k <;> simp [e]
theorem putI_nd {t : List (Int × Int)} {k h : Int} (n : (t.map (·.1)).Nodup) : ((putI t k h).map (·.1)).Nodup := by
  unfold putI
  split
  · rw [putI_keys]; exact n
  · rename_i hk
    rw [List.map_append, List.nodup_append]
    refine ⟨n, by simp, fun a ha b hb => ?_⟩
    have e : b = k := by simpa using hb
    subst e
    intro e
    subst e
    obtain ⟨p, hp, e2⟩ := List.mem_map.mp ha
    exact hk (List.any_eq_true.mpr ⟨p, hp, by simpa using e2⟩)
/-- in a dict whose keys differ: the one entry with the key -/
theorem any_opn (k dl : Int) : ∀ t : List (Int × Int), (t.map (·.1)).Nodup → (t.any fun p => decide (p.1 = k) && decide (p.2 ≤ dl)) = opn t k dl
  | [], _ => rfl
  | p :: t, n => by
    rw [List.map_cons, List.nodup_cons] at n
    have ih := any_opn k dl t n.2
    rw [List.any_cons, ih]
    unfold opn fndI
    rw [List.find?_cons]
    by_cases e : p.1 = k
    · have hn : t.find? (fun p => decide (p.1 = k)) = none := by
        rw [List.find?_eq_none]
        intro q hq z
        exact n.1 (List.mem_map.mpr ⟨q, hq, by rw [e]; simpa using z⟩)
      simp [e, hn]
    · simp only [e, decide_false, Bool.false_and, Bool.false_or]
theorem opn_mono {t : List (Int × Int)} {k dl dm : Int} (h : opn t k dl = true) (l : dl ≤ dm) : opn t k dm = true := by
  unfold opn at h ⊢
  split at h
  · rename_i x e
    rw [decide_eq_true_eq] at h ⊢
    omega
  · cases h
theorem fnd_map {k h : Int} : ∀ {t : List (Int × Int)}, (t.any fun p => decide (p.1 = k)) = true → fndI (t.map fun p => if p.1 = k then (p.1, h) else p) k = some h
  | [], e => by cases e
  | p :: t, e => by
    unfold fndI
    rw [List.map_cons, List.find?_cons]
    by_cases e2 : p.1 = k
    · simp [e2]
    · rw [List.any_cons, decide_eq_false e2, Bool.false_or] at e
      have ih := fnd_map (h := h) e
      unfold fndI at ih
      simp only [e2, if_false, decide_false]
      exact ih
theorem fnd_snoc {k h : Int} : ∀ {t : List (Int × Int)}, ¬ (t.any fun p => decide (p.1 = k)) = true → fndI (t ++ [(k, h)]) k = some h
  | [], _ => by simp [fndI]
  | p :: t, e => by
    unfold fndI
    rw [List.cons_append, List.find?_cons]
    by_cases e2 : p.1 = k
    · simp [e2] at e
    · rw [List.any_cons, decide_eq_false e2, Bool.false_or] at e
      have ih := fnd_snoc (h := h) e
      unfold fndI at ih
      simp only [e2, decide_false]
      exact ih
theorem fnd_put (t : List (Int × Int)) (k h : Int) : fndI (putI t k h) k = some h := by
  unfold putI
  split
  · rename_i e; exact fnd_map e
  · rename_i e; exact fnd_snoc e
theorem opn_put (t : List (Int × Int)) (k h dl : Int) : opn (putI t k h) k dl = decide (h ≤ dl) := by
  unfold opn; rw [fnd_put]
def rcT (n : Int) : Nat → List (Int × Int)
  | 0 => []
  | k + 1 => putI (rcT n k) (rcK n k) (rcH n k)
theorem rcT_len (n : Int) : ∀ k, (rcT n k).length ≤ k
  | 0 => Nat.le_refl _
  | k + 1 => Nat.le_trans putI_len (Nat.succ_le_succ (rcT_len n k))
theorem rcT_nd (n : Int) : ∀ k, ((rcT n k).map (·.1)).Nodup
  | 0 => List.nodup_nil
  | k + 1 => putI_nd (rcT_nd n k)
section
variable {K : PySem.W.Frag} {δ : List SD} {P : Out → Prop} {te td ty tv : TE} {t : List (Int × Int)} {i : Nat} {k h : Int}
theorem dm_newI : DM K tDNewK δ (rt []) := dm_new
theorem tw_dputI (hi : δ[i]? = some (.ownD (rt t))) (hv : DE K tv δ (.int h)) (hk : DE K ty δ (.int k)) (hl : t.length < 100000) (p : P (.nx (δ.set i (.ownD (rt (putI t k h)))))) : WP K (sDPut (tVar i) ty tv) δ P :=
  tw_dput hi hv hk (by rw [rt_len]; exact hl) (by rw [putD_rt]; exact p)
theorem dn_itemsI (hi : δ[i]? = some (.ownD (rt t))) : DN K (LiI.tListItems (tVar i)) δ (t.map pairI) := items_rt t ▸ dn_items hi
end
/-- a def of one number -/
def R1 (f : Int → PyData) : List SD → SD → Prop := fun ss r => ∃ n : Int, ss = [.dat (.int n)] ∧ r = .dat (f n)
def R_nat (f : Int → PyData) : List SD → SD → Prop := fun ss r => ∃ n : Int, ss = [.dat (.int n)] ∧ 0 ≤ n ∧ r = .dat (f n)
def RSc : List SD → SD → Prop := fun ss r => ∃ ns : List Int, ss = [.bor (ns.map .int)] ∧ ns.length ≤ 63 ∧ r = .dat (.bool true)
theorem shp_all {α : Type} {f : α → PyData} (h : ∀ a, (f a).canLay0 = true ∧ (f a).depth ≤ 60) : ∀ ls : List α, PyData.canLayAll0 (ls.map f) = true ∧ PyData.depthAll (ls.map f) ≤ 60
  | [] => ⟨rfl, Nat.zero_le _⟩
  | a :: ls => by
    have ih := shp_all h ls
    rw [List.map_cons]
    refine ⟨?_, ?_⟩
    · show (PyData.canLay0 (f a) && PyData.canLayAll0 (ls.map f)) = true
      rw [(h a).1, ih.1]; rfl
    · show max (f a).depth (PyData.depthAll (ls.map f)) ≤ 60
      exact Nat.max_le.mpr ⟨(h a).2, ih.2⟩
theorem shp_mapL {α : Type} {f : α → PyData} (h : ∀ a, (f a).canLay0 = true ∧ (f a).depth ≤ 60) (ls : List α) : SeqAt.shaped (.list (ls.map f)) = true := by
  have q := shp_all h ls
  show (PyData.canLayAll0 (ls.map f) && decide (PyData.depthAll (ls.map f) + 1 ≤ 64)) = true
  rw [q.1, decide_eq_true (by have := q.2; omega)]; rfl
theorem shp_mapT {α : Type} {f : α → PyData} (h : ∀ a, (f a).canLay0 = true ∧ (f a).depth ≤ 60) (ls : List α) : SeqAt.shaped (.tuple (ls.map f)) = true := shp_mapL h ls
theorem shp_pair (p : Int × Int) : (pairI p).canLay0 = true ∧ (pairI p).depth ≤ 60 := ⟨rfl, (by decide : 1 ≤ 60)⟩
theorem shp_lock (l : Lock) : l.d.canLay0 = true ∧ l.d.depth ≤ 60 := ⟨rfl, (by decide : 1 ≤ 60)⟩
theorem eqv_self {d : PyData} (h : SeqAt.shaped d = true) : PyData.eqv d d = true := SeqAt.eqv_refl d (SeqAt.canLay_of_shaped h)
theorem map_at {α : Type} {f : α → PyData} {ls : List α} {k : Nat} {d : PyData} (h : (ls.map f)[k]? = some d) : ∃ l, ls[k]? = some l ∧ d = f l := by
  rw [List.getElem?_map] at h
  cases e : ls[k]? with
  | none => rw [e] at h; cases h
  | some l => rw [e] at h; exact ⟨l, rfl, (Option.some.inj h).symm⟩
theorem pair_at {t : List (Int × Int)} {k : Nat} {d : PyData} (h : (t.map pairI)[k]? = some d) : ∃ p, t[k]? = some p ∧ d = .tuple [.int p.1, .int p.2] := map_at h
theorem lock_at {ls : List Lock} {k : Nat} {d : PyData} (h : (ls.map Lock.d)[k]? = some d) : ∃ l, ls[k]? = some l ∧ d = .tuple [.int l.key, .int l.amount, .int l.deadline, .bool l.ff] := map_at h
theorem take_more {α : Type} {ls : List α} {k : Nat} {l : α} (h : ls[k]? = some l) : ls.take (k + 1) = ls.take k ++ [l] := by
  rw [List.take_succ, h]; rfl
theorem keyOf_bd (n : Int) : 0 ≤ keyOf n ∧ keyOf n ≤ 4294967295 := by unfold keyOf; omega
theorem amt_bd (n : Int) : 0 ≤ amt n ∧ amt n ≤ 1000000000000000 := by unfold amt; split <;> omega
theorem hgt_bd (n : Int) : 0 ≤ hgt n ∧ hgt n ≤ 1000000000000 := by unfold hgt; split <;> omega
end Tn

namespace Tn
open PySem L2 PySem.Spec PyProof.Rows
section
variable {K : PySem.W.Frag} {δ : List SD} {P : Out → Prop} {te : TE} {t : TS} {g : TG} {ds : List PyData}
/-- xs[::-1] -/
theorem dn_rev (h : DL K te δ ds) : DN K (tRevL K te) δ ds.reverse := fun H0 H σ S Q q => h H0 H σ S _ fun a vs J g hs hv =>
  ⟨a, vs, rfl, hs, fun p hp => q p _ _ (g.tr (Gr.lay hp)) (g.free hp) upd_same ((TpA.rev hv).mono (Gr.lay hp).tm)⟩
where TpA.rev {H : Hp} : ∀ {vs : List V} {ds : List PyData}, TpA K H vs ds → TpA K H vs.reverse ds.reverse
  | _, _, .nil => .nil
  | _, _, .cons h t => by rw [List.reverse_cons, List.reverse_cons]; exact (TpA.rev t).app (.cons h .nil)
theorem pe_revK {X : Cx} (K : PySem.W.Frag) (e' : X.K = K) {e : Expr} {te : TE} {k : Nat} {p1 p2 p3 pos : Pos} (he : PE X e te) : PE X (.Subscript e (.Slice none none (some (.UnaryOp .USub (.Constant (.int 1) k p1) p2)) p3) pos) (tRevL K te) := e' ▸ pe_revL he
/-- for x in reversed(xs), xs handed in -/
theorem tw_forV {j : Nat} (W : Nat → List SD → Prop) (h : δ[j]? = some (.bor ds)) (h0 : ∃ δ', W 0 δ' ∧ Less δ' δ)
    (hs : ∀ (k : Nat) d δ', ds[ds.length - 1 - k]? = some d → k < ds.length → W k δ' → ∃ δ2, GTd K g d δ' δ2 ∧ WP K t δ2 (loopP W k P)) (hd : ∀ δ', W ds.length δ' → P (.nx δ')) : WP K (tFor (RT.iRevA K (tVar j)) g t) δ P := fun H0 H σ D S hP => by
  obtain ⟨v, h1, a, xs, rfl, hq, hx⟩ := S.ok j _ h (by intro z; cases z)
  obtain ⟨δ0, w0, l0⟩ := h0
  have hl := hx.length
  refine ⟨_, h1, a, xs, rfl, .inl ⟨S.gr.sq hq, ?_⟩⟩
  refine RT.for_Itv (K := K) (a := a) (xs := xs) (fun k σ L => ∃ δ', W k δ' ∧ Sd K H0 L σ δ' ∧ TpA K L xs ds) ⟨δ0, w0, S.less l0, hx⟩ (fun k σ L ⟨_, _, S', _⟩ => S'.gr.sq hq) (fun k x σ L hkl hk ⟨δ', w, S', hx'⟩ => ?_) (fun σ L ⟨δ', w, S', _⟩ => hP _ (hd δ' (by rw [← hl]; exact w)) σ L S')
  rw [hl] at hk hkl
  obtain ⟨d, hd1, hd2⟩ := hx'.getV hk
  obtain ⟨δ2, hg, hw⟩ := hs k d δ' hd1 hkl w
  refine hg H0 L σ x _ S' hd2 fun σ' S2 => ?_
  refine hw.tm S2 fun o p => ?_
  cases o with
  | nx δ => obtain ⟨δ3, w3, l3⟩ := p; exact fun σ J tm S' => ⟨δ3, w3, S'.less l3, hx'.mono tm⟩
  | ct δ => obtain ⟨δ3, w3, l3⟩ := p; exact fun σ J tm S' => ⟨δ3, w3, S'.less l3, hx'.mono tm⟩
  | bk δ => exact fun σ J tm S' => hP (.nx δ) p σ J S'
  | rt r => exact fun v J tm g hv => hP (.rt r) p v J g hv
  | ex δ Φ => exact fun σ J tm S' => hP (.ex δ Φ) p σ J S'
theorem pi_revK {X : Cx} {tg : Expr} (K : PySem.W.Frag) (e' : X.K = K) {e : Expr} {te : TE} {p pos : Pos} (hg : Gl X "reversed") (hm : X.mg "reversed" = none) (he : PE X e te) (hs : starEach [e] X.env = (false, eval e X.env) :: starEach [] X.env := by rfl) : PI X tg (.Call (.Name "reversed" p) [e] [] pos) (RT.iRevA K te) := by
  subst e'
  exact RT.pi_revA hg hm he hs
end
end Tn

namespace Tn
open PySem L2 PySem.Spec PyProof.Rows
/-! ### what raises -/
/-- a def's promise: it ends by R, or raises by RX -/
def spX (K : PySem.W.Frag) (R : List SD → SD → Prop) (RX : List SD → Value → Prop) : Sp := fun vs H Q E => ∃ ss, VA K H vs ss ∧ ((∃ r, R ss r ∧ ∀ v J, Gr H J → VS K H J v r → Q v J) ∨ ∃ c, RX ss c ∧ ∀ J, Gr H J → E c none J)
section
variable {K : PySem.W.Frag}
def DX (K : PySem.W.Frag) (te : TE) (δ : List SD) (Φ : L2.St → Hp → Prop) : Prop := ∀ (H0 H : Hp) (σ : L2.St), Sd K H0 H σ δ → (∀ J, Gr H J → Φ σ J) → ∀ Q : VK, te σ H Q
def DXT (K : PySem.W.Frag) (tt : TT) (δ : List SD) (Φ : L2.St → Hp → Prop) : Prop := ∀ (H0 H : Hp) (σ : L2.St), Sd K H0 H σ δ → (∀ J, Gr H J → Φ σ J) → ∀ Q : Bool → Hp → Prop, tt σ H Q
variable {δ δ' : List SD} {ta tb te : TE} {tt : TT} {d : PyData} {ds : List PyData} {ta' : TA} {ss : List SD} {R : List SD → SD → Prop} {RX : List SD → Value → Prop} {c cls : Value} {P : Out → Prop} {Φ : L2.St → Hp → Prop} {t u : TS} {i : Nat} {g : TG} {r2 : R2}
/-! calls -/
theorem dx_callS {E : L2.St → XK} (h : DA K ta' δ ss) (hR : RX ss c) : DX K (tCallS (spX K R RX) E ta') δ (fun σ J => E σ c none J) := fun H0 H σ S hΦ Q => h H0 H σ S _ fun vs J g hv => ⟨ss, hv, .inr ⟨c, hR, fun L g2 => hΦ L (g.tr g2)⟩⟩
theorem dx_callW {W : WX} (h : DA K ta' δ ss) (hR : RX ss c) : DX K (tCallS (spX K R RX) (WE W) ta') δ (W c none) := fun H0 H σ S hΦ Q => h H0 H σ S _ fun vs J g hv => ⟨ss, hv, .inr ⟨c, hR, fun L g2 => hΦ L (g.tr g2)⟩⟩
theorem de_callS {E : L2.St → XK} (h : DA K ta' δ ss) (hR : R ss (.dat d)) : DE K (tCallS (spX K R RX) E ta') δ d := fun H0 H σ S Q q => h H0 H σ S _ fun vs J g hv => ⟨ss, hv, .inl ⟨_, hR, fun v L g2 hv2 => q v L (g.tr g2) hv2⟩⟩
theorem dn_callS {E : L2.St → XK} (h : DA K ta' δ ss) (hR : R ss (.own ds)) : DN K (tCallS (spX K R RX) E ta') δ ds := fun H0 H σ S Q q => h H0 H σ S _ fun vs J g hv => ⟨ss, hv, .inl ⟨_, hR, fun v L g2 hv2 => by
    obtain ⟨p, us, rfl, h0, h1, h2⟩ := hv2
    exact q p us L (g.tr g2) (g.free h0) h1 h2⟩⟩
theorem de_callL {E : XK} (h : DA K ta' δ ss) (hR : R ss (.dat d)) : DE K (tCall (spX K R RX) [] E ta') δ d := fun H0 H σ S Q q => h H0 H σ S _ fun vs J g hv => ⟨ss, by rw [List.append_nil]; exact hv, .inl ⟨_, hR, fun v L g2 hv2 => q v L (g.tr g2) hv2⟩⟩
theorem dn_callL {E : XK} (h : DA K ta' δ ss) (hR : R ss (.own ds)) : DN K (tCall (spX K R RX) [] E ta') δ ds := fun H0 H σ S Q q => h H0 H σ S _ fun vs J g hv => ⟨ss, by rw [List.append_nil]; exact hv, .inl ⟨_, hR, fun v L g2 hv2 => by
    obtain ⟨p, us, rfl, h0, h1, h2⟩ := hv2
    exact q p us L (g.tr g2) (g.free h0) h1 h2⟩⟩
theorem dx_op1 (h : DX K ta δ Φ) : DX K (tOp r2 ta tb) δ Φ := fun H0 H σ S hΦ Q => h H0 H σ S hΦ _
theorem dx_op2 (ha : DE K ta δ d) (h : DX K tb δ Φ) : DX K (tOp r2 ta tb) δ Φ := fun H0 H σ S hΦ Q => ha H0 H σ S _ fun v J g hv => h H0 J σ (S.mono g) (fun L g2 => hΦ L (g.tr g2)) _
theorem dxt_test (h : DX K te δ Φ) : DXT K (tTest te) δ Φ := fun H0 H σ S hΦ Q => h H0 H σ S hΦ _
/-! statements -/
theorem tw_asgX (h : DX K te δ Φ) (k : P (.ex δ Φ)) : WP K (tAsg te g) δ P := fun H0 H σ D S hP => h H0 H σ S (fun J gr => hP _ k σ J (S.mono gr)) _
theorem tw_dropX (h : DX K te δ Φ) (k : P (.ex δ Φ)) : WP K (tDrop te) δ P := fun H0 H σ D S hP => h H0 H σ S (fun J gr => hP _ k σ J (S.mono gr)) _
theorem tw_retX (h : DX K te δ Φ) (k : P (.ex δ Φ)) : WP K (tRet te) δ P := fun H0 H σ D S hP => h H0 H σ S (fun J gr => hP _ k σ J (S.mono gr)) _
theorem tw_ifX (h : DXT K tt δ Φ) (k : P (.ex δ Φ)) : WP K (tIfS tt t u) δ P := fun H0 H σ D S hP => h H0 H σ S (fun J gr => hP _ k σ J (S.mono gr)) _
theorem then_ex (h : P (.ex δ Φ)) : thenP K u P (.ex δ Φ) := h
theorem loop_ex {W : Nat → List SD → Prop} {k : Nat} (h : P (.ex δ Φ)) : loopP W k P (.ex δ Φ) := h
/-- raise X(e) -/
def tRaise (ta : TE) (Φ : L2.St → Hp → Prop) : TS := fun _ σ H => ta σ H fun _ H1 => Φ σ H1
theorem ps_raise1 {X : Cx} {W : WX} {C : Addr} {bmB : List Value} {B newId initId : String} {x : Str} {e : Expr} {p pos pos2 : Pos} (hc : X.calm = true) (tk : Takes X W) (F : ExcBaseFacts B newId initId bmB) (q : PySem.W.excIn X.K C bmB newId = true) (gC : X.mg x = some (.ref C)) (kC : PySem.W.keepIn X.K (.ref C) = true) (r : Raises X (.ref C)) (hg : Gl X x)
    (he : PE X e ta) (hs : starEach [e] X.env = (false, eval e X.env) :: starEach [] X.env := by rfl) (hdb : (x == ("__debug__" : Str)) = false := by decide) :
    PS X (.Raise (some (.Call (.Name x p) [e] [] pos)) none pos2) (tRaise ta (W (.ref C) none)) := ps_raise hc tk (SkE.pmk_own1 F q gC kC r hg he hs hdb)
theorem tw_raise (h : DE K te δ d) (k : P (.ex δ Φ)) : WP K (tRaise te Φ) δ P := fun H0 H σ D S hP => h H0 H σ S _ fun v J gr _ => hP _ k σ J (S.mono gr)
/-! try -/
def tTryO (K : PySem.W.Frag) (c : Value) (ts : Addr → Value → Option Addr → TS) (tb : WX → TS) : TS := fun D σ H => tb (wOnly K c ts (fun _ _ _ _ => False) D) D σ H
def tTryA (K : PySem.W.Frag) (c : Value) (i : Nat) (ts : Addr → Value → Option Addr → TS) (tb : WX → TS) : TS := fun D σ H => tb (wAs K c i ts (fun _ _ _ _ => False) D) D σ H
theorem ps_tryO {X : Cx} {x : Str} {body suite : List Stmt} {b₀ : Stmt} {np pos pos' : Pos} {tb : WX → TS} {ts : Addr → Value → Option Addr → TS} (K : PySem.W.Frag) (e : X.K = K) (hs : X.stack = X.env :: X.outer) (hf : X.env.frame = some X.env.locals) (hc : Names X x c)
    (hb : ∀ (W : WX) (pn : List (Addr × Obj)) (xe : Value → Shared → Prop), Takes (X.tr pn xe) W → PassesOwn (model X.prog X.w) X.A X.env xe → PSs (X.tr pn xe) body (tb W))
    (hsu : ∀ (a : Addr) (oe : Obj) (cls : Value) (d : Option Addr) (pn : List (Addr × Obj)), Zc cls d oe → (∃ vs, oe.data = .fields vs) → PSs (X.suite a ((a, oe) :: pn)) (b₀ :: suite) (ts a cls d)) :
    PS X (.Try body [.ExceptHandler (some (.Name x np)) none (b₀ :: suite) pos'] [] [] pos) (tTryO K c ts tb) := by
  subst e
  exact ps_try_only hs hf hc takes0 hb hsu
theorem ps_tryA {X : Cx} {x n : Str} {i : Nat} {body suite : List Stmt} {b₀ : Stmt} {np pos pos' : Pos} {tb : WX → TS} {ts : Addr → Value → Option Addr → TS} (K : PySem.W.Frag) (e : X.K = K) (hs : X.stack = X.env :: X.outer) (hf : X.env.frame = some X.env.locals) (hN : X.N.Nodup) (hi : X.N[i]? = some n) (hln : X.env.kindOf n = some .local) (hc : Names X x c)
    (hb : ∀ (W : WX) (pn : List (Addr × Obj)) (xe : Value → Shared → Prop), Takes (X.tr pn xe) W → PassesOwn (model X.prog X.w) X.A X.env xe → PSs (X.tr pn xe) body (tb W))
    (hsu : ∀ (a : Addr) (oe : Obj) (cls : Value) (d : Option Addr) (pn : List (Addr × Obj)), Zc cls d oe → (∃ vs, oe.data = .fields vs) → PSs (X.suite a ((a, oe) :: pn)) (b₀ :: suite) (ts a cls d)) :
    PS X (.Try body [.ExceptHandler (some (.Name x np)) (some n) (b₀ :: suite) pos'] [] [] pos) (tTryA K c i ts tb) := by
  subst e
  exact ps_try_as hs hf hN hi hln hc takes0 hb hsu
def tryO (K : PySem.W.Frag) (c : Value) (ts : Addr → Value → Option Addr → TS) (W : WX) (P : Out → Prop) : Out → Prop
  | .ex δ Φ => ∃ cls, Φ = W cls none ∧ PySem.W.exmOne K cls c = some true ∧ ∀ a, WP K (ts a cls none) δ P
  | o => P o
theorem tw_tryO {ts : Addr → Value → Option Addr → TS} {tb : WX → TS} (h : ∀ W, WP K (tb W) δ (tryO K c ts W P)) : WP K (tTryO K c ts tb) δ P := fun H0 H σ D S hP =>
  h (wOnly K c ts (fun _ _ _ _ => False) D) H0 H σ D S fun o p => by
    cases o with
    | nx δ => exact hP (.nx δ) p
    | rt r => exact hP (.rt r) p
    | bk δ => exact hP (.bk δ) p
    | ct δ => exact hP (.ct δ) p
    | ex δ Φ =>
      obtain ⟨cls, rfl, hm, hw⟩ := p
      exact fun σ J S' => ⟨true, hm, fun _ a _ => hw a H0 J σ D S' hP, fun z => by cases z⟩
/-- behind the suite the error's name is unbound -/
def sufP (i : Nat) (P : Out → Prop) : Out → Prop
  | .nx δ => P (.nx (δ.set i .emp))
  | .bk δ => P (.bk (δ.set i .emp))
  | .ct δ => P (.ct (δ.set i .emp))
  | o => P o
def tryA (K : PySem.W.Frag) (c : Value) (i : Nat) (ts : Addr → Value → Option Addr → TS) (W : WX) (P : Out → Prop) : Out → Prop
  | .ex δ Φ => ∃ cls, Φ = W cls none ∧ PySem.W.exmOne K cls c = some true ∧ ∀ a, WP K (ts a cls none) (δ.set i (.raw (.ref a))) (sufP i P)
  | o => P o
theorem Sd.unset {H0 H : Hp} {σ : L2.St} {i : Nat} (S : Sd K H0 H σ δ) : Sd K H0 H (σ.set i none) (δ.set i .emp) := by
  refine ⟨S.gr, by rw [List.length_set, List.length_set]; exact S.len, fun j t hj ne => ?_, fun j k t u a hj hk ht hu ej ek => ?_⟩
  · rcases get_set hj with ⟨e, rfl, hl⟩ | ⟨e, h2⟩
    · exact absurd rfl ne
    · rw [set_get_ne e]
      exact S.ok j t h2 ne
  · rcases get_set hj with ⟨e, rfl, hl⟩ | ⟨e, h2⟩
    · cases ht
    · rcases get_set hk with ⟨e', rfl, hl'⟩ | ⟨e', h2'⟩
      · cases hu
      · rw [set_get_ne e] at ej
        rw [set_get_ne e'] at ek
        exact S.apart j k t u a h2 h2' ht hu ej ek
theorem tw_tryA {ts : Addr → Value → Option Addr → TS} {tb : WX → TS} (h : ∀ W, WP K (tb W) δ (tryA K c i ts W P)) : WP K (tTryA K c i ts tb) δ P := fun H0 H σ D S hP =>
  h (wAs K c i ts (fun _ _ _ _ => False) D) H0 H σ D S fun o p => by
    cases o with
    | nx δ => exact hP (.nx δ) p
    | rt r => exact hP (.rt r) p
    | bk δ => exact hP (.bk δ) p
    | ct δ => exact hP (.ct δ) p
    | ex δ Φ =>
      obtain ⟨cls, rfl, hm, hw⟩ := p
      refine fun σ J S' => ⟨true, hm, fun _ a _ => hw a H0 J _ _ (S'.store (v := .ref a) (s := .raw (.ref a)) rfl fun z => by cases z) fun o p => ?_, fun z => by cases z⟩
      cases o with
      | nx δ => exact fun σ J S2 => hP (.nx (δ.set i .emp)) p _ J S2.unset
      | rt r => exact hP (.rt r) p
      | bk δ => exact fun σ J S2 => hP (.bk (δ.set i .emp)) p _ J S2.unset
      | ct δ => exact fun σ J S2 => hP (.ct (δ.set i .emp)) p _ J S2.unset
      | ex δ Φ => exact hP (.ex δ Φ) p
theorem suf_rt {r : SD} (h : P (.rt r)) : sufP i P (.rt r) := h
theorem suf_nx (h : P (.nx (δ.set i .emp))) : sufP i P (.nx δ) := h
theorem suf_ct (h : P (.ct (δ.set i .emp))) : sufP i P (.ct δ) := h
theorem tryA_rt {ts : Addr → Value → Option Addr → TS} {W : WX} {r : SD} (h : P (.rt r)) : tryA K c i ts W P (.rt r) := h
theorem tryA_nx {ts : Addr → Value → Option Addr → TS} {W : WX} (h : P (.nx δ)) : tryA K c i ts W P (.nx δ) := h
theorem tryA_ct {ts : Addr → Value → Option Addr → TS} {W : WX} (h : P (.ct δ)) : tryA K c i ts W P (.ct δ) := h
theorem tryA_ex {ts : Addr → Value → Option Addr → TS} {W : WX} (h1 : PySem.W.exmOne K cls c = some true) (h2 : ∀ a, WP K (ts a cls none) (δ.set i (.raw (.ref a))) (sufP i P)) : tryA K c i ts W P (.ex δ (W cls none)) := ⟨cls, rfl, h1, h2⟩
theorem tryO_rt {ts : Addr → Value → Option Addr → TS} {W : WX} {r : SD} (h : P (.rt r)) : tryO K c ts W P (.rt r) := h
theorem tryO_nx {ts : Addr → Value → Option Addr → TS} {W : WX} (h : P (.nx δ)) : tryO K c ts W P (.nx δ) := h
theorem tryO_ct {ts : Addr → Value → Option Addr → TS} {W : WX} (h : P (.ct δ)) : tryO K c ts W P (.ct δ) := h
theorem tryO_ex {ts : Addr → Value → Option Addr → TS} {W : WX} (h1 : PySem.W.exmOne K cls c = some true) (h2 : ∀ a, WP K (ts a cls none) δ P) : tryO K c ts W P (.ex δ (W cls none)) := ⟨cls, rfl, h1, h2⟩
theorem tw_seqTA {ts : Addr → Value → Option Addr → TS} {tb : WX → TS} (h : WP K (tTryA K c i ts tb) δ (thenP K u P)) : WP K (tSeq (tTryA K c i ts tb) u) δ P := tw_seq h
theorem tw_seqTO {ts : Addr → Value → Option Addr → TS} {tb : WX → TS} (h : WP K (tTryO K c ts tb) δ (thenP K u P)) : WP K (tSeq (tTryO K c ts tb) u) δ P := tw_seq h
/-! isinstance of the error in hand -/
def rIsErr (K : PySem.W.Frag) (cls : Value) (d : Option Addr) (a : Addr) : List V → Hp → VK → Prop := fun xs H Q => ∃ D, cls = .ref D ∧ d = none ∧ ExcC K D ∧ rIsE K D a xs H Q
theorem call_isErr {X : Cx} {a : Addr} {oe : Obj} {cls : Value} {d : Option Addr} {pn : List (Addr × Obj)} (K : PySem.W.Frag) (e : X.K = K) (hz : Zc cls d oe) (hf : ∃ vs, oe.data = .fields vs) : CallR (X.suite a ((a, oe) :: pn)) (.builtin "isinstance") (rIsErr K cls d a) := by
  subst e
  intro pins s σ H xs us Q I r h
  obtain ⟨D, rfl, rfl, C, h⟩ := h
  exact call_isE C hz hf pins s σ H xs us Q I r h
theorem de_isErr {a D : Addr} {c : V} {cv : Value} {b : Bool} (hi : δ[i]? = some (.raw (.ref a))) (hD : ExcC K D) (hc : ∀ u, RelV c u → u = cv) (hk : PySem.W.kitOne K (.ref D) cv = some b) : DE K (tCB (rIsErr K (.ref D) none a) (tCons (tVar i) (tCons (tC c) tNil))) δ (.bool b) := fun H0 H σ S Q q => by
  obtain ⟨v, h1, h2⟩ := S.ok i _ hi (by intro z; cases z)
  have e : v = .ref a := h2
  subst e
  exact ⟨_, h1, D, rfl, rfl, hD, c, cv, b, rfl, hc, hk, q _ H (Gr.rfl' H) (.bl _)⟩
def rDivW : R2 := rI CDivW fun i j => .int (i / j)
theorem o_divW {X : Cx} : OpR X (binaryOp .FloorDiv) rDivW := op_fdivW
theorem de_divW {i j : Int} (ha : DE K ta δ (.int i)) (hb : DE K tb δ (.int j)) (hc : CDivW i j) : DE K (tOp rDivW ta tb) δ (.int (i / j)) := de_opI ha hb fun H Q q => ⟨i, j, rfl, rfl, hc, q _ (.int _)⟩
theorem de_chLe {tc : TE} {i j k : Int} (ha : DE K ta δ (.int i)) (hb : DE K tb δ (.int j)) (hc : DE K tc δ (.int k)) : DE K (tChain rLeX rLeX ta tb tc) δ (.bool (decide (i ≤ j) && decide (j ≤ k))) := de_chain (p := fun i j => decide (i ≤ j)) (q := fun i j => decide (i ≤ j)) ha hb hc
theorem de_chLt {tc : TE} {i j k : Int} (ha : DE K ta δ (.int i)) (hb : DE K tb δ (.int j)) (hc : DE K tc δ (.int k)) : DE K (tChain rLtX rLtX ta tb tc) δ (.bool (decide (i < j) && decide (j < k))) := de_chain (p := fun i j => decide (i < j)) (q := fun i j => decide (i < j)) ha hb hc
theorem de_chLeLt {tc : TE} {i j k : Int} (ha : DE K ta δ (.int i)) (hb : DE K tb δ (.int j)) (hc : DE K tc δ (.int k)) : DE K (tChain rLeX rLtX ta tb tc) δ (.bool (decide (i ≤ j) && decide (j < k))) := de_chain (p := fun i j => decide (i ≤ j)) (q := fun i j => decide (i < j)) ha hb hc
theorem de_chLtLe {tc : TE} {i j k : Int} (ha : DE K ta δ (.int i)) (hb : DE K tb δ (.int j)) (hc : DE K tc δ (.int k)) : DE K (tChain rLtX rLeX ta tb tc) δ (.bool (decide (i < j) && decide (j ≤ k))) := de_chain (p := fun i j => decide (i < j)) (q := fun i j => decide (i ≤ j)) ha hb hc
theorem log_small {j : Int} (h : 0 < j) (h2 : j < 1152921504606846976) : j.natAbs.log2 < 9000 := Nat.lt_trans ((Nat.log2_lt (by omega)).mpr (by omega : j.natAbs < 2 ^ 60)) (by decide)
/-! f-strings -/
theorem de_fmtS {y : Str} (h : DE K te δ (.str y)) (hl : y.length ≤ 100000) : DE K (tFmt te) δ (.str y) := fun H0 H σ S Q q => h H0 H σ S _ fun v J g hv => .inl ⟨y, hv.str_of, Nat.le_trans hl (by decide), q _ J g (.str _)⟩
theorem de_fmtI {k : Int} (h : DE K te δ (.int k)) (hl : k.natAbs.log2 < 1920) : DE K (tFmt te) δ (.str (toString k)) := fun H0 H σ S Q q => h H0 H σ S _ fun v J g hv => .inr ⟨k, hv.int_of, hl, q _ J g (.str _)⟩
/-- some value, no matter which -/
def DG (K : PySem.W.Frag) (te : TE) (δ : List SD) : Prop := ∀ (H0 H : Hp) (σ : L2.St), Sd K H0 H σ δ → ∀ Q : VK, (∀ v J, Gr H J → Q v J) → te σ H Q
theorem DE.dg (h : DE K te δ d) : DG K te δ := fun H0 H σ S Q q => h H0 H σ S Q fun v J g _ => q v J g
def tJoin (ts : List TE) : TE := fun σ H Q => tJs ts Str.empty σ H fun out H1 => Q (.str out) H1
theorem pe_join {X : Cx} {v1 v2 : Expr} {rest : List Expr} {ts : List TE} {pos : Pos} (h : PJ X (v1 :: v2 :: rest) ts) : PE X (.JoinedStr (v1 :: v2 :: rest) pos) (tJoin ts) := pe_joined h
def DJ (K : PySem.W.Frag) (ts : List TE) (δ : List SD) (n : Nat) : Prop := ∀ (acc : Str), acc.length + n ≤ 100000 → ∀ (H0 H : Hp) (σ : L2.St), Sd K H0 H σ δ → ∀ Q : Str → Hp → Prop, (∀ y J, Gr H J → Q y J) → tJs ts acc σ H Q
theorem dj_nil : DJ K [] δ 0 := fun acc _ H0 H σ S Q q => q _ H (Gr.rfl' H)
theorem dj_cons {ts : List TE} {y : Str} {m n : Nat} (h : DE K te δ (.str y)) (hl : y.length ≤ m) (r : DJ K ts δ n) : DJ K (te :: ts) δ (m + n) := fun acc ha H0 H σ S Q q => by
  refine h H0 H σ S _ fun v J g hv => ⟨y, hv.str_of, ?_, r (acc ++ y) ?_ H0 J σ (S.mono g) Q fun z L g2 => q z L (g.tr g2)⟩
  · have e : (acc ++ y).length = acc.length + y.length := PySem.Str.length_append _ _
    rw [e]
    exact Nat.le_trans (Nat.le_trans (Nat.add_le_add_left (Nat.le_trans hl (Nat.le_add_right m n)) _) ha) (by decide)
  · have e : (acc ++ y).length = acc.length + y.length := PySem.Str.length_append _ _
    rw [e]
    omega
theorem dg_join {ts : List TE} {n : Nat} (h : DJ K ts δ n) (hn : n ≤ 100000) : DG K (tJoin ts) δ := fun H0 H σ S Q q => h Str.empty (by have e : (Str.empty).length = 0 := rfl; rw [e]; omega) H0 H σ S _ fun y J g => q _ J g
theorem tw_raiseG (h : DG K te δ) (k : P (.ex δ Φ)) : WP K (tRaise te Φ) δ P := fun H0 H σ D S hP => h H0 H σ S _ fun v J gr => hP _ k σ J (S.mono gr)
/-! a def that may raise -/
def exO (E : XK) (c : Value) : Out → Prop
  | .ex _ Φ => Φ = fun _ J => E c none J
  | _ => False
theorem fn_ex {E : XK} {c : Value} (h : Φ = fun _ J => E c none J) : exO E c (.ex δ Φ) := h
/-- what the class of an error must say -/
structure ExK (K : PySem.W.Frag) (C : Addr) : Prop where
  x : PySem.W.excIn K C [.type "ValueError", .type "Exception", .type "BaseException", .type "object"] "ValueError.__new__" = true
  k : PySem.W.keepIn K (.ref C) = true
  e : ExcC K C
  t : PySem.W.typeIn K (.ref C) = some (.type "type")
  i : PySem.W.isClsIn K C = true
  s : PySem.W.subIn K (.ref C) (.ref C) = some true
theorem ExK.exm {C : Addr} {cls : Value} {b : Bool} (h : ExK K C) (h4 : PySem.W.subIn K cls (.ref C) = some b) : PySem.W.exmOne K cls (.ref C) = some b := PySem.W.exm_ref h.e.hs h.e.hd h.t h4
theorem ExK.kit {C D : Addr} {b : Bool} (h : ExK K C) (h4 : PySem.W.subIn K (.ref D) (.ref C) = some b) : PySem.W.kitOne K (.ref D) (.ref C) = some b := by
  by_cases e : D = C
  · subst e
    rw [h.s] at h4
    cases h4
    unfold PySem.W.kitOne
    rw [if_pos (by simp)]
  · unfold PySem.W.kitOne
    rw [if_neg (by simp [e])]
    have h2 : (PySem.W.clsIn K C).isSome = true := h.i
    show (if ((PySem.W.clsIn K C).isSome && PySem.W.typeIn K (.ref C) == some (.type "type")) = true then PySem.W.subIn K (.ref D) (.ref C) else none) = some b
    rw [if_pos (by rw [h2, h.t]; rfl)]
    exact h4
end
section
variable {P : Program} {w : World} {K : PySem.W.Frag} {mg : Str → Option Value} {base : Heap}
theorem fn_X {x qual : Str} {st : Stmt} {f : Addr} {fd : FuncData} {N ps : List Str} {k : Nat} {R : List SD → SD → Prop} {RX : List SD → Value → Prop} (F : Fun K x qual st f fd) (S : FnScope N ps (defScope st)) (len : ∀ ss r, R ss r → ss.length = ps.length) (lenX : ∀ ss c, RX ss c → ss.length = ps.length)
    (hb : ∀ (cdv : Value) (A : Around) (outer : List Env) (s : Shared) (H : Hp) (E : XK), Room k (A.deeper (envOfC qual (defScope st) s.heap.objs.size f cdv)) →
      ∃ t, PSs (cxOf (L2.CX P w) P w K mg base N qual (defScope st) f cdv A outer s H E) (defBody st) t ∧ (∀ ss r, R ss r → WP K t (startD N ss) (fnO r)) ∧ ∀ ss c, RX ss c → WP K t (startD N ss) (exO E c)) : FnOk P w K mg base (L2.CX P w) (k + 1) f fd ps (spX K R RX) := by
  refine F.okX S (fun vs H Q E h => ?_) (fun cdv A outer s H vs Q E hr h => ?_)
  · obtain ⟨ss, hv, h⟩ := h
    rcases h with ⟨r, hR, _⟩ | ⟨c, hR, _⟩
    · exact hv.length.trans (len ss r hR)
    · exact hv.length.trans (lenX ss c hR)
  · obtain ⟨t, ht, hw, hx⟩ := hb cdv A outer s H E hr
    obtain ⟨ss, hv, h⟩ := h
    refine ⟨t, ht, ?_⟩
    rcases h with ⟨r, hR, q⟩ | ⟨c, hR, q⟩
    · refine hw ss r hR H H _ _ (sd_start hv) fun o p => ?_
      cases o with
      | nx δ =>
        have e : r = .dat .none := p
        subst e
        exact fun σ J S' => q .non J S'.gr .non
      | rt r' =>
        have e : r' = r := p
        subst e
        exact fun v J g hv => q v J g hv
      | bk δ => exact False.elim p
      | ct δ => exact False.elim p
      | ex δ Φ => exact False.elim p
    · refine hx ss c hR H H _ _ (sd_start hv) fun o p => ?_
      cases o with
      | ex δ Φ =>
        have e : Φ = fun _ J => E c none J := p
        subst e
        exact fun σ J S' => q J S'.gr
      | nx δ => exact False.elim p
      | rt r' => exact False.elim p
      | bk δ => exact False.elim p
      | ct δ => exact False.elim p
end
end Tn

namespace Tn
open PySem L2 PySem.Spec PyProof.Rows
/-! ### several clauses `except X as e`, all of one name; no other error comes -/
abbrev Clause := Value × (Addr → Value → Option Addr → TS)
def sufD (i : Nat) (D : Ends) : Ends := { nx := fun σ H => D.nx (σ.set i none) H, rt := D.rt, bk := fun σ H => D.bk (σ.set i none) H, ct := fun σ H => D.ct (σ.set i none) H }
def wEach (K : PySem.W.Frag) (i : Nat) (D : Ends) : List Clause → WX
  | [], _, _, _, _ => False
  | (c, ts) :: r, cls, d, σ, H => ∃ b, PySem.W.exmOne K cls c = some b ∧ (b = true → ∀ a, H a = none → ts a cls d (sufD i D) (σ.set i (some (.ref a))) H) ∧ (b = false → wEach K i D r cls d σ H)
inductive Clauses (X : Cx) (n : Str) : List ExceptHandler → List Clause → Prop
  | nil : Clauses X n [] []
  | cons {x : Str} {c : Value} {ts : Addr → Value → Option Addr → TS} {b : Stmt} {bs : List Stmt} {p q : Pos} {hs : List ExceptHandler} {l : List Clause} (hc : Names X x c)
      (su : ∀ (a : Addr) (oe : Obj) (cls : Value) (d : Option Addr) (pn : List (Addr × Obj)), Zc cls d oe → (∃ vs, oe.data = .fields vs) → PSs (X.suite a ((a, oe) :: pn)) (b :: bs) (ts a cls d)) (r : Clauses X n hs l) :
      Clauses X n (.ExceptHandler (some (.Name x p)) (some n) (b :: bs) q :: hs) ((c, ts) :: l)
section
variable {X : Cx} {n : Str} {i : Nat}
/-- the clauses, one after the other, with the error in hand -/
theorem clauses_run {hds : List ExceptHandler} {l : List Clause} {pins : List (Addr × Obj)} {D : Ends} {a : Addr} {B : Heap} {cls : Value} {d : Option Addr} {σ : L2.St} {H : Hp} {sI s' : Shared} {h3 : Heap}
    (hf : X.env.frame = some X.env.locals) (hN : X.N.Nodup) (hi : X.N[i]? = some n) (hln : X.env.kindOf n = some .local) (ok : X.Ok)
    (J : Inv X pins σ H sI) (fl : HandSPX.FlyingZ B (X.env :: X.outer) a (Zc cls d) h3) (up : sI.heap.UpToSlots h3)
    (land : ∀ h4, HandSPX.FlyingZ B (X.env :: X.outer) a (Zc cls d) h4 → sI.heap.UpToSlots h4 → Inv X pins σ H { s' with heap := h4 })
    (na : H a = none) (nL : a ≠ X.env.locals) (nF : a ∉ X.fs) (C : Clauses X n hds l) (w : wEach X.K i D l cls d σ H) :
    wpAny (model X.prog X.w) X.A (handleBy (.ref a) X.env hds) (SP X pins D) X.xe { s' with heap := h3 } := by
  induction C with
  | nil => exact w.elim
  | @cons x c ts b₀ bs p q hs l hc su r ih =>
    obtain ⟨b, e1, yes, no⟩ := w
    have J3 := land h3 fl up
    obtain ⟨oe, vs, he, hz, hd⟩ := fl.there
    have S3 := J3.suite he hd na nL nF
    have asked : PySem.W.Looks (model X.prog X.w) h3 (typeOf (.ref a)) cls := fun A Q E s k q => wpAny_typeOf_ref (k _ _ he) (by rw [hz.1]; exact q)
    have same := PySem.W.exm_one (M := model X.prog X.w) J3.kIn asked e1
    refine wpAny_handleBy_cons (codeAny_handlers_test ?_) (by intro z; cases z)
    have name : ∀ {Q E : Value → Shared → Prop}, Q c { s' with heap := h3 } → wpAny (model X.prog X.w) (X.A.mark (some (.ref a))) (eval (.Name x p) X.env) Q E { s' with heap := h3 } := fun {Q E} z => by
      obtain ⟨g1, g2, g3 | ⟨g3, g4, g5⟩⟩ := hc
      · exact ld_glob (X := X.suite a ((a, oe) :: (X.pn ++ pins))) S3 g1 g3 z g2
      · exact ld_blt (X := X.suite a ((a, oe) :: (X.pn ++ pins))) S3 g1 g3 g4 z g5 g2
    refine name (same.here ?_)
    cases b with
    | false => exact ih (no rfl)
    | true =>
      refine codeAny_handlers_suite_as (HandSPX.lands_againZ fl fun h4 fl4 up4 => ?_)
      have J4 := land h4 fl4 (up.trans up4)
      obtain ⟨oe4, vs4, he4, hz4, hd4⟩ := fl4.there
      refine store_ok (X := X.suite a ((a, oe4) :: (X.pn ++ pins))) (v := .ref a) (J4.suite he4 hd4 na nL nF) hN hi (.inl hln) rfl (fun s5 S5 => ?_) (.inr hln)
      refine wpAny_mono ((su a oe4 cls d (X.pn ++ pins) hz4 ⟨_, hd4⟩).run [] s5 _ H _ S5 (yes rfl a na)) (fun f s6 hsp => ?_) (fun _ _ z => False.elim z)
      cases f with
      | next => obtain ⟨σ6, H6, S6, q6⟩ := hsp; exact gone_ok (S6.unsuite ok) hN hi hln fun s7 J7 => ⟨_, _, J7, q6⟩
      | brk => obtain ⟨σ6, H6, S6, q6⟩ := hsp; exact gone_ok (S6.unsuite ok) hN hi hln fun s7 J7 => ⟨_, _, J7, q6⟩
      | cont => obtain ⟨σ6, H6, S6, q6⟩ := hsp; exact gone_ok (S6.unsuite ok) hN hi hln fun s7 J7 => ⟨_, _, J7, q6⟩
      | ret u => obtain ⟨v6, σ6, H6, S6, r6, q6⟩ := hsp; exact gone_ok (S6.unsuite ok) hN hi hln fun s7 J7 => ⟨_, _, _, J7, r6, q6⟩
def tTryE (K : PySem.W.Frag) (i : Nat) (l : List Clause) (tb : WX → TS) : TS := fun D σ H => tb (wEach K i D l) D σ H
theorem ps_tryE {body : List Stmt} {h₀ : ExceptHandler} {hds : List ExceptHandler} {l : List Clause} {pos : Pos} {tb : WX → TS} (K : PySem.W.Frag) (e : X.K = K) (hs : X.stack = X.env :: X.outer) (hf : X.env.frame = some X.env.locals) (hN : X.N.Nodup) (hi : X.N[i]? = some n) (hln : X.env.kindOf n = some .local)
    (hb : ∀ (W : WX) (pn : List (Addr × Obj)) (xe : Value → Shared → Prop), Takes (X.tr pn xe) W → PassesOwn (model X.prog X.w) X.A X.env xe → PSs (X.tr pn xe) body (tb W))
    (C : Clauses X n (h₀ :: hds) l) : PS X (.Try body (h₀ :: hds) [] [] pos) (tTryE K i l tb) := by
  subst e
  refine ⟨fun pins s σ H D I h => ?_⟩
  have ok := I.ok
  have hfr : X.A.frames = some (X.env :: X.outer) := by rw [ok.frames, hs]
  have done : ∀ {f : Flow} {s1 : Shared}, SP (X.tr (X.pn ++ pins) (fun e s₁ => wpAny (model X.prog X.w) X.A (noteFrame e X.env) (fun _ s₂ => wpAny (model X.prog X.w) X.A (setFlight e none) (fun _ s₃ =>
    wpAny (model X.prog X.w) X.A (handleBy e X.env (h₀ :: hds)) (SP X pins D) X.xe s₃) X.xe s₂) X.xe s₁)) [] D f s1 → SP X pins D f s1 := fun {f s1} hsp => by
    cases f with
    | next => obtain ⟨σ', H', J', q⟩ := hsp; exact ⟨σ', H', J'.ofTry ok, q⟩
    | brk => obtain ⟨σ', H', J', q⟩ := hsp; exact ⟨σ', H', J'.ofTry ok, q⟩
    | cont => obtain ⟨σ', H', J', q⟩ := hsp; exact ⟨σ', H', J'.ofTry ok, q⟩
    | ret u => obtain ⟨v, σ', H', J', r, q⟩ := hsp; exact ⟨v, σ', H', J'.ofTry ok, r, q⟩
  refine wpAny_Try_except ?_
  refine wpAny_mono ((hb (wEach X.K i D l) (X.pn ++ pins) _ (fun u s' xx => ?_) PassesOwn.looking).run [] s σ H D (I.toTry _) h) (fun f s1 hsp => ?_) (fun e s1 he => he)
  · obtain ⟨a, B, sI, pins', σ', H', cls, d, rfl, J', nb, up, sky, na, os, ag, w⟩ := xx
    have J : Inv X pins σ' H' sI := J'.ofTry ok
    rw [show (X.tr (X.pn ++ pins) _).stack = X.env :: X.outer from hs] at sky
    show wpAny (model X.prog X.w) X.A (noteFrame (.ref a) X.env) _ _ _
    refine Sky.land Zc.steady hfr hf sky fun h3 fl up3 => ?_
    obtain ⟨oe, vs, he, hz, hd⟩ := fl.there
    have out : a ∉ frs (X.env :: X.outer) := fun m => by
      obtain ⟨_, o', e', k⟩ := fl.2.2.1.mem m
      rw [he] at e'
      cases e'
      exact k _ hd
    refine clauses_run hf hN hi hln ok J fl (up.trans up3) (fun h4 fl4 up4 => J.landed nb fl4.1 up4 os ag) na (fun z => out ?_) (fun m => out ?_) C w
    · exact List.mem_filterMap.mpr ⟨X.env, List.mem_cons_self, by rw [hf, z]⟩
    · obtain ⟨e, m1, m2⟩ := List.mem_filterMap.mp m
      exact List.mem_filterMap.mpr ⟨e, List.mem_cons_of_mem _ m1, m2⟩
  · cases f with
    | next => exact wpAny_execs_nil (done hsp)
    | brk => exact done hsp
    | cont => exact done hsp
    | ret u => exact done hsp
end
section
variable {K : PySem.W.Frag} {δ : List SD} {P : Out → Prop} {i : Nat} {u : TS} {cls : Value}
/-- the first clause that takes the class runs -/
def pick1 (K : PySem.W.Frag) (cls : Value) (i : Nat) (δ : List SD) (P : Out → Prop) : List Clause → Prop
  | [] => False
  | (c, ts) :: r => (PySem.W.exmOne K cls c = some true ∧ ∀ a, WP K (ts a cls none) (δ.set i (.raw (.ref a))) (sufP i P)) ∨ (PySem.W.exmOne K cls c = some false ∧ pick1 K cls i δ P r)
def tryE (K : PySem.W.Frag) (i : Nat) (l : List Clause) (W : WX) (P : Out → Prop) : Out → Prop
  | .ex δ Φ => ∃ cls, Φ = W cls none ∧ pick1 K cls i δ P l
  | o => P o
theorem pick_run {H0 H J : Hp} {σ : L2.St} {D : Ends} (hP : ∀ o, P o → OutOk K H0 D o) (S : Sd K H0 J σ δ) : ∀ {l : List Clause}, pick1 K cls i δ P l → wEach K i D l cls none σ J
  | [], h => h.elim
  | (c, ts) :: r, .inl ⟨h1, h2⟩ => ⟨true, h1, fun _ a _ => h2 a H0 J _ _ (S.store (v := .ref a) (s := .raw (.ref a)) rfl fun z => by cases z) fun o p => by
      cases o with
      | nx δ => exact fun σ J S2 => hP (.nx (δ.set i .emp)) p _ J S2.unset
      | rt r => exact hP (.rt r) p
      | bk δ => exact fun σ J S2 => hP (.bk (δ.set i .emp)) p _ J S2.unset
      | ct δ => exact fun σ J S2 => hP (.ct (δ.set i .emp)) p _ J S2.unset
      | ex δ Φ => exact hP (.ex δ Φ) p, fun z => by cases z⟩
  | (c, ts) :: r, .inr ⟨h1, h2⟩ => ⟨false, h1, (fun z => by cases z), fun _ => pick_run (H := H) hP S h2⟩
theorem tw_tryE {l : List Clause} {tb : WX → TS} (h : ∀ W, WP K (tb W) δ (tryE K i l W P)) : WP K (tTryE K i l tb) δ P := fun H0 H σ D S hP =>
  h (wEach K i D l) H0 H σ D S fun o p => by
    cases o with
    | nx δ => exact hP (.nx δ) p
    | rt r => exact hP (.rt r) p
    | bk δ => exact hP (.bk δ) p
    | ct δ => exact hP (.ct δ) p
    | ex δ Φ =>
      obtain ⟨cls, rfl, hw⟩ := p
      exact fun σ J S' => pick_run (H := J) hP S' hw
theorem tryE_ex {l : List Clause} {W : WX} (h : pick1 K cls i δ P l) : tryE K i l W P (.ex δ (W cls none)) := ⟨cls, rfl, h⟩
theorem tryE_nx {l : List Clause} {W : WX} (h : P (.nx δ)) : tryE K i l W P (.nx δ) := h
theorem tw_seqTE {l : List Clause} {tb : WX → TS} (h : WP K (tTryE K i l tb) δ (thenP K u P)) : WP K (tSeq (tTryE K i l tb) u) δ P := tw_seq h
theorem dn_catO {ta : TE} {ds es : List PyData} {j : Nat} (ha : DN K ta δ ds) (hj : δ[j]? = some (.own es)) (hl : ds.length + es.length ≤ 100000) : DN K (tOp (rAddX K) ta (tVar j)) δ (ds ++ es) := fun H0 H σ S Q q => ha H0 H σ S _ fun p vs J g hp h1 h2 => by
  obtain ⟨v, e1, b, us, rfl, k0, k1, k2⟩ := (S.mono g).ok j _ hj (by intro z; cases z)
  refine ⟨_, e1, .inr (.inr ⟨p, b, vs, us, rfl, rfl, h1, k1, by rw [h2.length, k2.length]; exact Nat.le_trans hl (by decide), fun r hr => ?_⟩)⟩
  exact q r _ _ (g.tr (Gr.lay hr)) (g.free hr) upd_same ((h2.app k2).mono (Gr.lay hr).tm)
end
end Tn

namespace Tw
open PySem L2 Tn PySem.Spec PyProof.Rows
local macro_rules | `(tactic| walk_at "side") => `(tactic| first | decide | omega | (unfold CDiv; omega) | (unfold CMul; omega) | (unfold CPow; omega) | (simp only [List.length_cons, List.length_nil]; omega) | exact Nat.le_of_ble_eq_true rfl | rfl)
local macro_rules | `(tactic| walk_at "kb") => `(tactic| first | exact kb_ii | exact kb_ib | exact kb_bb | exact kb_bi | exact kb_tt | exact kb_it | exact kb_bt | exact kb_st | exact kb_nt | exact kb_is | exact kb_ss | exact kb_sb | exact kb_ll | exact kb_tl | exact kb_lt)
local macro_rules | `(tactic| walk_at "atc") => `(tactic| first | exact at_c0 | exact at_c1 | exact at_c2 | exact at_c3 | exact at_c4 | exact at_c5 | exact at_c6)
local macro_rules | `(tactic| walk_at "ev") => `(tactic| first
  | (with_reducible assumption)
  | exact de_var rfl
  | exact de_int
  | exact de_bl
  | exact de_str
  | exact de_non
  | ((with_reducible apply de_int1); walk_at "ev")
  | ((with_reducible apply de_add); (walk_at "ev"); (walk_at "ev"))
  | ((with_reducible apply de_sub); (walk_at "ev"); (walk_at "ev"))
  | ((with_reducible apply de_mul); (walk_at "ev"); (walk_at "ev"); walk_at "side")
  | ((with_reducible apply de_div); (walk_at "ev"); (walk_at "ev"); walk_at "side")
  | ((with_reducible apply de_mod); (walk_at "ev"); (walk_at "ev"); walk_at "side")
  | ((with_reducible apply de_pow); (walk_at "ev"); (walk_at "ev"); walk_at "side")
  | ((with_reducible apply de_lt); (walk_at "ev"); (walk_at "ev"))
  | ((with_reducible apply de_le); (walk_at "ev"); (walk_at "ev"))
  | ((with_reducible apply de_gt); (walk_at "ev"); (walk_at "ev"))
  | ((with_reducible apply de_ge); (walk_at "ev"); (walk_at "ev"))
  | ((with_reducible apply de_eqI); (walk_at "ev"); (walk_at "ev"))
  | ((with_reducible apply de_neI); (walk_at "ev"); (walk_at "ev"))
  | ((with_reducible apply de_eqB); (walk_at "ev"); (walk_at "ev"))
  | ((with_reducible apply de_neB); (walk_at "ev"); (walk_at "ev"))
  | ((with_reducible apply de_eqS); (walk_at "ev"); (walk_at "ev"))
  | ((with_reducible apply de_neS); (walk_at "ev"); (walk_at "ev"))
  | ((with_reducible apply de_isN); walk_at "ev")
  | ((with_reducible apply de_isntN); walk_at "ev")
  | ((with_reducible apply de_isB); (walk_at "ev"); (walk_at "ev"))
  | ((with_reducible apply de_isntB); (walk_at "ev"); (walk_at "ev"))
  | ((with_reducible apply de_neg); walk_at "ev")
  | ((with_reducible apply de_not); walk_at "ev")
  | ((with_reducible apply de_and); (walk_at "ev"); (intro _; walk_at "ev"))
  | ((with_reducible apply de_or); (walk_at "ev"); (intro _; walk_at "ev"))
  | ((with_reducible apply de_lenT); walk_at "ev")
  | ((with_reducible apply de_lenL); walk_at "ev")
  | ((with_reducible apply de_isi); (walk_at "ev"); walk_at "kb")
  | ((with_reducible apply de_isiL); (walk_at "ev"); walk_at "kb")
  | ((with_reducible apply de_ixT); (walk_at "ev"); (walk_at "ev"); (first | walk_at "atc" | assumption | rfl))
  | ((with_reducible apply de_ixL); (walk_at "ev"); (walk_at "ev"); (first | walk_at "atc" | assumption | exact at_ds rfl (by omega) (by simp only [List.length_cons, List.length_nil]; omega) | rfl))
  | ((with_reducible apply de_max); (walk_at "ev"); (walk_at "ev"))
  | ((with_reducible apply de_min); (walk_at "ev"); (walk_at "ev"))
  | ((with_reducible apply de_tup); (walk_at "ev"); walk_at "side")
  | ((with_reducible apply de_tupleL); walk_at "ev")
  | ((with_reducible apply de_tupleT); walk_at "ev")
  | ((with_reducible apply de_slT); (walk_at "ev"); (walk_at "ev"); (walk_at "ev"))
  | ((with_reducible apply de_call); (walk_at "ev"); walk_at "rel")
  | ((with_reducible apply de_din); (walk_at "ev"); (walk_at "ev"))
  | ((with_reducible apply de_dget); (walk_at "ev"); (walk_at "ev"); (first | assumption | rfl))
  | ((with_reducible apply de_sum); (walk_at "ev"))
  | exact dn_itemsI rfl
  | exact dm_newI
  | exact dn_items rfl
  | exact dd_nil
  | ((with_reducible apply dd_cons); (walk_at "ev"); (walk_at "ev"))
  | exact da_nil
  | ((with_reducible apply da_d); (walk_at "ev"); (walk_at "ev"))
  | ((with_reducible apply da_l); (walk_at "ev"); (walk_at "ev"))
  | ((with_reducible apply da_k); (walk_at "ev"); (walk_at "ev"))
  | exact dl_bor rfl
  | exact dl_own rfl
  | exact dk_bor rfl
  | exact dk_own rfl
  | exact do_none
  | ((with_reducible apply do_some); walk_at "ev")
  | ((with_reducible apply dt_test); walk_at "ev")
  | ((with_reducible apply dt_B); walk_at "ev")
  | ((with_reducible apply dt_not); walk_at "ev")
  | ((with_reducible apply dt_and); (walk_at "ev"); (intro _; walk_at "ev"))
  | ((with_reducible apply dt_or); (walk_at "ev"); (intro _; walk_at "ev"))
  | ((with_reducible apply dn_lst); (walk_at "ev"); walk_at "side")
  | ((with_reducible apply dn_listT); walk_at "ev")
  | ((with_reducible apply dn_listL); walk_at "ev")
  | ((with_reducible apply dn_sl); (walk_at "ev"); (walk_at "ev"); (walk_at "ev"))
  | ((with_reducible apply dn_call); (walk_at "ev"); walk_at "rel")
  | ((with_reducible apply dm_call); (walk_at "ev"); walk_at "rel")
  | ((with_reducible apply de_catT); (walk_at "ev"); (walk_at "ev"); walk_at "side")
  | ((with_reducible apply DM.dk); (walk_at "ev"))
  | ((with_reducible apply dn_rev); (walk_at "ev"))
  | ((with_reducible apply DN.dl); walk_at "ev"))
local macro_rules | `(tactic| walk_at "gn") => `(tactic| first | exact GN.nil | (apply GN.cons; walk_at "gn"))
local macro_rules | `(tactic| walk_at "gt") => `(tactic| first | exact g_name | (apply g_tup; (walk_at "gn"); rfl; rfl))
local macro_rules | `(tactic| walk_at "wp0") => `(tactic| first
  | ((with_reducible apply then_nx))
  | ((with_reducible apply then_rt))
  | ((with_reducible apply loop_nx))
  | ((with_reducible apply loop_rt))
  | ((with_reducible apply then_ct))
  | ((with_reducible apply then_bk))
  | ((with_reducible apply tw_next))
  | ((with_reducible apply tw_cont))
  | ((with_reducible apply tw_break))
  | ((with_reducible apply tw_asg); (walk_at "ev"); dsimp only [List.set])
  | ((with_reducible apply tw_asgN); (walk_at "ev"); dsimp only [List.set])
  | ((with_reducible apply tw_asgM); (walk_at "ev"); dsimp only [List.set])
  | ((with_reducible apply tw_app); rfl; (walk_at "ev"); (first | assumption | walk_at "side"); dsimp only [List.set])
  | ((with_reducible apply tw_drop); (walk_at "ev"))
  | ((with_reducible apply tw_setI); rfl; (walk_at "ev"); (walk_at "ev"); rfl; dsimp only [List.set])
  | ((with_reducible apply tw_dputI); rfl; (walk_at "ev"); (walk_at "ev"); (first | assumption | walk_at "side"); dsimp only [List.set])
  | ((with_reducible apply tw_par); (walk_at "ev"); (walk_at "ev"); dsimp only [List.set])
  | ((with_reducible apply tw_aug); rfl; (walk_at "ev"); dsimp only [List.set])
  | ((with_reducible apply tw_asgG); (walk_at "ev"); (walk_at "gt"); dsimp only [List.set, setsD])
  | ((with_reducible apply tw_retO); rfl; skip)
  | ((with_reducible apply tw_retOD); rfl; skip)
  | ((with_reducible apply tw_ret); (walk_at "ev"); skip)
  | ((with_reducible apply tw_retN); (walk_at "ev"); skip)
  | ((with_reducible apply tw_retM); (walk_at "ev"); skip))
local macro_rules | `(tactic| walk_at "wp1") => `(tactic| first | (with_reducible apply tw_seq) | walk_at "wp0")
local macro_rules | `(tactic| walk_at "wpf1") => `(tactic| first | (with_reducible apply tw_seqA) | (with_reducible apply tw_seqR) | (with_reducible apply tw_seqD) | (with_reducible apply tw_seqI) | (with_reducible apply tw_seqG) | (with_reducible apply tw_seqP) | (with_reducible apply tw_seqU) | (with_reducible apply tw_seqN) | walk_at "wp0")
local macro_rules | `(tactic| walk_at "wpf") => `(tactic| repeat (walk_at "wpf1"))
local macro_rules | `(tactic| walk_at "wp") => `(tactic| repeat (walk_at "wp1"))
local macro_rules | `(tactic| walk_at "if") => `(tactic| ((with_reducible apply tw_if); (walk_at "ev")))
local macro_rules | `(tactic| walk_at "less") => `(tactic| first | exact Less.nil | (apply Less.emp; walk_at "less") | (apply Less.same; walk_at "less") | (apply less_eq; rotate_left; walk_at "less"; skip))
local macro_rules | `(tactic| walk_at "len") => `(tactic| first | (intro ss r h; obtain ⟨h1, _⟩ := h; exact congrArg List.length h1) | (intro ss r h; obtain ⟨_, h1, _⟩ := h; exact congrArg List.length h1) | (intro ss r h; obtain ⟨_, _, h1, _⟩ := h; exact congrArg List.length h1) | (intro ss r h; obtain ⟨_, _, _, h1, _⟩ := h; exact congrArg List.length h1) | (intro ss r h; obtain ⟨_, _, _, _, h1, _⟩ := h; exact congrArg List.length h1) | (intro ss r h; obtain ⟨_, _, _, _, _, h1, _⟩ := h; exact congrArg List.length h1) | (intro ss r h; obtain ⟨_, _, _, _, _, _, h1, _⟩ := h; exact congrArg List.length h1) | (intro ss r h; obtain ⟨_, _, _, _, _, _, _, h1, _⟩ := h; exact congrArg List.length h1) | (intro ss r h; obtain ⟨_, _, _, _, _, _, _, _, h1, _⟩ := h; exact congrArg List.length h1) | (intro ss r h; obtain ⟨_, _, _, _, _, _, _, _, _, h1, _⟩ := h; exact congrArg List.length h1) | (intro ss r h; obtain ⟨_, _, _, _, _, _, _, _, _, _, h1, _⟩ := h; exact congrArg List.length h1) | (intro ss r h; obtain ⟨_, _, _, _, _, _, _, _, _, _, _, h1, _⟩ := h; exact congrArg List.length h1) | (intro ss r h; obtain ⟨_, _, _, _, _, _, _, _, _, _, _, _, h1, _⟩ := h; exact congrArg List.length h1) | (intro ss r h; obtain ⟨_, _, _, _, _, _, _, _, _, _, _, _, _, h1, _⟩ := h; exact congrArg List.length h1) | (intro ss r h; obtain ⟨_, _, _, _, _, _, _, _, _, _, _, _, _, _, h1, _⟩ := h; exact congrArg List.length h1) | (intro ss r h; obtain ⟨_, _, _, _, _, _, _, _, _, _, _, _, _, _, _, h1, _⟩ := h; exact congrArg List.length h1) | (intro ss r h; obtain ⟨_, _, _, _, _, _, _, _, _, _, _, _, _, _, _, _, h1, _⟩ := h; exact congrArg List.length h1) | (intro ss r h; obtain ⟨_, _, _, _, _, _, _, _, _, _, _, _, _, _, _, _, _, h1, _⟩ := h; exact congrArg List.length h1) | (intro ss r h; obtain ⟨_, _, _, _, _, _, _, _, _, _, _, _, _, _, _, _, _, _, h1, _⟩ := h; exact congrArg List.length h1) | (intro ss r h; obtain ⟨_, _, _, _, _, _, _, _, _, _, _, _, _, _, _, _, _, _, _, h1, _⟩ := h; exact congrArg List.length h1))
local macro_rules | `(tactic| walk_at "fact") => `(tactic| first | assumption | exact num_nonneg _ _ | omega | exact ⟨rfl, Nat.le_of_ble_eq_true rfl⟩)
local macro_rules | `(tactic| walk_at "rel2") => `(tactic| first | exact rfl | (apply And.intro; (walk_at "fact"); walk_at "rel2"))
local macro_rules | `(tactic| walk_at "rel") => `(tactic| ((repeat apply Exists.intro); (apply And.intro); (first | exact rfl | exact Or.inl rfl | exact Or.inr rfl); walk_at "rel2"))
local macro_rules | `(tactic| walk_at "ifF") => `(tactic| ((with_reducible apply tw_if); (walk_at "ev"); (intro h; cases (show false = true from h)); intro _))
local macro_rules | `(tactic| walk_at "ifT") => `(tactic| ((with_reducible apply tw_if); (walk_at "ev"); rotate_left; (intro h; cases (show true = false from h)); intro _))

local macro_rules | `(tactic| walk_at "ev") => `(tactic| first
  | ((with_reducible apply de_callS); (walk_at "ev"); walk_at "rel")
  | ((with_reducible apply de_divW); (walk_at "ev"); (walk_at "ev"); assumption)
  | ((with_reducible apply de_isErr); rfl; assumption; (intro u h; exact h); assumption)
  | ((with_reducible apply de_chLe); (walk_at "ev"); (walk_at "ev"); (walk_at "ev"))
  | ((with_reducible apply de_callL); (walk_at "ev"); walk_at "rel"))

def top (i : Nat) : Stmt := PySem.Challenge.pw_turnpike_k14_waiting_bounds.main.body.getD i (.Pass ⟨0, 0, 0, 0⟩)
abbrev s__law_pick : Stmt := (top 13)
abbrev N__law_pick : List Str := ["number", "least", "most", "choice", "rest"]
theorem sc__law_pick : FnScope N__law_pick ["number", "least", "most"] (defScope s__law_pick) := ⟨rfl, rfl, rfl, by decide +kernel, rfl, by decide +kernel, by decide +kernel⟩
abbrev s__law_number : Stmt := (top 12)
abbrev N__law_number : List Str := ["script", "k", "cell", "first", "second"]
theorem sc__law_number : FnScope N__law_number ["script", "k"] (defScope s__law_number) := ⟨rfl, rfl, rfl, by decide +kernel, rfl, by decide +kernel, by decide +kernel⟩
abbrev s_check_range : Stmt := (top 7)
abbrev N_check_range : List Str := ["name", "number", "least", "greatest"]
theorem sc_check_range : FnScope N_check_range ["name", "number", "least", "greatest"] (defScope s_check_range) := ⟨rfl, rfl, rfl, by decide +kernel, rfl, by decide +kernel, by decide +kernel⟩
abbrev s_wait_budget : Stmt := (top 9)
abbrev N_wait_budget : List Str := ["money", "room", "fee"]
theorem sc_wait_budget : FnScope N_wait_budget ["money", "room", "fee"] (defScope s_wait_budget) := ⟨rfl, rfl, rfl, by decide +kernel, rfl, by decide +kernel, by decide +kernel⟩
abbrev s_wait_bound : Stmt := (top 10)
abbrev N_wait_bound : List Str := ["money", "room", "fee"]
theorem sc_wait_bound : FnScope N_wait_bound ["money", "room", "fee"] (defScope s_wait_bound) := ⟨rfl, rfl, rfl, by decide +kernel, rfl, by decide +kernel, by decide +kernel⟩
abbrev s__law_refused : Stmt := (top 14)
abbrev N__law_refused : List Str := ["money", "room", "fee", "which", "e"]
theorem sc__law_refused : FnScope N__law_refused ["money", "room", "fee", "which"] (defScope s__law_refused) := ⟨rfl, rfl, rfl, by decide +kernel, rfl, by decide +kernel, by decide +kernel⟩
abbrev s_law : Stmt := (top 15)
abbrev N_law : List Str := ["script", "k", "money", "room", "fee", "good", "budget", "bound"]
theorem sc_law : FnScope N_law ["script"] (defScope s_law) := ⟨rfl, rfl, rfl, by decide +kernel, rfl, by decide +kernel, by decide +kernel⟩
structure Txt (K : PySem.W.Frag) (mg : Str → Option Value) where
  a__law_pick : Addr
  fd__law_pick : FuncData
  F__law_pick : Fun K "_law_pick" "_law_pick" s__law_pick a__law_pick fd__law_pick
  b__law_pick : Binds K fd__law_pick ["number", "least", "most"] []
  m__law_pick : mg "_law_pick" = some (.ref a__law_pick)
  a__law_number : Addr
  fd__law_number : FuncData
  F__law_number : Fun K "_law_number" "_law_number" s__law_number a__law_number fd__law_number
  b__law_number : Binds K fd__law_number ["script", "k"] []
  m__law_number : mg "_law_number" = some (.ref a__law_number)
  a_check_range : Addr
  fd_check_range : FuncData
  F_check_range : Fun K "check_range" "check_range" s_check_range a_check_range fd_check_range
  b_check_range : Binds K fd_check_range ["name", "number", "least", "greatest"] []
  m_check_range : mg "check_range" = some (.ref a_check_range)
  a_wait_budget : Addr
  fd_wait_budget : FuncData
  F_wait_budget : Fun K "wait_budget" "wait_budget" s_wait_budget a_wait_budget fd_wait_budget
  b_wait_budget : Binds K fd_wait_budget ["money", "room", "fee"] []
  m_wait_budget : mg "wait_budget" = some (.ref a_wait_budget)
  a_wait_bound : Addr
  fd_wait_bound : FuncData
  F_wait_bound : Fun K "wait_bound" "wait_bound" s_wait_bound a_wait_bound fd_wait_bound
  b_wait_bound : Binds K fd_wait_bound ["money", "room", "fee"] []
  m_wait_bound : mg "wait_bound" = some (.ref a_wait_bound)
  a__law_refused : Addr
  fd__law_refused : FuncData
  F__law_refused : Fun K "_law_refused" "_law_refused" s__law_refused a__law_refused fd__law_refused
  b__law_refused : Binds K fd__law_refused ["money", "room", "fee", "which"] []
  m__law_refused : mg "_law_refused" = some (.ref a__law_refused)
  a_law : Addr
  fd_law : FuncData
  F_law : Fun K "law" "law" s_law a_law fd_law
  b_law : Binds K fd_law ["script"] []
  m_law : mg "law" = some (.ref a_law)
  t_GREATEST_AMOUNT : Tok
  m_GREATEST_AMOUNT : mg "GREATEST_AMOUNT" = some (.int 1000000000000000 t_GREATEST_AMOUNT)
  t_GREATEST_ROOM : Tok
  m_GREATEST_ROOM : mg "GREATEST_ROOM" = some (.int 200 t_GREATEST_ROOM)
  m_bool : mg "bool" = none
  m_int : mg "int" = none
  m_isinstance : mg "isinstance" = none
  m_len : mg "len" = none
  m_range : mg "range" = none
  a_OutOfBounds : Addr
  m_OutOfBounds : mg "OutOfBounds" = some (.ref a_OutOfBounds)
  e_OutOfBounds : ExK K a_OutOfBounds
  a_TooMuchMoney : Addr
  m_TooMuchMoney : mg "TooMuchMoney" = some (.ref a_TooMuchMoney)
  e_TooMuchMoney : ExK K a_TooMuchMoney
  a_TurnpikeError : Addr
  m_TurnpikeError : mg "TurnpikeError" = some (.ref a_TurnpikeError)
  e_TurnpikeError : ExK K a_TurnpikeError
  u_OutOfBounds_TooMuchMoney : PySem.W.subIn K (.ref a_OutOfBounds) (.ref a_TooMuchMoney) = some false
  u_OutOfBounds_TurnpikeError : PySem.W.subIn K (.ref a_OutOfBounds) (.ref a_TurnpikeError) = some true
  u_TooMuchMoney_OutOfBounds : PySem.W.subIn K (.ref a_TooMuchMoney) (.ref a_OutOfBounds) = some false
  u_TooMuchMoney_TurnpikeError : PySem.W.subIn K (.ref a_TooMuchMoney) (.ref a_TurnpikeError) = some true
  u_TurnpikeError_OutOfBounds : PySem.W.subIn K (.ref a_TurnpikeError) (.ref a_OutOfBounds) = some false
  u_TurnpikeError_TooMuchMoney : PySem.W.subIn K (.ref a_TurnpikeError) (.ref a_TooMuchMoney) = some false
def R__law_number := R_num
def R_law := RSc
def pick (n lo hi : Int) : Int := if n % 8 = 0 then (if n / 8 % 2 = 0 then lo - 1 else hi + 1) else if n % 8 < 3 then (if n % 8 = 1 then lo else hi) else if n % 8 < 6 then lo + n / 8 % 50 else lo + n / 8 % (hi - lo + 1)
def R__law_pick (ss : List SD) (r : SD) : Prop := ∃ n lo hi : Int, ss = [.dat (.int n), .dat (.int lo), .dat (.int hi)] ∧ lo < hi ∧ r = .dat (.int (pick n lo hi))
def R_check_range (ss : List SD) (r : SD) : Prop := ∃ (name : Str) (num lo hi : Int), ss = [.dat (.str name), .dat (.int num), .dat (.int lo), .dat (.int hi)] ∧ lo ≤ num ∧ num ≤ hi ∧ r = .dat .none
def fits (i : Int) : Prop := i.natAbs.log2 < 1920 ∧ (toString i : Str).length ≤ 100
def RX_check_range (C : Addr) (ss : List SD) (c : Value) : Prop := ∃ (name : Str) (num lo hi : Int), ss = [.dat (.str name), .dat (.int num), .dat (.int lo), .dat (.int hi)] ∧ c = .ref C ∧ (num < lo ∨ hi < num) ∧ name.length ≤ 100 ∧ fits lo ∧ fits hi
def okM (m : Int) : Prop := 0 ≤ m ∧ m ≤ 1000000000000000
def okR (m : Int) : Prop := 1 ≤ m ∧ m ≤ 200
def okF (m : Int) : Prop := 1 ≤ m ∧ m ≤ 1000000000000000
def gd (m r f : Int) : Prop := okM m ∧ okR r ∧ okF f
def R_wait_budget (ss : List SD) (r : SD) : Prop := ∃ m rm f : Int, ss = [.dat (.int m), .dat (.int rm), .dat (.int f)] ∧ gd m rm f ∧ r = .dat (.int (m / (rm * f)))
def RX_wait_budget (C : Addr) (ss : List SD) (c : Value) : Prop := ∃ m rm f : Int, ss = [.dat (.int m), .dat (.int rm), .dat (.int f)] ∧ c = .ref C ∧ ¬ gd m rm f
def R_wait_bound (ss : List SD) (r : SD) : Prop := ∃ m rm f : Int, ss = [.dat (.int m), .dat (.int rm), .dat (.int f)] ∧ gd m rm f ∧ r = .dat (.int (m / (rm * f) + 1))
def RX_wait_bound (C : Addr) (ss : List SD) (c : Value) : Prop := ∃ m rm f : Int, ss = [.dat (.int m), .dat (.int rm), .dat (.int f)] ∧ c = .ref C ∧ ¬ gd m rm f
def R__law_refused (ss : List SD) (r : SD) : Prop := ∃ m rm f w : Int, ss = [.dat (.int m), .dat (.int rm), .dat (.int f), .dat (.int w)] ∧ ¬ gd m rm f ∧ r = .dat (.bool true)
theorem f0 : fits 0 := ⟨by decide +kernel, by decide +kernel⟩
theorem f1 : fits 1 := ⟨by decide +kernel, by decide +kernel⟩
theorem f200 : fits 200 := ⟨by decide +kernel, by decide +kernel⟩
theorem f15 : fits 1000000000000000 := ⟨by decide +kernel, by decide +kernel⟩

section
variable {P : Program} {w : World} {K : PySem.W.Frag} {mg : Str → Option Value} {base : Heap}
theorem ok__law_pick (T : Txt K mg) : FnOk P w K mg base CX0 1 T.a__law_pick T.fd__law_pick ["number", "least", "most"] (spR K R__law_pick) := by
  refine fn_R T.F__law_pick sc__law_pick (by walk_at "len") fun cdv A outer s H E hr => ⟨_, (pss_cons (ps_asg (pe_op o_mod (pe_callTy c_int (by rfl) T.m_int b_int (pa_cons (pv 0) pa_nil)) pe_int) (pg_name (i := 3) sc__law_pick.nd rfl (.inl rfl)))
    (pss_cons (ps_asg (pe_op o_div (pe_callTy c_int (by rfl) T.m_int b_int (pa_cons (pv 0) pa_nil)) pe_int) (pg_name (i := 4) sc__law_pick.nd rfl (.inl rfl)))
    (pss_cons (ps_if (pt_cmpR (o_eqK K rfl (hu64 hr)) (pv 3) pe_int (nomark _))
    (pss_cons (ps_ret (pe_ix (ix_K K rfl) (pe_lst (pa_cons (pe_op o_sub (pv 1) pe_int) (pa_cons (pe_op (o_addK K rfl) (pv 2) pe_int) pa_nil))) (pe_op o_mod (pe_callTy c_int (by rfl) T.m_int b_int (pa_cons (pv 4) pa_nil)) pe_int) (fun _ _ => rfl)))
    pss_nil)
    pss_nil)
    (pss_cons (ps_if (pt_cmpR o_lt (pv 3) pe_int (nomark _))
    (pss_cons (ps_ret (pe_ix (ix_K K rfl) (pe_lst (pa_cons (pv 1) (pa_cons (pv 2) pa_nil))) (pe_op o_sub (pv 3) pe_int) (fun _ _ => rfl)))
    pss_nil)
    pss_nil)
    (pss_cons (ps_if (pt_cmpR o_lt (pv 3) pe_int (nomark _))
    (pss_cons (ps_ret (pe_op (o_addK K rfl) (pv 1) (pe_op o_mod (pe_callTy c_int (by rfl) T.m_int b_int (pa_cons (pv 4) pa_nil)) pe_int)))
    pss_nil)
    pss_nil)
    (pss_cons (ps_ret (pe_op (o_addK K rfl) (pv 1) (pe_op o_mod (pe_callTy c_int (by rfl) T.m_int b_int (pa_cons (pv 4) pa_nil)) (pe_op (o_addK K rfl) (pe_op o_sub (pv 2) (pv 1)) pe_int))))
    pss_nil)))))), fun ss r h => ?_⟩
  try simp only [cxK, cxK2]
  obtain ⟨n, lo, hi, rfl, hl, rfl⟩ := h
  show WP K _ [.dat (.int n), .dat (.int lo), .dat (.int hi), .emp, .emp] _
  have ha : atI [PyData.int (lo - 1), PyData.int (hi + 1)] (n / 8 % 2) = some (.int (if n / 8 % 2 = 0 then lo - 1 else hi + 1)) := by
    rcases (show n / 8 % 2 = 0 ∨ n / 8 % 2 = 1 by omega) with e | e <;> rw [e] <;> rfl
  have hd : 0 < hi - lo + 1 := by omega
  walk_at "wp"
  walk_at "if" <;> intro h1 <;> simp only [decide_eq_true_eq, decide_eq_false_iff_not] at h1
  · walk_at "wp"
    apply fn_rt
    simp only [pick, h1, if_true]
  walk_at "wp"
  walk_at "if" <;> intro h2 <;> simp only [decide_eq_true_eq, decide_eq_false_iff_not] at h2
  · have hb : atI [PyData.int lo, PyData.int hi] (n % 8 - 1) = some (.int (if n % 8 = 1 then lo else hi)) := by
      rcases (show n % 8 = 1 ∨ n % 8 = 2 by omega) with e | e <;> rw [e] <;> rfl
    walk_at "wp"
    apply fn_rt
    simp only [pick, h1, h2, if_true, if_false]
  walk_at "wp"
  walk_at "if" <;> intro h3 <;> simp only [decide_eq_true_eq, decide_eq_false_iff_not] at h3
  all_goals walk_at "wp"
  all_goals apply fn_rt
  all_goals simp only [pick, h1, h2, h3, if_true, if_false]
theorem ok__law_number (T : Txt K mg) : FnOk P w K mg base CX0 1 T.a__law_number T.fd__law_number ["script", "k"] (spR K R__law_number) := by
  refine fn_R T.F__law_number sc__law_number (by walk_at "len") fun cdv A outer s H E hr => ⟨_, (pss_cons (ps_asg pe_int (pg_name (i := 2) sc__law_number.nd rfl (.inl rfl)))
    (pss_cons (ps_if (pt_cmpR o_lt (pv 1) (pe_callB (c_lenK K rfl) (by rfl) T.m_len b_len (pa_cons (pv 0) pa_nil)) (nomark _))
    (pss_cons (ps_asg (pe_ix (ix_K K rfl) (pv 0) (pv 1) (fun _ _ => rfl)) (pg_name (i := 2) sc__law_number.nd rfl (.inl rfl)))
    pss_nil)
    pss_nil)
    (pss_cons (ps_if (pt_cmpR o_lt (pv 2) pe_int (nomark _))
    (pss_cons (ps_asg (pe_op o_sub (pe_op o_sub pe_int (pe_op o_mul pe_int (pv 2))) pe_int) (pg_name (i := 2) sc__law_number.nd rfl (.inl rfl)))
    pss_nil)
    pss_nil)
    (pss_cons (ps_if (pt_cmpR o_ge (pv 2) (pe_op o_pow pe_int pe_int) (nomark _))
    (pss_cons (ps_ret (pv 2))
    pss_nil)
    pss_nil)
    (pss_cons (ps_asg (pe_op o_mod (pe_callTy c_int (by rfl) T.m_int b_int (pa_cons (pe_op (o_addK K rfl) (pe_op (o_addK K rfl) (pe_op o_mul (pv 2) pe_int) (pe_op o_mul (pv 1) pe_int)) pe_int) pa_nil)) pe_int) (pg_name (i := 3) sc__law_number.nd rfl (.inl rfl)))
    (pss_cons (ps_asg (pe_op o_mod (pe_callTy c_int (by rfl) T.m_int b_int (pa_cons (pe_op (o_addK K rfl) (pe_op (o_addK K rfl) (pe_op o_mul (pv 3) pe_int) (pe_op o_mul (pv 1) pe_int)) pe_int) pa_nil)) pe_int) (pg_name (i := 3) sc__law_number.nd rfl (.inl rfl)))
    (pss_cons (ps_asg (pe_op o_mod (pe_callTy c_int (by rfl) T.m_int b_int (pa_cons (pe_op (o_addK K rfl) (pe_op (o_addK K rfl) (pe_op o_mul (pv 3) pe_int) (pe_op o_mul (pv 1) pe_int)) (pv 2)) pa_nil)) pe_int) (pg_name (i := 4) sc__law_number.nd rfl (.inl rfl)))
    (pss_cons (ps_asg (pe_op o_mod (pe_callTy c_int (by rfl) T.m_int b_int (pa_cons (pe_op (o_addK K rfl) (pe_op o_mul (pv 4) pe_int) pe_int) pa_nil)) pe_int) (pg_name (i := 4) sc__law_number.nd rfl (.inl rfl)))
    (pss_cons (ps_ret (pe_op (o_addK K rfl) (pe_op o_mul (pv 3) pe_int) (pv 4)))
    pss_nil))))))))), fun ss r h => ?_⟩
  try simp only [cxK, cxK2]
  obtain ⟨ns, k, rfl, hk, rfl⟩ := h
  obtain ⟨k, rfl⟩ := Int.eq_ofNat_of_zero_le hk
  rw [Int.toNat_natCast]
  show WP K _ [.bor (ns.map .int), .dat (.int k), .emp, .emp, .emp] _
  walk_at "wp"
  walk_at "if" <;> intro h1 <;> simp only [decide_eq_true_eq, decide_eq_false_iff_not, List.length_map] at h1
  · have ha := at_ints (ns := ns) (k := k) (by omega)
    walk_at "wp"
    walk_at "if" <;> intro h2 <;> simp only [decide_eq_true_eq, decide_eq_false_iff_not] at h2
    all_goals walk_at "wp"
    all_goals walk_at "if" <;> intro h3 <;> simp only [decide_eq_true_eq, decide_eq_false_iff_not, p9] at h3
    all_goals walk_at "wp"
    all_goals apply fn_rt
    all_goals simp only [num, cell, mix1, mix2, h2, if_true, if_false, ge_iff_le]
    all_goals first | (rw [if_pos h3]) | (rw [if_neg h3])
  · walk_at "wp"
    have hg : ns.getD k 0 = 0 := by
      rw [List.getD_eq_getElem?_getD, List.getElem?_eq_none (by omega)]
      rfl
    walk_at "if" <;> intro h2 <;> simp only [decide_eq_true_eq, decide_eq_false_iff_not] at h2
    · exact absurd h2 (by decide)
    walk_at "wp"
    walk_at "if" <;> intro h3 <;> simp only [decide_eq_true_eq, decide_eq_false_iff_not, p9] at h3
    · exact absurd h3 (by decide)
    walk_at "wp"
    apply fn_rt
    simp only [num, cell, mix1, mix2, hg, h2, if_false, ge_iff_le]
    rw [if_neg h3]
theorem ok_check_range (T : Txt K mg) : FnOk P w K mg base (L2.CX P w) 1 T.a_check_range T.fd_check_range ["name", "number", "least", "greatest"] (spX K R_check_range (RX_check_range T.a_OutOfBounds)) := by
  refine fn_X T.F_check_range sc_check_range (by walk_at "len") (by walk_at "len") fun cdv A outer s H E hr => ⟨_, (pss_cons (ps_if (PW.pt (pw_or (pt_cmpR o_lt (pv 1) (pv 2) (nomark _)) (pw_or1 (pt_cmpR o_gt (pv 1) (pv 3) (nomark _)))))
    (pss_cons (ps_raise1 rfl (takes_of rfl rfl rfl rfl) PySem.F.excBase_ValueError T.e_OutOfBounds.x T.m_OutOfBounds T.e_OutOfBounds.k (raises_own T.e_OutOfBounds.e.hs T.e_OutOfBounds.t) rfl (pe_join (.cons (pe_fmt (pv 0)) (.cons pe_str (.cons (pe_fmt (pv 2)) (.cons pe_str (.cons (pe_fmt (pv 3)) .nil)))))))
    pss_nil)
    pss_nil)
    pss_nil), ?_, ?_⟩
  all_goals (try simp only [cxK, cxK2])
  · rintro ss r ⟨name, num, lo, hi, rfl, h1, h2, rfl⟩
    show WP K _ [.dat (.str name), .dat (.int num), .dat (.int lo), .dat (.int hi)] _
    walk_at "wp"
    walk_at "if" <;> intro h3
    · exfalso
      simp only [Bool.or_eq_true, decide_eq_true_eq] at h3
      omega
    walk_at "wp"
    exact rfl
  · rintro ss c ⟨name, num, lo, hi, rfl, rfl, h1, hl, h2, h3⟩
    show WP K _ [.dat (.str name), .dat (.int num), .dat (.int lo), .dat (.int hi)] _
    walk_at "wp"
    walk_at "if" <;> intro h4
    · walk_at "wp"
      apply tw_raiseG
      · apply dg_join
        · exact dj_cons (de_fmtS (by walk_at "ev") (Nat.le_trans hl (by decide))) hl (dj_cons (m := 100) de_str (by decide +kernel) (dj_cons (de_fmtI (by walk_at "ev") h2.1) h2.2 (dj_cons (m := 100) de_str (by decide +kernel) (dj_cons (de_fmtI (by walk_at "ev") h3.1) h3.2 dj_nil))))
        · decide
      · exact rfl
    · exfalso
      simp only [Bool.or_eq_false_iff, decide_eq_false_iff_not] at h4
      omega
theorem ok_wait_budget (T : Txt K mg) : FnOk P w K mg base (L2.CX P w) 2 T.a_wait_budget T.fd_wait_budget ["money", "room", "fee"] (spX K R_wait_budget (RX_wait_budget T.a_OutOfBounds)) := by
  refine fn_X T.F_wait_budget sc_wait_budget (by walk_at "len") (by walk_at "len") fun cdv A outer s H E hr => ⟨_, (pss_cons (ps_expr (pe_callS (ok_check_range T) (hr.mono (by decide)) rfl T.m_check_range T.F_check_range.kp T.b_check_range (fun σ => passAt (takes_of rfl rfl rfl rfl) σ) (pa_cons pe_str (pa_cons (pv 0) (pa_cons pe_int (pa_cons (pe_glob (v := .int 1000000000000000) rfl T.m_GREATEST_AMOUNT ⟨_, rfl⟩) pa_nil))))))
    (pss_cons (ps_expr (pe_callS (ok_check_range T) (hr.mono (by decide)) rfl T.m_check_range T.F_check_range.kp T.b_check_range (fun σ => passAt (takes_of rfl rfl rfl rfl) σ) (pa_cons pe_str (pa_cons (pv 1) (pa_cons pe_int (pa_cons (pe_glob (v := .int 200) rfl T.m_GREATEST_ROOM ⟨_, rfl⟩) pa_nil))))))
    (pss_cons (ps_expr (pe_callS (ok_check_range T) (hr.mono (by decide)) rfl T.m_check_range T.F_check_range.kp T.b_check_range (fun σ => passAt (takes_of rfl rfl rfl rfl) σ) (pa_cons pe_str (pa_cons (pv 2) (pa_cons pe_int (pa_cons (pe_glob (v := .int 1000000000000000) rfl T.m_GREATEST_AMOUNT ⟨_, rfl⟩) pa_nil))))))
    (pss_cons (ps_ret (pe_op o_divW (pv 0) (pe_op o_mul (pv 1) (pv 2))))
    pss_nil)))), ?_, ?_⟩
  all_goals (try simp only [cxK, cxK2])
  · rintro ss r ⟨m, rm, f, rfl, ⟨h1, h2, h3⟩, rfl⟩
    show WP K _ [.dat (.int m), .dat (.int rm), .dat (.int f)] _
    have a1 := h1.1
    have a2 := h1.2
    have a3 := h2.1
    have a4 := h2.2
    have a5 := h3.1
    have a6 := h3.2
    have hm : rm * f ≤ 200 * 1000000000000000 := Int.mul_le_mul a4 a6 (by omega) (by omega)
    have hp : 1 * 1 ≤ rm * f := Int.mul_le_mul a3 a5 (by omega) (by omega)
    have hc : CDivW m (rm * f) := ⟨by omega, log_small (by omega) (by omega)⟩
    walk_at "wp"
    exact rfl
  · rintro ss c ⟨m, rm, f, rfl, rfl, hn⟩
    show WP K _ [.dat (.int m), .dat (.int rm), .dat (.int f)] _
    by_cases h1 : okM m
    · have a1 := h1.1
      have a2 := h1.2
      by_cases h2 : okR rm
      · have a3 := h2.1
        have a4 := h2.2
        have h3 : ¬ okF f := fun z => hn ⟨h1, h2, z⟩
        apply tw_seq
        apply tw_drop
        · walk_at "ev"
        apply tw_seq
        apply tw_drop
        · walk_at "ev"
        apply tw_seq
        apply tw_dropX
        · apply dx_callW
          · walk_at "ev"
          · exact ⟨_, _, _, _, rfl, rfl, by unfold okF at h3; omega, by decide +kernel, f1, f15⟩
        · exact rfl
      · apply tw_seq
        apply tw_drop
        · walk_at "ev"
        apply tw_seq
        apply tw_dropX
        · apply dx_callW
          · walk_at "ev"
          · exact ⟨_, _, _, _, rfl, rfl, by unfold okR at h2; omega, by decide +kernel, f1, f200⟩
        · exact rfl
    · apply tw_seq
      apply tw_dropX
      · apply dx_callW
        · walk_at "ev"
        · exact ⟨_, _, _, _, rfl, rfl, by unfold okM at h1; omega, by decide +kernel, f0, f15⟩
      · exact rfl
theorem ok_wait_bound (T : Txt K mg) : FnOk P w K mg base (L2.CX P w) 3 T.a_wait_bound T.fd_wait_bound ["money", "room", "fee"] (spX K R_wait_bound (RX_wait_bound T.a_OutOfBounds)) := by
  refine fn_X T.F_wait_bound sc_wait_bound (by walk_at "len") (by walk_at "len") fun cdv A outer s H E hr => ⟨_, (pss_cons (ps_ret (pe_op (o_addK K rfl) (pe_callS (ok_wait_budget T) (hr.mono (by decide)) rfl T.m_wait_budget T.F_wait_budget.kp T.b_wait_budget (fun σ => passAt (takes_of rfl rfl rfl rfl) σ) (pa_cons (pv 0) (pa_cons (pv 1) (pa_cons (pv 2) pa_nil)))) pe_int))
    pss_nil), ?_, ?_⟩
  all_goals (try simp only [cxK, cxK2])
  · rintro ss r ⟨m, rm, f, rfl, h1, rfl⟩
    show WP K _ [.dat (.int m), .dat (.int rm), .dat (.int f)] _
    walk_at "wp"
    exact rfl
  · rintro ss c ⟨m, rm, f, rfl, rfl, hn⟩
    show WP K _ [.dat (.int m), .dat (.int rm), .dat (.int f)] _
    apply tw_seq
    apply tw_retX
    · apply dx_op1
      apply dx_callW
      · walk_at "ev"
      · exact ⟨_, _, _, rfl, rfl, hn⟩
    · exact rfl
theorem ok__law_refused (T : Txt K mg) : FnOk P w K mg base CX0 4 T.a__law_refused T.fd__law_refused ["money", "room", "fee", "which"] (spR K R__law_refused) := by
  refine fn_R T.F__law_refused sc__law_refused (by walk_at "len") fun cdv A outer s H E hr => ⟨_, (pss_cons (ps_tryA (i := 4) K rfl rfl rfl sc__law_refused.nd rfl rfl ⟨rfl, by decide, .inl T.m_TurnpikeError⟩ (fun W pn xe tk po => (pss_cons (ps_if (pt_cmpR (o_eqK K rfl (hu64 hr)) (pv 3) pe_int (nomark _))
    (pss_cons (ps_expr (pe_callS (ok_wait_budget T) (hr.mono (by decide)) rfl T.m_wait_budget T.F_wait_budget.kp T.b_wait_budget (fun σ => passAt tk σ) (pa_cons (pv 0) (pa_cons (pv 1) (pa_cons (pv 2) pa_nil)))))
    pss_nil)
    (pss_cons (ps_expr (pe_callS (ok_wait_bound T) (hr.mono (by decide)) rfl T.m_wait_bound T.F_wait_bound.kp T.b_wait_bound (fun σ => passAt tk σ) (pa_cons (pv 0) (pa_cons (pv 1) (pa_cons (pv 2) pa_nil)))))
    pss_nil))
    pss_nil)) (fun a oe cls d pn hz hf => (pss_cons (ps_ret (pe_and (pe_callB (call_isErr K rfl hz hf) (by rfl) T.m_isinstance b_isinstance (pa_cons (pv 4) (pa_cons (pe_glob (v := .ref T.a_OutOfBounds) rfl T.m_OutOfBounds rfl) pa_nil))) (pe_one (pe_not (pe_callB (call_isErr K rfl hz hf) (by rfl) T.m_isinstance b_isinstance (pa_cons (pv 4) (pa_cons (pe_glob (v := .ref T.a_TooMuchMoney) rfl T.m_TooMuchMoney rfl) pa_nil)))))))
    pss_nil)))
    (pss_cons (ps_ret pe_bl)
    pss_nil)), fun ss r h => ?_⟩
  try simp only [cxK, cxK2]
  obtain ⟨m, rm, f, w, rfl, hn, rfl⟩ := h
  show WP K _ [.dat (.int m), .dat (.int rm), .dat (.int f), .dat (.int w), .emp] _
  have hO : ExcC K T.a_OutOfBounds := T.e_OutOfBounds.e
  have k1 : PySem.W.kitOne K (.ref T.a_OutOfBounds) (.ref T.a_OutOfBounds) = some true := T.e_OutOfBounds.kit T.e_OutOfBounds.s
  have k2 : PySem.W.kitOne K (.ref T.a_OutOfBounds) (.ref T.a_TooMuchMoney) = some false := T.e_TooMuchMoney.kit T.u_OutOfBounds_TooMuchMoney
  have hx : PySem.W.exmOne K (.ref T.a_OutOfBounds) (.ref T.a_TurnpikeError) = some true := T.e_TurnpikeError.exm T.u_OutOfBounds_TurnpikeError
  apply tw_seqTA
  apply tw_tryA
  intro W
  apply tw_seqI
  walk_at "if" <;> intro h1
  all_goals apply tw_seq
  all_goals apply tw_dropX
  any_goals (apply dx_callW; (walk_at "ev"); exact ⟨_, _, _, rfl, rfl, hn⟩)
  all_goals repeat (with_reducible apply then_ex)
  all_goals refine tryA_ex hx fun a => ?_
  all_goals dsimp only [List.set]
  all_goals walk_at "wp"
  all_goals exact rfl
theorem ok_law (T : Txt K mg) : FnOk P w K mg base CX0 5 T.a_law T.fd_law ["script"] (spR K R_law) := by
  refine fn_R T.F_law sc_law (by walk_at "len") fun cdv A outer s H E hr => ⟨_, (pss_cons (ps_for PassesOwn.never rfl (pi_range1 (by rfl) T.m_range (pa_cons pe_int pa_nil)) (pg_name (i := 1) sc_law.nd rfl (.inl rfl))
    (pss_cons (ps_asg (pe_call (ok__law_pick T) (hr.mono (by decide)) rfl T.m__law_pick T.F__law_pick.kp T.b__law_pick .nil pass0 (pa_cons (pe_call (ok__law_number T) (hr.mono (by decide)) rfl T.m__law_number T.F__law_number.kp T.b__law_number .nil pass0 (pa_cons (pv 0) (pa_cons (pe_op o_mul pe_int (pv 1)) pa_nil))) (pa_cons pe_int (pa_cons (pe_op o_pow pe_int pe_int) pa_nil)))) (pg_name (i := 2) sc_law.nd rfl (.inl rfl)))
    (pss_cons (ps_asg (pe_call (ok__law_pick T) (hr.mono (by decide)) rfl T.m__law_pick T.F__law_pick.kp T.b__law_pick .nil pass0 (pa_cons (pe_call (ok__law_number T) (hr.mono (by decide)) rfl T.m__law_number T.F__law_number.kp T.b__law_number .nil pass0 (pa_cons (pv 0) (pa_cons (pe_op (o_addK K rfl) (pe_op o_mul pe_int (pv 1)) pe_int) pa_nil))) (pa_cons pe_int (pa_cons pe_int pa_nil)))) (pg_name (i := 3) sc_law.nd rfl (.inl rfl)))
    (pss_cons (ps_asg (pe_call (ok__law_pick T) (hr.mono (by decide)) rfl T.m__law_pick T.F__law_pick.kp T.b__law_pick .nil pass0 (pa_cons (pe_call (ok__law_number T) (hr.mono (by decide)) rfl T.m__law_number T.F__law_number.kp T.b__law_number .nil pass0 (pa_cons (pv 0) (pa_cons (pe_op (o_addK K rfl) (pe_op o_mul pe_int (pv 1)) pe_int) pa_nil))) (pa_cons pe_int (pa_cons (pe_op o_pow pe_int pe_int) pa_nil)))) (pg_name (i := 4) sc_law.nd rfl (.inl rfl)))
    (pss_cons (ps_asg (pe_and (pe_chain o_le o_le pe_int (pv 2) (pe_op o_pow pe_int pe_int)) (pe_and (pe_chain o_le o_le pe_int (pv 3) pe_int) (pe_one (pe_chain o_le o_le pe_int (pv 4) (pe_op o_pow pe_int pe_int))))) (pg_name (i := 5) sc_law.nd rfl (.inl rfl)))
    (pss_cons (ps_if (pt_not (pt_val (pv 5)))
    (pss_cons (ps_if (PW.pt (pw_or (pt_not (pt_val (pe_call (ok__law_refused T) (hr.mono (by decide)) rfl T.m__law_refused T.F__law_refused.kp T.b__law_refused .nil pass0 (pa_cons (pv 2) (pa_cons (pv 3) (pa_cons (pv 4) (pa_cons pe_int pa_nil))))))) (pw_or1 (pt_not (pt_val (pe_call (ok__law_refused T) (hr.mono (by decide)) rfl T.m__law_refused T.F__law_refused.kp T.b__law_refused .nil pass0 (pa_cons (pv 2) (pa_cons (pv 3) (pa_cons (pv 4) (pa_cons pe_int pa_nil))))))))))
    (pss_cons (ps_ret pe_bl)
    pss_nil)
    pss_nil)
    pss_nil)
    (pss_cons (ps_asg (pe_call (ok_wait_budget T) (hr.mono (by decide)) rfl T.m_wait_budget T.F_wait_budget.kp T.b_wait_budget .nil passL (pa_cons (pv 2) (pa_cons (pv 3) (pa_cons (pv 4) pa_nil)))) (pg_name (i := 6) sc_law.nd rfl (.inl rfl)))
    (pss_cons (ps_asg (pe_call (ok_wait_bound T) (hr.mono (by decide)) rfl T.m_wait_bound T.F_wait_bound.kp T.b_wait_bound .nil passL (pa_cons (pv 2) (pa_cons (pv 3) (pa_cons (pv 4) pa_nil)))) (pg_name (i := 7) sc_law.nd rfl (.inl rfl)))
    (pss_cons (ps_if (PW.pt (pw_or (pt_not (pt_val (pe_callB (c_isiK K rfl) (by rfl) T.m_isinstance b_isinstance (pa_cons (pv 6) (pa_cons (pe_bltn (v := .ty "int") (by rfl) T.m_int b_int rfl) pa_nil))))) (pw_or (pt_not (pt_val (pe_callB (c_isiK K rfl) (by rfl) T.m_isinstance b_isinstance (pa_cons (pv 7) (pa_cons (pe_bltn (v := .ty "int") (by rfl) T.m_int b_int rfl) pa_nil))))) (pw_or1 (pt_val (pe_callB (c_isiK K rfl) (by rfl) T.m_isinstance b_isinstance (pa_cons (pv 6) (pa_cons (pe_bltn (v := .ty "bool") (by rfl) T.m_bool b_bool rfl) pa_nil))))))))
    (pss_cons (ps_ret pe_bl)
    pss_nil)
    pss_nil)
    (pss_cons (ps_if (PW.pt (pw_or (pt_cmpR o_lt (pv 6) pe_int (nomark _)) (pw_or (pt_cmpR o_gt (pe_op o_mul (pe_op o_mul (pv 6) (pv 3)) (pv 4)) (pv 2) (nomark _)) (pw_or1 (pt_cmpR o_le (pe_op o_mul (pe_op o_mul (pe_op (o_addK K rfl) (pv 6) pe_int) (pv 3)) (pv 4)) (pv 2) (nomark _))))))
    (pss_cons (ps_ret pe_bl)
    pss_nil)
    pss_nil)
    (pss_cons (ps_if (PW.pt (pw_or (pt_val (pe_callB (c_isiK K rfl) (by rfl) T.m_isinstance b_isinstance (pa_cons (pv 7) (pa_cons (pe_bltn (v := .ty "bool") (by rfl) T.m_bool b_bool rfl) pa_nil)))) (pw_or1 (pt_cmpR (o_neK K rfl (hu64 hr)) (pv 7) (pe_op (o_addK K rfl) (pv 6) pe_int) (nomark _)))))
    (pss_cons (ps_ret pe_bl)
    pss_nil)
    pss_nil)
    pss_nil))))))
    pss_nil))))))
    (pss_cons (ps_ret pe_bl)
    pss_nil)), fun ss r h => ?_⟩
  try simp only [cxK, cxK2]
  obtain ⟨ns, rfl, hl, rfl⟩ := h
  show WP K _ [.bor (ns.map .int), .emp, .emp, .emp, .emp, .emp, .emp, .emp] _
  have hp15 : (0 : Int) < 10 ^ Int.toNat 15 := by decide
  have hq15 : (1 : Int) < 10 ^ Int.toNat 15 := by decide
  walk_at "wp"
  refine tw_forR (n := 10) (fun _ δ' => δ' = [.bor (ns.map .int), .emp, .emp, .emp, .emp, .emp, .emp, .emp]) (by walk_at "ev") (by decide) ⟨_, rfl, by walk_at "less"⟩ ?_ ?_ (by decide)
  · rintro k δ' hk rfl
    dsimp only [List.set]
    apply tw_seq
    apply tw_asg (by walk_at "ev")
    dsimp only [List.set]
    generalize pick (num ns (3 * (k : Int)).toNat) 0 (10 ^ Int.toNat 15) = m
    apply then_nx
    apply tw_seq
    apply tw_asg (by walk_at "ev")
    dsimp only [List.set]
    generalize pick (num ns (3 * (k : Int) + 1).toNat) 1 200 = rm
    apply then_nx
    apply tw_seq
    apply tw_asg (by walk_at "ev")
    dsimp only [List.set]
    generalize pick (num ns (3 * (k : Int) + 2).toNat) 1 (10 ^ Int.toNat 15) = f
    walk_at "wp"
    walk_at "if" <;> intro h1 <;> simp only [Bool.not_eq_true', Bool.not_eq_false', Bool.and_eq_true, Bool.and_eq_false_iff, decide_eq_true_eq, decide_eq_false_iff_not, p15] at h1
    · have hn : ¬ gd m rm f := fun z => by
        obtain ⟨⟨z1, z2⟩, ⟨z3, z4⟩, z5, z6⟩ := z
        omega
      walk_at "wp"
      walk_at "ifF"
      walk_at "wp"
      exact ⟨_, rfl, by walk_at "less"⟩
    · have hg : gd m rm f := by
        obtain ⟨⟨z1, z2⟩, ⟨z3, z4⟩, z5, z6⟩ := h1
        exact ⟨⟨z1, z2⟩, ⟨z3, z4⟩, z5, z6⟩
      obtain ⟨⟨z1, z2⟩, ⟨z3, z4⟩, z5, z6⟩ := h1
      have hp : 1 * 1 ≤ rm * f := Int.mul_le_mul z3 z5 (by omega) (by omega)
      have d1 := Int.emod_add_mul_ediv m (rm * f)
      have d2 := Int.emod_nonneg m (show rm * f ≠ 0 by omega)
      have d3 := Int.emod_lt_of_pos m (show 0 < rm * f by omega)
      have d4 := Int.ediv_nonneg z1 (show 0 ≤ rm * f by omega)
      walk_at "wp"
      walk_at "ifF"
      walk_at "wp"
      walk_at "if" <;> intro h2
      · exfalso
        simp only [Bool.or_eq_true, decide_eq_true_eq] at h2
        rw [Int.mul_assoc, Int.mul_assoc, Int.add_mul, Int.one_mul, Int.mul_comm (m / (rm * f))] at h2
        generalize rm * f * (m / (rm * f)) = x at h2 d1
        generalize rm * f = q at *
        omega
      walk_at "wp"
      walk_at "if" <;> intro h3
      · exfalso
        simp at h3
      walk_at "wp"
      exact ⟨_, rfl, by walk_at "less"⟩
  · rintro δ' rfl
    walk_at "wp"
    rfl
end
theorem all_mk {l : PySem.W.OpenLaw} {w : World} {K : PySem.W.Frag} {h : Heap} {mg : Str → Option Value} {fa f__law_pick f__law_number f_check_range f_wait_budget f_wait_bound f__law_refused f_law f_OutOfBounds f_TooMuchMoney f_TurnpikeError : Addr} (X : K.In h) (G : h.Ns mainGlobals mg) (hfa : mg "law" = some (.ref fa))
    {od__law_pick an__law_pick : Option Addr} {sl__law_pick : Array (Option Value)} {oc__law_pick dc__law_pick pm__law_pick cd__law_pick ct__law_pick : Value}
    {kV__law_pick : Value}
    {od__law_number an__law_number : Option Addr} {sl__law_number : Array (Option Value)} {oc__law_number dc__law_number pm__law_number cd__law_number ct__law_number : Value}
    {kV__law_number : Value}
    {od_check_range an_check_range : Option Addr} {sl_check_range : Array (Option Value)} {oc_check_range dc_check_range pm_check_range cd_check_range ct_check_range : Value}
    {kV_check_range : Value}
    {od_wait_budget an_wait_budget : Option Addr} {sl_wait_budget : Array (Option Value)} {oc_wait_budget dc_wait_budget pm_wait_budget cd_wait_budget ct_wait_budget : Value}
    {kV_wait_budget : Value}
    {od_wait_bound an_wait_bound : Option Addr} {sl_wait_bound : Array (Option Value)} {oc_wait_bound dc_wait_bound pm_wait_bound cd_wait_bound ct_wait_bound : Value}
    {kV_wait_bound : Value}
    {od__law_refused an__law_refused : Option Addr} {sl__law_refused : Array (Option Value)} {oc__law_refused dc__law_refused pm__law_refused cd__law_refused ct__law_refused : Value}
    {kV__law_refused : Value}
    {od_law an_law : Option Addr} {sl_law : Array (Option Value)} {oc_law dc_law pm_law cd_law ct_law : Value}
    {kV_law : Value}
    {t_GREATEST_AMOUNT : Tok}
    {t_GREATEST_ROOM : Tok}
    (g__law_pick : PySem.W.nsIn K mainGlobals "_law_pick" = some (some (.ref f__law_pick)))
    (l__law_pick : K.lookup f__law_pick = some ⟨oc__law_pick, od__law_pick, .func (PySem.W.fnOf "_law_pick" "_law_pick" (defArgs s__law_pick) (defBody s__law_pick) (defScope s__law_pick) .none kV__law_pick dc__law_pick pm__law_pick an__law_pick cd__law_pick ct__law_pick), sl__law_pick⟩)
    (c__law_pick : PySem.W.codeIn K cd__law_pick "_law_pick" = true) (k__law_pick : PySem.W.keepIn K (.ref f__law_pick) = true)
    (g__law_number : PySem.W.nsIn K mainGlobals "_law_number" = some (some (.ref f__law_number)))
    (l__law_number : K.lookup f__law_number = some ⟨oc__law_number, od__law_number, .func (PySem.W.fnOf "_law_number" "_law_number" (defArgs s__law_number) (defBody s__law_number) (defScope s__law_number) .none kV__law_number dc__law_number pm__law_number an__law_number cd__law_number ct__law_number), sl__law_number⟩)
    (c__law_number : PySem.W.codeIn K cd__law_number "_law_number" = true) (k__law_number : PySem.W.keepIn K (.ref f__law_number) = true)
    (g_check_range : PySem.W.nsIn K mainGlobals "check_range" = some (some (.ref f_check_range)))
    (l_check_range : K.lookup f_check_range = some ⟨oc_check_range, od_check_range, .func (PySem.W.fnOf "check_range" "check_range" (defArgs s_check_range) (defBody s_check_range) (defScope s_check_range) .none kV_check_range dc_check_range pm_check_range an_check_range cd_check_range ct_check_range), sl_check_range⟩)
    (c_check_range : PySem.W.codeIn K cd_check_range "check_range" = true) (k_check_range : PySem.W.keepIn K (.ref f_check_range) = true)
    (g_wait_budget : PySem.W.nsIn K mainGlobals "wait_budget" = some (some (.ref f_wait_budget)))
    (l_wait_budget : K.lookup f_wait_budget = some ⟨oc_wait_budget, od_wait_budget, .func (PySem.W.fnOf "wait_budget" "wait_budget" (defArgs s_wait_budget) (defBody s_wait_budget) (defScope s_wait_budget) .none kV_wait_budget dc_wait_budget pm_wait_budget an_wait_budget cd_wait_budget ct_wait_budget), sl_wait_budget⟩)
    (c_wait_budget : PySem.W.codeIn K cd_wait_budget "wait_budget" = true) (k_wait_budget : PySem.W.keepIn K (.ref f_wait_budget) = true)
    (g_wait_bound : PySem.W.nsIn K mainGlobals "wait_bound" = some (some (.ref f_wait_bound)))
    (l_wait_bound : K.lookup f_wait_bound = some ⟨oc_wait_bound, od_wait_bound, .func (PySem.W.fnOf "wait_bound" "wait_bound" (defArgs s_wait_bound) (defBody s_wait_bound) (defScope s_wait_bound) .none kV_wait_bound dc_wait_bound pm_wait_bound an_wait_bound cd_wait_bound ct_wait_bound), sl_wait_bound⟩)
    (c_wait_bound : PySem.W.codeIn K cd_wait_bound "wait_bound" = true) (k_wait_bound : PySem.W.keepIn K (.ref f_wait_bound) = true)
    (g__law_refused : PySem.W.nsIn K mainGlobals "_law_refused" = some (some (.ref f__law_refused)))
    (l__law_refused : K.lookup f__law_refused = some ⟨oc__law_refused, od__law_refused, .func (PySem.W.fnOf "_law_refused" "_law_refused" (defArgs s__law_refused) (defBody s__law_refused) (defScope s__law_refused) .none kV__law_refused dc__law_refused pm__law_refused an__law_refused cd__law_refused ct__law_refused), sl__law_refused⟩)
    (c__law_refused : PySem.W.codeIn K cd__law_refused "_law_refused" = true) (k__law_refused : PySem.W.keepIn K (.ref f__law_refused) = true)
    (g_law : PySem.W.nsIn K mainGlobals "law" = some (some (.ref f_law)))
    (l_law : K.lookup f_law = some ⟨oc_law, od_law, .func (PySem.W.fnOf "law" "law" (defArgs s_law) (defBody s_law) (defScope s_law) .none kV_law dc_law pm_law an_law cd_law ct_law), sl_law⟩)
    (c_law : PySem.W.codeIn K cd_law "law" = true) (k_law : PySem.W.keepIn K (.ref f_law) = true)
    (v_GREATEST_AMOUNT : PySem.W.nsIn K mainGlobals "GREATEST_AMOUNT" = some (some (.int 1000000000000000 t_GREATEST_AMOUNT)))
    (v_GREATEST_ROOM : PySem.W.nsIn K mainGlobals "GREATEST_ROOM" = some (some (.int 200 t_GREATEST_ROOM)))
    (z_bool : PySem.W.nsIn K mainGlobals "bool" = some none)
    (z_int : PySem.W.nsIn K mainGlobals "int" = some none)
    (z_isinstance : PySem.W.nsIn K mainGlobals "isinstance" = some none)
    (z_len : PySem.W.nsIn K mainGlobals "len" = some none)
    (z_range : PySem.W.nsIn K mainGlobals "range" = some none)
    (xn : PySem.W.specialIn K (.builtin "object.__class__") "__get__" = some (some (.builtin "getset_descriptor.__get__"))) (xtk : PySem.W.takesIn K (.builtin "object.__class__") = some true)
    (g_OutOfBounds : PySem.W.nsIn K mainGlobals "OutOfBounds" = some (some (.ref f_OutOfBounds)))
    (xx_OutOfBounds : PySem.W.excIn K f_OutOfBounds [.type "ValueError", .type "Exception", .type "BaseException", .type "object"] "ValueError.__new__" = true)
    (xk_OutOfBounds : PySem.W.keepIn K (.ref f_OutOfBounds) = true)
    (xg_OutOfBounds : PySem.W.findIn K (.ref f_OutOfBounds) "__getattribute__" = some (some (.builtin "BaseException.__getattribute__")))
    (xh_OutOfBounds : PySem.W.findIn K (.ref f_OutOfBounds) "__getattr__" = some none)
    (xs_OutOfBounds : PySem.W.subIn K (.ref f_OutOfBounds) (.type "BaseException") = some true)
    (xd_OutOfBounds : PySem.W.hasDictIn K f_OutOfBounds = true)
    (xa_OutOfBounds : PySem.W.findIn K (.ref f_OutOfBounds) "__class__" = some (some (.builtin "object.__class__")))
    (xm_OutOfBounds : PySem.W.mroIn K f_OutOfBounds (.type "object") = some true)
    (xt_OutOfBounds : PySem.W.typeIn K (.ref f_OutOfBounds) = some (.type "type"))
    (xi_OutOfBounds : PySem.W.isClsIn K f_OutOfBounds = true)
    (xu_OutOfBounds : PySem.W.subIn K (.ref f_OutOfBounds) (.ref f_OutOfBounds) = some true)
    (g_TooMuchMoney : PySem.W.nsIn K mainGlobals "TooMuchMoney" = some (some (.ref f_TooMuchMoney)))
    (xx_TooMuchMoney : PySem.W.excIn K f_TooMuchMoney [.type "ValueError", .type "Exception", .type "BaseException", .type "object"] "ValueError.__new__" = true)
    (xk_TooMuchMoney : PySem.W.keepIn K (.ref f_TooMuchMoney) = true)
    (xg_TooMuchMoney : PySem.W.findIn K (.ref f_TooMuchMoney) "__getattribute__" = some (some (.builtin "BaseException.__getattribute__")))
    (xh_TooMuchMoney : PySem.W.findIn K (.ref f_TooMuchMoney) "__getattr__" = some none)
    (xs_TooMuchMoney : PySem.W.subIn K (.ref f_TooMuchMoney) (.type "BaseException") = some true)
    (xd_TooMuchMoney : PySem.W.hasDictIn K f_TooMuchMoney = true)
    (xa_TooMuchMoney : PySem.W.findIn K (.ref f_TooMuchMoney) "__class__" = some (some (.builtin "object.__class__")))
    (xm_TooMuchMoney : PySem.W.mroIn K f_TooMuchMoney (.type "object") = some true)
    (xt_TooMuchMoney : PySem.W.typeIn K (.ref f_TooMuchMoney) = some (.type "type"))
    (xi_TooMuchMoney : PySem.W.isClsIn K f_TooMuchMoney = true)
    (xu_TooMuchMoney : PySem.W.subIn K (.ref f_TooMuchMoney) (.ref f_TooMuchMoney) = some true)
    (g_TurnpikeError : PySem.W.nsIn K mainGlobals "TurnpikeError" = some (some (.ref f_TurnpikeError)))
    (xx_TurnpikeError : PySem.W.excIn K f_TurnpikeError [.type "ValueError", .type "Exception", .type "BaseException", .type "object"] "ValueError.__new__" = true)
    (xk_TurnpikeError : PySem.W.keepIn K (.ref f_TurnpikeError) = true)
    (xg_TurnpikeError : PySem.W.findIn K (.ref f_TurnpikeError) "__getattribute__" = some (some (.builtin "BaseException.__getattribute__")))
    (xh_TurnpikeError : PySem.W.findIn K (.ref f_TurnpikeError) "__getattr__" = some none)
    (xs_TurnpikeError : PySem.W.subIn K (.ref f_TurnpikeError) (.type "BaseException") = some true)
    (xd_TurnpikeError : PySem.W.hasDictIn K f_TurnpikeError = true)
    (xa_TurnpikeError : PySem.W.findIn K (.ref f_TurnpikeError) "__class__" = some (some (.builtin "object.__class__")))
    (xm_TurnpikeError : PySem.W.mroIn K f_TurnpikeError (.type "object") = some true)
    (xt_TurnpikeError : PySem.W.typeIn K (.ref f_TurnpikeError) = some (.type "type"))
    (xi_TurnpikeError : PySem.W.isClsIn K f_TurnpikeError = true)
    (xu_TurnpikeError : PySem.W.subIn K (.ref f_TurnpikeError) (.ref f_TurnpikeError) = some true)
    (xp_OutOfBounds_TooMuchMoney : PySem.W.subIn K (.ref f_OutOfBounds) (.ref f_TooMuchMoney) = some false)
    (xp_OutOfBounds_TurnpikeError : PySem.W.subIn K (.ref f_OutOfBounds) (.ref f_TurnpikeError) = some true)
    (xp_TooMuchMoney_OutOfBounds : PySem.W.subIn K (.ref f_TooMuchMoney) (.ref f_OutOfBounds) = some false)
    (xp_TooMuchMoney_TurnpikeError : PySem.W.subIn K (.ref f_TooMuchMoney) (.ref f_TurnpikeError) = some true)
    (xp_TurnpikeError_OutOfBounds : PySem.W.subIn K (.ref f_TurnpikeError) (.ref f_OutOfBounds) = some false)
    (xp_TurnpikeError_TooMuchMoney : PySem.W.subIn K (.ref f_TurnpikeError) (.ref f_TooMuchMoney) = some false)
    : ∃ fd : FuncData, (∀ (s : Shared) (v : Value), BindsTo s fd ⟨[v], []⟩ [("script", v)]) ∧ ∀ base : Heap, K.In base → base.Ns mainGlobals mg → FnOk l.prog w K mg base CX0 5 fa fd ["script"] (spR K R_law) := by
  have e := hfa.symm.trans (PySem.W.mg_of X G g_law)
  cases e
  have F__law_pick := fun_mk (st := s__law_pick) l__law_pick c__law_pick k__law_pick
  have b__law_pick := F__law_pick.binds (ps := ["number", "least", "most"]) fun _ _ _ _ _ _ us hl => match us, hl with | [_, _, _], _ => rfl
  have F__law_number := fun_mk (st := s__law_number) l__law_number c__law_number k__law_number
  have b__law_number := F__law_number.binds (ps := ["script", "k"]) fun _ _ _ _ _ _ us hl => match us, hl with | [_, _], _ => rfl
  have F_check_range := fun_mk (st := s_check_range) l_check_range c_check_range k_check_range
  have b_check_range := F_check_range.binds (ps := ["name", "number", "least", "greatest"]) fun _ _ _ _ _ _ us hl => match us, hl with | [_, _, _, _], _ => rfl
  have F_wait_budget := fun_mk (st := s_wait_budget) l_wait_budget c_wait_budget k_wait_budget
  have b_wait_budget := F_wait_budget.binds (ps := ["money", "room", "fee"]) fun _ _ _ _ _ _ us hl => match us, hl with | [_, _, _], _ => rfl
  have F_wait_bound := fun_mk (st := s_wait_bound) l_wait_bound c_wait_bound k_wait_bound
  have b_wait_bound := F_wait_bound.binds (ps := ["money", "room", "fee"]) fun _ _ _ _ _ _ us hl => match us, hl with | [_, _, _], _ => rfl
  have F__law_refused := fun_mk (st := s__law_refused) l__law_refused c__law_refused k__law_refused
  have b__law_refused := F__law_refused.binds (ps := ["money", "room", "fee", "which"]) fun _ _ _ _ _ _ us hl => match us, hl with | [_, _, _, _], _ => rfl
  have F_law := fun_mk (st := s_law) l_law c_law k_law
  have b_law := F_law.binds (ps := ["script"]) fun _ _ _ _ _ _ us hl => match us, hl with | [_], _ => rfl
  let T : Txt K mg := {
    a__law_pick := _, fd__law_pick := _, F__law_pick := F__law_pick, b__law_pick := b__law_pick,
    m__law_pick := PySem.W.mg_of X G g__law_pick,
    a__law_number := _, fd__law_number := _, F__law_number := F__law_number, b__law_number := b__law_number,
    m__law_number := PySem.W.mg_of X G g__law_number,
    a_check_range := _, fd_check_range := _, F_check_range := F_check_range, b_check_range := b_check_range,
    m_check_range := PySem.W.mg_of X G g_check_range,
    a_wait_budget := _, fd_wait_budget := _, F_wait_budget := F_wait_budget, b_wait_budget := b_wait_budget,
    m_wait_budget := PySem.W.mg_of X G g_wait_budget,
    a_wait_bound := _, fd_wait_bound := _, F_wait_bound := F_wait_bound, b_wait_bound := b_wait_bound,
    m_wait_bound := PySem.W.mg_of X G g_wait_bound,
    a__law_refused := _, fd__law_refused := _, F__law_refused := F__law_refused, b__law_refused := b__law_refused,
    m__law_refused := PySem.W.mg_of X G g__law_refused,
    a_law := _, fd_law := _, F_law := F_law, b_law := b_law,
    m_law := PySem.W.mg_of X G g_law,
    t_GREATEST_AMOUNT := _, m_GREATEST_AMOUNT := PySem.W.mg_of X G v_GREATEST_AMOUNT,
    t_GREATEST_ROOM := _, m_GREATEST_ROOM := PySem.W.mg_of X G v_GREATEST_ROOM,
    m_bool := PySem.W.mg_none_of X G z_bool,
    m_int := PySem.W.mg_none_of X G z_int,
    m_isinstance := PySem.W.mg_none_of X G z_isinstance,
    m_len := PySem.W.mg_none_of X G z_len,
    m_range := PySem.W.mg_none_of X G z_range,
    a_OutOfBounds := _, m_OutOfBounds := PySem.W.mg_of X G g_OutOfBounds, e_OutOfBounds := ⟨xx_OutOfBounds, xk_OutOfBounds, ⟨xg_OutOfBounds, xh_OutOfBounds, xs_OutOfBounds, xd_OutOfBounds, xa_OutOfBounds, xn, xtk, xm_OutOfBounds⟩, xt_OutOfBounds, xi_OutOfBounds, xu_OutOfBounds⟩,
    a_TooMuchMoney := _, m_TooMuchMoney := PySem.W.mg_of X G g_TooMuchMoney, e_TooMuchMoney := ⟨xx_TooMuchMoney, xk_TooMuchMoney, ⟨xg_TooMuchMoney, xh_TooMuchMoney, xs_TooMuchMoney, xd_TooMuchMoney, xa_TooMuchMoney, xn, xtk, xm_TooMuchMoney⟩, xt_TooMuchMoney, xi_TooMuchMoney, xu_TooMuchMoney⟩,
    a_TurnpikeError := _, m_TurnpikeError := PySem.W.mg_of X G g_TurnpikeError, e_TurnpikeError := ⟨xx_TurnpikeError, xk_TurnpikeError, ⟨xg_TurnpikeError, xh_TurnpikeError, xs_TurnpikeError, xd_TurnpikeError, xa_TurnpikeError, xn, xtk, xm_TurnpikeError⟩, xt_TurnpikeError, xi_TurnpikeError, xu_TurnpikeError⟩,
    u_OutOfBounds_TooMuchMoney := xp_OutOfBounds_TooMuchMoney,
    u_OutOfBounds_TurnpikeError := xp_OutOfBounds_TurnpikeError,
    u_TooMuchMoney_OutOfBounds := xp_TooMuchMoney_OutOfBounds,
    u_TooMuchMoney_TurnpikeError := xp_TooMuchMoney_TurnpikeError,
    u_TurnpikeError_OutOfBounds := xp_TurnpikeError_OutOfBounds,
    u_TurnpikeError_TooMuchMoney := xp_TurnpikeError_TooMuchMoney,
  }
  exact ⟨PySem.W.fnOf "law" "law" (defArgs s_law) (defBody s_law) (defScope s_law) .none kV_law dc_law pm_law an_law cd_law ct_law, fun s v => .of_eq rfl, fun base _ _ => ok_law T⟩
theorem sp_of {K : PySem.W.Frag} {H : Hp} {a : Addr} {ns : List Int} (hl : ns.length ≤ 63) (hS : SqL K H a (ns.map V.int)) : spR K R_law [.ref a] H (fun v _ => v = .bl true) (fun _ _ _ => False) :=
  ⟨[.bor (ns.map .int)], .dat (.bool true), ⟨ns, rfl, hl, rfl⟩, .cons ⟨a, _, rfl, hS, TpA.ints ns⟩ .nil, fun v J _ hv => Tp.bl_of hv⟩
theorem walk {l : PySem.W.OpenLaw} {q : Program} {loose : List Str} {XP : (Str → Option Value) → Heap → Prop} {YP : World → Heap → Prop} {d : DefRec} {K : Params → PySem.W.Frag} (hn : l.most = some 63) (hdf : d.params.defaults = [])
    (hY : ∀ (w : World) (h : Heap), YP w h → (K w.params).In h)
    (F : ∀ (w : World) (mg : Str → Option Value) (fa : Addr) (h : Heap), (K w.params).In h → h.Ns mainGlobals mg → mg d.name = some (.ref fa) →
      ∃ fd : FuncData, (∀ (s : Shared) (u : Value), BindsTo s fd ⟨[u], []⟩ [("script", u)]) ∧ ∀ base : Heap, (K w.params).In base → base.Ns mainGlobals mg → FnOk l.prog w (K w.params) mg base CX0 5 fa fd ["script"] (spR (K w.params) R_law)) :
    PySem.W.WalkO q loose XP YP l.row.toRowW d [] (fun f vs => PySem.call f vs) :=
  L2.walk_of (n := 63) (k := 5) (x := "script") (CX := fun _ => CX0) (sp := fun w => spR (K w.params) R_law) hn (by decide) hdf ⟨rfl, by decide, by decide⟩ hY F (fun _ _ _ _ hl _ hS => sp_of hl hS) fun _ _ _ _ _ z => z
end Tw
open PySem PySem.W PyProof.Rows
set_option maxRecDepth 100000 in
set_option maxHeartbeats 0 in
theorem PySem.Challenge.cw_turnpike_k14_waiting_bounds_holds : PySem.Challenge.rw_turnpike_k14_waiting_bounds.Holds := by
  w_on; o_law; k_head; (case hw => w_witness2)
  k_fill
  refine Tw.walk (l := PySem.Challenge.rw_turnpike_k14_waiting_bounds) rfl rfl (fun w h Y => PySem.W.kIn_of Y) ?F
  case F =>
    intro w mg fa h KX G hmg
    refine' Tw.all_mk KX G hmg ?g__law_pick ?l__law_pick ?c__law_pick ?k__law_pick ?g__law_number ?l__law_number ?c__law_number ?k__law_number ?g_check_range ?l_check_range ?c_check_range ?k_check_range ?g_wait_budget ?l_wait_budget ?c_wait_budget ?k_wait_budget ?g_wait_bound ?l_wait_bound ?c_wait_bound ?k_wait_bound ?g__law_refused ?l__law_refused ?c__law_refused ?k__law_refused ?g_law ?l_law ?c_law ?k_law ?v_GREATEST_AMOUNT ?v_GREATEST_ROOM ?z_bool ?z_int ?z_isinstance ?z_len ?z_range ?xn ?xtk ?g_OutOfBounds ?xx_OutOfBounds ?xk_OutOfBounds ?xg_OutOfBounds ?xh_OutOfBounds ?xs_OutOfBounds ?xd_OutOfBounds ?xa_OutOfBounds ?xm_OutOfBounds ?xt_OutOfBounds ?xi_OutOfBounds ?xu_OutOfBounds ?g_TooMuchMoney ?xx_TooMuchMoney ?xk_TooMuchMoney ?xg_TooMuchMoney ?xh_TooMuchMoney ?xs_TooMuchMoney ?xd_TooMuchMoney ?xa_TooMuchMoney ?xm_TooMuchMoney ?xt_TooMuchMoney ?xi_TooMuchMoney ?xu_TooMuchMoney ?g_TurnpikeError ?xx_TurnpikeError ?xk_TurnpikeError ?xg_TurnpikeError ?xh_TurnpikeError ?xs_TurnpikeError ?xd_TurnpikeError ?xa_TurnpikeError ?xm_TurnpikeError ?xt_TurnpikeError ?xi_TurnpikeError ?xu_TurnpikeError ?xp_OutOfBounds_TooMuchMoney ?xp_OutOfBounds_TurnpikeError ?xp_TooMuchMoney_OutOfBounds ?xp_TooMuchMoney_TurnpikeError ?xp_TurnpikeError_OutOfBounds ?xp_TurnpikeError_TooMuchMoney
    (case g__law_pick => k_is)
    (case l__law_pick => k_is)
    (case c__law_pick => k_is)
    (case k__law_pick => k_is)
    (case g__law_number => k_is)
    (case l__law_number => k_is)
    (case c__law_number => k_is)
    (case k__law_number => k_is)
    (case g_check_range => k_is)
    (case l_check_range => k_is)
    (case c_check_range => k_is)
    (case k_check_range => k_is)
    (case g_wait_budget => k_is)
    (case l_wait_budget => k_is)
    (case c_wait_budget => k_is)
    (case k_wait_budget => k_is)
    (case g_wait_bound => k_is)
    (case l_wait_bound => k_is)
    (case c_wait_bound => k_is)
    (case k_wait_bound => k_is)
    (case g__law_refused => k_is)
    (case l__law_refused => k_is)
    (case c__law_refused => k_is)
    (case k__law_refused => k_is)
    (case g_law => k_is)
    (case l_law => k_is)
    (case c_law => k_is)
    (case k_law => k_is)
    (case v_GREATEST_AMOUNT => k_is)
    (case v_GREATEST_ROOM => k_is)
    (case z_bool => k_is)
    (case z_int => k_is)
    (case z_isinstance => k_is)
    (case z_len => k_is)
    (case z_range => k_is)
    (case xn => k_is)
    (case xtk => k_is)
    (case g_OutOfBounds => k_is)
    (case xx_OutOfBounds => k_exc)
    (case xk_OutOfBounds => k_is)
    (case xg_OutOfBounds => k_is)
    (case xh_OutOfBounds => k_is)
    (case xs_OutOfBounds => k_is)
    (case xd_OutOfBounds => k_is)
    (case xa_OutOfBounds => k_is)
    (case xm_OutOfBounds => k_is)
    (case xt_OutOfBounds => k_is)
    (case xi_OutOfBounds => k_is)
    (case xu_OutOfBounds => first | rfl | k_is)
    (case g_TooMuchMoney => k_is)
    (case xx_TooMuchMoney => k_exc)
    (case xk_TooMuchMoney => k_is)
    (case xg_TooMuchMoney => k_is)
    (case xh_TooMuchMoney => k_is)
    (case xs_TooMuchMoney => k_is)
    (case xd_TooMuchMoney => k_is)
    (case xa_TooMuchMoney => k_is)
    (case xm_TooMuchMoney => k_is)
    (case xt_TooMuchMoney => k_is)
    (case xi_TooMuchMoney => k_is)
    (case xu_TooMuchMoney => first | rfl | k_is)
    (case g_TurnpikeError => k_is)
    (case xx_TurnpikeError => k_exc)
    (case xk_TurnpikeError => k_is)
    (case xg_TurnpikeError => k_is)
    (case xh_TurnpikeError => k_is)
    (case xs_TurnpikeError => k_is)
    (case xd_TurnpikeError => k_is)
    (case xa_TurnpikeError => k_is)
    (case xm_TurnpikeError => k_is)
    (case xt_TurnpikeError => k_is)
    (case xi_TurnpikeError => k_is)
    (case xu_TurnpikeError => first | rfl | k_is)
    (case xp_OutOfBounds_TooMuchMoney => k_is)
    (case xp_OutOfBounds_TurnpikeError => k_is)
    (case xp_TooMuchMoney_OutOfBounds => k_is)
    (case xp_TooMuchMoney_TurnpikeError => k_is)
    (case xp_TurnpikeError_OutOfBounds => k_is)
    (case xp_TurnpikeError_TooMuchMoney => k_is)
