import PyProof.Rows.All
import Wide.All
import OpenK.AllK
import Wide.FinOn
import HandS.ForMost
import HandS.Evl
import HandS.IsInst
import HandS.Walk
import HandS.Property
import HandS.MakeKwOnly
import HandS.SortInts
import HandS.DictComp
import HandS.OwnEq
import PyProof.InstNe
import HandS.Conv
import HandS.Zip
import KE.GoesEnum
import KE.GoesZip
import KE.OsSort
import HandS.Style
import PySem.Challenge.RW_flippedpoints_k12_whole_nets_looked_at
set_option Elab.async false
set_option linter.all false
set_option maxRecDepth 100000
set_option maxHeartbeats 4000000
/-! Data: what a Python value is worth, without addresses; readings over data alone -/
namespace DD
open PySem PySem.Spec PyProof.Rows L2

inductive D where
  | non | bl (b : Bool) | int (i : Int) | str (s : Str) | ty (n : String)
  | lst (xs : List D) | tup (xs : List D)
  | obj (C : Addr) (fs : List (Str × D))
  | dic (kvs : List (Key × D))
  | scr (K : PySem.W.Frag) (ns : List Int)

def Ex (H H' : Hp) : Prop := ∀ a o, H a = some o → H' a = some o
theorem Ex.refl (H : Hp) : Ex H H := fun _ _ h => h
theorem Ex.trans {H H1 H2 : Hp} (a : Ex H H1) (b : Ex H1 H2) : Ex H H2 := fun x o h => b x o (a x o h)
theorem Ex.new {H : Hp} {p : Addr} {o : HO} (h : H p = none) : Ex H (upd H p o) := fun a u e => by
  rw [upd_ne (ne_of_none e h)]
  exact e

mutual
def Is (H : Hp) : D → V → Prop
  | .non, v => v = .non
  | .bl b, v => v = .bl b
  | .int i, v => v = .int i
  | .str s, v => v = .str s
  | .ty n, v => v = .ty n
  | .lst ds, v => ∃ a xs, v = .ref a ∧ H a = some (.lst xs) ∧ IsA H ds xs
  | .tup ds, v => ∃ a xs, v = .ref a ∧ H a = some (.tup xs) ∧ IsA H ds xs
  | .obj C fs, v => ∃ a dx gs, v = .ref a ∧ H a = some (.ins C dx gs) ∧ IsF H fs gs
  | .dic kvs, v => ∃ a ks, v = .ref a ∧ H a = some (.dK ks) ∧ IsK H kvs ks
  | .scr K ns, v => ∃ a, v = .ref a ∧ SqL K H a (ns.map V.int)
def IsA (H : Hp) : List D → List V → Prop
  | [], xs => xs = []
  | d :: ds, xs => ∃ x r, xs = x :: r ∧ Is H d x ∧ IsA H ds r
def IsF (H : Hp) : List (Str × D) → List (Str × V) → Prop
  | [], xs => xs = []
  | (k, d) :: ds, xs => ∃ x r, xs = (k, x) :: r ∧ Is H d x ∧ IsF H ds r
def IsK (H : Hp) : List (Key × D) → List (Key × V) → Prop
  | [], xs => xs = []
  | (k, d) :: ds, xs => ∃ x r, xs = (k, x) :: r ∧ Is H d x ∧ IsK H ds r
end

theorem Ex.seq {K : PySem.W.Frag} {H H' : Hp} (e : Ex H H') {a : Addr} {xs : List V} (h : SqL K H a xs) : SqL K H' a xs := by
  rcases h with (h | ⟨o, h⟩) | h
  · exact .inl (.inl (e _ _ h))
  · exact .inl (.inr ⟨o, e _ _ h⟩)
  · exact .inr h
mutual
theorem Is.mono {H H' : Hp} (e : Ex H H') : ∀ (d : D) (v : V), Is H d v → Is H' d v
  | .non, _, h => h
  | .bl _, _, h => h
  | .int _, _, h => h
  | .str _, _, h => h
  | .ty _, _, h => h
  | .lst ds, _, ⟨a, xs, e1, e2, e3⟩ => ⟨a, xs, e1, e _ _ e2, IsA.mono e ds xs e3⟩
  | .tup ds, _, ⟨a, xs, e1, e2, e3⟩ => ⟨a, xs, e1, e _ _ e2, IsA.mono e ds xs e3⟩
  | .obj C fs, _, ⟨a, dx, gs, e1, e2, e3⟩ => ⟨a, dx, gs, e1, e _ _ e2, IsF.mono e fs gs e3⟩
  | .dic kvs, _, ⟨a, ks, e1, e2, e3⟩ => ⟨a, ks, e1, e _ _ e2, IsK.mono e kvs ks e3⟩
  | .scr K ns, _, ⟨a, e1, e2⟩ => ⟨a, e1, e.seq e2⟩
theorem IsA.mono {H H' : Hp} (e : Ex H H') : ∀ (ds : List D) (xs : List V), IsA H ds xs → IsA H' ds xs
  | [], _, h => h
  | d :: ds, _, ⟨x, r, e1, e2, e3⟩ => ⟨x, r, e1, Is.mono e d x e2, IsA.mono e ds r e3⟩
theorem IsF.mono {H H' : Hp} (e : Ex H H') : ∀ (ds : List (Str × D)) (xs : List (Str × V)), IsF H ds xs → IsF H' ds xs
  | [], _, h => h
  | (k, d) :: ds, _, ⟨x, r, e1, e2, e3⟩ => ⟨x, r, e1, Is.mono e d x e2, IsF.mono e ds r e3⟩
theorem IsK.mono {H H' : Hp} (e : Ex H H') : ∀ (ds : List (Key × D)) (xs : List (Key × V)), IsK H ds xs → IsK H' ds xs
  | [], _, h => h
  | (k, d) :: ds, _, ⟨x, r, e1, e2, e3⟩ => ⟨x, r, e1, Is.mono e d x e2, IsK.mono e ds r e3⟩
end

theorem IsA.length {H : Hp} : ∀ {ds : List D} {xs : List V}, IsA H ds xs → xs.length = ds.length
  | [], _, h => by cases h; rfl
  | d :: ds, _, ⟨x, r, e1, e2, e3⟩ => by subst e1; simp [IsA.length e3]
theorem IsA.get {H : Hp} : ∀ {ds : List D} {xs : List V} {i : Nat} {d : D}, IsA H ds xs → ds[i]? = some d → ∃ x, xs[i]? = some x ∧ Is H d x
  | [], _, _, _, _, h => by simp at h
  | d :: ds, _, 0, _, ⟨x, r, e1, e2, e3⟩, h => by subst e1; simp at h; subst h; exact ⟨x, rfl, e2⟩
  | d :: ds, _, i + 1, _, ⟨x, r, e1, e2, e3⟩, h => by subst e1; simp at h ⊢; exact IsA.get e3 h
theorem IsA.at {H : Hp} : ∀ {ds : List D} {xs : List V} {i : Nat} {x : V}, IsA H ds xs → xs[i]? = some x → ∃ d, ds[i]? = some d ∧ Is H d x
  | [], _, _, _, h, h2 => by cases h; simp at h2
  | d :: ds, _, 0, _, ⟨x, r, e1, e2, e3⟩, h => by subst e1; simp at h; subst h; exact ⟨d, rfl, e2⟩
  | d :: ds, _, i + 1, _, ⟨x, r, e1, e2, e3⟩, h => by subst e1; simp at h ⊢; exact IsA.at e3 h
theorem IsA.append {H : Hp} : ∀ {ds es : List D} {xs ys : List V}, IsA H ds xs → IsA H es ys → IsA H (ds ++ es) (xs ++ ys)
  | [], _, _, _, h, h2 => by cases h; exact h2
  | d :: ds, _, _, _, ⟨x, r, e1, e2, e3⟩, h2 => by subst e1; exact ⟨x, _, rfl, e2, IsA.append e3 h2⟩
theorem IsA.one {H : Hp} {d : D} {v : V} (h : Is H d v) : IsA H [d] [v] := ⟨v, [], rfl, h, rfl⟩
theorem IsA.set {H : Hp} : ∀ {ds : List D} {xs : List V} {i : Nat} {d : D} {x : V}, IsA H ds xs → Is H d x → IsA H (ds.set i d) (xs.set i x)
  | [], _, _, _, _, h, h2 => by cases h; exact rfl
  | d :: ds, _, 0, _, _, ⟨x, r, e1, e2, e3⟩, h => by subst e1; exact ⟨_, _, rfl, h, e3⟩
  | d :: ds, _, i + 1, _, _, ⟨x, r, e1, e2, e3⟩, h => by subst e1; exact ⟨_, _, rfl, e2, IsA.set e3 h⟩
theorem IsA.take {H : Hp} : ∀ {ds : List D} {xs : List V} (n : Nat), IsA H ds xs → IsA H (ds.take n) (xs.take n)
  | [], _, n, h => by cases h; cases n <;> exact rfl
  | d :: ds, _, 0, _ => rfl
  | d :: ds, _, n + 1, ⟨x, r, e1, e2, e3⟩ => by subst e1; exact ⟨_, _, rfl, e2, IsA.take n e3⟩
theorem IsA.drop {H : Hp} : ∀ {ds : List D} {xs : List V} (n : Nat), IsA H ds xs → IsA H (ds.drop n) (xs.drop n)
  | [], _, n, h => by cases h; cases n <;> exact rfl
  | d :: ds, _, 0, h => h
  | d :: ds, _, n + 1, ⟨x, r, e1, e2, e3⟩ => by subst e1; exact IsA.drop n e3
theorem IsA.ints {H : Hp} : ∀ {ns : List Int} {xs : List V}, IsA H (ns.map D.int) xs → xs = ns.map V.int
  | [], _, h => h
  | n :: ns, _, ⟨x, r, e1, e2, e3⟩ => by subst e1; rw [show x = .int n from e2, IsA.ints e3]; rfl
theorem IsA.bls {H : Hp} : ∀ {ns : List Bool} {xs : List V}, IsA H (ns.map D.bl) xs → xs = ns.map V.bl
  | [], _, h => h
  | n :: ns, _, ⟨x, r, e1, e2, e3⟩ => by subst e1; rw [show x = .bl n from e2, IsA.bls e3]; rfl
theorem IsA.of_ints {H : Hp} : ∀ {ns : List Int}, IsA H (ns.map D.int) (ns.map V.int)
  | [] => rfl
  | n :: ns => ⟨_, _, rfl, rfl, IsA.of_ints⟩

/-- flat data -/
def sc : D → Option V
  | .non => some .non
  | .bl b => some (.bl b)
  | .int i => some (.int i)
  | .str s => some (.str s)
  | .ty n => some (.ty n)
  | _ => none
theorem Is.sc {H : Hp} : ∀ {d : D} {v u : V}, DD.sc d = some u → Is H d v → v = u
  | .non, _, _, h, e => by cases h; exact e
  | .bl _, _, _, h, e => by cases h; exact e
  | .int _, _, _, h, e => by cases h; exact e
  | .str _, _, _, h, e => by cases h; exact e
  | .ty _, _, _, h, e => by cases h; exact e
theorem Is.of_sc {H : Hp} : ∀ {d : D} {u : V}, DD.sc d = some u → Is H d u
  | .non, _, h => by cases h; exact rfl
  | .bl _, _, h => by cases h; exact rfl
  | .int _, _, h => by cases h; exact rfl
  | .str _, _, h => by cases h; exact rfl
  | .ty _, _, h => by cases h; exact rfl

/-! ### slots -/
inductive Own where
  | lst (ds : List D)
  | dic (kvs : List (Key × D))
  | ins (C : Addr) (fs : List (Str × D))
  | pot
inductive Slot where
  | un
  | val (d : D)
  | own (loc : Bool) (o : Own)
abbrev Rho := List Slot
def Slot.isOwn : Slot → Bool
  | .own _ _ => true
  | _ => false
structure Base where
  H : Hp
  G : Hp
  W : List Addr
  X : Addr := 0
/-- two numbers to draw from -/
def PotAt (H : Hp) (l : Addr) : Prop := ∃ a b : Int, H l = some (.lst [.int a, .int b]) ∧ 0 ≤ a ∧ 0 ≤ b ∧ b < 4294967296
def OwnOk (B : Base) (G H : Hp) (l : Addr) : Own → Prop
  | .pot => PotAt H l
  | .lst ds => ∃ xs, H l = some (.lst xs) ∧ IsA G ds xs
  | .dic kvs => ∃ ks, H l = some (.dK ks) ∧ IsK G kvs ks
  | .ins C fs => l = B.X ∧ ∃ dx gs, H l = some (.ins C dx gs) ∧ IsF G fs gs
def SlotOk (B : Base) (G H : Hp) (s : Slot) (v : Option V) : Prop :=
  match s with
  | .un => True
  | .val d => ∃ x, v = some x ∧ Is G d x
  | .own loc o => ∃ l, v = some (.ref l) ∧ G l = none ∧ (if loc = true then B.H l = none else l ∈ B.W) ∧ OwnOk B G H l o
/-- the state: the slots' data, the ghost G of what stands still -/
structure Sta (B : Base) (σ : L2.St) (ρ : Rho) (G H : Hp) : Prop where
  len : σ.length = ρ.length
  ex : Ex G H
  fr : ∀ a o, B.H a = some o → a ∉ B.W → H a = some o
  kn : ∀ a, H a = none → B.H a = none
  nw : ∀ a o, G a = some o → B.G a = some o ∨ B.H a = none
  bg : Ex B.G G
  bx : Ex B.G B.H
  pot : ∀ l ∈ B.W, PotAt H l ∧ ∃ u, B.H l = some u
  env : ∀ (i : Nat) (s : Slot) (v : Option V), ρ[i]? = some s → σ[i]? = some v → SlotOk B G H s v
  dist : ∀ (i j : Nat) (l1 l2 : Bool) (o1 o2 : Own), i ≠ j → ρ[i]? = some (.own l1 o1) → ρ[j]? = some (.own l2 o2) → σ[i]? ≠ σ[j]?

theorem OwnOk.known {B : Base} {G H : Hp} {l : Addr} : ∀ {o : Own}, OwnOk B G H l o → ∃ u, H l = some u
  | .pot, ⟨_, _, e, _⟩ => ⟨_, e⟩
  | .lst _, ⟨_, e, _⟩ => ⟨_, e⟩
  | .dic _, ⟨_, e, _⟩ => ⟨_, e⟩
  | .ins _ _, ⟨_, _, _, e, _⟩ => ⟨_, e⟩
theorem OwnOk.mono {B : Base} {G H G' H' : Hp} {l : Addr} (e : Ex G G') (k : ∀ o, H l = some o → H' l = some o) : ∀ {o : Own}, OwnOk B G H l o → OwnOk B G' H' l o
  | .pot, ⟨_, _, e, r⟩ => ⟨_, _, k _ e, r⟩
  | .lst _, ⟨_, e1, e2⟩ => ⟨_, k _ e1, IsA.mono e _ _ e2⟩
  | .dic _, ⟨_, e1, e2⟩ => ⟨_, k _ e1, IsK.mono e _ _ e2⟩
  | .ins _ _, ⟨z, _, _, e1, e2⟩ => ⟨z, _, _, k _ e1, IsF.mono e _ _ e2⟩

/-- the slots of an own thing aren't in the ghost -/
theorem Sta.ownAt {B : Base} {σ : L2.St} {ρ : Rho} {G H : Hp} (S : Sta B σ ρ G H) {i : Nat} {loc : Bool} {o : Own} (h : ρ[i]? = some (.own loc o)) :
    ∃ l, σ[i]? = some (some (.ref l)) ∧ G l = none ∧ (if loc = true then B.H l = none else l ∈ B.W) ∧ OwnOk B G H l o := by
  have hi : i < ρ.length := (List.getElem?_eq_some_iff.mp h).1
  have hs : i < σ.length := S.len ▸ hi
  have e : σ[i]? = some (σ[i]'hs) := List.getElem?_eq_getElem hs
  obtain ⟨l, e1, e2⟩ := S.env i _ _ h e
  exact ⟨l, by rw [e, e1], e2⟩
theorem Sta.valAt {B : Base} {σ : L2.St} {ρ : Rho} {G H : Hp} (S : Sta B σ ρ G H) {i : Nat} {d : D} (h : ρ[i]? = some (.val d)) : ∃ x, σ[i]? = some (some x) ∧ Is G d x := by
  have hi : i < ρ.length := (List.getElem?_eq_some_iff.mp h).1
  have hs : i < σ.length := S.len ▸ hi
  have e : σ[i]? = some (σ[i]'hs) := List.getElem?_eq_getElem hs
  obtain ⟨x, e1, e2⟩ := S.env i _ _ h e
  exact ⟨x, by rw [e, e1], e2⟩

/-- the heap grows by new objects, the ghost by some of them -/
structure Grow (G H G' H' : Hp) : Prop where
  g : Ex G G'
  h : Ex H H'
  x : Ex G' H'
  n : ∀ a o, G' a = some o → G a = some o ∨ H a = none
theorem Grow.refl {G H : Hp} (x : Ex G H) : Grow G H G H := ⟨Ex.refl _, Ex.refl _, x, fun _ _ h => .inl h⟩
theorem Grow.trans {G H G1 H1 G2 H2 : Hp} (a : Grow G H G1 H1) (b : Grow G1 H1 G2 H2) : Grow G H G2 H2 :=
  ⟨a.g.trans b.g, a.h.trans b.h, b.x, fun c o e => by
    rcases b.n c o e with q | q
    · exact a.n c o q
    · right
      cases r : H c with
      | none => rfl
      | some u => rw [a.h c u r] at q; cases q⟩
/-- a new object, put into the ghost too -/
theorem Grow.new {G H : Hp} {p : Addr} {o : HO} (x : Ex G H) (hp : H p = none) : Grow G H (upd G p o) (upd H p o) := by
  have gp : G p = none := by
    cases r : G p with
    | none => rfl
    | some u => rw [x p u r] at hp; cases hp
  refine ⟨Ex.new gp, Ex.new hp, fun a u e => ?_, fun a u e => ?_⟩
  · by_cases q : a = p
    · subst q; rw [upd_same] at e ⊢; exact e
    · rw [upd_ne q] at e ⊢; exact x a u e
  · by_cases q : a = p
    · subst q; exact .inr hp
    · rw [upd_ne q] at e; exact .inl e
/-- a new object, not in the ghost -/
theorem Grow.own {G H : Hp} {p : Addr} {o : HO} (x : Ex G H) (hp : H p = none) : Grow G H G (upd H p o) :=
  ⟨Ex.refl _, Ex.new hp, x.trans (Ex.new hp), fun a u e => .inl e⟩
theorem Sta.grow {B : Base} {σ : L2.St} {ρ : Rho} {G H G' H' : Hp} (S : Sta B σ ρ G H) (g : Grow G H G' H') : Sta B σ ρ G' H' := by
  refine ⟨S.len, g.x, fun a o e n => g.h a o (S.fr a o e n), fun a e => S.kn a ?_, fun a o e => ?_, S.bg.trans g.g, S.bx, fun l hl => ?_, fun i s v h1 h2 => ?_, S.dist⟩
  · cases r : H a with
    | none => rfl
    | some u => rw [g.h a u r] at e; cases e
  · rcases g.n a o e with q | q
    · exact S.nw a o q
    · exact .inr (S.kn a q)
  · obtain ⟨⟨a, b, e, r⟩, z⟩ := S.pot l hl
    exact ⟨⟨a, b, g.h _ _ e, r⟩, z⟩
  · have k := S.env i s v h1 h2
    cases s with
    | un => trivial
    | val d =>
      obtain ⟨x, e1, e2⟩ := k
      exact ⟨x, e1, Is.mono g.g _ _ e2⟩
    | own loc o =>
      obtain ⟨l, e1, e2, e3, e4⟩ := k
      refine ⟨l, e1, ?_, e3, e4.mono g.g fun o q => g.h l o q⟩
      cases r : G' l with
      | none => rfl
      | some u =>
        rcases g.n l u r with q | q
        · rw [e2] at q; cases q
        · obtain ⟨w, hw⟩ := e4.known
          rw [hw] at q; cases q
/-- what a body leaves: seen from its entry -/
structure Fin (B : Base) (G H : Hp) : Prop where
  ex : Ex G H
  fr : ∀ a o, B.H a = some o → a ∉ B.W → H a = some o
  nw : ∀ a o, G a = some o → B.G a = some o ∨ B.H a = none
  bg : Ex B.G G
  pot : ∀ l ∈ B.W, PotAt H l
theorem Sta.fin {B : Base} {σ : L2.St} {ρ : Rho} {G H : Hp} (S : Sta B σ ρ G H) : Fin B G H := ⟨S.ex, S.fr, S.nw, S.bg, fun l hl => (S.pot l hl).1⟩
/-- the heap behind a call that draws from the pot at l -/
structure GrowP (l : Addr) (G H G' H' : Hp) : Prop where
  g : Ex G G'
  h : ∀ a o, H a = some o → a ≠ l → H' a = some o
  x : Ex G' H'
  n : ∀ a o, G' a = some o → G a = some o ∨ H a = none
  p : PotAt H' l
theorem Sta.growP {B : Base} {σ : L2.St} {ρ : Rho} {G H G' H' : Hp} {l : Addr} (S : Sta B σ ρ G H) (g : GrowP l G H G' H') {i : Nat} {loc : Bool} (hi : ρ[i]? = some (.own loc .pot)) (hl : σ[i]? = some (some (.ref l))) : Sta B σ ρ G' H' := by
  obtain ⟨l', e1, gl, ll, pl⟩ := S.ownAt hi
  have el : l' = l := by rw [hl] at e1; cases e1; rfl
  subst el
  have hw : loc = true ∧ B.H l' = none ∨ l' ∈ B.W := by
    cases loc with
    | true => exact .inl ⟨rfl, ll⟩
    | false => exact .inr ll
  refine ⟨S.len, g.x, fun a o e n => g.h a o (S.fr a o e n) ?_, fun a e => S.kn a ?_, fun a o e => ?_, S.bg.trans g.g, S.bx, fun m hm => ?_, fun j s v h1 h2 => ?_, S.dist⟩
  · rintro rfl
    rcases hw with ⟨_, z⟩ | z
    · rw [z] at e; cases e
    · exact n z
  · cases r : H a with
    | none => rfl
    | some u =>
      by_cases q : a = l'
      · subst q
        obtain ⟨x, y, z, _⟩ := g.p
        rw [z] at e; cases e
      · rw [g.h a u r q] at e; cases e
  · rcases g.n a o e with q | q
    · exact S.nw a o q
    · exact .inr (S.kn a q)
  · refine ⟨?_, (S.pot m hm).2⟩
    by_cases q : m = l'
    · subst q; exact g.p
    · obtain ⟨⟨a, b, e, r⟩, _⟩ := S.pot m hm
      exact ⟨a, b, g.h _ _ e q, r⟩
  · have k := S.env j s v h1 h2
    cases s with
    | un => trivial
    | val d =>
      obtain ⟨x, e1, e2⟩ := k
      exact ⟨x, e1, Is.mono g.g _ _ e2⟩
    | own lc o =>
      obtain ⟨m, f1, f2, f3, f4⟩ := k
      refine ⟨m, f1, ?_, f3, ?_⟩
      · cases r : G' m with
        | none => rfl
        | some u =>
          rcases g.n m u r with q | q
          · rw [f2] at q; cases q
          · obtain ⟨w, hw⟩ := f4.known
            rw [hw] at q; cases q
      · by_cases q : m = l'
        · have ji : j = i := by
            by_cases z : j = i
            · exact z
            · exact absurd (by rw [h2, f1, hl, q]) (S.dist j i _ _ _ _ z h1 hi)
          subst ji
          rw [hi] at h1
          cases h1
          rw [q]; exact g.p
        · exact f4.mono g.g fun o z => g.h m o z q
/-- a slot gets a value -/
theorem Sta.set {B : Base} {σ : L2.St} {ρ : Rho} {G H : Hp} (S : Sta B σ ρ G H) {i : Nat} {d : D} {v : V} (h : Is G d v) : Sta B (σ.set i (some v)) (ρ.set i (.val d)) G H := by
  refine ⟨by rw [List.length_set, List.length_set]; exact S.len, S.ex, S.fr, S.kn, S.nw, S.bg, S.bx, S.pot, fun j s w h1 h2 => ?_, fun j k l1 l2 o1 o2 jk h1 h2 => ?_⟩
  · by_cases q : i = j
    · subst q
      rw [List.getElem?_set] at h1 h2
      simp only [if_true] at h1 h2
      split at h1
      · cases h1
        split at h2
        · cases h2; exact ⟨v, rfl, h⟩
        · cases h2
      · cases h1
    · rw [List.getElem?_set_ne q] at h1 h2
      exact S.env j s w h1 h2
  · have nj : i ≠ j := fun q => by
      subst q
      rw [List.getElem?_set] at h1
      simp only [if_true] at h1
      split at h1 <;> cases h1
    have nk : i ≠ k := fun q => by
      subst q
      rw [List.getElem?_set] at h2
      simp only [if_true] at h2
      split at h2 <;> cases h2
    rw [List.getElem?_set_ne nj] at h1
    rw [List.getElem?_set_ne nk] at h2
    rw [List.getElem?_set_ne nj, List.getElem?_set_ne nk]
    exact S.dist j k l1 l2 o1 o2 jk h1 h2
/-- a slot gets an own thing that is new -/
theorem Sta.setOwn {B : Base} {σ : L2.St} {ρ : Rho} {G H : Hp} (S : Sta B σ ρ G H) {i : Nat} {l : Addr} {o : Own} (gl : G l = none) (bl : B.H l = none) (ho : OwnOk B G H l o)
    (nw : ∀ (j : Nat) (lc : Bool) (u : Own), ρ[j]? = some (.own lc u) → σ[j]? ≠ some (some (.ref l))) : Sta B (σ.set i (some (.ref l))) (ρ.set i (.own true o)) G H := by
  refine ⟨by rw [List.length_set, List.length_set]; exact S.len, S.ex, S.fr, S.kn, S.nw, S.bg, S.bx, S.pot, fun j s w h1 h2 => ?_, fun j k l1 l2 o1 o2 jk h1 h2 => ?_⟩
  · by_cases q : i = j
    · subst q
      rw [List.getElem?_set] at h1 h2
      simp only [if_true] at h1 h2
      split at h1
      · cases h1
        split at h2
        · cases h2; exact ⟨l, rfl, gl, bl, ho⟩
        · cases h2
      · cases h1
    · rw [List.getElem?_set_ne q] at h1 h2
      exact S.env j s w h1 h2
  · by_cases qj : i = j
    · have qk : i ≠ k := fun q => jk (qj.symm.trans q)
      subst qj
      rw [List.getElem?_set_ne qk] at h2
      rw [List.getElem?_set_ne qk]
      have hi : i < σ.length := by
        rw [S.len]
        rw [List.getElem?_set] at h1
        simp only [if_true] at h1
        split at h1
        · assumption
        · cases h1
      rw [List.getElem?_set_self hi]
      exact fun z => nw k l2 o2 h2 z.symm
    · by_cases qk : i = k
      · subst qk
        rw [List.getElem?_set_ne qj] at h1
        rw [List.getElem?_set_ne qj]
        have hi : i < σ.length := by
          rw [S.len]
          rw [List.getElem?_set] at h2
          simp only [if_true] at h2
          split at h2
          · assumption
          · cases h2
        rw [List.getElem?_set_self hi]
        exact nw j l1 o1 h1
      · rw [List.getElem?_set_ne qj] at h1
        rw [List.getElem?_set_ne qk] at h2
        rw [List.getElem?_set_ne qj, List.getElem?_set_ne qk]
        exact S.dist j k l1 l2 o1 o2 jk h1 h2
/-- an own thing changes -/
theorem Sta.upd {B : Base} {σ : L2.St} {ρ : Rho} {G H : Hp} (S : Sta B σ ρ G H) {i : Nat} {l : Addr} {o o' : Own} {u : HO} (hi : ρ[i]? = some (.own true o)) (hl : σ[i]? = some (some (.ref l))) (ho : OwnOk B G (L2.upd H l u) l o') :
    Sta B σ (ρ.set i (.own true o')) G (L2.upd H l u) := by
  obtain ⟨l', e1, gl, ll, pl⟩ := S.ownAt hi
  have el : l' = l := by rw [hl] at e1; cases e1; rfl
  subst el
  have bl : B.H l' = none := ll
  refine ⟨by rw [List.length_set]; exact S.len, fun a o e => ?_, fun a o e n => ?_, fun a e => S.kn a ?_, S.nw, S.bg, S.bx, fun m hm => ?_, fun j s w h1 h2 => ?_, fun j k l1 l2 o1 o2 jk h1 h2 => ?_⟩
  · have q : a ≠ l' := by rintro rfl; rw [gl] at e; cases e
    rw [upd_ne q]; exact S.ex a o e
  · have q : a ≠ l' := by rintro rfl; rw [bl] at e; cases e
    rw [upd_ne q]; exact S.fr a o e n
  · by_cases q : a = l'
    · subst q; rw [upd_same] at e; cases e
    · rw [upd_ne q] at e; exact e
  · obtain ⟨⟨a, b, e, r⟩, z, hz⟩ := S.pot m hm
    have q : m ≠ l' := by
      rintro rfl
      rw [bl] at hz
      cases hz
    exact ⟨⟨a, b, by rw [upd_ne q]; exact e, r⟩, z, hz⟩
  · by_cases q : i = j
    · subst q
      rw [List.getElem?_set] at h1
      simp only [if_true] at h1
      split at h1
      · cases h1
        rw [hl] at h2
        cases h2
        exact ⟨l', rfl, gl, bl, ho⟩
      · cases h1
    · rw [List.getElem?_set_ne q] at h1
      have k := S.env j s w h1 h2
      cases s with
      | un => trivial
      | val d => exact k
      | own lc o2 =>
        obtain ⟨m, f1, f2, f3, f4⟩ := k
        have nm : m ≠ l' := by
          rintro rfl
          exact S.dist i j _ _ _ _ q hi h1 (by rw [hl, h2, f1])
        exact ⟨m, f1, f2, f3, f4.mono (Ex.refl G) fun o z => by rw [upd_ne nm]; exact z⟩
  · have c1 : ∃ la oa, ρ[j]? = some (.own la oa) := by
      by_cases q : i = j
      · subst q; exact ⟨_, _, hi⟩
      · rw [List.getElem?_set_ne q] at h1; exact ⟨_, _, h1⟩
    have c2 : ∃ la oa, ρ[k]? = some (.own la oa) := by
      by_cases q : i = k
      · subst q; exact ⟨_, _, hi⟩
      · rw [List.getElem?_set_ne q] at h2; exact ⟨_, _, h2⟩
    obtain ⟨_, _, c1⟩ := c1
    obtain ⟨_, _, c2⟩ := c2
    exact S.dist j k _ _ _ _ jk c1 c2
/-- an own list is shared from here on -/
theorem Sta.share {B : Base} {σ : L2.St} {ρ : Rho} {G H : Hp} (S : Sta B σ ρ G H) {i : Nat} {ds : List D} (hi : ρ[i]? = some (.own true (.lst ds))) :
    ∃ l G', σ[i]? = some (some (.ref l)) ∧ Ex G G' ∧ Is G' (.lst ds) (.ref l) ∧ Sta B σ (ρ.set i (.val (.lst ds))) G' H := by
  obtain ⟨l, e1, gl, bl, xs, hl, hx⟩ := S.ownAt hi
  have bl : B.H l = none := bl
  have ex : Ex G (L2.upd G l (.lst xs)) := Ex.new gl
  have iv : Is (L2.upd G l (.lst xs)) (.lst ds) (.ref l) := ⟨l, xs, rfl, upd_same, IsA.mono ex _ _ hx⟩
  refine ⟨l, _, e1, ex, iv, by rw [List.length_set]; exact S.len, fun a o e => ?_, S.fr, S.kn, fun a o e => ?_, S.bg.trans ex, S.bx, S.pot, fun j s w h1 h2 => ?_, fun j k l1 l2 o1 o2 jk h1 h2 => ?_⟩
  · by_cases q : a = l
    · subst q; rw [upd_same] at e; rw [hl]; exact e
    · rw [upd_ne q] at e; exact S.ex a o e
  · by_cases q : a = l
    · subst q; exact .inr bl
    · rw [upd_ne q] at e; exact S.nw a o e
  · by_cases q : i = j
    · subst q
      rw [List.getElem?_set] at h1
      simp only [if_true] at h1
      split at h1
      · cases h1
        rw [e1] at h2
        cases h2
        exact ⟨_, rfl, iv⟩
      · cases h1
    · rw [List.getElem?_set_ne q] at h1
      have k := S.env j s w h1 h2
      cases s with
      | un => trivial
      | val d =>
        obtain ⟨x, f1, f2⟩ := k
        exact ⟨x, f1, Is.mono ex _ _ f2⟩
      | own lc o2 =>
        obtain ⟨m, f1, f2, f3, f4⟩ := k
        have nm : m ≠ l := by
          rintro rfl
          exact S.dist i j _ _ _ _ q hi h1 (by rw [e1, h2, f1])
        exact ⟨m, f1, by rw [upd_ne nm]; exact f2, f3, f4.mono ex fun o z => z⟩
  · have nj : i ≠ j := fun q => by
      subst q
      rw [List.getElem?_set] at h1
      simp only [if_true] at h1
      split at h1 <;> cases h1
    have nk : i ≠ k := fun q => by
      subst q
      rw [List.getElem?_set] at h2
      simp only [if_true] at h2
      split at h2 <;> cases h2
    rw [List.getElem?_set_ne nj] at h1
    rw [List.getElem?_set_ne nk] at h2
    exact S.dist j k l1 l2 o1 o2 jk h1 h2
end DD

namespace DD
open PySem PySem.Spec PyProof.Rows L2

/-! ### the least reading of an expression -/
def wE (X : Cx) (e : Expr) : TE := fun σ H R => ∀ pins s, Inv X pins σ H s → wpAny (model X.prog X.w) X.A (eval e X.env) (EP X pins σ R) X.xe s
theorem pe_w {X : Cx} {e : Expr} : PE X e (wE X e) := ⟨fun pins s σ H R I h => h pins s I⟩
theorem wE_of {X : Cx} {e : Expr} {t : TE} {σ : L2.St} {H : Hp} {R : VK} (p : PE X e t) (h : t σ H R) : wE X e σ H R := fun pins s I => p.run pins s σ H R I h
def wT (X : Cx) (e : Expr) : TT := fun σ H R => ∀ pins s, Inv X pins σ H s → wpAny (model X.prog X.w) X.A (isTrue e X.env (eval e X.env)) (TP X pins σ R) X.xe s
theorem pt_w {X : Cx} {e : Expr} : PT X e (wT X e) := ⟨fun pins s σ H R I h => h pins s I⟩
theorem wT_of {X : Cx} {e : Expr} {t : TT} {σ : L2.St} {H : Hp} {R : Bool → Hp → Prop} (p : PT X e t) (h : t σ H R) : wT X e σ H R := fun pins s I => p.run pins s σ H R I h
def wA (X : Cx) (es : List Expr) : TA := fun σ H R => ∀ pos pins s, Inv X pins σ H s → wpAny (model X.prog X.w) X.A (spliced (backTo pos (starEach es X.env))) (AP X pins σ R) X.xe s
theorem pa_w {X : Cx} {es : List Expr} : PA X es (wA X es) := ⟨fun pos pins s σ H R I h => h pos pins s I⟩
theorem wA_of {X : Cx} {e : List Expr} {t : TA} {σ : L2.St} {H : Hp} {R : List V → Hp → Prop} (p : PA X e t) (h : t σ H R) : wA X e σ H R := fun pos pins s I => p.run pos pins s σ H R I h
/-- whatever rule serves -/
def rAny (X : Cx) (f : Value → Value → Sem Value) : R2 := fun x y H Q => ∃ r, OpR X f r ∧ r x y H Q
theorem op_any {X : Cx} {f : Value → Value → Sem Value} : OpR X f (rAny X f) := fun pins s σ H x y v u Q I rx ry ⟨r, hr, h⟩ => hr pins s σ H x y v u Q I rx ry h
def rAnyU (X : Cx) (f : Value → Sem Value) : V → Hp → VK → Prop := fun x H Q => ∃ r, UnR X f r ∧ r x H Q
theorem un_any {X : Cx} {f : Value → Sem Value} : UnR X f (rAnyU X f) := fun pins s σ H x v Q I rx ⟨r, hr, h⟩ => hr pins s σ H x v Q I rx h
def rAnyC (X : Cx) (f : Value) : List V → Hp → VK → Prop := fun x H Q => ∃ r, CallR X f r ∧ r x H Q
theorem call_any {X : Cx} {f : Value} : CallR X f (rAnyC X f) := fun pins s σ H x v Q I rx ⟨r, hr, h⟩ => hr pins s σ H x v Q I rx h
def rAnyI (X : Cx) : R2 := fun x y H Q => ∃ r, IxR X r ∧ r x y H Q
theorem ix_any {X : Cx} : IxR X (rAnyI X) := fun va sl pins s σ H x y v u Q I rx ry ⟨r, hr, h⟩ => hr va sl pins s σ H x y v u Q I rx ry h
def rAnyS (X : Cx) : V → Option Int → Option Int → Hp → VK → Prop := fun x lo hi H Q => ∃ r, SlR X r ∧ r x lo hi H Q
theorem sl_any {X : Cx} : SlR X (rAnyS X) := fun pins s σ H x v vl vu lo hi sl Q I rx hs pl pu ⟨r, hr, h⟩ => hr pins s σ H x v vl vu lo hi sl Q I rx hs pl pu h

/-! ### readings over data. p: pure (no own thing changes), g: the value stands in the ghost -/
def W (p g : Bool) (X : Cx) (e : Expr) (ρ : Rho) (Q : D → Rho → Prop) : Prop :=
  ∀ (B : Base) (σ : L2.St) (G H : Hp), Sta B σ ρ G H → ∀ R : VK,
    (∀ v d ρ' G' H', Q d ρ' → Sta B σ ρ' G' H' → Ex G G' → (p = true → ρ' = ρ ∧ Grow G H G' H') → Is (if g = true then G' else H') d v → R v H') → wE X e σ H R
/-- the same of any reading -/
def WX (p g : Bool) (t : TE) (ρ : Rho) (Q : D → Rho → Prop) : Prop :=
  ∀ (B : Base) (σ : L2.St) (G H : Hp), Sta B σ ρ G H → ∀ R : VK,
    (∀ v d ρ' G' H', Q d ρ' → Sta B σ ρ' G' H' → Ex G G' → (p = true → ρ' = ρ ∧ Grow G H G' H') → Is (if g = true then G' else H') d v → R v H') → t σ H R
theorem WX.w {p g : Bool} {X : Cx} {e : Expr} {t : TE} {ρ : Rho} {Q : D → Rho → Prop} (pe : PE X e t) (h : WX p g t ρ Q) : W p g X e ρ Q := fun B σ G H S R r => wE_of pe (h B σ G H S R r)
def WT (p : Bool) (X : Cx) (e : Expr) (ρ : Rho) (Q : Bool → Rho → Prop) : Prop :=
  ∀ (B : Base) (σ : L2.St) (G H : Hp), Sta B σ ρ G H → ∀ R : Bool → Hp → Prop,
    (∀ b ρ' G' H', Q b ρ' → Sta B σ ρ' G' H' → Ex G G' → (p = true → ρ' = ρ ∧ Grow G H G' H') → R b H') → wT X e σ H R
def WA (p g : Bool) (X : Cx) (es : List Expr) (ρ : Rho) (Q : List D → Rho → Prop) : Prop :=
  ∀ (B : Base) (σ : L2.St) (G H : Hp), Sta B σ ρ G H → ∀ R : List V → Hp → Prop,
    (∀ vs ds ρ' G' H', Q ds ρ' → Sta B σ ρ' G' H' → Ex G G' → (p = true → ρ' = ρ ∧ Grow G H G' H') → IsA (if g = true then G' else H') ds vs → R vs H') → wA X es σ H R

section
variable {p g : Bool} {X : Cx} {ρ : Rho} {Q : D → Rho → Prop} {QT : Bool → Rho → Prop} {QA : List D → Rho → Prop}
theorem is_h {B : Base} {σ : L2.St} {G H : Hp} {d : D} {v : V} (S : Sta B σ ρ G H) (h : Is G d v) : Is (if g = true then G else H) d v := by
  cases g with
  | true => exact h
  | false => exact Is.mono S.ex d v h
theorem is_g {B : Base} {σ : L2.St} {G H : Hp} {d : D} {v : V} (S : Sta B σ ρ G H) (h : Is (if g = true then G else H) d v) : Is H d v := by
  cases g with
  | true => exact Is.mono S.ex d v h
  | false => exact h
/-- pure is as good as any; what stands in the ghost stands -/
theorem W.imp {e : Expr} {Q' : D → Rho → Prop} (h : W p g X e ρ Q) (k : ∀ d ρ', Q d ρ' → Q' d ρ') : W p g X e ρ Q' := fun B σ G H S R r =>
  h B σ G H S R fun v d ρ' G' H' q S' x pu i => r v d ρ' G' H' (k d ρ' q) S' x pu i
theorem W.un {e : Expr} (h : W true g X e ρ Q) : W p g X e ρ Q := fun B σ G H S R r =>
  h B σ G H S R fun v d ρ' G' H' q S' x pu i => r v d ρ' G' H' q S' x (fun _ => pu rfl) i
theorem W.rd {e : Expr} (h : W p true X e ρ Q) : W p g X e ρ Q := fun B σ G H S R r =>
  h B σ G H S R fun v d ρ' G' H' q S' x pu i => r v d ρ' G' H' q S' x pu (is_h S' i)
/-- flat values stand in the ghost -/
theorem W.sc {e : Expr} (h : W p false X e ρ fun d ρ' => (DD.sc d).isSome = true ∧ Q d ρ') : W p g X e ρ Q := fun B σ G H S R r =>
  h B σ G H S R fun v d ρ' G' H' q S' x pu i => r v d ρ' G' H' q.2 S' x pu (by
    obtain ⟨u, hu⟩ := Option.isSome_iff_exists.mp q.1
    have e : v = u := Is.sc hu i
    subst e
    exact Is.of_sc hu)
theorem w_name {i : Nat} {x : Str} {pos : Pos} {d : D} (hN : X.N[i]? = some x) (hv : Vis X.env.scope x) (hd : (x == ("__debug__" : Str)) = false) (hcd : (x == ("__classdict__" : Str)) = false)
    (hr : ρ[i]? = some (.val d)) (q : Q d ρ) : W p g X (.Name x pos) ρ Q := fun B σ G H S R r => by
  obtain ⟨v, e, h⟩ := S.valAt hr
  exact wE_of (pe_var hN hv hd hcd) ⟨v, e, r v d ρ G H q S (Ex.refl G) (fun _ => ⟨rfl, Grow.refl S.ex⟩) (is_h S h)⟩
/-- an own list, read -/
theorem w_own {i : Nat} {x : Str} {pos : Pos} {loc : Bool} {ds : List D} (hN : X.N[i]? = some x) (hv : Vis X.env.scope x) (hd : (x == ("__debug__" : Str)) = false) (hcd : (x == ("__classdict__" : Str)) = false)
    (hr : ρ[i]? = some (.own loc (.lst ds))) (q : Q (.lst ds) ρ) : W p false X (.Name x pos) ρ Q := fun B σ G H S R r => by
  obtain ⟨l, e, h1, h2, xs, h3, h4⟩ := S.ownAt hr
  exact wE_of (pe_var hN hv hd hcd) ⟨_, e, r _ (.lst ds) ρ G H q S (Ex.refl G) (fun _ => ⟨rfl, Grow.refl S.ex⟩) ⟨l, xs, rfl, h3, IsA.mono S.ex _ _ h4⟩⟩
theorem w_const {e : Expr} {v : V} {d : D} (hp : PE X e (tC v)) (hs : DD.sc d = some v) (q : Q d ρ) : W p g X e ρ Q := fun B σ G H S R r =>
  wE_of hp (r v d ρ G H q S (Ex.refl G) (fun _ => ⟨rfl, Grow.refl S.ex⟩) (Is.of_sc hs))
theorem w_int {i : Int} {j pos} (q : Q (.int i) ρ) : W p g X (.Constant (.int i) j pos) ρ Q := w_const pe_int rfl q
theorem w_bl {b : Bool} {j pos} (q : Q (.bl b) ρ) : W p g X (.Constant (.bool b) j pos) ρ Q := w_const pe_bl rfl q
theorem w_non {j pos} (q : Q .non ρ) : W p g X (.Constant .none j pos) ρ Q := w_const pe_non rfl q
theorem w_str {s : Str} {j pos} (q : Q (.str s) ρ) : W p g X (.Constant (.str s) j pos) ρ Q := w_const pe_str rfl q
/-- a constant of the module: a number, a text, a built-in type, a class -/
theorem w_glob {x : Str} {v : V} {u : Value} {d : D} {pos : Pos} (hg : Gl X x) (hm : X.mg x = some u) (r : RelV v u) (hd : (x == ("__debug__" : Str)) = false) (hs : DD.sc d = some v) (q : Q d ρ) : W p g X (.Name x pos) ρ Q := w_const (pe_glob hg hm r hd) hs q

/-! ### operations on data -/
/-- the operation f on x and y gives some z of Z; g: x and y stand in the ghost -/
def Op2 (g : Bool) (X : Cx) (f : Value → Value → Sem Value) (x y : D) (Z : D → Prop) : Prop :=
  ∀ (G H : Hp) (v u : V) (R : VK), Ex G H → Is (if g = true then G else H) x v → Is (if g = true then G else H) y u → (∀ w z G' H', Z z → Grow G H G' H' → Is G' z w → R w H') → rAny X f v u H R
def Op1 (g : Bool) (X : Cx) (f : Value → Sem Value) (x : D) (Z : D → Prop) : Prop :=
  ∀ (G H : Hp) (v : V) (R : VK), Ex G H → Is (if g = true then G else H) x v → (∀ w z G' H', Z z → Grow G H G' H' → Is G' z w → R w H') → rAnyU X f v H R
def OpC (g : Bool) (X : Cx) (f : Value) (xs : List D) (Z : D → Prop) : Prop :=
  ∀ (G H : Hp) (vs : List V) (R : VK), Ex G H → IsA (if g = true then G else H) xs vs → (∀ w z G' H', Z z → Grow G H G' H' → Is G' z w → R w H') → rAnyC X f vs H R
def OpI (g : Bool) (X : Cx) (x y : D) (Z : D → Prop) : Prop :=
  ∀ (G H : Hp) (v u : V) (R : VK), Ex G H → Is (if g = true then G else H) x v → Is (if g = true then G else H) y u → (∀ w z, Z z → Is (if g = true then G else H) z w → R w H) → rAnyI X v u H R

/-- two parts from the left, then what is done with both -/
theorem two {p1 g1 g2 : Bool} {a b : Expr} {K2 : D → D → Rho → Prop} (hp : p = true ∨ g1 = true) (h : W p g1 X a ρ fun x ρ1 => W p g2 X b ρ1 fun y ρ2 => K2 x y ρ2)
    {B : Base} {σ : L2.St} {G H : Hp} (S : Sta B σ ρ G H) {R : V → V → Hp → Prop}
    (k : ∀ v u x y ρ' G' H', K2 x y ρ' → Sta B σ ρ' G' H' → Ex G G' → (p = true → ρ' = ρ ∧ Grow G H G' H') → Is (if g1 = true then G' else H') x v → Is (if g2 = true then G' else H') y u → R v u H') :
    wE X a σ H fun v H1 => wE X b σ H1 fun u H2 => R v u H2 := by
  refine h B σ G H S _ fun v x ρ1 G1 H1 q1 S1 e1 pu1 i1 => ?_
  refine q1 B σ G1 H1 S1 _ fun u y ρ2 G2 H2 q2 S2 e2 pu2 i2 => ?_
  refine k v u x y ρ2 G2 H2 q2 S2 (e1.trans e2) (fun z => ⟨(pu2 z).1.trans (pu1 z).1, (pu1 z).2.trans (pu2 z).2⟩) ?_ i2
  cases g1 with
  | true => exact Is.mono e2 _ _ i1
  | false =>
    rcases hp with z | z
    · exact Is.mono (pu2 z).2.h _ _ i1
    · cases z
theorem is_and {g1 g2 : Bool} {G H : Hp} (x : Ex G H) {d : D} {v : V} (h : Is (if g1 = true then G else H) d v) : Is (if (g1 && g2) = true then G else H) d v := by
  cases g1 with
  | true =>
    cases g2 with
    | true => exact h
    | false => exact Is.mono x _ _ h
  | false => exact h
theorem is_and' {g1 g2 : Bool} {G H : Hp} (x : Ex G H) {d : D} {v : V} (h : Is (if g2 = true then G else H) d v) : Is (if (g1 && g2) = true then G else H) d v := by
  cases g2 with
  | true =>
    cases g1 with
    | true => exact h
    | false => exact Is.mono x _ _ h
  | false =>
    cases g1 with
    | true => exact h
    | false => exact h
theorem w_bin (g1 g2 : Bool) {a b : Expr} {op : Operator} {pos : Pos} (hp : p = true ∨ g1 = true)
    (h : W p g1 X a ρ fun x ρ1 => W p g2 X b ρ1 fun y ρ2 => Op2 (g1 && g2) X (binaryOp op) x y fun z => Q z ρ2) : W p g X (.BinOp a op b pos) ρ Q := fun B σ G H S R r => by
  refine wE_of (pe_op op_any pe_w pe_w) ?_
  refine two (p1 := p) hp h S fun v u x y ρ' G' H' q S' e pu i1 i2 => ?_
  exact q G' H' v u R S'.ex (is_and S'.ex i1) (is_and' S'.ex i2) fun w z G2 H2 hz gr iz => r w z ρ' G2 H2 hz (S'.grow gr) (e.trans gr.g) (fun z => ⟨(pu z).1, (pu z).2.trans gr⟩) (is_h (S'.grow gr) iz)
theorem w_cmp (g1 g2 : Bool) {a b : Expr} {op : CmpOp} {pos : Pos} (hm : behindInMarks op b = false) (hp : p = true ∨ g1 = true)
    (h : W p g1 X a ρ fun x ρ1 => W p g2 X b ρ1 fun y ρ2 => Op2 (g1 && g2) X (compareOp op) x y fun z => Q z ρ2) : W p g X (.Compare a [op] [b] pos) ρ Q := fun B σ G H S R r => by
  refine wE_of (pe_cmpR op_any pe_w pe_w hm) ?_
  refine two (p1 := p) hp h S fun v u x y ρ' G' H' q S' e pu i1 i2 => ?_
  exact q G' H' v u R S'.ex (is_and S'.ex i1) (is_and' S'.ex i2) fun w z G2 H2 hz gr iz => r w z ρ' G2 H2 hz (S'.grow gr) (e.trans gr.g) (fun z => ⟨(pu z).1, (pu z).2.trans gr⟩) (is_h (S'.grow gr) iz)
theorem w_un {a : Expr} {op : UnaryOp} {pos : Pos} (h : W p true X a ρ fun x ρ1 => Op1 true X (unaryOp op) x fun z => Q z ρ1) : W p g X (.UnaryOp op a pos) ρ Q := fun B σ G H S R r => by
  refine wE_of (pe_un un_any pe_w) ?_
  refine h B σ G H S _ fun v x ρ1 G1 H1 q1 S1 e1 pu1 i1 => ?_
  exact q1 G1 H1 v R S1.ex i1 fun w z G2 H2 hz gr iz => r w z ρ1 G2 H2 hz (S1.grow gr) (e1.trans gr.g) (fun z => ⟨(pu1 z).1, (pu1 z).2.trans gr⟩) (is_h (S1.grow gr) iz)
theorem w_ix (g1 g2 : Bool) {a b : Expr} {pos : Pos} (hs : PlainIx b) (hp : p = true ∨ g1 = true)
    (h : W p g1 X a ρ fun x ρ1 => W p true X b ρ1 fun y ρ2 => OpI g1 X x y fun z => Q z ρ2) : W p g1 X (.Subscript a b pos) ρ Q := fun B σ G H S R r => by
  refine wE_of (pe_ix ix_any pe_w pe_w hs) ?_
  refine two (p1 := p) (g2 := true) hp h S fun v u x y ρ' G' H' q S' e pu i1 i2 => ?_
  refine q G' H' v u R S'.ex i1 ?_ fun w z hz iz => r w z ρ' G' H' hz S' e pu iz
  cases g1 with
  | true => exact i2
  | false => exact Is.mono S'.ex _ _ i2

/-! ### truth -/
def TruD (g : Bool) (d : D) (b : Bool) : Prop := match d with
  | .non => b = false
  | .bl k => b = k
  | .int i => b = (i != 0)
  | .str y => y.length ≤ sizeLine ∧ b = ((y.length : Int) != 0)
  | .lst xs => b = !xs.isEmpty
  | .tup xs => b = !xs.isEmpty
  | .dic xs => b = !xs.isEmpty
  | _ => False
theorem IsA.isEmpty {H : Hp} {ds : List D} {xs : List V} (h : IsA H ds xs) : xs.isEmpty = ds.isEmpty := by
  have e := h.length
  cases ds <;> cases xs <;> simp_all
theorem IsK.isEmpty {H : Hp} : ∀ {ds : List (Key × D)} {xs : List (Key × V)}, IsK H ds xs → xs.isEmpty = ds.isEmpty
  | [], _, h => by cases h; rfl
  | (k, d) :: ds, _, ⟨x, r, e1, e2, e3⟩ => by subst e1; rfl
theorem tru_of {K : PySem.W.Frag} {H : Hp} {d : D} {v : V} {b : Bool} (h : Is H d v) (t : TruD g d b) : TruV K v H b := by
  cases d with
  | non => cases h; exact t
  | bl k => cases h; exact t
  | int i => cases h; exact t
  | str y => cases h; exact t
  | ty n => exact t.elim
  | lst ds =>
    obtain ⟨a, xs, rfl, e, i⟩ := h
    exact .inl ⟨xs, .inl (.inl e), by rw [i.isEmpty]; exact t⟩
  | tup ds =>
    obtain ⟨a, xs, rfl, e, i⟩ := h
    exact .inr (.inl ⟨xs, .inl (.inl e), by rw [i.isEmpty]; exact t⟩)
  | obj C fs => exact t.elim
  | dic ds =>
    obtain ⟨a, xs, rfl, e, i⟩ := h
    exact .inr (.inr ⟨xs, e, by rw [i.isEmpty]; exact t⟩)
  | scr K ns => exact t.elim
/-- an expression's value as a test -/
theorem t_val {e : Expr} (h : W p false X e ρ fun d ρ' => ∃ b, TruD false d b ∧ QT b ρ') (he : ∀ whole, isTrue e X.env whole = (do let v ← whole; standAt e.pos; holding [v] (truthy v)) := by intro _; rfl) : WT p X e ρ QT := fun B σ G H S R r => by
  refine wT_of (pt_truth pe_w he) ?_
  refine h B σ G H S _ fun v d ρ' G' H' ⟨b, tb, q⟩ S' x pu i => ⟨b, tru_of (g := false) i tb, r b ρ' G' H' q S' x pu⟩
theorem t_cmp (g1 g2 : Bool) {a b : Expr} {op : CmpOp} {pos : Pos} (hm : behindInMarks op b = false) (hp : p = true ∨ g1 = true)
    (h : W p g1 X a ρ fun x ρ1 => W p g2 X b ρ1 fun y ρ2 => Op2 (g1 && g2) X (compareOp op) x y fun z => ∃ k, z = .bl k ∧ QT k ρ2) : WT p X (.Compare a [op] [b] pos) ρ QT := fun B σ G H S R r => by
  refine wT_of (pt_cmpR op_any pe_w pe_w hm) ?_
  refine two (p1 := p) hp h S fun v u x y ρ' G' H' q S' e pu i1 i2 => ?_
  refine q G' H' v u _ S'.ex (is_and S'.ex i1) (is_and' S'.ex i2) fun w z G2 H2 hz gr iz => ?_
  obtain ⟨k, rfl, hk⟩ := hz
  exact ⟨k, iz, r k ρ' G2 H2 hk (S'.grow gr) (e.trans gr.g) fun z => ⟨(pu z).1, (pu z).2.trans gr⟩⟩
theorem t_not {a : Expr} {pos : Pos} (h : WT p X a ρ fun b ρ' => QT (!b) ρ') : WT p X (.UnaryOp .Not a pos) ρ QT := fun B σ G H S R r => by
  refine wT_of (pt_not pt_w) ?_
  exact h B σ G H S _ fun b ρ' G' H' q S' x pu => r (!b) ρ' G' H' q S' x pu
/-- and, or: the list of the parts -/
def WB (X : Cx) (op : BoolOp) (es : List Expr) (pos : Pos) : TT := fun σ H R => ∀ whole pins s, Inv X pins σ H s → wpAny (model X.prog X.w) X.A (isTrue (.BoolOp op es pos) X.env whole) (TP X pins σ R) X.xe s
theorem pw_w {X : Cx} {op : BoolOp} {es : List Expr} {pos : Pos} : PW X (.BoolOp op es pos) (WB X op es pos) := ⟨fun wh pins s σ H R I h => h wh pins s I⟩
def WTB (p : Bool) (X : Cx) (op : BoolOp) (es : List Expr) (pos : Pos) (ρ : Rho) (Q : Bool → Rho → Prop) : Prop :=
  ∀ (B : Base) (σ : L2.St) (G H : Hp), Sta B σ ρ G H → ∀ R : Bool → Hp → Prop,
    (∀ b ρ' G' H', Q b ρ' → Sta B σ ρ' G' H' → Ex G G' → (p = true → ρ' = ρ ∧ Grow G H G' H') → R b H') → WB X op es pos σ H R
theorem t_bool {op : BoolOp} {es : List Expr} {pos : Pos} (h : WTB p X op es pos ρ QT) : WT p X (.BoolOp op es pos) ρ QT := fun B σ G H S R r =>
  wT_of (PW.pt pw_w) (h B σ G H S R r)
theorem tb_and1 {a : Expr} {pos : Pos} (h : WT p X a ρ QT) : WTB p X .And [a] pos ρ QT := fun B σ G H S R r wh pins s I =>
  (pw_and1 pt_w).run wh pins s σ H R I (h B σ G H S R r)
theorem tb_or1 {a : Expr} {pos : Pos} (h : WT p X a ρ QT) : WTB p X .Or [a] pos ρ QT := fun B σ G H S R r wh pins s I =>
  (pw_or1 pt_w).run wh pins s σ H R I (h B σ G H S R r)
theorem tb_and {a b : Expr} {rest : List Expr} {pos : Pos} (h : WT p X a ρ fun c ρ1 => if c = true then WTB p X .And (b :: rest) pos ρ1 QT else QT false ρ1) : WTB p X .And (a :: b :: rest) pos ρ QT := fun B σ G H S R r wh pins s I => by
  refine (pw_and pt_w pw_w).run wh pins s σ H R I ?_
  refine h B σ G H S _ fun c ρ' G' H' q S' x pu => ?_
  cases c with
  | true => exact q B σ G' H' S' R fun b ρ2 G2 H2 q2 S2 x2 pu2 => r b ρ2 G2 H2 q2 S2 (x.trans x2) fun z => ⟨(pu2 z).1.trans (pu z).1, (pu z).2.trans (pu2 z).2⟩
  | false => exact r false ρ' G' H' q S' x pu
theorem tb_or {a b : Expr} {rest : List Expr} {pos : Pos} (h : WT p X a ρ fun c ρ1 => if c = true then QT true ρ1 else WTB p X .Or (b :: rest) pos ρ1 QT) : WTB p X .Or (a :: b :: rest) pos ρ QT := fun B σ G H S R r wh pins s I => by
  refine (pw_or pt_w pw_w).run wh pins s σ H R I ?_
  refine h B σ G H S _ fun c ρ' G' H' q S' x pu => ?_
  cases c with
  | false => exact q B σ G' H' S' R fun b ρ2 G2 H2 q2 S2 x2 pu2 => r b ρ2 G2 H2 q2 S2 (x.trans x2) fun z => ⟨(pu2 z).1.trans (pu z).1, (pu z).2.trans (pu2 z).2⟩
  | true => exact r true ρ' G' H' q S' x pu
/-- a if t else b -/
theorem w_if {c a b : Expr} {pos : Pos} (h : WT p X c ρ fun k ρ1 => if k = true then W p g X a ρ1 Q else W p g X b ρ1 Q) : W p g X (.IfExp c a b pos) ρ Q := fun B σ G H S R r => by
  refine wE_of (pe_ifExp pt_w pe_w pe_w) ?_
  refine h B σ G H S _ fun k ρ' G' H' q S' x pu => ?_
  cases k with
  | true => exact q B σ G' H' S' R fun v d ρ2 G2 H2 q2 S2 x2 pu2 i => r v d ρ2 G2 H2 q2 S2 (x.trans x2) (fun z => ⟨(pu2 z).1.trans (pu z).1, (pu z).2.trans (pu2 z).2⟩) i
  | false => exact q B σ G' H' S' R fun v d ρ2 G2 H2 q2 S2 x2 pu2 i => r v d ρ2 G2 H2 q2 S2 (x.trans x2) (fun z => ⟨(pu2 z).1.trans (pu z).1, (pu z).2.trans (pu2 z).2⟩) i
/-- and, or, as values: bools -/
theorem w_one {a : Expr} {op : BoolOp} {pos : Pos} (h : W p g X a ρ Q) : W p g X (.BoolOp op [a] pos) ρ Q := fun B σ G H S R r => wE_of (pe_one pe_w) (h B σ G H S R r)
theorem w_and {a b : Expr} {rest : List Expr} {pos : Pos} (h : W p true X a ρ fun x ρ1 => ∃ c, x = .bl c ∧ if c = true then W p g X (.BoolOp .And (b :: rest) pos) ρ1 Q else Q (.bl false) ρ1) : W p g X (.BoolOp .And (a :: b :: rest) pos) ρ Q := fun B σ G H S R r => by
  refine wE_of (pe_and pe_w pe_w) ?_
  refine h B σ G H S _ fun v d ρ' G' H' q S' x pu i => ?_
  obtain ⟨c, rfl, q⟩ := q
  refine ⟨c, i, ?_⟩
  cases c with
  | true => exact q B σ G' H' S' R fun v d ρ2 G2 H2 q2 S2 x2 pu2 i => r v d ρ2 G2 H2 q2 S2 (x.trans x2) (fun z => ⟨(pu2 z).1.trans (pu z).1, (pu z).2.trans (pu2 z).2⟩) i
  | false => exact r _ _ ρ' G' H' q S' x pu (is_h S' rfl)
theorem w_or {a b : Expr} {rest : List Expr} {pos : Pos} (h : W p true X a ρ fun x ρ1 => ∃ c, x = .bl c ∧ if c = true then Q (.bl true) ρ1 else W p g X (.BoolOp .Or (b :: rest) pos) ρ1 Q) : W p g X (.BoolOp .Or (a :: b :: rest) pos) ρ Q := fun B σ G H S R r => by
  refine wE_of (pe_or pe_w pe_w) ?_
  refine h B σ G H S _ fun v d ρ' G' H' q S' x pu i => ?_
  obtain ⟨c, rfl, q⟩ := q
  refine ⟨c, i, ?_⟩
  cases c with
  | false => exact q B σ G' H' S' R fun v d ρ2 G2 H2 q2 S2 x2 pu2 i => r v d ρ2 G2 H2 q2 S2 (x.trans x2) (fun z => ⟨(pu2 z).1.trans (pu z).1, (pu z).2.trans (pu2 z).2⟩) i
  | true => exact r _ _ ρ' G' H' q S' x pu (is_h S' rfl)
theorem w_not {a : Expr} {pos : Pos} (h : W p true X a ρ fun x ρ1 => ∃ c, x = .bl c ∧ Q (.bl (!c)) ρ1) : W p g X (.UnaryOp .Not a pos) ρ Q := fun B σ G H S R r => by
  refine wE_of (pe_not pe_w) ?_
  refine h B σ G H S _ fun v d ρ' G' H' q S' x pu i => ?_
  obtain ⟨c, rfl, q⟩ := q
  exact ⟨c, i, r _ _ ρ' G' H' q S' x pu (is_h S' rfl)⟩

/-! ### arguments, displays, calls -/
theorem a_nil (q : QA [] ρ) : WA p g X [] ρ QA := fun B σ G H S R r => wA_of pa_nil (r [] [] ρ G H q S (Ex.refl G) (fun _ => ⟨rfl, Grow.refl S.ex⟩) rfl)
theorem a_cons {e : Expr} {es : List Expr} (hp : p = true ∨ g = true) (h : W p g X e ρ fun d ρ1 => WA p g X es ρ1 fun ds ρ2 => QA (d :: ds) ρ2) (hs : starEach (e :: es) X.env = (false, eval e X.env) :: starEach es X.env := by rfl) : WA p g X (e :: es) ρ QA := fun B σ G H S R r => by
  refine wA_of (pa_cons pe_w pa_w hs) ?_
  refine h B σ G H S _ fun v d ρ1 G1 H1 q1 S1 e1 pu1 i1 => ?_
  refine q1 B σ G1 H1 S1 _ fun vs ds ρ2 G2 H2 q2 S2 e2 pu2 i2 => ?_
  refine r (v :: vs) (d :: ds) ρ2 G2 H2 q2 S2 (e1.trans e2) (fun z => ⟨(pu2 z).1.trans (pu1 z).1, (pu1 z).2.trans (pu2 z).2⟩) ⟨v, vs, rfl, ?_, i2⟩
  cases g with
  | true => exact Is.mono e2 _ _ i1
  | false =>
    rcases hp with z | z
    · exact Is.mono (pu2 z).2.h _ _ i1
    · cases z
theorem w_lst {es : List Expr} {pos : Pos} (h : WA p true X es ρ fun ds ρ' => ds.length ≤ sizeLine ∧ Q (.lst ds) ρ') : W p g X (.List es pos) ρ Q := fun B σ G H S R r => by
  refine wE_of (pe_lst pa_w) ?_
  refine h B σ G H S _ fun vs ds ρ' G' H' q S' x pu i => ⟨by rw [i.length]; exact q.1, fun a ha => ?_⟩
  have gr := Grow.new (o := .lst vs) S'.ex ha
  exact r _ (.lst ds) ρ' _ _ q.2 (S'.grow gr) (x.trans gr.g) (fun z => ⟨(pu z).1, (pu z).2.trans gr⟩) (is_h (S'.grow gr) ⟨a, vs, rfl, upd_same, IsA.mono gr.g _ _ i⟩)
theorem w_tup {es : List Expr} {k} {pos : Pos} (h : WA p true X es ρ fun ds ρ' => ds.length ≤ sizeLine ∧ Q (.tup ds) ρ') : W p g X (.Tuple es k pos) ρ Q := fun B σ G H S R r => by
  refine wE_of (pe_tup pa_w) ?_
  refine h B σ G H S _ fun vs ds ρ' G' H' q S' x pu i => ⟨by rw [i.length]; exact q.1, fun a ha => ?_⟩
  have gr := Grow.new (o := .tup vs) S'.ex ha
  exact r _ (.tup ds) ρ' _ _ q.2 (S'.grow gr) (x.trans gr.g) (fun z => ⟨(pu z).1, (pu z).2.trans gr⟩) (is_h (S'.grow gr) ⟨a, vs, rfl, upd_same, IsA.mono gr.g _ _ i⟩)
/-- f(e, ..), f a built-in -/
theorem w_callB (g1 : Bool) {x : Str} {id : String} {e : Expr} {es : List Expr} {pp pos : Pos} (hg : Gl X x) (hm : X.mg x = none) (hv : bootBuiltins x = some (.builtin id))
    (h : WA p g1 X (e :: es) ρ fun ds ρ' => OpC g1 X (.builtin id) ds fun z => Q z ρ') (hn : x ≠ "__name__" := by decide) (hdb : (x == ("__debug__" : Str)) = false := by decide)
    (he : starEach (e :: es) X.env = (false, eval e X.env) :: starEach es X.env := by rfl) (hpl : (backTo pos (starEach es X.env)).any (·.1) = false := by rfl) : W p g X (.Call (.Name x pp) (e :: es) [] pos) ρ Q := fun B σ G H S R r => by
  refine wE_of (pe_callB call_any hg hm hv pa_w hn hdb he hpl) ?_
  refine h B σ G H S _ fun vs ds ρ' G' H' q S' x pu i => ?_
  exact q G' H' vs R S'.ex i fun w z G2 H2 hz gr iz => r w z ρ' G2 H2 hz (S'.grow gr) (x.trans gr.g) (fun z => ⟨(pu z).1, (pu z).2.trans gr⟩) (is_h (S'.grow gr) iz)
theorem w_callTy (g1 : Bool) {x : Str} {T : String} {e : Expr} {es : List Expr} {pp pos : Pos} (hg : Gl X x) (hm : X.mg x = none) (hv : bootBuiltins x = some (.type T))
    (h : WA p g1 X (e :: es) ρ fun ds ρ' => OpC g1 X (.type T) ds fun z => Q z ρ') (hn : x ≠ "__name__" := by decide) (hdb : (x == ("__debug__" : Str)) = false := by decide)
    (he : starEach (e :: es) X.env = (false, eval e X.env) :: starEach es X.env := by rfl) (hpl : (backTo pos (starEach es X.env)).any (·.1) = false := by rfl) : W p g X (.Call (.Name x pp) (e :: es) [] pos) ρ Q := fun B σ G H S R r => by
  refine wE_of (pe_callTy call_any hg hm hv pa_w hn hdb he hpl) ?_
  refine h B σ G H S _ fun vs ds ρ' G' H' q S' x pu i => ?_
  exact q G' H' vs R S'.ex i fun w z G2 H2 hz gr iz => r w z ρ' G2 H2 hz (S'.grow gr) (x.trans gr.g) (fun z => ⟨(pu z).1, (pu z).2.trans gr⟩) (is_h (S'.grow gr) iz)
end
end DD

namespace DD
open PySem PySem.Spec PyProof.Rows L2

/-! ### data as PyData -/
mutual
def py : D → Option PyData
  | .non => some .none
  | .bl b => some (.bool b)
  | .int i => some (.int i)
  | .str s => some (.str s)
  | .ty _ => none
  | .lst xs => (pyA xs).map .list
  | .tup xs => (pyA xs).map .tuple
  | .obj _ _ => none
  | .dic _ => none
  | .scr _ _ => none
def pyA : List D → Option (List PyData)
  | [] => some []
  | d :: ds => (py d).bind fun p => (pyA ds).map (p :: ·)
end
mutual
theorem dp_of {K : PySem.W.Frag} {H : Hp} : ∀ (d : D) (v : V) (q : PyData), Is H d v → py d = some q → Dp K H v q
  | .non, _, _, h, e => by cases h; cases e; exact .non
  | .bl b, _, _, h, e => by cases h; cases e; exact .bl b
  | .int i, _, _, h, e => by cases h; cases e; exact .int i
  | .str s, _, _, h, e => by cases h; cases e; exact .str s
  | .ty n, _, _, h, e => by cases e
  | .lst ds, _, _, ⟨a, xs, e1, e2, e3⟩, e => by
    subst e1
    cases hq : pyA ds with
    | none => rw [py, hq] at e; cases e
    | some qs => rw [py, hq] at e; cases e; exact .lst (.inl (.inl e2)) (dpA_of ds xs qs e3 hq)
  | .tup ds, _, _, ⟨a, xs, e1, e2, e3⟩, e => by
    subst e1
    cases hq : pyA ds with
    | none => rw [py, hq] at e; cases e
    | some qs => rw [py, hq] at e; cases e; exact .tup (.inl (.inl e2)) (dpA_of ds xs qs e3 hq)
  | .obj C fs, _, _, h, e => by cases e
  | .dic _, _, _, h, e => by cases e
  | .scr _ _, _, _, h, e => by cases e
theorem dpA_of {K : PySem.W.Frag} {H : Hp} : ∀ (ds : List D) (vs : List V) (qs : List PyData), IsA H ds vs → pyA ds = some qs → DpAll K H vs qs
  | [], _, _, h, e => by cases h; cases e; exact .nil
  | d :: ds, _, qs, ⟨x, r, e1, e2, e3⟩, e => by
    subst e1
    cases h1 : py d with
    | none => rw [pyA, h1] at e; cases e
    | some p =>
      cases h2 : pyA ds with
      | none => rw [pyA, h1, h2] at e; cases e
      | some ps => rw [pyA, h1, h2] at e; cases e; exact .cons (dp_of d x p e2 h1) (dpA_of ds r ps e3 h2)
end
theorem pyA_ints : ∀ ns : List Int, pyA (ns.map D.int) = some (ns.map PyData.int)
  | [] => rfl
  | n :: ns => by show (py (.int n)).bind _ = _; rw [pyA_ints ns]; rfl
theorem pyA_lsts : ∀ ls : List (List Int), pyA (ls.map fun l => D.lst (l.map D.int)) = some (ls.map fun l => PyData.list (l.map PyData.int))
  | [] => rfl
  | l :: ls => by
    show (py (.lst (l.map D.int))).bind _ = _
    rw [pyA_lsts ls]
    show ((pyA (l.map D.int)).map PyData.list).bind _ = _
    rw [pyA_ints]
    rfl
theorem pyA_tups : ∀ ls : List (List Int), pyA (ls.map fun l => D.tup (l.map D.int)) = some (ls.map fun l => PyData.tuple (l.map PyData.int))
  | [] => rfl
  | l :: ls => by
    show (py (.tup (l.map D.int))).bind _ = _
    rw [pyA_tups ls]
    show ((pyA (l.map D.int)).map PyData.tuple).bind _ = _
    rw [pyA_ints]
    rfl
theorem lay_ints : ∀ ns : List Int, PyData.canLayAll0 (ns.map PyData.int) = true
  | [] => rfl
  | n :: ns => by show (true && PyData.canLayAll0 (ns.map PyData.int)) = true; rw [lay_ints ns]; rfl
theorem lay_lsts : ∀ ls : List (List Int), PyData.canLayAll0 (ls.map fun l => PyData.list (l.map PyData.int)) = true
  | [] => rfl
  | l :: ls => by show (PyData.canLayAll0 (l.map PyData.int) && PyData.canLayAll0 (ls.map _)) = true; rw [lay_lsts ls, lay_ints]; rfl
theorem lay_tups : ∀ ls : List (List Int), PyData.canLayAll0 (ls.map fun l => PyData.tuple (l.map PyData.int)) = true
  | [] => rfl
  | l :: ls => by show (PyData.canLayAll0 (l.map PyData.int) && PyData.canLayAll0 (ls.map _)) = true; rw [lay_tups ls, lay_ints]; rfl
theorem eqv_ints : ∀ ns ms : List Int, PyData.eqvAll (ns.map PyData.int) (ms.map PyData.int) = decide (ns = ms)
  | [], [] => rfl
  | [], m :: ms => by simp [PyData.eqvAll]
  | n :: ns, [] => by simp [PyData.eqvAll]
  | n :: ns, m :: ms => by
    show (n == m && PyData.eqvAll (ns.map PyData.int) (ms.map PyData.int)) = _
    rw [eqv_ints ns ms]
    by_cases h : n = m <;> by_cases h2 : ns = ms <;> simp [h, h2]
theorem eqv_lsts : ∀ ns ms : List (List Int), PyData.eqvAll (ns.map fun l => PyData.list (l.map PyData.int)) (ms.map fun l => PyData.list (l.map PyData.int)) = decide (ns = ms)
  | [], [] => rfl
  | [], m :: ms => by simp [PyData.eqvAll]
  | n :: ns, [] => by simp [PyData.eqvAll]
  | n :: ns, m :: ms => by
    show (PyData.eqvAll (n.map PyData.int) (m.map PyData.int) && PyData.eqvAll (ns.map _) (ms.map _)) = _
    rw [eqv_lsts ns ms, eqv_ints]
    by_cases h : n = m <;> by_cases h2 : ns = ms <;> simp [h, h2]
theorem eqv_tups : ∀ ns ms : List (List Int), PyData.eqvAll (ns.map fun l => PyData.tuple (l.map PyData.int)) (ms.map fun l => PyData.tuple (l.map PyData.int)) = decide (ns = ms)
  | [], [] => rfl
  | [], m :: ms => by simp [PyData.eqvAll]
  | n :: ns, [] => by simp [PyData.eqvAll]
  | n :: ns, m :: ms => by
    show (PyData.eqvAll (n.map PyData.int) (m.map PyData.int) && PyData.eqvAll (ns.map _) (ms.map _)) = _
    rw [eqv_tups ns ms, eqv_ints]
    by_cases h : n = m <;> by_cases h2 : ns = ms <;> simp [h, h2]

section
variable {g : Bool} {X : Cx} {Z : D → Prop}
/-! ### operations -/
theorem is_any {G H : Hp} (x : Ex G H) {d : D} {v : V} (h : Is (if g = true then G else H) d v) : Is H d v := by
  cases g with
  | true => exact Is.mono x _ _ h
  | false => exact h
theorem isA_any {G H : Hp} (x : Ex G H) {d : List D} {v : List V} (h : IsA (if g = true then G else H) d v) : IsA H d v := by
  cases g with
  | true => exact IsA.mono x _ _ h
  | false => exact h
theorem op2_sc {f : Value → Value → Sem Value} {r : R2} {x y z : D} {vx vy vz : V} (ho : OpR X f r) (hx : sc x = some vx) (hy : sc y = some vy) (hz : sc z = some vz) (h : ∀ (H : Hp) (R : VK), R vz H → r vx vy H R) (q : Z z) : Op2 g X f x y Z := by
  intro G H v u R ex i j k
  have e1 : v = vx := Is.sc hx i
  have e2 : u = vy := Is.sc hy j
  subst e1; subst e2
  exact ⟨r, ho, h H R (k vz z G H q (Grow.refl ex) (Is.of_sc hz))⟩
theorem o_add {i j : Int} (q : Z (.int (i + j))) : Op2 g X (binaryOp .Add) (.int i) (.int j) Z := op2_sc (z := .int (i + j)) op_add rfl rfl rfl (fun _ _ h => ⟨i, j, rfl, rfl, h⟩) q
theorem o_sub {i j : Int} (q : Z (.int (i - j))) : Op2 g X (binaryOp .Sub) (.int i) (.int j) Z := op2_sc (z := .int (i - j)) op_sub rfl rfl rfl (fun _ _ h => ⟨i, j, rfl, rfl, h⟩) q
theorem o_mul {i j : Int} (q : (-(2 ^ 64) < i ∧ i < 2 ^ 64 ∨ -(2 ^ 64) < j ∧ j < 2 ^ 64) ∧ Z (.int (i * j))) : Op2 g X (binaryOp .Mult) (.int i) (.int j) Z := op2_sc (z := .int (i * j)) op_mul rfl rfl rfl (fun _ _ h => ⟨i, j, rfl, rfl, q.1, h⟩) q.2
theorem o_mod {i j : Int} (q : 0 < j ∧ Z (.int (i % j))) : Op2 g X (binaryOp .Mod) (.int i) (.int j) Z := op2_sc (z := .int (i % j)) op_mod rfl rfl rfl (fun _ _ h => ⟨i, j, rfl, rfl, q.1, h⟩) q.2
theorem o_fdiv {i j : Int} (q : (0 < j ∧ j < 1073741824) ∧ Z (.int (i / j))) : Op2 g X (binaryOp .FloorDiv) (.int i) (.int j) Z := op2_sc (z := .int (i / j)) op_fdiv rfl rfl rfl (fun _ _ h => ⟨i, j, rfl, rfl, q.1, h⟩) q.2
theorem o_pow {i j : Int} (q : (0 ≤ j ∧ j ≤ 1000000 ∧ i.natAbs < 2 ^ 64) ∧ Z (.int (i ^ j.toNat))) : Op2 g X (binaryOp .Pow) (.int i) (.int j) Z := op2_sc (z := .int (i ^ j.toNat)) op_pow rfl rfl rfl (fun _ _ h => ⟨i, j, rfl, rfl, q.1, h⟩) q.2
theorem o_adds {i j : Str} (q : i.length + j.length ≤ sizeLine ∧ Z (.str (i ++ j))) : Op2 g X (binaryOp .Add) (.str i) (.str j) Z := op2_sc (z := .str (i ++ j)) op_add_str rfl rfl rfl (fun _ _ h => ⟨i, j, rfl, rfl, q.1, h⟩) q.2
theorem o_cat {xs ys : List D} (q : xs.length + ys.length ≤ sizeLine ∧ Z (.lst (xs ++ ys))) : Op2 true X (binaryOp .Add) (.lst xs) (.lst ys) Z := by
  intro G H v u R ex ⟨a, as, e1, e2, e3⟩ ⟨b, bs, f1, f2, f3⟩ k
  refine ⟨_, op_cat, a, b, as, bs, e1, f1, ex _ _ e2, ex _ _ f2, by rw [e3.length, f3.length]; exact q.1, fun p hp => ?_⟩
  have gr := Grow.new (o := .lst (as ++ bs)) ex hp
  exact k _ (.lst (xs ++ ys)) _ _ q.2 gr ⟨p, _, rfl, upd_same, IsA.mono gr.g _ _ (e3.append f3)⟩
theorem IsA.rep {H : Hp} {ds : List D} {xs : List V} (h : IsA H ds xs) : ∀ n : Nat, IsA H (List.replicate n ds).flatten (List.replicate n xs).flatten
  | 0 => rfl
  | n + 1 => by
    rw [List.replicate_succ, List.replicate_succ, List.flatten_cons, List.flatten_cons]
    exact h.append (IsA.rep h n)
theorem o_rep {xs : List D} {n : Int} (q : (-(2 ^ 63) ≤ n ∧ n < 2 ^ 63 ∧ xs.length * n.toNat ≤ sizeLine) ∧ Z (.lst (List.replicate n.toNat xs).flatten)) : Op2 true X (binaryOp .Mult) (.lst xs) (.int n) Z := by
  intro G H v u R ex ⟨a, as, e1, e2, e3⟩ f1 k
  refine ⟨_, op_rep, a, n, as, e1, f1, ex _ _ e2, q.1.1, q.1.2.1, by rw [e3.length]; exact q.1.2.2, fun p hp => ?_⟩
  have gr := Grow.new (o := .lst (List.replicate n.toNat as).flatten) ex hp
  exact k _ (.lst (List.replicate n.toNat xs).flatten) _ _ q.2 gr ⟨p, _, rfl, upd_same, IsA.mono gr.g _ _ (e3.rep _)⟩
theorem o_lt {i j : Int} (q : Z (.bl (decide (i < j)))) : Op2 g X (compareOp .Lt) (.int i) (.int j) Z := op2_sc (z := .bl (decide (i < j))) op_lt rfl rfl rfl (fun _ _ h => ⟨i, j, rfl, rfl, h⟩) q
theorem o_le {i j : Int} (q : Z (.bl (decide (i ≤ j)))) : Op2 g X (compareOp .LtE) (.int i) (.int j) Z := op2_sc (z := .bl (decide (i ≤ j))) op_le rfl rfl rfl (fun _ _ h => ⟨i, j, rfl, rfl, h⟩) q
theorem o_gt {i j : Int} (q : Z (.bl (decide (j < i)))) : Op2 g X (compareOp .Gt) (.int i) (.int j) Z := op2_sc (z := .bl (decide (j < i))) op_gt rfl rfl rfl (fun _ _ h => ⟨i, j, rfl, rfl, h⟩) q
theorem o_ge {i j : Int} (q : Z (.bl (decide (j ≤ i)))) : Op2 g X (compareOp .GtE) (.int i) (.int j) Z := op2_sc (z := .bl (decide (j ≤ i))) op_ge rfl rfl rfl (fun _ _ h => ⟨i, j, rfl, rfl, h⟩) q
theorem o_eq {i j : Int} (q : Z (.bl (decide (i = j)))) : Op2 g X (compareOp .Eq) (.int i) (.int j) Z := op2_sc (z := .bl (decide (i = j))) op_eq rfl rfl rfl (fun _ _ h => ⟨rfl, by rw [show decide (V.int i = V.int j) = decide (i = j) by by_cases e : i = j <;> simp [e]]; exact h⟩) q
theorem o_ne {i j : Int} (q : Z (.bl (!decide (i = j)))) : Op2 g X (compareOp .NotEq) (.int i) (.int j) Z := op2_sc (z := .bl (!decide (i = j))) op_ne rfl rfl rfl (fun _ _ h => ⟨rfl, by rw [show decide (V.int i = V.int j) = decide (i = j) by by_cases e : i = j <;> simp [e]]; exact h⟩) q
theorem o_eqs {i j : Str} (q : Z (.bl (decide (i = j)))) : Op2 g X (compareOp .Eq) (.str i) (.str j) Z := op2_sc (z := .bl (decide (i = j))) op_eq rfl rfl rfl (fun _ _ h => ⟨rfl, by rw [show decide (V.str i = V.str j) = decide (i = j) by by_cases e : i = j <;> simp [e]]; exact h⟩) q
theorem o_nes {i j : Str} (q : Z (.bl (!decide (i = j)))) : Op2 g X (compareOp .NotEq) (.str i) (.str j) Z := op2_sc (z := .bl (!decide (i = j))) op_ne rfl rfl rfl (fun _ _ h => ⟨rfl, by rw [show decide (V.str i = V.str j) = decide (i = j) by by_cases e : i = j <;> simp [e]]; exact h⟩) q
/-- == and != of data -/
theorem o_eqD {x y : D} {a b : PyData} (hu : X.A.units + 64 < cLine) (hx : py x = some a) (hy : py y = some b) (sx : SeqAt.shaped a = true) (sy : SeqAt.shaped b = true) (q : Z (.bl (PyData.eqv a b))) : Op2 g X (compareOp .Eq) x y Z := by
  intro G H v u R ex i j k
  exact ⟨_, op_eqD hu, a, b, dp_of _ _ _ (is_any ex i) hx, dp_of _ _ _ (is_any ex j) hy, sx, sy, k _ (.bl (PyData.eqv a b)) G H q (Grow.refl ex) rfl⟩
theorem o_neD {x y : D} {a b : PyData} (hu : X.A.units + 64 < cLine) (hx : py x = some a) (hy : py y = some b) (sx : SeqAt.shaped a = true) (sy : SeqAt.shaped b = true) (q : Z (.bl (!PyData.eqv a b))) : Op2 g X (compareOp .NotEq) x y Z := by
  intro G H v u R ex i j k
  exact ⟨_, op_neD hu, a, b, dp_of _ _ _ (is_any ex i) hx, dp_of _ _ _ (is_any ex j) hy, sx, sy, k _ (.bl (!PyData.eqv a b)) G H q (Grow.refl ex) rfl⟩
theorem o_isN {x : D} {v : V} (hx : sc x = some v) (q : Z (.bl (decide (v = .non)))) : Op2 g X (compareOp .Is) x .non Z := op2_sc (z := .bl (decide (v = .non))) op_isN hx rfl rfl (fun _ _ h => ⟨rfl, h⟩) q
/-- in, not in, over ints -/
theorem all_flat : ∀ ns : List Int, (ns.map V.int).all flatV = true
  | [] => rfl
  | n :: ns => by show (true && (ns.map V.int).all flatV) = true; rw [all_flat ns]; rfl
theorem inV_int (i : Int) : ∀ ns : List Int, inV (.int i) (ns.map V.int) = decide (i ∈ ns)
  | [] => rfl
  | n :: ns => by
    show (n == i || inV (.int i) (ns.map V.int)) = _
    rw [inV_int i ns]
    have e : (n == i) = decide (i = n) := by
      by_cases h : i = n
      · subst h; simp
      · rw [decide_eq_false h]; exact beq_eq_false_iff_ne.mpr fun q => h q.symm
    rw [e, Bool.eq_iff_iff]
    simp
theorem o_in {i : Int} {ns : List Int} (q : Z (.bl (decide (i ∈ ns)))) : Op2 g X (compareOp .In) (.int i) (.lst (ns.map D.int)) Z := by
  intro G H v u R ex i1 j k
  obtain ⟨a, xs, rfl, e2, e3⟩ := is_any ex j
  have e4 := e3.ints
  subst e4
  cases (is_any ex i1 : v = .int i)
  refine ⟨_, op_in_seq, a, _, rfl, .inl (.inl (.inl e2)), rfl, all_flat ns, ?_⟩
  show R (.bl (inV (.int i) (ns.map V.int))) H
  rw [inV_int]
  exact k _ (.bl (decide (i ∈ ns))) G H q (Grow.refl ex) rfl
theorem o_nin {i : Int} {ns : List Int} (q : Z (.bl (!decide (i ∈ ns)))) : Op2 g X (compareOp .NotIn) (.int i) (.lst (ns.map D.int)) Z := by
  intro G H v u R ex i1 j k
  obtain ⟨a, xs, rfl, e2, e3⟩ := is_any ex j
  have e4 := e3.ints
  subst e4
  cases (is_any ex i1 : v = .int i)
  refine ⟨_, op_notIn_seq, a, _, rfl, .inl (.inl (.inl e2)), rfl, all_flat ns, ?_⟩
  show R (.bl (!inV (.int i) (ns.map V.int))) H
  rw [inV_int]
  exact k _ (.bl (!decide (i ∈ ns))) G H q (Grow.refl ex) rfl
theorem o_neg {i : Int} (q : Z (.int (-i))) : Op1 g X (unaryOp .USub) (.int i) Z := by
  intro G H v R ex i1 k
  cases (is_any ex i1 : v = .int i)
  exact ⟨_, un_neg, i, rfl, k _ (.int (-i)) G H q (Grow.refl ex) rfl⟩
/-! ### subscripts -/
theorem x_lst {ds : List D} {i : Int} {d : D} (h : atI ds i = some d) (q : Z d) : OpI g X (.lst ds) (.int i) Z := by
  intro G H v u R ex i1 j k
  have j' : u = .int i := is_any ex j
  subst j'
  have i2 : Is (if g = true then G else H) (.lst ds) v := i1
  obtain ⟨a, xs, rfl, e2, e3⟩ := i1
  have hh : H a = some (.lst xs) := by
    cases g with
    | true => exact ex _ _ e2
    | false => exact e2
  unfold atI at h
  cases hj : ixN ds.length i with
  | none => rw [hj] at h; cases h
  | some n =>
    rw [hj] at h
    obtain ⟨x, hx, ix⟩ := e3.get (show ds[n]? = some d from h)
    refine ⟨_, ix_list, a, xs, i, x, rfl, rfl, .inl (.inl hh), ?_, k x d q ix⟩
    unfold atI
    rw [e3.length, hj]
    exact hx
theorem x_tup {ds : List D} {i : Int} {d : D} (h : atI ds i = some d) (q : Z d) : OpI g X (.tup ds) (.int i) Z := by
  intro G H v u R ex i1 j k
  have j' : u = .int i := is_any ex j
  subst j'
  obtain ⟨a, xs, rfl, e2, e3⟩ := i1
  have hh : H a = some (.tup xs) := by
    cases g with
    | true => exact ex _ _ e2
    | false => exact e2
  unfold atI at h
  cases hj : ixN ds.length i with
  | none => rw [hj] at h; cases h
  | some n =>
    rw [hj] at h
    obtain ⟨x, hx, ix⟩ := e3.get (show ds[n]? = some d from h)
    refine ⟨_, ix_tup, a, xs, i, x, rfl, rfl, .inl (.inl hh), ?_, k x d q ix⟩
    unfold atI
    rw [e3.length, hj]
    exact hx
/-! ### built-ins -/
theorem isA_one {H : Hp} {d : D} {vs : List V} (h : IsA H [d] vs) : ∃ v, vs = [v] ∧ Is H d v := by
  obtain ⟨x, r, rfl, e, e2⟩ := h
  cases e2
  exact ⟨x, rfl, e⟩
theorem isA_two {H : Hp} {d e : D} {vs : List V} (h : IsA H [d, e] vs) : ∃ v u, vs = [v, u] ∧ Is H d v ∧ Is H e u := by
  obtain ⟨x, r, rfl, e, e2⟩ := h
  obtain ⟨y, rfl, e3⟩ := isA_one e2
  exact ⟨x, y, rfl, e, e3⟩
theorem c_lenL {ds : List D} (q : Z (.int (ds.length : Int))) : OpC g X (.builtin "len") [.lst ds] Z := by
  intro G H vs R ex i k
  obtain ⟨v, rfl, a, xs, rfl, e2, e3⟩ := isA_one (isA_any ex i)
  exact ⟨_, call_len_seq, a, xs, rfl, .inl (.inl (.inl e2)), by rw [e3.length]; exact k _ (.int (ds.length : Int)) G H q (Grow.refl ex) rfl⟩
theorem c_lenT {ds : List D} (q : Z (.int (ds.length : Int))) : OpC g X (.builtin "len") [.tup ds] Z := by
  intro G H vs R ex i k
  obtain ⟨v, rfl, a, xs, rfl, e2, e3⟩ := isA_one (isA_any ex i)
  exact ⟨_, call_len_seq, a, xs, rfl, .inr (.inl (.inl e2)), by rw [e3.length]; exact k _ (.int (ds.length : Int)) G H q (Grow.refl ex) rfl⟩
theorem c_lenS {s : Str} (hl : s.length ≤ sizeLine) (q : Z (.int (s.length : Int))) : OpC g X (.builtin "len") [.str s] Z := by
  intro G H vs R ex i k
  obtain ⟨v, rfl, e⟩ := isA_one (isA_any ex i)
  cases (e : v = .str s)
  exact ⟨_, call_len_str, s, rfl, hl, k _ (.int (s.length : Int)) G H q (Grow.refl ex) rfl⟩
theorem c_sum {ns : List Int} (hc : X.calm = true) (q : Z (.int ns.sum)) : OpC g X (.builtin "sum") [.lst (ns.map D.int)] Z := by
  intro G H vs R ex i k
  obtain ⟨v, rfl, a, xs, rfl, e2, e3⟩ := isA_one (isA_any ex i)
  have e4 := e3.ints
  subst e4
  exact ⟨_, cr_sum hc, a, ns, rfl, .inl (.inl e2), k _ (.int ns.sum) G H q (Grow.refl ex) rfl⟩
theorem c_all {bs : List Bool} (hc : X.calm = true) (q : Z (.bl (bs.all id))) : OpC g X (.builtin "all") [.lst (bs.map D.bl)] Z := by
  intro G H vs R ex i k
  obtain ⟨v, rfl, a, xs, rfl, e2, e3⟩ := isA_one (isA_any ex i)
  have e4 := e3.bls
  subst e4
  exact ⟨_, cr_all hc, a, bs, rfl, .inl (.inl e2), k _ (.bl (bs.all id)) G H q (Grow.refl ex) rfl⟩
theorem c_any {bs : List Bool} (hc : X.calm = true) (q : Z (.bl (bs.any id))) : OpC g X (.builtin "any") [.lst (bs.map D.bl)] Z := by
  intro G H vs R ex i k
  obtain ⟨v, rfl, a, xs, rfl, e2, e3⟩ := isA_one (isA_any ex i)
  have e4 := e3.bls
  subst e4
  exact ⟨_, cr_any hc, a, bs, rfl, .inl (.inl e2), k _ (.bl (bs.any id)) G H q (Grow.refl ex) rfl⟩
theorem c_max2 {i j : Int} (hc : X.calm = true) (q : Z (.int (if j > i then j else i))) : OpC g X (.builtin "max") [.int i, .int j] Z := by
  intro G H vs R ex i1 k
  obtain ⟨v, u, rfl, e1, e2⟩ := isA_two (isA_any ex i1)
  cases (e1 : v = .int i); cases (e2 : u = .int j)
  exact ⟨_, call_max2 hc, i, j, rfl, k _ (.int (if j > i then j else i)) G H q (Grow.refl ex) rfl⟩
theorem c_abs {i : Int} (q : Z (.int (if i < 0 then -i else i))) : OpC g X (.builtin "abs") [.int i] Z := by
  intro G H vs R ex i1 k
  obtain ⟨v, rfl, e1⟩ := isA_one (isA_any ex i1)
  cases (e1 : v = .int i)
  exact ⟨_, call_abs, i, rfl, k _ (.int (if i < 0 then -i else i)) G H q (Grow.refl ex) rfl⟩
theorem c_int {i : Int} (q : Z (.int i)) : OpC g X (.type "int") [.int i] Z := by
  intro G H vs R ex i1 k
  obtain ⟨v, rfl, e1⟩ := isA_one (isA_any ex i1)
  cases (e1 : v = .int i)
  exact ⟨_, call_int1, .inl ⟨i, rfl, k _ (.int i) G H q (Grow.refl ex) rfl⟩⟩
theorem c_intB {b : Bool} (q : Z (.int (if b then 1 else 0))) : OpC g X (.type "int") [.bl b] Z := by
  intro G H vs R ex i1 k
  obtain ⟨v, rfl, e1⟩ := isA_one (isA_any ex i1)
  cases (e1 : v = .bl b)
  exact ⟨_, call_int1, .inr ⟨b, rfl, k _ (.int (if b then 1 else 0)) G H q (Grow.refl ex) rfl⟩⟩
theorem c_list {ds : List D} (q : Z (.lst ds)) : OpC true X (.type "list") [.lst ds] Z := by
  intro G H vs R ex i k
  obtain ⟨v, rfl, a, xs, rfl, e2, e3⟩ := isA_one i
  refine ⟨_, call_list_of, a, xs, rfl, .inl (.inl (.inl (ex _ _ e2))), fun p hp => ?_⟩
  have gr := Grow.new (o := .lst xs) ex hp
  exact k _ (.lst ds) _ _ q gr ⟨p, xs, rfl, upd_same, IsA.mono gr.g _ _ e3⟩
theorem c_listT {ds : List D} (q : Z (.lst ds)) : OpC true X (.type "list") [.tup ds] Z := by
  intro G H vs R ex i k
  obtain ⟨v, rfl, a, xs, rfl, e2, e3⟩ := isA_one i
  refine ⟨_, call_list_of, a, xs, rfl, .inr (.inl (.inl (ex _ _ e2))), fun p hp => ?_⟩
  have gr := Grow.new (o := .lst xs) ex hp
  exact k _ (.lst ds) _ _ q gr ⟨p, xs, rfl, upd_same, IsA.mono gr.g _ _ e3⟩
theorem c_tuple {ds : List D} (q : Z (.tup ds)) : OpC true X (.type "tuple") [.lst ds] Z := by
  intro G H vs R ex i k
  obtain ⟨v, rfl, a, xs, rfl, e2, e3⟩ := isA_one i
  refine ⟨_, call_tuple_of, a, xs, rfl, .inl ⟨.inl (.inl (ex _ _ e2)), fun p hp => ?_⟩⟩
  have gr := Grow.new (o := .tup xs) ex hp
  exact k _ (.tup ds) _ _ q gr ⟨p, xs, rfl, upd_same, IsA.mono gr.g _ _ e3⟩
theorem c_tupleT {ds : List D} (q : Z (.tup ds)) : OpC true X (.type "tuple") [.tup ds] Z := by
  intro G H vs R ex i k
  obtain ⟨v, rfl, a, xs, rfl, e2, e3⟩ := isA_one i
  exact ⟨_, call_tuple_of, a, xs, rfl, .inr ⟨.inl (.inl (ex _ _ e2)), k _ (.tup ds) G H q (Grow.refl ex) ⟨a, xs, rfl, e2, e3⟩⟩⟩
/-- isinstance: the name of a value's class -/
def tyN : D → Option String
  | .non => some "NoneType"
  | .bl _ => some "bool"
  | .int _ => some "int"
  | .str _ => some "str"
  | .lst _ => some "list"
  | .tup _ => some "tuple"
  | .dic _ => some "dict"
  | _ => none
theorem tyX_of {K : PySem.W.Frag} {H : Hp} {d : D} {v : V} {n : String} (h : Is H d v) (e : tyN d = some n) : TyX K H v (.type n) := by
  cases d with
  | non => cases h; cases e; exact .base .non
  | bl b => cases h; cases e; exact .base (.bl b)
  | int i => cases h; cases e; exact .base (.int i)
  | str s => cases h; cases e; exact .base (.str s)
  | ty n => cases e
  | lst ds => obtain ⟨a, xs, rfl, e2, _⟩ := h; cases e; exact .base (.lst e2)
  | tup ds => obtain ⟨a, xs, rfl, e2, _⟩ := h; cases e; exact .base (.tup e2)
  | obj C fs => cases e
  | dic ds => obtain ⟨a, xs, rfl, e2, _⟩ := h; cases e; exact .base (.dK e2)
  | scr K ns => cases e
theorem c_isi {x : D} {n c : String} {b : Bool} (hx : tyN x = some n) (hk : kitB n c = some b) (q : Z (.bl b)) : OpC g X (.builtin "isinstance") [x, .ty c] Z := by
  intro G H vs R ex i k
  obtain ⟨v, u, rfl, e1, e2⟩ := isA_two (isA_any ex i)
  cases (e2 : u = .ty c)
  exact ⟨_, call_isi, v, .ty c, .type n, .type c, b, rfl, .ty c, tyX_of e1 hx, kit_ty hk, k _ (.bl b) G H q (Grow.refl ex) rfl⟩
theorem c_isi2 {x : D} {n c c2 : String} {b b2 : Bool} (hx : tyN x = some n) (hk : kitB n c = some b) (hk2 : kitB n c2 = some b2) (q : Z (.bl (b || b2))) : OpC g X (.builtin "isinstance") [x, .tup [.ty c, .ty c2]] Z := by
  intro G H vs R ex i k
  obtain ⟨v, u, rfl, e1, a, xs, rfl, e2, e3⟩ := isA_two (isA_any ex i)
  obtain ⟨y, z, rfl, f1, f2⟩ := isA_two e3
  cases (f1 : y = .ty c); cases (f2 : z = .ty c2)
  refine ⟨_, call_isiT, v, a, _, .type n, [.type c, .type c2], b || b2, rfl, e2, .cons (.ty c) (.cons (.ty c2) .nil), tyX_of e1 hx, ?_, k _ (.bl (b || b2)) G H q (Grow.refl ex) rfl⟩
  refine kitAny_cons (kit_ty hk) (fun e => ?_) (fun e => by rw [e]; rfl)
  subst e
  refine kitAny_cons (kit_ty hk2) (fun e => ?_) (fun e => by rw [e]; rfl)
  subst e
  rfl
end
end DD

namespace DD
open PySem PySem.Spec PyProof.Rows L2

/-! ### what is walked -/
def wI (X : Cx) (tg iter : Expr) : TI := fun σ H R => ∀ pins s, Inv X pins σ H s → wpAny (model X.prog X.w) X.A (eval iter X.env) (fun v s1 => wpAny (model X.prog X.w) X.A (pyIter v) (PIE X pins σ tg R) X.xe s1) X.xe s
theorem pi_w {X : Cx} {tg iter : Expr} : PI X tg iter (wI X tg iter) := ⟨fun pins s σ H R I h => h pins s I⟩
theorem wI_of {X : Cx} {tg iter : Expr} {t : TI} {σ : L2.St} {H : Hp} {R : It → Hp → Prop} (p : PI X tg iter t) (h : t σ H R) : wI X tg iter σ H R := fun pins s I => p.run pins s σ H R I h
/-- the items are the data ds, while the ghost G0 stands -/
def WalkD (G0 : Hp) (J : It) (ds : List D) : Prop :=
  Walk J ds.length (fun H => Ex G0 H) (fun i H x H'' => ∀ d, ds[i]? = some d → ∀ G, Ex G0 G → Ex G H → ∃ G'', Grow G H G'' H'' ∧ Is G'' d x)
def WI (p : Bool) (X : Cx) (tg iter : Expr) (ρ : Rho) (Q : List D → Rho → Prop) : Prop :=
  ∀ (B : Base) (σ : L2.St) (G H : Hp), Sta B σ ρ G H → ∀ R : It → Hp → Prop,
    (∀ J ds ρ' G' H', Q ds ρ' → Sta B σ ρ' G' H' → Ex G G' → (p = true → ρ' = ρ ∧ Grow G H G' H') → WalkD G' J ds → R J H') → wI X tg iter σ H R
section
variable {p g : Bool} {X : Cx} {ρ : Rho} {QI : List D → Rho → Prop} {tg : Expr}
theorem wi_lst {e : Expr} (h : W p true X e ρ fun d ρ' => ∃ ds, d = .lst ds ∧ QI ds ρ') : WI p X tg e ρ QI := fun B σ G H S R r => by
  refine wI_of (pi_list pe_w) ?_
  refine h B σ G H S _ fun v d ρ' G' H' q S' x pu i => ?_
  obtain ⟨ds, rfl, q⟩ := q
  obtain ⟨a, xs, rfl, e2, e3⟩ := i
  refine ⟨a, rfl, ⟨xs, .inl (.inl (S'.ex _ _ e2))⟩, r _ ds ρ' G' H' q S' x pu ?_⟩
  unfold WalkD
  rw [← e3.length]
  refine walk_list.mono (fun H h => .inl (.inl (h _ _ e2))) fun i Hc y H'' hi hx ya d hd Gc g1 g2 => ?_
  obtain ⟨rfl, hy⟩ := ya
  obtain ⟨z, hz, iz⟩ := e3.get hd
  rw [hz] at hy
  cases hy
  exact ⟨Gc, Grow.refl g2, Is.mono g1 _ _ iz⟩
theorem wi_tup {e : Expr} (h : W p true X e ρ fun d ρ' => ∃ ds, d = .tup ds ∧ QI ds ρ') : WI p X tg e ρ QI := fun B σ G H S R r => by
  refine wI_of (pi_tup pe_w) ?_
  refine h B σ G H S _ fun v d ρ' G' H' q S' x pu i => ?_
  obtain ⟨ds, rfl, q⟩ := q
  obtain ⟨a, xs, rfl, e2, e3⟩ := i
  refine ⟨a, rfl, ⟨xs, .inl (.inl (S'.ex _ _ e2))⟩, r _ ds ρ' G' H' q S' x pu ?_⟩
  unfold WalkD
  rw [← e3.length]
  refine walk_tup.mono (fun H h => .inl (.inl (h _ _ e2))) fun i Hc y H'' hi hx ya d hd Gc g1 g2 => ?_
  obtain ⟨rfl, hy⟩ := ya
  obtain ⟨z, hz, iz⟩ := e3.get hd
  rw [hz] at hy
  cases hy
  exact ⟨Gc, Grow.refl g2, Is.mono g1 _ _ iz⟩
/-- lo, lo + 1, .. -/
def rng (lo : Int) (n : Nat) : List D := (List.range n).map fun i : Nat => D.int (lo + i)
theorem rng_len (lo : Int) (n : Nat) : (rng lo n).length = n := by simp [rng]
theorem rng_get {lo : Int} {n i : Nat} {d : D} (h : (rng lo n)[i]? = some d) : i < n ∧ d = .int (lo + i) := by
  unfold rng at h
  rw [List.getElem?_map] at h
  by_cases hi : i < n
  · rw [List.getElem?_range hi] at h
    cases h
    exact ⟨hi, rfl⟩
  · rw [List.getElem?_eq_none (by simpa using hi)] at h
    cases h
theorem walkD_rng {G : Hp} {lo : Int} {n : Nat} : WalkD G (Itr lo n) (rng lo n) := by
  unfold WalkD
  rw [rng_len]
  refine walk_range.mono (fun _ _ => trivial) fun i Hc y H'' hi hx ya d hd Gc g1 g2 => ?_
  obtain ⟨rfl, rfl⟩ := ya
  obtain ⟨_, rfl⟩ := rng_get hd
  exact ⟨Gc, Grow.refl g2, rfl⟩
theorem wi_rng1 {a : Expr} {pp pos : Pos} (hg : Gl X "range") (hm : X.mg "range" = none) (h : WA p false X [a] ρ fun ds ρ' => ∃ j : Int, ds = [.int j] ∧ (-(2 ^ 62) ≤ j ∧ j < 2 ^ 62) ∧ QI (rng 0 j.toNat) ρ')
    (hs : starEach [a] X.env = [(false, eval a X.env)] := by rfl) : WI p X tg (.Call (.Name "range" pp) [a] [] pos) ρ QI := fun B σ G H S R r => by
  refine wI_of (pi_range1 hg hm pa_w hs) ?_
  refine h B σ G H S _ fun vs ds ρ' G' H' q S' x pu i => ?_
  obtain ⟨j, rfl, b, q⟩ := q
  obtain ⟨v, rfl, e⟩ := isA_one i
  cases (e : v = .int j)
  exact ⟨j, rfl, b.1, b.2, r _ _ ρ' G' H' q S' x pu walkD_rng⟩
theorem wi_rng2 {a b : Expr} {pp pos : Pos} (hg : Gl X "range") (hm : X.mg "range" = none) (h : WA p false X [a, b] ρ fun ds ρ' => ∃ i j : Int, ds = [.int i, .int j] ∧ (-(2 ^ 62) ≤ i ∧ i < 2 ^ 62 ∧ -(2 ^ 62) ≤ j ∧ j < 2 ^ 62) ∧ QI (rng i (j - i).toNat) ρ')
    (hs : starEach [a, b] X.env = [(false, eval a X.env), (false, eval b X.env)] := by rfl) (hs2 : starEach [b] X.env = [(false, eval b X.env)] := by rfl) : WI p X tg (.Call (.Name "range" pp) [a, b] [] pos) ρ QI := fun B σ G H S R r => by
  refine wI_of (pi_range2 hg hm pa_w hs hs2) ?_
  refine h B σ G H S _ fun vs ds ρ' G' H' q S' x pu i => ?_
  obtain ⟨k, j, rfl, b, q⟩ := q
  obtain ⟨v, u, rfl, e, e2⟩ := isA_two i
  cases (e : v = .int k); cases (e2 : u = .int j)
  exact ⟨k, j, rfl, b, r _ _ ρ' G' H' q S' x pu walkD_rng⟩
/-- pairs -/
theorem walkD_pair {G : Hp} {J : It} {xs ys : List D} {vx vy : Nat → Option V} {n : Nat} (hn : n = min xs.length ys.length) {C : Hp → Prop} (w : Walk J n C (YPair vx vy)) (hC : ∀ H, Ex G H → C H)
    (hx : ∀ i d, xs[i]? = some d → ∃ v, vx i = some v ∧ Is G d v) (hy : ∀ i d, ys[i]? = some d → ∃ v, vy i = some v ∧ Is G d v) : WalkD G J ((xs.zip ys).map fun q => D.tup [q.1, q.2]) := by
  unfold WalkD
  rw [List.length_map, List.length_zip, ← hn]
  refine w.mono hC fun i Hc y H'' hi hC ya d hd Gc g1 g2 => ?_
  obtain ⟨T, x, z, rfl, hT, rfl, e1, e2⟩ := ya
  rw [List.getElem?_map] at hd
  cases hz : (xs.zip ys)[i]? with
  | none => rw [hz] at hd; cases hd
  | some q =>
    rw [hz] at hd
    cases hd
    rw [List.getElem?_zip_eq_some] at hz
    obtain ⟨v, f1, f2⟩ := hx i _ hz.1
    obtain ⟨u, f3, f4⟩ := hy i _ hz.2
    rw [e1] at f1; cases f1
    rw [e2] at f3; cases f3
    have gr := Grow.new (o := .tup [x, z]) g2 hT
    exact ⟨_, gr, T, [x, z], rfl, upd_same, x, [z], rfl, Is.mono (g1.trans gr.g) _ _ f2, z, [], rfl, Is.mono (g1.trans gr.g) _ _ f4, rfl⟩
theorem wi_zip {a b : Expr} {elts : List Expr} {kk : Nat} {pp pos tpos : Pos} (hg : Gl X "zip") (hm : X.mg "zip" = none) (h : WA p true X [a, b] ρ fun ds ρ' => ∃ xs ys, ds = [.lst xs, .lst ys] ∧ QI ((xs.zip ys).map fun q => D.tup [q.1, q.2]) ρ')
    (hs : starEach [a, b] X.env = (false, eval a X.env) :: starEach [b] X.env := by rfl) (hpl : (backTo pos (starEach [b] X.env)).any (·.1) = false := by rfl) : WI p X (.Tuple elts kk tpos) (.Call (.Name "zip" pp) [a, b] [] pos) ρ QI := fun B σ G H S R r => by
  refine wI_of (pi_zip hg hm pa_w hs hpl) ?_
  refine h B σ G H S _ fun vs ds ρ' G' H' q S' x pu i => ?_
  obtain ⟨xs, ys, rfl, q⟩ := q
  obtain ⟨v, u, rfl, ⟨l1, as, rfl, e2, e3⟩, l2, bs, rfl, f2, f3⟩ := isA_two i
  refine ⟨l1, l2, as, bs, rfl, .inl (.inl (S'.ex _ _ e2)), .inl (.inl (S'.ex _ _ f2)), r _ _ ρ' G' H' q S' x pu ?_⟩
  exact walkD_pair (n := min xs.length ys.length) rfl (walk_zip (xs := as) (ys := bs) (by rw [e3.length, f3.length])) (fun H h => ⟨.inl (.inl (h _ _ e2)), .inl (.inl (h _ _ f2))⟩) (fun i d hd => e3.get hd) (fun i d hd => f3.get hd)
theorem wi_enum {a : Expr} {elts : List Expr} {kk : Nat} {pp pos tpos : Pos} (hg : Gl X "enumerate") (hm : X.mg "enumerate" = none) (h : WA p true X [a] ρ fun ds ρ' => ∃ xs, ds = [.lst xs] ∧ QI (((rng 0 xs.length).zip xs).map fun q => D.tup [q.1, q.2]) ρ')
    (hs : starEach [a] X.env = [(false, eval a X.env)] := by rfl) : WI p X (.Tuple elts kk tpos) (.Call (.Name "enumerate" pp) [a] [] pos) ρ QI := fun B σ G H S R r => by
  refine wI_of (pi_enum hg hm pa_w hs) ?_
  refine h B σ G H S _ fun vs ds ρ' G' H' q S' x pu i => ?_
  obtain ⟨xs, rfl, q⟩ := q
  obtain ⟨v, rfl, l1, as, rfl, e2, e3⟩ := isA_one i
  refine ⟨l1, as, rfl, .inl (.inl (S'.ex _ _ e2)), r _ _ ρ' G' H' q S' x pu ?_⟩
  refine walkD_pair (n := as.length) (by rw [rng_len, e3.length, Nat.min_self]) walk_enum (fun H h => .inl (.inl (h _ _ e2))) (fun i d hd => ?_) (fun i d hd => e3.get hd)
  obtain ⟨_, rfl⟩ := rng_get hd
  exact ⟨_, rfl, by show V.int _ = V.int _; rw [Int.zero_add]⟩
end

/-! ### targets -/
def gMany : List Nat → TGs
  | [] => gNil
  | i :: is => gCons (gName i) (gMany is)
def setAll : Rho → List Nat → List D → Rho
  | ρ, i :: is, d :: ds => setAll (ρ.set i (.val d)) is ds
  | ρ, _, _ => ρ
inductive Tg where
  | one (i : Nat)
  | two (i j : Nat)
  | many (is : List Nat)
def Tg.g (K : PySem.W.Frag) : Tg → TG
  | .one i => gName i
  | .two i j => gTup K 2 (gCons (gName i) (gCons (gName j) gNil))
  | .many is => gTup K is.length (gMany is)
def Tg.eff : Tg → D → Rho → Option Rho
  | .one i, d, ρ => some (ρ.set i (.val d))
  | .two i j, .tup [a, b], ρ => some ((ρ.set i (.val a)).set j (.val b))
  | .two _ _, _, _ => none
  | .many is, .tup ds, ρ => if ds.length = is.length then some (setAll ρ is ds) else none
  | .many _, _, _ => none
def Tg.slots : Tg → List Nat
  | .one i => [i]
  | .two i j => [i, j]
  | .many is => is
theorem run_many {B : Base} {G H0 H : Hp} {R : L2.St → Hp → Prop} : ∀ (is : List Nat) (ds : List D) (xs : List V) (σ : L2.St) (ρ : Rho), Sta B σ ρ G H0 → IsA G ds xs → ds.length = is.length →
    (∀ σ', Sta B σ' (setAll ρ is ds) G H0 → (∀ vs : List Nat, (∀ i ∈ is, i ∈ vs) → (∀ (τ : L2.St) (i : Nat) (o : Option V), i ∈ vs → wipe (τ.set i o) vs = wipe τ vs) → wipe σ' vs = wipe σ vs) → R σ' H) → gMany is xs σ H R
  | [], [], xs, σ, ρ, S, h, _, r => by
    cases h
    exact ⟨rfl, r σ S fun _ _ _ => rfl⟩
  | [], d :: ds, _, _, _, _, _, l, _ => by cases l
  | i :: is, [], _, _, _, _, _, l, _ => by cases l
  | i :: is, d :: ds, xs, σ, ρ, S, ⟨x, xr, e1, e2, e3⟩, l, r => by
    subst e1
    refine ⟨x, xr, rfl, ?_⟩
    show gMany is xr (σ.set i (some x)) H R
    refine run_many is ds xr _ _ (S.set e2) e3 (by simpa using l) fun σ' S' hw => r σ' S' fun vs hv hs => ?_
    rw [hw vs (fun j hj => hv j (List.mem_cons_of_mem _ hj)) hs, hs _ _ _ (hv i List.mem_cons_self)]
theorem Tg.run {K : PySem.W.Frag} {T : Tg} {d : D} {ρ ρ' : Rho} (he : T.eff d ρ = some ρ') {B : Base} {σ : L2.St} {G H : Hp} {v : V} (S : Sta B σ ρ G H) (h : Is G d v) {R : L2.St → Hp → Prop}
    (r : ∀ σ', Sta B σ' ρ' G H → (∀ vs, (∀ i ∈ T.slots, i ∈ vs) → wipe σ' vs = wipe σ vs) → R σ' H) (hw : ∀ (τ : L2.St) (vs : List Nat) (i : Nat) (o : Option V), i ∈ vs → wipe (τ.set i o) vs = wipe τ vs) : T.g K v σ H R := by
  cases T with
  | one i =>
    cases he
    exact r _ (S.set h) fun vs hv => hw _ _ _ _ (hv i (by simp [Tg.slots]))
  | two i j =>
    have hd : ∃ a b, d = .tup [a, b] := by
      cases d with
      | tup ds =>
        match ds, he with
        | [a, b], _ => exact ⟨a, b, rfl⟩
      | _ => cases he
    obtain ⟨a, b, rfl⟩ := hd
    cases he
    obtain ⟨l, xs, rfl, e2, e3⟩ := h
    obtain ⟨x, y, rfl, f1, f2⟩ := isA_two e3
    refine ⟨l, _, rfl, .inl (.inl (S.ex _ _ e2)), rfl, x, [y], rfl, y, [], rfl, rfl, ?_⟩
    refine r _ ((S.set f1).set f2) fun vs hv => ?_
    rw [hw _ _ _ _ (hv j (by simp [Tg.slots])), hw _ _ _ _ (hv i (by simp [Tg.slots]))]
  | many is =>
    have hd : ∃ ds, d = .tup ds ∧ ds.length = is.length ∧ ρ' = setAll ρ is ds := by
      cases d with
      | tup ds =>
        by_cases hl : ds.length = is.length
        · have he : (if ds.length = is.length then some (setAll ρ is ds) else none) = some ρ' := he
          rw [if_pos hl] at he
          cases he
          exact ⟨ds, rfl, hl, rfl⟩
        · have he : (if ds.length = is.length then some (setAll ρ is ds) else none) = some ρ' := he
          rw [if_neg hl] at he
          cases he
      | _ => cases he
    obtain ⟨ds, rfl, hl, rfl⟩ := hd
    obtain ⟨l, xs, rfl, e2, e3⟩ := h
    exact ⟨l, xs, rfl, .inl (.inl (S.ex _ _ e2)), by rw [e3.length, hl], run_many is ds xs σ ρ S e3 hl fun σ' S' z => r σ' S' fun vs hv => z vs hv fun τ i o hi => hw τ vs i o hi⟩
theorem Tg.run' {K : PySem.W.Frag} {T : Tg} {d : D} {ρ ρ' : Rho} (he : T.eff d ρ = some ρ') {B : Base} {σ : L2.St} {G H0 H : Hp} {v : V} (S : Sta B σ ρ G H0) (ex : Ex G H) (h : Is G d v) {R : L2.St → Hp → Prop}
    (r : ∀ σ', Sta B σ' ρ' G H0 → (∀ vs, (∀ i ∈ T.slots, i ∈ vs) → wipe σ' vs = wipe σ vs) → R σ' H) (hw : ∀ (τ : L2.St) (vs : List Nat) (i : Nat) (o : Option V), i ∈ vs → wipe (τ.set i o) vs = wipe τ vs) : T.g K v σ H R := by
  cases T with
  | one i =>
    cases he
    exact r _ (S.set h) fun vs hv => hw _ _ _ _ (hv i (by simp [Tg.slots]))
  | two i j =>
    have hd : ∃ a b, d = .tup [a, b] := by
      cases d with
      | tup ds =>
        match ds, he with
        | [a, b], _ => exact ⟨a, b, rfl⟩
      | _ => cases he
    obtain ⟨a, b, rfl⟩ := hd
    cases he
    obtain ⟨l, xs, rfl, e2, e3⟩ := h
    obtain ⟨x, y, rfl, f1, f2⟩ := isA_two e3
    refine ⟨l, _, rfl, .inl (.inl (ex _ _ e2)), rfl, x, [y], rfl, y, [], rfl, rfl, ?_⟩
    refine r _ ((S.set f1).set f2) fun vs hv => ?_
    rw [hw _ _ _ _ (hv j (by simp [Tg.slots])), hw _ _ _ _ (hv i (by simp [Tg.slots]))]
  | many is =>
    have hd : ∃ ds, d = .tup ds ∧ ds.length = is.length ∧ ρ' = setAll ρ is ds := by
      cases d with
      | tup ds =>
        by_cases hl : ds.length = is.length
        · have he : (if ds.length = is.length then some (setAll ρ is ds) else none) = some ρ' := he
          rw [if_pos hl] at he
          cases he
          exact ⟨ds, rfl, hl, rfl⟩
        · have he : (if ds.length = is.length then some (setAll ρ is ds) else none) = some ρ' := he
          rw [if_neg hl] at he
          cases he
      | _ => cases he
    obtain ⟨ds, rfl, hl, rfl⟩ := hd
    obtain ⟨l, xs, rfl, e2, e3⟩ := h
    exact ⟨l, xs, rfl, .inl (.inl (ex _ _ e2)), by rw [e3.length, hl], run_many is ds xs σ ρ S e3 hl fun σ' S' z => r σ' S' fun vs hv => z vs hv fun τ i o hi => hw τ vs i o hi⟩
theorem wipe_get : ∀ (σ : L2.St) (vs : List Nat) (i : Nat), (wipe σ vs)[i]? = if i ∈ vs then (if i < σ.length then some none else none) else σ[i]?
  | σ, [], i => by simp [wipe]
  | σ, v :: vs, i => by
    show ((wipe σ vs).set v none)[i]? = _
    rw [List.getElem?_set, wipe_length, wipe_get σ vs i]
    by_cases h : v = i
    · subst h
      simp
    · rw [if_neg h]
      have : (i ∈ v :: vs) = (i ∈ vs) := by
        rw [List.mem_cons, eq_iff_iff]
        exact ⟨fun q => q.resolve_left fun z => h z.symm, .inr⟩
      simp only [this]
theorem wipe_set (σ : L2.St) (vs : List Nat) (i : Nat) (o : Option V) (h : i ∈ vs) : wipe (σ.set i o) vs = wipe σ vs := by
  apply List.ext_getElem?
  intro j
  rw [wipe_get, wipe_get, List.length_set]
  by_cases hj : j ∈ vs
  · rw [if_pos hj, if_pos hj]
  · rw [if_neg hj, if_neg hj]
    rw [List.getElem?_set_ne]
    rintro rfl
    exact hj h
/-- the data of slots forgotten -/
def wipeR (ρ : Rho) : List Nat → Rho
  | [] => ρ
  | v :: vs => (wipeR ρ vs).set v .un
theorem Sta.un {B : Base} {σ : L2.St} {ρ : Rho} {G H : Hp} (S : Sta B σ ρ G H) {i : Nat} {v : Option V} : Sta B (σ.set i v) (ρ.set i .un) G H := by
  refine ⟨by rw [List.length_set, List.length_set]; exact S.len, S.ex, S.fr, S.kn, S.nw, S.bg, S.bx, S.pot, fun j s w h1 h2 => ?_, fun j k l1 l2 o1 o2 jk h1 h2 => ?_⟩
  · by_cases q : i = j
    · subst q
      rw [List.getElem?_set] at h1
      simp only [if_true] at h1
      split at h1
      · cases h1; trivial
      · cases h1
    · rw [List.getElem?_set_ne q] at h1 h2
      exact S.env j s w h1 h2
  · have nj : i ≠ j := fun q => by
      subst q
      rw [List.getElem?_set] at h1
      simp only [if_true] at h1
      split at h1 <;> cases h1
    have nk : i ≠ k := fun q => by
      subst q
      rw [List.getElem?_set] at h2
      simp only [if_true] at h2
      split at h2 <;> cases h2
    rw [List.getElem?_set_ne nj] at h1
    rw [List.getElem?_set_ne nk] at h2
    rw [List.getElem?_set_ne nj, List.getElem?_set_ne nk]
    exact S.dist j k l1 l2 o1 o2 jk h1 h2
theorem Sta.wipe {B : Base} {σ : L2.St} {ρ : Rho} {G H : Hp} (S : Sta B σ ρ G H) : ∀ vs : List Nat, Sta B (L2.wipe σ vs) (wipeR ρ vs) G H
  | [] => S
  | v :: vs => (Sta.wipe S vs).un

/-! ### comprehensions -/
section
variable {p g : Bool} {X : Cx} {ρ : Rho} {Q : D → Rho → Prop}
/-- the block's contexts -/
abbrev Blk (X : Cx) (scope : Scope) (s : Shared) (H : Hp) (C : Addr) (cl : List (Str × Addr)) (fp : List Addr) : Cx := X.blk s H scope (compEnvC scope cl C X.env) fp
def cE (X : Cx) (scope : Scope) (e : Expr) : TE := fun σ H Q => ∀ s H0 C cl fp, wE (Blk X scope s H0 C cl fp) e σ H Q
theorem pe_c {scope : Scope} {e : Expr} (s : Shared) (H0 : Hp) (C : Addr) (cl : List (Str × Addr)) (fp : List Addr) : PE (X.blk s H0 scope (compEnvC scope cl C X.env) fp) e (cE X scope e) := ⟨fun pins s1 σ H Q I h => h s H0 C cl fp pins s1 I⟩
def cT (X : Cx) (scope : Scope) (e : Expr) : TT := fun σ H Q => ∀ s H0 C cl fp, wT (Blk X scope s H0 C cl fp) e σ H Q
theorem pt_c {scope : Scope} {e : Expr} (s : Shared) (H0 : Hp) (C : Addr) (cl : List (Str × Addr)) (fp : List Addr) : PTs (X.blk s H0 scope (compEnvC scope cl C X.env) fp) [e] (cT X scope e) := pts_one ⟨fun pins s1 σ H Q I h => h s H0 C cl fp pins s1 I⟩
theorem IsA.snoc {H : Hp} {ds : List D} {xs : List V} {d : D} {x : V} (h : IsA H ds xs) (i : Is H d x) : IsA H (ds ++ [d]) (xs ++ [x]) := h.append (IsA.one i)
/-- what stands between two turns: the list at D so far, the ghost -/
def LcW (G1 H1 : Hp) (D : Addr) (outs : List DD.D) (Hc : Hp) : Prop := H1 D = none ∧ ∃ Gi acc, Hc D = some (.lst acc) ∧ Gi D = none ∧ Grow G1 H1 Gi Hc ∧ IsA Gi outs acc
/-- the loop of a comprehension, whatever its tests: turn i adds o i -/
theorem lc_go {B : Base} {σ : L2.St} {G1 H1 : Hp} {J : It} {ds : List DD.D} {T : Tg} {tt : TT} {te : TE} {vs : List Nat} {Qd : V → Hp → Prop} (S : Sta B σ ρ G1 H1) (w : WalkD G1 J ds) (hT : ∀ i ∈ T.slots, i ∈ vs)
    (bt : DD.D → Bool) (f : DD.D → DD.D) (hlen : ds.length ≤ 40000)
    (turn : ∀ d ∈ ds, ∃ ρi, T.eff d (wipeR ρ vs) = some ρi ∧ (∀ σ' G H, Sta B σ' ρi G H → ∀ R : Bool → Hp → Prop, (∀ G' H', Sta B σ' ρi G' H' → Grow G H G' H' → R (bt d) H') → tt σ' H R) ∧
      (bt d = true → ∀ σ' G H, Sta B σ' ρi G H → ∀ R : VK, (∀ v G' H', Sta B σ' ρi G' H' → Grow G H G' H' → Is G' (f d) v → R v H') → te σ' H R))
    (hd : ∀ a G' H', Grow G1 H1 G' H' → Is G' (.lst ((ds.filter bt).map f)) (.ref a) → Qd (.ref a) H') (D : Addr) (hD : H1 D = none) :
    ∃ W : Nat → Nat → Hp → Prop, (∃ m, W 0 m (L2.upd H1 D (.lst []))) ∧ ∀ i m H, W i m H →
      (J.stop i H ∧ Qd (.ref D) H) ∨ (J.go i H ∧ ∃ Nx : Hp → Prop, (∀ H', Nx H' → ∃ m', m' < m ∧ W (i + 1) m' H') ∧ ∀ x H', J.yld i H x H' → T.g X.K x (wipe σ vs) H' fun σ2 H2 => wipe σ2 vs = wipe σ vs ∧ tt σ2 H2 fun b H3 =>
        if b = true then te σ2 H3 fun y H4 => ∃ acc, H4 D = some (.lst acc) ∧ acc.length < sizeLine ∧ Nx (L2.upd H4 D (.lst (acc ++ [y]))) else Nx H3) := by
  have hsz : ∀ i, (((ds.take i).filter bt).map f).length < sizeLine := fun i => by
    have h1 : (((ds.take i).filter bt).map f).length ≤ 40000 := by
      rw [List.length_map]
      refine Nat.le_trans (List.length_filter_le _ _) ?_
      rw [List.length_take]
      omega
    exact Nat.lt_of_le_of_lt h1 (by decide)
  refine lc_it w (fun i H => LcW G1 H1 D (((ds.take i).filter bt).map f) H) ?_ (fun i H _ h => ?_) (fun i x H H' hi h y => ?_) (fun H h => ?_)
  · refine ⟨hD, G1, [], upd_same, ?_, Grow.own S.ex hD, rfl⟩
    cases r : G1 D with
    | none => rfl
    | some u => rw [S.ex D u r] at hD; cases hD
  · obtain ⟨_, Gi, acc, _, _, gr, _⟩ := h
    exact gr.g.trans gr.x
  · obtain ⟨_, Gi, acc, hacc, gD, gr, ia⟩ := h
    have hget : ds[i]? = some ds[i] := List.getElem?_eq_getElem hi
    obtain ⟨G2, gr2, ix⟩ := y _ hget Gi gr.g gr.x
    obtain ⟨ρi, he, ht, hel⟩ := turn ds[i] (List.getElem_mem hi)
    have g2D : G2 D = none := by
      cases r : G2 D with
      | none => rfl
      | some u =>
        rcases gr2.n D u r with q | q
        · rw [gD] at q; cases q
        · rw [hacc] at q; cases q
    have grA := gr.trans gr2
    refine Tg.run he ((S.grow grA).wipe vs) ix (fun σ' S' hwp => ?_) (fun τ us j o hj => wipe_set τ us j o hj)
    have hidem : wipe (wipe σ vs) vs = wipe σ vs := by
      apply List.ext_getElem?
      intro j
      rw [wipe_get, wipe_length, wipe_get]
      by_cases hj : j ∈ vs
      · simp [hj]
      · simp [hj]
    refine ⟨(hwp vs hT).trans hidem, ?_⟩
    refine ht σ' G2 H' S' _ fun G3 H3 S3 gr3 => ?_
    have g3D : G3 D = none ∧ H3 D = some (.lst acc) := by
      have h3 : H3 D = some (.lst acc) := gr3.h _ _ (gr2.h _ _ hacc)
      refine ⟨?_, h3⟩
      cases r : G3 D with
      | none => rfl
      | some u =>
        rcases gr3.n D u r with q | q
        · rw [g2D] at q; cases q
        · rw [gr2.h _ _ hacc] at q; cases q
    have etake : ds.take (i + 1) = ds.take i ++ [ds[i]] := by rw [List.take_add_one, hget]; rfl
    cases hb : bt ds[i] with
    | false =>
      show LcW G1 H1 D (((ds.take (i + 1)).filter bt).map f) H3
      rw [etake, List.filter_append, List.filter_cons, if_neg (by rw [hb]; decide)]
      show LcW G1 H1 D (((ds.take i).filter bt ++ []).map f) H3
      rw [List.append_nil]
      exact ⟨hD, G3, acc, g3D.2, g3D.1, grA.trans gr3, IsA.mono (gr2.g.trans gr3.g) _ _ ia⟩
    | true =>
      show te σ' H3 fun y H4 => ∃ acc, H4 D = some (.lst acc) ∧ acc.length < sizeLine ∧ LcW G1 H1 D (((ds.take (i + 1)).filter bt).map f) (L2.upd H4 D (.lst (acc ++ [y])))
      refine hel hb σ' G3 H3 S3 _ fun v G4 H4 S4 gr4 iv => ?_
      have h4 : H4 D = some (.lst acc) := gr4.h _ _ g3D.2
      have g4D : G4 D = none := by
        cases r : G4 D with
        | none => rfl
        | some u =>
          rcases gr4.n D u r with q | q
          · rw [g3D.1] at q; cases q
          · rw [g3D.2] at q; cases q
      refine ⟨acc, h4, by rw [ia.length]; exact hsz i, ?_⟩
      rw [etake, List.filter_append, List.filter_cons, if_pos hb, List.filter_nil, List.map_append]
      have grT := (grA.trans gr3).trans gr4
      refine ⟨hD, G4, acc ++ [v], upd_same, g4D, ⟨grT.g, fun a o e => ?_, fun a o e => ?_, grT.n⟩, ?_⟩
      · have q : a ≠ D := by rintro rfl; rw [hD] at e; cases e
        rw [upd_ne q]; exact grT.h a o e
      · have q : a ≠ D := by rintro rfl; rw [g4D] at e; cases e
        rw [upd_ne q]; exact grT.x a o e
      · exact IsA.snoc (IsA.mono ((gr2.g.trans gr3.g).trans gr4.g) _ _ ia) iv
  · obtain ⟨_, Gi, acc, hacc, gD, gr, ia⟩ := h
    rw [List.take_length] at ia
    have ex := Ex.new (o := HO.lst acc) gD
    refine hd D (L2.upd Gi D (.lst acc)) H ⟨gr.g.trans ex, gr.h, fun a o e => ?_, fun a o e => ?_⟩ ⟨D, acc, rfl, upd_same, IsA.mono ex _ _ ia⟩
    · by_cases q : a = D
      · subst q; rw [upd_same] at e; rw [hacc]; exact e
      · rw [upd_ne q] at e; exact gr.x a o e
    · by_cases q : a = D
      · subst q; exact .inr hD
      · rw [upd_ne q] at e; exact gr.n a o e
/-- [elt for tg in iter] -/
theorem x_lc {elt tg iter : Expr} {scope : Scope} {own : List (Str × Nat)} {T : Tg} (f : DD.D → DD.D) (hT : ∀ i ∈ T.slots, i ∈ own.map (·.2))
    (h : WI p X tg iter ρ fun ds ρ1 => ds.length ≤ 40000 ∧ (∀ d ∈ ds, ∃ ρi, T.eff d (wipeR ρ1 (own.map (·.2))) = some ρi ∧ ∀ s H C cl fp, W true true (Blk X scope s H C cl fp) elt ρi fun y _ => y = f d) ∧ Q (.lst (ds.map f)) ρ1) :
    WX p g (tLc (wI X tg iter) (T.g X.K) tYes (cE X scope elt) (own.map (·.2))) ρ Q := fun B σ G H S R r => by
  refine h B σ G H S _ fun J ds ρ1 G1 H1 q S1 x pu wk D hD => ?_
  obtain ⟨hl, turn, q⟩ := q
  refine lc_go (X := X) (Qd := R) S1 wk hT (fun _ => true) f hl (fun d hd => ?_) (fun a G' H' gr i => ?_) D hD
  · obtain ⟨ρi, he, hw⟩ := turn d hd
    refine ⟨ρi, he, fun σ' G2 H2 S2 R2 r2 => r2 G2 H2 S2 (Grow.refl S2.ex), fun _ σ' G2 H2 S2 R2 r2 s H0 C cl fp => ?_⟩
    refine hw s H0 C cl fp B σ' G2 H2 S2 R2 fun v y ρ3 G3 H3 e S3 x3 p3 i3 => ?_
    subst e
    have e3 := (p3 rfl).1
    subst e3
    exact r2 v G3 H3 S3 (p3 rfl).2 i3
  · have e : ds.filter (fun _ => true) = ds := List.filter_eq_self.mpr fun _ _ => rfl
    rw [e] at i
    exact r _ _ ρ1 G' H' q (S1.grow gr) (x.trans gr.g) (fun z => ⟨(pu z).1, (pu z).2.trans gr⟩) (is_h (S1.grow gr) i)
/-- [elt for tg in iter if c] -/
theorem x_lcIf {elt tg iter c : Expr} {scope : Scope} {own : List (Str × Nat)} {T : Tg} (bt : DD.D → Bool) (f : DD.D → DD.D) (hT : ∀ i ∈ T.slots, i ∈ own.map (·.2))
    (h : WI p X tg iter ρ fun ds ρ1 => ds.length ≤ 40000 ∧ (∀ d ∈ ds, ∃ ρi, T.eff d (wipeR ρ1 (own.map (·.2))) = some ρi ∧ ∀ s H C cl fp, WT true (Blk X scope s H C cl fp) c ρi (fun b _ => b = bt d) ∧ (bt d = true → W true true (Blk X scope s H C cl fp) elt ρi fun y _ => y = f d)) ∧ Q (.lst ((ds.filter bt).map f)) ρ1) :
    WX p g (tLc (wI X tg iter) (T.g X.K) (cT X scope c) (cE X scope elt) (own.map (·.2))) ρ Q := fun B σ G H S R r => by
  refine h B σ G H S _ fun J ds ρ1 G1 H1 q S1 x pu wk D hD => ?_
  obtain ⟨hl, turn, q⟩ := q
  refine lc_go (X := X) (Qd := R) S1 wk hT bt f hl (fun d hd => ?_) (fun a G' H' gr i => ?_) D hD
  · obtain ⟨ρi, he, hw⟩ := turn d hd
    refine ⟨ρi, he, fun σ' G2 H2 S2 R2 r2 s H0 C cl fp => ?_, fun hb σ' G2 H2 S2 R2 r2 s H0 C cl fp => ?_⟩
    · refine (hw s H0 C cl fp).1 B σ' G2 H2 S2 R2 fun b ρ3 G3 H3 e S3 x3 p3 => ?_
      subst e
      have e3 := (p3 rfl).1
      subst e3
      exact r2 G3 H3 S3 (p3 rfl).2
    · refine (hw s H0 C cl fp).2 hb B σ' G2 H2 S2 R2 fun v y ρ3 G3 H3 e S3 x3 p3 i3 => ?_
      subst e
      have e3 := (p3 rfl).1
      subst e3
      exact r2 v G3 H3 S3 (p3 rfl).2 i3
  · exact r _ _ ρ1 G' H' q (S1.grow gr) (x.trans gr.g) (fun z => ⟨(pu z).1, (pu z).2.trans gr⟩) (is_h (S1.grow gr) i)
end
end DD

namespace DD
open PySem PySem.Spec PyProof.Rows L2

/-! ### statements -/
def wS (X : Cx) (st : Stmt) : TS := fun D σ H => ∀ pins s, Inv X pins σ H s → wpAny (model X.prog X.w) X.A (exec st X.env) (SP X pins D) X.xe s
theorem ps_w {X : Cx} {st : Stmt} : PS X st (wS X st) := ⟨fun pins s σ H D I h => h pins s I⟩
theorem wS_of {X : Cx} {st : Stmt} {t : TS} {D : Ends} {σ : L2.St} {H : Hp} (p : PS X st t) (h : t D σ H) : wS X st D σ H := fun pins s I => p.run pins s σ H D I h
def wSs (X : Cx) (st : List Stmt) : TS := fun D σ H => ∀ pins s, Inv X pins σ H s → wpAny (model X.prog X.w) X.A (execs st X.env) (SP X pins D) X.xe s
theorem pss_w {X : Cx} {st : List Stmt} : PSs X st (wSs X st) := ⟨fun pins s σ H D I h => h pins s I⟩
theorem wSs_of {X : Cx} {st : List Stmt} {t : TS} {D : Ends} {σ : L2.St} {H : Hp} (p : PSs X st t) (h : t D σ H) : wSs X st D σ H := fun pins s I => p.run pins s σ H D I h
/-- what is wanted behind a statement, of data -/
structure DE where
  nx : Rho → Prop
  rt : D → Prop
  bk : Rho → Prop := fun _ => False
  ct : Rho → Prop := fun _ => False
structure Link (B : Base) (G0 : Hp) (E : DE) (F : Ends) : Prop where
  nx : ∀ σ ρ G H, E.nx ρ → Sta B σ ρ G H → Ex G0 G → F.nx σ H
  rt : ∀ v d G H, E.rt d → Fin B G H → Is G d v → F.rt v H
  bk : ∀ σ ρ G H, E.bk ρ → Sta B σ ρ G H → Ex G0 G → F.bk σ H
  ct : ∀ σ ρ G H, E.ct ρ → Sta B σ ρ G H → Ex G0 G → F.ct σ H
theorem Link.mono {B : Base} {G0 G1 : Hp} {E : DE} {F : Ends} (L : Link B G0 E F) (e : Ex G0 G1) : Link B G1 E F :=
  ⟨fun σ ρ G H q S x => L.nx σ ρ G H q S (e.trans x), L.rt, fun σ ρ G H q S x => L.bk σ ρ G H q S (e.trans x), fun σ ρ G H q S x => L.ct σ ρ G H q S (e.trans x)⟩
def WS (X : Cx) (st : Stmt) (ρ : Rho) (E : DE) : Prop := ∀ (B : Base) (σ : L2.St) (G H : Hp) (F : Ends), Sta B σ ρ G H → Link B G E F → wS X st F σ H
def WSs (X : Cx) (st : List Stmt) (ρ : Rho) (E : DE) : Prop := ∀ (B : Base) (σ : L2.St) (G H : Hp) (F : Ends), Sta B σ ρ G H → Link B G E F → wSs X st F σ H
section
variable {X : Cx} {ρ : Rho} {E : DE} {pos : Pos}
theorem ss_nil (h : E.nx ρ) : WSs X [] ρ E := fun B σ G H F S L => wSs_of pss_nil (L.nx σ ρ G H h S (Ex.refl G))
theorem ss_cons {st : Stmt} {rest : List Stmt} (h : WS X st ρ { E with nx := fun ρ' => WSs X rest ρ' E }) : WSs X (st :: rest) ρ E := fun B σ G H F S L =>
  wSs_of (pss_cons ps_w pss_w) (h B σ G H { F with nx := wSs X rest F } S ⟨fun σ' ρ' G' H' q S' x => q B σ' G' H' F S' (L.mono x), L.rt, L.bk, L.ct⟩)
theorem ss_one {st : Stmt} (h : WS X st ρ E) : WSs X [st] ρ E := fun B σ G H F S L => wSs_of (pss_one ps_w) (h B σ G H F S L)
/-- the rest is shown once, from a word between -/
theorem ss_cut {st : Stmt} {rest : List Stmt} (M : Rho → Prop) (h : WS X st ρ { E with nx := M }) (k : ∀ ρ', M ρ' → WSs X rest ρ' E) : WSs X (st :: rest) ρ E :=
  ss_cons fun B σ G H F S L => h B σ G H F S ⟨fun σ' ρ' G' H' q S' x => L.nx σ' ρ' G' H' (k ρ' q) S' x, L.rt, L.bk, L.ct⟩
theorem s_pass (h : E.nx ρ) : WS X (.Pass pos) ρ E := fun B σ G H F S L => wS_of ps_pass (L.nx σ ρ G H h S (Ex.refl G))
theorem s_ret {e : Expr} (h : W false true X e ρ fun d _ => E.rt d) : WS X (.Return (some e) pos) ρ E := fun B σ G H F S L => by
  refine wS_of (ps_ret pe_w) ?_
  exact h B σ G H S _ fun v d ρ' G' H' q S' x pu i => L.rt v d G' H' q S'.fin i
theorem s_retN (h : E.rt .non) : WS X (.Return none pos) ρ E := fun B σ G H F S L => wS_of ps_retN (L.rt .non .non G H h S.fin rfl)
theorem s_expr {e : Expr} (h : W false false X e ρ fun _ ρ' => E.nx ρ') (hs : swapsWith e none pos.line X.env = pure false := by rfl) : WS X (.Expr e pos) ρ E := fun B σ G H F S L => by
  refine wS_of (ps_expr pe_w hs) ?_
  exact h B σ G H S _ fun v d ρ' G' H' q S' x pu i => L.nx σ ρ' G' H' q S' x
theorem s_if {c : Expr} {a b : List Stmt} (h : WT false X c ρ fun k ρ' => if k = true then WSs X a ρ' E else WSs X b ρ' E) : WS X (.If c a b pos) ρ E := fun B σ G H F S L => by
  refine wS_of (ps_if pt_w pss_w pss_w) ?_
  refine h B σ G H S _ fun k ρ' G' H' q S' x pu => ?_
  cases k with
  | true => exact q B σ G' H' F S' (L.mono x)
  | false => exact q B σ G' H' F S' (L.mono x)
/-- x = e -/
theorem s_set {i : Nat} {x : Str} {e : Expr} {pos' : Pos} (hN : X.N.Nodup) (hi : X.N[i]? = some x) (hx : Loc X.env.scope x) (h : W false true X e ρ fun d ρ' => E.nx (ρ'.set i (.val d)))
    (hs : swapsWith e (some (.Name x pos')) pos.line X.env = pure false := by rfl) (hf : X.fn x = true ∨ X.env.scope.names.lookup x = some .local := by first | exact .inl rfl | exact .inr rfl) : WS X (.Assign [.Name x pos'] e pos) ρ E := fun B σ G H F S L => by
  refine wS_of (ps_set hN hi hx pe_w hs hf) ?_
  exact h B σ G H S _ fun v d ρ' G' H' q S' y pu j => L.nx _ _ G' H' q (S'.set j) y
/-- x = [] and the like: an own list -/
def WF (X : Cx) (e : Expr) (ρ : Rho) (Q : Own → Rho → Prop) : Prop :=
  ∀ (B : Base) (σ : L2.St) (G H : Hp), Sta B σ ρ G H → ∀ R : VK, (∀ l o ρ' G' H', Q o ρ' → Sta B σ ρ' G' H' → Ex G G' → G' l = none → B.H l = none → (∀ (j : Nat), σ[j]? = some (some (.ref l)) → ∀ lc u, ρ'[j]? ≠ some (.own lc u)) → OwnOk B G' H' l o → R (.ref l) H') → wE X e σ H R
theorem s_own {i : Nat} {x : Str} {e : Expr} {pos' : Pos} (hN : X.N.Nodup) (hi : X.N[i]? = some x) (hx : Loc X.env.scope x) (h : WF X e ρ fun o ρ' => E.nx (ρ'.set i (.own true o)))
    (hs : swapsWith e (some (.Name x pos')) pos.line X.env = pure false := by rfl) (hf : X.fn x = true ∨ X.env.scope.names.lookup x = some .local := by first | exact .inl rfl | exact .inr rfl) : WS X (.Assign [.Name x pos'] e pos) ρ E := fun B σ G H F S L => by
  refine wS_of (ps_set hN hi hx pe_w hs hf) ?_
  exact h B σ G H S _ fun l o ρ' G' H' q S' y gl bl nj ok => L.nx _ _ G' H' q (S'.setOwn gl bl ok fun j lc u hj hs => nj j hs lc u hj) y
theorem new_own {B : Base} {σ : L2.St} {G H : Hp} {l : Addr} (S : Sta B σ ρ G H) (hl : H l = none) : G l = none ∧ B.H l = none ∧ ∀ (j : Nat), σ[j]? = some (some (.ref l)) → ∀ lc u, ρ[j]? ≠ some (.own lc u) := by
  refine ⟨?_, S.kn l hl, fun j hj lc u hr => ?_⟩
  · cases r : G l with
    | none => rfl
    | some u => rw [S.ex l u r] at hl; cases hl
  · obtain ⟨m, e, _, _, ok⟩ := S.ownAt hr
    rw [hj] at e
    cases e
    obtain ⟨w, hw⟩ := ok.known
    rw [hw] at hl; cases hl
theorem f_nil {pos : Pos} {Q : Own → Rho → Prop} (q : Q (.lst []) ρ) : WF X (.List [] pos) ρ Q := fun B σ G H S R r => by
  refine wE_of (pe_lst pa_nil) ⟨Nat.zero_le _, fun l hl => ?_⟩
  obtain ⟨h1, h2, h3⟩ := new_own S hl
  exact r l (.lst []) ρ G _ q (S.grow (Grow.own S.ex hl)) (Ex.refl G) h1 h2 h3 ⟨[], upd_same, rfl⟩
theorem f_dic {pos : Pos} {Q : Own → Rho → Prop} (q : Q (.dic []) ρ) : WF X (.Dict [] [] pos) ρ Q := fun B σ G H S R r => by
  refine wE_of pe_dnewK fun l hl => ?_
  obtain ⟨h1, h2, h3⟩ := new_own S hl
  exact r l (.dic []) ρ G _ q (S.grow (Grow.own S.ex hl)) (Ex.refl G) h1 h2 h3 ⟨[], upd_same, rfl⟩
/-- [e] * n -/
theorem f_rep {a b : Expr} {pos : Pos} {Q : Own → Rho → Prop} (h : W true true X a ρ fun d ρ1 => W true true X b ρ1 fun k ρ2 => ∃ xs n, d = .lst xs ∧ k = .int n ∧ (-(2 ^ 63) ≤ n ∧ n < 2 ^ 63 ∧ xs.length * n.toNat ≤ sizeLine) ∧ Q (.lst (List.replicate n.toNat xs).flatten) ρ2) : WF X (.BinOp a .Mult b pos) ρ Q := fun B σ G H S R r => by
  refine wE_of (pe_op op_rep pe_w pe_w) ?_
  refine two (p := true) (p1 := true) (.inl rfl) h S fun v u x y ρ' G' H' q S' e pu i1 i2 => ?_
  obtain ⟨xs, n, rfl, rfl, b, q⟩ := q
  obtain ⟨a, as, rfl, e2, e3⟩ := i1
  refine ⟨a, n, as, rfl, i2, S'.ex _ _ e2, b.1, b.2.1, by rw [e3.length]; exact b.2.2, fun l hl => ?_⟩
  obtain ⟨h1, h2, h3⟩ := new_own S' hl
  exact r l (.lst _) ρ' G' _ q (S'.grow (Grow.own S'.ex hl)) e h1 h2 h3 ⟨_, upd_same, e3.rep _⟩
/-- the list that a name holds from here on is shared -/
theorem w_share {i : Nat} {x : Str} {pos : Pos} {ds : List D} {Q : D → Rho → Prop} (hN : X.N[i]? = some x) (hv : Vis X.env.scope x) (hd : (x == ("__debug__" : Str)) = false) (hcd : (x == ("__classdict__" : Str)) = false)
    (hr : ρ[i]? = some (.own true (.lst ds))) (q : Q (.lst ds) (ρ.set i (.val (.lst ds)))) : W false true X (.Name x pos) ρ Q := fun B σ G H S R r => by
  obtain ⟨l, G', e, ex, iv, S'⟩ := S.share hr
  exact wE_of (pe_var hN hv hd hcd) ⟨_, e, r _ (.lst ds) _ G' H q S' ex (fun z => nomatch z) iv⟩
/-- a list is shared ahead of a statement -/
theorem ss_share {st : List Stmt} {i : Nat} {ds : List D} (hr : ρ[i]? = some (.own true (.lst ds))) (h : WSs X st (ρ.set i (.val (.lst ds))) E) : WSs X st ρ E := fun B σ G H F S L => by
  obtain ⟨l, G', e, ex, iv, S'⟩ := S.share hr
  exact h B σ G' H F S' (L.mono ex)
/-- a name at an own thing: its address -/
theorem own_name {i : Nat} {x : Str} {pos : Pos} {o : Own} {lc : Bool} (hN : X.N[i]? = some x) (hv : Vis X.env.scope x) (hd : (x == ("__debug__" : Str)) = false) (hcd : (x == ("__classdict__" : Str)) = false)
    (hr : ρ[i]? = some (.own lc o)) {B : Base} {σ : L2.St} {G H : Hp} (S : Sta B σ ρ G H) {R : VK} (k : ∀ l, σ[i]? = some (some (.ref l)) → OwnOk B G H l o → R (.ref l) H) : wE X (.Name x pos) σ H R := by
  obtain ⟨l, e, h1, h2, ok⟩ := S.ownAt hr
  exact wE_of (pe_var hN hv hd hcd) ⟨_, e, k l e ok⟩
/-- x.append(e), x an own list -/
theorem s_app {i : Nat} {x : Str} {e : Expr} {p1 p2 p3 pos : Pos} (hN : X.N[i]? = some x) (hv : Vis X.env.scope x) (hd : (x == ("__debug__" : Str)) = false) (hcd : (x == ("__classdict__" : Str)) = false)
    (h : ∃ ds, ρ[i]? = some (.own true (.lst ds)) ∧ W false true X e ρ fun d ρ' => ∃ ds', ρ'[i]? = some (.own true (.lst ds')) ∧ ds'.length < 1000000 ∧ E.nx (ρ'.set i (.own true (.lst (ds' ++ [d])))))
    (hbase : attributeBase (.Name x p1) "append" X.env (eval (.Name x p1) X.env) = eval (.Name x p1) X.env := by rfl)
    (hfew : ((backTo p3 (starEach [e] X.env)).all (fun x => !x.1) && (backToKw p3 (keywordEach [] X.env)).all (fun x => x.1.isSome)
      && decide (([e] : List Expr).length + ([] : List Keyword).length + (if ([] : List Keyword).isEmpty then 0 else 1) < 30)) = true := by rfl)
    (hline : (p2.endLine == p3.line) = true := by rfl) (hst : starEach [e] X.env = (false, eval e X.env) :: starEach [] X.env := by rfl) (hplain : (backTo p3 (starEach [] X.env)).any (·.1) = false := by rfl)
    (hs : swapsWith (.Call (.Attribute (.Name x p1) "append" p2) [e] [] p3) none pos.line X.env = pure false := by rfl) : WS X (.Expr (.Call (.Attribute (.Name x p1) "append" p2) [e] [] p3) pos) ρ E := fun B σ G H F S L => by
  obtain ⟨ds, hr, h⟩ := h
  refine wS_of (ps_expr (pe_bm PySem.F.plainAttrs_list PySem.F.slot_list_append PySem.F.type_list_append mt_append pe_w (pa_cons pe_w pa_nil hst) hbase hfew hline hst hplain) hs) ?_
  refine own_name hN hv hd hcd hr S fun l el ok => ?_
  obtain ⟨xs, h1, h2⟩ := ok
  refine ⟨.inl ⟨rfl, xs, .inl (.inl h1)⟩, ?_⟩
  refine h B σ G H S _ fun v d ρ' G' H' q S' y pu iv => ?_
  obtain ⟨ds', hr', hz, q⟩ := q
  obtain ⟨l', el', gl, bl, xs', h1', h2'⟩ := S'.ownAt hr'
  have : l' = l := by rw [el] at el'; cases el'; rfl
  subst this
  refine ⟨l', xs', v, rfl, rfl, h1', by rw [h2'.length]; exact Nat.lt_trans hz (by decide), ?_⟩
  exact L.nx σ _ G' _ q (S'.upd hr' el ⟨_, upd_same, IsA.snoc h2' iv⟩) y
/-- x[e] = v, x an own list -/
theorem s_item {i : Nat} {x : Str} {e ev : Expr} {p1 p2 : Pos} (hN : X.N[i]? = some x) (hv : Vis X.env.scope x) (hd : (x == ("__debug__" : Str)) = false) (hcd : (x == ("__classdict__" : Str)) = false)
    (h : W true true X ev ρ fun d _ => ∃ ds, ρ[i]? = some (.own true (.lst ds)) ∧ W true true X e ρ fun k _ => ∃ n j, k = .int n ∧ ixN ds.length n = some j ∧ E.nx (ρ.set i (.own true (.lst (ds.set j d)))))
    (hs : swapsWithSole [.Subscript (.Name x p1) e p2] ev pos.line X.env = pure false := by rfl) (hw : swappedStores [.Subscript (.Name x p1) e p2] ev X.env = pure none := by rfl)
    (h1 : (assignEach [.Subscript (.Name x p1) e p2] X.env).map (·.2) = [assign (.Subscript (.Name x p1) e p2) X.env] := by rfl)
    (ha : ∀ v, assign (.Subscript (.Name x p1) e p2) X.env v = (do
      let ov ← holding [v] (eval (.Name x p1) X.env)
      let iv ← holding [v, ov] (eval e X.env)
      standAt p2
      holding [v, ov, iv] (setItem ov iv v)
      release [v, ov, iv] []) := by intro _; rfl) : WS X (.Assign [.Subscript (.Name x p1) e p2] ev pos) ρ E := fun B σ G H F S L => by
  refine wS_of (ps_asg pe_w (pg_sub pe_w pe_w set_list ha) hs hw h1) ?_
  refine h B σ G H S _ fun v d ρ' G' H' q S' y pu iv => ?_
  obtain ⟨e1, gr⟩ := pu rfl
  subst e1
  obtain ⟨ds, hr, q⟩ := q
  refine own_name hN hv hd hcd hr S' fun l el ok => ?_
  refine q B σ G' H' S' _ fun u k ρ2 G2 H2 q2 S2 y2 pu2 iu => ?_
  obtain ⟨e2, gr2⟩ := pu2 rfl
  subst e2
  obtain ⟨n, j, rfl, hj, q2⟩ := q2
  obtain ⟨l', el', gl, bl, xs', h1', h2'⟩ := S2.ownAt hr
  have : l' = l := by rw [el] at el'; cases el'; rfl
  subst this
  refine ⟨l', xs', n, j, rfl, iu, h1', by rw [h2'.length]; exact hj, ?_⟩
  exact L.nx σ _ G2 _ q2 (S2.upd hr el ⟨_, upd_same, h2'.set (Is.mono y2 _ _ iv)⟩) (y.trans y2)
/-- a, b = e, f -/
theorem s_par {i j : Nat} {x y : Str} {a b : Expr} {px py pt : Pos} {kt k2 pt2} (hc : X.calm = true) (hN : X.N.Nodup) (hi : X.N[i]? = some x) (hj : X.N[j]? = some y) (hij : i ≠ j)
    (hx : X.env.scope.names.lookup x = some .local) (hy : X.env.scope.names.lookup y = some .local)
    (h : WA false true X [a, b] ρ fun ds ρ' => ∃ d e, ds = [d, e] ∧ E.nx ((ρ'.set i (.val d)).set j (.val e)))
    (hw : swappedStores [.Tuple [.Name x px, .Name y py] kt pt] (.Tuple [a, b] k2 pt2) X.env = pure (some [x, y]) := by rfl)
    (hs : swapsWithSole [.Tuple [.Name x px, .Name y py] kt pt] (.Tuple [a, b] k2 pt2) pos.line X.env = pure false := by rfl) :
    WS X (.Assign [.Tuple [.Name x px, .Name y py] kt pt] (.Tuple [a, b] k2 pt2) pos) ρ E := fun B σ G H F S L => by
  refine wS_of (ps_par hc hN hi hj hij hx hy pa_w hw hs) ?_
  refine h B σ G H S _ fun vs ds ρ' G' H' q S' y pu iv => ?_
  obtain ⟨d, e, rfl, q⟩ := q
  obtain ⟨v, u, rfl, i1, i2⟩ := isA_two iv
  exact ⟨v, u, rfl, L.nx _ _ G' H' q ((S'.set i1).set i2) y⟩
/-- x += e, ints -/
theorem s_aug {i : Nat} {x : Str} {e : Expr} {pos' : Pos} (hN : X.N.Nodup) (hi : X.N[i]? = some x) (hx : Loc X.env.scope x) (h : ∃ n, ρ[i]? = some (.val (.int n)) ∧ W false true X e ρ fun d ρ' => ∃ m, d = .int m ∧ E.nx (ρ'.set i (.val (.int (n + m)))))
    (hf : X.fn x = true ∨ X.env.scope.names.lookup x = some .local := by first | exact .inl rfl | exact .inr rfl) : WS X (.AugAssign (.Name x pos') .Add e pos) ρ E := fun B σ G H F S L => by
  obtain ⟨n, hr, h⟩ := h
  refine wS_of (ps_aug hN hi hx pe_w ip_add hf) ?_
  obtain ⟨v, e1, iv⟩ := S.valAt hr
  cases (iv : v = .int n)
  refine ⟨_, e1, ?_⟩
  refine h B σ G H S _ fun u d ρ' G' H' q S' y pu iu => ?_
  obtain ⟨m, rfl, q⟩ := q
  cases (iu : u = .int m)
  exact ⟨n, m, rfl, rfl, L.nx _ _ G' H' q (S'.set (d := .int (n + m)) rfl) y⟩
/-- for: I by the turn and the data -/
theorem s_for {tg iter : Expr} {body : List Stmt} {T : Tg} (hp : PassesOwn (model X.prog X.w) X.A X.env X.xe) (hc : X.calm = true) (hg : PG X tg (T.g X.K)) (hs : ∀ x, foldedSetIterable iter X.env x = pure x)
    (h : WI false X tg iter ρ fun ds ρ1 => ∃ I : Nat → Rho → Prop, I 0 ρ1 ∧ (∀ i d ρi, ds[i]? = some d → I i ρi → ∃ ρ2, T.eff d ρi = some ρ2 ∧ WSs X body ρ2 { E with nx := I (i + 1), ct := I (i + 1), bk := E.nx }) ∧ ∀ ρn, I ds.length ρn → E.nx ρn) : WS X (.For tg iter body [] pos) ρ E := fun B σ G H F S L => by
  refine wS_of (ps_for hp hc pi_w hg pss_w hs) ?_
  refine h B σ G H S _ fun J ds ρ1 G1 H1 q S1 x pu wk => ?_
  obtain ⟨I, i0, turn, fin⟩ := q
  refine for_it wk (fun i σ' H' => ∃ ρ' G', I i ρ' ∧ Sta B σ' ρ' G' H' ∧ Ex G1 G') ⟨ρ1, G1, i0, S1, Ex.refl _⟩ (fun i σ' H' _ h => ?_) (fun i y σ' H' H'' hi h ya => ?_) fun σ' H' h => ?_
  · obtain ⟨ρ', G', _, S', e⟩ := h
    exact e.trans S'.ex
  · obtain ⟨ρ', G', hI, S', e⟩ := h
    have hget : ds[i]? = some ds[i] := List.getElem?_eq_getElem hi
    obtain ⟨G2, gr, iy⟩ := ya _ hget G' e S'.ex
    obtain ⟨ρ2, he, hb⟩ := turn i _ ρ' hget hI
    refine Tg.run he (S'.grow gr) iy (fun σ2 S2 _ => ?_) fun τ vs j o hj => wipe_set τ vs j o hj
    have e2 := e.trans gr.g
    exact hb B σ2 G2 H'' _ S2 ⟨fun σ3 ρ3 G3 H3 q3 S3 x3 => ⟨ρ3, G3, q3, S3, e2.trans x3⟩, L.rt, fun σ3 ρ3 G3 H3 q3 S3 x3 => L.nx σ3 ρ3 G3 H3 q3 S3 ((x.trans e2).trans x3), fun σ3 ρ3 G3 H3 q3 S3 x3 => ⟨ρ3, G3, q3, S3, e2.trans x3⟩⟩
  · obtain ⟨ρ', G', hI, S', e⟩ := h
    exact L.nx σ' ρ' G' H' (fin ρ' hI) S' (x.trans e)
/-- while: I by a number that falls and the data -/
theorem s_while {c : Expr} {body : List Stmt} (hp : PassesOwn (model X.prog X.w) X.A X.env X.xe) (I : Nat → Rho → Prop) (m0 : Nat) (h0 : I m0 ρ)
    (h : ∀ m ρ', I m ρ' → WT false X c ρ' fun b ρ2 => if b = true then WSs X body ρ2 { E with nx := fun ρ3 => ∃ m', m' < m ∧ I m' ρ3, ct := fun ρ3 => ∃ m', m' < m ∧ I m' ρ3, bk := E.nx } else E.nx ρ2) : WS X (.While c body [] pos) ρ E := fun B σ G H F S L => by
  refine wS_of (ps_while hp pt_w pss_w) ?_
  refine ⟨fun m σ' H' => ∃ ρ' G', I m ρ' ∧ Sta B σ' ρ' G' H' ∧ Ex G G', ⟨m0, ρ, G, h0, S, Ex.refl G⟩, fun m σ' H' hw => ?_⟩
  obtain ⟨ρ', G', hI, S', e⟩ := hw
  refine h m ρ' hI B σ' G' H' S' _ fun b ρ2 G2 H2 q S2 x pu => ?_
  cases b with
  | true =>
    show ∃ N : L2.St → Hp → Prop, (∀ σ' H', N σ' H' → ∃ m', m' < m ∧ ∃ ρ' G', I m' ρ' ∧ Sta B σ' ρ' G' H' ∧ Ex G G') ∧ wSs X body { F with nx := N, ct := N, bk := F.nx } σ' H2
    have e2 := e.trans x
    refine ⟨fun σ3 H3 => ∃ m', m' < m ∧ ∃ ρ' G', I m' ρ' ∧ Sta B σ3 ρ' G' H3 ∧ Ex G G', fun _ _ z => z, ?_⟩
    exact q B σ' G2 H2 _ S2 ⟨fun σ3 ρ3 G3 H3 ⟨m', hm, hi⟩ S3 x3 => ⟨m', hm, ρ3, G3, hi, S3, e2.trans x3⟩, L.rt, fun σ3 ρ3 G3 H3 q3 S3 x3 => L.nx σ3 ρ3 G3 H3 q3 S3 (e2.trans x3), fun σ3 ρ3 G3 H3 ⟨m', hm, hi⟩ S3 x3 => ⟨m', hm, ρ3, G3, hi, S3, e2.trans x3⟩⟩
  | false =>
    exact L.nx σ' ρ2 G2 H2 q S2 (e.trans x)

/-! ### defs over data -/
/-- a def that takes data and changes nothing: its promise c, by what is wanted of the result -/
def spD (c : List D → (D → Prop) → Prop) : Sp := fun vs H Q _ => ∃ (G : Hp) (ds : List D) (Z : D → Prop), Ex G H ∧ IsA G ds vs ∧ c ds Z ∧ ∀ v d G' H', Z d → Grow G H G' H' → Is G' d v → Q v H'
/-- a def that draws: the pot first, then data -/
def spP (c : List D → (D → Prop) → Prop) : Sp := fun vs H Q _ => ∃ (G : Hp) (l : Addr) (vr : List V) (ds : List D) (Z : D → Prop), vs = .ref l :: vr ∧ Ex G H ∧ G l = none ∧ PotAt H l ∧ IsA G ds vr ∧ c ds Z ∧ ∀ v d G' H', Z d → GrowP l G H G' H' → Is G' d v → Q v H'
section
variable {p g : Bool} {Q : D → Rho → Prop} {c : List D → (D → Prop) → Prop} {k : Nat} {f : Addr} {fd : FuncData} {ps : List Str} {x : Str} {pp : Pos}
theorem w_call {e : Expr} {es : List Expr} (F : FnOk X.prog X.w X.K X.mg X.base CX0 k f fd ps (spD c)) (hr : Room k X.A) (hg : Gl X x) (hm : X.mg x = some (.ref f)) (hk : PySem.W.keepIn X.K (.ref f) = true) (hb : Binds X.K fd ps [])
    (h : WA p true X (e :: es) ρ fun ds ρ' => c ds fun d => Q d ρ') (hdb : (x == ("__debug__" : Str)) = false := by decide)
    (he : starEach (e :: es) X.env = (false, eval e X.env) :: starEach es X.env := by rfl)
    (hpl : (backTo pos (starEach es X.env)).any (·.1) = false := by rfl) : W p g X (.Call (.Name x pp) (e :: es) [] pos) ρ Q := fun B σ G H S R r => by
  refine wE_of (pe_call F hr hg hm hk hb .nil pass0 pa_w hdb he hpl) ?_
  refine h B σ G H S _ fun vs ds ρ' G' H' q S' y pu i => ?_
  refine ⟨G', ds, fun d => Q d ρ', S'.ex, by rw [List.append_nil]; exact i, q, fun v d G2 H2 z gr iz => ?_⟩
  exact r v d ρ' G2 H2 z (S'.grow gr) (y.trans gr.g) (fun w => ⟨(pu w).1, (pu w).2.trans gr⟩) (is_h (S'.grow gr) iz)
/-- read: own lists may be handed -/
theorem w_callR {e : Expr} {es : List Expr} (F : FnOk X.prog X.w X.K X.mg X.base CX0 k f fd ps (spD c)) (hr : Room k X.A) (hg : Gl X x) (hm : X.mg x = some (.ref f)) (hk : PySem.W.keepIn X.K (.ref f) = true) (hb : Binds X.K fd ps [])
    (h : WA true false X (e :: es) ρ fun ds ρ' => c ds fun d => (sc d).isSome = true ∧ Q d ρ') (hdb : (x == ("__debug__" : Str)) = false := by decide)
    (he : starEach (e :: es) X.env = (false, eval e X.env) :: starEach es X.env := by rfl)
    (hpl : (backTo pos (starEach es X.env)).any (·.1) = false := by rfl) : W p g X (.Call (.Name x pp) (e :: es) [] pos) ρ Q := fun B σ G H S R r => by
  refine wE_of (pe_call F hr hg hm hk hb .nil pass0 pa_w hdb he hpl) ?_
  refine h B σ G H S _ fun vs ds ρ' G' H' q S' y pu i => ?_
  refine ⟨H', ds, fun d => (sc d).isSome = true ∧ Q d ρ', Ex.refl _, by rw [List.append_nil]; exact i, q, fun v d G2 H2 z gr iz => ?_⟩
  have gr2 : Grow G' H' G' H2 := ⟨Ex.refl _, gr.h, S'.ex.trans gr.h, fun a o e => .inl e⟩
  obtain ⟨u, hu⟩ := Option.isSome_iff_exists.mp z.1
  have e1 : v = u := Is.sc hu iz
  subst e1
  exact r v d ρ' G' H2 z.2 (S'.grow gr2) (y.trans gr2.g) (fun w => ⟨(pu rfl).1, (pu rfl).2.trans gr2⟩) (is_h (S'.grow gr2) (Is.of_sc hu))
/-- f(pot, e, ..) -/
theorem w_callP {i : Nat} {y : Str} {py : Pos} {es : List Expr} {lc : Bool} (F : FnOk X.prog X.w X.K X.mg X.base CX0 k f fd ps (spP c)) (hr : Room k X.A) (hg : Gl X x) (hm : X.mg x = some (.ref f)) (hk : PySem.W.keepIn X.K (.ref f) = true) (hb : Binds X.K fd ps [])
    (hN : X.N[i]? = some y) (hv : Vis X.env.scope y) (hd : (y == ("__debug__" : Str)) = false) (hcd : (y == ("__classdict__" : Str)) = false) (hr' : ρ[i]? = some (.own lc .pot))
    (h : WA false true X es ρ fun ds ρ' => ρ'[i]? = some (.own lc .pot) ∧ c ds fun d => Q d ρ') (hdb : (x == ("__debug__" : Str)) = false := by decide)
    (he : starEach (.Name y py :: es) X.env = (false, eval (.Name y py) X.env) :: starEach es X.env := by rfl)
    (hpl : (backTo pos (starEach es X.env)).any (·.1) = false := by rfl) : W false g X (.Call (.Name x pp) (.Name y py :: es) [] pos) ρ Q := fun B σ G H S R r => by
  refine wE_of (pe_call F hr hg hm hk hb .nil pass0 (pa_cons pe_w pa_w he) hdb he hpl) ?_
  refine own_name hN hv hd hcd hr' S fun l el ok => ?_
  refine h B σ G H S _ fun vs ds ρ' G' H' q S' yx pu j => ?_
  obtain ⟨l', el', gl, bl, pt⟩ := S'.ownAt q.1
  have : l' = l := by rw [el] at el'; cases el'; rfl
  subst this
  refine ⟨G', l', vs, ds, fun d => Q d ρ', by rw [List.append_nil], S'.ex, gl, pt, j, q.2, fun v d G2 H2 z gr iz => ?_⟩
  have S2 := S'.growP gr q.1 el
  exact r v d ρ' G2 H2 z S2 (yx.trans gr.g) (fun z => nomatch z) (is_h S2 iz)
end
end
/-- slots at the entry -/
def rho0 (N : List Str) (ds : List D) : Rho := ds.map Slot.val ++ List.replicate (N.length - ds.length) .un
theorem start_get {N : List Str} {vs : List V} {i : Nat} {v : V} (h : vs[i]? = some v) : (L2.start N vs)[i]? = some (some v) := by
  unfold L2.start
  have hi : i < vs.length := (List.getElem?_eq_some_iff.mp h).1
  rw [List.getElem?_append_left (by simpa using hi), List.getElem?_map, h]
  rfl
theorem sta_start {N : List Str} {G H : Hp} {ds : List D} {vs : List V} (ex : Ex G H) (i : IsA G ds vs) : Sta ⟨H, G, [], 0⟩ (L2.start N vs) (rho0 N ds) G H := by
  refine ⟨?_, ex, fun _ _ e _ => e, fun _ e => e, fun _ _ e => .inl e, Ex.refl _, ex, fun l hl => absurd hl (by simp), fun j s v h1 h2 => ?_, fun j k l1 l2 o1 o2 jk h1 h2 => ?_⟩
  · unfold L2.start rho0
    simp [i.length]
  · unfold rho0 at h1
    by_cases hj : j < ds.length
    · rw [List.getElem?_append_left (by simpa using hj), List.getElem?_map] at h1
      cases hd : ds[j]? with
      | none => rw [hd] at h1; cases h1
      | some d =>
        rw [hd] at h1
        cases h1
        obtain ⟨x, hx, ix⟩ := i.get hd
        rw [start_get hx] at h2
        cases h2
        exact ⟨x, rfl, ix⟩
    · rw [List.getElem?_append_right (by simpa using hj), List.getElem?_replicate] at h1
      split at h1 <;> cases h1
      trivial
  · unfold rho0 at h1
    by_cases hj : j < ds.length
    · rw [List.getElem?_append_left (by simpa using hj), List.getElem?_map] at h1
      cases hd : ds[j]? with
      | none => rw [hd] at h1; cases h1
      | some d => rw [hd] at h1; cases h1
    · rw [List.getElem?_append_right (by simpa using hj), List.getElem?_replicate] at h1
      split at h1 <;> cases h1
section
variable {P : Program} {w : World} {K : PySem.W.Frag} {mg : Str → Option Value} {base : Heap}
abbrev CxD (P : Program) (w : World) (K : PySem.W.Frag) (mg : Str → Option Value) (base : Heap) (N : List Str) (qual : Str) (st : Stmt) (f : Addr) (cdv : Value) (A : Around) (outer : List Env) (s : Shared) (H : Hp) (E : XK) : Cx := (cxOf CX0 P w K mg base N qual (defScope st) f cdv A outer s H E).nox
/-- a def over data, by its body -/
theorem fnD {x qual : Str} {st : Stmt} {f : Addr} {fd : FuncData} {N ps : List Str} {k : Nat} {c : List D → (D → Prop) → Prop} (F : Fun K x qual st f fd) (S : FnScope N ps (defScope st)) (len : ∀ ds Z, c ds Z → ds.length = ps.length)
    (h : ∀ (cdv : Value) (A : Around) (outer : List Env) (s : Shared) (H : Hp) (E : XK) (ds : List D) (Z : D → Prop), Room k (A.deeper (envOfC qual (defScope st) s.heap.objs.size f cdv)) → c ds Z →
      WSs (CxD P w K mg base N qual st f cdv A outer s H E) (defBody st) (rho0 N ds) { nx := fun _ => Z .non, rt := Z }) : FnOk P w K mg base CX0 (k + 1) f fd ps (spD c) := by
  refine F.ok S (fun vs H Q E hs => ?_) fun cdv A outer s H vs Q E hr hs => ?_
  · obtain ⟨G, ds, Z, ex, i, hc, _⟩ := hs
    rw [i.length]; exact len ds Z hc
  · obtain ⟨G, ds, Z, ex, i, hc, q⟩ := hs
    refine ⟨_, pss_w, ?_⟩
    have fin : ∀ v d G' H', Z d → Fin ⟨H, G, [], 0⟩ G' H' → Is G' d v → Q v H' := fun v d G' H' z F iv => q v d G' H' z ⟨F.bg, fun a o e => F.fr a o e (by simp), F.ex, F.nw⟩ iv
    exact h cdv A outer s H E ds Z hr hc ⟨H, G, [], 0⟩ _ G H _ (sta_start ex i) ⟨fun σ' ρ' G' H' z S' _ => fin .non .non G' H' z S'.fin rfl, fun v d G' H' z F iv => fin v d G' H' z F iv, fun _ _ _ _ z => z.elim, fun _ _ _ _ z => z.elim⟩
/-- a def that draws -/
def rhoP (N : List Str) (ds : List D) : Rho := .own false .pot :: (ds.map Slot.val ++ List.replicate (N.length - (ds.length + 1)) .un)
theorem sta_startP {N : List Str} {G H : Hp} {ds : List D} {vs : List V} {l : Addr} (ex : Ex G H) (i : IsA G ds vs) (gl : G l = none) (pl : PotAt H l) : Sta ⟨H, G, [l], 0⟩ (L2.start N (.ref l :: vs)) (rhoP N ds) G H := by
  refine ⟨?_, ex, fun _ _ e _ => e, fun _ e => e, fun _ _ e => .inl e, Ex.refl _, ex, fun m hm => ?_, fun j s v h1 h2 => ?_, fun j k l1 l2 o1 o2 jk h1 h2 => ?_⟩
  · unfold L2.start rhoP
    simp [i.length]
  · have e : m = l := by simpa using hm
    subst e
    obtain ⟨a, b, e, r⟩ := id pl
    exact ⟨pl, _, e⟩
  · cases j with
    | zero =>
      cases h1
      rw [start_get (v := .ref l) rfl] at h2
      cases h2
      exact ⟨l, rfl, gl, List.mem_singleton.mpr rfl, pl⟩
    | succ j =>
      have h1 : (ds.map Slot.val ++ List.replicate (N.length - (ds.length + 1)) Slot.un)[j]? = some s := h1
      by_cases hj : j < ds.length
      · rw [List.getElem?_append_left (by simpa using hj), List.getElem?_map] at h1
        cases hd : ds[j]? with
        | none => rw [hd] at h1; cases h1
        | some d =>
          rw [hd] at h1
          cases h1
          obtain ⟨x, hx, ix⟩ := i.get hd
          rw [start_get (vs := .ref l :: vs) (i := j + 1) hx] at h2
          cases h2
          exact ⟨x, rfl, ix⟩
      · rw [List.getElem?_append_right (by simpa using hj), List.getElem?_replicate] at h1
        split at h1 <;> cases h1
        trivial
  · have own0 : ∀ (j : Nat) (lc : Bool) (o : Own), (rhoP N ds)[j]? = some (.own lc o) → j = 0 := fun j lc o h => by
      cases j with
      | zero => rfl
      | succ j =>
        have h : (ds.map Slot.val ++ List.replicate (N.length - (ds.length + 1)) Slot.un)[j]? = some (.own lc o) := h
        by_cases hj : j < ds.length
        · rw [List.getElem?_append_left (by simpa using hj), List.getElem?_map] at h
          cases hd : ds[j]? with
          | none => rw [hd] at h; cases h
          | some d => rw [hd] at h; cases h
        · rw [List.getElem?_append_right (by simpa using hj), List.getElem?_replicate] at h
          split at h <;> cases h
    exact absurd ((own0 j _ _ h1).trans (own0 k _ _ h2).symm) jk
theorem fnP {x qual : Str} {st : Stmt} {f : Addr} {fd : FuncData} {N ps : List Str} {k : Nat} {c : List D → (D → Prop) → Prop} (F : Fun K x qual st f fd) (S : FnScope N ps (defScope st)) (len : ∀ ds Z, c ds Z → ds.length + 1 = ps.length)
    (h : ∀ (cdv : Value) (A : Around) (outer : List Env) (s : Shared) (H : Hp) (E : XK) (ds : List D) (Z : D → Prop), Room k (A.deeper (envOfC qual (defScope st) s.heap.objs.size f cdv)) → c ds Z →
      WSs (CxD P w K mg base N qual st f cdv A outer s H E) (defBody st) (rhoP N ds) { nx := fun _ => Z .non, rt := Z }) : FnOk P w K mg base CX0 (k + 1) f fd ps (spP c) := by
  refine F.ok S (fun vs H Q E hs => ?_) fun cdv A outer s H vs Q E hr hs => ?_
  · obtain ⟨G, l, vr, ds, Z, rfl, ex, gl, pl, i, hc, _⟩ := hs
    have := len ds Z hc
    rw [List.length_cons, i.length]; exact this
  · obtain ⟨G, l, vr, ds, Z, rfl, ex, gl, pl, i, hc, q⟩ := hs
    refine ⟨_, pss_w, ?_⟩
    have fin : ∀ v d G' H', Z d → Fin ⟨H, G, [l], 0⟩ G' H' → Is G' d v → Q v H' := fun v d G' H' z F iv => q v d G' H' z ⟨F.bg, fun a o e n => F.fr a o e (by simpa using n), F.ex, F.nw, F.pot l (List.mem_singleton.mpr rfl)⟩ iv
    exact h cdv A outer s H E ds Z hr hc ⟨H, G, [l], 0⟩ _ G H _ (sta_startP ex i gl pl) ⟨fun σ' ρ' G' H' z S' _ => fin .non .non G' H' z S'.fin rfl, fun v d G' H' z F iv => fin v d G' H' z F iv, fun _ _ _ _ z => z.elim, fun _ _ _ _ z => z.elim⟩
end
end DD

namespace DD
open PySem PySem.Spec PyProof.Rows L2

/-! ### short words -/
section
variable {p g : Bool} {X : Cx} {ρ : Rho} {Q : D → Rho → Prop} {QT : Bool → Rho → Prop} {QA : List D → Rho → Prop}
/-- the name in slot i -/
theorem nm (i : Nat) {x : Str} {pos : Pos} {d : D} (q : Q d ρ) (hN : X.N[i]? = some x := by rfl) (hr : ρ[i]? = some (.val d) := by rfl)
    (hv : Vis X.env.scope x := by first | exact .inl rfl | exact .inr (.inl rfl) | exact .inr (.inr rfl)) (hd : (x == ("__debug__" : Str)) = false := by decide) (hcd : (x == ("__classdict__" : Str)) = false := by decide) : W p g X (.Name x pos) ρ Q :=
  w_name hN hv hd hcd hr q
theorem nmO (i : Nat) {x : Str} {pos : Pos} {lc : Bool} {ds : List D} (q : Q (.lst ds) ρ) (hN : X.N[i]? = some x := by rfl) (hr : ρ[i]? = some (.own lc (.lst ds)) := by rfl)
    (hv : Vis X.env.scope x := by first | exact .inl rfl | exact .inr (.inl rfl) | exact .inr (.inr rfl)) (hd : (x == ("__debug__" : Str)) = false := by decide) (hcd : (x == ("__classdict__" : Str)) = false := by decide) : W p false X (.Name x pos) ρ Q :=
  w_own hN hv hd hcd hr q
theorem nmS (i : Nat) {x : Str} {pos : Pos} {ds : List D} (q : Q (.lst ds) (ρ.set i (.val (.lst ds)))) (hN : X.N[i]? = some x := by rfl) (hr : ρ[i]? = some (.own true (.lst ds)) := by rfl)
    (hv : Vis X.env.scope x := by first | exact .inl rfl | exact .inr (.inl rfl) | exact .inr (.inr rfl)) (hd : (x == ("__debug__" : Str)) = false := by decide) (hcd : (x == ("__classdict__" : Str)) = false := by decide) : W false true X (.Name x pos) ρ Q :=
  w_share hN hv hd hcd hr q
theorem bltin {n : String} {x : Str} {pos : Pos} (hm : X.mg x = none) (q : Q (.ty n) ρ) (hv : bootBuiltins x = some (.type n) := by decide +kernel) (hg : Gl X x := by rfl) (hn : x ≠ "__name__" := by decide) (hd : (x == ("__debug__" : Str)) = false := by decide) : W p g X (.Name x pos) ρ Q :=
  w_const (v := .ty n) (pe_bltn hg hm hv rfl hn hd) rfl q
theorem a1 {e : Expr} (h : W p g X e ρ fun d ρ1 => QA [d] ρ1) (hs : starEach [e] X.env = (false, eval e X.env) :: starEach [] X.env := by rfl) : WA p g X [e] ρ QA := fun B σ G H S R r => by
  refine wA_of (pa_cons pe_w pa_nil hs) ?_
  refine h B σ G H S _ fun v d ρ1 G1 H1 q1 S1 e1 pu1 i1 => ?_
  exact r [v] [d] ρ1 G1 H1 q1 S1 e1 pu1 ⟨v, [], rfl, i1, rfl⟩
theorem aG {e : Expr} {es : List Expr} (h : W p true X e ρ fun d ρ1 => WA p true X es ρ1 fun ds ρ2 => QA (d :: ds) ρ2) (hs : starEach (e :: es) X.env = (false, eval e X.env) :: starEach es X.env := by rfl) : WA p true X (e :: es) ρ QA := a_cons (.inr rfl) h hs
theorem aP {e : Expr} {es : List Expr} (h : W true g X e ρ fun d ρ1 => WA true g X es ρ1 fun ds ρ2 => QA (d :: ds) ρ2) (hs : starEach (e :: es) X.env = (false, eval e X.env) :: starEach es X.env := by rfl) : WA true g X (e :: es) ρ QA := a_cons (.inl rfl) h hs
theorem WA.un {es : List Expr} (h : WA true g X es ρ QA) : WA p g X es ρ QA := fun B σ G H S R r =>
  h B σ G H S R fun v d ρ' G' H' q S' x pu i => r v d ρ' G' H' q S' x (fun _ => pu rfl) i
theorem WT.un {e : Expr} (h : WT true X e ρ QT) : WT p X e ρ QT := fun B σ G H S R r =>
  h B σ G H S R fun b ρ' G' H' q S' x pu => r b ρ' G' H' q S' x (fun _ => pu rfl)
theorem w_binG {a b : Expr} {op : Operator} {pos : Pos}
    (h : W p true X a ρ fun x ρ1 => W p true X b ρ1 fun y ρ2 => Op2 true X (binaryOp op) x y fun z => Q z ρ2) : W p g X (.BinOp a op b pos) ρ Q := w_bin true true (.inr rfl) h
theorem w_cmpG {a b : Expr} {op : CmpOp} {pos : Pos} (h : W p true X a ρ fun x ρ1 => W p true X b ρ1 fun y ρ2 => Op2 true X (compareOp op) x y fun z => Q z ρ2) (hm : behindInMarks op b = false := by first | exact nomark _ | rfl) : W p g X (.Compare a [op] [b] pos) ρ Q := w_cmp true true hm (.inr rfl) h
theorem t_cmpG {a b : Expr} {op : CmpOp} {pos : Pos} (h : W p true X a ρ fun x ρ1 => W p true X b ρ1 fun y ρ2 => Op2 true X (compareOp op) x y fun z => ∃ k, z = .bl k ∧ QT k ρ2) (hm : behindInMarks op b = false := by first | exact nomark _ | rfl) : WT p X (.Compare a [op] [b] pos) ρ QT := t_cmp true true hm (.inr rfl) h
/-- compared as read: pure -/
theorem w_cmpR {a b : Expr} {op : CmpOp} {pos : Pos} (h : W true false X a ρ fun x ρ1 => W true false X b ρ1 fun y ρ2 => Op2 false X (compareOp op) x y fun z => Q z ρ2) (hm : behindInMarks op b = false := by first | exact nomark _ | rfl) : W p g X (.Compare a [op] [b] pos) ρ Q := W.un (w_cmp false false hm (.inl rfl) h)
theorem t_cmpR {a b : Expr} {op : CmpOp} {pos : Pos} (h : W true false X a ρ fun x ρ1 => W true false X b ρ1 fun y ρ2 => Op2 false X (compareOp op) x y fun z => ∃ k, z = .bl k ∧ QT k ρ2) (hm : behindInMarks op b = false := by first | exact nomark _ | rfl) : WT p X (.Compare a [op] [b] pos) ρ QT := WT.un (t_cmp false false hm (.inl rfl) h)
/-- a op1 b op2 c, ints -/
theorem w_chain {a b c : Expr} {op op' : CmpOp} {pos : Pos} (h : W true true X a ρ fun x ρ1 => W true true X b ρ1 fun y ρ2 => Op2 true X (compareOp op) x y fun z => ∃ k, z = .bl k ∧ if k = true then W true true X c ρ2 fun u ρ3 => Op2 true X (compareOp op') y u fun w => Q w ρ3 else Q (.bl false) ρ2)
    (hm : lastMarks [op, op'] [b, c] = false := by with_unfolding_all rfl) : W p g X (.Compare a [op, op'] [b, c] pos) ρ Q := W.un fun B σ G H S R r => by
  refine wE_of (pe_chain op_any op_any pe_w pe_w pe_w hm) ?_
  refine two (p := true) (p1 := true) (.inr rfl) h S fun v u x y ρ' G' H' q S' e pu i1 i2 => ?_
  refine q G' H' v u _ S'.ex i1 i2 fun w z G2 H2 hz gr iz => ?_
  obtain ⟨k, rfl, hk⟩ := hz
  refine ⟨k, iz, ?_⟩
  have S2 := S'.grow gr
  cases k with
  | true =>
    refine hk B σ G2 H2 S2 _ fun t d ρ3 G3 H3 q3 S3 e3 pu3 i3 => ?_
    refine q3 G3 H3 u t R S3.ex (Is.mono (gr.g.trans e3) _ _ i2) i3 fun w2 z2 G4 H4 hz4 gr4 iz4 => ?_
    exact r w2 z2 ρ3 G4 H4 hz4 (S3.grow gr4) (((e.trans gr.g).trans e3).trans gr4.g) (fun z => ⟨(pu3 rfl).1.trans (pu rfl).1, (((pu rfl).2.trans gr).trans (pu3 rfl).2).trans gr4⟩) (is_h (S3.grow gr4) iz4)
  | false => exact r _ _ ρ' G2 H2 hk S2 (e.trans gr.g) (fun z => ⟨(pu rfl).1, (pu rfl).2.trans gr⟩) (is_h S2 rfl)
/-- e.f, a field -/
theorem IsF.get {H : Hp} {f : Str} : ∀ {fs : List (Str × D)} {gs : List (Str × V)} {d : D}, IsF H fs gs → fs.lookup f = some d → ∃ v, gs.lookup f = some v ∧ Is H d v
  | [], _, _, _, h => by cases h
  | (k, e) :: fs, _, d, ⟨x, r, e1, e2, e3⟩, h => by
    subst e1
    show ∃ v, List.lookup f ((k, x) :: r) = some v ∧ _
    rw [List.lookup_cons] at h ⊢
    cases hk : f == k with
    | true => rw [hk] at h; cases h; exact ⟨x, rfl, e2⟩
    | false => rw [hk] at h; exact IsF.get e3 h
theorem IsF.no {H : Hp} {f : Str} : ∀ {fs : List (Str × D)} {gs : List (Str × V)}, IsF H fs gs → fs.lookup f = none → gs.lookup f = none
  | [], _, h, _ => by cases h; rfl
  | (k, e) :: fs, _, ⟨x, r, e1, e2, e3⟩, h => by
    subst e1
    show List.lookup f ((k, x) :: r) = none
    rw [List.lookup_cons] at h ⊢
    cases hk : f == k with
    | true => rw [hk] at h; cases h
    | false => rw [hk] at h; exact IsF.no e3 h
theorem w_fld {e : Expr} {f : Str} {pos : Pos} (h : W p g X e ρ fun x ρ1 => ∃ C fs d, x = .obj C fs ∧ Cls X.K C ∧ NoAttr X.K C f ∧ fs.lookup f = some d ∧ Q d ρ1) (hb : attributeBase e f X.env (eval e X.env) = eval e X.env := by rfl) : W p g X (.Attribute e f pos) ρ Q := fun B σ G H S R r => by
  refine wE_of (pe_fld pe_w hb) ?_
  refine h B σ G H S _ fun v x ρ' G' H' q S' y pu i => ?_
  obtain ⟨C, fs, d, rfl, hc, hn, hf, q⟩ := q
  obtain ⟨a, dx, gs, rfl, e2, e3⟩ := i
  obtain ⟨u, hu, iu⟩ := e3.get hf
  refine ⟨a, C, dx, gs, u, rfl, ?_, hc, hn, hu, r u d ρ' G' H' q S' y pu iu⟩
  cases g with
  | true => exact S'.ex _ _ e2
  | false => exact e2
/-- a text's parts -/
theorem w_callD {c : List D → (D → Prop) → Prop} {k : Nat} {f : Addr} {fd : FuncData} {ps : List Str} {x : Str} {pp pos : Pos} {e : Expr} {es : List Expr}
    (F : FnOk X.prog X.w X.K X.mg X.base CX0 k f fd ps (spD c)) (hm : X.mg x = some (.ref f)) (hk : PySem.W.keepIn X.K (.ref f) = true) (hb : Binds X.K fd ps []) (hr : Room k X.A)
    (h : WA p true X (e :: es) ρ fun ds ρ' => c ds fun d => Q d ρ') (hg : Gl X x := by rfl) (hdb : (x == ("__debug__" : Str)) = false := by decide)
    (he : starEach (e :: es) X.env = (false, eval e X.env) :: starEach es X.env := by rfl)
    (hpl : (backTo pos (starEach es X.env)).any (·.1) = false := by rfl) : W p g X (.Call (.Name x pp) (e :: es) [] pos) ρ Q := w_call F hr hg hm hk hb h hdb he hpl
end
/-- a def as its callers know it -/
structure Df (P : Program) (w : World) (K : PySem.W.Frag) (mg : Str → Option Value) (base : Heap) (k : Nat) (x : Str) (ps : List Str) (sp : Sp) : Prop where
  ex : ∃ f fd, FnOk P w K mg base CX0 k f fd ps sp ∧ mg x = some (.ref f) ∧ PySem.W.keepIn K (.ref f) = true ∧ Binds K fd ps []
section
variable {p g : Bool} {X : Cx} {ρ : Rho} {Q : D → Rho → Prop} {c : List D → (D → Prop) → Prop} {k : Nat} {ps : List Str} {x : Str} {pp pos : Pos} {e : Expr} {es : List Expr}
theorem call (F : Df X.prog X.w X.K X.mg X.base k x ps (spD c)) (hr : Room k X.A) (h : WA p true X (e :: es) ρ fun ds ρ' => c ds fun d => Q d ρ') (hg : Gl X x := by rfl) (hdb : (x == ("__debug__" : Str)) = false := by decide)
    (he : starEach (e :: es) X.env = (false, eval e X.env) :: starEach es X.env := by rfl)
    (hpl : (backTo pos (starEach es X.env)).any (·.1) = false := by rfl) : W p g X (.Call (.Name x pp) (e :: es) [] pos) ρ Q := by
  obtain ⟨f, fd, F, hm, hk, hb⟩ := F.ex
  exact w_call F hr hg hm hk hb h hdb he hpl
theorem callR (F : Df X.prog X.w X.K X.mg X.base k x ps (spD c)) (hr : Room k X.A) (h : WA true false X (e :: es) ρ fun ds ρ' => c ds fun d => (sc d).isSome = true ∧ Q d ρ') (hg : Gl X x := by rfl) (hdb : (x == ("__debug__" : Str)) = false := by decide)
    (he : starEach (e :: es) X.env = (false, eval e X.env) :: starEach es X.env := by rfl)
    (hpl : (backTo pos (starEach es X.env)).any (·.1) = false := by rfl) : W p g X (.Call (.Name x pp) (e :: es) [] pos) ρ Q := by
  obtain ⟨f, fd, F, hm, hk, hb⟩ := F.ex
  exact w_callR F hr hg hm hk hb h hdb he hpl
theorem callP (i : Nat) {y : Str} {py : Pos} {lc : Bool} (F : Df X.prog X.w X.K X.mg X.base k x ps (spP c)) (hr : Room k X.A) (h : WA false true X es ρ fun ds ρ' => ρ'[i]? = some (.own lc .pot) ∧ c ds fun d => Q d ρ') (hN : X.N[i]? = some y := by rfl) (hr' : ρ[i]? = some (.own lc .pot) := by rfl)
    (hv : Vis X.env.scope y := by first | exact .inl rfl | exact .inr (.inl rfl) | exact .inr (.inr rfl)) (hd : (y == ("__debug__" : Str)) = false := by decide) (hcd : (y == ("__classdict__" : Str)) = false := by decide) (hg : Gl X x := by rfl)
    (hdb : (x == ("__debug__" : Str)) = false := by decide)
    (he : starEach (.Name y py :: es) X.env = (false, eval (.Name y py) X.env) :: starEach es X.env := by rfl)
    (hpl : (backTo pos (starEach es X.env)).any (·.1) = false := by rfl) : W false g X (.Call (.Name x pp) (.Name y py :: es) [] pos) ρ Q := by
  obtain ⟨f, fd, F, hm, hk, hb⟩ := F.ex
  exact w_callP F hr hg hm hk hb hN hv hd hcd hr' h hdb he hpl
end
end DD

namespace DD
open PySem PySem.Spec PyProof.Rows L2

/-! ### comprehensions with two fors -/
def del (D : Addr) (H : Hp) : Hp := fun a => if a = D then none else H a
theorem del_same {D : Addr} {H : Hp} : del D H D = none := by simp [del]
theorem del_ne {D a : Addr} {H : Hp} (h : a ≠ D) : del D H a = H a := by simp [del, h]
theorem Grow.del {G H G' H' : Hp} {D : Addr} (g : Grow G H G' H') (hg : G' D = none) : Grow G (del D H) G' (del D H') := by
  refine ⟨g.g, fun a o e => ?_, fun a o e => ?_, fun a o e => ?_⟩
  · have q : a ≠ D := by rintro rfl; rw [del_same] at e; cases e
    rw [del_ne q] at e ⊢; exact g.h a o e
  · have q : a ≠ D := by rintro rfl; rw [hg] at e; cases e
    rw [del_ne q]; exact g.x a o e
  · rcases g.n a o e with z | z
    · exact .inl z
    · by_cases q : a = D
      · subst q; exact .inr del_same
      · rw [del_ne q]; exact .inr z
theorem Grow.undel {G H : Hp} {D : Addr} (x : Ex G H) (hg : G D = none) : Grow G (DD.del D H) G H := by
  refine ⟨Ex.refl _, fun a o e => ?_, x, fun a o e => .inl e⟩
  have q : a ≠ D := by rintro rfl; rw [del_same] at e; cases e
  rw [del_ne q] at e; exact e
theorem del_none {D : Addr} {H : Hp} (h : H D = none) : DD.del D H = H := by
  funext a
  by_cases q : a = D
  · subst q; rw [del_same, h]
  · rw [del_ne q]
def cI (X : Cx) (scope : Scope) (tg e : Expr) : TI := fun σ H Q => ∀ s H0 C cl fp, wI (Blk X scope s H0 C cl fp) tg e σ H Q
theorem pi_c {X : Cx} {scope : Scope} {tg e : Expr} (s : Shared) (H0 : Hp) (C : Addr) (cl : List (Str × Addr)) (fp : List Addr) : PI (X.blk s H0 scope (compEnvC scope cl C X.env) fp) tg e (cI X scope tg e) := ⟨fun pins s1 σ H Q I h => h s H0 C cl fp pins s1 I⟩
theorem g_none {G H G' H' : Hp} {D : Addr} {u : HO} (g : Grow G H G' H') (gD : G D = none) (hD : H D = some u) : G' D = none := by
  cases r : G' D with
  | none => rfl
  | some v =>
    rcases g.n D v r with q | q
    · rw [gD] at q; cases q
    · rw [hD] at q; cases q
/-- the loop over J by a word Pv of the turn and the heap -/
theorem it_go {J : It} {n : Nat} {C : Hp → Prop} {Y : Nat → Hp → V → Hp → Prop} (w : Walk J n C Y) {Qd : Hp → Prop} {St : Hp → (Hp → Prop) → V → Prop} {H0 : Hp} (Pv : Nat → Hp → Prop) (h0 : Pv 0 H0) (hG : ∀ i H, i ≤ n → Pv i H → C H)
    (hs : ∀ i x H H', i < n → Pv i H → Y i H x H' → St H' (Pv (i + 1)) x) (hd : ∀ H, Pv n H → Qd H) :
    ∃ W : Nat → Nat → Hp → Prop, (∃ m, W 0 m H0) ∧ ∀ i m H, W i m H → (J.stop i H ∧ Qd H) ∨ (J.go i H ∧ ∃ Nx : Hp → Prop, (∀ H', Nx H' → ∃ m', m' < m ∧ W (i + 1) m' H') ∧ ∀ x H', J.yld i H x H' → St H' Nx x) := by
  refine ⟨fun i m H => m = n - i ∧ i ≤ n ∧ Pv i H, ⟨n, by simp, Nat.zero_le _, h0⟩, ?_⟩
  rintro i m H ⟨rfl, hi, p⟩
  have q := hG i H hi p
  by_cases hlt : i < n
  · refine .inr ⟨w.goes i H hlt q, Pv (i + 1), fun H' p' => ⟨n - (i + 1), by omega, rfl, hlt, p'⟩, fun x H' y => hs i x H H' hlt p (w.yields i H x H' hlt q y)⟩
  · have e : i = n := by omega
    subst e
    exact .inl ⟨w.stops H q, hd H p⟩
theorem wipe_idem (σ : L2.St) (vs : List Nat) : wipe (wipe σ vs) vs = wipe σ vs := by
  apply List.ext_getElem?
  intro j
  rw [wipe_get, wipe_length, wipe_get]
  by_cases hj : j ∈ vs
  · simp [hj]
  · simp [hj]
section
variable {p g : Bool} {X : Cx} {ρ : Rho} {Q : D → Rho → Prop}
theorem x_lc2 {elt tg iter tg1 iter1 : Expr} {scope : Scope} {own : List (Str × Nat)} {T T1 : Tg} (inner : DD.D → List DD.D) (f : DD.D → DD.D → DD.D) (hT : ∀ i ∈ T.slots, i ∈ own.map (·.2)) (hT1 : ∀ i ∈ T1.slots, i ∈ own.map (·.2))
    (h : WI p X tg iter ρ fun ds ρ1 => (ds.flatMap fun d => (inner d).map (f d)).length ≤ 40000 ∧ (∀ d ∈ ds, ∃ ρi, T.eff d (wipeR ρ1 (own.map (·.2))) = some ρi ∧ (∀ s H C cl fp, WI true (Blk X scope s H C cl fp) tg1 iter1 ρi fun es _ => es = inner d) ∧
      ∀ e ∈ inner d, ∃ ρj, T1.eff e (wipeR ρi T1.slots) = some ρj ∧ ∀ s H C cl fp, W true true (Blk X scope s H C cl fp) elt ρj fun y _ => y = f d e) ∧ Q (.lst (ds.flatMap fun d => (inner d).map (f d))) ρ1) :
    WX p g (tLc2 (wI X tg iter) (T.g X.K) tYes (cI X scope tg1 iter1) (T1.g X.K) tYes (cE X scope elt) (own.map (·.2)) T1.slots) ρ Q := fun B σ G H S R r => by
  refine h B σ G H S _ fun J ds ρ1 G1 H1 q S1 x pu wk D hD => ?_
  obtain ⟨hl, turn, q⟩ := q
  have G1D : G1 D = none := by
    cases r : G1 D with
    | none => rfl
    | some u => rw [S1.ex D u r] at hD; cases hD
  have hsz : ∀ (l : List DD.D), l.length ≤ (ds.flatMap fun d => (inner d).map (f d)).length → l.length < sizeLine := fun l hh => Nat.lt_of_le_of_lt (Nat.le_trans hh hl) (by decide)
  refine it_go wk (fun i H => LcW G1 H1 D ((ds.take i).flatMap fun d => (inner d).map (f d)) H) ?_ (fun i H _ h => ?_) (fun i x H H' hi h y => ?_) fun Hc h => ?_
  · exact ⟨hD, G1, [], upd_same, G1D, Grow.own S1.ex hD, rfl⟩
  · obtain ⟨_, Gi, acc, _, _, gr, _⟩ := h
    exact gr.g.trans gr.x
  · obtain ⟨_, Gi, acc, hacc, gD, gr, ia⟩ := h
    have hget : ds[i]? = some ds[i] := List.getElem?_eq_getElem hi
    obtain ⟨G2, gr2, ix⟩ := y _ hget Gi gr.g gr.x
    obtain ⟨ρi, he, hin, hel⟩ := turn ds[i] (List.getElem_mem hi)
    have g2D := g_none gr2 gD hacc
    have hacc2 := gr2.h _ _ hacc
    have grA := gr.trans gr2
    have grD : Grow G1 H1 G2 (del D H') := by
      have z := grA.del (D := D) g2D
      rw [del_none hD] at z
      exact z
    refine Tg.run' he ((S1.grow grD).wipe (own.map (·.2))) grA.x ix (fun σ2 S2 hwp => ?_) fun τ us j o hj => wipe_set τ us j o hj
    refine ⟨(hwp _ hT).trans (wipe_idem _ _), ?_⟩
    show cI X scope tg1 iter1 σ2 H' _
    intro s H0 C cl fp
    refine hin s H0 C cl fp B σ2 G2 H' (S2.grow (Grow.undel grA.x g2D)) _ fun J1 es ρ4 G4 H4 ee S4 x4 pu4 wk1 => ?_
    obtain ⟨rfl, gr4⟩ := pu4 rfl
    subst ee
    have g4D := g_none gr4 g2D hacc2
    have hacc4 := gr4.h _ _ hacc2
    have Sd : Sta B σ2 ρ4 G4 (del D H4) := S2.grow (gr4.del g4D)
    have grE : Grow G1 H1 G4 (del D H4) := grD.trans (gr4.del g4D)
    refine it_go (St := fun H' Nx1 x => T1.g X.K x (wipe σ2 T1.slots) H' fun σ3 H5 => wipe σ3 T1.slots = wipe σ2 T1.slots ∧ tYes σ3 H5 fun b H6 => if b = true then cE X scope elt σ3 H6 fun y H7 => ∃ acc, H7 D = some (.lst acc) ∧ acc.length < sizeLine ∧ Nx1 (L2.upd H7 D (.lst (acc ++ [y]))) else Nx1 H6) wk1
      (fun j H => LcW G4 (del D H4) D (((ds.take i).flatMap fun d => (inner d).map (f d)) ++ ((inner ds[i]).take j).map (f ds[i])) H) ?_ (fun j Hj _ h => ?_) (fun j z Hj Hj' hj h yj => ?_) fun Hc h => ?_
    · refine ⟨del_same, G4, acc, hacc4, g4D, Grow.undel S4.ex g4D, ?_⟩
      rw [List.take_zero, List.map_nil, List.append_nil]
      exact IsA.mono (gr2.g.trans gr4.g) _ _ ia
    · obtain ⟨_, Gj, accj, _, _, grj, _⟩ := h
      exact grj.g.trans grj.x
    · obtain ⟨_, Gj, accj, haccj, gjD, grj, iaj⟩ := h
      have hgetj : (inner ds[i])[j]? = some (inner ds[i])[j] := List.getElem?_eq_getElem hj
      obtain ⟨G5, gr5, iz⟩ := yj _ hgetj Gj grj.g grj.x
      obtain ⟨ρj, hej, hw⟩ := hel _ (List.getElem_mem hj)
      have g5D := g_none gr5 gjD haccj
      have hacc5 := gr5.h _ _ haccj
      refine Tg.run hej ((Sd.grow (grj.trans gr5)).wipe T1.slots) iz (fun σ3 S3 hwp3 => ?_) fun τ us j o hj => wipe_set τ us j o hj
      refine ⟨(hwp3 _ fun _ h => h).trans (wipe_idem _ _), ?_⟩
      show cE X scope elt σ3 Hj' _
      intro s' H0' C' cl' fp'
      refine hw s' H0' C' cl' fp' B σ3 G5 Hj' S3 _ fun v yv ρ6 G6 H6 e6 S6 x6 pu6 i6 => ?_
      obtain ⟨rfl, gr6⟩ := pu6 rfl
      subst e6
      have g6D := g_none gr6 g5D hacc5
      have hacc6 := gr6.h _ _ hacc5
      refine ⟨accj, hacc6, ?_, del_same, G6, accj ++ [v], upd_same, g6D, ?_, ?_⟩
      · rw [iaj.length]
        refine hsz _ ?_
        rw [List.length_append, List.length_map, List.length_take]
        have e1 : ds = ds.take i ++ ds[i] :: ds.drop (i + 1) := by
          rw [List.getElem_cons_drop, List.take_append_drop]
        have e2 : (ds.flatMap fun d => (inner d).map (f d)).length = ((ds.take i).flatMap fun d => (inner d).map (f d)).length + ((inner ds[i]).length + ((ds.drop (i + 1)).flatMap fun d => (inner d).map (f d)).length) := by
          conv => lhs; rw [e1]
          rw [List.flatMap_append, List.flatMap_cons, List.length_append, List.length_append, List.length_map]
        rw [e2]
        omega
      · have grT := (grj.trans gr5).trans gr6
        refine ⟨grT.g, fun a o e => ?_, fun a o e => ?_, grT.n⟩
        · have q : a ≠ D := by rintro rfl; rw [del_same] at e; cases e
          rw [upd_ne q]; exact grT.h a o e
        · have q : a ≠ D := by rintro rfl; rw [g6D] at e; cases e
          rw [upd_ne q]; exact grT.x a o e
      · rw [List.take_add_one, hgetj]
        show IsA G6 (((ds.take i).flatMap fun d => (inner d).map (f d)) ++ ((inner ds[i]).take j ++ [(inner ds[i])[j]]).map (f ds[i])) (accj ++ [v])
        rw [List.map_append, ← List.append_assoc]
        exact IsA.snoc (IsA.mono (gr5.g.trans gr6.g) _ _ iaj) i6
    · obtain ⟨_, Gj, accj, haccj, gjD, grj, iaj⟩ := h
      refine ⟨hD, Gj, accj, haccj, gjD, grE.trans grj, ?_⟩
      rw [List.take_length] at iaj
      rw [List.take_add_one, hget]
      show IsA Gj ((ds.take i ++ [ds[i]]).flatMap fun d => (inner d).map (f d)) accj
      rw [List.flatMap_append]
      have e : [ds[i]].flatMap (fun d => (inner d).map (f d)) = (inner ds[i]).map (f ds[i]) := by simp
      rw [e]
      exact iaj
  · obtain ⟨_, Gi, acc, hacc, gD, gr, ia⟩ := h
    rw [List.take_length] at ia
    have ex := Ex.new (o := HO.lst acc) gD
    have grF : Grow G1 H1 (L2.upd Gi D (.lst acc)) Hc := ⟨gr.g.trans ex, gr.h, fun a o e => by
      by_cases q : a = D
      · subst q; rw [upd_same] at e; rw [hacc]; exact e
      · rw [upd_ne q] at e; exact gr.x a o e, fun a o e => by
      by_cases q : a = D
      · subst q; exact .inr hD
      · rw [upd_ne q] at e; exact gr.n a o e⟩
    exact r _ _ ρ1 _ Hc q (S1.grow grF) (x.trans grF.g) (fun z => ⟨(pu z).1, (pu z).2.trans grF⟩) (is_h (S1.grow grF) ⟨D, acc, rfl, upd_same, IsA.mono ex _ _ ia⟩)
end
end DD

namespace DD
open PySem PySem.Spec PyProof.Rows L2

section
variable {p g : Bool} {X : Cx} {ρ : Rho} {Q : D → Rho → Prop} {E : DE} {pos : Pos}
/-! ### properties, methods -/
/-- e.f, a property of the class C, by its getter's promise -/
theorem w_prop {C pa ga : Addr} {f : Str} {fd : FuncData} {k : Nat} {c : List D → (D → Prop) → Prop} {e : Expr} (cl : Cls X.K C) (hp : PropOf X.K C f pa ga) (F : FnOk X.prog X.w X.K X.mg X.base CX0 k ga fd ["self"] (spD c)) (hr : Room (k + 1) X.A) (hb : Binds X.K fd ["self"] [])
    (h : W p true X e ρ fun x ρ1 => ∃ fs, x = .obj C fs ∧ c [.obj C fs] fun d => Q d ρ1) (hab : attributeBase e f X.env (eval e X.env) = eval e X.env := by rfl) : W p g X (.Attribute e f pos) ρ Q := fun B σ G H S R r => by
  refine wE_of (pe_prop pe_w cl hp F hr hb .nil pass0 hab) ?_
  refine h B σ G H S _ fun v x ρ' G' H' q S' y pu i => ?_
  obtain ⟨fs, rfl, q⟩ := q
  obtain ⟨a, dx, gs, rfl, e2, e3⟩ := id i
  refine ⟨a, dx, gs, rfl, S'.ex _ _ e2, G', [.obj C fs], fun d => Q d ρ', S'.ex, ⟨.ref a, [], rfl, i, rfl⟩, q, fun v d G2 H2 z gr iz => ?_⟩
  exact r v d ρ' G2 H2 z (S'.grow gr) (y.trans gr.g) (fun w => ⟨(pu w).1, (pu w).2.trans gr⟩) (is_h (S'.grow gr) iz)
/-- e.m() -/
theorem w_meth0 {C f : Addr} {m : Str} {fd : FuncData} {k : Nat} {ps : List Str} {c : List D → (D → Prop) → Prop} {o : Expr} {apos : Pos} {pl : Sem Bool} (cl : Cls X.K C) (hm : Meth X.K C m f) (F : FnOk X.prog X.w X.K X.mg X.base CX0 k f fd ps (spD c)) (hr : Room k X.A) (hb : Binds X.K fd ps [])
    (h : W p true X o ρ fun x ρ1 => ∃ fs, x = .obj C fs ∧ fs.lookup m = none ∧ c [.obj C fs] fun d => Q d ρ1)
    (ht : eval (.Call (.Attribute o m apos) [] [] pos) X.env = (do
      let ov ← eval o X.env
      standAt apos.atName
      let (f, first) ← holding [ov] (getMethod ov m pl)
      callWith pos f first (backTo pos (starEach [] X.env)) (backToKw pos (keywordEach [] X.env))) := by rfl) : W p g X (.Call (.Attribute o m apos) [] [] pos) ρ Q := fun B σ G H S R r => by
  refine wE_of (pe_meth0 (pl := pl) pe_w cl hm F hr hb .nil pass0 ht) ?_
  refine h B σ G H S _ fun v x ρ' G' H' q S' y pu i => ?_
  obtain ⟨fs, rfl, hl, q⟩ := q
  obtain ⟨a, dx, gs, rfl, e2, e3⟩ := id i
  refine ⟨a, dx, gs, rfl, S'.ex _ _ e2, e3.no hl, ?_⟩
  refine ⟨G', [.obj C fs], fun d => Q d ρ', S'.ex, ⟨.ref a, [], rfl, i, rfl⟩, q, fun v d G2 H2 z gr iz => ?_⟩
  exact r v d ρ' G2 H2 z (S'.grow gr) (y.trans gr.g) (fun w => ⟨(pu w).1, (pu w).2.trans gr⟩) (is_h (S'.grow gr) iz)

/-! ### C(e, ..): the promise of __init__ -/
/-- an empty instance at x, made a moment ago; behind it stands with the fields fs -/
def spI (C : Addr) (c : List D → (List (Str × D) → Prop) → Prop) : Sp := fun vs H Q _ => ∃ (x dx : Addr) (H0 G : Hp) (vr : List V) (ds : List D) (Z : List (Str × D) → Prop), vs = .ref x :: vr ∧ H0 x = none ∧ H0 dx = none ∧ dx ≠ x ∧ H = upd (upd H0 dx (.own x)) x (.ins C dx []) ∧
  Ex G H0 ∧ IsA G ds vr ∧ c ds Z ∧ ∀ fs dx' gs G' H', Z fs → Grow G H0 G' H' → G' x = none → H' x = some (.ins C dx' gs) → IsF G' fs gs → Q .non H'
theorem make_go {C : Addr} {c : List D → (List (Str × D) → Prop) → Prop} {B : Base} {σ : L2.St} {ρ' : Rho} {G0 G' H' : Hp} {R : VK} {vs : List V} {ds : List D} {E' : XK} (S' : Sta B σ ρ' G' H') (i : IsA G' ds vs) (q : c ds fun fs => Q (.obj C fs) ρ')
    (r : ∀ (v : V) (d : D) G2 H2, Q d ρ' → Sta B σ ρ' G2 H2 → Grow G' H' G2 H2 → Is G2 d v → R v H2) :
    ∀ x dx, H' x = none → H' dx = none → dx ≠ x → spI C c (.ref x :: vs) (upd (upd H' dx (.own x)) x (.ins C dx [])) (fun v H2 => v = .non ∧ R (.ref x) H2) E' := fun x dx hx hdx ne => by
  refine ⟨x, dx, H', G', vs, ds, fun fs => Q (.obj C fs) ρ', rfl, hx, hdx, ne, rfl, S'.ex, i, q, fun fs dx' gs G2 H2 z gr gx hx2 hf => ⟨rfl, ?_⟩⟩
  have ex := Ex.new (o := HO.ins C dx' gs) gx
  have gr2 : Grow G' H' (L2.upd G2 x (.ins C dx' gs)) H2 := ⟨gr.g.trans ex, gr.h, fun a o e => by
    by_cases q : a = x
    · subst q; rw [upd_same] at e; rw [hx2]; exact e
    · rw [upd_ne q] at e; exact gr.x a o e, fun a o e => by
    by_cases q : a = x
    · subst q; exact .inr hx
    · rw [upd_ne q] at e; exact gr.n a o e⟩
  exact r (.ref x) (.obj C fs) _ H2 z (S'.grow gr2) gr2 ⟨x, dx', gs, rfl, upd_same, IsF.mono ex _ _ hf⟩
theorem w_make {C f : Addr} {x : Str} {pp : Pos} {fd : FuncData} {k : Nat} {ps : List Str} {c : List D → (List (Str × D) → Prop) → Prop} {e : Expr} {es : List Expr} (M : Mk X.K C f) (F : FnOk X.prog X.w X.K X.mg X.base CX0 k f fd ps (spI C c)) (hr : Room (k + 1) X.A) (hm : X.mg x = some (.ref C)) (hb : Binds X.K fd ps [])
    (h : WA p true X (e :: es) ρ fun ds ρ' => c ds fun fs => Q (.obj C fs) ρ') (hg : Gl X x := by rfl) (hdb : (x == ("__debug__" : Str)) = false := by decide)
    (he : starEach (e :: es) X.env = (false, eval e X.env) :: starEach es X.env := by rfl) (hpl : (backTo pos (starEach es X.env)).any (·.1) = false := by rfl) : W p g X (.Call (.Name x pp) (e :: es) [] pos) ρ Q := fun B σ G H S R r => by
  refine wE_of (pe_make M F hr hg hm hb .nil pass0 pa_w hdb he hpl) ?_
  refine h B σ G H S _ fun vs ds ρ' G' H' q S' y pu i => ?_
  have z := make_go (Q := Q) (G0 := G) (R := R) (E' := E0) S' i q fun v d G2 H2 z S2 gr iz => r v d ρ' G2 H2 z S2 (y.trans gr.g) (fun w => ⟨(pu w).1, (pu w).2.trans gr⟩) (is_h S2 iz)
  intro x dx hx hdx ne
  have z2 := z x dx hx hdx ne
  rw [List.append_nil]
  exact z2
/-- self.f = e, in __init__ -/
theorem IsF.put {H : Hp} {f : Str} {d : D} {v : V} (i : Is H d v) : ∀ {fs : List (Str × D)} {gs : List (Str × V)}, IsF H fs gs → fs.lookup f = none → IsF H (fs ++ [(f, d)]) (putF f v gs)
  | [], _, h, _ => by cases h; exact ⟨v, [], rfl, i, rfl⟩
  | (k, e) :: fs, _, ⟨x, r, e1, e2, e3⟩, h => by
    subst e1
    rw [List.lookup_cons] at h
    cases hk : f == k with
    | true => rw [hk] at h; cases h
    | false =>
      rw [hk] at h
      have ne : ¬ k = f := fun q => by subst q; simp at hk
      show IsF H ((k, e) :: (fs ++ [(f, d)])) (if k = f then (k, v) :: r else (k, x) :: putF f v r)
      rw [if_neg ne]
      exact ⟨x, _, rfl, e2, IsF.put i e3 h⟩
theorem IsF.length {H : Hp} : ∀ {fs : List (Str × D)} {gs : List (Str × V)}, IsF H fs gs → gs.length = fs.length
  | [], _, h => by cases h; rfl
  | (k, e) :: fs, _, ⟨x, r, e1, e2, e3⟩ => by subst e1; simp [IsF.length e3]
theorem s_fld {x f : Str} {e : Expr} {i : Nat} {p1 p2 : Pos} (hN : X.N[i]? = some x) (hv : Vis X.env.scope x) (hd : (x == ("__debug__" : Str)) = false) (hcd : (x == ("__classdict__" : Str)) = false)
    (h : W false true X e ρ fun d ρ' => ∃ C fs, ρ'[i]? = some (.own true (.ins C fs)) ∧ Cls X.K C ∧ NoAttr X.K C f ∧ fs.length < 1000 ∧ fs.lookup f = none ∧ E.nx (ρ'.set i (.own true (.ins C (fs ++ [(f, d)])))))
    (hs : swapsWith e (some (.Attribute (.Name x p1) f p2)) pos.line X.env = pure false := by rfl) : WS X (.Assign [.Attribute (.Name x p1) f p2] e pos) ρ E := fun B σ G H F S L => by
  refine wS_of (ps_fld pe_w pe_w hs) ?_
  refine h B σ G H S _ fun v d ρ' G' H' q S' y pu iv => ?_
  obtain ⟨C, fs, hr, hc, hn, hl, hl2, q⟩ := q
  refine own_name hN hv hd hcd hr S' fun l el ok => ?_
  obtain ⟨lx, dx, gs, h1, h2⟩ := ok
  refine ⟨l, C, dx, gs, rfl, h1, hc, hn, by rw [h2.length]; exact hl, ?_⟩
  exact L.nx σ _ G' _ q (S'.upd hr el ⟨lx, dx, _, upd_same, IsF.put iv h2 hl2⟩) y

/-! ### slices of lists -/
def cutD (xs : List D) (lo hi : Option Int) : List D := (xs.drop (HT.sIx xs.length 0 lo)).take (HT.sIx xs.length xs.length hi - HT.sIx xs.length 0 lo)
theorem IsA.cut {H : Hp} {ds : List D} {xs : List V} (h : IsA H ds xs) (lo hi : Option Int) : IsA H (cutD ds lo hi) (cutV xs lo hi) := by
  unfold cutD cutV
  rw [h.length]
  exact (h.drop _).take _
/-- a part of a slice -/
def WO (X : Cx) (e : Option Expr) (ρ : Rho) (Q : Option Int → Prop) : Prop := match e with
  | none => Q none
  | some e => W true true X e ρ fun d _ => ∃ i, d = .int i ∧ Q (some i)
def wO (X : Cx) (e : Option Expr) : TO := match e with
  | none => tNoPart
  | some e => tPart (wE X e)
theorem po_w {X : Cx} : ∀ {e : Option Expr}, PO X e (wO X e)
  | none => po_none
  | some e => po_some pe_w
theorem wo_go {e : Option Expr} {QO : Option Int → Prop} (h : WO X e ρ QO) {B : Base} {σ : L2.St} {G H : Hp} (S : Sta B σ ρ G H) {R : Option Int → Hp → Prop} (r : ∀ o G' H', QO o → Sta B σ ρ G' H' → Grow G H G' H' → R o H') : wO X e σ H R := by
  cases e with
  | none => exact r none G H h S (Grow.refl S.ex)
  | some e =>
    refine h B σ G H S _ fun v d ρ' G' H' q S' y pu i => ?_
    obtain ⟨rfl, gr⟩ := pu rfl
    obtain ⟨n, rfl, q⟩ := q
    exact ⟨n, i, r (some n) G' H' q S' gr⟩
theorem w_slL {e : Expr} {lo hi : Option Expr} {p2 : Pos} (h : W p true X e ρ fun d ρ1 => ∃ xs, d = .lst xs ∧ WO X lo ρ1 fun l => WO X hi ρ1 fun u => Q (.lst (cutD xs l u)) ρ1) : W p g X (.Subscript e (.Slice lo hi none p2) pos) ρ Q := fun B σ G H S R r => by
  refine wE_of (pe_slice sl_list pe_w po_w po_w) ?_
  refine h B σ G H S _ fun v d ρ1 G1 H1 q S1 y pu i => ?_
  obtain ⟨xs, rfl, q⟩ := q
  refine wo_go q S1 fun l G2 H2 q2 S2 gr2 => ?_
  refine wo_go q2 S2 fun u G3 H3 q3 S3 gr3 => ?_
  have i3 := Is.mono (gr2.g.trans gr3.g) _ _ i
  obtain ⟨a, as, rfl, e2, e3⟩ := i3
  refine ⟨a, as, rfl, .inl (.inl (S3.ex _ _ e2)), fun b hb => ?_⟩
  have gr := Grow.new (o := .lst (cutV as l u)) S3.ex hb
  exact r _ (.lst (cutD xs l u)) ρ1 _ _ q3 (S3.grow gr) (((y.trans gr2.g).trans gr3.g).trans gr.g) (fun z => ⟨(pu z).1, (((pu z).2.trans gr2).trans gr3).trans gr⟩) (is_h (S3.grow gr) ⟨b, _, rfl, upd_same, IsA.mono gr.g _ _ (e3.cut l u)⟩)

/-! ### sorted -/
theorem c_sorted {g : Bool} {Z : D → Prop} {ns : List Int} (q : ∀ ms : List Int, ms.Perm ns → ms.Pairwise (· ≤ ·) → Z (.lst (ms.map D.int))) : OpC g X (.builtin "sorted") [.lst (ns.map D.int)] Z := by
  intro G H vs R ex i k
  obtain ⟨v, rfl, a, xs, rfl, e2, e3⟩ := isA_one (isA_any ex i)
  have e4 := e3.ints
  subst e4
  refine ⟨_, cr_sortedI, a, ns, rfl, .inl (.inl e2), fun ms b pm pw hb => ?_⟩
  have gr := Grow.new (o := .lst (ms.map V.int)) ex hb
  exact k _ (.lst (ms.map D.int)) _ _ (q ms pm pw) gr ⟨b, _, rfl, upd_same, IsA.of_ints⟩
/-- sorted(d), d an own dict with int keys -/
theorem keys_of {H : Hp} : ∀ {kvs : List (Key × D)} {ks : List (Key × V)}, IsK H kvs ks → ks.map (·.1) = kvs.map (·.1)
  | [], _, h => by cases h; rfl
  | (k, d) :: kvs, _, ⟨x, r, e1, e2, e3⟩ => by subst e1; simp [keys_of e3]
theorem w_sortedDic {i : Nat} {x y : Str} {pp p2 : Pos} {lc : Bool} {kvs : List (Key × D)} {ns : List Int} (hc : X.calm = true) (hms : X.mg "sorted" = none) (hr : ρ[i]? = some (.own lc (.dic kvs))) (hk : kvs.map (·.1) = ns.map Sum.inl) (h64 : ns.length < 64)
    (q : ∀ ms : List Int, ms.Perm ns → ms.Pairwise (· ≤ ·) → Q (.lst (ms.map D.int)) ρ) (hN : X.N[i]? = some x := by rfl) (hv : Vis X.env.scope x := by first | exact .inl rfl | exact .inr (.inl rfl) | exact .inr (.inr rfl)) (hd : (x == ("__debug__" : Str)) = false := by decide) (hcd : (x == ("__classdict__" : Str)) = false := by decide) (hg : Gl X "sorted" := by rfl)
    (he : starEach [.Name x p2] X.env = (false, eval (.Name x p2) X.env) :: starEach [] X.env := by rfl) (hpl : (backTo pos (starEach [] X.env)).any (·.1) = false := by rfl) : W p g X (.Call (.Name "sorted" pp) [.Name x p2] [] pos) ρ Q := fun B σ G H S R r => by
  refine wE_of (pe_callB (call_sortedDI hc) hg hms (by decide +kernel) (pa_cons pe_w pa_nil he) (by decide) (by decide) he hpl) ?_
  refine own_name hN hv hd hcd hr S fun l el ok => ?_
  obtain ⟨ks, h1, h2⟩ := ok
  refine ⟨l, ks, ns, rfl, .inl h1, (keys_of h2).trans hk, h64, fun ms b pm pw hb => ?_⟩
  have gr := Grow.new (o := .lst (ms.map V.int)) S.ex hb
  exact r _ (.lst (ms.map D.int)) ρ _ _ (q ms pm pw) (S.grow gr) gr.g (fun _ => ⟨rfl, gr⟩) (is_h (S.grow gr) ⟨b, _, rfl, upd_same, IsA.of_ints⟩)

/-! ### dicts with whole numbers as keys -/
theorem IsK.val {H : Hp} {k : Key} : ∀ {kvs : List (Key × D)} {ks : List (Key × V)}, IsK H kvs ks → (∃ d v, (kvs.find? fun e => decide (e.1 = k)).map (·.2) = some d ∧ valV ks k = some v ∧ Is H d v) ∨ ((kvs.find? fun e => decide (e.1 = k)).map (·.2) = none ∧ valV ks k = none)
  | [], _, h => by cases h; exact .inr ⟨rfl, rfl⟩
  | (j, e) :: kvs, _, ⟨x, r, e1, e2, e3⟩ => by
    subst e1
    unfold valV
    rw [List.find?_cons, List.find?_cons]
    by_cases hj : j = k
    · simp only [hj, decide_true]
      exact .inl ⟨e, x, rfl, rfl, e2⟩
    · simp only [hj, decide_false]
      exact IsK.val e3
def lookD (kvs : List (Key × D)) (k : Key) : Option D := (kvs.find? fun e => decide (e.1 = k)).map (·.2)
/-- e in d, e not in d: d an own dict -/
theorem t_inDic {i : Nat} {x : Str} {e : Expr} {p2 : Pos} {lc : Bool} {QT : Bool → Rho → Prop} (hu : X.A.units + 1 < cLine) (h : W true true X e ρ fun d ρ1 => ∃ n kvs, d = .int n ∧ ρ1[i]? = some (.own lc (.dic kvs)) ∧ QT (lookD kvs (.inl n)).isSome ρ1)
    (hN : X.N[i]? = some x := by rfl) (hv : Vis X.env.scope x := by first | exact .inl rfl | exact .inr (.inl rfl) | exact .inr (.inr rfl)) (hd : (x == ("__debug__" : Str)) = false := by decide) (hcd : (x == ("__classdict__" : Str)) = false := by decide) (hm : behindInMarks .In (.Name x p2) = false := by rfl) : WT p X (.Compare e [.In] [.Name x p2] pos) ρ QT := fun B σ G H S R r => by
  refine wT_of (pt_cmp (pc_din hu pe_w pe_w) hm) ?_
  refine h B σ G H S _ fun v d ρ1 G1 H1 q S1 y pu iv => ?_
  obtain ⟨n, kvs, rfl, hr, q⟩ := q
  refine own_name hN hv hd hcd hr S1 fun l el ok => ?_
  obtain ⟨ks, h1, h2⟩ := ok
  cases (iv : v = .int n)
  refine ⟨l, _, rfl, DGet.k (k := Sum.inl n) h1, (valV ks (.inl n)).isSome, rfl, ?_⟩
  have ee : (valV ks (Sum.inl n)).isSome = (lookD kvs (.inl n)).isSome := by
    rcases h2.val (k := Sum.inl n) with ⟨d, v, a1, a2, _⟩ | ⟨a1, a2⟩
    · unfold lookD; rw [a1, a2]; rfl
    · unfold lookD; rw [a1, a2]; rfl
  rw [ee]
  exact r _ ρ1 G1 H1 q S1 y fun _ => pu rfl
theorem t_ninDic {i : Nat} {x : Str} {e : Expr} {p2 : Pos} {lc : Bool} {QT : Bool → Rho → Prop} (hu : X.A.units + 1 < cLine) (h : W true true X e ρ fun d ρ1 => ∃ n kvs, d = .int n ∧ ρ1[i]? = some (.own lc (.dic kvs)) ∧ QT (!(lookD kvs (.inl n)).isSome) ρ1)
    (hN : X.N[i]? = some x := by rfl) (hv : Vis X.env.scope x := by first | exact .inl rfl | exact .inr (.inl rfl) | exact .inr (.inr rfl)) (hd : (x == ("__debug__" : Str)) = false := by decide) (hcd : (x == ("__classdict__" : Str)) = false := by decide) (hm : behindInMarks .NotIn (.Name x p2) = false := by rfl) : WT p X (.Compare e [.NotIn] [.Name x p2] pos) ρ QT := fun B σ G H S R r => by
  refine wT_of (pt_cmp (pc_dnotin hu pe_w pe_w) hm) ?_
  refine h B σ G H S _ fun v d ρ1 G1 H1 q S1 y pu iv => ?_
  obtain ⟨n, kvs, rfl, hr, q⟩ := q
  refine own_name hN hv hd hcd hr S1 fun l el ok => ?_
  obtain ⟨ks, h1, h2⟩ := ok
  cases (iv : v = .int n)
  refine ⟨l, _, rfl, DGet.k (k := Sum.inl n) h1, !(valV ks (.inl n)).isSome, rfl, ?_⟩
  have ee : (valV ks (Sum.inl n)).isSome = (lookD kvs (.inl n)).isSome := by
    rcases h2.val (k := Sum.inl n) with ⟨d, v, a1, a2, _⟩ | ⟨a1, a2⟩
    · unfold lookD; rw [a1, a2]; rfl
    · unfold lookD; rw [a1, a2]; rfl
  rw [ee]
  exact r _ ρ1 G1 H1 q S1 y fun _ => pu rfl
/-- the same as a value -/
theorem w_inDic {i : Nat} {x : Str} {e : Expr} {p2 : Pos} {lc : Bool} (hu : X.A.units + 1 < cLine) (h : W true true X e ρ fun d ρ1 => ∃ n kvs, d = .int n ∧ ρ1[i]? = some (.own lc (.dic kvs)) ∧ Q (.bl (lookD kvs (.inl n)).isSome) ρ1)
    (hN : X.N[i]? = some x := by rfl) (hv : Vis X.env.scope x := by first | exact .inl rfl | exact .inr (.inl rfl) | exact .inr (.inr rfl)) (hd : (x == ("__debug__" : Str)) = false := by decide) (hcd : (x == ("__classdict__" : Str)) = false := by decide) (hm : behindInMarks .In (.Name x p2) = false := by rfl) : W p g X (.Compare e [.In] [.Name x p2] pos) ρ Q := fun B σ G H S R r => by
  refine wE_of (pe_cmp (pc_din hu pe_w pe_w) hm) ?_
  refine h B σ G H S _ fun v d ρ1 G1 H1 q S1 y pu iv => ?_
  obtain ⟨n, kvs, rfl, hr, q⟩ := q
  refine own_name hN hv hd hcd hr S1 fun l el ok => ?_
  obtain ⟨ks, h1, h2⟩ := ok
  cases (iv : v = .int n)
  refine ⟨l, _, rfl, DGet.k (k := Sum.inl n) h1, ?_⟩
  have ee : (valV ks (Sum.inl n)).isSome = (lookD kvs (.inl n)).isSome := by
    rcases h2.val (k := Sum.inl n) with ⟨d, v, a1, a2, _⟩ | ⟨a1, a2⟩
    · unfold lookD; rw [a1, a2]; rfl
    · unfold lookD; rw [a1, a2]; rfl
  rw [ee]
  exact r _ _ ρ1 G1 H1 q S1 y (fun _ => pu rfl) (is_h S1 rfl)
/-- d[e] = v, d an own dict -/
def putD (kvs : List (Key × D)) (k : Key) (v : D) : List (Key × D) :=
  if (kvs.any fun kv => decide (kv.1 = k)) = true then kvs.map (fun kv => if kv.1 = k then (kv.1, v) else kv) else kvs ++ [(k, v)]
theorem IsK.any {H : Hp} {k : Key} : ∀ {kvs : List (Key × D)} {ks : List (Key × V)}, IsK H kvs ks → (ks.any fun kv => decide (kv.1 = k)) = (kvs.any fun kv => decide (kv.1 = k))
  | [], _, h => by cases h; rfl
  | (j, e) :: kvs, _, ⟨x, r, e1, e2, e3⟩ => by subst e1; rw [List.any_cons, List.any_cons, IsK.any e3]
theorem IsK.mapPut {H : Hp} {k : Key} {d : D} {v : V} (i : Is H d v) : ∀ {kvs : List (Key × D)} {ks : List (Key × V)}, IsK H kvs ks → IsK H (kvs.map (fun kv => if kv.1 = k then (kv.1, d) else kv)) (ks.map (fun kv => if kv.1 = k then (kv.1, v) else kv))
  | [], _, h => by cases h; exact rfl
  | (j, e) :: kvs, _, ⟨x, r, e1, e2, e3⟩ => by
    subst e1
    rw [List.map_cons, List.map_cons]
    by_cases hj : j = k
    · rw [if_pos hj, if_pos hj]; exact ⟨v, _, rfl, i, IsK.mapPut i e3⟩
    · rw [if_neg hj, if_neg hj]; exact ⟨x, _, rfl, e2, IsK.mapPut i e3⟩
theorem IsK.app {H : Hp} {k : Key} {d : D} {v : V} (i : Is H d v) : ∀ {kvs : List (Key × D)} {ks : List (Key × V)}, IsK H kvs ks → IsK H (kvs ++ [(k, d)]) (ks ++ [(k, v)])
  | [], _, h => by cases h; exact ⟨v, [], rfl, i, rfl⟩
  | (j, e) :: kvs, _, ⟨x, r, e1, e2, e3⟩ => by subst e1; exact ⟨x, _, rfl, e2, IsK.app i e3⟩
theorem IsK.put {H : Hp} {k : Key} {d : D} {v : V} {kvs : List (Key × D)} {ks : List (Key × V)} (h : IsK H kvs ks) (i : Is H d v) : IsK H (putD kvs k d) (putK ks k v) := by
  unfold putD putK
  rw [h.any]
  split
  · exact h.mapPut i
  · exact h.app i
theorem IsK.length {H : Hp} : ∀ {kvs : List (Key × D)} {ks : List (Key × V)}, IsK H kvs ks → ks.length = kvs.length
  | [], _, h => by cases h; rfl
  | (k, e) :: kvs, _, ⟨x, r, e1, e2, e3⟩ => by subst e1; simp [IsK.length e3]
theorem s_dput {i : Nat} {x : Str} {e ev : Expr} {p1 p2 : Pos} (hu : X.A.units + 1 < cLine)
    (h : W true true X ev ρ fun d _ => W true true X e ρ fun k _ => ∃ n kvs, k = .int n ∧ ρ[i]? = some (.own true (.dic kvs)) ∧ kvs.length < 1000000 ∧ E.nx (ρ.set i (.own true (.dic (putD kvs (.inl n) d)))))
    (hN : X.N[i]? = some x := by rfl) (hv : Vis X.env.scope x := by first | exact .inl rfl | exact .inr (.inl rfl) | exact .inr (.inr rfl)) (hd : (x == ("__debug__" : Str)) = false := by decide) (hcd : (x == ("__classdict__" : Str)) = false := by decide)
    (hs : swapsWith ev (some (.Subscript (.Name x p1) e p2)) pos.line X.env = pure false := by rfl) (hr0 : ∃ kvs, ρ[i]? = some (.own true (.dic kvs))) : WS X (.Assign [.Subscript (.Name x p1) e p2] ev pos) ρ E := fun B σ G H F S L => by
  refine wS_of (ps_dput hu pe_w pe_w pe_w hs) ?_
  refine h B σ G H S _ fun v d ρ' G' H' q S' y pu iv => ?_
  obtain ⟨e1, gr⟩ := pu rfl
  subst e1
  obtain ⟨kvs0, hr0⟩ := hr0
  refine own_name hN hv hd hcd hr0 S' fun l el ok => ?_
  refine q B σ G' H' S' _ fun u k ρ2 G2 H2 q2 S2 y2 pu2 iu => ?_
  obtain ⟨e2, gr2⟩ := pu2 rfl
  subst e2
  obtain ⟨n, kvs, rfl, hr, hl, q2⟩ := q2
  obtain ⟨l', el', gl, bl, ks, h1, h2⟩ := S2.ownAt hr
  have : l' = l := by rw [el] at el'; cases el'; rfl
  subst this
  cases (iu : u = .int n)
  refine ⟨l', _, rfl, DPut.k (k := Sum.inl n) h1 (by rw [h2.length]; exact Nat.lt_trans hl (by decide)), ?_⟩
  exact L.nx σ _ G2 _ q2 (S2.upd hr el ⟨_, upd_same, h2.put (Is.mono y2 _ _ iv)⟩) (y.trans y2)
/-! ### keywords -/
def wK (X : Cx) (kws : List Keyword) : TA := fun σ H R => ∀ pos pins s, Inv X pins σ H s → wpAny (model X.prog X.w) X.A (evalAll ((backToKw pos (keywordEach kws X.env)).map (·.2))) (AP X pins σ R) X.xe s
theorem pk_w {kws : List Keyword} : PK X kws (wK X kws) := ⟨fun pos pins s σ H R I h => h pos pins s I⟩
def WK (p g : Bool) (X : Cx) (kws : List Keyword) (ρ : Rho) (Q : List D → Rho → Prop) : Prop :=
  ∀ (B : Base) (σ : L2.St) (G H : Hp), Sta B σ ρ G H → ∀ R : List V → Hp → Prop,
    (∀ vs ds ρ' G' H', Q ds ρ' → Sta B σ ρ' G' H' → Ex G G' → (p = true → ρ' = ρ ∧ Grow G H G' H') → IsA (if g = true then G' else H') ds vs → R vs H') → wK X kws σ H R
theorem k_nil {QA : List D → Rho → Prop} (q : QA [] ρ) : WK p g X [] ρ QA := fun B σ G H S R r => fun pos pins s I => pk_nil.run pos pins s σ H R I (r [] [] ρ G H q S (Ex.refl G) (fun _ => ⟨rfl, Grow.refl S.ex⟩) rfl)
theorem k_cons {QA : List D → Rho → Prop} {nmo : Option Str} {kpos : Pos} {e : Expr} {kws : List Keyword} (h : W p true X e ρ fun d ρ1 => WK p true X kws ρ1 fun ds ρ2 => QA (d :: ds) ρ2) : WK p true X (⟨nmo, e, kpos⟩ :: kws) ρ QA := fun B σ G H S R r => fun pos pins s I => by
  refine (pk_cons (nm := nmo) (kpos := kpos) pe_w pk_w).run pos pins s σ H R I ?_
  refine h B σ G H S _ fun v d ρ1 G1 H1 q1 S1 e1 pu1 i1 => ?_
  refine q1 B σ G1 H1 S1 _ fun vs ds ρ2 G2 H2 q2 S2 e2 pu2 i2 => ?_
  exact r (v :: vs) (d :: ds) ρ2 G2 H2 q2 S2 (e1.trans e2) (fun z => ⟨(pu2 z).1.trans (pu1 z).1, (pu1 z).2.trans (pu2 z).2⟩) ⟨v, vs, rfl, Is.mono e2 _ _ i1, i2⟩
/-- f(k = v, ..) -/
theorem pe_callK0 {CX : CXT} {k : Nat} {f : Addr} {fd : FuncData} {ps ks : List Str} {sp : Sp} {E : XK} {x : Str} {pp : Pos} {kws : List Keyword} {tk : TA} {gg : List Value → List Value → List Value} {gV : List V → List V → List V}
    (F : FnOk X.prog X.w X.K X.mg X.base CX k f fd ps sp) (hr : Room k X.A) (hg : Gl X x) (hm : X.mg x = some (.ref f)) (hk : PySem.W.keepIn X.K (.ref f) = true) (hb : KBinds X.K fd ps ks gg gV) (hx : Passes CX X E) (hkw : PK X kws tk)
    (hall : (backToKw pos (keywordEach kws X.env)).all (·.1.isSome) = true := by rfl) (hks : (backToKw pos (keywordEach kws X.env)).filterMap (·.1) = ks := by rfl) (hdb : (x == ("__debug__" : Str)) = false := by decide)
    (hpl : ((backTo pos (starEach [] X.env)).any (·.1) || (backToKw pos (keywordEach kws X.env)).any (·.1.isNone)) = false := by rfl) :
    PE X (.Call (.Name x pp) [] kws pos) (fun σ H Q => tk σ H fun zs H2 => sp (gV [] zs) H2 Q E) := by
  refine ⟨fun pins s σ H Q I h => ?_⟩
  refine wpAny_Call_Name_kw (ld_glob I hg hm ?_ hdb)
  refine PySem.W.callWith_KW0 (h₀ := X.base) I.ok.mod.kin hk hall ?_ hpl
  refine thn (hkw.run pos pins s σ H _ I h) fun ws s2 ⟨zs, H2, I2, rz, q2⟩ => ⟨I2.kIn, ?_⟩
  rw [hks]
  exact run_fnk (us := []) F hr hb hx I2 .nil rz q2
theorem w_callK0 {k : Nat} {f : Addr} {fd : FuncData} {ps ks : List Str} {c : List D → (D → Prop) → Prop} {x : Str} {pp : Pos} {kws : List Keyword} {gg : List Value → List Value → List Value} {gV : List V → List V → List V} {gD : List D → List D}
    (F : FnOk X.prog X.w X.K X.mg X.base CX0 k f fd ps (spD c)) (hr : Room k X.A) (hm : X.mg x = some (.ref f)) (hk : PySem.W.keepIn X.K (.ref f) = true) (hb : KBinds X.K fd ps ks gg gV) (hgd : ∀ H ds vs, IsA H ds vs → IsA H (gD ds) (gV [] vs))
    (h : WK p true X kws ρ fun ds ρ' => c (gD ds) fun d => Q d ρ') (hg : Gl X x := by rfl) (hdb : (x == ("__debug__" : Str)) = false := by decide)
    (hall : (backToKw pos (keywordEach kws X.env)).all (·.1.isSome) = true := by rfl) (hks : (backToKw pos (keywordEach kws X.env)).filterMap (·.1) = ks := by rfl)
    (hpl : ((backTo pos (starEach [] X.env)).any (·.1) || (backToKw pos (keywordEach kws X.env)).any (·.1.isNone)) = false := by rfl) : W p g X (.Call (.Name x pp) [] kws pos) ρ Q := fun B σ G H S R r => by
  refine wE_of (pe_callK0 F hr hg hm hk hb pass0 pk_w hall hks hdb hpl) ?_
  refine h B σ G H S _ fun vs ds ρ' G' H' q S' y pu i => ?_
  refine ⟨G', gD ds, fun d => Q d ρ', S'.ex, hgd _ _ _ i, q, fun v d G2 H2 z gr iz => ?_⟩
  exact r v d ρ' G2 H2 z (S'.grow gr) (y.trans gr.g) (fun w => ⟨(pu w).1, (pu w).2.trans gr⟩) (is_h (S'.grow gr) iz)
end
end DD
namespace DD
open PySem PySem.Spec PyProof.Rows L2
/-! ### __init__ by its body -/
def rhoI (N : List Str) (C : Addr) (ds : List D) : Rho := .own true (.ins C []) :: (ds.map Slot.val ++ List.replicate (N.length - (ds.length + 1)) .un)
theorem sta_startI {N : List Str} {G H0 : Hp} {ds : List D} {vs : List V} {C x dx : Addr} (ex : Ex G H0) (i : IsA G ds vs) (hx : H0 x = none) (hdx : H0 dx = none) (ne : dx ≠ x) :
    Sta ⟨H0, G, [], x⟩ (L2.start N (.ref x :: vs)) (rhoI N C ds) G (upd (upd H0 dx (.own x)) x (.ins C dx [])) := by
  have e1 : Ex H0 (upd (upd H0 dx (.own x)) x (.ins C dx [])) := (Ex.new hdx).trans (Ex.new (by rw [upd_ne ne.symm]; exact hx))
  have gx : G x = none := by
    cases r : G x with
    | none => rfl
    | some u => rw [ex x u r] at hx; cases hx
  refine ⟨?_, ex.trans e1, fun a o e _ => e1 a o e, fun a e => ?_, fun _ _ e => .inl e, Ex.refl _, ex, fun l hl => absurd hl (by simp), fun j s v h1 h2 => ?_, fun j k l1 l2 o1 o2 jk h1 h2 => ?_⟩
  · unfold L2.start rhoI
    simp [i.length]
  · cases r : H0 a with
    | none => exact r
    | some u => have e := e; rw [e1 a u r] at e; cases e
  · cases j with
    | zero =>
      cases h1
      rw [start_get (v := .ref x) rfl] at h2
      cases h2
      exact ⟨x, rfl, gx, hx, rfl, dx, [], upd_same, rfl⟩
    | succ j =>
      have h1 : (ds.map Slot.val ++ List.replicate (N.length - (ds.length + 1)) Slot.un)[j]? = some s := h1
      by_cases hj : j < ds.length
      · rw [List.getElem?_append_left (by simpa using hj), List.getElem?_map] at h1
        cases hd : ds[j]? with
        | none => rw [hd] at h1; cases h1
        | some d =>
          rw [hd] at h1
          cases h1
          obtain ⟨y, hy, iy⟩ := i.get hd
          rw [start_get (vs := .ref x :: vs) (i := j + 1) hy] at h2
          cases h2
          exact ⟨y, rfl, iy⟩
      · rw [List.getElem?_append_right (by simpa using hj), List.getElem?_replicate] at h1
        split at h1 <;> cases h1
        trivial
  · have own0 : ∀ (j : Nat) (lc : Bool) (o : Own), (rhoI N C ds)[j]? = some (.own lc o) → j = 0 := fun j lc o h => by
      cases j with
      | zero => rfl
      | succ j =>
        have h : (ds.map Slot.val ++ List.replicate (N.length - (ds.length + 1)) Slot.un)[j]? = some (.own lc o) := h
        by_cases hj : j < ds.length
        · rw [List.getElem?_append_left (by simpa using hj), List.getElem?_map] at h
          cases hd : ds[j]? with
          | none => rw [hd] at h; cases h
          | some d => rw [hd] at h; cases h
        · rw [List.getElem?_append_right (by simpa using hj), List.getElem?_replicate] at h
          split at h <;> cases h
    exact absurd ((own0 j _ _ h1).trans (own0 k _ _ h2).symm) jk
section
variable {P : Program} {w : World} {K : PySem.W.Frag} {mg : Str → Option Value} {base : Heap}
theorem fnI {x qual : Str} {st : Stmt} {f C : Addr} {fd : FuncData} {N ps : List Str} {k : Nat} {c : List D → (List (Str × D) → Prop) → Prop} (F : Fun K x qual st f fd) (S : FnScope N ps (defScope st)) (len : ∀ ds Z, c ds Z → ds.length + 1 = ps.length)
    (h : ∀ (cdv : Value) (A : Around) (outer : List Env) (s : Shared) (H : Hp) (E : XK) (ds : List D) (Z : List (Str × D) → Prop), Room k (A.deeper (envOfC qual (defScope st) s.heap.objs.size f cdv)) → c ds Z →
      WSs (CxD P w K mg base N qual st f cdv A outer s H E) (defBody st) (rhoI N C ds) { nx := fun ρ => ∃ fs, ρ[0]? = some (.own true (.ins C fs)) ∧ Z fs, rt := fun _ => False }) : FnOk P w K mg base CX0 (k + 1) f fd ps (spI C c) := by
  refine F.ok S (fun vs H Q E hs => ?_) fun cdv A outer s H vs Q E hr hs => ?_
  · obtain ⟨x, dx, H0, G, vr, ds, Z, rfl, _, _, _, _, _, i, hc, _⟩ := hs
    have := len ds Z hc
    rw [List.length_cons, i.length]; exact this
  · obtain ⟨x, dx, H0, G, vr, ds, Z, rfl, hx, hdx, ne, rfl, ex, i, hc, q⟩ := hs
    refine ⟨_, pss_w, ?_⟩
    refine h cdv A outer s _ E ds Z hr hc ⟨H0, G, [], x⟩ _ G _ _ (sta_startI (C := C) ex i hx hdx ne) ⟨fun σ' ρ' G' H' z S' _ => ?_, fun v d G' H' z _ _ => z.elim, fun _ _ _ _ z => z.elim, fun _ _ _ _ z => z.elim⟩
    obtain ⟨fs, h0, z⟩ := z
    obtain ⟨l, _, gl, _, lx, dx', gs, h1, h2⟩ := S'.ownAt h0
    have lx : l = x := lx
    subst lx
    exact q fs dx' gs G' H' z ⟨S'.bg, fun a o e => S'.fr a o e (by simp), S'.ex, S'.nw⟩ gl h1 h2
end
end DD

/-! == and != by an own __eq__ -/
namespace PySem.W
open PySem
section
variable {prog : Program} {w : World} {A : Around} {E : Value → Shared → Prop} {s : Shared} {K : Frag} {x C f : Addr} {ox : Obj} {od : Option Obj} {b : Value}
theorem ifBoundB_K {M : Model} {args : List Value} {name : Str} {id : String} {Q : Option Value → Shared → Prop} (X : K.In s.heap) (I : InstAt s.heap x ox C od) (hs : findIn K (.ref C) name = some (some (.builtin id))) (hb : ∀ v, bindSpecial (.builtin id) v = pure (.builtin id, [v]))
    (h : wpAny M A (call (.builtin id) (.ref x :: args)) (fun v => Q (some v)) E s) : wpAny M A (callSpecialIfBound? (.ref x) name args) Q E s := by
  simp only [callSpecialIfBound?, bindSpecialIfBound?]
  refine wpAny_holding (wpAny_bind (wpAny_bind (wpAny_bind (I.type.here ((looks_findIn X hs).here ?_)))))
  simp only [hb]
  refine wpAny_bind (wpAny_askSetting (wpAny_ite ?_))
  have fin : wpAny M A (call (.builtin id) ([.ref x] ++ args) >>= fun v => pure (some v)) Q E s := wpAny_bind (wpAny_mono h (fun v s' h' => wpAny_pure h') fun _ _ h' => h')
  split
  · exact wpAny_bind (wpAny_pure (wpAny_pure fin))
  · exact wpAny_tryCatch (wpAny_bind (wpAny_pure (wpAny_pure fin)))
theorem objNe_K (X : K.In s.heap) (I : InstAt s.heap x ox C od) (hs : findIn K (.ref C) "__eq__" = some (some (.ref f))) (hf : isFn K (.ref f) = true) (hu : A.units < cLine) {Q : Fin → Shared → Prop}
    (hcall : wpAny (model prog w) A (call (.ref f) [.ref x, b]) (fun v s' => ∃ c, v = .bool c ∧ Q (.done (.ret (.bool (!c)))) s') E s) :
    wpAny (model prog w) A (Builtin.«object.__ne__» ⟨[.ref x, b], []⟩) Q E s := by
  unfold Builtin.«object.__ne__»
  repeat (first
    | with_reducible refine wpAny_cRoomFor hu ?_
    | (refine wpAny_bind (m := callSpecialIfBound? (.ref x) (Str.ofString "__eq__") [b])
        (ifBound_K X I hs hf (wpAny_mono hcall (fun v s' hr => by
          obtain ⟨b, rfl, hq⟩ := hr
          repeat (first | exact hq | exact wpAny_pure hq | exact wpAny_truthy_bool hq | (refine wpAny_bind (m := truthy (.bool _)) (wpAny_truthy_bool ?_)) | wp_step)) fun _ _ e => e)))
    | wp_step)
theorem checkSlot_K {M : Model} {id owner n : String} {rest : List Value} {Q : Unit → Shared → Prop} (hk : builtinKind id = some .slot) (hs : splitId id = some (owner, n))
    (ha : argsOk id ⟨.ref x :: rest, []⟩) (X : K.In s.heap) (I : InstAt s.heap x ox C od) (hsub : subIn K (.ref C) (.type owner) = some true) (hq : Q () s) :
    wpAny M A (checkBuiltinCall id ⟨.ref x :: rest, []⟩) Q E s := by
  simp only [checkBuiltinCall, hk, hs]
  refine wpAny_bind ?_
  unfold isInstance
  refine wpAny_bind (I.type.here ((looks_subIn X hsub).here ?_))
  show wpAny M A _ Q E s
  cases hsig : Manifest.signature? id with
  | none => exact wpAny_pure hq
  | some sig =>
    simp only [argsOk, hsig] at ha
    have h2 : Bind.checkArgs id sig ⟨.ref x :: rest, []⟩ = pure () := ha
    show wpAny M A (Bind.checkArgs id sig ⟨.ref x :: rest, []⟩) Q E _
    rw [h2]; exact wpAny_pure hq
theorem ne_K {tb : Value} {Q : Value → Shared → Prop} (hu : A.units + 1 < cLine) (X : K.In s.heap) (I : InstAt s.heap x ox C od) (hb : Looks (model prog w) s.heap (typeOf b) tb) (hn : notFirst K C tb = true)
    (hne : findIn K (.ref C) "__ne__" = some (some (.builtin "object.__ne__"))) (hsub : subIn K (.ref C) (.type "object") = some true) (hs : findIn K (.ref C) "__eq__" = some (some (.ref f))) (hf : isFn K (.ref f) = true)
    (hcall : wpAny (model prog w) A.in1 (call (.ref f) [.ref x, b]) (fun v s' => ∃ c, v = .bool c ∧ Q (.bool (!c)) s') E s) : wpAny (model prog w) A (richCompare .NotEq (.ref x) b) Q E s := by
  have one : wpAny (model prog w) A (tryCompare (.ref x) "__ne__" b) (fun r s' => ∃ v, r = some v ∧ Q v s') E s := by
    unfold tryCompare
    refine wpAny_bind (ifBoundB_K X I hne F.cmp_object.ne.bind (wpAny_call (codeAny_call_builtin F.cmp_object.ne.plain F.cmpEntry_ne
      (checkSlot_K F.cmpKind_ne F.cmpSplit_ne (F.cmpArgs_ne _ _) X I hsub (objNe_K (A := A.in1) X I hs hf hu (wpAny_mono hcall (fun v s' hv => ?_) fun _ _ e => e))))))
    obtain ⟨c, rfl, hq⟩ := hv
    first | exact ⟨c, rfl, wpAny_pure ⟨_, rfl, hq⟩⟩ | exact ⟨c, rfl, wpAny_pure (wpAny_pure ⟨_, rfl, hq⟩)⟩ | exact ⟨c, rfl, _, rfl, hq⟩
  unfold richCompare
  simp only [oneThing_ref]
  refine wpAny_holding (wpAny_bind (wpAny_cRoomFor (Nat.lt_of_succ_lt hu) ?_))
  rw [cmpInfo_NotEq]
  dsimp only
  refine wpAny_bind (I.type.here (wpAny_bind (hb.here ?_)))
  split
  · rename_i q
    have e : subIn K tb (.ref C) = some false := by
      rcases Bool.or_eq_true_iff.mp hn with e | e
      · rw [beq_iff_eq.mp e] at q; simp at q
      · exact beq_iff_eq.mp e
    refine wpAny_bind ((looks_subIn X e).here ?_)
    simp only [Bool.false_eq_true, if_false]
    refine wpAny_bind (wpAny_mono one (fun r s' z => ?_) fun _ _ e => e)
    obtain ⟨v, rfl, hq⟩ := z
    exact wpAny_pure hq
  · refine wpAny_bind (wpAny_pure ?_)
    simp only [Bool.false_eq_true, if_false]
    refine wpAny_bind (wpAny_mono one (fun r s' z => ?_) fun _ _ e => e)
    obtain ⟨v, rfl, hq⟩ := z
    exact wpAny_pure hq
end
end PySem.W
namespace DD
open PySem PySem.Spec PyProof.Rows L2
section
variable {X : Cx} {C f : Addr} {fd : FuncData} {ps : List Str} {k : Nat}
def rEqO (C : Addr) (sp : Sp) : R2 := fun x y H Q => ∃ a b dx dy fs gs, x = .ref a ∧ y = .ref b ∧ H a = some (.ins C dx fs) ∧ H b = some (.ins C dy gs) ∧ sp [x, y] H (fun v H' => (∃ c, v = .bl c) ∧ Q v H') E0
def rNeO (C : Addr) (sp : Sp) : R2 := fun x y H Q => ∃ a b dx dy fs gs, x = .ref a ∧ y = .ref b ∧ H a = some (.ins C dx fs) ∧ H b = some (.ins C dy gs) ∧ sp [x, y] H (fun v H' => ∃ c, v = .bl c ∧ Q (.bl (!c)) H') E0
theorem op_eqO {sp : Sp} (F : FnOk X.prog X.w X.K X.mg X.base CX0 k f fd ps sp) (hr : Room k X.A) (hs : PySem.W.findIn X.K (.ref C) "__eq__" = some (some (.ref f))) (hf : PySem.W.isFn X.K (.ref f) = true) (hb : Binds X.K fd ps []) : OpR X (compareOp .Eq) (rEqO C sp) := by
  intro pins s σ H x y v u Q I rx ry h
  obtain ⟨a, b, dx, dy, fs, gs, rfl, rfl, ha, hb', hsp⟩ := h
  cases rx
  cases ry
  obtain ⟨mA, J, _⟩ := ins_get I.hok ha
  obtain ⟨mB, J', _⟩ := ins_get I.hok hb'
  obtain ⟨od, J, _⟩ := J.look
  obtain ⟨od', J', _⟩ := J'.look
  obtain ⟨m, hF⟩ := I.fr
  show wpAny (model X.prog X.w) X.A (richCompare .Eq (.ref a) (.ref b)) (EP X pins σ Q) X.xe s
  refine PySem.W.cmp_K (op := .Eq) (tb := .ref C) hr.units0 hF I.ok.mod.kin J J'.type (by simp [PySem.W.notFirst]) hs hf ?_
  have hl := F.len _ _ _ _ hsp
  have r2 : Vals [V.ref a, V.ref b] [Value.ref a, Value.ref b] := .cons rfl (.cons rfl .nil)
  refine wpAny_call (codeAny_mono (F.run X.A X.stack s H ⟨[.ref a, .ref b], []⟩ [.ref a, .ref b] [.ref a, .ref b] _ E0 hr I.env0 (by
    have := hb s [.ref a, .ref b] I.kIn (by simpa using hl)
    simpa using this) r2 hsp) fun r s' hq => ?_)
  cases r with
  | error e => exact (pass0 pins σ H s e s' I hq : X.xe e s')
  | ok fl =>
    cases fl with
    | ret w =>
      obtain ⟨z, H', I', rz, ⟨c, ez⟩, q⟩ := I.after hq
      subst ez
      cases rz
      exact ⟨.bl c, H', I', rfl, q⟩
    | next => exact False.elim hq
    | brk => exact False.elim hq
    | cont => exact False.elim hq
theorem op_neO {sp : Sp} (F : FnOk X.prog X.w X.K X.mg X.base CX0 k f fd ps sp) (hr : Room (k + 1) X.A) (hs : PySem.W.findIn X.K (.ref C) "__eq__" = some (some (.ref f))) (hne : PySem.W.findIn X.K (.ref C) "__ne__" = some (some (.builtin "object.__ne__"))) (hsub : PySem.W.subIn X.K (.ref C) (.type "object") = some true)
    (hf : PySem.W.isFn X.K (.ref f) = true) (hb : Binds X.K fd ps []) : OpR X (compareOp .NotEq) (rNeO C sp) := by
  intro pins s σ H x y v u Q I rx ry h
  obtain ⟨a, b, dx, dy, fs, gs, rfl, rfl, ha, hb', hsp⟩ := h
  cases rx
  cases ry
  obtain ⟨mA, J, _⟩ := ins_get I.hok ha
  obtain ⟨mB, J', _⟩ := ins_get I.hok hb'
  obtain ⟨od, J, _⟩ := J.look
  obtain ⟨od', J', _⟩ := J'.look
  show wpAny (model X.prog X.w) X.A (richCompare .NotEq (.ref a) (.ref b)) (EP X pins σ Q) X.xe s
  refine PySem.W.ne_K (tb := .ref C) (hu_of hr) I.kIn J J'.type (by simp [PySem.W.notFirst]) hne hsub hs hf ?_
  have hl := F.len _ _ _ _ hsp
  have r2 : Vals [V.ref a, V.ref b] [Value.ref a, Value.ref b] := .cons rfl (.cons rfl .nil)
  refine wpAny_call (codeAny_mono (F.run X.A.in1 X.stack s H ⟨[.ref a, .ref b], []⟩ [.ref a, .ref b] [.ref a, .ref b] _ E0 hr.in1 I.env0.in1 (by
    have := hb s [.ref a, .ref b] I.kIn (by simpa using hl)
    simpa using this) r2 hsp) fun r s' hq => ?_)
  cases r with
  | error e => exact (pass0 pins σ H s e s' I hq : X.xe e s')
  | ok fl =>
    cases fl with
    | ret w =>
      obtain ⟨z, H', I', rz, c, ez, q⟩ := I.after hq
      subst ez
      cases rz
      exact ⟨c, rfl, .bl (!c), H', I', rfl, q⟩
    | next => exact False.elim hq
    | brk => exact False.elim hq
    | cont => exact False.elim hq
variable {c : List D → (D → Prop) → Prop} {Z : D → Prop} {fs gs : List (Str × D)}
theorem o_eqO (F : FnOk X.prog X.w X.K X.mg X.base CX0 k f fd ps (spD c)) (hr : Room k X.A) (hs : PySem.W.findIn X.K (.ref C) "__eq__" = some (some (.ref f))) (hf : PySem.W.isFn X.K (.ref f) = true) (hb : Binds X.K fd ps [])
    (q : c [.obj C fs, .obj C gs] fun d => ∃ k, d = .bl k ∧ Z (.bl k)) : Op2 true X (compareOp .Eq) (.obj C fs) (.obj C gs) Z := by
  intro G H v u R ex i j kk
  obtain ⟨a, dx, hs1, rfl, e2, e3⟩ := id i
  obtain ⟨b, dy, hs2, rfl, f2, f3⟩ := id j
  refine ⟨_, op_eqO F hr hs hf hb, a, b, dx, dy, hs1, hs2, rfl, rfl, ex _ _ e2, ex _ _ f2, G, [.obj C fs, .obj C gs], fun d => ∃ k, d = .bl k ∧ Z (.bl k), ex, ⟨_, _, rfl, i, _, _, rfl, j, rfl⟩, q, fun v d G' H' z gr iz => ?_⟩
  obtain ⟨k, rfl, z⟩ := z
  exact ⟨⟨k, iz⟩, kk v (.bl k) G' H' z gr iz⟩
theorem o_neO (F : FnOk X.prog X.w X.K X.mg X.base CX0 k f fd ps (spD c)) (hr : Room (k + 1) X.A) (hs : PySem.W.findIn X.K (.ref C) "__eq__" = some (some (.ref f))) (hne : PySem.W.findIn X.K (.ref C) "__ne__" = some (some (.builtin "object.__ne__"))) (hsub : PySem.W.subIn X.K (.ref C) (.type "object") = some true) (hf : PySem.W.isFn X.K (.ref f) = true) (hb : Binds X.K fd ps [])
    (q : c [.obj C fs, .obj C gs] fun d => ∃ k, d = .bl k ∧ Z (.bl (!k))) : Op2 true X (compareOp .NotEq) (.obj C fs) (.obj C gs) Z := by
  intro G H v u R ex i j kk
  obtain ⟨a, dx, hs1, rfl, e2, e3⟩ := id i
  obtain ⟨b, dy, hs2, rfl, f2, f3⟩ := id j
  refine ⟨_, op_neO F hr hs hne hsub hf hb, a, b, dx, dy, hs1, hs2, rfl, rfl, ex _ _ e2, ex _ _ f2, G, [.obj C fs, .obj C gs], fun d => ∃ k, d = .bl k ∧ Z (.bl (!k)), ex, ⟨_, _, rfl, i, _, _, rfl, j, rfl⟩, q, fun v d G' H' z gr iz => ?_⟩
  obtain ⟨k, rfl, z⟩ := z
  cases (iz : v = .bl k)
  exact ⟨k, rfl, kk _ (.bl (!k)) G' H' z gr rfl⟩
/-- isinstance(x, C) of an instance of C -/
theorem c_isiO (cl : Cls X.K C) (ha : PySem.W.findIn X.K (.ref C) "__class__" = some (some (.builtin "object.__class__"))) (hn : PySem.W.specialIn X.K (.builtin "object.__class__") "__get__" = some (some (.builtin "getset_descriptor.__get__"))) (htk : PySem.W.takesIn X.K (.builtin "object.__class__") = some true) (hm : PySem.W.mroIn X.K C (.type "object") = some true)
    (hk : PySem.W.kitOne X.K (.ref C) (.ref C) = some true) (q : Z (.bl true)) (G H : Hp) (a : Addr) (v : V) (R : VK) (ex : Ex G H) (i : Is G (.obj C fs) v) (kk : ∀ w z G' H', Z z → Grow G H G' H' → Is G' z w → R w H') : rAnyC X (.builtin "isinstance") [v, .ref C] H R := by
  obtain ⟨b, dx, gs, rfl, e2, e3⟩ := i
  exact ⟨_, call_isi, .ref b, .ref C, .ref C, .ref C, true, rfl, .own C, .base (.ins (ex _ _ e2) cl ha hn htk hm), hk, kk _ (.bl true) G H q (Grow.refl ex) rfl⟩
end
end DD
namespace DD
open PySem PySem.Spec PyProof.Rows L2
section
variable {p g : Bool} {X : Cx} {ρ : Rho} {Q : D → Rho → Prop} {C : Addr}
structure ClsT (K : PySem.W.Frag) (C : Addr) : Prop where
  cl : Cls K C
  ha : PySem.W.findIn K (.ref C) "__class__" = some (some (.builtin "object.__class__"))
  hn : PySem.W.specialIn K (.builtin "object.__class__") "__get__" = some (some (.builtin "getset_descriptor.__get__"))
  ht : PySem.W.takesIn K (.builtin "object.__class__") = some true
  hm : PySem.W.mroIn K C (.type "object") = some true
  hk : PySem.W.kitOne K (.ref C) (.ref C) = some true
theorem w_isiO {y : Str} {e : Expr} {pp py pos : Pos} (T : ClsT X.K C) (hmi : X.mg "isinstance" = none) (hC : X.mg y = some (.ref C)) (h : W p true X e ρ fun x ρ1 => ∃ fs, x = .obj C fs ∧ Q (.bl true) ρ1)
    (hg1 : Gl X "isinstance" := by rfl) (hg2 : Gl X y := by rfl) (hd : (y == ("__debug__" : Str)) = false := by decide)
    (he : starEach [e, .Name y py] X.env = (false, eval e X.env) :: starEach [.Name y py] X.env := by rfl) (he2 : starEach [.Name y py] X.env = (false, eval (.Name y py) X.env) :: starEach [] X.env := by rfl) (hpl : (backTo pos (starEach [.Name y py] X.env)).any (·.1) = false := by rfl) :
    W p g X (.Call (.Name "isinstance" pp) [e, .Name y py] [] pos) ρ Q := fun B σ G H S R r => by
  refine wE_of (pe_callB (id := "isinstance") call_any hg1 hmi (by decide +kernel) (pa_cons pe_w (pa_cons (pe_glob (v := .ref C) hg2 hC rfl hd) pa_nil he2) he) (by decide) (by decide) he hpl) ?_
  refine h B σ G H S _ fun v x ρ' G' H' q S' y pu i => ?_
  obtain ⟨fs, rfl, q⟩ := q
  exact c_isiO (Z := fun z => Q z ρ') T.cl T.ha T.hn T.ht T.hm T.hk q G' H' 0 v R S'.ex i fun w z G2 H2 hz gr iz => r w z ρ' G2 H2 hz (S'.grow gr) (y.trans gr.g) (fun z => ⟨(pu z).1, (pu z).2.trans gr⟩) (is_h (S'.grow gr) iz)
end
end DD
namespace DD
open PySem PySem.Spec PyProof.Rows L2
section
variable {p g : Bool} {X : Cx} {ρ : Rho} {Q : D → Rho → Prop} {QT : Bool → Rho → Prop} {Z : D → Prop}
theorem t_chain {a b c : Expr} {op op' : CmpOp} {pos : Pos} (h : W true true X a ρ fun x ρ1 => W true true X b ρ1 fun y ρ2 => Op2 true X (compareOp op) x y fun z => ∃ k, z = .bl k ∧ if k = true then W true true X c ρ2 fun u ρ3 => Op2 true X (compareOp op') y u fun w => ∃ j, w = .bl j ∧ QT j ρ3 else QT false ρ2)
    (hm : lastMarks [op, op'] [b, c] = false := by with_unfolding_all rfl) : WT p X (.Compare a [op, op'] [b, c] pos) ρ QT := WT.un fun B σ G H S R r => by
  refine wT_of (pt_chain op_any op_any pe_w pe_w pe_w hm) ?_
  refine two (p := true) (p1 := true) (.inr rfl) h S fun v u x y ρ' G' H' q S' e pu i1 i2 => ?_
  refine q G' H' v u _ S'.ex i1 i2 fun w z G2 H2 hz gr iz => ?_
  obtain ⟨k, rfl, hk⟩ := hz
  refine ⟨k, iz, ?_⟩
  have S2 := S'.grow gr
  cases k with
  | true =>
    refine hk B σ G2 H2 S2 _ fun t d ρ3 G3 H3 q3 S3 e3 pu3 i3 => ?_
    refine q3 G3 H3 u t _ S3.ex (Is.mono (gr.g.trans e3) _ _ i2) i3 fun w2 z2 G4 H4 hz4 gr4 iz4 => ?_
    obtain ⟨j, rfl, hz4⟩ := hz4
    exact ⟨j, iz4, r j ρ3 G4 H4 hz4 (S3.grow gr4) (((e.trans gr.g).trans e3).trans gr4.g) (fun z => ⟨(pu3 rfl).1.trans (pu rfl).1, (((pu rfl).2.trans gr).trans (pu3 rfl).2).trans gr4⟩)⟩
  | false => exact ⟨false, rfl, r false ρ' G2 H2 hk S2 (e.trans gr.g) (fun z => ⟨(pu rfl).1, (pu rfl).2.trans gr⟩)⟩
theorem c_allD {ds : List D} {b : D → Bool} (hc : X.calm = true) (q : Z (.bl (ds.all b))) : OpC g X (.builtin "all") [.lst (ds.map fun d => .bl (b d))] Z := by
  have e : ds.map (fun d => D.bl (b d)) = (ds.map b).map D.bl := by rw [List.map_map]; rfl
  rw [e]
  refine c_all hc ?_
  have e2 : (ds.map b).all id = ds.all b := by rw [List.all_map]; rfl
  rw [e2]; exact q
theorem c_anyD {ds : List D} {b : D → Bool} (hc : X.calm = true) (q : Z (.bl (ds.any b))) : OpC g X (.builtin "any") [.lst (ds.map fun d => .bl (b d))] Z := by
  have e : ds.map (fun d => D.bl (b d)) = (ds.map b).map D.bl := by rw [List.map_map]; rfl
  rw [e]
  refine c_any hc ?_
  have e2 : (ds.map b).any id = ds.any b := by rw [List.any_map]; rfl
  rw [e2]; exact q
theorem c_sumD {ds : List D} {b : D → Int} (hc : X.calm = true) (q : Z (.int (ds.map b).sum)) : OpC g X (.builtin "sum") [.lst (ds.map fun d => .int (b d))] Z := by
  have e : ds.map (fun d => D.int (b d)) = (ds.map b).map D.int := by rw [List.map_map]; rfl
  rw [e]
  exact c_sum hc q
/-! comprehensions by the forms of their targets: one name, two names -/
theorem s_setX {i : Nat} {y : Str} {py : Pos} {e : Expr} {t : TE} {spos : Pos} {E : DE} (ps : PS X (.Assign [.Name y py] e spos) (tAsg t (gName i))) (h : WX false true t ρ fun d ρ' => E.nx (ρ'.set i (.val d))) : WS X (.Assign [.Name y py] e spos) ρ E := fun B σ G H F S L => by
  refine wS_of ps ?_
  exact h B σ G H S _ fun v d ρ' G' H' q S' x pu j => L.nx _ _ G' H' q (S'.set j) x
abbrev Loc1 (X : Cx) (scope : Scope) (x : Str) : Prop := ∀ s H C cl fp, Loc (Blk X scope s H C cl fp).env.scope x ∧ ((Blk X scope s H C cl fp).fn x = true ∨ (Blk X scope s H C cl fp).env.scope.names.lookup x = some .local)
theorem pg1 {scope : Scope} {x : Str} {i : Nat} {px : Pos} {N ps : List Str} {sc : Scope} (S0 : FnScope N ps sc) (hXN : X.N = N) (hi : X.N[i]? = some x) (hl : Loc1 X scope x) : ∀ s H C cl fp, PG (Blk X scope s H C cl fp) (.Name x px) ((Tg.one i).g X.K) :=
  fun s H C cl fp => pg_name (show (Blk X scope s H C cl fp).N.Nodup from hXN ▸ S0.nd) hi (hl s H C cl fp).1 (hl s H C cl fp).2
abbrev Two (X : Cx) (scope : Scope) (x y : Str) (px py : Pos) : Prop := ∀ s H C cl fp, (assignEach [.Name x px, .Name y py] (Blk X scope s H C cl fp).env).length = 2 ∧ (assignEach [.Name x px, .Name y py] (Blk X scope s H C cl fp).env).findIdx? (·.1) = none ∧
  (assignEach [.Name x px, .Name y py] (Blk X scope s H C cl fp).env).map (·.2) = assign (.Name x px) (Blk X scope s H C cl fp).env :: (assignEach [.Name y py] (Blk X scope s H C cl fp).env).map (·.2) ∧
  (assignEach [.Name y py] (Blk X scope s H C cl fp).env).map (·.2) = assign (.Name y py) (Blk X scope s H C cl fp).env :: (assignEach [] (Blk X scope s H C cl fp).env).map (·.2)
theorem pg2 {scope : Scope} {x y : Str} {i j : Nat} {px py pt : Pos} {kk : Nat} {N ps : List Str} {sc : Scope} (S0 : FnScope N ps sc) (hXN : X.N = N) (hc : X.calm = true) (hi : X.N[i]? = some x) (hl : Loc1 X scope x) (hj : X.N[j]? = some y) (hl2 : Loc1 X scope y) (h2 : Two X scope x y px py) :
    ∀ s H C cl fp, PG (Blk X scope s H C cl fp) (.Tuple [.Name x px, .Name y py] kk pt) ((Tg.two i j).g X.K) :=
  fun s H C cl fp => pg_tup hc (pgs_cons (pg_name (show (Blk X scope s H C cl fp).N.Nodup from hXN ▸ S0.nd) hi (hl s H C cl fp).1 (hl s H C cl fp).2) (pgs_cons (pg_name (show (Blk X scope s H C cl fp).N.Nodup from hXN ▸ S0.nd) hj (hl2 s H C cl fp).1 (hl2 s H C cl fp).2) pgs_nil (h2 s H C cl fp).2.2.2) (h2 s H C cl fp).2.2.1) (h2 s H C cl fp).1 (h2 s H C cl fp).2.1
section
variable {N ps : List Str} {sc scope : Scope} {x y : Str} {elt iter c : Expr} {pos px py pt : Pos} {kk : Nat}
abbrev P1 (p : Bool) (X : Cx) (scope : Scope) (i : Nat) (x : Str) (px : Pos) (iter elt : Expr) (f : D → D) (ρ : Rho) (Q : D → Rho → Prop) : Prop :=
  WI p X (.Name x px) iter ρ fun ds ρ1 => ds.length ≤ 40000 ∧ (∀ d ∈ ds, ∀ s H C cl fp, W true true (Blk X scope s H C cl fp) elt ((ρ1.set i .un).set i (.val d)) fun y _ => y = f d) ∧ Q (.lst (ds.map f)) ρ1
theorem x1 {i : Nat} {f : D → D} (h : P1 p X scope i x px iter elt f ρ Q) : WX p g (tLc (wI X (.Name x px) iter) ((Tg.one i).g X.K) tYes (cE X scope elt) [i]) ρ Q :=
  x_lc (T := .one i) (own := [(x, i)]) f (fun j hj => hj) fun B σ G H S R r => h B σ G H S R fun J ds ρ1 G1 H1 q S1 y pu wk => r J ds ρ1 G1 H1 ⟨q.1, fun d hd => ⟨_, rfl, q.2.1 d hd⟩, q.2.2⟩ S1 y pu wk
/-- [elt for x in iter], x in slot i -/
theorem lc1 (i : Nat) (f : D → D) (S0 : FnScope N ps sc) (h : P1 p X scope i x px iter elt f ρ Q) (hXN : X.N = N := by rfl) (hbk : blkC X.N X.env.scope scope [(x, i)] = true := by kernel_rfl) (hi : X.N[i]? = some x := by rfl)
    (hl : Loc1 X scope x := by intro _ _ _ _ _; first | exact ⟨.inl rfl, .inr rfl⟩ | exact ⟨.inr rfl, .inl rfl⟩) (hc : X.calm = true := by rfl) (hs : ∀ x, foldedSetIterable iter X.env x = pure x := by intro _; rfl) :
    W p g X (.ListComp elt [⟨.Name x px, iter, [], 0⟩] scope pos) ρ Q :=
  WX.w (pe_lc (own := [(x, i)]) hc (hXN ▸ S0.nd) pi_w (blkOk_by hbk) (pg1 S0 hXN hi hl) (fun _ _ _ _ _ => pts_nil) pe_c hs) (x1 h)
/-- y = [elt for x in iter], y in slot l -/
theorem s_lc1 (l i : Nat) (f : D → D) {E : DE} {z : Str} {pz spos : Pos} (S0 : FnScope N ps sc) (h : P1 false X scope i x px iter elt f ρ fun d ρ' => E.nx (ρ'.set l (.val d))) (hXN : X.N = N := by rfl) (hbk : blkC X.N X.env.scope scope [(x, i)] = true := by kernel_rfl) (hi : X.N[i]? = some x := by rfl)
    (hl : Loc1 X scope x := by intro _ _ _ _ _; first | exact ⟨.inl rfl, .inr rfl⟩ | exact ⟨.inr rfl, .inl rfl⟩) (hc : X.calm = true := by rfl) (hs : ∀ x, foldedSetIterable iter X.env x = pure x := by intro _; rfl) (hz : X.N[l]? = some z := by rfl) (hzl : X.env.scope.names.lookup z = some .local := by rfl)
    (hsw : swapsWith (.ListComp elt [⟨.Name x px, iter, [], 0⟩] scope pos) (some (.Name z pz)) spos.line X.env = pure true := by exact sw_true rfl rfl rfl (by decide +kernel)) :
    WS X (.Assign [.Name z pz] (.ListComp elt [⟨.Name x px, iter, [], 0⟩] scope pos) spos) ρ E :=
  s_setX (ps_setLc (own := [(x, i)]) hc (hXN ▸ S0.nd) hz hzl hsw pi_w (blkOk_by hbk) (pg1 S0 hXN hi hl) (fun _ _ _ _ _ => pts_nil) pe_c hs) (x1 h)
abbrev P1If (p : Bool) (X : Cx) (scope : Scope) (i : Nat) (x : Str) (px : Pos) (iter elt c : Expr) (bt : D → Bool) (f : D → D) (ρ : Rho) (Q : D → Rho → Prop) : Prop :=
  WI p X (.Name x px) iter ρ fun ds ρ1 => ds.length ≤ 40000 ∧ (∀ d ∈ ds, ∀ s H C cl fp, WT true (Blk X scope s H C cl fp) c ((ρ1.set i .un).set i (.val d)) (fun b _ => b = bt d) ∧ (bt d = true → W true true (Blk X scope s H C cl fp) elt ((ρ1.set i .un).set i (.val d)) fun y _ => y = f d)) ∧ Q (.lst ((ds.filter bt).map f)) ρ1
theorem x1If {i : Nat} {bt : D → Bool} {f : D → D} (h : P1If p X scope i x px iter elt c bt f ρ Q) : WX p g (tLc (wI X (.Name x px) iter) ((Tg.one i).g X.K) (cT X scope c) (cE X scope elt) [i]) ρ Q :=
  x_lcIf (T := .one i) (own := [(x, i)]) bt f (fun j hj => hj) fun B σ G H S R r => h B σ G H S R fun J ds ρ1 G1 H1 q S1 y pu wk => r J ds ρ1 G1 H1 ⟨q.1, fun d hd => ⟨_, rfl, q.2.1 d hd⟩, q.2.2⟩ S1 y pu wk
theorem lc1If (i : Nat) (bt : D → Bool) (f : D → D) (S0 : FnScope N ps sc) (h : P1If p X scope i x px iter elt c bt f ρ Q) (hXN : X.N = N := by rfl) (hbk : blkC X.N X.env.scope scope [(x, i)] = true := by kernel_rfl) (hi : X.N[i]? = some x := by rfl)
    (hl : Loc1 X scope x := by intro _ _ _ _ _; first | exact ⟨.inl rfl, .inr rfl⟩ | exact ⟨.inr rfl, .inl rfl⟩) (hc : X.calm = true := by rfl) (hs : ∀ x, foldedSetIterable iter X.env x = pure x := by intro _; rfl) :
    W p g X (.ListComp elt [⟨.Name x px, iter, [c], 0⟩] scope pos) ρ Q :=
  WX.w (pe_lc (own := [(x, i)]) hc (hXN ▸ S0.nd) pi_w (blkOk_by hbk) (pg1 S0 hXN hi hl) pt_c pe_c hs) (x1If h)
abbrev P2 (p : Bool) (X : Cx) (scope : Scope) (i j : Nat) (x y : Str) (px py pt : Pos) (kk : Nat) (iter elt : Expr) (f : D → D) (ρ : Rho) (Q : D → Rho → Prop) : Prop :=
  WI p X (.Tuple [.Name x px, .Name y py] kk pt) iter ρ fun ds ρ1 => ds.length ≤ 40000 ∧ (∀ d ∈ ds, ∃ a b, d = .tup [a, b] ∧ ∀ s H C cl fp, W true true (Blk X scope s H C cl fp) elt ((((ρ1.set j .un).set i .un).set i (.val a)).set j (.val b)) fun y _ => y = f d) ∧ Q (.lst (ds.map f)) ρ1
theorem x2 {i j : Nat} {f : D → D} (h : P2 p X scope i j x y px py pt kk iter elt f ρ Q) : WX p g (tLc (wI X (.Tuple [.Name x px, .Name y py] kk pt) iter) ((Tg.two i j).g X.K) tYes (cE X scope elt) [i, j]) ρ Q :=
  x_lc (T := .two i j) (own := [(x, i), (y, j)]) f (fun j hj => hj) fun B σ G H S R r => h B σ G H S R fun J ds ρ1 G1 H1 q S1 y pu wk => r J ds ρ1 G1 H1 ⟨q.1, fun d hd => by
    obtain ⟨a, b, rfl, hw⟩ := q.2.1 d hd
    exact ⟨_, rfl, hw⟩, q.2.2⟩ S1 y pu wk
theorem lc2 (i j : Nat) (f : D → D) (S0 : FnScope N ps sc) (h : P2 p X scope i j x y px py pt kk iter elt f ρ Q) (hXN : X.N = N := by rfl) (hbk : blkC X.N X.env.scope scope [(x, i), (y, j)] = true := by kernel_rfl) (hi : X.N[i]? = some x := by rfl) (hj : X.N[j]? = some y := by rfl)
    (hl : Loc1 X scope x := by intro _ _ _ _ _; first | exact ⟨.inl rfl, .inr rfl⟩ | exact ⟨.inr rfl, .inl rfl⟩) (hl2 : Loc1 X scope y := by intro _ _ _ _ _; first | exact ⟨.inl rfl, .inr rfl⟩ | exact ⟨.inr rfl, .inl rfl⟩) (h2 : Two X scope x y px py := by intro _ _ _ _ _; exact ⟨rfl, rfl, rfl, rfl⟩)
    (hc : X.calm = true := by rfl) (hs : ∀ x, foldedSetIterable iter X.env x = pure x := by intro _; rfl) :
    W p g X (.ListComp elt [⟨.Tuple [.Name x px, .Name y py] kk pt, iter, [], 0⟩] scope pos) ρ Q :=
  WX.w (pe_lc (own := [(x, i), (y, j)]) hc (hXN ▸ S0.nd) pi_w (blkOk_by hbk) (pg2 S0 hXN hc hi hl hj hl2 h2) (fun _ _ _ _ _ => pts_nil) pe_c hs) (x2 h)
theorem s_lc2 (l i j : Nat) (f : D → D) {E : DE} {z : Str} {pz spos : Pos} (S0 : FnScope N ps sc) (h : P2 false X scope i j x y px py pt kk iter elt f ρ fun d ρ' => E.nx (ρ'.set l (.val d))) (hXN : X.N = N := by rfl) (hbk : blkC X.N X.env.scope scope [(x, i), (y, j)] = true := by kernel_rfl) (hi : X.N[i]? = some x := by rfl) (hj : X.N[j]? = some y := by rfl)
    (hl : Loc1 X scope x := by intro _ _ _ _ _; first | exact ⟨.inl rfl, .inr rfl⟩ | exact ⟨.inr rfl, .inl rfl⟩) (hl2 : Loc1 X scope y := by intro _ _ _ _ _; first | exact ⟨.inl rfl, .inr rfl⟩ | exact ⟨.inr rfl, .inl rfl⟩) (h2 : Two X scope x y px py := by intro _ _ _ _ _; exact ⟨rfl, rfl, rfl, rfl⟩)
    (hc : X.calm = true := by rfl) (hs : ∀ x, foldedSetIterable iter X.env x = pure x := by intro _; rfl) (hz : X.N[l]? = some z := by rfl) (hzl : X.env.scope.names.lookup z = some .local := by rfl)
    (hsw : swapsWith (.ListComp elt [⟨.Tuple [.Name x px, .Name y py] kk pt, iter, [], 0⟩] scope pos) (some (.Name z pz)) spos.line X.env = pure true := by exact sw_true rfl rfl rfl (by decide +kernel)) :
    WS X (.Assign [.Name z pz] (.ListComp elt [⟨.Tuple [.Name x px, .Name y py] kk pt, iter, [], 0⟩] scope pos) spos) ρ E :=
  s_setX (ps_setLc (own := [(x, i), (y, j)]) hc (hXN ▸ S0.nd) hz hzl hsw pi_w (blkOk_by hbk) (pg2 S0 hXN hc hi hl hj hl2 h2) (fun _ _ _ _ _ => pts_nil) pe_c hs) (x2 h)
abbrev P2If (p : Bool) (X : Cx) (scope : Scope) (i j : Nat) (x y : Str) (px py pt : Pos) (kk : Nat) (iter elt c : Expr) (bt : D → Bool) (f : D → D) (ρ : Rho) (Q : D → Rho → Prop) : Prop :=
  WI p X (.Tuple [.Name x px, .Name y py] kk pt) iter ρ fun ds ρ1 => ds.length ≤ 40000 ∧ (∀ d ∈ ds, ∃ a b, d = .tup [a, b] ∧ ∀ s H C cl fp, WT true (Blk X scope s H C cl fp) c ((((ρ1.set j .un).set i .un).set i (.val a)).set j (.val b)) (fun k _ => k = bt d) ∧ (bt d = true → W true true (Blk X scope s H C cl fp) elt ((((ρ1.set j .un).set i .un).set i (.val a)).set j (.val b)) fun y _ => y = f d)) ∧ Q (.lst ((ds.filter bt).map f)) ρ1
theorem x2If {i j : Nat} {bt : D → Bool} {f : D → D} (h : P2If p X scope i j x y px py pt kk iter elt c bt f ρ Q) : WX p g (tLc (wI X (.Tuple [.Name x px, .Name y py] kk pt) iter) ((Tg.two i j).g X.K) (cT X scope c) (cE X scope elt) [i, j]) ρ Q :=
  x_lcIf (T := .two i j) (own := [(x, i), (y, j)]) bt f (fun j hj => hj) fun B σ G H S R r => h B σ G H S R fun J ds ρ1 G1 H1 q S1 y pu wk => r J ds ρ1 G1 H1 ⟨q.1, fun d hd => by
    obtain ⟨a, b, rfl, hw⟩ := q.2.1 d hd
    exact ⟨_, rfl, hw⟩, q.2.2⟩ S1 y pu wk
theorem s_lc2If (l i j : Nat) (bt : D → Bool) (f : D → D) {E : DE} {z : Str} {pz spos : Pos} (S0 : FnScope N ps sc) (h : P2If false X scope i j x y px py pt kk iter elt c bt f ρ fun d ρ' => E.nx (ρ'.set l (.val d))) (hXN : X.N = N := by rfl) (hbk : blkC X.N X.env.scope scope [(x, i), (y, j)] = true := by kernel_rfl) (hi : X.N[i]? = some x := by rfl) (hj : X.N[j]? = some y := by rfl)
    (hl : Loc1 X scope x := by intro _ _ _ _ _; first | exact ⟨.inl rfl, .inr rfl⟩ | exact ⟨.inr rfl, .inl rfl⟩) (hl2 : Loc1 X scope y := by intro _ _ _ _ _; first | exact ⟨.inl rfl, .inr rfl⟩ | exact ⟨.inr rfl, .inl rfl⟩) (h2 : Two X scope x y px py := by intro _ _ _ _ _; exact ⟨rfl, rfl, rfl, rfl⟩)
    (hc : X.calm = true := by rfl) (hs : ∀ x, foldedSetIterable iter X.env x = pure x := by intro _; rfl) (hz : X.N[l]? = some z := by rfl) (hzl : X.env.scope.names.lookup z = some .local := by rfl)
    (hsw : swapsWith (.ListComp elt [⟨.Tuple [.Name x px, .Name y py] kk pt, iter, [c], 0⟩] scope pos) (some (.Name z pz)) spos.line X.env = pure true := by exact sw_true rfl rfl rfl (by decide +kernel)) :
    WS X (.Assign [.Name z pz] (.ListComp elt [⟨.Tuple [.Name x px, .Name y py] kk pt, iter, [c], 0⟩] scope pos) spos) ρ E :=
  s_setX (ps_setLc (own := [(x, i), (y, j)]) hc (hXN ▸ S0.nd) hz hzl hsw pi_w (blkOk_by hbk) (pg2 S0 hXN hc hi hl hj hl2 h2) pt_c pe_c hs) (x2If h)
theorem slots_i (x y : Str) (i j : Nat) : ∀ k ∈ (Tg.one i).slots, k ∈ [(x, i), (y, j)].map (·.2) := fun k hk => by
  have e : k = i := by simpa [Tg.slots] using hk
  subst e; simp
theorem slots_j (x y : Str) (i j : Nat) : ∀ k ∈ (Tg.one j).slots, k ∈ [(x, i), (y, j)].map (·.2) := fun k hk => by
  have e : k = j := by simpa [Tg.slots] using hk
  subst e; simp
/-- y = [elt for x in iter for z in iter1] -/
abbrev P11 (p : Bool) (X : Cx) (scope : Scope) (i j : Nat) (x y : Str) (px py : Pos) (iter iter1 elt : Expr) (inner : D → List D) (f : D → D → D) (ρ : Rho) (Q : D → Rho → Prop) : Prop :=
  WI p X (.Name x px) iter ρ fun ds ρ1 => (ds.flatMap fun d => (inner d).map (f d)).length ≤ 40000 ∧ (∀ d ∈ ds, (∀ s H C cl fp, WI true (Blk X scope s H C cl fp) (.Name y py) iter1 (((ρ1.set j .un).set i .un).set i (.val d)) fun es _ => es = inner d) ∧
    ∀ e ∈ inner d, ∀ s H C cl fp, W true true (Blk X scope s H C cl fp) elt (((((ρ1.set j .un).set i .un).set i (.val d)).set j .un).set j (.val e)) fun y _ => y = f d e) ∧ Q (.lst (ds.flatMap fun d => (inner d).map (f d))) ρ1
theorem s_lc11 (l i j : Nat) (inner : D → List D) (f : D → D → D) {E : DE} {z : Str} {iter1 : Expr} {pz spos : Pos} (S0 : FnScope N ps sc) (h : P11 false X scope i j x y px py iter iter1 elt inner f ρ fun d ρ' => E.nx (ρ'.set l (.val d))) (hXN : X.N = N := by rfl) (hbk : blkC X.N X.env.scope scope [(x, i), (y, j)] = true := by kernel_rfl) (hi : X.N[i]? = some x := by rfl) (hj : X.N[j]? = some y := by rfl)
    (hl : Loc1 X scope x := by intro _ _ _ _ _; first | exact ⟨.inl rfl, .inr rfl⟩ | exact ⟨.inr rfl, .inl rfl⟩) (hl2 : Loc1 X scope y := by intro _ _ _ _ _; first | exact ⟨.inl rfl, .inr rfl⟩ | exact ⟨.inr rfl, .inl rfl⟩)
    (hc : X.calm = true := by rfl) (hs : ∀ x, foldedSetIterable iter X.env x = pure x := by intro _; rfl) (hs1 : ∀ env x, foldedSetIterable iter1 env x = pure x := by intro _ _; rfl) (hz : X.N[l]? = some z := by rfl) (hzl : X.env.scope.names.lookup z = some .local := by rfl)
    (hsw : swapsWith (.ListComp elt [⟨.Name x px, iter, [], 0⟩, ⟨.Name y py, iter1, [], 0⟩] scope pos) (some (.Name z pz)) spos.line X.env = pure true := by exact sw_true rfl rfl rfl (by decide +kernel)) :
    WS X (.Assign [.Name z pz] (.ListComp elt [⟨.Name x px, iter, [], 0⟩, ⟨.Name y py, iter1, [], 0⟩] scope pos) spos) ρ E :=
  s_setX (ps_setLc2 (own := [(x, i), (y, j)]) (vs1 := (Tg.one j).slots) hc (hXN ▸ S0.nd) hz hzl hsw pi_w (blkOk_by hbk) (slots_j x y i j) (pg1 S0 hXN hi hl) (fun _ _ _ _ _ => pts_nil) pi_c (pg1 S0 hXN hj hl2) (fun _ _ _ _ _ => pts_nil) pe_c hs hs1)
    (x_lc2 (T := .one i) (T1 := .one j) (own := [(x, i), (y, j)]) inner f (slots_i x y i j) (slots_j x y i j) fun B σ G H S R r => h B σ G H S R fun J ds ρ1 G1 H1 q S1 y pu wk => r J ds ρ1 G1 H1 ⟨q.1, fun d hd => ⟨_, rfl, (q.2.1 d hd).1, fun e he => ⟨_, rfl, (q.2.1 d hd).2 e he⟩⟩, q.2.2⟩ S1 y pu wk)
end
/-- a constant of the module -/
theorem glb {x : Str} {i : Int} {t : Tok} {pos : Pos} (hm : X.mg x = some (.int i t)) (q : Q (.int i) ρ) (hg : Gl X x := by rfl) (hd : (x == ("__debug__" : Str)) = false := by decide) : W p g X (.Name x pos) ρ Q := w_glob (v := .int i) hg hm ⟨t, rfl⟩ hd rfl q
end
end DD

namespace DD
open PySem PySem.Spec PyProof.Rows L2
section
variable {p g : Bool} {X : Cx} {ρ : Rho} {Q : D → Rho → Prop} {E : DE} {pos : Pos}
/-- x *= e, ints -/
theorem s_augMul {i : Nat} {x : Str} {e : Expr} {pos' : Pos} (hN : X.N.Nodup) (hi : X.N[i]? = some x) (hx : Loc X.env.scope x) (h : ∃ n, ρ[i]? = some (.val (.int n)) ∧ W false true X e ρ fun d ρ' => ∃ m, d = .int m ∧ (-(2 ^ 64) < n ∧ n < 2 ^ 64 ∨ -(2 ^ 64) < m ∧ m < 2 ^ 64) ∧ E.nx (ρ'.set i (.val (.int (n * m)))))
    (hf : X.fn x = true ∨ X.env.scope.names.lookup x = some .local := by first | exact .inl rfl | exact .inr rfl) : WS X (.AugAssign (.Name x pos') .Mult e pos) ρ E := fun B σ G H F S L => by
  obtain ⟨n, hr, h⟩ := h
  refine wS_of (ps_aug hN hi hx pe_w iop_mul hf) ?_
  obtain ⟨v, e1, iv⟩ := S.valAt hr
  cases (iv : v = .int n)
  refine ⟨_, e1, ?_⟩
  refine h B σ G H S _ fun u d ρ' G' H' q S' y pu iu => ?_
  obtain ⟨m, rfl, b, q⟩ := q
  cases (iu : u = .int m)
  exact ⟨n, m, rfl, rfl, b, L.nx _ _ G' H' q (S'.set (d := .int (n * m)) rfl) y⟩
/-- short words for statements -/
theorem set (i : Nat) {x : Str} {e : Expr} {pos' : Pos} {N ps : List Str} {sc : Scope} (S0 : FnScope N ps sc) (h : W false true X e ρ fun d ρ' => E.nx (ρ'.set i (.val d))) (hXN : X.N = N := by rfl) (hi : X.N[i]? = some x := by rfl) (hx : Loc X.env.scope x := by first | exact .inl rfl | exact .inr rfl)
    (hs : swapsWith e (some (.Name x pos')) pos.line X.env = pure false := by rfl) (hf : X.fn x = true ∨ X.env.scope.names.lookup x = some .local := by first | exact .inl rfl | exact .inr rfl) : WS X (.Assign [.Name x pos'] e pos) ρ E := s_set (hXN ▸ S0.nd) hi hx h hs hf
theorem setO (i : Nat) {x : Str} {e : Expr} {pos' : Pos} {N ps : List Str} {sc : Scope} (S0 : FnScope N ps sc) (h : WF X e ρ fun o ρ' => E.nx (ρ'.set i (.own true o))) (hXN : X.N = N := by rfl) (hi : X.N[i]? = some x := by rfl) (hx : Loc X.env.scope x := by first | exact .inl rfl | exact .inr rfl)
    (hs : swapsWith e (some (.Name x pos')) pos.line X.env = pure false := by rfl) (hf : X.fn x = true ∨ X.env.scope.names.lookup x = some .local := by first | exact .inl rfl | exact .inr rfl) : WS X (.Assign [.Name x pos'] e pos) ρ E := s_own (hXN ▸ S0.nd) hi hx h hs hf
theorem app (i : Nat) {x : Str} {e : Expr} {p1 p2 p3 : Pos} {ds : List D} (hr : ρ[i]? = some (.own true (.lst ds)))
    (h : W false true X e ρ fun d ρ' => ∃ ds', ρ'[i]? = some (.own true (.lst ds')) ∧ ds'.length < 1000000 ∧ E.nx (ρ'.set i (.own true (.lst (ds' ++ [d])))))
    (hN : X.N[i]? = some x := by rfl) (hv : Vis X.env.scope x := by first | exact .inl rfl | exact .inr (.inl rfl) | exact .inr (.inr rfl)) (hd : (x == ("__debug__" : Str)) = false := by decide) (hcd : (x == ("__classdict__" : Str)) = false := by decide)
    (hbase : attributeBase (.Name x p1) "append" X.env (eval (.Name x p1) X.env) = eval (.Name x p1) X.env := by rfl)
    (hfew : ((backTo p3 (starEach [e] X.env)).all (fun x => !x.1) && (backToKw p3 (keywordEach [] X.env)).all (fun x => x.1.isSome)
      && decide (([e] : List Expr).length + ([] : List Keyword).length + (if ([] : List Keyword).isEmpty then 0 else 1) < 30)) = true := by rfl)
    (hline : (p2.endLine == p3.line) = true := by rfl) (hst : starEach [e] X.env = (false, eval e X.env) :: starEach [] X.env := by rfl) (hplain : (backTo p3 (starEach [] X.env)).any (·.1) = false := by rfl)
    (hs : swapsWith (.Call (.Attribute (.Name x p1) "append" p2) [e] [] p3) none pos.line X.env = pure false := by rfl) : WS X (.Expr (.Call (.Attribute (.Name x p1) "append" p2) [e] [] p3) pos) ρ E :=
  s_app hN hv hd hcd ⟨ds, hr, h⟩ hbase hfew hline hst hplain hs
/-- for x in iter, x in slot i -/
theorem for1 (i : Nat) {x : Str} {px : Pos} {iter : Expr} {body : List Stmt} {N ps : List Str} {sc : Scope} (S0 : FnScope N ps sc) (h : WI false X (.Name x px) iter ρ fun ds ρ1 => ∃ I : Nat → Rho → Prop, I 0 ρ1 ∧ (∀ j d ρi, ds[j]? = some d → I j ρi → WSs X body (ρi.set i (.val d)) { E with nx := I (j + 1), ct := I (j + 1), bk := E.nx }) ∧ ∀ ρn, I ds.length ρn → E.nx ρn)
    (hp : PassesOwn (model X.prog X.w) X.A X.env X.xe := by exact PassesOwn.never) (hXN : X.N = N := by rfl) (hi : X.N[i]? = some x := by rfl) (hx : Loc X.env.scope x := by first | exact .inl rfl | exact .inr rfl) (hf : X.fn x = true ∨ X.env.scope.names.lookup x = some .local := by first | exact .inl rfl | exact .inr rfl)
    (hc : X.calm = true := by rfl) (hs : ∀ x, foldedSetIterable iter X.env x = pure x := by intro _; rfl) : WS X (.For (.Name x px) iter body [] pos) ρ E :=
  s_for (T := .one i) hp hc (pg_name (hXN ▸ S0.nd) hi hx hf) hs fun B σ G H S R r => h B σ G H S R fun J ds ρ1 G1 H1 q S1 y pu wk => r J ds ρ1 G1 H1 (by
    obtain ⟨I, i0, st, fin⟩ := q
    exact ⟨I, i0, fun j d ρi hd hI => ⟨_, rfl, st j d ρi hd hI⟩, fin⟩) S1 y pu wk
theorem for2 (i l : Nat) {x y : Str} {px py pt : Pos} {kk : Nat} {iter : Expr} {body : List Stmt} {N ps : List Str} {sc : Scope} (S0 : FnScope N ps sc) (h : WI false X (.Tuple [.Name x px, .Name y py] kk pt) iter ρ fun ds ρ1 => ∃ I : Nat → Rho → Prop, I 0 ρ1 ∧ (∀ j d ρi, ds[j]? = some d → I j ρi → ∃ a b, d = .tup [a, b] ∧ WSs X body ((ρi.set i (.val a)).set l (.val b)) { E with nx := I (j + 1), ct := I (j + 1), bk := E.nx }) ∧ ∀ ρn, I ds.length ρn → E.nx ρn)
    (hp : PassesOwn (model X.prog X.w) X.A X.env X.xe := by exact PassesOwn.never) (hXN : X.N = N := by rfl) (hi : X.N[i]? = some x := by rfl) (hl : X.N[l]? = some y := by rfl) (hx : Loc X.env.scope x := by first | exact .inl rfl | exact .inr rfl) (hy : Loc X.env.scope y := by first | exact .inl rfl | exact .inr rfl) (hf : X.fn x = true ∨ X.env.scope.names.lookup x = some .local := by first | exact .inl rfl | exact .inr rfl) (hf2 : X.fn y = true ∨ X.env.scope.names.lookup y = some .local := by first | exact .inl rfl | exact .inr rfl)
    (hc : X.calm = true := by rfl) (hs : ∀ x, foldedSetIterable iter X.env x = pure x := by intro _; rfl)
    (h1 : (assignEach [.Name x px, .Name y py] X.env).length = 2 := by rfl) (h2 : (assignEach [.Name x px, .Name y py] X.env).findIdx? (·.1) = none := by rfl)
    (h3 : (assignEach [.Name x px, .Name y py] X.env).map (·.2) = assign (.Name x px) X.env :: (assignEach [.Name y py] X.env).map (·.2) := by rfl) (h4 : (assignEach [.Name y py] X.env).map (·.2) = assign (.Name y py) X.env :: (assignEach [] X.env).map (·.2) := by rfl) : WS X (.For (.Tuple [.Name x px, .Name y py] kk pt) iter body [] pos) ρ E :=
  s_for (T := .two i l) hp hc (pg_tup hc (pgs_cons (pg_name (hXN ▸ S0.nd) hi hx hf) (pgs_cons (pg_name (hXN ▸ S0.nd) hl hy hf2) pgs_nil h4) h3) h1 h2) hs fun B σ G H S R r => h B σ G H S R fun J ds ρ1 G1 H1 q S1 y pu wk => r J ds ρ1 G1 H1 (by
    obtain ⟨I, i0, st, fin⟩ := q
    exact ⟨I, i0, fun j d ρi hd hI => by
      obtain ⟨a, b, rfl, z⟩ := st j d ρi hd hI
      exact ⟨_, rfl, z⟩, fin⟩) S1 y pu wk
end
end DD

namespace DD
open PySem PySem.Spec PyProof.Rows L2
/-! ### enumerate of a tuple -/
abbrev tupIt (a : Addr) : Obj := { cls := .type "tuple_iterator", data := .fields #[.ref a, .int 0 0] }
abbrev enuOf (i : Addr) : Obj := { cls := .type "enumerate", data := .fields #[.none, .bool false, .ref i, rawInt 0, .none, .none] }
theorem enuT_meets (a : Addr) (ys : Array Value) :
    Meets (Builtin.«enumerate.__new__» ⟨[.type "enumerate", .ref a], []⟩) (fun _ R s => s.heap.IsTuple a ys ∧ R (.ok (.ret (.ref (s.heap.push (tupIt a)).objs.size))) { s with heap := (s.heap.push (tupIt a)).push (enuOf s.heap.objs.size) }) :=
  .of_wp fun prog w A R s hyp => by
    obtain ⟨hp, gn, dr, tk, os⟩ := s
    obtain ⟨isT, goal⟩ := hyp
    have sb := sub_enumerate
    have it1 : ∀ {A' : Around} {E' : Value → Shared → Prop} {Q' : Value → Shared → Prop}, Q' (.ref hp.objs.size) ⟨hp.push (tupIt a), gn, dr, tk, os⟩ → wpAny (model prog w) A' (pyIter (.ref a)) Q' E' ⟨hp, gn, dr, tk, os⟩ := fun q =>
      wpAny_pyIter_tuple isT q
    wp_walk using it1
    refine wpAny_stack_any fun _ => wpAny_pure ?_
    split
    · rename_i cc _ _ _ _ _
      cases (cc == Value.type "enumerate") <;> (wp_walk using it1; exact ⟨_, rfl, goal⟩)
    · wp_walk using it1
      exact ⟨_, rfl, goal⟩
section
variable {prog : Program} {w : World} {A : Around} {E : Value → Shared → Prop} {s : Shared}
theorem enuT_call {a : Addr} {ys : Array Value} {Q : Value → Shared → Prop} (isT : s.heap.IsTuple a ys)
    (k : ∀ h', IsEnum h' (s.heap.objs.size + 1) s.heap.objs.size 0 .none → h'.IsTupleIter s.heap.objs.size a 0 → (∀ b u, s.heap.get? b = some u → h'.get? b = some u) → Q (.ref (s.heap.objs.size + 1)) { s with heap := h' }) :
    wpAny (model prog w) A (PySem.call (.type "enumerate") [.ref a]) Q E s := by
  refine callType_new F.called_enumerate (by decide) (F.typeCall_enumerate_1 _) (F.newCall_enumerate_1 _) (fun ob => F.args_object_init_2 ob _) F.entry_enumerate_new (enuT_meets a ys) ⟨isT, ?_⟩
  have sz : (s.heap.push (tupIt a)).objs.size = s.heap.objs.size + 1 := Heap.size_push ..
  show _ ∧ _
  rw [sz]
  have e1 : IsEnum ((s.heap.push (tupIt a)).push (enuOf s.heap.objs.size)) (s.heap.objs.size + 1) s.heap.objs.size 0 .none := by
    have z := Heap.get?_push_size (s.heap.push (tupIt a)) (o := enuOf s.heap.objs.size) rfl
    rw [sz] at z
    exact z
  exact ⟨⟨_, e1, rfl⟩, k _ e1 ⟨_, Heap.get?_push_of_some _ (Heap.get?_push_size _ rfl), rfl, rfl⟩ fun b u q => Heap.get?_push_of_some _ (Heap.get?_push_of_some _ q)⟩
end
/-- an iterator that has come to its end -/
theorem drawsEnd {prog : Program} {w : World} {A : Around} (hh : A.handled = none) (it a : Addr) (ys : Array Value) (i : Nat) (hx : ys[i]? = none) :
    Draws prog w A it [it, a] i (fun _ _ => True) (fun j h => j = i ∧ h.IsTupleIter it a i ∧ h.IsTuple a ys) where
  live := fun _ _ st => ⟨st.2.1.choose, st.2.1.choose_spec.1⟩
  frame := fun _ _ _ st k => ⟨st.1, st.2.1.at fun o q => k it (by simp) o q, st.2.2.at fun o q => k a (by simp) o q⟩
  item := fun j s Q E hj st hQ => absurd st.1 (Nat.ne_of_lt hj)
  done := fun s Q E st hE => wpAny_nextOf_tuple_end hh st.2.1 st.2.2 hx hE
/-- the tuple at a, each item in a new pair with its place -/
def ItEnuT (K : PySem.W.Frag) (a : Addr) : It where
  go := fun i H => ∃ (xs : List V) (x : V), SqT K H a xs ∧ xs[i]? = some x
  yld := fun i H v H' => ∃ T x, v = .ref T ∧ H T = none ∧ H' = upd H T (.tup [.int (i : Nat), x]) ∧ ∀ xs, SqT K H a xs → xs[i]? = some x
  stop := fun i H => ∃ xs : List V, SqT K H a xs ∧ xs.length ≤ i
theorem turn_enuT {P : Program} {w : World} {K : PySem.W.Frag} {elts : List Expr} {kk : Nat} {tpos : Pos} (a e it : Addr) :
    Turn P w K (.Tuple elts kk tpos) (ItEnuT K a) [e, it] e (fun i h => (∃ old, IsEnum h e it ((i : Nat) : Int) old) ∧ h.IsTupleIter it a i ∧ e ≠ it) where
  mem := by simp
  obj := fun i h st b hb => by
    obtain ⟨⟨od, hE⟩, ⟨o, ho, _, hdt⟩, _⟩ := st
    rcases (show b = e ∨ b = it by simpa using hb) with rfl | rfl
    · exact ⟨_, hE, fun v q => by cases q⟩
    · exact ⟨o, ho, fun v q => by rw [hdt] at q; cases q⟩
  keep := fun i h h' st k => ⟨⟨st.1.choose, k e (by simp) _ st.1.choose_spec⟩, st.2.1.at fun o q => k it (by simp) o q, st.2.2⟩
  item := by
    intro X hP hw hK hc i pins s σ H E I hf st hg
    subst hP hw hK
    obtain ⟨⟨od, hE⟩, hI, ne⟩ := st
    obtain ⟨xs, x, hq, hx⟩ := hg
    obtain ⟨its, rv, pt, hz⟩ := I.tuple hq
    have pt : s.heap.IsTuple a its.toArray := pt
    obtain ⟨u, hu, ru⟩ := rv.get hx
    have ai : a ≠ it := by
      rintro rfl
      obtain ⟨o1, q1, c1, _⟩ := pt
      obtain ⟨o2, q2, c2, _⟩ := hI
      rw [q1] at q2; cases q2; exact absurd (Value.type.inj (c1.symm.trans c2)) (by decide)
    have ea : e ≠ a := by
      rintro rfl
      obtain ⟨o1, q1, c1, _⟩ := pt
      rw [hE] at q1; cases q1; exact absurd (Value.type.inj c1) (by decide)
    have le : e < s.heap.objs.size := Heap.lt_size hE
    have li : it < s.heap.objs.size := by obtain ⟨_, q, _⟩ := hI; exact Heap.lt_size q
    have hlt : i < its.toArray.size := by
      have := (List.getElem?_eq_some_iff.mp hu).1
      simpa using this
    refine wpAny_pyNext_enum_itemD (Draws.tuple (A := X.A.in1) (I.ok.hd hc) it a ai its.toArray) hE ⟨hI, pt⟩ hlt ne (by simp [ne, ea]) fun y h1 tk hy hO hI1 hT hsz hk => ?_
    have ey : y = u := by
      have q : its[i]? = some y := by simpa using hy
      rw [hu] at q; cases q; rfl
    subst ey
    refine ⟨_, rfl, wpAny_letOwnedTupleGo_enum (s := { s with heap := h1, toks := tk + 1 }) hO fun h2 hE2 sb => ?_⟩
    have hT2 : h2.get? s.heap.objs.size = some { cls := .type "tuple", data := .seq #[.int i tk, y] } := (sb.2 _ (Nat.ne_of_gt le)).trans hT
    have new : ObjOk X.prog X.w (upd H s.heap.objs.size (.tup [.int (i : Nat), x])) h2 s.heap.objs.size (.tup [.int (i : Nat), x]) :=
      ⟨by show 2 ≤ sizeLine; decide, [.int i tk, y], .cons ⟨_, rfl⟩ (.cons ru .nil), ⟨_, hT2, rfl, _, rfl⟩⟩
    have I2 : Inv X pins σ (upd H s.heap.objs.size (.tup [.int (i : Nat), x])) { s with heap := h2, toks := tk + 1 } :=
      I.turnedNew (ch := [e, it]) (fun b ob hb q => (sb.2 b fun z => hb (by simp [z])).trans (hk b ob (fun z => hb (by simp [z])) (fun z => hb (by simp [z])) q)) hf (Nat.le_refl _) new
    refine ⟨.ref s.heap.objs.size, _, I2, rfl, ⟨_, x, rfl, I.hok.fresh (Nat.le_refl _), rfl, fun ys hy => by rw [I.tuple_inj hy hq]; exact hx⟩, ⟨⟨y, ?_⟩, hI1.1.at fun o q => (sb.2 it ne.symm).trans q, ne⟩, fun b hb => ?_⟩
    · rw [show ((i + 1 : Nat) : Int) = (i : Int) + 1 by omega]; exact hE2
    · have lb : b < s.heap.objs.size := by
        rcases (show b = e ∨ b = it by simpa using hb) with rfl | rfl
        · exact le
        · exact li
      rw [upd_ne (Nat.ne_of_lt lb)]
      exact (hf b hb).1
  done := by
    intro X hP hw hK hc i pins s σ H E I hf st hg
    subst hP hw hK
    obtain ⟨⟨od, hE⟩, hI, ne⟩ := st
    obtain ⟨xs, hq, hx⟩ := hg
    obtain ⟨its, rv, pt, hz⟩ := I.tuple hq
    have pt : s.heap.IsTuple a its.toArray := pt
    have ai : a ≠ it := by
      rintro rfl
      obtain ⟨o1, q1, c1, _⟩ := pt
      obtain ⟨o2, q2, c2, _⟩ := hI
      rw [q1] at q2; cases q2; exact absurd (Value.type.inj (c1.symm.trans c2)) (by decide)
    obtain ⟨f0, f1, f2, f3, f4, f5⟩ := hf it (by simp)
    have hl := rv.length
    have hx0 : its.toArray[i]? = none := by simp; omega
    refine wpAny_pyNext_enum_endD (drawsEnd (A := X.A.in1) (I.ok.hd hc) it a its.toArray i hx0) hE ⟨rfl, hI, pt⟩ fun h' eb => ⟨rfl, I.turned (t' := s.toks) (fun b o hb q => eb b o hb q) f0 f1 f3 f4 f5⟩
  self := fun A i s Q E st h => wpAny_pyIter_enum st.1.choose_spec h
end DD
namespace DD
open PySem PySem.Spec PyProof.Rows L2
section
variable {p g : Bool} {X : Cx} {ρ : Rho} {Q : D → Rho → Prop} {E : DE} {pos : Pos} {QI : List D → Rho → Prop}
def iEnuT (K : PySem.W.Frag) (ta : TA) : TI := fun σ H R => ta σ H fun vs H1 => ∃ a xs, vs = [.ref a] ∧ SqT K H1 a xs ∧ R (ItEnuT K a) H1
theorem pi_enuT {e : Expr} {ta : TA} {pp tpos : Pos} {elts : List Expr} {kk : Nat} (hg : Gl X "enumerate") (hm : X.mg "enumerate" = none) (ha : PA X [e] ta) (hs : starEach [e] X.env = [(false, eval e X.env)] := by rfl) :
    PI X (.Tuple elts kk tpos) (.Call (.Name "enumerate" pp) [e] [] pos) (iEnuT X.K ta) := by
  refine ⟨fun pins s σ H R I hyp => ?_⟩
  refine Call_ (ld_blt I hg hm boot_enumerate (PyProof.Rows.callWith_type1 (thn (ha.run pos pins s σ H _ I hyp) fun us s1 ⟨vs, H1, I1, r1, q1⟩ => ?_) hs rfl))
  obtain ⟨a, xs, rfl, hq, q⟩ := q1
  obtain ⟨u, rfl, ru⟩ := vals1 r1
  cases ru
  obtain ⟨its, rv, pt, hz⟩ := I1.tuple hq
  refine enuT_call (show s1.heap.IsTuple a its.toArray from pt) fun h' hE hI hk => wpAny_pyIter_enum hE ?_
  have I2 : Inv X pins σ H1 { s1 with heap := h' } := I1.kept (t' := s1.toks) hk
  refine ⟨s1.heap.objs.size + 1, [s1.heap.objs.size + 1, s1.heap.objs.size], _, _, H1, rfl, I2, turn_enuT a (s1.heap.objs.size + 1) s1.heap.objs.size, ⟨⟨.none, hE⟩, hI, Nat.succ_ne_self _⟩, fun b hb => ?_, q⟩
  have le : s1.heap.objs.size ≤ b := by
    rcases (show b = s1.heap.objs.size + 1 ∨ b = s1.heap.objs.size by simpa using hb) with z | z
    · rw [z]; exact Nat.le_add_right _ 1
    · rw [z]; exact Nat.le_refl _
  exact I1.fpOk le (I1.hok.fresh le)
theorem walk_enuT {K : PySem.W.Frag} {a : Addr} {xs : List V} : Walk (ItEnuT K a) xs.length (fun H => SqT K H a xs) (YPair (fun i => some (.int (i : Nat))) (fun i => xs[i]?)) where
  goes := fun i H hi q => ⟨xs, xs[i], q, List.getElem?_eq_getElem hi⟩
  stops := fun H q => ⟨xs, q, Nat.le_refl _⟩
  yields := fun i H v H' _ q y => by
    obtain ⟨T, x, z1, z2, z3, z4⟩ := y
    exact ⟨T, .int (i : Nat), x, z1, z2, z3, rfl, z4 xs q⟩
theorem wi_enuT {a : Expr} {elts : List Expr} {kk : Nat} {pp tpos : Pos} (hg : Gl X "enumerate") (hm : X.mg "enumerate" = none) (h : WA p true X [a] ρ fun ds ρ' => ∃ xs, ds = [.tup xs] ∧ QI (((rng 0 xs.length).zip xs).map fun q => D.tup [q.1, q.2]) ρ')
    (hs : starEach [a] X.env = [(false, eval a X.env)] := by rfl) : WI p X (.Tuple elts kk tpos) (.Call (.Name "enumerate" pp) [a] [] pos) ρ QI := fun B σ G H S R r => by
  refine wI_of (pi_enuT hg hm pa_w hs) ?_
  refine h B σ G H S _ fun vs ds ρ' G' H' q S' x pu i => ?_
  obtain ⟨xs, rfl, q⟩ := q
  obtain ⟨v, rfl, l1, as, rfl, e2, e3⟩ := isA_one i
  refine ⟨l1, as, rfl, .inl (.inl (S'.ex _ _ e2)), r _ _ ρ' G' H' q S' x pu ?_⟩
  refine walkD_pair (n := as.length) (by rw [rng_len, e3.length, Nat.min_self]) walk_enuT (fun H h => .inl (.inl (h _ _ e2))) (fun i d hd => ?_) (fun i d hd => e3.get hd)
  obtain ⟨_, rfl⟩ := rng_get hd
  exact ⟨_, rfl, by show V.int _ = V.int _; rw [Int.zero_add]⟩
/-! ### sorted of a tuple of whole numbers -/
theorem cr_sortedT : CallR X (.builtin "sorted") (fun vs H Q => ∃ (a : Addr) (ns : List Int), vs = [V.ref a] ∧ SqT X.K H a (ns.map V.int) ∧ ns.length < 64 ∧ ∀ (ms : List Int) (b : Addr), ms.Perm ns → ms.Pairwise (· ≤ ·) → H b = none → Q (.ref b) (upd H b (.lst (ms.map V.int)))) := by
  intro pins s σ H vs us Q I r hyp
  obtain ⟨a, ns, rfl, hq, h64, q⟩ := hyp
  obtain ⟨u, rfl, ru⟩ := vals1 r
  cases ru
  obtain ⟨its, rv, pt, hz⟩ := I.tuple hq
  have pt : s.heap.IsTuple a its.toArray := pt
  have li : its.length = ns.length := by rw [← rv.length, List.length_map]
  have isI := rv.ints
  refine Calls.call_function_entry kind_sorted plain_sorted entry_sorted (args_sorted1 _) ?_
  unfold Builtin.«sorted»
  refine wpAny_bind (m := checkCount "sorted" 1 1 _) (wpAny_pure ?_)
  obtain ⟨o, ho, hc, n, hd⟩ := pt
  have hzz : its.length ≤ sizeLine := by rw [li, sizeLine_eq]; omega
  refine wpAny_bind (wpAny_collect_seq a (.inr rfl) ho hc hd (fun h1 k1 => ?_) (by rw [List.size_toArray]; exact hzz))
  rw [show its.toArray.toList = its by simp]
  refine wpAny_bind (wpAny_newList ?_ hzz)
  have I1 : Inv X pins σ H { s with heap := h1 } := I.kept (t' := s.toks) k1
  have nw : (h1.push (seqObj "list" its.toArray 0)).get? h1.objs.size = some (seqObj "list" its.toArray 0) := Heap.get?_push_size _ rfl
  show wpAny _ _ _ _ _ { s with heap := h1.push (seqObj "list" its.toArray 0) }
  refine wpAny_bind (wpAny_holding (wpAny_call_entry slot_list_sort ⟨_, nw, rfl⟩ entry_list_sort (list_sort_tree (s := { s with heap := h1.push (seqObj "list" its.toArray 0) }) nw isI (by rw [li]; exact h64) fun out ms g1 g2 g3 => ⟨_, rfl, ?_⟩) (args_list_sort _)))
  obtain ⟨ep, ha⟩ := sortedHeap_at (vs := its) (out := out) nw
  have lm : (ms.map V.int).length ≤ sizeLine := by rw [List.length_map, g2.length_eq, sizeLine_eq]; omega
  refine wpAny_pure ⟨_, rfl, .ref h1.objs.size, upd H h1.objs.size (.lst (ms.map V.int)), I1.laid (t' := s.toks) (fun b u e => ?_) (Nat.le_refl _) (show ObjOk X.prog X.w _ _ _ (.lst (ms.map V.int)) from ⟨lm, out.toList, ep, vals_of_ints g1, by rw [Array.toArray_toList]; exact ha⟩), rfl, q ms _ g2 g3 (I1.hok.fresh (Nat.le_refl _))⟩
  have lb : b < h1.objs.size := Heap.lt_size e
  rw [sortedHeap_old (Nat.ne_of_lt lb) (by rw [size_push']; exact Nat.lt_succ_of_lt lb)]
  exact Heap.get?_push_of_some _ e
theorem c_sortedT {g : Bool} {Z : D → Prop} {ns : List Int} (h64 : ns.length < 64) (q : ∀ ms : List Int, ms.Perm ns → ms.Pairwise (· ≤ ·) → Z (.lst (ms.map D.int))) : OpC g X (.builtin "sorted") [.tup (ns.map D.int)] Z := by
  intro G H vs R ex i k
  obtain ⟨v, rfl, a, xs, rfl, e2, e3⟩ := isA_one (isA_any ex i)
  have e4 := e3.ints
  subst e4
  refine ⟨_, cr_sortedT, a, ns, rfl, .inl (.inl e2), h64, fun ms b pm pw hb => ?_⟩
  have gr := Grow.new (o := .lst (ms.map V.int)) ex hb
  exact k _ (.lst (ms.map D.int)) _ _ (q ms pm pw) gr ⟨b, _, rfl, upd_same, IsA.of_ints⟩
/-! ### list(range(n)) -/
theorem w_listRg {a : Expr} {p1 p2 p3 : Pos} (hml : X.mg "list" = none) (hmr : X.mg "range" = none) (hc : X.calm = true) (h : W p false X a ρ fun d ρ' => ∃ n : Int, d = .int n ∧ (0 ≤ n ∧ n ≤ 1000000) ∧ Q (.lst (rng 0 n.toNat)) ρ')
    (hg1 : Gl X "list" := by rfl) (hg2 : Gl X "range" := by rfl) (n1 : starEach [a] X.env = (false, eval a X.env) :: starEach [] X.env := by rfl)
    (n2 : starEach [.Call (.Name "range" p2) [a] [] p3] X.env = (false, eval (.Call (.Name "range" p2) [a] [] p3) X.env) :: starEach [] X.env := by rfl) : W p g X (.Call (.Name "list" p1) [.Call (.Name "range" p2) [a] [] p3] [] pos) ρ Q := fun B σ G H S R r => by
  refine wE_of (pe_listRg hc hg1 hml (prg_1 hg2 hmr pe_w n1) n2) ?_
  refine h B σ G H S _ fun v d ρ' G' H' q S' x pu i => ?_
  obtain ⟨n, rfl, ⟨b0, b1⟩, q⟩ := q
  cases (i : v = .int n)
  refine ⟨n, rfl, ⟨by omega, by omega, by omega, by omega, by omega⟩, fun c hcn => ?_⟩
  have gr := Grow.new (o := .lst (rgV 0 n)) S'.ex hcn
  refine r _ (.lst (rng 0 n.toNat)) ρ' _ _ q (S'.grow gr) (x.trans gr.g) (fun z => ⟨(pu z).1, (pu z).2.trans gr⟩) (is_h (S'.grow gr) ⟨c, _, rfl, upd_same, ?_⟩)
  have e : rng 0 n.toNat = ((List.range n.toNat).map fun i : Nat => (0 : Int) + i).map D.int := by unfold rng; rw [List.map_map]; rfl
  have e2 : rgV 0 n = ((List.range n.toNat).map fun i : Nat => (0 : Int) + i).map V.int := by unfold rgV; rw [List.map_map, show (n - 0).toNat = n.toNat by omega]; rfl
  rw [e, e2]
  exact IsA.of_ints
end
end DD
namespace DD
open PySem PySem.Spec PyProof.Rows L2
/-! ### dict comprehensions whose keys are whole numbers -/
section
variable {p g : Bool} {X : Cx} {ρ : Rho} {Q : D → Rho → Prop} {E : DE} {pos : Pos}
/-- the dict so far -/
def putAll (kvs : List (Key × D)) : List (Int × D) → List (Key × D)
  | [] => kvs
  | (i, d) :: r => putAll (putD kvs (.inl i) d) r
theorem putAll_snoc (i : Int) (d : D) : ∀ (r : List (Int × D)) (kvs : List (Key × D)), putAll kvs (r ++ [(i, d)]) = putD (putAll kvs r) (.inl i) d
  | [], _ => rfl
  | (j, e) :: r, kvs => putAll_snoc i d r _
theorem putD_len (kvs : List (Key × D)) (k : Key) (d : D) : (putD kvs k d).length ≤ kvs.length + 1 := by
  unfold putD
  split
  · rw [List.length_map]; exact Nat.le_succ _
  · rw [List.length_append]; exact Nat.le_refl _
theorem putAll_len : ∀ (r : List (Int × D)) (kvs : List (Key × D)), (putAll kvs r).length ≤ kvs.length + r.length
  | [], _ => Nat.le_refl _
  | (i, d) :: r, kvs => by
    have a := putAll_len r (putD kvs (.inl i) d)
    have b := putD_len kvs (.inl i) d
    show (putAll (putD kvs (.inl i) d) r).length ≤ kvs.length + (r.length + 1)
    omega
def DcW (G1 H1 : Hp) (A : Addr) (kvs : List (Key × D)) (Hc : Hp) : Prop := H1 A = none ∧ ∃ Gi ks, Hc A = some (.dK ks) ∧ Gi A = none ∧ Grow G1 H1 Gi Hc ∧ IsK Gi kvs ks
theorem dc_go {B : Base} {σ : L2.St} {G1 H1 : Hp} {J : It} {ds : List D} {T : Tg} {tk tv : TE} {vs : List Nat} {Qd : V → Hp → Prop} (S : Sta B σ ρ G1 H1) (w : WalkD G1 J ds) (hT : ∀ i ∈ T.slots, i ∈ vs)
    (fk : D → Int) (fv : D → D) (hlen : ds.length ≤ 40000)
    (turn : ∀ d ∈ ds, ∃ ρi, T.eff d (wipeR ρ vs) = some ρi ∧ (∀ σ' G H, Sta B σ' ρi G H → ∀ R : VK, (∀ v G' H', Sta B σ' ρi G' H' → Grow G H G' H' → Is G' (.int (fk d)) v → R v H') → tk σ' H R) ∧
      (∀ σ' G H, Sta B σ' ρi G H → ∀ R : VK, (∀ v G' H', Sta B σ' ρi G' H' → Grow G H G' H' → Is G' (fv d) v → R v H') → tv σ' H R))
    (hd : ∀ a G' H', Grow G1 H1 G' H' → Is G' (.dic (putAll [] (ds.map fun d => (fk d, fv d)))) (.ref a) → Qd (.ref a) H') (A : Addr) (hA : H1 A = none) :
    ∃ W : Nat → Nat → Hp → Prop, (∃ m, W 0 m (L2.upd H1 A (.dK []))) ∧ ∀ i m H, W i m H →
      (J.stop i H ∧ Qd (.ref A) H) ∨ (J.go i H ∧ ∃ Nx : Hp → Prop, (∀ H', Nx H' → ∃ m', m' < m ∧ W (i + 1) m' H') ∧ ∀ x H', J.yld i H x H' → T.g X.K x (wipe σ vs) H' fun σ2 H2 => wipe σ2 vs = wipe σ vs ∧ tYes σ2 H2 fun b H3 =>
        if b = true then tk σ2 H3 fun y H4 => tv σ2 H4 fun z H5 => ∃ kvs k, y = kV k ∧ H5 A = some (.dK kvs) ∧ kvs.length < sizeLine ∧ Nx (L2.upd H5 A (.dK (putK kvs k z))) else Nx H3) := by
  refine it_go w (fun i H => DcW G1 H1 A (putAll [] ((ds.take i).map fun d => (fk d, fv d))) H) ?_ (fun i H _ h => ?_) (fun i x H H' hi h y => ?_) fun H h => ?_
  · refine ⟨hA, G1, [], upd_same, ?_, Grow.own S.ex hA, rfl⟩
    cases r : G1 A with
    | none => rfl
    | some u => rw [S.ex A u r] at hA; cases hA
  · obtain ⟨_, Gi, ks, _, _, gr, _⟩ := h
    exact gr.g.trans gr.x
  · obtain ⟨_, Gi, ks, hks, gA, gr, ik⟩ := h
    have hget : ds[i]? = some ds[i] := List.getElem?_eq_getElem hi
    obtain ⟨G2, gr2, ix⟩ := y _ hget Gi gr.g gr.x
    obtain ⟨ρi, he, hk, hv⟩ := turn ds[i] (List.getElem_mem hi)
    have g2 := g_none gr2 gA hks
    have h2 := gr2.h _ _ hks
    refine Tg.run he ((S.grow (gr.trans gr2)).wipe vs) ix (fun σ' S' hwp => ?_) (fun τ us j o hj => wipe_set τ us j o hj)
    refine ⟨(hwp vs hT).trans (wipe_idem σ vs), ?_⟩
    show tk σ' H' _
    refine hk σ' G2 H' S' _ fun u G3 H3 S3 gr3 iu => ?_
    refine hv σ' G3 H3 S3 _ fun v G4 H4 S4 gr4 iv => ?_
    cases (iu : u = .int (fk ds[i]))
    have g3 := g_none gr3 g2 h2
    have h3 := gr3.h _ _ h2
    have g4 := g_none gr4 g3 h3
    have h4 := gr4.h _ _ h3
    have lk : ks.length < sizeLine := by
      rw [ik.length]
      refine Nat.lt_of_le_of_lt (putAll_len _ _) ?_
      rw [List.length_map, List.length_take, sizeLine_eq]
      show (0 : Nat) + min i ds.length < _
      omega
    refine ⟨ks, .inl (fk ds[i]), rfl, h4, lk, ?_⟩
    have et : ds.take (i + 1) = ds.take i ++ [ds[i]] := by rw [List.take_add_one, hget]; rfl
    show DcW G1 H1 A (putAll [] ((ds.take (i + 1)).map fun d => (fk d, fv d))) _
    rw [et, List.map_append, List.map_cons, List.map_nil, putAll_snoc]
    have gt := ((gr.trans gr2).trans gr3).trans gr4
    refine ⟨hA, G4, _, upd_same, g4, ⟨gt.g, fun a o e => ?_, fun a o e => ?_, gt.n⟩, ?_⟩
    · have q : a ≠ A := by rintro rfl; rw [hA] at e; cases e
      rw [upd_ne q]; exact gt.h a o e
    · have q : a ≠ A := by rintro rfl; rw [g4] at e; cases e
      rw [upd_ne q]; exact gt.x a o e
    · exact (IsK.mono ((gr2.g.trans gr3.g).trans gr4.g) _ _ ik).put iv
  · obtain ⟨_, Gi, ks, hks, gA, gr, ik⟩ := h
    rw [List.take_length] at ik
    have ex := Ex.new (o := HO.dK ks) gA
    refine hd A (L2.upd Gi A (.dK ks)) H ⟨gr.g.trans ex, gr.h, fun a o e => ?_, fun a o e => ?_⟩ ⟨A, ks, rfl, upd_same, IsK.mono ex _ _ ik⟩
    · by_cases q : a = A
      · subst q; rw [upd_same] at e; rw [hks]; exact e
      · rw [upd_ne q] at e; exact gr.x a o e
    · by_cases q : a = A
      · subst q; exact .inr hA
      · rw [upd_ne q] at e; exact gr.n a o e
variable {N ps : List Str} {sc scope : Scope} {x y : Str} {kx vx iter : Expr} {px py pt : Pos} {kk : Nat}
abbrev P2D (p : Bool) (X : Cx) (scope : Scope) (i j : Nat) (x y : Str) (px py pt : Pos) (kk : Nat) (iter kx vx : Expr) (fk : D → Int) (fv : D → D) (ρ : Rho) (Q : D → Rho → Prop) : Prop :=
  WI p X (.Tuple [.Name x px, .Name y py] kk pt) iter ρ fun ds ρ1 => ds.length ≤ 40000 ∧ (∀ d ∈ ds, ∃ a b, d = .tup [a, b] ∧ ∀ s H C cl fp, W true true (Blk X scope s H C cl fp) kx ((((ρ1.set j .un).set i .un).set i (.val a)).set j (.val b)) (fun z _ => z = .int (fk d)) ∧
    W true true (Blk X scope s H C cl fp) vx ((((ρ1.set j .un).set i .un).set i (.val a)).set j (.val b)) fun z _ => z = fv d) ∧ Q (.dic (putAll [] (ds.map fun d => (fk d, fv d)))) ρ1
/-- {k: v for x, y in iter} -/
theorem dc2 (i j : Nat) (fk : D → Int) (fv : D → D) (S0 : FnScope N ps sc) (h : P2D p X scope i j x y px py pt kk iter kx vx fk fv ρ Q) (hXN : X.N = N := by rfl) (hbk : blkC X.N X.env.scope scope [(x, i), (y, j)] = true := by kernel_rfl) (hi : X.N[i]? = some x := by rfl) (hj : X.N[j]? = some y := by rfl)
    (hl : Loc1 X scope x := by intro _ _ _ _ _; first | exact ⟨.inl rfl, .inr rfl⟩ | exact ⟨.inr rfl, .inl rfl⟩) (hl2 : Loc1 X scope y := by intro _ _ _ _ _; first | exact ⟨.inl rfl, .inr rfl⟩ | exact ⟨.inr rfl, .inl rfl⟩) (h2 : Two X scope x y px py := by intro _ _ _ _ _; exact ⟨rfl, rfl, rfl, rfl⟩)
    (hc : X.calm = true := by rfl) (hs : ∀ x, foldedSetIterable iter X.env x = pure x := by intro _; rfl) :
    W p g X (.DictComp kx vx [⟨.Tuple [.Name x px, .Name y py] kk pt, iter, [], 0⟩] scope pos) ρ Q := fun B σ G H S R r => by
  refine wE_of (pe_dc (own := [(x, i), (y, j)]) hc (hXN ▸ S0.nd) pi_w (blkOk_by hbk) (pg2 S0 hXN hc hi hl hj hl2 h2) (fun _ _ _ _ _ => pts_nil) pe_c pe_c hs) ?_
  refine h B σ G H S _ fun J ds ρ1 G1 H1 q S1 z pu wk A hA => ?_
  obtain ⟨hl, turn, q⟩ := q
  refine dc_go (X := X) (Qd := R) S1 wk (T := .two i j) (fun k hk => hk) fk fv hl (fun d hd => ?_) (fun a G' H' gr ii => ?_) A hA
  · obtain ⟨a, b, rfl, hw⟩ := turn d hd
    refine ⟨_, rfl, fun σ' G2 H2 S2 R2 r2 s H0 C cl fp => ?_, fun σ' G2 H2 S2 R2 r2 s H0 C cl fp => ?_⟩
    · refine (hw s H0 C cl fp).1 B σ' G2 H2 S2 R2 fun v y ρ3 G3 H3 e S3 x3 p3 i3 => ?_
      subst e
      have e3 := (p3 rfl).1
      subst e3
      exact r2 v G3 H3 S3 (p3 rfl).2 i3
    · refine (hw s H0 C cl fp).2 B σ' G2 H2 S2 R2 fun v y ρ3 G3 H3 e S3 x3 p3 i3 => ?_
      subst e
      have e3 := (p3 rfl).1
      subst e3
      exact r2 v G3 H3 S3 (p3 rfl).2 i3
  · exact r _ _ ρ1 G' H' q (S1.grow gr) (z.trans gr.g) (fun z => ⟨(pu z).1, (pu z).2.trans gr⟩) (is_h (S1.grow gr) ii)
/-- d.get(e, f), d read -/
theorem w_dget {o e f : Expr} {apos : Pos} (hu : X.A.units + 1 < cLine) (h : W p true X o ρ fun d ρ1 => ∃ kvs, d = .dic kvs ∧ W p true X e ρ1 fun k ρ2 => ∃ n, k = .int n ∧ W p true X f ρ2 fun z ρ3 => Q ((lookD kvs (.inl n)).getD z) ρ3)
    (hbase : attributeBase o "get" X.env (eval o X.env) = eval o X.env := by rfl)
    (few : ((backTo pos (starEach [e, f] X.env)).all (fun x => !x.1) && (backToKw pos (keywordEach [] X.env)).all (fun x => x.1.isSome) && decide (([e, f] : List Expr).length + ([] : List Keyword).length + (if ([] : List Keyword).isEmpty then 0 else 1) < 30)) = true := by rfl)
    (hline : (apos.endLine == pos.line) = true := by rfl) (htr : backTo pos (starEach [e, f] X.env) = [(false, eval e X.env), (false, eval f X.env)] := by rfl) : W p g X (.Call (.Attribute o "get" apos) [e, f] [] pos) ρ Q := fun B σ G H S R r => by
  refine wE_of (pe_dget2 hu pe_w pe_w pe_w ⟨hbase, few, hline, htr⟩) ?_
  refine h B σ G H S _ fun v d ρ1 G1 H1 q S1 y1 p1 i1 => ?_
  obtain ⟨kvs, rfl, q⟩ := q
  obtain ⟨a, ks, rfl, e2, e3⟩ := i1
  refine ⟨a, rfl, .inl ⟨ks, .inl (S1.ex _ _ e2)⟩, ?_⟩
  refine q B σ G1 H1 S1 _ fun v k ρ2 G2 H2 q2 S2 y2 p2 i2 => ?_
  obtain ⟨n, rfl, q2⟩ := q2
  cases (i2 : v = .int n)
  refine q2 B σ G2 H2 S2 _ fun u z ρ3 G3 H3 q3 S3 y3 p3 i3 => ?_
  have yy := y2.trans y3
  refine ⟨valV ks (.inl n), DGet.k (k := Sum.inl n) (S3.ex _ _ (yy _ _ e2)), ?_⟩
  have e3' := IsK.mono yy _ _ e3
  refine r _ _ ρ3 G3 H3 q3 S3 (y1.trans yy) (fun w => ⟨((p3 w).1.trans (p2 w).1).trans (p1 w).1, ((p1 w).2.trans (p2 w).2).trans (p3 w).2⟩) (is_h S3 ?_)
  rcases e3'.val (k := Sum.inl n) with ⟨d, v, a1, a2, a3⟩ | ⟨a1, a2⟩
  · unfold lookD; rw [a1, a2]; exact a3
  · unfold lookD; rw [a1, a2]; exact i3
end
end DD
namespace DD
open PySem PySem.Spec PyProof.Rows L2
section
variable {p g : Bool} {X : Cx} {ρ : Rho} {Q : D → Rho → Prop} {E : DE} {pos : Pos} {N ps : List Str} {sc scope : Scope} {x y z : Str} {kx vx iter : Expr} {px py pt pz spos : Pos} {kk : Nat}
/-- name = {k: v for ..} -/
theorem ps_setDc {l : Nat} {tg : Expr} {own : List (Str × Nat)} {wi : TI} {gg : TG} {tt : TT} {tk tv : TE} (hc : X.calm = true) (hN : X.N.Nodup) (hz : X.N[l]? = some z) (hzl : X.env.scope.names.lookup z = some .local)
    (sw : swapsWith (.DictComp kx vx [⟨tg, iter, [], 0⟩] scope pos) (some (.Name z pz)) spos.line X.env = pure true) (hi : PI X tg iter wi) (ok : BlkOk X.N X.env.scope scope own)
    (h1 : ∀ s H C cl fp, PG (Blk X scope s H C cl fp) tg gg) (h2 : ∀ s H C cl fp, PTs (Blk X scope s H C cl fp) [] tt) (h3 : ∀ s H C cl fp, PE (Blk X scope s H C cl fp) kx tk) (h4 : ∀ s H C cl fp, PE (Blk X scope s H C cl fp) vx tv)
    (hs : ∀ x, foldedSetIterable iter X.env x = pure x) : PS X (.Assign [.Name z pz] (.DictComp kx vx [⟨tg, iter, [], 0⟩] scope pos) spos) (tAsg (tDc wi gg tt tk tv (own.map (·.2))) (gName l)) := by
  refine ⟨fun pins s σ H D I hyp => ?_⟩
  rw [exec_Assign_Name_used _ _ _ _ sw]
  refine wpAny_bind (wpAny_standAt (wpAny_bind ?_))
  show wpAny _ X.A (do let _ ← comprehension (.DictComp kx vx [⟨tg, iter, [], 0⟩] scope pos) scope X.env (firstIterPos [⟨tg, iter, [], 0⟩] pos) newDict false (eval iter X.env) (some (assign (.Name z pz) X.env))) _ _ s
  have hyp : tDc wi gg tt tk tv (own.map (·.2)) σ H (fun x H1 => gName l x σ H1 D.nx) := hyp
  refine wpAny_bind (thn (dc_core (Qf := fun _ s' => SP X pins D .next s') hc hN I hi ok h1 h2 h3 h4 hs hyp fun A C s' m H' I' q hn fp => ?_) fun _ s' hq => wpAny_pure (wpAny_pure hq))
  show wpAny _ _ (assign (.Name z pz) X.env (.ref A)) _ _ _
  obtain ⟨f0, f1, f2, f3, f4, f5⟩ := fp
  refine wpAny_assign_Name (store_ok2 (v := V.ref A) I' hN hz (.inl hzl) rfl (fun s2 I2 ⟨a, sb, ha⟩ => ?_) (.inr hzl))
  have neq : C ≠ a := ha.elim (fun e => e ▸ f1) fun e q => f4 z a e q.symm
  exact ⟨m, hn.sameBut sb neq, fun h3 sb3 => ⟨_, H', I2.turned (t' := s2.toks) (fun b o hb e => (sb3.2 b hb).trans e) f0 f1 f3 f4 f5, q⟩⟩
theorem sw_dict {gs : List Comprehension} {n : Nat} {env : Env} (hk : env.scope.kind = .function) (hz : env.scope.names.lookup z = some .local) (hl : (pz.line == pos.line) = true)
    (ha : (scope.names.any fun (n, k) => n == z && (k == .local || k == .cell)) = false) : swapsWith (.DictComp kx vx gs scope pos) (some (.Name z pz)) n env = pure true := by
  have q1 : env.kindOf z = some .local := hz
  have q2 : env.blockKind = .function := by unfold Env.blockKind; rw [hk]; rfl
  unfold swapsWith
  simp only [q1, q2, ha, Expr.pos, hl]
  rfl
theorem x2D {i j : Nat} {fk : D → Int} {fv : D → D} (h : P2D p X scope i j x y px py pt kk iter kx vx fk fv ρ Q) : WX p g (tDc (wI X (.Tuple [.Name x px, .Name y py] kk pt) iter) ((Tg.two i j).g X.K) tYes (cE X scope kx) (cE X scope vx) [i, j]) ρ Q := fun B σ G H S R r => by
  refine h B σ G H S _ fun J ds ρ1 G1 H1 q S1 z pu wk A hA => ?_
  obtain ⟨hl, turn, q⟩ := q
  refine dc_go (X := X) (Qd := R) S1 wk (T := .two i j) (fun k hk => hk) fk fv hl (fun d hd => ?_) (fun a G' H' gr ii => ?_) A hA
  · obtain ⟨a, b, rfl, hw⟩ := turn d hd
    refine ⟨_, rfl, fun σ' G2 H2 S2 R2 r2 s H0 C cl fp => ?_, fun σ' G2 H2 S2 R2 r2 s H0 C cl fp => ?_⟩
    · refine (hw s H0 C cl fp).1 B σ' G2 H2 S2 R2 fun v y ρ3 G3 H3 e S3 x3 p3 i3 => ?_
      subst e
      have e3 := (p3 rfl).1
      subst e3
      exact r2 v G3 H3 S3 (p3 rfl).2 i3
    · refine (hw s H0 C cl fp).2 B σ' G2 H2 S2 R2 fun v y ρ3 G3 H3 e S3 x3 p3 i3 => ?_
      subst e
      have e3 := (p3 rfl).1
      subst e3
      exact r2 v G3 H3 S3 (p3 rfl).2 i3
  · exact r _ _ ρ1 G' H' q (S1.grow gr) (z.trans gr.g) (fun z => ⟨(pu z).1, (pu z).2.trans gr⟩) (is_h (S1.grow gr) ii)
/-- z = {k: v for x, y in iter} -/
theorem s_dc2 (l i j : Nat) (fk : D → Int) (fv : D → D) (S0 : FnScope N ps sc) (h : P2D false X scope i j x y px py pt kk iter kx vx fk fv ρ fun d ρ' => E.nx (ρ'.set l (.val d))) (hXN : X.N = N := by rfl) (hbk : blkC X.N X.env.scope scope [(x, i), (y, j)] = true := by kernel_rfl) (hi : X.N[i]? = some x := by rfl) (hj : X.N[j]? = some y := by rfl)
    (hl : Loc1 X scope x := by intro _ _ _ _ _; first | exact ⟨.inl rfl, .inr rfl⟩ | exact ⟨.inr rfl, .inl rfl⟩) (hl2 : Loc1 X scope y := by intro _ _ _ _ _; first | exact ⟨.inl rfl, .inr rfl⟩ | exact ⟨.inr rfl, .inl rfl⟩) (h2 : Two X scope x y px py := by intro _ _ _ _ _; exact ⟨rfl, rfl, rfl, rfl⟩)
    (hc : X.calm = true := by rfl) (hs : ∀ x, foldedSetIterable iter X.env x = pure x := by intro _; rfl) (hz : X.N[l]? = some z := by rfl) (hzl : X.env.scope.names.lookup z = some .local := by rfl)
    (hsw : swapsWith (.DictComp kx vx [⟨.Tuple [.Name x px, .Name y py] kk pt, iter, [], 0⟩] scope pos) (some (.Name z pz)) spos.line X.env = pure true := by exact sw_dict rfl rfl rfl (by decide +kernel)) :
    WS X (.Assign [.Name z pz] (.DictComp kx vx [⟨.Tuple [.Name x px, .Name y py] kk pt, iter, [], 0⟩] scope pos) spos) ρ E :=
  s_setX (ps_setDc (own := [(x, i), (y, j)]) hc (hXN ▸ S0.nd) hz hzl hsw pi_w (blkOk_by hbk) (pg2 S0 hXN hc hi hl hj hl2 h2) (fun _ _ _ _ _ => pts_nil) pe_c pe_c hs) (x2D h)
end
end DD

namespace DD
open PySem PySem.Spec PyProof.Rows L2
/-! ### the pot -/
section
variable {p g : Bool} {X : Cx} {ρ : Rho} {Q : D → Rho → Prop} {E : DE} {pos : Pos}
theorem w_pot0 (i : Nat) {x : Str} {lc : Bool} {p1 p2 : Pos} {j : Nat} (hr : ρ[i]? = some (.own lc .pot)) (q : ∀ a : Int, 0 ≤ a → Q (.int a) ρ)
    (hN : X.N[i]? = some x := by rfl) (hv : Vis X.env.scope x := by first | exact .inl rfl | exact .inr (.inl rfl) | exact .inr (.inr rfl)) (hd : (x == ("__debug__" : Str)) = false := by decide) (hcd : (x == ("__classdict__" : Str)) = false := by decide)
    (hs : PlainIx (.Constant (.int 0) j p2) := by intro _ _; rfl) : W p g X (.Subscript (.Name x p1) (.Constant (.int 0) j p2) pos) ρ Q := fun B σ G H S R r => by
  refine wE_of (pe_ix ix_list pe_w pe_int hs) ?_
  refine own_name hN hv hd hcd hr S fun l el ok => ?_
  obtain ⟨a, b, hl, a0, b0, b1⟩ := ok
  exact ⟨l, _, 0, .int a, rfl, rfl, .inl (.inl hl), rfl, r _ (.int a) ρ G H (q a a0) S (Ex.refl G) (fun _ => ⟨rfl, Grow.refl S.ex⟩) (is_h S rfl)⟩
theorem w_pot1 (i : Nat) {x : Str} {lc : Bool} {p1 p2 : Pos} {j : Nat} (hr : ρ[i]? = some (.own lc .pot)) (q : ∀ b : Int, 0 ≤ b → b < 4294967296 → Q (.int b) ρ)
    (hN : X.N[i]? = some x := by rfl) (hv : Vis X.env.scope x := by first | exact .inl rfl | exact .inr (.inl rfl) | exact .inr (.inr rfl)) (hd : (x == ("__debug__" : Str)) = false := by decide) (hcd : (x == ("__classdict__" : Str)) = false := by decide)
    (hs : PlainIx (.Constant (.int 1) j p2) := by intro _ _; rfl) : W p g X (.Subscript (.Name x p1) (.Constant (.int 1) j p2) pos) ρ Q := fun B σ G H S R r => by
  refine wE_of (pe_ix ix_list pe_w pe_int hs) ?_
  refine own_name hN hv hd hcd hr S fun l el ok => ?_
  obtain ⟨a, b, hl, a0, b0, b1⟩ := ok
  exact ⟨l, _, 1, .int b, rfl, rfl, .inl (.inl hl), rfl, r _ (.int b) ρ G H (q b b0 b1) S (Ex.refl G) (fun _ => ⟨rfl, Grow.refl S.ex⟩) (is_h S rfl)⟩
theorem pot_put {B : Base} {σ : L2.St} {G H : Hp} (S : Sta B σ ρ G H) {i : Nat} {lc : Bool} {l : Addr} {a b : Int} (hr : ρ[i]? = some (.own lc .pot)) (el : σ[i]? = some (some (.ref l))) (a0 : 0 ≤ a) (b0 : 0 ≤ b) (b1 : b < 4294967296) : Sta B σ ρ G (L2.upd H l (.lst [.int a, .int b])) := by
  obtain ⟨m, em, gl, _, _⟩ := S.ownAt hr
  have : m = l := by rw [el] at em; cases em; rfl
  subst this
  refine S.growP (l := m) ⟨Ex.refl _, fun c o e ne => by rw [upd_ne ne]; exact e, fun c o e => ?_, fun c o e => .inl e, a, b, upd_same, a0, b0, b1⟩ hr el
  have ne : c ≠ m := by rintro rfl; rw [gl] at e; cases e
  rw [upd_ne ne]; exact S.ex c o e
/-- pot[1] = e -/
theorem s_pot1 (i : Nat) {x : Str} {lc : Bool} {e : Expr} {p1 p2 p3 : Pos} {j : Nat} (hr : ρ[i]? = some (.own lc .pot)) (h : W true true X e ρ fun d _ => ∃ n, d = .int n ∧ (0 ≤ n ∧ n < 4294967296) ∧ E.nx ρ)
    (hN : X.N[i]? = some x := by rfl) (hv : Vis X.env.scope x := by first | exact .inl rfl | exact .inr (.inl rfl) | exact .inr (.inr rfl)) (hd : (x == ("__debug__" : Str)) = false := by decide) (hcd : (x == ("__classdict__" : Str)) = false := by decide)
    (hs : swapsWithSole [.Subscript (.Name x p1) (.Constant (.int 1) j p2) p3] e pos.line X.env = pure false := by rfl) (hw : swappedStores [.Subscript (.Name x p1) (.Constant (.int 1) j p2) p3] e X.env = pure none := by rfl)
    (h1 : (assignEach [.Subscript (.Name x p1) (.Constant (.int 1) j p2) p3] X.env).map (·.2) = [assign (.Subscript (.Name x p1) (.Constant (.int 1) j p2) p3) X.env] := by rfl) :
    WS X (.Assign [.Subscript (.Name x p1) (.Constant (.int 1) j p2) p3] e pos) ρ E := fun B σ G H F S L => by
  refine wS_of (ps_asg pe_w (pg_sub pe_w pe_int set_list) hs hw h1) ?_
  refine h B σ G H S _ fun v d ρ' G' H' q S' y pu iv => ?_
  obtain ⟨e1, gr⟩ := pu rfl
  subst e1
  obtain ⟨n, rfl, ⟨n0, n1⟩, q⟩ := q
  cases (iv : v = .int n)
  refine own_name hN hv hd hcd hr S' fun l el ok => ?_
  obtain ⟨a, b, hl, a0, b0, b1⟩ := ok
  exact ⟨l, _, 1, 1, rfl, rfl, hl, rfl, L.nx _ _ G' _ q (pot_put S' hr el a0 n0 n1) y⟩
/-- pot[0], x = e, e a pair -/
theorem s_pot0 (i l : Nat) {x y : Str} {lc : Bool} {e : Expr} {p1 p2 p3 p4 p5 : Pos} {j kk : Nat} (hN : X.N.Nodup) (hc : X.calm = true) (hr : ρ[i]? = some (.own lc .pot)) (h : W true true X e ρ fun d _ => ∃ n m, d = .tup [.int n, .int m] ∧ 0 ≤ n ∧ E.nx (ρ.set l (.val (.int m))))
    (hi : X.N[i]? = some x := by rfl) (hl : X.N[l]? = some y := by rfl) (hy : Loc X.env.scope y := by first | exact .inl rfl | exact .inr rfl) (hf : X.fn y = true ∨ X.env.scope.names.lookup y = some .local := by first | exact .inl rfl | exact .inr rfl)
    (hv : Vis X.env.scope x := by first | exact .inl rfl | exact .inr (.inl rfl) | exact .inr (.inr rfl)) (hd : (x == ("__debug__" : Str)) = false := by decide) (hcd : (x == ("__classdict__" : Str)) = false := by decide)
    (hs : swapsWithSole [.Tuple [.Subscript (.Name x p1) (.Constant (.int 0) j p2) p3, .Name y p4] kk p5] e pos.line X.env = pure false := by rfl) (hw : swappedStores [.Tuple [.Subscript (.Name x p1) (.Constant (.int 0) j p2) p3, .Name y p4] kk p5] e X.env = pure none := by rfl)
    (h1 : (assignEach [.Tuple [.Subscript (.Name x p1) (.Constant (.int 0) j p2) p3, .Name y p4] kk p5] X.env).map (·.2) = [assign (.Tuple [.Subscript (.Name x p1) (.Constant (.int 0) j p2) p3, .Name y p4] kk p5) X.env] := by rfl)
    (t1 : (assignEach [.Subscript (.Name x p1) (.Constant (.int 0) j p2) p3, .Name y p4] X.env).length = 2 := by rfl) (t2 : (assignEach [.Subscript (.Name x p1) (.Constant (.int 0) j p2) p3, .Name y p4] X.env).findIdx? (·.1) = none := by rfl)
    (t3 : (assignEach [.Subscript (.Name x p1) (.Constant (.int 0) j p2) p3, .Name y p4] X.env).map (·.2) = assign (.Subscript (.Name x p1) (.Constant (.int 0) j p2) p3) X.env :: (assignEach [.Name y p4] X.env).map (·.2) := by rfl) (t4 : (assignEach [.Name y p4] X.env).map (·.2) = assign (.Name y p4) X.env :: (assignEach [] X.env).map (·.2) := by rfl) :
    WS X (.Assign [.Tuple [.Subscript (.Name x p1) (.Constant (.int 0) j p2) p3, .Name y p4] kk p5] e pos) ρ E := fun B σ G H F S L => by
  refine wS_of (ps_asg pe_w (pg_tup hc (pgs_cons (pg_sub pe_w pe_int set_list) (pgs_cons (pg_name hN hl hy hf) pgs_nil t4) t3) t1 t2) hs hw h1) ?_
  refine h B σ G H S _ fun v d ρ' G' H' q S' y pu iv => ?_
  obtain ⟨e1, gr⟩ := pu rfl
  subst e1
  obtain ⟨n, m, rfl, n0, q⟩ := q
  obtain ⟨tl, vs, rfl, e2, e3⟩ := iv
  obtain ⟨v1, v2, rfl, i1, i2⟩ := isA_two e3
  cases (i1 : v1 = .int n); cases (i2 : v2 = .int m)
  refine ⟨tl, _, rfl, .inl (.inl (S'.ex _ _ e2)), rfl, .int n, [.int m], rfl, ?_⟩
  refine own_name hi hv hd hcd hr S' fun l' el ok => ?_
  obtain ⟨a, b, hl, a0, b0, b1⟩ := ok
  exact ⟨l', _, 0, 0, rfl, rfl, hl, rfl, .int m, [], rfl, rfl, L.nx _ _ G' _ q ((pot_put S' hr el n0 b0 b1).set (d := .int m) rfl) y⟩
theorem c_divmod {i j : Int} {g : Bool} {Z : D → Prop} (q : (0 < j ∧ j < 1073741824) ∧ Z (.tup [.int (i / j), .int (i % j)])) : OpC g X (.builtin "divmod") [.int i, .int j] Z := by
  intro G H vs R ex hi k
  obtain ⟨v, u, rfl, e1, e2⟩ := isA_two (isA_any ex hi)
  cases (e1 : v = .int i); cases (e2 : u = .int j)
  refine ⟨_, call_divmod, i, j, rfl, q.1, fun b hb => ?_⟩
  have gr := Grow.new (o := .tup [.int (i / j), .int (i % j)]) ex hb
  exact k _ (.tup [.int (i / j), .int (i % j)]) _ _ q.2 gr ⟨b, _, rfl, upd_same, _, _, rfl, rfl, _, _, rfl, rfl, rfl⟩
/-! ### a def that makes a pot -/
def spF (c : List D → Prop) : Sp := fun vs H Q _ => ∃ (G : Hp) (ds : List D), Ex G H ∧ IsA G ds vs ∧ c ds ∧ ∀ l a b H', H l = none → Ex H H' → H' l = some (.lst [.int a, .int b]) → 0 ≤ a → 0 ≤ b → b < 4294967296 → Q (.ref l) H'
def WSF (X : Cx) (st : List Stmt) (ρ : Rho) : Prop := ∀ (B : Base) (σ : L2.St) (G H : Hp) (F : Ends), B.W = [] → Sta B σ ρ G H →
  (∀ l a b H', B.H l = none → Ex B.H H' → H' l = some (.lst [.int a, .int b]) → 0 ≤ a → 0 ≤ b → b < 4294967296 → F.rt (.ref l) H') → wSs X st F σ H
theorem wsf_cons {st : Stmt} {rest : List Stmt} (h : WS X st ρ { nx := fun ρ' => WSF X rest ρ', rt := fun _ => False }) : WSF X (st :: rest) ρ := fun B σ G H F hW S k =>
  wSs_of (pss_cons ps_w pss_w) (h B σ G H { F with nx := wSs X rest F } S ⟨fun σ' ρ' G' H' q S' _ => q B σ' G' H' F hW S' k, fun _ _ _ _ z => z.elim, fun _ _ _ _ z => z.elim, fun _ _ _ _ z => z.elim⟩)
theorem wsf_ret {es : List Expr} {p1 : Pos} (h : WA true true X es ρ fun ds _ => ∃ a b : Int, ds = [.int a, .int b] ∧ 0 ≤ a ∧ 0 ≤ b ∧ b < 4294967296) : WSF X [.Return (some (.List es p1)) pos] ρ := fun B σ G H F hW S k => by
  refine wSs_of (pss_one (ps_ret (pe_lst pa_w))) ?_
  refine h B σ G H S _ fun vs ds ρ' G' H' q S' x pu i => ?_
  obtain ⟨a, b, rfl, a0, b0, b1⟩ := q
  obtain ⟨v, u, rfl, e1, e2⟩ := isA_two i
  cases (e1 : v = .int a); cases (e2 : u = .int b)
  refine ⟨by show 2 ≤ sizeLine; decide, fun l hl => ?_⟩
  have ex : Ex B.H H' := fun c o e => S'.fr c o e (by rw [hW]; simp)
  exact k l a b _ (S'.kn l hl) (ex.trans (Ex.new hl)) upd_same a0 b0 b1
variable {P : Program} {w : World} {K : PySem.W.Frag} {mg : Str → Option Value} {base : Heap}
theorem fnF {x qual : Str} {st : Stmt} {f : Addr} {fd : FuncData} {N ps : List Str} {k : Nat} {c : List D → Prop} (F : Fun K x qual st f fd) (S : FnScope N ps (defScope st)) (len : ∀ ds, c ds → ds.length = ps.length)
    (h : ∀ (cdv : Value) (A : Around) (outer : List Env) (s : Shared) (H : Hp) (E : XK) (ds : List D), Room k (A.deeper (envOfC qual (defScope st) s.heap.objs.size f cdv)) → c ds → WSF (CxD P w K mg base N qual st f cdv A outer s H E) (defBody st) (rho0 N ds)) : FnOk P w K mg base CX0 (k + 1) f fd ps (spF c) := by
  refine F.ok S (fun vs H Q E hs => ?_) fun cdv A outer s H vs Q E hr hs => ?_
  · obtain ⟨G, ds, ex, i, hc, _⟩ := hs
    rw [i.length]; exact len ds hc
  · obtain ⟨G, ds, ex, i, hc, q⟩ := hs
    exact ⟨_, pss_w, h cdv A outer s H E ds hr hc ⟨H, G, [], 0⟩ _ G H _ rfl (sta_start ex i) fun l a b H' n e z a0 b0 b1 => q l a b H' n e z a0 b0 b1⟩
/-- x = f(e, ..), a new pot -/
theorem f_call {c : List D → Prop} {k : Nat} {ps : List Str} {x : Str} {pp : Pos} {e : Expr} {es : List Expr} {QO : Own → Rho → Prop} (F : Df X.prog X.w X.K X.mg X.base k x ps (spF c)) (hr : Room k X.A) (h : WA true true X (e :: es) ρ fun ds ρ' => c ds ∧ QO .pot ρ') (hg : Gl X x := by rfl) (hdb : (x == ("__debug__" : Str)) = false := by decide)
    (he : starEach (e :: es) X.env = (false, eval e X.env) :: starEach es X.env := by rfl) (hpl : (backTo pos (starEach es X.env)).any (·.1) = false := by rfl) : WF X (.Call (.Name x pp) (e :: es) [] pos) ρ QO := fun B σ G H S R r => by
  obtain ⟨f, fd, F, hm, hk, hb⟩ := F.ex
  refine wE_of (pe_call F hr hg hm hk hb .nil pass0 pa_w hdb he hpl) ?_
  refine h B σ G H S _ fun vs ds ρ' G' H' q S' y pu i => ?_
  refine ⟨G', ds, S'.ex, by rw [List.append_nil]; exact i, q.1, fun l a b H2 n ex z a0 b0 b1 => ?_⟩
  obtain ⟨h1, h2, h3⟩ := new_own S' n
  have gr : Grow G' H' G' H2 := ⟨Ex.refl _, ex, S'.ex.trans ex, fun _ _ e => .inl e⟩
  exact r l .pot ρ' G' H2 q.2 (S'.grow gr) y h1 h2 h3 ⟨a, b, z, a0, b0, b1⟩
end
end DD
namespace DD
open PySem PySem.Spec PyProof.Rows L2
section
variable {p g : Bool} {X : Cx} {ρ : Rho} {Q : D → Rho → Prop} {E : DE} {pos : Pos}
/-- x, y = e, [] -/
theorem s_parN (i j : Nat) {x y : Str} {a : Expr} {px py pt pl : Pos} {kt k2 pt2} {N ps : List Str} {sc : Scope} (S0 : FnScope N ps sc) (hij : i ≠ j)
    (h : W true true X a ρ fun d _ => E.nx ((ρ.set i (.val d)).set j (.own true (.lst [])))) (hXN : X.N = N := by rfl) (hc : X.calm = true := by rfl) (hi : X.N[i]? = some x := by rfl) (hj : X.N[j]? = some y := by rfl)
    (hx : X.env.scope.names.lookup x = some .local := by rfl) (hy : X.env.scope.names.lookup y = some .local := by rfl)
    (hs1 : starEach [a, .List [] pl] X.env = (false, eval a X.env) :: starEach [.List [] pl] X.env := by rfl) (hs2 : starEach [.List [] pl] X.env = (false, eval (.List [] pl) X.env) :: starEach [] X.env := by rfl)
    (hw : swappedStores [.Tuple [.Name x px, .Name y py] kt pt] (.Tuple [a, .List [] pl] k2 pt2) X.env = pure (some [x, y]) := by rfl)
    (hs : swapsWithSole [.Tuple [.Name x px, .Name y py] kt pt] (.Tuple [a, .List [] pl] k2 pt2) pos.line X.env = pure false := by rfl) :
    WS X (.Assign [.Tuple [.Name x px, .Name y py] kt pt] (.Tuple [a, .List [] pl] k2 pt2) pos) ρ E := fun B σ G H F S L => by
  refine wS_of (ps_par hc (hXN ▸ S0.nd) hi hj hij hx hy (pa_cons pe_w (pa_cons (pe_lst pa_nil) pa_nil hs2) hs1) hw hs) ?_
  refine h B σ G H S _ fun v d ρ' G' H' q S' z pu iv => ?_
  obtain ⟨e1, gr⟩ := pu rfl
  subst e1
  refine ⟨Nat.zero_le _, fun l hl => ⟨v, .ref l, rfl, ?_⟩⟩
  obtain ⟨h1, h2, h3⟩ := new_own S' hl
  have S2 := S'.grow (Grow.own (o := .lst []) S'.ex hl)
  have S3 := S2.set (i := i) iv
  refine L.nx _ _ G' _ q (S3.setOwn (i := j) (l := l) h1 h2 ⟨[], upd_same, rfl⟩ fun m lc u hm hs => ?_) z
  by_cases him : i = m
  · subst him
    rw [List.getElem?_set] at hm
    simp only [if_true] at hm
    split at hm <;> cases hm
  · rw [List.getElem?_set_ne him] at hm hs
    exact h3 m hs lc u hm
end
theorem cut_to {xs : List D} {n : Nat} (h : n ≤ xs.length) : cutD xs none (some (n : Int)) = xs.take n := by
  unfold cutD
  rw [HT.sIx_none, HT.sIx_nat, List.drop_zero, Nat.min_eq_left h, Nat.sub_zero]
theorem cut_from {xs : List D} {n : Nat} (h : n ≤ xs.length) : cutD xs (some (n : Int)) none = xs.drop n := by
  unfold cutD
  rw [HT.sIx_none, HT.sIx_nat, Nat.min_eq_left h, ← List.length_drop, List.take_length]
end DD
namespace DD
open PySem PySem.Spec PyProof.Rows L2
section
variable {p g : Bool} {X : Cx} {ρ : Rho} {Q : D → Rho → Prop} {E : DE} {pos : Pos}
/-- x[e] = v, short -/
theorem item (i : Nat) {x : Str} {e ev : Expr} {p1 p2 : Pos}
    (h : W true true X ev ρ fun d _ => ∃ ds, ρ[i]? = some (.own true (.lst ds)) ∧ W true true X e ρ fun k _ => ∃ n j, k = .int n ∧ ixN ds.length n = some j ∧ E.nx (ρ.set i (.own true (.lst (ds.set j d)))))
    (hN : X.N[i]? = some x := by rfl) (hv : Vis X.env.scope x := by first | exact .inl rfl | exact .inr (.inl rfl) | exact .inr (.inr rfl)) (hd : (x == ("__debug__" : Str)) = false := by decide) (hcd : (x == ("__classdict__" : Str)) = false := by decide)
    (hs : swapsWithSole [.Subscript (.Name x p1) e p2] ev pos.line X.env = pure false := by rfl) (hw : swappedStores [.Subscript (.Name x p1) e p2] ev X.env = pure none := by rfl)
    (h1 : (assignEach [.Subscript (.Name x p1) e p2] X.env).map (·.2) = [assign (.Subscript (.Name x p1) e p2) X.env] := by rfl)
    (ha : ∀ v, assign (.Subscript (.Name x p1) e p2) X.env v = (do
      let ov ← holding [v] (eval (.Name x p1) X.env)
      let iv ← holding [v, ov] (eval e X.env)
      standAt p2
      holding [v, ov, iv] (setItem ov iv v)
      release [v, ov, iv] []) := by intro _; rfl) : WS X (.Assign [.Subscript (.Name x p1) e p2] ev pos) ρ E := s_item hN hv hd hcd h hs hw h1 ha
end
/-- keywords the other way about -/
def sw2 {α : Type} : List α → List α
  | [a, b] => [b, a]
  | l => l
theorem isA_sw {H : Hp} {ds : List D} {vs : List V} (h : IsA H ds vs) : IsA H (sw2 ds) (sw2 vs) := by
  match ds, h with
  | [], h => cases h; rfl
  | [a], h =>
    obtain ⟨x, rfl, i⟩ := isA_one h
    exact ⟨x, [], rfl, i, rfl⟩
  | [a, b], h =>
    obtain ⟨x, y, rfl, i1, i2⟩ := isA_two h
    exact ⟨y, [x], rfl, i2, x, [], rfl, i1, rfl⟩
  | a :: b :: c :: r, h =>
    have hl := h.length
    obtain ⟨x, s, rfl, i1, h2⟩ := id h
    obtain ⟨y, s, rfl, i2, h3⟩ := h2
    obtain ⟨z, s, rfl, i3, h4⟩ := h3
    exact h
theorem vals_sw {vs : List V} {us : List Value} (h : Vals vs us) : Vals (sw2 vs) (sw2 us) := by
  cases h with
  | nil => exact .nil
  | cons h1 t1 =>
    cases t1 with
    | nil => exact .cons h1 .nil
    | cons h2 t2 =>
      cases t2 with
      | nil => exact .cons h2 (.cons h1 .nil)
      | cons h3 t3 => exact .cons h1 (.cons h2 (.cons h3 t3))
structure DfK (P : Program) (w : World) (K : PySem.W.Frag) (mg : Str → Option Value) (base : Heap) (k : Nat) (x : Str) (ps ks : List Str) (sp : Sp) : Prop where
  ex : ∃ f fd, FnOk P w K mg base CX0 k f fd ps sp ∧ mg x = some (.ref f) ∧ PySem.W.keepIn K (.ref f) = true ∧ KBinds K fd ps ks (fun us ws => us ++ sw2 ws) (fun vs zs => vs ++ sw2 zs)
section
variable {p g : Bool} {X : Cx} {ρ : Rho} {Q : D → Rho → Prop} {pos : Pos}
theorem callK {k : Nat} {ps ks : List Str} {c : List D → (D → Prop) → Prop} {x : Str} {pp : Pos} {kws : List Keyword} (F : DfK X.prog X.w X.K X.mg X.base k x ps ks (spD c)) (hr : Room k X.A)
    (h : WK p true X kws ρ fun ds ρ' => c (sw2 ds) fun d => Q d ρ') (hg : Gl X x := by rfl) (hdb : (x == ("__debug__" : Str)) = false := by decide)
    (hall : (backToKw pos (keywordEach kws X.env)).all (·.1.isSome) = true := by rfl) (hks : (backToKw pos (keywordEach kws X.env)).filterMap (·.1) = ks := by rfl)
    (hpl : ((backTo pos (starEach [] X.env)).any (·.1) || (backToKw pos (keywordEach kws X.env)).any (·.1.isNone)) = false := by rfl) : W p g X (.Call (.Name x pp) [] kws pos) ρ Q := by
  obtain ⟨f, fd, F, hm, hk, hb⟩ := F.ex
  exact w_callK0 F hr hm hk hb (fun _ _ _ h => isA_sw h) h hg hdb hall hks hpl
end
end DD
namespace DD
open PySem PySem.Spec PyProof.Rows L2
section
variable {g : Bool} {X : Cx} {Z : D → Prop}
/-! ### the script -/
theorem c_lenScr {ns : List Int} (q : Z (.int (ns.length : Int))) : OpC g X (.builtin "len") [.scr X.K ns] Z := by
  intro G H vs R ex i k
  obtain ⟨v, rfl, a, rfl, e⟩ := isA_one (isA_any ex i)
  refine ⟨_, call_len_seq, a, _, rfl, .inl e, ?_⟩
  rw [List.length_map]
  exact k _ (.int (ns.length : Int)) G H q (Grow.refl ex) rfl
theorem x_scr {ns : List Int} {i : Int} {n : Int} (h : atI (ns.map V.int) i = some (.int n)) (q : Z (.int n)) : OpI g X (.scr X.K ns) (.int i) Z := by
  intro G H v u R ex i1 j k
  have j' : u = .int i := is_any ex j
  subst j'
  obtain ⟨a, rfl, e⟩ := is_any ex i1
  exact ⟨_, ix_list, a, _, i, .int n, rfl, rfl, e, h, k (.int n) (.int n) q (by cases g <;> exact rfl)⟩
end
end DD

namespace DD
open PySem PySem.Spec PyProof.Rows L2

/-! ### data that hold no list; ghosts without lists: so what comes out of a def is new -/
mutual
def noL : D → Bool
  | .lst _ => false
  | .dic _ => false
  | .scr _ _ => false
  | .tup ds => noLA ds
  | .obj _ fs => noLF fs
  | _ => true
def noLA : List D → Bool
  | [] => true
  | d :: ds => noL d && noLA ds
def noLF : List (Str × D) → Bool
  | [] => true
  | (_, d) :: ds => noL d && noLF ds
end
def NoList (o : HO) : Prop := ∀ xs, o ≠ .lst xs
mutual
theorem Is.keepNL {G G' : Hp} (e : ∀ a o, G a = some o → NoList o → G' a = some o) : ∀ (d : D) (v : V), noL d = true → Is G d v → Is G' d v
  | .non, _, _, h => h
  | .bl _, _, _, h => h
  | .int _, _, _, h => h
  | .str _, _, _, h => h
  | .ty _, _, _, h => h
  | .lst _, _, n, _ => by cases n
  | .dic _, _, n, _ => by cases n
  | .scr _ _, _, n, _ => by cases n
  | .tup ds, _, n, ⟨a, xs, e1, e2, e3⟩ => ⟨a, xs, e1, e _ _ e2 (fun _ z => nomatch z), IsA.keepNL e ds xs n e3⟩
  | .obj C fs, _, n, ⟨a, dx, gs, e1, e2, e3⟩ => ⟨a, dx, gs, e1, e _ _ e2 (fun _ z => nomatch z), IsF.keepNL e fs gs n e3⟩
theorem IsA.keepNL {G G' : Hp} (e : ∀ a o, G a = some o → NoList o → G' a = some o) : ∀ (ds : List D) (xs : List V), noLA ds = true → IsA G ds xs → IsA G' ds xs
  | [], _, _, h => h
  | d :: ds, _, n, ⟨x, r, e1, e2, e3⟩ => ⟨x, r, e1, Is.keepNL e d x (Bool.and_eq_true_iff.mp n).1 e2, IsA.keepNL e ds r (Bool.and_eq_true_iff.mp n).2 e3⟩
theorem IsF.keepNL {G G' : Hp} (e : ∀ a o, G a = some o → NoList o → G' a = some o) : ∀ (fs : List (Str × D)) (xs : List (Str × V)), noLF fs = true → IsF G fs xs → IsF G' fs xs
  | [], _, _, h => h
  | (k, d) :: ds, _, n, ⟨x, r, e1, e2, e3⟩ => ⟨x, r, e1, Is.keepNL e d x (Bool.and_eq_true_iff.mp n).1 e2, IsF.keepNL e ds r (Bool.and_eq_true_iff.mp n).2 e3⟩
end
/-- a ghost less its lists -/
def LF (G : Hp) : Hp := fun a => match G a with
  | some (.lst _) => none
  | o => o
theorem LF.ex {G : Hp} : Ex (LF G) G := fun a o h => by
  unfold LF at h
  split at h
  · cases h
  · exact h
theorem LF.keep {G : Hp} : ∀ a o, G a = some o → NoList o → LF G a = some o := fun a o h n => by
  unfold LF
  split
  · rename_i xs e
    rw [h] at e
    cases e
    exact absurd rfl (n xs)
  · exact h
theorem LF.no {G : Hp} (a : Addr) (xs : List V) : LF G a ≠ some (.lst xs) := fun h => by
  unfold LF at h
  split at h
  · cases h
  · rename_i n
    exact n xs h
/-- a ghost less one place -/
theorem del_ex {G : Hp} {D : Addr} : Ex (del D G) G := fun a o h => by
  have q : a ≠ D := by rintro rfl; rw [del_same] at h; cases h
  rw [del_ne q] at h; exact h

section
variable {X : Cx} {ρ : Rho} {E : DE} {pos : Pos}
/-- e makes new data: all its lists are new -/
def WFr (X : Cx) (e : Expr) (ρ : Rho) (d : D) : Prop := ∀ (B : Base) (σ : L2.St) (G H : Hp), Sta B σ ρ G H → ∀ R : VK,
  (∀ v G' H', Ex H H' → Ex G' H' → (∀ a xs, G' a = some (.lst xs) → H a = none) → Is G' d v → R v H') → wE X e σ H R
theorem wfr_meth0 {C f : Addr} {m : Str} {fd : FuncData} {k : Nat} {ps : List Str} {c : List D → (D → Prop) → Prop} {o : Expr} {apos : Pos} {pl : Sem Bool} {dd : D} {fs : List (Str × D)} (cl : Cls X.K C) (hm : Meth X.K C m f) (F : FnOk X.prog X.w X.K X.mg X.base CX0 k f fd ps (spD c)) (hr : Room k X.A) (hb : Binds X.K fd ps [])
    (h : W true true X o ρ fun x _ => x = .obj C fs) (hl : fs.lookup m = none) (hn : noLF fs = true) (hc : c [.obj C fs] fun d => d = dd)
    (ht : eval (.Call (.Attribute o m apos) [] [] pos) X.env = (do
      let ov ← eval o X.env
      standAt apos.atName
      let (f, first) ← holding [ov] (getMethod ov m pl)
      callWith pos f first (backTo pos (starEach [] X.env)) (backToKw pos (keywordEach [] X.env))) := by rfl) : WFr X (.Call (.Attribute o m apos) [] [] pos) ρ dd := fun B σ G H S R r => by
  refine wE_of (pe_meth0 (pl := pl) pe_w cl hm F hr hb .nil pass0 ht) ?_
  refine h B σ G H S _ fun v x ρ' G' H' q S' y pu i => ?_
  subst q
  obtain ⟨rfl, g0⟩ := pu rfl
  obtain ⟨a, dx, gs, rfl, e2, e3⟩ := id i
  refine ⟨a, dx, gs, rfl, S'.ex _ _ e2, e3.no hl, ?_⟩
  refine ⟨LF G', [.obj C fs], fun d => d = dd, LF.ex.trans S'.ex, ⟨.ref a, [], rfl, Is.keepNL LF.keep _ _ hn i, rfl⟩, hc, fun v d G2 H2 z gr iz => ?_⟩
  subst z
  refine r v G2 H2 (g0.h.trans gr.h) gr.x (fun b xs hb => ?_) iz
  rcases gr.n b _ hb with q | q
  · exact absurd q (LF.no b xs)
  · cases hq : H b with
    | none => rfl
    | some u => rw [g0.h b u hq] at q; cases q
/-- new(..).append(None) -/
theorem s_appNew {e : Expr} {ds : List D} {j} {cp p2 p3 : Pos} (h : WFr X e ρ (.lst ds)) (hz : ds.length < 1000000) (q : E.nx ρ)
    (hbase : attributeBase e "append" X.env (eval e X.env) = eval e X.env := by rfl)
    (hfew : ((backTo p3 (starEach [.Constant .none j cp] X.env)).all (fun x => !x.1) && (backToKw p3 (keywordEach [] X.env)).all (fun x => x.1.isSome)
      && decide (([.Constant .none j cp] : List Expr).length + ([] : List Keyword).length + (if ([] : List Keyword).isEmpty then 0 else 1) < 30)) = true := by rfl)
    (hline : (p2.endLine == p3.line) = true := by rfl) (hst : starEach [.Constant .none j cp] X.env = (false, eval (.Constant .none j cp) X.env) :: starEach [] X.env := by rfl) (hplain : (backTo p3 (starEach [] X.env)).any (·.1) = false := by rfl)
    (hs : swapsWith (.Call (.Attribute e "append" p2) [.Constant .none j cp] [] p3) none pos.line X.env = pure false := by rfl) : WS X (.Expr (.Call (.Attribute e "append" p2) [.Constant .none j cp] [] p3) pos) ρ E := fun B σ G H F S L => by
  refine wS_of (ps_expr (pe_bm PySem.F.plainAttrs_list PySem.F.slot_list_append PySem.F.type_list_append mt_append pe_w (pa_cons pe_non pa_nil hst) hbase hfew hline hst hplain) hs) ?_
  refine h B σ G H S _ fun v G' H' x1 x2 nw i => ?_
  obtain ⟨a, xs, rfl, e2, e3⟩ := i
  refine ⟨.inl ⟨rfl, xs, .inl (.inl (x2 _ _ e2))⟩, ?_⟩
  refine ⟨a, xs, .non, rfl, rfl, x2 _ _ e2, by rw [e3.length]; exact Nat.lt_trans hz (by decide), ?_⟩
  have fr := nw a xs e2
  have gr : Grow G H G (L2.upd H' a (.lst (xs ++ [.non]))) := ⟨Ex.refl _, fun b o hb => by
    have q : b ≠ a := by rintro rfl; rw [fr] at hb; cases hb
    rw [upd_ne q]; exact x1 b o hb, fun b o hb => by
    have hb := S.ex b o hb
    have q : b ≠ a := by rintro rfl; rw [fr] at hb; cases hb
    rw [upd_ne q]; exact x1 b o hb, fun b o hb => .inl hb⟩
  exact L.nx σ ρ G _ q (S.grow gr) (Ex.refl G)
end
end DD

namespace DD
open PySem PySem.Spec PyProof.Rows L2
section
variable {X : Cx} {ρ : Rho} {E : DE} {pos : Pos}
theorem Sta.ununset {B : Base} {σ : L2.St} {G H : Hp} (S : Sta B σ ρ G H) {i : Nat} {v : Option V} : Sta B (σ.set i v) (ρ.set i .un) G H := S.un
theorem set_un_idem (i : Nat) : (ρ.set i .un).set i .un = ρ.set i .un := List.set_set ..
/-- for x in new(..): x.append(None) -/
theorem s_forNew {i : Nat} {x : Str} {px q1 p2 p3 q4 cp : Pos} {iter : Expr} {ls : List (List D)} {j} {N ps : List Str} {sc : Scope} (S0 : FnScope N ps sc) (h : WFr X iter ρ (.lst (ls.map D.lst))) (hz : ∀ l ∈ ls, l.length < 1000 ∧ ∃ n r, l = .int n :: r) (q : E.nx (ρ.set i .un))
    (q0 : E.nx ρ) (hlρ : i < ρ.length) (hmany : ls.length < 100000)
    (hp : PassesOwn (model X.prog X.w) X.A X.env X.xe := by exact PassesOwn.never) (hXN : X.N = N := by rfl) (hi : X.N[i]? = some x := by rfl) (hx : Loc X.env.scope x := by first | exact .inl rfl | exact .inr rfl) (hf : X.fn x = true ∨ X.env.scope.names.lookup x = some .local := by first | exact .inl rfl | exact .inr rfl)
    (hv : Vis X.env.scope x := by first | exact .inl rfl | exact .inr (.inl rfl) | exact .inr (.inr rfl)) (hd : (x == ("__debug__" : Str)) = false := by decide) (hcd : (x == ("__classdict__" : Str)) = false := by decide)
    (hc : X.calm = true := by rfl) (hsI : ∀ x, foldedSetIterable iter X.env x = pure x := by intro _; rfl)
    (hbase : attributeBase (.Name x q1) "append" X.env (eval (.Name x q1) X.env) = eval (.Name x q1) X.env := by rfl)
    (hfew : ((backTo p3 (starEach [.Constant .none j cp] X.env)).all (fun x => !x.1) && (backToKw p3 (keywordEach [] X.env)).all (fun x => x.1.isSome)
      && decide (([.Constant .none j cp] : List Expr).length + ([] : List Keyword).length + (if ([] : List Keyword).isEmpty then 0 else 1) < 30)) = true := by rfl)
    (hline : (p2.endLine == p3.line) = true := by rfl) (hst : starEach [.Constant .none j cp] X.env = (false, eval (.Constant .none j cp) X.env) :: starEach [] X.env := by rfl) (hplain : (backTo p3 (starEach [] X.env)).any (·.1) = false := by rfl)
    (hs : swapsWith (.Call (.Attribute (.Name x q1) "append" p2) [.Constant .none j cp] [] p3) none q4.line X.env = pure false := by rfl) :
    WS X (.For (.Name x px) iter [.Expr (.Call (.Attribute (.Name x q1) "append" p2) [.Constant .none j cp] [] p3) q4] [] pos) ρ E := fun B σ G H F S L => by
  refine wS_of (ps_for hp hc (pi_list pe_w) (pg_name (hXN ▸ S0.nd) hi hx hf) (pss_one (ps_expr (pe_bm PySem.F.plainAttrs_list PySem.F.slot_list_append PySem.F.type_list_append mt_append (pe_var hi hv hd hcd) (pa_cons pe_non pa_nil hst) hbase hfew hline hst hplain) hs)) hsI) ?_
  refine h B σ G H S _ fun v G' H' x1 x2 nw iv => ?_
  obtain ⟨a, xs, rfl, e2, e3⟩ := iv
  have ga : G a = none := by
    cases r : G a with
    | none => rfl
    | some u => have := S.ex a u r; rw [nw a xs e2] at this; cases this
  refine ⟨a, rfl, ⟨xs, .inl (.inl (x2 _ _ e2))⟩, ?_⟩
  have hlen : xs.length = ls.length := by rw [e3.length, List.length_map]
  -- each item is a new list that begins with a whole number
  have item : ∀ (n : Nat) (y : V), xs[n]? = some y → ∃ b ys z r, y = .ref b ∧ H b = none ∧ b ≠ a ∧ H' b = some (.lst ys) ∧ ys = V.int z :: r ∧ ys.length < 1000 := fun n y hy => by
    obtain ⟨d, hd, iy⟩ := e3.at hy
    rw [List.getElem?_map] at hd
    cases hl : ls[n]? with
    | none => rw [hl] at hd; cases hd
    | some l =>
      rw [hl] at hd
      cases hd
      obtain ⟨h1, z, r, rfl⟩ := hz l (List.mem_of_getElem? hl)
      obtain ⟨b, ys, rfl, f2, f3⟩ := iy
      have hlen := f3.length
      obtain ⟨w, r2, rfl, g1, g2⟩ := f3
      cases (g1 : w = .int z)
      refine ⟨b, _, z, r2, rfl, nw b _ f2, fun hab => ?_, x2 _ _ f2, rfl, by omega⟩
      subst hab
      rw [e2] at f2
      cases f2
      obtain ⟨d, hd, iy⟩ := e3.at (i := 0) (x := V.int z) rfl
      rw [List.getElem?_map] at hd
      cases hl : ls[0]? with
      | none => rw [hl] at hd; cases hd
      | some l =>
        rw [hl] at hd
        cases hd
        obtain ⟨_, _, e, _⟩ := iy
        cases e
  -- what stays: all that stood ahead, the list at a, lists that begin with whole numbers
  have gr0 : Grow G H G H' := ⟨Ex.refl _, x1, S.ex.trans x1, fun b o hb => .inl hb⟩
  have si : i < σ.length := by
    have := (List.getElem?_eq_some_iff.mp hi).1
    rw [S.len]; exact hlρ
  refine for_it (n := xs.length) walk_list (fun t σ' Hc => (Ex H Hc ∧ Hc a = some (.lst xs) ∧ ∀ (n : Nat) (b : Addr), xs[n]? = some (.ref b) → ∃ ys z r, Hc b = some (.lst ys) ∧ ys = V.int z :: r ∧ ys.length < 1000 + t) ∧ (∀ m, m ≠ i → σ'[m]? = σ[m]?) ∧ ∃ ρ', (ρ' = ρ ∨ ρ' = ρ.set i .un) ∧ Sta B σ' ρ' G Hc)
    ⟨⟨x1, x2 _ _ e2, fun n b hb => ?_⟩, fun _ _ => rfl, ρ, .inl rfl, S.grow gr0⟩ (fun t σ' Hc _ h => .inl (.inl h.1.2.1)) (fun t y σ' Hc H'' ht hI ya => ?_) (fun σ' Hc hI => ?_)
  · obtain ⟨b', ys, z, r, e, _, _, f, g, k⟩ := item n _ hb
    cases e
    exact ⟨ys, z, r, f, g, by omega⟩
  · obtain ⟨⟨y1, y2, y3⟩, hσ, ρ', hρ, S'⟩ := hI
    obtain ⟨rfl, hy⟩ := ya
    obtain ⟨b, ys0, z0, r0, rfl, hb0, hba, _, _, _⟩ := item t y hy
    obtain ⟨ys, z, r, f, rfl, k⟩ := y3 t b hy
    have hl' : σ'.length = σ.length := by
      rw [S'.len, S.len]
      rcases hρ with rfl | rfl
      · rfl
      · rw [List.length_set]
    refine ⟨.ref b, List.getElem?_set_self (by omega), ?_⟩
    refine ⟨.inl ⟨rfl, _, .inl (.inl f)⟩, ?_⟩
    refine ⟨b, _, .non, rfl, rfl, f, Nat.lt_trans (m := 101000) (by omega) (by decide), ?_⟩
    have gb : G b = none := by
      cases r : G b with
      | none => rfl
      | some u => have := S.ex b u r; rw [hb0] at this; cases this
    have nb : ∀ c o, H c = some o → c ≠ b := fun c o hc => by rintro rfl; rw [hb0] at hc; cases hc
    refine ⟨⟨fun c o hc => ?_, ?_, fun n c hc => ?_⟩, fun m hm => by rw [List.getElem?_set_ne (Ne.symm hm)]; exact hσ m hm, ρ.set i .un, .inr rfl, ?_⟩
    · rw [upd_ne (nb c o hc)]; exact y1 c o hc
    · rw [upd_ne (Ne.symm hba)]; exact y2
    · by_cases q : c = b
      · subst q
        refine ⟨_, z, r ++ [.non], upd_same, rfl, ?_⟩
        rw [List.length_append]
        show _ + 1 < _
        omega
      · obtain ⟨us, z', r', f', e', k'⟩ := y3 n c hc
        exact ⟨us, z', r', by rw [upd_ne q]; exact f', e', by omega⟩
    · have Su : Sta B (σ'.set i (some (.ref b))) (ρ.set i .un) G H'' := by
        rcases hρ with rfl | rfl
        · exact S'.un
        · have := S'.un (i := i) (v := some (.ref b))
          rw [List.set_set] at this
          exact this
      have bb : B.H b = none := S.kn b hb0
      refine ⟨Su.len, fun c o hc => ?_, fun c o hc hw => ?_, fun c hc => ?_, Su.nw, Su.bg, Su.bx, fun l hl => ?_, fun m s w h1 h2 => ?_, Su.dist⟩
      · have q : c ≠ b := by rintro rfl; rw [gb] at hc; cases hc
        rw [upd_ne q]; exact Su.ex c o hc
      · have q : c ≠ b := by rintro rfl; rw [bb] at hc; cases hc
        rw [upd_ne q]; exact Su.fr c o hc hw
      · have q : c ≠ b := by rintro rfl; rw [upd_same] at hc; cases hc
        rw [upd_ne q] at hc; exact Su.kn c hc
      · obtain ⟨⟨u, w, e, r⟩, k, hk⟩ := Su.pot l hl
        have q : l ≠ b := by rintro rfl; rw [bb] at hk; cases hk
        exact ⟨⟨u, w, by rw [upd_ne q]; exact e, r⟩, k, hk⟩
      · have k := Su.env m s w h1 h2
        cases s with
        | un => trivial
        | val d => exact k
        | own lc o =>
          obtain ⟨l, e, f1, f2, f3⟩ := k
          -- an own thing stood ahead
          have q : l ≠ b := by
            rintro rfl
            have hm : m ≠ i := fun z => by
              subst z
              rw [List.getElem?_set] at h1
              simp only [if_true] at h1
              split at h1 <;> cases h1
            rw [List.getElem?_set_ne (Ne.symm hm)] at h1 h2
            rw [hσ m hm] at h2
            obtain ⟨l', e', _, _, ok⟩ := S.ownAt h1
            rw [e'] at h2
            cases h2
            cases e
            obtain ⟨u, hu⟩ := ok.known
            rw [hb0] at hu; cases hu
          exact ⟨l, e, f1, f2, f3.mono (Ex.refl G) fun o z => by rw [upd_ne q]; exact z⟩
  · obtain ⟨_, _, ρ', hρ, S'⟩ := hI
    rcases hρ with rfl | rfl
    · exact L.nx σ' _ G Hc q0 S' (Ex.refl G)
    · exact L.nx σ' _ G Hc q S' (Ex.refl G)
end
end DD

namespace DD
open PySem PySem.Spec PyProof.Rows L2
section
variable {X : Cx} {ρ : Rho} {E : DE} {pos : Pos}
/-- a value at a place that was free -/
def Fh (H : Hp) (v : V) : Prop := ∃ a, v = .ref a ∧ H a = none
theorem Fh.back {H H' : Hp} {v : V} (e : Ex H H') (h : Fh H' v) : Fh H v := by
  obtain ⟨a, rfl, ha⟩ := h
  refine ⟨a, rfl, ?_⟩
  cases r : H a with
  | none => rfl
  | some u => rw [e a u r] at ha; cases ha
/-- between two turns: all that was made is new -/
def LcN (G1 H1 : Hp) (D : Addr) (outs : List DD.D) (Hc : Hp) : Prop := H1 D = none ∧ ∃ Gi acc, Hc D = some (.lst acc) ∧ Gi D = none ∧ Grow G1 H1 Gi Hc ∧ IsA Gi outs acc ∧ ∀ v ∈ acc, Fh H1 v
/-- e hands back a new thing -/
def WNew (X : Cx) (e : Expr) (ρ : Rho) (d : D) : Prop := ∀ (B : Base) (σ : L2.St) (G H : Hp), Sta B σ ρ G H → ∀ R : VK,
  (∀ v G' H', Grow G H G' H' → Is G' d v → Fh H v → R v H') → wE X e σ H R
/-- e hands back a list of new things, pure -/
def WNl (X : Cx) (e : Expr) (ρ : Rho) (Q : List D → Prop) : Prop := ∀ (B : Base) (σ : L2.St) (G H : Hp), Sta B σ ρ G H → ∀ R : VK,
  (∀ a xs ds G' H', Q ds → Grow G H G' H' → G' a = some (.lst xs) → IsA G' ds xs → (∀ v ∈ xs, Fh H v) → R (.ref a) H') → wE X e σ H R
theorem x_lcN {elt tg iter : Expr} {scope : Scope} {own : List (Str × Nat)} {T : Tg} {Q : List D → Prop} (f : DD.D → DD.D) (hT : ∀ i ∈ T.slots, i ∈ own.map (·.2))
    (h : WI true X tg iter ρ fun ds ρ1 => ds.length ≤ 40000 ∧ (∀ d ∈ ds, ∃ ρi, T.eff d (wipeR ρ1 (own.map (·.2))) = some ρi ∧ ∀ s H C cl fp, WNew (Blk X scope s H C cl fp) elt ρi (f d)) ∧ Q (ds.map f)) :
    ∀ (B : Base) (σ : L2.St) (G H : Hp), Sta B σ ρ G H → ∀ R : VK,
      (∀ a xs ds G' H', Q ds → Grow G H G' H' → G' a = some (.lst xs) → IsA G' ds xs → (∀ v ∈ xs, Fh H v) → R (.ref a) H') → tLc (wI X tg iter) (T.g X.K) tYes (cE X scope elt) (own.map (·.2)) σ H R := fun B σ G H S R r => by
  refine h B σ G H S _ fun J ds ρ1 G1 H1 q S1 x pu wk D hD => ?_
  obtain ⟨hl, turn, q⟩ := q
  obtain ⟨rfl, g0⟩ := pu rfl
  refine lc_it wk (fun i Hc => LcN G1 H1 D ((ds.take i).map f) Hc) ?_ (fun i Hc _ h => ?_) (fun i x Hc H' hi h y => ?_) (fun Hc h => ?_)
  · refine ⟨hD, G1, [], upd_same, ?_, Grow.own S1.ex hD, rfl, fun v hv => absurd hv (by simp)⟩
    cases r : G1 D with
    | none => rfl
    | some u => rw [S1.ex D u r] at hD; cases hD
  · obtain ⟨_, Gi, acc, _, _, gr, _⟩ := h
    exact gr.g.trans gr.x
  · obtain ⟨_, Gi, acc, hacc, gD, gr, ia, nw⟩ := h
    have hget : ds[i]? = some ds[i] := List.getElem?_eq_getElem hi
    obtain ⟨G2, gr2, ix⟩ := y _ hget Gi gr.g gr.x
    obtain ⟨ρi, he, hel⟩ := turn ds[i] (List.getElem_mem hi)
    have g2D := g_none gr2 gD hacc
    have grA := gr.trans gr2
    refine Tg.run he ((S1.grow grA).wipe (own.map (·.2))) ix (fun σ' S' hwp => ?_) (fun τ us j o hj => wipe_set τ us j o hj)
    refine ⟨(hwp _ hT).trans (wipe_idem _ _), ?_⟩
    have etake : ds.take (i + 1) = ds.take i ++ [ds[i]] := by rw [List.take_add_one, hget]; rfl
    show cE X scope elt σ' H' _
    intro s H0 C cl fp
    refine hel s H0 C cl fp B σ' G2 H' S' _ fun v G4 H4 gr4 iv fv => ?_
    have hacc2 := gr2.h _ _ hacc
    have h4 : H4 D = some (.lst acc) := gr4.h _ _ hacc2
    have g4D := g_none gr4 g2D hacc2
    have hsz : acc.length < sizeLine := by
      rw [ia.length, List.length_map, List.length_take]
      exact Nat.lt_of_le_of_lt (m := 40000) (by omega) (by decide)
    refine ⟨acc, h4, hsz, ?_⟩
    have grT := grA.trans gr4
    refine ⟨hD, G4, acc ++ [v], upd_same, g4D, ⟨grT.g, fun a o e => ?_, fun a o e => ?_, grT.n⟩, ?_, fun u hu => ?_⟩
    · have q : a ≠ D := by rintro rfl; rw [hD] at e; cases e
      rw [upd_ne q]; exact grT.h a o e
    · have q : a ≠ D := by rintro rfl; rw [g4D] at e; cases e
      rw [upd_ne q]; exact grT.x a o e
    · rw [etake, List.map_append]
      exact IsA.snoc (IsA.mono (gr2.g.trans gr4.g) _ _ ia) iv
    · rcases List.mem_append.mp hu with hu | hu
      · exact nw u hu
      · have : u = v := by simpa using hu
        subst this
        exact fv.back grA.h
  · obtain ⟨_, Gi, acc, hacc, gD, gr, ia, nw⟩ := h
    rw [List.take_length] at ia
    have ex := Ex.new (o := HO.lst acc) gD
    refine r D acc _ (L2.upd Gi D (.lst acc)) Hc q (g0.trans ⟨gr.g.trans ex, gr.h, fun a o e => ?_, fun a o e => ?_⟩) upd_same (IsA.mono ex _ _ ia) fun v hv => (nw v hv).back g0.h
    · by_cases q : a = D
      · subst q; rw [upd_same] at e; rw [hacc]; exact e
      · rw [upd_ne q] at e; exact gr.x a o e
    · by_cases q : a = D
      · subst q; exact .inr hD
      · rw [upd_ne q] at e; exact gr.n a o e
/-- list(x) is new -/
theorem wnew_list {i : Nat} {x : Str} {px pp : Pos} {ds : List D} (hm : X.mg "list" = none) (hN : X.N[i]? = some x) (hr : ρ[i]? = some (.val (.lst ds))) (hv : Vis X.env.scope x) (hd : (x == ("__debug__" : Str)) = false := by decide) (hcd : (x == ("__classdict__" : Str)) = false := by decide)
    (hg : Gl X "list" := by rfl) (he : starEach [.Name x px] X.env = (false, eval (.Name x px) X.env) :: starEach [] X.env := by rfl) (hpl : (backTo pos (starEach [] X.env)).any (·.1) = false := by rfl) : WNew X (.Call (.Name "list" pp) [.Name x px] [] pos) ρ (.lst ds) := fun B σ G H S R r => by
  refine wE_of (pe_callTy call_any hg hm (T := "list") (by decide +kernel) (pa_cons (pe_var hN hv hd hcd) pa_nil he) (by decide) (by decide) he hpl) ?_
  obtain ⟨v, e1, iv⟩ := S.valAt hr
  obtain ⟨a, xs, rfl, e2, e3⟩ := iv
  refine ⟨_, e1, ⟨_, call_list_of, a, xs, rfl, .inl (.inl (.inl (S.ex _ _ e2))), fun p hp => ?_⟩⟩
  have gr := Grow.new (o := .lst xs) S.ex hp
  exact r _ _ _ gr ⟨p, xs, rfl, upd_same, IsA.mono gr.g _ _ e3⟩ ⟨p, rfl, hp⟩
end
end DD

namespace DD
open PySem PySem.Spec PyProof.Rows L2
section
variable {X : Cx} {ρ : Rho} {E : DE} {pos : Pos}
/-- a state whose slot i is forgotten, one place fewer in the ghost, another thing at that place: i held what was new behind H0 -/
theorem Sta.thaw {B : Base} {σ σ2 : L2.St} {G H0 G2 H2 : Hp} {i j : Nat} {a : Addr} {o : HO} {d1 d2 : D} (S : Sta B σ ρ G H0) (S2 : Sta B σ2 ((ρ.set i (.val d1)).set j (.val d2)) G2 H2) (hg : Ex G G2) (hH : Ex H0 H2) (hσ : ∀ m, m ≠ i → m ≠ j → σ2[m]? = σ[m]?)
    (ha : H0 a = none) (hL : ∃ xs, G2 a = some (.lst xs)) (hn : noL d2 = true) (hij : i ≠ j) (hiρ : i < ρ.length) : Sta B σ2 ((ρ.set i .un).set j (.val d2)) (del a G2) (L2.upd H2 a o) := by
  have Ga : G a = none := by
    cases r : G a with
    | none => rfl
    | some u => have := S.ex a u r; rw [ha] at this; cases this
  have Ba : B.H a = none := S.kn a ha
  have BGa : B.G a = none := by
    cases r : B.G a with
    | none => rfl
    | some u => have := S.bx a u r; rw [Ba] at this; cases this
  have gx : Ex G (del a G2) := fun c u hc => by
    have q : c ≠ a := by rintro rfl; rw [Ga] at hc; cases hc
    rw [del_ne q]; exact hg c u hc
  have hρ : ∀ m s, m ≠ i → m ≠ j → ((ρ.set i .un).set j (.val d2))[m]? = some s → ρ[m]? = some s ∧ ((ρ.set i (.val d1)).set j (.val d2))[m]? = some s := fun m s h1 h2 h3 => by
    rw [List.getElem?_set_ne (Ne.symm h2), List.getElem?_set_ne (Ne.symm h1)] at h3
    refine ⟨h3, ?_⟩
    rw [List.getElem?_set_ne (Ne.symm h2), List.getElem?_set_ne (Ne.symm h1)]
    exact h3
  refine ⟨?_, fun c u hc => ?_, fun c u hc hw => ?_, fun c hc => ?_, fun c u hc => S2.nw c u (del_ex c u hc), fun c u hc => ?_, S2.bx, fun l hl => ?_, fun m s w h1 h2 => ?_, fun m k l1 l2 o1 o2 mk h1 h2 => ?_⟩
  · rw [S2.len, List.length_set, List.length_set, List.length_set, List.length_set]
  · have q : c ≠ a := by rintro rfl; rw [del_same] at hc; cases hc
    rw [upd_ne q]; exact S2.ex c u (del_ex c u hc)
  · have q : c ≠ a := by rintro rfl; rw [Ba] at hc; cases hc
    rw [upd_ne q]; exact S2.fr c u hc hw
  · have q : c ≠ a := by rintro rfl; rw [upd_same] at hc; cases hc
    rw [upd_ne q] at hc; exact S2.kn c hc
  · have q : c ≠ a := by rintro rfl; rw [BGa] at hc; cases hc
    rw [del_ne q]; exact S2.bg c u hc
  · obtain ⟨⟨u, w, e, r⟩, k, hk⟩ := S2.pot l hl
    have q : l ≠ a := by rintro rfl; rw [Ba] at hk; cases hk
    exact ⟨⟨u, w, by rw [upd_ne q]; exact e, r⟩, k, hk⟩
  · by_cases mj : m = j
    · subst mj
      rw [List.getElem?_set] at h1
      simp only [if_true] at h1
      split at h1
      · rename_i hl
        cases h1
        have k : SlotOk B G2 H2 (.val d2) w := S2.env m _ w (by rw [List.getElem?_set_self (by simpa using hl)]) h2
        obtain ⟨x, e, iv⟩ := k
        refine ⟨x, e, Is.keepNL (fun c u hc nl => ?_) _ _ hn iv⟩
        have q : c ≠ a := by
          rintro rfl
          obtain ⟨xs, hx⟩ := hL
          rw [hx] at hc
          cases hc
          exact absurd rfl (nl xs)
        rw [del_ne q]; exact hc
      · cases h1
    · by_cases mi : m = i
      · subst mi
        rw [List.getElem?_set_ne (Ne.symm mj), List.getElem?_set_self hiρ] at h1
        cases h1
        trivial
      · obtain ⟨r1, r2⟩ := hρ m s mi mj h1
        have k2 := S2.env m s w r2 h2
        rw [hσ m mi mj] at h2
        have k := S.env m s w r1 h2
        cases s with
        | un => trivial
        | val d =>
          obtain ⟨x, e, iv⟩ := k
          exact ⟨x, e, Is.mono gx _ _ iv⟩
        | own lc ow =>
          obtain ⟨l, e, f1, f2, f3⟩ := k2
          have q : l ≠ a := by
            rintro rfl
            obtain ⟨l', e', _, _, ok⟩ := k
            rw [e] at e'
            cases e'
            obtain ⟨u, hu⟩ := ok.known
            rw [ha] at hu; cases hu
          refine ⟨l, e, by rw [del_ne q]; exact f1, f2, ?_⟩
          obtain ⟨l', e', _, _, ok⟩ := k
          rw [e] at e'
          cases e'
          exact ok.mono gx fun u z => by rw [upd_ne q]; exact hH _ _ z
  · have c1 : ∃ la oa, ((ρ.set i (.val d1)).set j (.val d2))[m]? = some (.own la oa) := by
      by_cases mj : m = j
      · subst mj
        rw [List.getElem?_set] at h1
        simp only [if_true] at h1
        split at h1 <;> cases h1
      · by_cases mi : m = i
        · subst mi
          rw [List.getElem?_set_ne (Ne.symm mj), List.getElem?_set_self hiρ] at h1
          cases h1
        · exact ⟨_, _, (hρ m _ mi mj h1).2⟩
    have c2 : ∃ la oa, ((ρ.set i (.val d1)).set j (.val d2))[k]? = some (.own la oa) := by
      by_cases mj : k = j
      · subst mj
        rw [List.getElem?_set] at h2
        simp only [if_true] at h2
        split at h2 <;> cases h2
      · by_cases mi : k = i
        · subst mi
          rw [List.getElem?_set_ne (Ne.symm mj), List.getElem?_set_self hiρ] at h2
          cases h2
        · exact ⟨_, _, (hρ k _ mi mj h2).2⟩
    obtain ⟨_, _, c1⟩ := c1
    obtain ⟨_, _, c2⟩ := c2
    exact S2.dist m k _ _ _ _ mk c1 c2
/-- x = [new things]; y = e2; x[0].append(None): behind it y's data stand as they were -/
theorem ss_tmp {t : TE} {i j : Nat} {x y : Str} {py q1 q2 q3 q4 cp zp p2 p3 : Pos} {e2 : Expr} {rest : List Stmt} {st1 : Stmt} {jj kk} {d2 : D} {N ps : List Str} {sc : Scope} {Q : List D → Prop} (S0 : FnScope N ps sc) (hij : i ≠ j) (hiρ : i < ρ.length)
    (ps1 : PS X st1 (tAsg t (gName i)))
    (h1 : ∀ (B : Base) (σ : L2.St) (G H : Hp), Sta B σ ρ G H → ∀ R : VK, (∀ a xs ds G' H', Q ds → Grow G H G' H' → G' a = some (.lst xs) → IsA G' ds xs → (∀ v ∈ xs, Fh H v) → R (.ref a) H') → t σ H R)
    (hQ : ∀ ds, Q ds → ∃ d0 r, ds = .lst d0 :: r ∧ d0.length < 1000000)
    (h2 : ∀ ds, Q ds → W true true X e2 (ρ.set i (.val (.lst ds))) fun u _ => u = d2) (hn : noL d2 = true) (h3 : WSs X rest ((ρ.set i .un).set j (.val d2)) E)
    (hXN : X.N = N := by rfl) (hi : X.N[i]? = some x := by rfl) (hj : X.N[j]? = some y := by rfl) (hx : Loc X.env.scope y := by first | exact .inl rfl | exact .inr rfl) (hf : X.fn y = true ∨ X.env.scope.names.lookup y = some .local := by first | exact .inl rfl | exact .inr rfl)
    (hv : Vis X.env.scope x := by first | exact .inl rfl | exact .inr (.inl rfl) | exact .inr (.inr rfl)) (hd : (x == ("__debug__" : Str)) = false := by decide) (hcd : (x == ("__classdict__" : Str)) = false := by decide)
    (hs2 : swapsWith e2 (some (.Name y py)) p2.line X.env = pure false := by rfl)
    (hpl : PlainIx (.Constant (.int 0) kk zp) := by exact fun _ _ => rfl)
    (hbase : attributeBase (.Subscript (.Name x q1) (.Constant (.int 0) kk zp) q4) "append" X.env (eval (.Subscript (.Name x q1) (.Constant (.int 0) kk zp) q4) X.env) = eval (.Subscript (.Name x q1) (.Constant (.int 0) kk zp) q4) X.env := by rfl)
    (hfew : ((backTo q3 (starEach [.Constant .none jj cp] X.env)).all (fun x => !x.1) && (backToKw q3 (keywordEach [] X.env)).all (fun x => x.1.isSome)
      && decide (([.Constant .none jj cp] : List Expr).length + ([] : List Keyword).length + (if ([] : List Keyword).isEmpty then 0 else 1) < 30)) = true := by rfl)
    (hline : (q2.endLine == q3.line) = true := by rfl) (hst : starEach [.Constant .none jj cp] X.env = (false, eval (.Constant .none jj cp) X.env) :: starEach [] X.env := by rfl) (hplain : (backTo q3 (starEach [] X.env)).any (·.1) = false := by rfl)
    (hs : swapsWith (.Call (.Attribute (.Subscript (.Name x q1) (.Constant (.int 0) kk zp) q4) "append" q2) [.Constant .none jj cp] [] q3) none p3.line X.env = pure false := by rfl) :
    WSs X (st1 :: .Assign [.Name y py] e2 p2 :: .Expr (.Call (.Attribute (.Subscript (.Name x q1) (.Constant (.int 0) kk zp) q4) "append" q2) [.Constant .none jj cp] [] q3) p3 :: rest) ρ E := fun B σ G H F S L => by
  refine wSs_of (pss_cons ps1 (pss_cons (ps_set (hXN ▸ S0.nd) hj hx pe_w hs2 hf) (pss_cons (ps_expr (pe_bm PySem.F.plainAttrs_list PySem.F.slot_list_append PySem.F.type_list_append mt_append (pe_ix ix_list (pe_var hi hv hd hcd) pe_int hpl) (pa_cons pe_non pa_nil hst) hbase hfew hline hst hplain) hs) pss_w))) ?_
  refine h1 B σ G H S _ fun a xs ds G1 H1 q gr e1 i1 fr => ?_
  obtain ⟨d0, r0, rfl, hl0⟩ := hQ ds q
  have S1 : Sta B (σ.set i (some (.ref a))) (ρ.set i (.val (.lst (.lst d0 :: r0)))) G1 H1 := (S.grow gr).set ⟨a, xs, rfl, e1, i1⟩
  refine h2 _ q B _ G1 H1 S1 _ fun v d ρ' G2 H2 hd S2 x2 pu iv => ?_
  obtain ⟨rfl, gr2⟩ := pu rfl
  subst hd
  have iv : Is G2 d v := iv
  have S3 := S2.set (i := j) iv
  have hiσ : i < σ.length := by rw [S.len]; exact hiρ
  refine ⟨.ref a, by rw [List.getElem?_set_ne (Ne.symm hij)]; exact List.getElem?_set_self hiσ, ?_⟩
  obtain ⟨y0, ys, rfl, b0, i2⟩ := i1
  obtain ⟨b, zs, rfl, f1, f2⟩ := b0
  obtain ⟨b', e', hb0⟩ := fr (.ref b) List.mem_cons_self
  cases e'
  have g2a := gr2.g _ _ e1
  have g2b := gr2.g _ _ f1
  refine ⟨a, _, 0, .ref b, rfl, rfl, .inl (.inl (S2.ex _ _ g2a)), by unfold atI ixN; simp, ?_⟩
  refine ⟨.inl ⟨rfl, zs, .inl (.inl (S2.ex _ _ g2b))⟩, ?_⟩
  refine ⟨b, zs, .non, rfl, rfl, S2.ex _ _ g2b, by rw [f2.length]; exact Nat.lt_trans hl0 (by decide), ?_⟩
  have S4 := Sta.thaw (o := .lst (zs ++ [.non])) S S3 (gr.g.trans gr2.g) (gr.h.trans gr2.h) (fun m m1 m2 => by rw [List.getElem?_set_ne (Ne.symm m2), List.getElem?_set_ne (Ne.symm m1)]) hb0 ⟨zs, g2b⟩ hn hij hiρ
  have ex4 : Ex G (del b G2) := fun c u hc => by
    have q : c ≠ b := by
      rintro rfl
      have := S.ex c u hc
      rw [hb0] at this; cases this
    rw [del_ne q]; exact gr2.g c u (gr.g c u hc)
  exact h3 B _ _ _ F S4 (L.mono ex4)
end
end DD

namespace DD
open PySem PySem.Spec PyProof.Rows L2
/-! ### zip of a tuple and a list -/
def ItTL (K : PySem.W.Frag) (a b : Addr) : It where
  go := fun i H => ∃ (xs ys : List V) (x y : V), (SqT K H a xs ∧ SqL K H b ys) ∧ xs[i]? = some x ∧ ys[i]? = some y
  yld := fun i H v H' => ∃ T x y, v = .ref T ∧ H T = none ∧ H' = upd H T (.tup [x, y]) ∧ (∀ l, SqT K H a l → l[i]? = some x) ∧ ∀ l, SqL K H b l → l[i]? = some y
  stop := fun i H => ∃ xs ys : List V, (SqT K H a xs ∧ SqL K H b ys) ∧ i = min xs.length ys.length
structure TLSt (z TI TO i1 i2 a b : Addr) (i : Nat) (h : Heap) : Prop where
  z : IsZip h z TI TO .none
  p : IsTupOf2 h TI (.ref i1) (.ref i2)
  o : ∃ u v, IsTupOf2 h TO u v
  t : h.IsTupleIter i1 a i
  l : h.IsListIter i2 b i
theorem turn_TL {P : Program} {w : World} {K : PySem.W.Frag} {elts : List Expr} {kk : Nat} {tpos : Pos} {a b z TI TO i1 i2 : Addr} (D : ZipSep2 z TI TO i1 i2 [i1, a] [i2, b]) (ha : a ≠ i1) (hb : b ≠ i2) :
    Turn P w K (.Tuple elts kk tpos) (ItTL K a b) [z, TI, TO, i1, i2] z (TLSt z TI TO i1 i2 a b) where
  mem := by simp
  obj := fun i h st c hc => by
    obtain ⟨o1, e1, _, d1⟩ := st.t
    obtain ⟨o2, e2, _, d2⟩ := st.l
    obtain ⟨u, v, e3⟩ := st.o
    rcases (show c = z ∨ c = TI ∨ c = TO ∨ c = i1 ∨ c = i2 by simpa using hc) with rfl | rfl | rfl | rfl | rfl
    · exact ⟨_, st.z, fun _ q => by cases q⟩
    · exact ⟨_, st.p, fun _ q => by cases q⟩
    · exact ⟨_, e3, fun _ q => by cases q⟩
    · exact ⟨_, e1, fun _ q => by rw [d1] at q; cases q⟩
    · exact ⟨_, e2, fun _ q => by rw [d2] at q; cases q⟩
  keep := fun i h h' st k => by
    obtain ⟨u, v, e3⟩ := st.o
    exact ⟨k z (by simp) _ st.z, k TI (by simp) _ st.p, ⟨u, v, k TO (by simp) _ e3⟩, st.t.at fun o => k i1 (by simp) o, st.l.at fun o => k i2 (by simp) o⟩
  item := by
    intro X hP hw hK hc i pins s σ H E I hf st hg
    subst hP hw hK
    obtain ⟨xs, ys, x, y, ⟨qa, qb⟩, hx, hy⟩ := hg
    obtain ⟨ia, ra, pa, _⟩ := I.tuple qa
    obtain ⟨ib, rb, pb, _⟩ := I.list qb
    have pa : s.heap.IsTuple a ia.toArray := pa
    obtain ⟨va, ga, wa⟩ := ra.get hx
    obtain ⟨vb, gb, wb⟩ := rb.get hy
    have la : i < ia.toArray.size := by have := (List.getElem?_eq_some_iff.mp ga).1; simpa using this
    have lb : i < ib.toArray.size := by have := (List.getElem?_eq_some_iff.mp gb).1; simpa using this
    have lz : z < s.heap.objs.size := Heap.lt_size st.z
    obtain ⟨u0, v0, eO⟩ := st.o
    refine wpAny_pyNext_zipD2_item D (Draws.tuple (A := X.A.in1) (I.ok.hd hc) i1 a ha ia.toArray) (Draws.list (A := X.A.in1) (I.ok.hd hc) i2 b hb ib.toArray) st.z st.p eO ⟨st.t, pa⟩ ⟨st.l, pb.isList⟩ la lb fun y1 y2 h1 tk f1 f2 g1 g2 g3 g4 g5 g6 hk => ?_
    have e1 : y1 = va := by
      have q : ia[i]? = some y1 := by simpa using f1
      rw [ga] at q; cases q; rfl
    have e2 : y2 = vb := by
      have q : ib[i]? = some y2 := by simpa using f2
      rw [gb] at q; cases q; rfl
    subst e1; subst e2
    refine ⟨_, rfl, wpAny_letOwnedTupleGo_zip (s := { s with heap := h1, toks := tk }) g1 fun h2 z2 sb => ?_⟩
    have hT : h2.get? s.heap.objs.size = some { cls := .type "tuple", data := .seq #[y1, y2] } := (sb.2 _ (Nat.ne_of_gt lz)).trans g5
    have new : ObjOk X.prog X.w (upd H s.heap.objs.size (.tup [x, y])) h2 s.heap.objs.size (.tup [x, y]) := ⟨by show 2 ≤ sizeLine; decide, [y1, y2], .cons wa (.cons wb .nil), ⟨_, hT, rfl, _, rfl⟩⟩
    have I2 : Inv X pins σ (upd H s.heap.objs.size (.tup [x, y])) { s with heap := h2, toks := tk } := I.turnedNew (ch := [z, TI, TO, i1, i2]) (fun c ob hm q => by
      have n : c ≠ z ∧ c ≠ TI ∧ c ≠ TO ∧ c ≠ i1 ∧ c ≠ i2 := by simpa using hm
      exact (sb.2 c n.1).trans (hk c ob n.1 n.2.2.1 n.2.2.2.1 n.2.2.2.2 q)) hf (Nat.le_refl _) new
    have nz1 : i1 ≠ z := fun e => D.zf1 (e ▸ D.mem1)
    have nz2 : i2 ≠ z := fun e => D.zf2 (e ▸ D.mem2)
    refine ⟨.ref s.heap.objs.size, _, I2, rfl, ⟨_, x, y, rfl, I.hok.fresh (Nat.le_refl _), rfl, fun l hl => ?_, fun l hl => ?_⟩, ⟨z2, (sb.2 _ D.TIz).trans (hk _ _ D.TIz D.TITO D.TIi1 D.TIi2 st.p), ⟨y1, y2, (sb.2 _ D.TOz).trans g2⟩, g3.1.at fun o q => (sb.2 _ nz1).trans q, g4.1.at fun o q => (sb.2 _ nz2).trans q⟩, fun c hm => ?_⟩
    · rw [I.tuple_inj hl qa]; exact hx
    · rw [I.list_inj hl qb]; exact hy
    · have lt : c < s.heap.objs.size := by
        obtain ⟨o1, k1, _⟩ := st.t
        obtain ⟨o2, k2, _⟩ := st.l
        rcases (show c = z ∨ c = TI ∨ c = TO ∨ c = i1 ∨ c = i2 by simpa using hm) with rfl | rfl | rfl | rfl | rfl
        · exact lz
        · exact Heap.lt_size st.p
        · exact Heap.lt_size eO
        · exact Heap.lt_size k1
        · exact Heap.lt_size k2
      rw [upd_ne (Nat.ne_of_lt lt)]
      exact (hf c hm).1
  done := by
    intro X hP hw hK hc i pins s σ H E I hf st hg
    subst hP hw hK
    obtain ⟨xs, ys, ⟨qa, qb⟩, he⟩ := hg
    obtain ⟨ia, ra, pa, _⟩ := I.tuple qa
    obtain ⟨ib, rb, pb, _⟩ := I.list qb
    have pa : s.heap.IsTuple a ia.toArray := pa
    have la := ra.length
    have lb := rb.length
    obtain ⟨u0, v0, eO⟩ := st.o
    have sa : ia.toArray.size = xs.length := by simp [la]
    have sb : ib.toArray.size = ys.length := by simp [lb]
    refine wpAny_pyNext_zipD2_end D (Draws.tuple (A := X.A.in1) (I.ok.hd hc) i1 a ha ia.toArray) (Draws.list (A := X.A.in1) (I.ok.hd hc) i2 b hb ib.toArray) st.z st.p eO ⟨st.t, pa⟩ ⟨st.l, pb.isList⟩ (by omega) (by omega) (by omega) fun h' tk hk => ⟨rfl, I.turnedL (ch := [z, TI, TO, i1, i2]) (fun c ob hm q => ?_) hf⟩
    have n : c ≠ z ∧ c ≠ TI ∧ c ≠ TO ∧ c ≠ i1 ∧ c ≠ i2 := by simpa using hm
    exact hk c ob n.1 n.2.2.1 n.2.2.2.1 n.2.2.2.2 q
  self := fun A i s Q E st h => wpAny_pyIter_zip st.z h
def iTL (K : PySem.W.Frag) (ta : TA) : TI := fun σ H R => ta σ H fun vs H1 => ∃ a b xs ys, vs = [.ref a, .ref b] ∧ SqT K H1 a xs ∧ SqL K H1 b ys ∧ R (ItTL K a b) H1
theorem pi_TL {X : Cx} {e e2 : Expr} {ta : TA} {pp pos tpos : Pos} {elts : List Expr} {kk : Nat} (hg : Gl X "zip") (hm : X.mg "zip" = none) (ha : PA X [e, e2] ta)
    (hs : starEach [e, e2] X.env = (false, eval e X.env) :: starEach [e2] X.env := by rfl) (hpl : (backTo pos (starEach [e2] X.env)).any (·.1) = false := by rfl) : PI X (.Tuple elts kk tpos) (.Call (.Name "zip" pp) [e, e2] [] pos) (iTL X.K ta) := by
  refine ⟨fun pins s σ H R I hyp => ?_⟩
  refine Call_ (ld_blt I hg hm PyProof.Rows.boot_zip (PyProof.Rows.callWith_type1 (thn (ha.run pos pins s σ H _ I hyp) fun us s1 ⟨vs, H1, I1, r1, q1⟩ => ?_) hs hpl))
  obtain ⟨a, b, xs, ys, rfl, qa, qb, q⟩ := q1
  cases r1 with
  | cons ra rr =>
    cases rr with
    | cons rb rr =>
      cases rr; cases ra; cases rb
      obtain ⟨ia, va, pa, _⟩ := I1.tuple qa
      obtain ⟨ib, vb, pb, _⟩ := I1.list qb
      have pa : s1.heap.IsTuple a ia.toArray := pa
      have la : a < s1.heap.objs.size := by obtain ⟨_, k, _⟩ := pa; exact Heap.lt_size k
      have lb : b < s1.heap.objs.size := pb.lt
      refine zip_begins2 (begins_tuple a ia.toArray) (begins_list b ib.toArray) pa pb.isList fun h' g1 g2 g3 g4 g5 g6 hk => wpAny_pyIter_zip g1 ?_
      have I2 : Inv X pins σ H1 { s1 with heap := h' } := I1.kept (t' := s1.toks) hk
      have D := zip_sep2 (N := s1.heap.objs.size) (fp1 := [a]) (fp2 := [b]) (fun c hc => by rw [List.mem_singleton.mp hc]; exact la) (fun c hc => by rw [List.mem_singleton.mp hc]; exact lb)
      refine ⟨_, [s1.heap.objs.size + 4, s1.heap.objs.size + 2, s1.heap.objs.size + 3, s1.heap.objs.size, s1.heap.objs.size + 1], _, _, H1, rfl, I2, turn_TL D (Nat.ne_of_lt la) (Nat.ne_of_lt (Nat.lt_succ_of_lt lb)), ⟨g1, g2, ⟨_, _, g3⟩, ⟨_, g4, rfl, rfl⟩, ⟨_, g5, rfl, rfl⟩⟩, fun c hm => ?_, q⟩
      have le : s1.heap.objs.size ≤ c := by
        rcases (show c = s1.heap.objs.size + 4 ∨ c = s1.heap.objs.size + 2 ∨ c = s1.heap.objs.size + 3 ∨ c = s1.heap.objs.size ∨ c = s1.heap.objs.size + 1 by simpa using hm) with z | z | z | z | z <;> rw [z] <;> first | exact Nat.le_refl _ | exact Nat.le_add_right _ _
      exact I1.fpOk le (I1.hok.fresh le)
theorem walk_TL {K : PySem.W.Frag} {a b : Addr} {xs ys : List V} : Walk (ItTL K a b) (min xs.length ys.length) (fun H => SqT K H a xs ∧ SqL K H b ys) (YPair (fun i => xs[i]?) (fun i => ys[i]?)) where
  goes := fun i H hi q => ⟨xs, ys, xs[i]'(by omega), ys[i]'(by omega), q, List.getElem?_eq_getElem (by omega), List.getElem?_eq_getElem (by omega)⟩
  stops := fun H q => ⟨xs, ys, q, rfl⟩
  yields := fun i H v H' _ q y => by
    obtain ⟨T, x, u, z1, z2, z3, z4, z5⟩ := y
    exact ⟨T, x, u, z1, z2, z3, z4 xs q.1, z5 ys q.2⟩
section
variable {X : Cx} {p : Bool} {ρ : Rho} {QI : List D → Rho → Prop}
theorem wi_zipTL {a b : Expr} {elts : List Expr} {kk : Nat} {pp pos tpos : Pos} (hg : Gl X "zip") (hm : X.mg "zip" = none) (h : WA p true X [a, b] ρ fun ds ρ' => ∃ xs ys, ds = [.tup xs, .lst ys] ∧ QI ((xs.zip ys).map fun q => D.tup [q.1, q.2]) ρ')
    (hs : starEach [a, b] X.env = (false, eval a X.env) :: starEach [b] X.env := by rfl) (hpl : (backTo pos (starEach [b] X.env)).any (·.1) = false := by rfl) : WI p X (.Tuple elts kk tpos) (.Call (.Name "zip" pp) [a, b] [] pos) ρ QI := fun B σ G H S R r => by
  refine wI_of (pi_TL hg hm pa_w hs hpl) ?_
  refine h B σ G H S _ fun vs ds ρ' G' H' q S' x pu i => ?_
  obtain ⟨xs, ys, rfl, q⟩ := q
  obtain ⟨v, u, rfl, ⟨l1, as, rfl, e2, e3⟩, l2, bs, rfl, f2, f3⟩ := isA_two i
  refine ⟨l1, l2, as, bs, rfl, .inl (.inl (S'.ex _ _ e2)), .inl (.inl (S'.ex _ _ f2)), r _ _ ρ' G' H' q S' x pu ?_⟩
  exact walkD_pair (n := min as.length bs.length) (by rw [e3.length, f3.length]) (walk_TL (xs := as) (ys := bs)) (fun H h => ⟨.inl (.inl (h _ _ e2)), .inl (.inl (h _ _ f2))⟩) (fun i d hd => e3.get hd) (fun i d hd => f3.get hd)
end
end DD

namespace DD
open PySem PySem.Spec PyProof.Rows L2
section
variable {p g : Bool} {X : Cx} {ρ : Rho} {Q : D → Rho → Prop} {QT : Bool → Rho → Prop} {Z : D → Prop} {E : DE} {pos : Pos}
/-! ### truths compared, shown -/
theorem op_isnotB : OpR X (compareOp .IsNot) (fun x y H Q => ∃ a b, x = .bl a ∧ y = .bl b ∧ Q (.bl (!decide (a = b))) H) := by
  intro pins s σ H x y v u Q I rx ry h
  obtain ⟨a, b, rfl, rfl, q⟩ := h
  cases rx; cases ry
  cases a <;> cases b <;> exact wpAny_pure (fin_bl I q rfl)
theorem o_isnotB {a b : Bool} (q : Z (.bl (!decide (a = b)))) : Op2 g X (compareOp .IsNot) (.bl a) (.bl b) Z := op2_sc (z := .bl (!decide (a = b))) op_isnotB rfl rfl rfl (fun _ _ h => ⟨a, b, rfl, rfl, h⟩) q
theorem o_beq {a b : Bool} (hu : X.A.units + 64 < cLine) (q : Z (.bl (decide (a = b)))) : Op2 g X (compareOp .Eq) (.bl a) (.bl b) Z := by
  refine o_eqD hu (a := .bool a) (b := .bool b) rfl rfl rfl rfl ?_
  rw [show PyData.eqv (.bool a) (.bool b) = decide (a = b) by cases a <;> cases b <;> rfl]
  exact q
theorem o_bne {a b : Bool} (hu : X.A.units + 64 < cLine) (q : Z (.bl (!decide (a = b)))) : Op2 g X (compareOp .NotEq) (.bl a) (.bl b) Z := by
  refine o_neD hu (a := .bool a) (b := .bool b) rfl rfl rfl rfl ?_
  rw [show PyData.eqv (.bool a) (.bool b) = decide (a = b) by cases a <;> cases b <;> rfl]
  exact q
def shB (b : Bool) : Str := if b then "True" else "False"
theorem call_reprB : CallR X (.builtin "repr") (fun xs H Q => ∃ b, xs = [.bl b] ∧ Q (.str (shB b)) H) := by
  intro pins s σ H xs us Q I r h
  obtain ⟨b, rfl, q⟩ := h
  obtain ⟨u, rfl, ru⟩ := vals1 r
  cases ru
  exact PySem.P.repr_of_bool ⟨.str _, H, I.tok _, ⟨_, rfl⟩, q⟩
theorem c_reprB {b : Bool} (q : Z (.str (shB b))) : OpC g X (.builtin "repr") [.bl b] Z := by
  intro G H vs R ex i k
  obtain ⟨v, rfl, e⟩ := isA_one (isA_any ex i)
  cases (e : v = .bl b)
  exact ⟨_, call_reprB, b, rfl, k _ (.str (shB b)) G H q (Grow.refl ex) rfl⟩
/-! ### an instance == a list -/
variable {C f : Addr} {fd : FuncData} {ps : List Str} {k : Nat}
def rEqL (C : Addr) (sp : Sp) : R2 := fun x y H Q => ∃ a b dx fs xs, x = .ref a ∧ y = .ref b ∧ H a = some (.ins C dx fs) ∧ H b = some (.lst xs) ∧ sp [x, y] H (fun v H' => (∃ c, v = .bl c) ∧ Q v H') E0
theorem op_eqL {sp : Sp} (F : FnOk X.prog X.w X.K X.mg X.base CX0 k f fd ps sp) (hr : Room k X.A) (hs : PySem.W.findIn X.K (.ref C) "__eq__" = some (some (.ref f))) (hf : PySem.W.isFn X.K (.ref f) = true) (hn : PySem.W.notFirst X.K C (.type "list") = true) (hb : Binds X.K fd ps []) : OpR X (compareOp .Eq) (rEqL C sp) := by
  intro pins s σ H x y v u Q I rx ry h
  obtain ⟨a, b, dx, fs, xs, rfl, rfl, ha, hb', hsp⟩ := h
  cases rx
  cases ry
  obtain ⟨mA, J, _⟩ := ins_get I.hok ha
  obtain ⟨od, J, _⟩ := J.look
  obtain ⟨_, _, n, _, h1⟩ := (show ObjOk X.prog X.w H s.heap b (.lst xs) from I.hok b _ hb')
  have ty : PySem.W.Looks (model X.prog X.w) s.heap (typeOf (.ref b)) (.type "list") := (PySem.W.Looks.ld h1).andThen .now
  obtain ⟨m, hF⟩ := I.fr
  show wpAny (model X.prog X.w) X.A (richCompare .Eq (.ref a) (.ref b)) (EP X pins σ Q) X.xe s
  refine PySem.W.cmp_K (op := .Eq) (tb := .type "list") hr.units0 hF I.ok.mod.kin J ty hn hs hf ?_
  have hl := F.len _ _ _ _ hsp
  have bt := hb s [.ref a, .ref b] I.kIn (by simpa using hl)
  refine wpAny_call (codeAny_mono (F.run X.A X.stack s H ⟨[.ref a, .ref b], []⟩ [.ref a, .ref b] [.ref a, .ref b] _ E0 hr I.env0 (by simpa using bt) (.cons rfl (.cons rfl .nil)) hsp) fun r s' hq => ?_)
  cases r with
  | error e => exact (pass0 pins σ H s e s' I hq : X.xe e s')
  | ok fl =>
    cases fl with
    | ret w =>
      obtain ⟨z, H', I', rz, ⟨c, ez⟩, q⟩ := I.after hq
      subst ez
      cases rz
      exact ⟨.bl c, H', I', rfl, q⟩
    | next => exact hq.elim
    | brk => exact hq.elim
    | cont => exact hq.elim
theorem o_eqL {c : List D → (D → Prop) → Prop} {fs : List (Str × D)} {ds : List D} (F : FnOk X.prog X.w X.K X.mg X.base CX0 k f fd ps (spD c)) (hr : Room k X.A) (hs : PySem.W.findIn X.K (.ref C) "__eq__" = some (some (.ref f))) (hf : PySem.W.isFn X.K (.ref f) = true) (hn : PySem.W.notFirst X.K C (.type "list") = true) (hb : Binds X.K fd ps [])
    (q : c [.obj C fs, .lst ds] fun d => ∃ k, d = .bl k ∧ Z (.bl k)) : Op2 true X (compareOp .Eq) (.obj C fs) (.lst ds) Z := by
  intro G H v u R ex i j kk
  obtain ⟨a, dx, gs, rfl, e2, e3⟩ := id i
  obtain ⟨b, xs, rfl, f2, f3⟩ := id j
  refine ⟨_, op_eqL F hr hs hf hn hb, a, b, dx, gs, xs, rfl, rfl, ex _ _ e2, ex _ _ f2, G, [.obj C fs, .lst ds], fun d => ∃ k, d = .bl k ∧ Z (.bl k), ex, ⟨_, _, rfl, i, _, _, rfl, j, rfl⟩, q, fun v d G' H' z gr iz => ?_⟩
  obtain ⟨k, rfl, z⟩ := z
  exact ⟨⟨k, iz⟩, kk v (.bl k) G' H' z gr iz⟩
/-- isinstance(x, C), x a list -/
theorem w_isiL {y : Str} {e : Expr} {pp py : Pos} (hk : PySem.W.kitOne X.K (.type "list") (.ref C) = some false) (hcl : Cls X.K C) (hmi : X.mg "isinstance" = none) (hC : X.mg y = some (.ref C)) (h : W p true X e ρ fun x ρ1 => ∃ ds, x = .lst ds ∧ Q (.bl false) ρ1)
    (hg1 : Gl X "isinstance" := by rfl) (hg2 : Gl X y := by rfl) (hd : (y == ("__debug__" : Str)) = false := by decide)
    (he : starEach [e, .Name y py] X.env = (false, eval e X.env) :: starEach [.Name y py] X.env := by rfl) (he2 : starEach [.Name y py] X.env = (false, eval (.Name y py) X.env) :: starEach [] X.env := by rfl) (hpl : (backTo pos (starEach [.Name y py] X.env)).any (·.1) = false := by rfl) :
    W p g X (.Call (.Name "isinstance" pp) [e, .Name y py] [] pos) ρ Q := fun B σ G H S R r => by
  refine wE_of (pe_callB (id := "isinstance") call_any hg1 hmi (by decide +kernel) (pa_cons pe_w (pa_cons (pe_glob (v := .ref C) hg2 hC rfl hd) pa_nil he2) he) (by decide) (by decide) he hpl) ?_
  refine h B σ G H S _ fun v x ρ' G' H' q S' y pu i => ?_
  obtain ⟨ds, rfl, q⟩ := q
  obtain ⟨b, xs, rfl, f2, f3⟩ := i
  exact ⟨_, call_isi, .ref b, .ref C, .type "list", .ref C, false, rfl, .own C, .base (.lst (S'.ex _ _ f2)), hk, r _ (.bl false) ρ' G' H' q S' y pu (is_h S' rfl)⟩
end
end DD

namespace DD
open PySem PySem.Spec PyProof.Rows L2
section
variable {p g : Bool} {X : Cx} {ρ : Rho} {Q : D → Rho → Prop} {pos : Pos} {scope : Scope} {N ps : List Str} {sc : Scope}
/-! ### z = [elt for x, y in iter for u in iter1] -/
theorem s_lc21 (m i j l : Nat) (inner : D → List D) (f : D → D → D) {E : DE} {x y u z : Str} {px py pt pu pz spos : Pos} {kk : Nat} {iter iter1 elt : Expr} (S0 : FnScope N ps sc)
    (h : WI false X (.Tuple [.Name x px, .Name y py] kk pt) iter ρ fun ds ρ1 => (ds.flatMap fun d => (inner d).map (f d)).length ≤ 40000 ∧ (∀ d ∈ ds, ∃ a b, d = .tup [a, b] ∧
      (∀ s H C cl fp, WI true (Blk X scope s H C cl fp) (.Name u pu) iter1 (((((ρ1.set l .un).set j .un).set i .un).set i (.val a)).set j (.val b)) fun es _ => es = inner d) ∧
      ∀ e ∈ inner d, ∀ s H C cl fp, W true true (Blk X scope s H C cl fp) elt (((((((ρ1.set l .un).set j .un).set i .un).set i (.val a)).set j (.val b)).set l .un).set l (.val e)) fun w _ => w = f d e) ∧
      E.nx (ρ1.set m (.val (.lst (ds.flatMap fun d => (inner d).map (f d))))))
    (hXN : X.N = N := by rfl) (hbk : blkC X.N X.env.scope scope [(x, i), (y, j), (u, l)] = true := by kernel_rfl) (hi : X.N[i]? = some x := by rfl) (hj : X.N[j]? = some y := by rfl) (hk : X.N[l]? = some u := by rfl)
    (hl : Loc1 X scope x := by intro _ _ _ _ _; first | exact ⟨.inl rfl, .inr rfl⟩ | exact ⟨.inr rfl, .inl rfl⟩) (hl2 : Loc1 X scope y := by intro _ _ _ _ _; first | exact ⟨.inl rfl, .inr rfl⟩ | exact ⟨.inr rfl, .inl rfl⟩) (hl3 : Loc1 X scope u := by intro _ _ _ _ _; first | exact ⟨.inl rfl, .inr rfl⟩ | exact ⟨.inr rfl, .inl rfl⟩)
    (h2 : Two X scope x y px py := by intro _ _ _ _ _; exact ⟨rfl, rfl, rfl, rfl⟩)
    (hc : X.calm = true := by rfl) (hs : ∀ x, foldedSetIterable iter X.env x = pure x := by intro _; rfl) (hs1 : ∀ env x, foldedSetIterable iter1 env x = pure x := by intro _ _; rfl) (hz : X.N[m]? = some z := by rfl) (hzl : X.env.scope.names.lookup z = some .local := by rfl)
    (hsw : swapsWith (.ListComp elt [⟨.Tuple [.Name x px, .Name y py] kk pt, iter, [], 0⟩, ⟨.Name u pu, iter1, [], 0⟩] scope pos) (some (.Name z pz)) spos.line X.env = pure true := by exact sw_true rfl rfl rfl (by decide +kernel)) :
    WS X (.Assign [.Name z pz] (.ListComp elt [⟨.Tuple [.Name x px, .Name y py] kk pt, iter, [], 0⟩, ⟨.Name u pu, iter1, [], 0⟩] scope pos) spos) ρ E :=
  s_setX (ps_setLc2 (own := [(x, i), (y, j), (u, l)]) (vs1 := (Tg.one l).slots) hc (hXN ▸ S0.nd) hz hzl hsw pi_w (blkOk_by hbk) (fun k hk => by simp [Tg.slots] at hk ⊢; simp [hk]) (pg2 S0 hXN hc hi hl hj hl2 h2) (fun _ _ _ _ _ => pts_nil) pi_c (pg1 S0 hXN hk hl3) (fun _ _ _ _ _ => pts_nil) pe_c hs hs1)
    (x_lc2 (T := .two i j) (T1 := .one l) (own := [(x, i), (y, j), (u, l)]) inner f (fun k hk => by simp [Tg.slots] at hk ⊢; rcases hk with h | h <;> simp [h]) (fun k hk => by simp [Tg.slots] at hk ⊢; simp [hk]) fun B σ G H S R r => h B σ G H S R fun J ds ρ1 G1 H1 q S1 y pu wk => r J ds ρ1 G1 H1 ⟨q.1, fun d hd => by
      obtain ⟨a, b, rfl, h1, h2⟩ := q.2.1 d hd
      exact ⟨_, rfl, h1, fun e he => ⟨_, rfl, h2 e he⟩⟩, q.2.2⟩ S1 y pu wk)
/-! ### keywords in the parameters' own sequence; C(k = v, ..), two keywords, turned -/
/-- keywords alone -/
def onlyK {α : Type} (n : Nat) : List α → List α → List α
  | [], ws => ws
  | u :: _, _ => List.replicate (n + 1) u
theorem vals_onlyK {n : Nat} {vs zs : List V} {us ws : List Value} (h : Vals vs us) (h2 : Vals zs ws) : Vals (onlyK n vs zs) (onlyK n us ws) := by
  cases h with
  | nil => exact h2
  | cons a _ =>
    show Vals (List.replicate (n + 1) _) (List.replicate (n + 1) _)
    induction n + 1 with
    | zero => exact .nil
    | succ m ih => exact .cons a ih
structure DfI (P : Program) (w : World) (K : PySem.W.Frag) (mg : Str → Option Value) (base : Heap) (k : Nat) (x : Str) (ps : List Str) (sp : Sp) : Prop where
  ex : ∃ f fd, FnOk P w K mg base CX0 k f fd ps sp ∧ mg x = some (.ref f) ∧ PySem.W.keepIn K (.ref f) = true ∧ KBinds K fd ps ps (onlyK ps.length) (onlyK ps.length)
theorem callI {k : Nat} {ps : List Str} {c : List D → (D → Prop) → Prop} {x : Str} {pp : Pos} {kws : List Keyword} (F : DfI X.prog X.w X.K X.mg X.base k x ps (spD c)) (hr : Room k X.A)
    (h : WK p true X kws ρ fun ds ρ' => c ds fun d => Q d ρ') (hg : Gl X x := by rfl) (hdb : (x == ("__debug__" : Str)) = false := by decide)
    (hall : (backToKw pos (keywordEach kws X.env)).all (·.1.isSome) = true := by rfl) (hks : (backToKw pos (keywordEach kws X.env)).filterMap (·.1) = ps := by rfl)
    (hpl : ((backTo pos (starEach [] X.env)).any (·.1) || (backToKw pos (keywordEach kws X.env)).any (·.1.isNone)) = false := by rfl) : W p g X (.Call (.Name x pp) [] kws pos) ρ Q := by
  obtain ⟨f, fd, F, hm, hk, hb⟩ := F.ex
  exact w_callK0 (gD := id) F hr hm hk hb (fun _ _ _ h => h) h hg hdb hall hks hpl
theorem w_makeK {C f : Addr} {x : Str} {pp : Pos} {fd : FuncData} {k : Nat} {ps ks : List Str} {c : List D → (List (Str × D) → Prop) → Prop} {kws : List Keyword} (M : Mk X.K C f) (F : FnOk X.prog X.w X.K X.mg X.base CX0 k f fd ps (spI C c)) (hr : Room (k + 1) X.A) (hm : X.mg x = some (.ref C))
    (hb : KBn X.K fd ps 1 ks (fun us ws => us ++ sw2 ws) (fun vs zs => vs ++ sw2 zs)) (h : WK p true X kws ρ fun ds ρ' => ds.length = ks.length ∧ c (sw2 ds) fun fs => Q (.obj C fs) ρ') (hg : Gl X x := by rfl) (hdb : (x == ("__debug__" : Str)) = false := by decide)
    (hall : (backToKw pos (keywordEach kws X.env)).all (·.1.isSome) = true := by rfl) (hks : (backToKw pos (keywordEach kws X.env)).filterMap (·.1) = ks := by rfl)
    (hpl : ((backTo pos (starEach [] X.env)).any (·.1) || (backToKw pos (keywordEach kws X.env)).any (·.1.isNone)) = false := by rfl) : W p g X (.Call (.Name x pp) [] kws pos) ρ Q := fun B σ G H S R r => by
  refine wE_of (pe_makeK0 M F hr hg hm hb pass0 pk_w hall hks hdb hpl) ?_
  refine h B σ G H S _ fun vs ds ρ' G' H' q S' y pu i => ?_
  have z := make_go (Q := Q) (G0 := G) (R := R) (E' := E0) S' (isA_sw i) q.2 fun v d G2 H2 z S2 gr iz => r v d ρ' G2 H2 z S2 (y.trans gr.g) (fun w => ⟨(pu w).1, (pu w).2.trans gr⟩) (is_h S2 iz)
  exact ⟨rfl, by rw [i.length]; exact q.1, fun x dx hx hdx ne => z x dx hx hdx ne⟩
end
end DD

namespace K12
open PySem PySem.Spec PyProof.Rows L2 DD
def topS (i : Nat) : Stmt := PySem.Challenge.pw_flippedpoints_k12_whole_nets_looked_at.main.body.getD i (.Pass ⟨0, 0, 0, 0⟩)
abbrev s_is_integer : Stmt := topS 1
abbrev N_is_integer : List Str := ["value"]
theorem c_is_integer : FnScope N_is_integer ["value"] (defScope s_is_integer) := ⟨rfl, rfl, rfl, by decide +kernel, rfl, by decide +kernel, by decide +kernel⟩
abbrev s_is_count : Stmt := topS 2
abbrev N_is_count : List Str := ["value"]
theorem c_is_count : FnScope N_is_count ["value"] (defScope s_is_count) := ⟨rfl, rfl, rfl, by decide +kernel, rfl, by decide +kernel, by decide +kernel⟩
abbrev s_is_count_below : Stmt := topS 3
abbrev N_is_count_below : List Str := ["value", "bound"]
theorem c_is_count_below : FnScope N_is_count_below ["value", "bound"] (defScope s_is_count_below) := ⟨rfl, rfl, rfl, by decide +kernel, rfl, by decide +kernel, by decide +kernel⟩
abbrev s_is_row : Stmt := topS 4
abbrev N_is_row : List Str := ["value"]
theorem c_is_row : FnScope N_is_row ["value"] (defScope s_is_row) := ⟨rfl, rfl, rfl, by decide +kernel, rfl, by decide +kernel, by decide +kernel⟩
abbrev s_InvalidNet_init_ : Stmt := inClass (topS 7) 0
abbrev N_InvalidNet_init_ : List Str := ["self", "value"]
theorem c_InvalidNet_init_ : FnScope N_InvalidNet_init_ ["self", "value"] (defScope s_InvalidNet_init_) := ⟨rfl, rfl, rfl, by decide +kernel, rfl, by decide +kernel, by decide +kernel⟩
abbrev s_InvalidSetting_init_ : Stmt := inClass (topS 8) 0
abbrev N_InvalidSetting_init_ : List Str := ["self", "value"]
theorem c_InvalidSetting_init_ : FnScope N_InvalidSetting_init_ ["self", "value"] (defScope s_InvalidSetting_init_) := ⟨rfl, rfl, rfl, by decide +kernel, rfl, by decide +kernel, by decide +kernel⟩
abbrev s_InvalidPoint_init_ : Stmt := inClass (topS 9) 0
abbrev N_InvalidPoint_init_ : List Str := ["self", "value"]
theorem c_InvalidPoint_init_ : FnScope N_InvalidPoint_init_ ["self", "value"] (defScope s_InvalidPoint_init_) := ⟨rfl, rfl, rfl, by decide +kernel, rfl, by decide +kernel, by decide +kernel⟩
abbrev s_InvalidTrack_init_ : Stmt := inClass (topS 10) 0
abbrev N_InvalidTrack_init_ : List Str := ["self", "value"]
theorem c_InvalidTrack_init_ : FnScope N_InvalidTrack_init_ ["self", "value"] (defScope s_InvalidTrack_init_) := ⟨rfl, rfl, rfl, by decide +kernel, rfl, by decide +kernel, by decide +kernel⟩
abbrev s_InvalidEnds_init_ : Stmt := inClass (topS 11) 0
abbrev N_InvalidEnds_init_ : List Str := ["self", "value"]
theorem c_InvalidEnds_init_ : FnScope N_InvalidEnds_init_ ["self", "value"] (defScope s_InvalidEnds_init_) := ⟨rfl, rfl, rfl, by decide +kernel, rfl, by decide +kernel, by decide +kernel⟩
abbrev s_InvalidExit_init_ : Stmt := inClass (topS 12) 0
abbrev N_InvalidExit_init_ : List Str := ["self", "value"]
theorem c_InvalidExit_init_ : FnScope N_InvalidExit_init_ ["self", "value"] (defScope s_InvalidExit_init_) := ⟨rfl, rfl, rfl, by decide +kernel, rfl, by decide +kernel, by decide +kernel⟩
abbrev s_InvalidExits_init_ : Stmt := inClass (topS 13) 0
abbrev N_InvalidExits_init_ : List Str := ["self", "value"]
theorem c_InvalidExits_init_ : FnScope N_InvalidExits_init_ ["self", "value"] (defScope s_InvalidExits_init_) := ⟨rfl, rfl, rfl, by decide +kernel, rfl, by decide +kernel, by decide +kernel⟩
abbrev s_InvalidTarget_init_ : Stmt := inClass (topS 14) 0
abbrev N_InvalidTarget_init_ : List Str := ["self", "value"]
theorem c_InvalidTarget_init_ : FnScope N_InvalidTarget_init_ ["self", "value"] (defScope s_InvalidTarget_init_) := ⟨rfl, rfl, rfl, by decide +kernel, rfl, by decide +kernel, by decide +kernel⟩
abbrev s_TooMany_init_ : Stmt := inClass (topS 16) 0
abbrev N_TooMany_init_ : List Str := ["self", "what", "limit"]
theorem c_TooMany_init_ : FnScope N_TooMany_init_ ["self", "what", "limit"] (defScope s_TooMany_init_) := ⟨rfl, rfl, rfl, by decide +kernel, rfl, by decide +kernel, by decide +kernel⟩
abbrev s_Net_init_ : Stmt := inClass (topS 22) 0
abbrev N_Net_init_ : List Str := ["self", "ends", "exits", "targets", "row", "target"]
theorem c_Net_init_ : FnScope N_Net_init_ ["self", "ends", "exits"] (defScope s_Net_init_) := ⟨rfl, rfl, rfl, by decide +kernel, rfl, by decide +kernel, by decide +kernel⟩
abbrev s_Net_ends : Stmt := inClass (topS 22) 1
abbrev N_Net_ends : List Str := ["self"]
theorem c_Net_ends : FnScope N_Net_ends ["self"] (defScope s_Net_ends) := ⟨rfl, rfl, rfl, by decide +kernel, rfl, by decide +kernel, by decide +kernel⟩
abbrev s_Net_points : Stmt := inClass (topS 22) 2
abbrev N_Net_points : List Str := ["self"]
theorem c_Net_points : FnScope N_Net_points ["self"] (defScope s_Net_points) := ⟨rfl, rfl, rfl, by decide +kernel, rfl, by decide +kernel, by decide +kernel⟩
abbrev s_Net_many : Stmt := inClass (topS 22) 3
abbrev N_Net_many : List Str := ["self"]
theorem c_Net_many : FnScope N_Net_many ["self"] (defScope s_Net_many) := ⟨rfl, rfl, rfl, by decide +kernel, rfl, by decide +kernel, by decide +kernel⟩
abbrev s_Net_exits : Stmt := inClass (topS 22) 4
abbrev N_Net_exits : List Str := ["self", "row"]
theorem c_Net_exits : FnScope N_Net_exits ["self"] (defScope s_Net_exits) := ⟨rfl, rfl, rfl, by decide +kernel, rfl, by decide +kernel, by decide +kernel⟩
abbrev s_Net_targets : Stmt := inClass (topS 22) 5
abbrev N_Net_targets : List Str := ["self"]
theorem c_Net_targets : FnScope N_Net_targets ["self"] (defScope s_Net_targets) := ⟨rfl, rfl, rfl, by decide +kernel, rfl, by decide +kernel, by decide +kernel⟩
abbrev s_Net_eq_ : Stmt := inClass (topS 22) 6
abbrev N_Net_eq_ : List Str := ["self", "other"]
theorem c_Net_eq_ : FnScope N_Net_eq_ ["self", "other"] (defScope s_Net_eq_) := ⟨rfl, rfl, rfl, by decide +kernel, rfl, by decide +kernel, by decide +kernel⟩
abbrev s_is_target_of : Stmt := topS 23
abbrev N_is_target_of : List Str := ["value", "ends", "points"]
theorem c_is_target_of : FnScope N_is_target_of ["value", "ends", "points"] (defScope s_is_target_of) := ⟨rfl, rfl, rfl, by decide +kernel, rfl, by decide +kernel, by decide +kernel⟩
abbrev s_are_exits : Stmt := topS 24
abbrev N_are_exits : List Str := ["value", "ends", "row"]
theorem c_are_exits : FnScope N_are_exits ["value", "ends"] (defScope s_are_exits) := ⟨rfl, rfl, rfl, by decide +kernel, rfl, by decide +kernel, by decide +kernel⟩
abbrev s_is_exit_row : Stmt := topS 25
abbrev N_is_exit_row : List Str := ["value", "ends", "points", "target"]
theorem c_is_exit_row : FnScope N_is_exit_row ["value", "ends", "points"] (defScope s_is_exit_row) := ⟨rfl, rfl, rfl, by decide +kernel, rfl, by decide +kernel, by decide +kernel⟩
abbrev s_is_point : Stmt := topS 26
abbrev N_is_point : List Str := ["net", "value"]
theorem c_is_point : FnScope N_is_point ["net", "value"] (defScope s_is_point) := ⟨rfl, rfl, rfl, by decide +kernel, rfl, by decide +kernel, by decide +kernel⟩
abbrev s_is_target : Stmt := topS 27
abbrev N_is_target : List Str := ["net", "value"]
theorem c_is_target : FnScope N_is_target ["net", "value"] (defScope s_is_target) := ⟨rfl, rfl, rfl, by decide +kernel, rfl, by decide +kernel, by decide +kernel⟩
abbrev s_check_net : Stmt := topS 28
abbrev N_check_net : List Str := ["net"]
theorem c_check_net : FnScope N_check_net ["net"] (defScope s_check_net) := ⟨rfl, rfl, rfl, by decide +kernel, rfl, by decide +kernel, by decide +kernel⟩
abbrev s_check_setting : Stmt := topS 29
abbrev N_check_setting : List Str := ["net", "setting"]
theorem c_check_setting : FnScope N_check_setting ["net", "setting"] (defScope s_check_setting) := ⟨rfl, rfl, rfl, by decide +kernel, rfl, by decide +kernel, by decide +kernel⟩
abbrev s_check_point : Stmt := topS 30
abbrev N_check_point : List Str := ["net", "point"]
theorem c_check_point : FnScope N_check_point ["net", "point"] (defScope s_check_point) := ⟨rfl, rfl, rfl, by decide +kernel, rfl, by decide +kernel, by decide +kernel⟩
abbrev s_check_track : Stmt := topS 31
abbrev N_check_track : List Str := ["net", "track"]
theorem c_check_track : FnScope N_check_track ["net", "track"] (defScope s_check_track) := ⟨rfl, rfl, rfl, by decide +kernel, rfl, by decide +kernel, by decide +kernel⟩
abbrev s_track_at : Stmt := topS 32
abbrev N_track_at : List Str := ["net", "point", "spot", "rows", "row"]
theorem c_track_at : FnScope N_track_at ["net", "point", "spot"] (defScope s_track_at) := ⟨rfl, rfl, rfl, by decide +kernel, rfl, by decide +kernel, by decide +kernel⟩
abbrev s_point_of : Stmt := topS 33
abbrev N_point_of : List Str := ["net", "track", "owners", "point", "row", "_"]
theorem c_point_of : FnScope N_point_of ["net", "track"] (defScope s_point_of) := ⟨rfl, rfl, rfl, by decide +kernel, rfl, by decide +kernel, by decide +kernel⟩
abbrev s_target_of : Stmt := topS 34
abbrev N_target_of : List Str := ["net", "track"]
theorem c_target_of : FnScope N_target_of ["net", "track"] (defScope s_target_of) := ⟨rfl, rfl, rfl, by decide +kernel, rfl, by decide +kernel, by decide +kernel⟩
abbrev s_is_setting : Stmt := topS 35
abbrev N_is_setting : List Str := ["net", "value", "spot", "row"]
theorem c_is_setting : FnScope N_is_setting ["net", "value"] (defScope s_is_setting) := ⟨rfl, rfl, rfl, by decide +kernel, rfl, by decide +kernel, by decide +kernel⟩
abbrev s_first_setting : Stmt := topS 36
abbrev N_first_setting : List Str := ["net"]
theorem c_first_setting : FnScope N_first_setting ["net"] (defScope s_first_setting) := ⟨rfl, rfl, rfl, by decide +kernel, rfl, by decide +kernel, by decide +kernel⟩
abbrev s_many_settings : Stmt := topS 37
abbrev N_many_settings : List Str := ["net", "many", "row"]
theorem c_many_settings : FnScope N_many_settings ["net"] (defScope s_many_settings) := ⟨rfl, rfl, rfl, by decide +kernel, rfl, by decide +kernel, by decide +kernel⟩
abbrev s_last_exits : Stmt := topS 38
abbrev N_last_exits : List Str := ["net", "setting", "spot", "row"]
theorem c_last_exits : FnScope N_last_exits ["net", "setting"] (defScope s_last_exits) := ⟨rfl, rfl, rfl, by decide +kernel, rfl, by decide +kernel, by decide +kernel⟩
abbrev s_points_to : Stmt := topS 39
abbrev N_points_to : List Str := ["net", "goals", "rows", "found", "grown", "further", "point", "row", "target"]
theorem c_points_to : FnScope N_points_to ["net", "goals"] (defScope s_points_to) := ⟨rfl, rfl, rfl, by decide +kernel, rfl, by decide +kernel, by decide +kernel⟩
abbrev s_leads_to : Stmt := topS 40
abbrev N_leads_to : List Str := ["net", "target"]
theorem c_leads_to : FnScope N_leads_to ["net", "target"] (defScope s_leads_to) := ⟨rfl, rfl, rfl, by decide +kernel, rfl, by decide +kernel, by decide +kernel⟩
abbrev s_points_to_ends : Stmt := topS 41
abbrev N_points_to_ends : List Str := ["net", "end"]
theorem c_points_to_ends : FnScope N_points_to_ends ["net"] (defScope s_points_to_ends) := ⟨rfl, rfl, rfl, by decide +kernel, rfl, by decide +kernel, by decide +kernel⟩
abbrev s_is_leading : Stmt := topS 42
abbrev N_is_leading : List Str := ["net"]
theorem c_is_leading : FnScope N_is_leading ["net"] (defScope s_is_leading) := ⟨rfl, rfl, rfl, by decide +kernel, rfl, by decide +kernel, by decide +kernel⟩
abbrev s_Lpot : Stmt := topS 44
abbrev N_Lpot : List Str := ["_law_script", "_law_k", "_law_cell"]
theorem c_Lpot : FnScope N_Lpot ["_law_script", "_law_k"] (defScope s_Lpot) := ⟨rfl, rfl, rfl, by decide +kernel, rfl, by decide +kernel, by decide +kernel⟩
abbrev s_Ldraw : Stmt := topS 45
abbrev N_Ldraw : List Str := ["_law_pot_here", "_law_size", "_law_digit"]
theorem c_Ldraw : FnScope N_Ldraw ["_law_pot_here", "_law_size"] (defScope s_Ldraw) := ⟨rfl, rfl, rfl, by decide +kernel, rfl, by decide +kernel, by decide +kernel⟩
abbrev s_Lpick : Stmt := topS 46
abbrev N_Lpick : List Str := ["_law_pot_here", "_law_some"]
theorem c_Lpick : FnScope N_Lpick ["_law_pot_here", "_law_some"] (defScope s_Lpick) := ⟨rfl, rfl, rfl, by decide +kernel, rfl, by decide +kernel, by decide +kernel⟩
abbrev s_Lexits : Stmt := topS 47
abbrev N_Lexits : List Str := ["_law_pot_here", "_law_ends", "_law_points", "_law_most", "_law_found", "_law_turn", "_law_row", "_law_place"]
theorem c_Lexits : FnScope N_Lexits ["_law_pot_here", "_law_ends", "_law_points", "_law_most"] (defScope s_Lexits) := ⟨rfl, rfl, rfl, by decide +kernel, rfl, by decide +kernel, by decide +kernel⟩
abbrev s_Lsetting : Stmt := topS 48
abbrev N_Lsetting : List Str := ["_law_pot_here", "_law_exits_here", "_law_found", "_law_row"]
theorem c_Lsetting : FnScope N_Lsetting ["_law_pot_here", "_law_exits_here"] (defScope s_Lsetting) := ⟨rfl, rfl, rfl, by decide +kernel, rfl, by decide +kernel, by decide +kernel⟩
abbrev s_Lleading : Stmt := topS 49
abbrev N_Lleading : List Str := ["_law_exits_here", "_law_targets", "_law_found", "_law_turn", "_law_point", "_law_row", "_law_one"]
theorem c_Lleading : FnScope N_Lleading ["_law_exits_here", "_law_targets"] (defScope s_Lleading) := ⟨rfl, rfl, rfl, by decide +kernel, rfl, by decide +kernel, by decide +kernel⟩
abbrev s_Lis_leading : Stmt := topS 50
abbrev N_Lis_leading : List Str := ["_law_exits_here", "_law_ends", "_law_end"]
theorem c_Lis_leading : FnScope N_Lis_leading ["_law_exits_here", "_law_ends"] (defScope s_Lis_leading) := ⟨rfl, rfl, rfl, by decide +kernel, rfl, by decide +kernel, by decide +kernel⟩
abbrev s_Ltracks_right : Stmt := topS 51
abbrev N_Ltracks_right : List Str := ["_law_net", "_law_exits_here", "_law_number", "_law_targets", "_law_point", "_law_row", "_law_place", "_law_target"]
theorem c_Ltracks_right : FnScope N_Ltracks_right ["_law_net", "_law_exits_here"] (defScope s_Ltracks_right) := ⟨rfl, rfl, rfl, by decide +kernel, rfl, by decide +kernel, by decide +kernel⟩
abbrev s_Lsettings_right : Stmt := topS 52
abbrev N_Lsettings_right : List Str := ["_law_pot_here", "_law_net", "_law_exits_here", "_law_many", "_law_row", "_law_turn", "_law_setting_here", "_law_due", "_law_point"]
theorem c_Lsettings_right : FnScope N_Lsettings_right ["_law_pot_here", "_law_net", "_law_exits_here"] (defScope s_Lsettings_right) := ⟨rfl, rfl, rfl, by decide +kernel, rfl, by decide +kernel, by decide +kernel⟩
abbrev s_Lways_right : Stmt := topS 53
abbrev N_Lways_right : List Str := ["_law_net", "_law_ends", "_law_exits_here", "_law_target"]
theorem c_Lways_right : FnScope N_Lways_right ["_law_net", "_law_ends", "_law_exits_here"] (defScope s_Lways_right) := ⟨rfl, rfl, rfl, by decide +kernel, rfl, by decide +kernel, by decide +kernel⟩
abbrev s_law : Stmt := topS 54
abbrev N_law : List Str := ["_law_script", "_law_pot_here", "_law_turn", "_law_ends", "_law_points", "_law_exits_here", "_law_net", "_law_other", "_law_rows", "_law_held", "_law_row"]
theorem c_law : FnScope N_law ["_law_script"] (defScope s_law) := ⟨rfl, rfl, rfl, by decide +kernel, rfl, by decide +kernel, by decide +kernel⟩
section
variable {P : Program} {w : World} {K : PySem.W.Frag} {mg : Str → Option Value} {base : Heap} {f : Addr} {fd : FuncData} {k : Nat}
/-! ### whole numbers and rows -/
def isI : D → Bool
  | .int _ => true
  | _ => false
def isIB : D → Bool
  | .int _ => true
  | .bl _ => true
  | _ => false
def isB : D → Bool
  | .bl _ => true
  | _ => false
def isL : D → Bool
  | .lst _ => true
  | _ => false
def isT : D → Bool
  | .tup _ => true
  | _ => false
def isRow (d : D) : Bool := isL d || isT d
def isC : D → Bool
  | .int i => decide (0 ≤ i)
  | _ => false
def isCB (d : D) (b : Int) : Bool := match d with
  | .int i => decide (0 ≤ i) && decide (i < b)
  | _ => false
def isTg (d : D) (e p : Int) : Bool := match d with
  | .int i => decide (-e ≤ i) && decide (i < p)
  | _ => false
/-- a value of a built-in kind -/
def Pl (d : D) : Prop := ∃ n, tyN d = some n
theorem pl_int (i : Int) : Pl (.int i) := ⟨_, rfl⟩
theorem kit_int {d : D} {n : String} (h : tyN d = some n) : kitB n "int" = some (isIB d) := by
  cases d <;> cases h
  · show kitB "NoneType" "int" = some false; decide +kernel
  · show kitB "bool" "int" = some true; decide +kernel
  · show kitB "int" "int" = some true; decide +kernel
  · show kitB "str" "int" = some false; decide +kernel
  · show kitB "list" "int" = some false; decide +kernel
  · show kitB "tuple" "int" = some false; decide +kernel
  · show kitB "dict" "int" = some false; decide +kernel
theorem kit_bool {d : D} {n : String} (h : tyN d = some n) : kitB n "bool" = some (isB d) := by
  cases d <;> cases h
  · show kitB "NoneType" "bool" = some false; decide +kernel
  · show kitB "bool" "bool" = some true; decide +kernel
  · show kitB "int" "bool" = some false; decide +kernel
  · show kitB "str" "bool" = some false; decide +kernel
  · show kitB "list" "bool" = some false; decide +kernel
  · show kitB "tuple" "bool" = some false; decide +kernel
  · show kitB "dict" "bool" = some false; decide +kernel
theorem kit_list {d : D} {n : String} (h : tyN d = some n) : kitB n "list" = some (isL d) := by
  cases d <;> cases h
  · show kitB "NoneType" "list" = some false; decide +kernel
  · show kitB "bool" "list" = some false; decide +kernel
  · show kitB "int" "list" = some false; decide +kernel
  · show kitB "str" "list" = some false; decide +kernel
  · show kitB "list" "list" = some true; decide +kernel
  · show kitB "tuple" "list" = some false; decide +kernel
  · show kitB "dict" "list" = some false; decide +kernel
theorem kit_tuple {d : D} {n : String} (h : tyN d = some n) : kitB n "tuple" = some (isT d) := by
  cases d <;> cases h
  · show kitB "NoneType" "tuple" = some false; decide +kernel
  · show kitB "bool" "tuple" = some false; decide +kernel
  · show kitB "int" "tuple" = some false; decide +kernel
  · show kitB "str" "tuple" = some false; decide +kernel
  · show kitB "list" "tuple" = some false; decide +kernel
  · show kitB "tuple" "tuple" = some true; decide +kernel
  · show kitB "dict" "tuple" = some false; decide +kernel
/-- the built-ins that the module leaves as they are -/
structure Blt (mg : Str → Option Value) : Prop where
  isi : mg "isinstance" = none
  int : mg "int" = none
  bool : mg "bool" = none
  list : mg "list" = none
  tuple : mg "tuple" = none
  len : mg "len" = none
  all : mg "all" = none
  any : mg "any" = none
  sum : mg "sum" = none
  sorted : mg "sorted" = none
  range : mg "range" = none
  enum : mg "enumerate" = none
  zip : mg "zip" = none
def c1 (b : D → Bool) : List D → (D → Prop) → Prop := fun ds Z => ∃ d, ds = [d] ∧ Pl d ∧ Z (.bl (b d))
theorem ok_is_integer (T : Blt mg) (F : Fun K "is_integer" "is_integer" s_is_integer f fd) : FnOk P w K mg base CX0 (k + 1) f fd ["value"] (spD (c1 isI)) := by
  refine fnD F c_is_integer (fun ds Z h => ?_) (fun cdv A outer s H E ds Z hr h => ?_)
  · obtain ⟨d, rfl, _⟩ := h
    rfl
  · obtain ⟨d, rfl, ⟨n, hn⟩, q⟩ := h
    refine ss_one (s_ret (w_and (w_callB true rfl T.isi (by decide +kernel) (aG (nm 0 (a1 (bltin T.int (c_isi hn (kit_int hn) ⟨_, rfl, ?_⟩))))))))
    cases hb : isIB d with
    | true =>
      refine w_one (w_not (w_callB true rfl T.isi (by decide +kernel) (aG (nm 0 (a1 (bltin T.bool (c_isi hn (kit_bool hn) ⟨_, rfl, ?_⟩)))))))
      show Z (.bl (!isB d))
      have e : (!isB d) = isI d := by cases d <;> first | rfl | cases hb
      rw [e]; exact q
    | false =>
      show Z (.bl false)
      have e : isI d = false := by cases d <;> first | rfl | cases hb
      rw [e] at q; exact q
theorem ok_is_count (Fi : Df P w K mg base k "is_integer" ["value"] (spD (c1 isI))) (F : Fun K "is_count" "is_count" s_is_count f fd) : FnOk P w K mg base CX0 (k + 1) f fd ["value"] (spD (c1 isC)) := by
  refine fnD F c_is_count (fun ds Z h => ?_) (fun cdv A outer s H E ds Z hr h => ?_)
  · obtain ⟨d, rfl, _⟩ := h
    rfl
  · obtain ⟨d, rfl, pl, q⟩ := h
    refine ss_one (s_ret (w_and (call Fi hr (a1 (nm 0 ⟨_, rfl, pl, _, rfl, ?_⟩)))))
    cases hb : isI d with
    | true =>
      cases d <;> first | cases hb | skip
      exact w_one (w_cmpG (nm 0 (w_int (o_ge q))))
    | false =>
      have e : isC d = false := by cases d <;> first | rfl | cases hb
      rw [e] at q; exact q
def c2 (b : D → Int → Bool) : List D → (D → Prop) → Prop := fun ds Z => ∃ d i, ds = [d, .int i] ∧ Pl d ∧ Z (.bl (b d i))
theorem ok_is_count_below (Fc : Df P w K mg base k "is_count" ["value"] (spD (c1 isC))) (F : Fun K "is_count_below" "is_count_below" s_is_count_below f fd) : FnOk P w K mg base CX0 (k + 1) f fd ["value", "bound"] (spD (c2 isCB)) := by
  refine fnD F c_is_count_below (fun ds Z h => ?_) (fun cdv A outer s H E ds Z hr h => ?_)
  · obtain ⟨d, i, rfl, _⟩ := h
    rfl
  · obtain ⟨d, i, rfl, pl, q⟩ := h
    refine ss_one (s_ret (w_and (call Fc hr (a1 (nm 0 ⟨_, rfl, pl, _, rfl, ?_⟩)))))
    cases hb : isC d with
    | true =>
      cases d <;> first | cases hb | skip
      rename_i j
      have e : isCB (.int j) i = decide (j < i) := by
        have h0 : decide (0 ≤ j) = true := hb
        show (decide (0 ≤ j) && decide (j < i)) = _
        rw [h0]; rfl
      rw [e] at q
      exact w_one (w_cmpG (nm 0 (nm 1 (o_lt q))))
    | false =>
      have e : isCB d i = false := by
        cases d <;> first | rfl | skip
        rename_i j
        have h0 : decide (0 ≤ j) = false := hb
        show (decide (0 ≤ j) && decide (j < i)) = _
        rw [h0]; rfl
      rw [e] at q; exact q
theorem ok_is_row (T : Blt mg) (F : Fun K "is_row" "is_row" s_is_row f fd) : FnOk P w K mg base CX0 (k + 1) f fd ["value"] (spD (c1 isRow)) := by
  refine fnD F c_is_row (fun ds Z h => ?_) (fun cdv A outer s H E ds Z hr h => ?_)
  · obtain ⟨d, rfl, _⟩ := h
    rfl
  · obtain ⟨d, rfl, ⟨n, hn⟩, q⟩ := h
    exact ss_one (s_ret (w_callB true rfl T.isi (by decide +kernel) (aG (nm 0 (a1 (w_tup (aG (bltin T.list (a1 (bltin T.tuple ⟨by decide, c_isi2 hn (kit_list hn) (kit_tuple hn) q⟩))))))))))
def c3 (b : D → Int → Int → Bool) : List D → (D → Prop) → Prop := fun ds Z => ∃ d i j, ds = [d, .int i, .int j] ∧ Pl d ∧ Z (.bl (b d i j))
theorem ok_is_target_of (Fi : Df P w K mg base k "is_integer" ["value"] (spD (c1 isI))) (F : Fun K "_is_target_of" "_is_target_of" s_is_target_of f fd) : FnOk P w K mg base CX0 (k + 1) f fd ["value", "ends", "points"] (spD (c3 isTg)) := by
  refine fnD F c_is_target_of (fun ds Z h => ?_) (fun cdv A outer s H E ds Z hr h => ?_)
  · obtain ⟨d, i, j, rfl, _⟩ := h
    rfl
  · obtain ⟨d, i, j, rfl, pl, q⟩ := h
    refine ss_one (s_ret (w_and (call Fi hr (a1 (nm 0 ⟨_, rfl, pl, _, rfl, ?_⟩)))))
    cases hb : isI d with
    | true =>
      cases d <;> first | cases hb | skip
      rename_i n
      refine w_one (w_chain (w_un (nm 1 (o_neg (nm 0 (o_le ⟨_, rfl, ?_⟩))))))
      by_cases h1 : -i ≤ n
      · rw [decide_eq_true h1]
        have e : isTg (.int n) i j = decide (n < j) := by
          show (decide (-i ≤ n) && decide (n < j)) = _
          rw [decide_eq_true h1]; rfl
        rw [e] at q
        exact nm 2 (o_lt q)
      · rw [decide_eq_false h1]
        have e : isTg (.int n) i j = false := by
          show (decide (-i ≤ n) && decide (n < j)) = _
          rw [decide_eq_false h1]; rfl
        rw [e] at q
        exact q
    | false =>
      have e : isTg d i j = false := by cases d <;> first | rfl | cases hb
      rw [e] at q; exact q
end
section
variable {P : Program} {w : World} {K : PySem.W.Frag} {mg : Str → Option Value} {base : Heap} {f C : Addr} {fd : FuncData} {k : Nat}
/-! ### rows of exits -/
/-- the items of a list, a tuple -/
def its : D → Option (List D)
  | .lst xs => some xs
  | .tup xs => some xs
  | _ => none
def isXR (d : D) (e p : Int) : Bool := match its d with
  | some xs => decide (1 ≤ (xs.length : Int)) && decide ((xs.length : Int) ≤ 6) && xs.all fun x => isTg x e p
  | none => false
/-- plain, and what is in it -/
def Pl1 (d : D) : Prop := Pl d ∧ ∀ xs, its d = some xs → xs.length ≤ 40000 ∧ ∀ x ∈ xs, Pl x
def Pl2 (d : D) : Prop := Pl d ∧ ∀ xs, its d = some xs → xs.length ≤ 40000 ∧ ∀ x ∈ xs, Pl1 x
theorem row_its {d : D} (h : isRow d = true) : ∃ xs, its d = some xs ∧ (d = .lst xs ∨ d = .tup xs) := by
  cases d with
  | lst xs => exact ⟨xs, rfl, .inl rfl⟩
  | tup xs => exact ⟨xs, rfl, .inr rfl⟩
  | _ => cases h
theorem row_no {d : D} (h : isRow d = false) : its d = none := by
  cases d with
  | lst xs => cases h
  | tup xs => cases h
  | _ => rfl
theorem c_len {g : Bool} {X : Cx} {Z : D → Prop} {d : D} {xs : List D} (h : d = .lst xs ∨ d = .tup xs) (q : Z (.int (xs.length : Int))) : OpC g X (.builtin "len") [d] Z := by
  rcases h with rfl | rfl
  · exact c_lenL q
  · exact c_lenT q
theorem wi_row {X : Cx} {p : Bool} {ρ : Rho} {tg e : Expr} {QI : List D → Rho → Prop} {d : D} {xs : List D} (h : d = .lst xs ∨ d = .tup xs) (hw : ∀ (Q : D → Rho → Prop), Q d ρ → W p true X e ρ Q) (q : QI xs ρ) : WI p X tg e ρ QI := by
  rcases h with rfl | rfl
  · exact wi_lst (hw _ ⟨xs, rfl, q⟩)
  · exact wi_tup (hw _ ⟨xs, rfl, q⟩)
def c3R (b : D → Int → Int → Bool) : List D → (D → Prop) → Prop := fun ds Z => ∃ d i j, ds = [d, .int i, .int j] ∧ Pl1 d ∧ Z (.bl (b d i j))
theorem ok_is_exit_row {t6 : Tok} (T : Blt mg) (m6 : mg "MOST_EXITS" = some (.int 6 t6)) (Fr : Df P w K mg base k "is_row" ["value"] (spD (c1 isRow))) (Ft : Df P w K mg base k "_is_target_of" ["value", "ends", "points"] (spD (c3 isTg)))
    (F : Fun K "_is_exit_row" "_is_exit_row" s_is_exit_row f fd) : FnOk P w K mg base CX0 (k + 1) f fd ["value", "ends", "points"] (spD (c3R isXR)) := by
  refine fnD F c_is_exit_row (fun ds Z h => ?_) (fun cdv A outer s H E ds Z hr h => ?_)
  · obtain ⟨d, i, j, rfl, _⟩ := h
    rfl
  · obtain ⟨d, i, j, rfl, pl, q⟩ := h
    refine ss_cons (s_if (t_bool (tb_or (t_not (t_val (call Fr hr (a1 (nm 0 ⟨_, rfl, pl.1, _, rfl, ?_⟩))))))))
    cases hb : isRow d with
    | false =>
      have e : isXR d i j = false := by
        unfold isXR; rw [row_no hb]
      rw [e] at q
      show WSs _ _ _ _
      exact ss_one (s_ret (w_bl q))
    | true =>
      obtain ⟨xs, hi, hd⟩ := row_its hb
      obtain ⟨hl, hx⟩ := pl.2 xs hi
      show WTB _ _ _ _ _ _ _
      refine tb_or1 (t_not (t_chain (w_int (w_callB true rfl T.len (by decide +kernel) (a1 (nm 0 (c_len hd (o_le ⟨_, rfl, ?_⟩))))))))
      by_cases h1 : (1 : Int) ≤ xs.length
      · rw [decide_eq_true h1]
        show W _ _ _ _ _ _
        refine glb m6 (o_le ⟨_, rfl, ?_⟩)
        by_cases h2 : (xs.length : Int) ≤ 6
        · rw [decide_eq_true h2]
          show WSs _ _ _ _
          refine ss_nil (ss_one (s_ret (w_callB true rfl T.all (by decide +kernel) (a1 (lc1 3 (fun x => .bl (isTg x i j)) c_is_exit_row (wi_row hd (fun Q h => nm 0 h) ⟨hl, fun x hxm _ _ _ _ _ => ?_, c_allD rfl ?_⟩))))))
          · exact call Ft hr (aG (nm 3 (aG (nm 1 (a1 (nm 2 ⟨_, _, _, rfl, hx x hxm, rfl⟩))))))
          · have e : isXR d i j = xs.all fun x => isTg x i j := by
              unfold isXR; rw [hi]
              show (decide _ && decide _ && _) = _
              rw [decide_eq_true h1, decide_eq_true h2]; rfl
            rw [e] at q; exact q
        · rw [decide_eq_false h2]
          have e : isXR d i j = false := by
            unfold isXR; rw [hi]
            show (decide _ && decide _ && _) = _
            rw [decide_eq_false h2, Bool.and_false, Bool.false_and]
          rw [e] at q
          show WSs _ _ _ _
          exact ss_one (s_ret (w_bl q))
      · rw [decide_eq_false h1]
        have e : isXR d i j = false := by
          unfold isXR; rw [hi]
          show (decide _ && decide _ && _) = _
          rw [decide_eq_false h1, Bool.false_and, Bool.false_and]
        rw [e] at q
        show WSs _ _ _ _
        exact ss_one (s_ret (w_bl q))
def isXs (d : D) (e : Int) : Bool := match its d with
  | some xs => decide (1 ≤ (xs.length : Int)) && decide ((xs.length : Int) ≤ 24) && xs.all fun x => isXR x e xs.length
  | none => false
def c2R (b : D → Int → Bool) : List D → (D → Prop) → Prop := fun ds Z => ∃ d i, ds = [d, .int i] ∧ Pl2 d ∧ Z (.bl (b d i))
theorem ok_are_exits {t24 : Tok} (T : Blt mg) (m24 : mg "MOST_POINTS" = some (.int 24 t24)) (Fr : Df P w K mg base k "is_row" ["value"] (spD (c1 isRow))) (Fx : Df P w K mg base k "_is_exit_row" ["value", "ends", "points"] (spD (c3R isXR)))
    (F : Fun K "_are_exits" "_are_exits" s_are_exits f fd) : FnOk P w K mg base CX0 (k + 1) f fd ["value", "ends"] (spD (c2R isXs)) := by
  refine fnD F c_are_exits (fun ds Z h => ?_) (fun cdv A outer s H E ds Z hr h => ?_)
  · obtain ⟨d, i, rfl, _⟩ := h
    rfl
  · obtain ⟨d, i, rfl, pl, q⟩ := h
    refine ss_cons (s_if (t_bool (tb_or (t_not (t_val (call Fr hr (a1 (nm 0 ⟨_, rfl, pl.1, _, rfl, ?_⟩))))))))
    cases hb : isRow d with
    | false =>
      have e : isXs d i = false := by
        unfold isXs; rw [row_no hb]
      rw [e] at q
      show WSs _ _ _ _
      exact ss_one (s_ret (w_bl q))
    | true =>
      obtain ⟨xs, hi, hd⟩ := row_its hb
      obtain ⟨hl, hx⟩ := pl.2 xs hi
      show WTB _ _ _ _ _ _ _
      refine tb_or1 (t_not (t_chain (w_int (w_callB true rfl T.len (by decide +kernel) (a1 (nm 0 (c_len hd (o_le ⟨_, rfl, ?_⟩))))))))
      by_cases h1 : (1 : Int) ≤ xs.length
      · rw [decide_eq_true h1]
        show W _ _ _ _ _ _
        refine glb m24 (o_le ⟨_, rfl, ?_⟩)
        by_cases h2 : (xs.length : Int) ≤ 24
        · rw [decide_eq_true h2]
          show WSs _ _ _ _
          refine ss_nil (ss_one (s_ret (w_callB true rfl T.all (by decide +kernel) (a1 (lc1 2 (fun x => .bl (isXR x i xs.length)) c_are_exits (wi_row hd (fun Q h => nm 0 h) ⟨hl, fun x hxm _ _ _ _ _ => ?_, c_allD rfl ?_⟩))))))
          · exact call Fx hr (aG (nm 2 (aG (nm 1 (a1 (w_callB true rfl T.len (by decide +kernel) (a1 (nm 0 (c_len hd ⟨_, _, _, rfl, hx x hxm, rfl⟩)))))))))
          · have e : isXs d i = xs.all fun x => isXR x i xs.length := by
              unfold isXs; rw [hi]
              show (decide _ && decide _ && _) = _
              rw [decide_eq_true h1, decide_eq_true h2]; rfl
            rw [e] at q; exact q
        · rw [decide_eq_false h2]
          have e : isXs d i = false := by
            unfold isXs; rw [hi]
            show (decide _ && decide _ && _) = _
            rw [decide_eq_false h2, Bool.and_false, Bool.false_and]
          rw [e] at q
          show WSs _ _ _ _
          exact ss_one (s_ret (w_bl q))
      · rw [decide_eq_false h1]
        have e : isXs d i = false := by
          unfold isXs; rw [hi]
          show (decide _ && decide _ && _) = _
          rw [decide_eq_false h1, Bool.false_and, Bool.false_and]
        rw [e] at q
        show WSs _ _ _ _
        exact ss_one (s_ret (w_bl q))
end
section
variable {P : Program} {w : World} {K : PySem.W.Frag} {mg : Str → Option Value} {base : Heap} {f C : Addr} {fd : FuncData} {k : Nat}
/-! ### nets -/
def lI (l : List Int) : List D := l.map D.int
def rowsT (ex : List (List Int)) : List D := ex.map fun l => D.tup (lI l)
def rowsL (ex : List (List Int)) : List D := ex.map fun l => D.lst (lI l)
/-- a net's fields -/
def netF (e : Int) (ex : List (List Int)) : List (Str × D) := [("_ends", .int e), ("_exits", .tup (rowsT ex)), ("_targets", .tup (lI ex.flatten))]
def netD (C : Addr) (e : Int) (ex : List (List Int)) : D := .obj C (netF e ex)
/-- rows of whole numbers, as lists or tuples -/
def rowI (x : D) (l : List Int) : Prop := x = .lst (lI l) ∨ x = .tup (lI l)
inductive RowsA : List D → List (List Int) → Prop
  | nil : RowsA [] []
  | cons {x l xs ls} : rowI x l → RowsA xs ls → RowsA (x :: xs) (l :: ls)
def Rows (d : D) (ex : List (List Int)) : Prop := ∃ xs, (d = .lst xs ∨ d = .tup xs) ∧ RowsA xs ex
theorem rowsA_L : ∀ ex, RowsA (rowsL ex) ex
  | [] => .nil
  | l :: ls => .cons (.inl rfl) (rowsA_L ls)
theorem rowsA_T : ∀ ex, RowsA (rowsT ex) ex
  | [] => .nil
  | l :: ls => .cons (.inr rfl) (rowsA_T ls)
theorem RowsA.length : ∀ {xs ex}, RowsA xs ex → xs.length = ex.length
  | _, _, .nil => rfl
  | _, _, .cons _ t => by simp [RowsA.length t]
theorem RowsA.mem : ∀ {xs ex}, RowsA xs ex → ∀ x ∈ xs, ∃ l ∈ ex, rowI x l
  | _, _, .nil, x, h => by simp at h
  | _, _, .cons r t, x, h => by
    rcases List.mem_cons.mp h with rfl | h
    · exact ⟨_, List.mem_cons_self, r⟩
    · obtain ⟨l, hl, hr⟩ := RowsA.mem t x h
      exact ⟨l, List.mem_cons_of_mem _ hl, hr⟩
def itsD (x : D) : List D := (its x).getD []
theorem rowI.itsE {x : D} {l : List Int} (h : rowI x l) : itsD x = lI l := by
  rcases h with rfl | rfl <;> rfl
theorem RowsA.flat : ∀ {xs ex}, RowsA xs ex → xs.flatMap (fun d => (itsD d).map fun e => e) = lI ex.flatten
  | _, _, .nil => rfl
  | _, _, .cons (l := l) (ls := ls) r t => by
    rw [List.flatMap_cons, RowsA.flat t, r.itsE, List.map_id'', List.flatten_cons]
    · unfold lI; rw [List.map_append]
    · intro a; rfl
theorem RowsA.tup : ∀ {xs ex}, RowsA xs ex → xs.map (fun d => D.tup (itsD d)) = rowsT ex
  | _, _, .nil => rfl
  | _, _, .cons r t => by rw [List.map_cons, RowsA.tup t, r.itsE]; rfl
/-- what makes a net -/
structure Valid (e : Int) (ex : List (List Int)) : Prop where
  e0 : 0 ≤ e
  e6 : e ≤ 6
  n1 : 1 ≤ ex.length
  n24 : ex.length ≤ 24
  r1 : ∀ l ∈ ex, 1 ≤ l.length
  r6 : ∀ l ∈ ex, l.length ≤ 6
  lo : ∀ l ∈ ex, ∀ t ∈ l, -e ≤ t
  hi : ∀ l ∈ ex, ∀ t ∈ l, t < ex.length
  m60 : ex.flatten.length ≤ 60
theorem ints_all {l : List Int} {b : D → Bool} (h : ∀ t ∈ l, b (.int t) = true) : (lI l).all b = true := by
  unfold lI
  rw [List.all_map]
  exact List.all_eq_true.mpr h
theorem Valid.xs {e : Int} {ex : List (List Int)} (v : Valid e ex) {d : D} (h : Rows d ex) : isXs d e = true := by
  obtain ⟨xs, hd, hr⟩ := h
  have hi : its d = some xs := by rcases hd with rfl | rfl <;> rfl
  have hl := hr.length
  unfold isXs
  rw [hi]
  show (decide _ && decide _ && xs.all _) = true
  have n1 := v.n1
  have n24 := v.n24
  rw [decide_eq_true (by omega), decide_eq_true (by omega), Bool.true_and, Bool.true_and]
  refine List.all_eq_true.mpr fun x hx => ?_
  obtain ⟨l, hl2, hri⟩ := hr.mem x hx
  have hi2 : its x = some (lI l) := by rcases hri with rfl | rfl <;> rfl
  unfold isXR
  rw [hi2]
  show (decide _ && decide _ && (lI l).all _) = true
  have h1 := v.r1 l hl2
  have h6 := v.r6 l hl2
  have e2 : (lI l).length = l.length := List.length_map _
  rw [decide_eq_true (by omega), decide_eq_true (by omega), Bool.true_and, Bool.true_and]
  refine ints_all fun t ht => ?_
  have a := v.lo l hl2 t ht
  have b := v.hi l hl2 t ht
  show (decide _ && decide _) = true
  rw [decide_eq_true a, decide_eq_true (by omega)]
  rfl
theorem pl_ints {l : List Int} : ∀ x ∈ lI l, Pl x := fun x hx => by
  obtain ⟨i, _, rfl⟩ := List.mem_map.mp hx
  exact ⟨_, rfl⟩
theorem rowI.pl {x : D} {l : List Int} (h : rowI x l) (hl : l.length ≤ 40000) : Pl1 x := by
  have hi : its x = some (lI l) := by rcases h with rfl | rfl <;> rfl
  refine ⟨by rcases h with rfl | rfl <;> exact ⟨_, rfl⟩, fun xs e => ?_⟩
  rw [hi] at e
  cases e
  exact ⟨by unfold lI; rw [List.length_map]; exact hl, pl_ints⟩
theorem Valid.pl {e : Int} {ex : List (List Int)} (v : Valid e ex) {d : D} (h : Rows d ex) : Pl2 d := by
  obtain ⟨xs, hd, hr⟩ := h
  have hi : its d = some xs := by rcases hd with rfl | rfl <;> rfl
  refine ⟨by rcases hd with rfl | rfl <;> exact ⟨_, rfl⟩, fun ys e => ?_⟩
  rw [hi] at e
  cases e
  refine ⟨by rw [hr.length]; have := v.n24; omega, fun x hx => ?_⟩
  obtain ⟨l, hl, hri⟩ := hr.mem x hx
  exact hri.pl (by have := v.r6 l hl; omega)
def cInit : List D → (List (Str × D) → Prop) → Prop := fun ds Z => ∃ e d ex, ds = [.int e, d] ∧ Rows d ex ∧ Valid e ex ∧ Z (netF e ex)
/-- the class, as the top has left it -/
structure NetT (K : PySem.W.Frag) (mg : Str → Option Value) (C : Addr) : Prop where
  t : ClsT K C
  nE : NoAttr K C "_ends"
  nX : NoAttr K C "_exits"
  nT : NoAttr K C "_targets"
  mgC : mg "Net" = some (.ref C)
  kl : PySem.W.kitOne K (.type "list") (.ref C) = some false
  nf : PySem.W.notFirst K C (.type "list") = true
theorem WSs.nx {X : Cx} {ρ : Rho} {E : DE} {rest : List Stmt} (h : WSs X rest ρ E) : ({ E with nx := fun ρ' => WSs X rest ρ' E } : DE).nx ρ := h
theorem ok_init {t6 t60 : Tok} (T : Blt mg) (N : NetT K mg C) (m6 : mg "MOST_ENDS" = some (.int 6 t6)) (m60 : mg "MOST_TRACKS" = some (.int 60 t60)) (Fc : Df P w K mg base k "is_count_below" ["value", "bound"] (spD (c2 isCB))) (Fx : Df P w K mg base k "_are_exits" ["value", "ends"] (spD (c2R isXs)))
    (F : Fun K "__init__" "Net.__init__" s_Net_init_ f fd) : FnOk P w K mg base CX0 (k + 1) f fd ["self", "ends", "exits"] (spI C cInit) := by
  refine fnI F c_Net_init_ (fun ds Z h => ?_) (fun cdv A outer s H E ds Z hr h => ?_)
  · obtain ⟨e, d, ex, rfl, _⟩ := h
    rfl
  · obtain ⟨e, d, ex, rfl, hrows, v, q⟩ := h
    have hxs := v.xs hrows
    have hpl := v.pl hrows
    -- if not is_count_below(ends, MOST_ENDS + 1): never
    refine ss_cons (s_if (t_not (t_val (call Fc hr (aG (nm 1 (a1 (w_binG (glb m6 (w_int (o_add ⟨_, _, rfl, pl_int e, _, rfl, ?_⟩)))))))))))
    have h1 : isCB (.int e) (6 + 1) = true := by
      show (decide (0 ≤ e) && decide (e < 6 + 1)) = true
      rw [decide_eq_true v.e0, decide_eq_true (by have := v.e6; omega)]; rfl
    rw [h1]
    show WSs _ [] _ _
    refine ss_nil ?_
    show WSs _ _ _ _
    -- if not _are_exits(exits, ends): never
    refine ss_cons (s_if (t_not (t_val (call Fx hr (aG (nm 2 (a1 (nm 1 ⟨_, _, rfl, hpl, _, rfl, ?_⟩))))))))
    rw [hxs]
    show WSs _ [] _ _
    refine ss_nil ?_
    show WSs _ _ _ _
    -- targets
    obtain ⟨xs, hd, hra⟩ := hrows
    have hlen : (xs.flatMap fun d => (itsD d).map fun e => e).length ≤ 60 := by
      rw [hra.flat]; unfold lI; rw [List.length_map]; exact v.m60
    refine ss_cons (s_lc11 3 4 5 itsD (fun _ e => e) c_Net_init_ (wi_row hd (fun Q h => nm 2 h) ⟨Nat.le_trans hlen (by decide), fun x hx => ⟨fun _ _ _ _ _ => ?_, fun y hy _ _ _ _ _ => nm 5 rfl⟩, ?_⟩))
    · obtain ⟨l, hl, hri⟩ := hra.mem x hx
      rw [hri.itsE]
      rcases hri with rfl | rfl
      · exact wi_lst (nm 4 ⟨_, rfl, rfl⟩)
      · exact wi_tup (nm 4 ⟨_, rfl, rfl⟩)
    rw [hra.flat]
    show WSs _ _ _ _
    -- if len(targets) > MOST_TRACKS: never
    refine ss_cons (s_if (t_cmpG (w_callB true rfl T.len (by decide +kernel) (a1 (nm 3 (c_lenL (glb m60 (o_gt ⟨_, rfl, ?_⟩))))))))
    have h2 : decide (60 < ((lI ex.flatten).length : Int)) = false := by
      have e2 : (lI ex.flatten).length = ex.flatten.length := List.length_map _
      have := v.m60
      exact decide_eq_false (by omega)
    rw [h2]
    show WSs _ [] _ _
    refine ss_nil ?_
    show WSs _ _ _ _
    -- self._ends = ends
    refine ss_cons (s_fld (i := 0) rfl (.inl rfl) (by decide) (by decide) (nm 1 ⟨C, [], rfl, N.t.cl, N.nE, by decide, rfl, ?_⟩))
    show WSs _ _ _ _
    -- self._exits = tuple([tuple(row) for row in exits])
    refine ss_cons (s_fld (i := 0) rfl (.inl rfl) (by decide) (by decide) (w_callTy true rfl T.tuple (by decide +kernel) (a1 (lc1 4 (fun x => .tup (itsD x)) c_Net_init_ (wi_row hd (fun Q h => nm 2 h) ⟨by rw [hra.length]; have := v.n24; omega, fun x hx _ _ _ _ _ => ?_, c_tuple ⟨C, _, rfl, N.t.cl, N.nX, by show 1 < 1000; decide, by rfl, ?_⟩⟩)))))
    · obtain ⟨l, hl, hri⟩ := hra.mem x hx
      refine w_callTy (T := "tuple") true rfl T.tuple (by decide +kernel) (a1 (nm 4 ?_))
      rcases hri with rfl | rfl
      · exact c_tuple rfl
      · exact c_tupleT rfl
    rw [hra.tup]
    show WSs _ _ _ _
    -- self._targets = tuple(targets)
    refine ss_one (s_fld (i := 0) rfl (.inl rfl) (by decide) (by decide) (w_callTy true rfl T.tuple (by decide +kernel) (a1 (nm 3 (c_tuple ⟨C, _, rfl, N.t.cl, N.nT, by show 2 < 1000; decide, by rfl, ?_⟩)))))
    exact ⟨_, rfl, q⟩
/-! getters and methods -/
def cNet (C : Addr) (r : Int → List (List Int) → D) : List D → (D → Prop) → Prop := fun ds Z => ∃ e ex, ds = [netD C e ex] ∧ Valid e ex ∧ Z (r e ex)
theorem ok_ends (N : NetT K mg C) (F : Fun K "ends" "Net.ends" s_Net_ends f fd) : FnOk P w K mg base CX0 (k + 1) f fd ["self"] (spD (cNet C fun e _ => .int e)) := by
  refine fnD F c_Net_ends (fun ds Z h => ?_) (fun cdv A outer s H E ds Z hr h => ?_)
  · obtain ⟨e, ex, rfl, _⟩ := h
    rfl
  · obtain ⟨e, ex, rfl, v, q⟩ := h
    exact ss_one (s_ret (w_fld (nm 0 ⟨C, netF e ex, _, rfl, N.t.cl, N.nE, by rfl, q⟩)))
theorem ok_points (T : Blt mg) (N : NetT K mg C) (F : Fun K "points" "Net.points" s_Net_points f fd) : FnOk P w K mg base CX0 (k + 1) f fd ["self"] (spD (cNet C fun _ ex => .int (ex.length : Int))) := by
  refine fnD F c_Net_points (fun ds Z h => ?_) (fun cdv A outer s H E ds Z hr h => ?_)
  · obtain ⟨e, ex, rfl, _⟩ := h
    rfl
  · obtain ⟨e, ex, rfl, v, q⟩ := h
    refine ss_one (s_ret (w_callB true rfl T.len (by decide +kernel) (a1 (w_fld (nm 0 ⟨C, netF e ex, _, rfl, N.t.cl, N.nX, by rfl, c_lenT ?_⟩)))))
    have e2 : (rowsT ex).length = ex.length := List.length_map _
    rw [e2]; exact q
theorem ok_exits (T : Blt mg) (N : NetT K mg C) (F : Fun K "exits" "Net.exits" s_Net_exits f fd) : FnOk P w K mg base CX0 (k + 1) f fd ["self"] (spD (cNet C fun _ ex => .lst (rowsL ex))) := by
  refine fnD F c_Net_exits (fun ds Z h => ?_) (fun cdv A outer s H E ds Z hr h => ?_)
  · obtain ⟨e, ex, rfl, _⟩ := h
    rfl
  · obtain ⟨e, ex, rfl, v, q⟩ := h
    refine ss_one (s_ret (lc1 1 (fun x => .lst (itsD x)) c_Net_exits (wi_tup (w_fld (nm 0 ⟨C, netF e ex, _, rfl, N.t.cl, N.nX, by rfl, _, rfl, ?_, fun x hx _ _ _ _ _ => ?_, ?_⟩)))))
    · have e2 : (rowsT ex).length = ex.length := List.length_map _
      rw [e2]; have := v.n24; omega
    · obtain ⟨l, hl, rfl⟩ := List.mem_map.mp hx
      exact w_callTy true rfl T.list (by decide +kernel) (a1 (nm 1 (c_listT rfl)))
    · have e2 : (rowsT ex).map (fun x => D.lst (itsD x)) = rowsL ex := by
        unfold rowsT rowsL
        rw [List.map_map]
        rfl
      rw [e2]; exact q
theorem ok_targets (T : Blt mg) (N : NetT K mg C) (F : Fun K "targets" "Net.targets" s_Net_targets f fd) : FnOk P w K mg base CX0 (k + 1) f fd ["self"] (spD (cNet C fun _ ex => .lst (lI ex.flatten))) := by
  refine fnD F c_Net_targets (fun ds Z h => ?_) (fun cdv A outer s H E ds Z hr h => ?_)
  · obtain ⟨e, ex, rfl, _⟩ := h
    rfl
  · obtain ⟨e, ex, rfl, v, q⟩ := h
    exact ss_one (s_ret (w_callTy true rfl T.list (by decide +kernel) (a1 (w_fld (nm 0 ⟨C, netF e ex, _, rfl, N.t.cl, N.nT, by rfl, c_listT q⟩)))))
theorem ok_many (T : Blt mg) (N : NetT K mg C) (F : Fun K "many" "Net.many" s_Net_many f fd) : FnOk P w K mg base CX0 (k + 1) f fd ["self"] (spD (cNet C fun _ ex => .int (ex.flatten.length : Int))) := by
  refine fnD F c_Net_many (fun ds Z h => ?_) (fun cdv A outer s H E ds Z hr h => ?_)
  · obtain ⟨e, ex, rfl, _⟩ := h
    rfl
  · obtain ⟨e, ex, rfl, v, q⟩ := h
    refine ss_one (s_ret (w_callB true rfl T.len (by decide +kernel) (a1 (w_fld (nm 0 ⟨C, netF e ex, _, rfl, N.t.cl, N.nT, by rfl, c_lenT ?_⟩)))))
    have e2 : (lI ex.flatten).length = ex.flatten.length := List.length_map _
    rw [e2]; exact q
def cNetEq (C : Addr) : List D → (D → Prop) → Prop := fun ds Z => (∃ e ex e' ex', ds = [netD C e ex, netD C e' ex'] ∧ Z (.bl (decide (e = e') && decide (ex = ex')))) ∨ ∃ e ex xs, ds = [netD C e ex, .lst xs] ∧ Z (.bl false)
theorem dep_ints : ∀ l : List Int, PyData.depthAll (l.map PyData.int) = 0
  | [] => rfl
  | i :: l => by show max 0 (PyData.depthAll (l.map PyData.int)) = 0; rw [dep_ints l]; rfl
theorem dep_tups : ∀ ex : List (List Int), PyData.depthAll (ex.map fun l => PyData.tuple (l.map PyData.int)) ≤ 1
  | [] => Nat.zero_le _
  | l :: ls => by
    show max (PyData.depthAll (l.map PyData.int) + 1) (PyData.depthAll (ls.map _)) ≤ 1
    rw [dep_ints]
    exact Nat.max_le.mpr ⟨Nat.le_refl _, dep_tups ls⟩
theorem dep_lsts : ∀ ex : List (List Int), PyData.depthAll (ex.map fun l => PyData.list (l.map PyData.int)) ≤ 1
  | [] => Nat.zero_le _
  | l :: ls => by
    show max (PyData.depthAll (l.map PyData.int) + 1) (PyData.depthAll (ls.map _)) ≤ 1
    rw [dep_ints]
    exact Nat.max_le.mpr ⟨Nat.le_refl _, dep_lsts ls⟩
theorem shaped_of {d : PyData} (h : d.canLay0 = true) (h2 : d.depth ≤ 64) : SeqAt.shaped d = true := by
  unfold SeqAt.shaped
  rw [h, decide_eq_true h2]
  rfl
theorem shaped_tups (ex : List (List Int)) : SeqAt.shaped (.tuple (ex.map fun l => PyData.tuple (l.map PyData.int))) = true :=
  shaped_of (lay_tups ex) (by show PyData.depthAll _ + 1 ≤ 64; have := dep_tups ex; omega)
theorem shaped_lsts (ex : List (List Int)) : SeqAt.shaped (.list (ex.map fun l => PyData.list (l.map PyData.int))) = true :=
  shaped_of (lay_lsts ex) (by show PyData.depthAll _ + 1 ≤ 64; have := dep_lsts ex; omega)
theorem shaped_ints (l : List Int) : SeqAt.shaped (.list (l.map PyData.int)) = true :=
  shaped_of (lay_ints l) (by show PyData.depthAll _ + 1 ≤ 64; rw [dep_ints]; decide)
theorem ok_eq (T : Blt mg) (N : NetT K mg C) (F : Fun K "__eq__" "Net.__eq__" s_Net_eq_ f fd) : FnOk P w K mg base CX0 (k + 1) f fd ["self", "other"] (spD (cNetEq C)) := by
  refine fnD F c_Net_eq_ (fun ds Z h => ?_) (fun cdv A outer s H E ds Z hr h => ?_)
  · rcases h with ⟨e, ex, e', ex', rfl, _⟩ | ⟨e, ex, xs, rfl, _⟩ <;> rfl
  · rcases h with ⟨e, ex, e', ex', rfl, q⟩ | ⟨e, ex, xs, rfl, q⟩
    rotate_left
    · exact ss_one (s_ret (w_and (w_isiL N.kl N.t.cl T.isi N.mgC (nm 1 ⟨_, rfl, _, rfl, q⟩))))
    refine ss_one (s_ret (w_and (w_isiO N.t T.isi N.mgC (nm 1 ⟨_, rfl, _, rfl, ?_⟩))))
    show W _ _ _ _ _ _
    refine w_and (w_cmpG (w_fld (nm 0 ⟨C, netF e ex, _, rfl, N.t.cl, N.nE, by rfl, w_fld (nm 1 ⟨C, netF e' ex', _, rfl, N.t.cl, N.nE, by rfl, o_eq ⟨_, rfl, ?_⟩⟩)⟩)))
    by_cases h1 : e = e'
    · rw [decide_eq_true h1] at q ⊢
      show W _ _ _ _ _ _
      refine w_one (w_cmpG (w_fld (nm 0 ⟨C, netF e ex, _, rfl, N.t.cl, N.nX, by rfl, w_fld (nm 1 ⟨C, netF e' ex', _, rfl, N.t.cl, N.nX, by rfl, ?_⟩)⟩)))
      have p1 : ∀ z : List (List Int), py (.tup (rowsT z)) = some (.tuple (z.map fun l => PyData.tuple (l.map PyData.int))) := fun z => by
        show (pyA (rowsT z)).map PyData.tuple = _
        rw [show pyA (rowsT z) = some _ from pyA_tups z]
        rfl
      refine o_eqD hr.units (p1 ex) (p1 ex') (shaped_tups ex) (shaped_tups ex') ?_
      show Z (.bl (PyData.eqvAll _ _))
      rw [eqv_tups]
      exact q
    · rw [decide_eq_false h1] at q ⊢
      exact q
end
/-- a net's class with the promises of its own defs, at level k -/
structure NetP (P : Program) (w : World) (K : PySem.W.Frag) (mg : Str → Option Value) (base : Heap) (C : Addr) (k : Nat) : Prop where
  n : NetT K mg C
  ends : ∃ pa ga fd, PropOf K C "ends" pa ga ∧ FnOk P w K mg base CX0 k ga fd ["self"] (spD (cNet C fun e _ => .int e)) ∧ Binds K fd ["self"] []
  points : ∃ pa ga fd, PropOf K C "points" pa ga ∧ FnOk P w K mg base CX0 k ga fd ["self"] (spD (cNet C fun _ ex => .int (ex.length : Int))) ∧ Binds K fd ["self"] []
  many : ∃ pa ga fd, PropOf K C "many" pa ga ∧ FnOk P w K mg base CX0 k ga fd ["self"] (spD (cNet C fun _ ex => .int (ex.flatten.length : Int))) ∧ Binds K fd ["self"] []
  targets : ∃ f fd, Meth K C "targets" f ∧ FnOk P w K mg base CX0 k f fd ["self"] (spD (cNet C fun _ ex => .lst (lI ex.flatten))) ∧ Binds K fd ["self"] []
  exits : ∃ f fd, Meth K C "exits" f ∧ FnOk P w K mg base CX0 k f fd ["self"] (spD (cNet C fun _ ex => .lst (rowsL ex))) ∧ Binds K fd ["self"] []
  eq : ∃ f fd, PySem.W.findIn K (.ref C) "__eq__" = some (some (.ref f)) ∧ PySem.W.isFn K (.ref f) = true ∧ FnOk P w K mg base CX0 k f fd ["self", "other"] (spD (cNetEq C)) ∧ Binds K fd ["self", "other"] []
  ne : PySem.W.findIn K (.ref C) "__ne__" = some (some (.builtin "object.__ne__"))
  sub : PySem.W.subIn K (.ref C) (.type "object") = some true
  maker : ∃ f fd, Mk K C f ∧ FnOk P w K mg base CX0 k f fd ["self", "ends", "exits"] (spI C cInit) ∧ Binds K fd ["self", "ends", "exits"] [] ∧ KBn K fd ["self", "ends", "exits"] 1 ["exits", "ends"] (fun us ws => us ++ sw2 ws) (fun vs zs => vs ++ sw2 zs)
section
variable {p g : Bool} {X : Cx} {ρ : Rho} {Q : D → Rho → Prop} {C : Addr} {k : Nat} {e : Expr} {pos apos : Pos}
theorem w_ends (N : NetP X.prog X.w X.K X.mg X.base C k) (hr : Room (k + 1) X.A) (h : W p true X e ρ fun x ρ1 => ∃ n ex, x = netD C n ex ∧ Valid n ex ∧ Q (.int n) ρ1) (hab : attributeBase e "ends" X.env (eval e X.env) = eval e X.env := by rfl) : W p g X (.Attribute e "ends" pos) ρ Q := by
  obtain ⟨pa, ga, fd, hp, F, hb⟩ := N.ends
  exact w_prop N.n.t.cl hp F hr hb (h.imp fun d ρ' ⟨n, ex, e, v, q⟩ => ⟨_, e, n, ex, rfl, v, q⟩) hab
theorem w_points (N : NetP X.prog X.w X.K X.mg X.base C k) (hr : Room (k + 1) X.A) (h : W p true X e ρ fun x ρ1 => ∃ n ex, x = netD C n ex ∧ Valid n ex ∧ Q (.int (ex.length : Int)) ρ1) (hab : attributeBase e "points" X.env (eval e X.env) = eval e X.env := by rfl) : W p g X (.Attribute e "points" pos) ρ Q := by
  obtain ⟨pa, ga, fd, hp, F, hb⟩ := N.points
  exact w_prop N.n.t.cl hp F hr hb (h.imp fun d ρ' ⟨n, ex, e, v, q⟩ => ⟨_, e, n, ex, rfl, v, q⟩) hab
theorem w_exits {pl : Sem Bool} (N : NetP X.prog X.w X.K X.mg X.base C k) (hr : Room k X.A) (h : W p true X e ρ fun x ρ1 => ∃ n ex, x = netD C n ex ∧ Valid n ex ∧ Q (.lst (rowsL ex)) ρ1)
    (ht : eval (.Call (.Attribute e "exits" apos) [] [] pos) X.env = (do
      let ov ← eval e X.env
      standAt apos.atName
      let (f, first) ← holding [ov] (getMethod ov "exits" pl)
      callWith pos f first (backTo pos (starEach [] X.env)) (backToKw pos (keywordEach [] X.env))) := by rfl) : W p g X (.Call (.Attribute e "exits" apos) [] [] pos) ρ Q := by
  obtain ⟨f, fd, hm, F, hb⟩ := N.exits
  exact w_meth0 (pl := pl) N.n.t.cl hm F hr hb (h.imp fun d ρ' ⟨n, ex, e, v, q⟩ => ⟨_, e, rfl, n, ex, rfl, v, q⟩) ht
theorem w_net {es : List Expr} {pp : Pos} (N : NetP X.prog X.w X.K X.mg X.base C k) (hr : Room (k + 1) X.A) (h : WA p true X (e :: es) ρ fun ds ρ' => ∃ n d ex, ds = [.int n, d] ∧ Rows d ex ∧ Valid n ex ∧ Q (netD C n ex) ρ') (hg : Gl X "Net" := by rfl)
    (he : starEach (e :: es) X.env = (false, eval e X.env) :: starEach es X.env := by rfl) (hpl : (backTo pos (starEach es X.env)).any (·.1) = false := by rfl) : W p g X (.Call (.Name "Net" pp) (e :: es) [] pos) ρ Q := by
  obtain ⟨f, fd, hm, F, hb, _⟩ := N.maker
  exact w_make hm F hr N.n.mgC hb h hg (by decide) he hpl
theorem o_eqN {n n' : Int} {ex ex' : List (List Int)} {Z : D → Prop} (N : NetP X.prog X.w X.K X.mg X.base C k) (hr : Room k X.A) (q : Z (.bl (decide (n = n') && decide (ex = ex')))) : Op2 true X (compareOp .Eq) (netD C n ex) (netD C n' ex') Z := by
  obtain ⟨f, fd, h1, h2, F, hb⟩ := N.eq
  exact o_eqO F hr h1 h2 hb (.inl ⟨n, ex, n', ex', rfl, _, rfl, q⟩)
theorem o_neN {n n' : Int} {ex ex' : List (List Int)} {Z : D → Prop} (N : NetP X.prog X.w X.K X.mg X.base C k) (hr : Room (k + 1) X.A) (q : Z (.bl (!(decide (n = n') && decide (ex = ex'))))) : Op2 true X (compareOp .NotEq) (netD C n ex) (netD C n' ex') Z := by
  obtain ⟨f, fd, h1, h2, F, hb⟩ := N.eq
  exact o_neO F hr h1 N.ne N.sub h2 hb (.inl ⟨n, ex, n', ex', rfl, _, rfl, q⟩)
theorem o_eqNL {n : Int} {ex : List (List Int)} {ds : List D} {Z : D → Prop} (N : NetP X.prog X.w X.K X.mg X.base C k) (hr : Room k X.A) (q : Z (.bl false)) : Op2 true X (compareOp .Eq) (netD C n ex) (.lst ds) Z := by
  obtain ⟨f, fd, h1, h2, F, hb⟩ := N.eq
  exact o_eqL F hr h1 h2 N.n.nf hb (.inr ⟨n, ex, ds, rfl, _, rfl, q⟩)
theorem w_many (N : NetP X.prog X.w X.K X.mg X.base C k) (hr : Room (k + 1) X.A) (h : W p true X e ρ fun x ρ1 => ∃ n ex, x = netD C n ex ∧ Valid n ex ∧ Q (.int (ex.flatten.length : Int)) ρ1) (hab : attributeBase e "many" X.env (eval e X.env) = eval e X.env := by rfl) : W p g X (.Attribute e "many" pos) ρ Q := by
  obtain ⟨pa, ga, fd, hp, F, hb⟩ := N.many
  exact w_prop N.n.t.cl hp F hr hb (h.imp fun d ρ' ⟨n, ex, e, v, q⟩ => ⟨_, e, n, ex, rfl, v, q⟩) hab
theorem w_targets {pl : Sem Bool} (N : NetP X.prog X.w X.K X.mg X.base C k) (hr : Room k X.A) (h : W p true X e ρ fun x ρ1 => ∃ n ex, x = netD C n ex ∧ Valid n ex ∧ Q (.lst (lI ex.flatten)) ρ1)
    (ht : eval (.Call (.Attribute e "targets" apos) [] [] pos) X.env = (do
      let ov ← eval e X.env
      standAt apos.atName
      let (f, first) ← holding [ov] (getMethod ov "targets" pl)
      callWith pos f first (backTo pos (starEach [] X.env)) (backToKw pos (keywordEach [] X.env))) := by rfl) : W p g X (.Call (.Attribute e "targets" apos) [] [] pos) ρ Q := by
  obtain ⟨f, fd, hm, F, hb⟩ := N.targets
  exact w_meth0 (pl := pl) N.n.t.cl hm F hr hb (h.imp fun d ρ' ⟨n, ex, e, v, q⟩ => ⟨_, e, rfl, n, ex, rfl, v, q⟩) ht
theorem noL_ints : ∀ l : List Int, noLA (lI l) = true
  | [] => rfl
  | i :: l => noL_ints l
theorem noL_tups : ∀ ex : List (List Int), noLA (rowsT ex) = true
  | [] => rfl
  | l :: ls => Bool.and_eq_true_iff.mpr ⟨noL_ints l, noL_tups ls⟩
theorem noL_net (n : Int) (ex : List (List Int)) : noLF (netF n ex) = true := by
  show (true && (noLA (rowsT ex) && (noLA (lI ex.flatten) && true))) = true
  rw [noL_tups, noL_ints]; rfl
theorem wfr_exits {pl : Sem Bool} {n : Int} {ex : List (List Int)} (N : NetP X.prog X.w X.K X.mg X.base C k) (hr : Room k X.A) (v : Valid n ex) (h : W true true X e ρ fun x _ => x = netD C n ex)
    (ht : eval (.Call (.Attribute e "exits" apos) [] [] pos) X.env = (do
      let ov ← eval e X.env
      standAt apos.atName
      let (f, first) ← holding [ov] (getMethod ov "exits" pl)
      callWith pos f first (backTo pos (starEach [] X.env)) (backToKw pos (keywordEach [] X.env))) := by rfl) : WFr X (.Call (.Attribute e "exits" apos) [] [] pos) ρ (.lst (rowsL ex)) := by
  obtain ⟨f, fd, hm, F, hb⟩ := N.exits
  exact wfr_meth0 (pl := pl) N.n.t.cl hm F hr hb h rfl (noL_net n ex) ⟨n, ex, rfl, v, rfl⟩ ht
theorem wfr_targets {pl : Sem Bool} {n : Int} {ex : List (List Int)} (N : NetP X.prog X.w X.K X.mg X.base C k) (hr : Room k X.A) (v : Valid n ex) (h : W true true X e ρ fun x _ => x = netD C n ex)
    (ht : eval (.Call (.Attribute e "targets" apos) [] [] pos) X.env = (do
      let ov ← eval e X.env
      standAt apos.atName
      let (f, first) ← holding [ov] (getMethod ov "targets" pl)
      callWith pos f first (backTo pos (starEach [] X.env)) (backToKw pos (keywordEach [] X.env))) := by rfl) : WFr X (.Call (.Attribute e "targets" apos) [] [] pos) ρ (.lst (lI ex.flatten)) := by
  obtain ⟨f, fd, hm, F, hb⟩ := N.targets
  exact wfr_meth0 (pl := pl) N.n.t.cl hm F hr hb h rfl (noL_net n ex) ⟨n, ex, rfl, v, rfl⟩ ht
theorem w_netK {kws : List Keyword} {pp : Pos} (N : NetP X.prog X.w X.K X.mg X.base C k) (hr : Room (k + 1) X.A) (h : WK p true X kws ρ fun ds ρ' => ∃ n d ex, ds = [d, .int n] ∧ Rows d ex ∧ Valid n ex ∧ Q (netD C n ex) ρ') (hg : Gl X "Net" := by rfl)
    (hall : (backToKw pos (keywordEach kws X.env)).all (·.1.isSome) = true := by rfl) (hks : (backToKw pos (keywordEach kws X.env)).filterMap (·.1) = (["exits", "ends"] : List Str) := by rfl)
    (hpl : ((backTo pos (starEach [] X.env)).any (·.1) || (backToKw pos (keywordEach kws X.env)).any (·.1.isNone)) = false := by rfl) : W p g X (.Call (.Name "Net" pp) [] kws pos) ρ Q := by
  obtain ⟨f, fd, hm, F, _, hb⟩ := N.maker
  refine w_makeK hm F hr N.n.mgC hb (fun B σ G H S R r => h B σ G H S R fun vs ds ρ' G' H' q S' y pu i => r vs ds ρ' G' H' ?_ S' y pu i) hg (by decide) hall hks hpl
  obtain ⟨n, d, ex, rfl, q⟩ := q
  exact ⟨rfl, n, d, ex, rfl, q⟩
end
section
variable {P : Program} {w : World} {K : PySem.W.Frag} {mg : Str → Option Value} {base : Heap} {f C : Addr} {fd : FuncData} {k : Nat}
/-! ### points, targets, settings -/
def cNN (C : Addr) (r : Int → List (List Int) → D) : List D → (D → Prop) → Prop := cNet C r
theorem ok_check_net (T : Blt mg) (N : NetT K mg C) (F : Fun K "check_net" "check_net" s_check_net f fd) : FnOk P w K mg base CX0 (k + 1) f fd ["net"] (spD (cNet C fun _ _ => .non)) := by
  refine fnD F c_check_net (fun ds Z h => ?_) (fun cdv A outer s H E ds Z hr h => ?_)
  · obtain ⟨e, ex, rfl, _⟩ := h
    rfl
  · obtain ⟨e, ex, rfl, v, q⟩ := h
    refine ss_one (s_if (t_not (t_val (w_isiO N.t T.isi N.mgC (nm 0 ⟨_, rfl, _, rfl, ?_⟩)))))
    show WSs _ [] _ _
    exact ss_nil q
def cNet1 (C : Addr) (b : D → Int → List (List Int) → Bool) : List D → (D → Prop) → Prop := fun ds Z => ∃ e ex d, ds = [netD C e ex, d] ∧ Valid e ex ∧ Pl d ∧ Z (.bl (b d e ex))
theorem ok_is_point {j : Nat} (N : NetP P w K mg base C j) (hj : j ≤ k) (Fc : Df P w K mg base k "is_count_below" ["value", "bound"] (spD (c2 isCB))) (F : Fun K "is_point" "is_point" s_is_point f fd) : FnOk P w K mg base CX0 (k + 2) f fd ["net", "value"] (spD (cNet1 C fun d _ ex => isCB d ex.length)) := by
  refine fnD F c_is_point (fun ds Z h => ?_) (fun cdv A outer s H E ds Z hr h => ?_)
  · obtain ⟨e, ex, d, rfl, _⟩ := h
    rfl
  · obtain ⟨e, ex, d, rfl, v, pl, q⟩ := h
    exact ss_one (s_ret (call Fc (hr.mono (Nat.le_succ _)) (aG (nm 1 (a1 (w_points N (hr.mono (by omega)) (nm 0 ⟨e, ex, rfl, v, _, _, rfl, pl, q⟩)))))))
theorem ok_is_target {j : Nat} (N : NetP P w K mg base C j) (hj : j ≤ k) (Ft : Df P w K mg base k "_is_target_of" ["value", "ends", "points"] (spD (c3 isTg))) (F : Fun K "is_target" "is_target" s_is_target f fd) : FnOk P w K mg base CX0 (k + 2) f fd ["net", "value"] (spD (cNet1 C fun d e ex => isTg d e ex.length)) := by
  refine fnD F c_is_target (fun ds Z h => ?_) (fun cdv A outer s H E ds Z hr h => ?_)
  · obtain ⟨e, ex, d, rfl, _⟩ := h
    rfl
  · obtain ⟨e, ex, d, rfl, v, pl, q⟩ := h
    exact ss_one (s_ret (call Ft (hr.mono (Nat.le_succ _)) (aG (nm 1 (aG (w_ends N (hr.mono (by omega)) (nm 0 ⟨e, ex, rfl, v, a1 (w_points N (hr.mono (by omega)) (nm 0 ⟨e, ex, rfl, v, _, _, _, rfl, pl, q⟩))⟩)))))))
/-- a setting, as a list of whole numbers -/
def ValidS (ex : List (List Int)) (st : List Int) : Prop := st.length = ex.length ∧ ∀ (i : Nat) (s : Int) (l : List Int), st[i]? = some s → ex[i]? = some l → 0 ≤ s ∧ s < l.length
theorem wi_zipR {X : Cx} {p : Bool} {ρ : Rho} {QI : List D → Rho → Prop} {d : D} {xs : List D} {a b : Expr} {elts : List Expr} {kk : Nat} {pp pos tpos : Pos} (hd : d = .lst xs ∨ d = .tup xs) (hg : Gl X "zip") (hm : X.mg "zip" = none) (h : WA p true X [a, b] ρ fun ds ρ' => ∃ ys, ds = [d, .lst ys] ∧ QI ((xs.zip ys).map fun q => D.tup [q.1, q.2]) ρ')
    (hs : starEach [a, b] X.env = (false, eval a X.env) :: starEach [b] X.env := by rfl) (hpl : (backTo pos (starEach [b] X.env)).any (·.1) = false := by rfl) : WI p X (.Tuple elts kk tpos) (.Call (.Name "zip" pp) [a, b] [] pos) ρ QI := by
  rcases hd with rfl | rfl
  · exact wi_zip hg hm (fun B σ G H S R r => h B σ G H S R fun vs ds ρ' G' H' q S' y pu i => r vs ds ρ' G' H' (by
      obtain ⟨ys, e, q⟩ := q
      exact ⟨_, ys, e, q⟩) S' y pu i) hs hpl
  · exact wi_zipTL hg hm (fun B σ G H S R r => h B σ G H S R fun vs ds ρ' G' H' q S' y pu i => r vs ds ρ' G' H' (by
      obtain ⟨ys, e, q⟩ := q
      exact ⟨_, ys, e, q⟩) S' y pu i) hs hpl
def cSet (C : Addr) (r : Int → List (List Int) → List Int → D) : List D → (D → Prop) → Prop := fun ds Z => ∃ e ex d st, ds = [netD C e ex, d] ∧ rowI d st ∧ Valid e ex ∧ ValidS ex st ∧ Z (r e ex st)
theorem zip_mem {st : List Int} {ex : List (List Int)} {d : D} (h : d ∈ ((lI st).zip (rowsL ex)).map fun q => D.tup [q.1, q.2]) : ∃ (i : Nat) (s : Int) (l : List Int), st[i]? = some s ∧ ex[i]? = some l ∧ d = .tup [.int s, .lst (lI l)] := by
  obtain ⟨⟨a, b⟩, hq, rfl⟩ := List.mem_map.mp h
  obtain ⟨i, hi, e⟩ := List.mem_iff_getElem.mp hq
  have e1 : (lI st)[i]? = some a ∧ (rowsL ex)[i]? = some b := List.getElem?_zip_eq_some.mp (by rw [List.getElem?_eq_getElem hi, e])
  obtain ⟨e1, e2⟩ := e1
  unfold lI at e1
  unfold rowsL at e2
  rw [List.getElem?_map] at e1 e2
  cases h1 : st[i]? with
  | none => rw [h1] at e1; cases e1
  | some s =>
    cases h2 : ex[i]? with
    | none => rw [h2] at e2; cases e2
    | some l =>
      rw [h1] at e1; rw [h2] at e2
      cases e1; cases e2
      exact ⟨i, s, l, h1, h2, rfl⟩
def spotB : D → Bool
  | .tup [s, .lst l] => isCB s l.length
  | _ => false
theorem ok_is_setting {j : Nat} (T : Blt mg) (N : NetP P w K mg base C j) (hj : j ≤ k) (Fn : Df P w K mg base k "check_net" ["net"] (spD (cNet C fun _ _ => .non))) (Fr : Df P w K mg base k "is_row" ["value"] (spD (c1 isRow))) (Fc : Df P w K mg base k "is_count_below" ["value", "bound"] (spD (c2 isCB)))
    (F : Fun K "is_setting" "is_setting" s_is_setting f fd) : FnOk P w K mg base CX0 (k + 2) f fd ["net", "value"] (spD (cSet C fun _ _ _ => .bl true)) := by
  refine fnD F c_is_setting (fun ds Z h => ?_) (fun cdv A outer s H E ds Z hr h => ?_)
  · obtain ⟨e, ex, dr, st, rfl, _⟩ := h
    rfl
  · obtain ⟨e, ex, dr, st, rfl, hdr, v, vs, q⟩ := h
    have hdr2 : dr = .lst (lI st) ∨ dr = .tup (lI st) := hdr
    have hpl : Pl dr := by rcases hdr with rfl | rfl <;> exact ⟨_, rfl⟩
    have hrow : isRow dr = true := by rcases hdr with rfl | rfl <;> rfl
    have hrk := hr.mono (Nat.le_succ k)
    refine ss_cons (s_expr (call Fn hrk (a1 (nm 0 ⟨e, ex, rfl, v, ?_⟩))))
    show WSs _ _ _ _
    refine ss_cons (s_if (t_bool (tb_or (t_not (t_val (call Fr hrk (a1 (nm 1 ⟨_, rfl, hpl, _, rfl, ?_⟩))))))))
    rw [hrow]
    show WTB _ _ _ _ _ _ _
    refine tb_or1 (t_cmpG (w_callB true rfl T.len (by decide +kernel) (a1 (nm 1 (c_len hdr2 (w_points N (hr.mono (by omega)) (nm 0 ⟨e, ex, rfl, v, o_ne ⟨_, rfl, ?_⟩⟩)))))))
    have e1 : (!decide (((lI st).length : Int) = (ex.length : Int))) = false := by
      have : (lI st).length = st.length := List.length_map _
      rw [decide_eq_true (by rw [this, vs.1])]; rfl
    rw [e1]
    show WSs _ [] _ _
    refine ss_nil ?_
    show WSs _ _ _ _
    refine ss_one (s_ret (w_callB true rfl T.all (by decide +kernel) (a1 (lc2 2 3 (fun d => .bl (spotB d)) c_is_setting (wi_zipR hdr2 rfl T.zip (aG (nm 1 (a1 (w_exits N (hr.mono (by omega)) (nm 0 ⟨e, ex, rfl, v, _, rfl, ?_, fun d hd => ?_, c_allD rfl ?_⟩))))))))))
    · rw [List.length_map, List.length_zip]
      have : (rowsL ex).length = ex.length := List.length_map _
      have := v.n24
      omega
    · obtain ⟨i, s, l, h1, h2, rfl⟩ := zip_mem hd
      exact ⟨_, _, rfl, fun _ _ _ _ _ => call Fc hrk (aG (nm 2 (a1 (w_callB true rfl T.len (by decide +kernel) (a1 (nm 3 (c_lenL ⟨_, _, rfl, pl_int _, rfl⟩)))))))⟩
    · have e2 : ((((lI st).zip (rowsL ex)).map fun q => D.tup [q.1, q.2]).all spotB) = true := by
        refine List.all_eq_true.mpr fun d hd => ?_
        obtain ⟨i, s, l, h1, h2, rfl⟩ := zip_mem hd
        obtain ⟨a, b⟩ := vs.2 i s l h1 h2
        show (decide (0 ≤ s) && decide (s < ((lI l).length : Int))) = true
        have : (lI l).length = l.length := List.length_map _
        rw [decide_eq_true a, decide_eq_true (by omega)]; rfl
      show Z (.bl _)
      rw [e2]; exact q
theorem ok_check_setting (Fs : Df P w K mg base k "is_setting" ["net", "value"] (spD (cSet C fun _ _ _ => .bl true))) (F : Fun K "check_setting" "check_setting" s_check_setting f fd) : FnOk P w K mg base CX0 (k + 1) f fd ["net", "setting"] (spD (cSet C fun _ _ _ => .non)) := by
  refine fnD F c_check_setting (fun ds Z h => ?_) (fun cdv A outer s H E ds Z hr h => ?_)
  · obtain ⟨e, ex, dr, st, rfl, _⟩ := h
    rfl
  · obtain ⟨e, ex, dr, st, rfl, hdr, v, vs, q⟩ := h
    have hdr2 : dr = .lst (lI st) ∨ dr = .tup (lI st) := hdr
    have hpl : Pl dr := by rcases hdr with rfl | rfl <;> exact ⟨_, rfl⟩
    have hrow : isRow dr = true := by rcases hdr with rfl | rfl <;> rfl
    refine ss_one (s_if (t_not (t_val (call Fs hr (aG (nm 0 (a1 (nm 1 ⟨e, ex, dr, st, rfl, hdr, v, vs, _, rfl, ?_⟩))))))))
    show WSs _ [] _ _
    exact ss_nil q
/-- the targets of the last exits -/
def lastOf : D → D
  | .tup [.int s, .lst l] => (atI l (s - 1)).getD .non
  | _ => .non
def lasts (ex : List (List Int)) (st : List Int) : List Int := (st.zip ex).map fun q => (atI q.2 (q.1 - 1)).getD 0
theorem atI_lI (l : List Int) (i : Int) : atI (lI l) i = (atI l i).map D.int := by
  unfold atI lI
  rw [List.length_map]
  cases ixN l.length i with
  | none => rfl
  | some n => show (l.map D.int)[n]? = _; rw [List.getElem?_map]; rfl
theorem atI_some {l : List Int} {s : Int} (h0 : 0 ≤ s) (h1 : s < l.length) : ∃ t, atI l (s - 1) = some t ∧ t ∈ l := by
  unfold atI ixN
  by_cases hs : s = 0
  · subst hs
    have hl : 0 < l.length := by omega
    rw [if_neg (by omega), if_pos (by omega)]
    have e : ((0 : Int) - 1 + l.length).toNat = l.length - 1 := by omega
    show ∃ t, l[((0 : Int) - 1 + l.length).toNat]? = some t ∧ t ∈ l
    rw [e]
    have : l.length - 1 < l.length := by omega
    exact ⟨l[l.length - 1], List.getElem?_eq_getElem this, List.getElem_mem _⟩
  · rw [if_pos (by omega), if_pos (by omega)]
    have : (s - 1).toNat < l.length := by omega
    exact ⟨l[(s - 1).toNat], List.getElem?_eq_getElem this, List.getElem_mem _⟩
theorem ok_last_exits {j : Nat} (T : Blt mg) (N : NetP P w K mg base C j) (hj : j ≤ k) (Fn : Df P w K mg base k "check_net" ["net"] (spD (cNet C fun _ _ => .non))) (Fs : Df P w K mg base k "check_setting" ["net", "setting"] (spD (cSet C fun _ _ _ => .non)))
    (F : Fun K "last_exits" "last_exits" s_last_exits f fd) : FnOk P w K mg base CX0 (k + 2) f fd ["net", "setting"] (spD (cSet C fun _ ex st => .lst (lI (lasts ex st)))) := by
  refine fnD F c_last_exits (fun ds Z h => ?_) (fun cdv A outer s H E ds Z hr h => ?_)
  · obtain ⟨e, ex, dr, st, rfl, _⟩ := h
    rfl
  · obtain ⟨e, ex, dr, st, rfl, hdr, v, vs, q⟩ := h
    have hdr2 : dr = .lst (lI st) ∨ dr = .tup (lI st) := hdr
    have hpl : Pl dr := by rcases hdr with rfl | rfl <;> exact ⟨_, rfl⟩
    have hrow : isRow dr = true := by rcases hdr with rfl | rfl <;> rfl
    have hrk := hr.mono (Nat.le_succ k)
    refine ss_cons (s_expr (call Fn hrk (a1 (nm 0 ⟨e, ex, rfl, v, ?_⟩))))
    show WSs _ _ _ _
    refine ss_cons (s_expr (call Fs hrk (aG (nm 0 (a1 (nm 1 ⟨e, ex, dr, st, rfl, hdr, v, vs, ?_⟩))))))
    show WSs _ _ _ _
    refine ss_one (s_ret (lc2 2 3 lastOf c_last_exits (wi_zipR hdr2 rfl T.zip (aG (nm 1 (a1 (w_exits N (hr.mono (by omega)) (nm 0 ⟨e, ex, rfl, v, _, rfl, ?_, fun d hd => ?_, ?_⟩))))))))
    · rw [List.length_map, List.length_zip]
      have : (rowsL ex).length = ex.length := List.length_map _
      have := v.n24
      omega
    · obtain ⟨i, s, l, h1, h2, rfl⟩ := zip_mem hd
      obtain ⟨a, b⟩ := vs.2 i s l h1 h2
      obtain ⟨t, ht, _⟩ := atI_some a b
      refine ⟨_, _, rfl, fun _ _ _ _ _ => w_ix true true (fun _ _ => rfl) (.inr rfl) (nm 3 (w_binG (nm 2 (w_int (o_sub (x_lst (d := .int t) ?_ ?_))))))⟩
      · rw [atI_lI, ht]; rfl
      · show D.int t = (atI (lI l) (s - 1)).getD .non
        rw [atI_lI, ht]; rfl
    · have e2 : (((lI st).zip (rowsL ex)).map fun q => D.tup [q.1, q.2]).map lastOf = lI (lasts ex st) := by
        have key : ∀ (st : List Int) (ex : List (List Int)), (∀ (i : Nat) (s : Int) (l : List Int), st[i]? = some s → ex[i]? = some l → 0 ≤ s ∧ s < l.length) → (((lI st).zip (rowsL ex)).map fun q => D.tup [q.1, q.2]).map lastOf = lI (lasts ex st) := by
          intro st
          induction st with
          | nil => intro ex _; rfl
          | cons s st ih =>
            intro ex h
            cases ex with
            | nil => rfl
            | cons l ex =>
              have h0 := h 0 s l rfl rfl
              obtain ⟨t, ht, _⟩ := atI_some h0.1 h0.2
              have ih2 := ih ex fun i s' l' h1 h2 => h (i + 1) s' l' h1 h2
              show lastOf (.tup [.int s, .lst (lI l)]) :: _ = D.int ((atI l (s - 1)).getD 0) :: lI (lasts ex st)
              rw [← ih2]
              refine congrArg (· :: _) ?_
              show (atI (lI l) (s - 1)).getD .non = _
              rw [atI_lI, ht]; rfl
        exact key st ex vs.2
      rw [e2]; exact q
end
end K12

namespace K12
open PySem PySem.Spec PyProof.Rows L2 DD
/-! ### who leads to goals -/
def rowAt (ex : List (List Int)) (p : Nat) : List Int := ex.getD p []
inductive Lead (ex : List (List Int)) (goals : List Int) : Int → Prop
  | goal {p : Nat} {t : Int} : p < ex.length → t ∈ rowAt ex p → t ∈ goals → Lead ex goals (p : Int)
  | via {p : Nat} {t : Int} : p < ex.length → t ∈ rowAt ex p → Lead ex goals t → Lead ex goals (p : Int)
theorem Lead.pt {ex : List (List Int)} {goals : List Int} {i : Int} (h : Lead ex goals i) : ∃ p : Nat, p < ex.length ∧ i = (p : Int) := by
  cases h with
  | goal a b c => exact ⟨_, a, rfl⟩
  | via a b c => exact ⟨_, a, rfl⟩
def nats (n : Nat) : List Int := (List.range n).map fun i : Nat => (i : Int)
theorem mem_nats {n : Nat} {i : Int} : i ∈ nats n ↔ 0 ≤ i ∧ i < n := by
  unfold nats
  rw [List.mem_map]
  constructor
  · rintro ⟨p, hp, rfl⟩
    have := List.mem_range.mp hp
    omega
  · rintro ⟨h0, h1⟩
    exact ⟨i.toNat, List.mem_range.mpr (by omega), by omega⟩
theorem nats_len (n : Nat) : (nats n).length = n := by simp [nats]
theorem nats_get {n i : Nat} (h : i < n) : (nats n)[i]? = some (i : Int) := by unfold nats; rw [List.getElem?_map, List.getElem?_range h]; rfl
theorem nats_pw (n : Nat) : (nats n).Pairwise (· < ·) := by
  unfold nats
  rw [List.pairwise_map]
  exact List.pairwise_lt_range.imp fun h => by omega
open Classical in
noncomputable def ptsTo (ex : List (List Int)) (goals : List Int) : List Int := (nats ex.length).filter fun i => decide (Lead ex goals i)
open Classical in
theorem mem_ptsTo {ex : List (List Int)} {goals : List Int} {i : Int} : i ∈ ptsTo ex goals ↔ Lead ex goals i := by
  unfold ptsTo
  rw [List.mem_filter, decide_eq_true_iff]
  refine ⟨fun h => h.2, fun h => ⟨?_, h⟩⟩
  obtain ⟨p, hp, rfl⟩ := h.pt
  exact mem_nats.mpr ⟨by omega, by omega⟩
theorem ptsTo_pw (ex : List (List Int)) (goals : List Int) : (ptsTo ex goals).Pairwise (· < ·) := (nats_pw _).filter _
theorem nodup_of_lt {l : List Int} (h : l.Pairwise (· < ·)) : l.Nodup := h.imp fun q => by omega
theorem perm_of_mem {a b : List Int} (ha : a.Nodup) (hb : b.Nodup) (h : ∀ i, i ∈ a ↔ i ∈ b) : a.Perm b := (List.perm_ext_iff_of_nodup ha hb).mpr h
/-- what is found so far -/
structure Fnd (ex : List (List Int)) (goals fs : List Int) : Prop where
  nd : fs.Nodup
  ld : ∀ i ∈ fs, Lead ex goals i
def kf (fs : List Int) : List (Key × D) := fs.map fun i => (.inl i, .bl true)
theorem lookD_kf (i : Int) : ∀ fs : List Int, (lookD (kf fs) (.inl i)).isSome = decide (i ∈ fs)
  | [] => rfl
  | j :: fs => by
    unfold lookD kf
    rw [List.map_cons, List.find?_cons]
    by_cases h : j = i
    · subst h; simp
    · have e : decide ((Sum.inl j : Key) = Sum.inl i) = false := decide_eq_false fun z => h (Sum.inl.inj z)
      simp only [e]
      have ih := lookD_kf i fs
      unfold lookD kf at ih
      rw [ih]
      have : (i ∈ j :: fs) = (i ∈ fs) := by
        rw [List.mem_cons, eq_iff_iff]
        exact ⟨fun q => q.resolve_left fun z => h z.symm, .inr⟩
      simp only [this]
theorem putD_kf {fs : List Int} {i : Int} (h : i ∉ fs) : putD (kf fs) (.inl i) (.bl true) = kf (fs ++ [i]) := by
  unfold putD
  have e : ((kf fs).any fun kv => decide (kv.1 = (Sum.inl i : Key))) = false := by
    unfold kf
    rw [List.any_map, List.any_eq_false]
    intro j hj
    have : ¬ (Sum.inl j : Key) = Sum.inl i := fun z => h (Sum.inl.inj z ▸ hj)
    simpa using this
  rw [e]
  show kf fs ++ [(Sum.inl i, D.bl true)] = kf (fs ++ [i])
  unfold kf
  rw [List.map_append]
  rfl
def newP (ex : List (List Int)) (goals fs : List Int) (p : Nat) : Bool := !decide ((p : Int) ∈ fs) && (rowAt ex p).any fun t => decide (t ∈ goals) || decide (t ∈ fs)
def newPs (ex : List (List Int)) (goals fs : List Int) : List Int := ((List.range ex.length).filter (newP ex goals fs)).map fun p : Nat => (p : Int)
theorem mem_newPs {ex : List (List Int)} {goals fs : List Int} {i : Int} : i ∈ newPs ex goals fs ↔ ∃ p : Nat, p < ex.length ∧ newP ex goals fs p = true ∧ i = (p : Int) := by
  unfold newPs
  rw [List.mem_map]
  constructor
  · rintro ⟨p, hp, rfl⟩
    have := List.mem_filter.mp hp
    exact ⟨p, List.mem_range.mp this.1, this.2, rfl⟩
  · rintro ⟨p, hp, h2, rfl⟩
    exact ⟨p, List.mem_filter.mpr ⟨List.mem_range.mpr hp, h2⟩, rfl⟩
theorem Fnd.more {ex : List (List Int)} {goals fs : List Int} (f : Fnd ex goals fs) : Fnd ex goals (fs ++ newPs ex goals fs) := by
  refine ⟨List.nodup_append.mpr ⟨f.nd, ?_, ?_⟩, fun i hi => ?_⟩
  · have h1 : ((List.range ex.length).filter (newP ex goals fs)).Nodup := List.nodup_range.filter _
    have h2 : (newPs ex goals fs).Pairwise (· < ·) := by
      unfold newPs
      rw [List.pairwise_map]
      exact (List.pairwise_lt_range.filter _).imp fun h => by omega
    exact nodup_of_lt h2
  · intro i hi j hj e
    subst e
    obtain ⟨p, _, h2, rfl⟩ := mem_newPs.mp hj
    unfold newP at h2
    rw [decide_eq_true hi] at h2
    cases h2
  · rcases List.mem_append.mp hi with h | h
    · exact f.ld i h
    · obtain ⟨p, hp, h2, rfl⟩ := mem_newPs.mp h
      unfold newP at h2
      obtain ⟨t, ht, h3⟩ := List.any_eq_true.mp (Bool.and_eq_true_iff.mp h2).2
      rcases Bool.or_eq_true_iff.mp h3 with h4 | h4
      · exact .goal hp ht (of_decide_eq_true h4)
      · exact .via hp ht (f.ld t (of_decide_eq_true h4))
theorem Fnd.len {ex : List (List Int)} {goals fs : List Int} (f : Fnd ex goals fs) : fs.length ≤ ex.length := by
  have pm : fs.Perm ((nats ex.length).filter fun i => decide (i ∈ fs)) := perm_of_mem f.nd (nodup_of_lt ((nats_pw _).filter _)) fun i => by
    rw [List.mem_filter, decide_eq_true_iff]
    refine ⟨fun h => ⟨?_, h⟩, fun h => h.2⟩
    obtain ⟨p, hp, rfl⟩ := (f.ld i h).pt
    exact mem_nats.mpr ⟨by omega, by omega⟩
  have h := List.length_filter_le (fun i => decide (i ∈ fs)) (nats ex.length)
  rw [← pm.length_eq, nats_len] at h
  exact h
theorem Fnd.all {ex : List (List Int)} {goals fs : List Int} (f : Fnd ex goals fs) (h : newPs ex goals fs = []) : ∀ i, i ∈ fs ↔ Lead ex goals i := by
  refine fun i => ⟨f.ld i, fun hl => ?_⟩
  have key : ∀ (p : Nat) (t : Int), p < ex.length → t ∈ rowAt ex p → (t ∈ goals ∨ t ∈ fs) → (p : Int) ∈ fs := by
    intro p t hp ht hh
    apply Classical.byContradiction
    intro hn
    have : (p : Int) ∈ newPs ex goals fs := mem_newPs.mpr ⟨p, hp, by
      unfold newP
      rw [decide_eq_false hn]
      refine List.any_eq_true.mpr ⟨t, ht, ?_⟩
      rcases hh with hh | hh
      · rw [decide_eq_true hh]; rfl
      · rw [decide_eq_true hh, Bool.or_true], rfl⟩
    rw [h] at this
    cases this
  induction hl with
  | goal a b c => exact key _ _ a b (.inl c)
  | via a b c ih => exact key _ _ a b (.inr ih)
theorem Fnd.done {ex : List (List Int)} {goals fs ms : List Int} (f : Fnd ex goals fs) (h : ∀ i, i ∈ fs ↔ Lead ex goals i) (pm : ms.Perm fs) (pw : ms.Pairwise (· ≤ ·)) : ms = ptsTo ex goals := by
  refine PySem.W.os_sorted_one (pm.trans (perm_of_mem f.nd (nodup_of_lt (ptsTo_pw _ _)) fun i => ?_)) pw ((ptsTo_pw _ _).imp fun q => by omega)
  rw [mem_ptsTo]; exact h i
/-! the enumerated rows -/
theorem enum_eq (xs : List D) : ((rng 0 xs.length).zip xs).map (fun q => D.tup [q.1, q.2]) = (List.range xs.length).map fun i : Nat => D.tup [.int (i : Int), xs.getD i .non] := by
  apply List.ext_getElem?
  intro i
  rw [List.getElem?_map, List.getElem?_map]
  by_cases h : i < xs.length
  · have e1 : (rng 0 xs.length)[i]? = some (D.int (i : Int)) := by
      unfold rng
      rw [List.getElem?_map, List.getElem?_range h]
      show some (D.int (0 + (i : Int))) = _
      rw [Int.zero_add]
    have e2 : ((rng 0 xs.length).zip xs)[i]? = some (D.int (i : Int), xs[i]) := List.getElem?_zip_eq_some.mpr ⟨e1, List.getElem?_eq_getElem h⟩
    rw [e2, List.getElem?_range h]
    show some (D.tup [D.int (i : Int), xs[i]]) = some (D.tup [.int (i : Int), xs.getD i .non])
    rw [List.getD_eq_getElem?_getD, List.getElem?_eq_getElem h]
    rfl
  · have e2 : ((rng 0 xs.length).zip xs)[i]? = none := List.getElem?_eq_none (by rw [List.length_zip, rng_len]; omega)
    rw [e2, List.getElem?_eq_none (by simpa using h)]
    rfl
theorem rowsL_len (ex : List (List Int)) : (rowsL ex).length = ex.length := List.length_map _
theorem rowsL_at (ex : List (List Int)) {i : Nat} (h : i < ex.length) : (rowsL ex).getD i .non = .lst (lI (rowAt ex i)) := by
  unfold rowsL rowAt
  rw [List.getD_eq_getElem?_getD, List.getD_eq_getElem?_getD, List.getElem?_map, List.getElem?_eq_getElem h]
  rfl
theorem enum_rows (ex : List (List Int)) : ((rng 0 (rowsL ex).length).zip (rowsL ex)).map (fun q => D.tup [q.1, q.2]) = (List.range ex.length).map fun i : Nat => D.tup [.int (i : Int), .lst (lI (rowAt ex i))] := by
  rw [enum_eq, rowsL_len]
  exact List.map_congr_left fun i hi => by rw [rowsL_at ex (List.mem_range.mp hi)]
theorem rowAt_mem {ex : List (List Int)} {p : Nat} (h : p < ex.length) : rowAt ex p ∈ ex := by unfold rowAt; rw [List.getD_eq_getElem?_getD, List.getElem?_eq_getElem h]; exact List.getElem_mem h
section
variable {P : Program} {w : World} {K : PySem.W.Frag} {mg : Str → Option Value} {base : Heap} {f C : Addr} {fd : FuncData} {k : Nat}
/-! ### many_settings -/
def prodR (ex : List (List Int)) : Int := ex.foldl (fun a l => a * (l.length : Int)) 1
theorem ok_many_settings {j : Nat} (T : Blt mg) (N : NetP P w K mg base C j) (hj : j ≤ k) (Fn : Df P w K mg base k "check_net" ["net"] (spD (cNet C fun _ _ => .non)))
    (F : Fun K "many_settings" "many_settings" s_many_settings f fd) : FnOk P w K mg base CX0 (k + 2) f fd ["net"] (spD (cNet C fun _ ex => .int (prodR ex))) := by
  refine fnD F c_many_settings (fun ds Z h => ?_) (fun cdv A outer s H E ds Z hr h => ?_)
  · obtain ⟨e, ex, rfl, _⟩ := h
    rfl
  · obtain ⟨e, ex, rfl, v, q⟩ := h
    have hrk := hr.mono (Nat.le_succ k)
    refine ss_cons (s_expr (call Fn hrk (a1 (nm 0 ⟨e, ex, rfl, v, ?_⟩))))
    show WSs _ _ _ _
    refine ss_cons (set 1 c_many_settings (w_int ?_))
    show WSs _ _ _ _
    refine ss_cut (fun ρ => ∃ s2, ρ = [.val (netD C e ex), .val (.int (prodR ex)), s2]) (for1 2 c_many_settings (wi_lst (w_exits N (hr.mono (by omega)) (nm 0 ⟨e, ex, rfl, v, _, rfl, fun j ρ => ∃ s2, ρ = [.val (netD C e ex), .val (.int (prodR (ex.take j))), s2], ⟨_, rfl⟩, fun i d ρi hd hI => ?_, fun ρn hI => ?_⟩)))) (fun ρ' hI => ?_)
    · obtain ⟨s2, rfl⟩ := hI
      have hi : i < ex.length := by have := (List.getElem?_eq_some_iff.mp hd).1; rw [rowsL_len] at this; exact this
      have ed : d = .lst (lI (rowAt ex i)) := by
        have z := rowsL_at ex hi
        rw [List.getD_eq_getElem?_getD, hd] at z
        exact z
      subst ed
      refine ss_one (s_augMul (i := 1) c_many_settings.nd rfl (.inl rfl) ⟨prodR (ex.take i), rfl, w_callB true rfl T.len (by decide +kernel) (a1 (nm 2 (c_lenL ⟨_, rfl, .inr ?_, ?_⟩)))⟩)
      · have : (lI (rowAt ex i)).length = (rowAt ex i).length := List.length_map _
        have hm : rowAt ex i ∈ ex := by unfold rowAt; rw [List.getD_eq_getElem?_getD, List.getElem?_eq_getElem hi]; exact List.getElem_mem hi
        have := v.r6 _ hm
        omega
      · refine ⟨.val (.lst (lI (rowAt ex i))), ?_⟩
        have e1 : ex.take (i + 1) = ex.take i ++ [rowAt ex i] := by
          unfold rowAt
          rw [List.take_add_one, List.getD_eq_getElem?_getD, List.getElem?_eq_getElem hi]
          rfl
        have : (lI (rowAt ex i)).length = (rowAt ex i).length := List.length_map _
        rw [e1, show prodR (ex.take i ++ [rowAt ex i]) = prodR (ex.take i) * ((rowAt ex i).length : Int) by unfold prodR; rw [List.foldl_append]; rfl, this]
        rfl
    · obtain ⟨s2, rfl⟩ := hI
      rw [rowsL_len, List.take_length]
      exact ⟨s2, rfl⟩
    · obtain ⟨s2, rfl⟩ := hI
      exact ss_one (s_ret (nm 1 q))
/-! ### _points_to -/
def cPts (C : Addr) : List D → (D → Prop) → Prop := fun ds Z => ∃ e ex goals, ds = [netD C e ex, .lst (lI goals)] ∧ Valid e ex ∧ Z (.lst (lI (ptsTo ex goals)))
def testD (goals fs : List Int) : D → Bool
  | .tup [.int i, .lst l] => !decide (i ∈ fs) && l.any fun d => match d with | .int t => decide (t ∈ goals) || decide (t ∈ fs) | _ => false
  | _ => false
def inD (goals fs : List Int) : D → Bool
  | .int t => decide (t ∈ goals) || decide (t ∈ fs)
  | _ => false
def fstD : D → D
  | .tup [a, _] => a
  | _ => .non
theorem newPs_D (ex : List (List Int)) (goals fs : List Int) : (((List.range ex.length).map fun i : Nat => D.tup [.int (i : Int), .lst (lI (rowAt ex i))]).filter (testD goals fs)).map fstD = lI (newPs ex goals fs) := by
  have e0 : lI (newPs ex goals fs) = ((List.range ex.length).filter (newP ex goals fs)).map fun p : Nat => D.int (p : Int) := by unfold newPs lI; rw [List.map_map]; rfl
  rw [List.filter_map, List.map_map, e0]
  have e : (testD goals fs ∘ fun i : Nat => D.tup [.int (i : Int), .lst (lI (rowAt ex i))]) = newP ex goals fs := by
    funext i
    show (!decide ((i : Int) ∈ fs) && (lI (rowAt ex i)).any _) = _
    unfold newP lI
    rw [List.any_map]
    rfl
  rw [show (List.range ex.length).filter (testD goals fs ∘ fun i : Nat => D.tup [.int (i : Int), .lst (lI (rowAt ex i))]) = (List.range ex.length).filter (newP ex goals fs) by rw [e]]
  rfl
theorem ok_points_to {j : Nat} (T : Blt mg) (N : NetP P w K mg base C j) (hj : j ≤ k)
    (F : Fun K "_points_to" "_points_to" s_points_to f fd) : FnOk P w K mg base CX0 (k + 2) f fd ["net", "goals"] (spD (cPts C)) := by
  refine fnD F c_points_to (fun ds Z h => ?_) (fun cdv A outer s H E ds Z hr h => ?_)
  · obtain ⟨e, ex, goals, rfl, _⟩ := h
    rfl
  · obtain ⟨e, ex, goals, rfl, v, q⟩ := h
    have hrk := hr.mono (Nat.le_succ k)
    refine ss_cons (set 2 c_points_to (w_exits N (hr.mono (by omega)) (nm 0 ⟨e, ex, rfl, v, ?_⟩)))
    show WSs _ _ _ _
    refine ss_cons (setO 3 c_points_to (f_dic ?_))
    show WSs _ _ _ _
    refine ss_cons (set 4 c_points_to (w_bl ?_))
    show WSs _ _ _ _
    refine ss_cut (fun ρ => ∃ fs s4 s5 s6, Fnd ex goals fs ∧ (∀ i, i ∈ fs ↔ Lead ex goals i) ∧ ρ = [.val (netD C e ex), .val (.lst (lI goals)), .val (.lst (rowsL ex)), .own true (.dic (kf fs)), s4, s5, s6, .un, .un])
      (s_while PassesOwn.never (fun m ρ => ∃ fs b s5 s6, Fnd ex goals fs ∧ (b = false → ∀ i, i ∈ fs ↔ Lead ex goals i) ∧ m = 2 * (ex.length - fs.length) + (if b = true then 1 else 0) ∧ ρ = [.val (netD C e ex), .val (.lst (lI goals)), .val (.lst (rowsL ex)), .own true (.dic (kf fs)), .val (.bl b), s5, s6, .un, .un])
        (2 * ex.length + 1) ⟨[], true, .un, .un, ⟨List.nodup_nil, fun i hi => absurd hi (by simp)⟩, (fun z => nomatch z), rfl, rfl⟩ (fun m ρ' hI => ?_)) (fun ρ' hI => ?_)
    · obtain ⟨fs, b, s5, s6, hf, hb, hm, rfl⟩ := hI
      refine t_val (nm (d := .bl b) 4 ⟨b, rfl, ?_⟩)
      cases b with
      | false => exact ⟨fs, _, s5, s6, hf, hb rfl, rfl⟩
      | true =>
        show WSs _ _ _ _
        refine ss_cons (s_lc2If 5 6 7 (testD goals fs) fstD c_points_to (wi_enum rfl T.enum (a1 (nm 2 ⟨_, rfl, ?_⟩))))
        rw [enum_rows]
        refine ⟨?_, fun d hd => ?_, ?_⟩
        · rw [List.length_map, List.length_range]; have := v.n24; omega
        · obtain ⟨i, hi, rfl⟩ := List.mem_map.mp hd
          have hi := List.mem_range.mp hi
          refine ⟨_, _, rfl, fun s1 H1 C1 cl fp => ⟨?_, fun _ => nm 6 rfl⟩⟩
          refine t_bool (tb_and (t_ninDic (i := 3) (hu_of hr) (nm 6 ⟨_, _, rfl, rfl, ?_⟩)))
          rw [lookD_kf]
          show if (!decide ((i : Int) ∈ fs)) = true then _ else _
          by_cases hin : (i : Int) ∈ fs
          · rw [if_neg (by rw [decide_eq_true hin]; decide)]
            show false = (!decide ((i : Int) ∈ fs) && _)
            rw [decide_eq_true hin]; rfl
          · rw [if_pos (by rw [decide_eq_false hin]; rfl)]
            show WTB _ _ _ _ _ _ _
            refine tb_and1 (t_val (w_callB true rfl T.any (by decide +kernel) (a1 (lc1 8 (fun d => .bl (inD goals fs d)) c_points_to (wi_lst (nm 7 ⟨_, rfl, ?_, fun d hd s2 H2 C2 cl2 fp2 => ?_, c_anyD rfl ⟨_, rfl, ?_⟩⟩))))))
            · have : (lI (rowAt ex i)).length = (rowAt ex i).length := List.length_map _
              have hm : rowAt ex i ∈ ex := by unfold rowAt; rw [List.getD_eq_getElem?_getD, List.getElem?_eq_getElem hi]; exact List.getElem_mem hi
              have := v.r6 _ hm
              omega
            · obtain ⟨t, _, rfl⟩ := List.mem_map.mp hd
              refine w_or (w_cmpG (nm 8 (nm 1 (o_in ⟨_, rfl, ?_⟩))))
              show if decide (t ∈ goals) = true then _ else _
              by_cases hg : t ∈ goals
              · rw [if_pos (decide_eq_true hg)]
                show D.bl true = .bl (decide (t ∈ goals) || _)
                rw [decide_eq_true hg]; rfl
              · rw [if_neg (by rw [decide_eq_false hg]; decide)]
                show W _ _ _ _ _ _
                refine w_one (w_inDic (i := 3) (hu_of hr) (nm 8 ⟨_, _, rfl, rfl, ?_⟩))
                rw [lookD_kf]
                show D.bl (decide (t ∈ fs)) = .bl (decide (t ∈ goals) || decide (t ∈ fs))
                rw [decide_eq_false hg]; rfl
            · show (lI (rowAt ex i)).any (inD goals fs) = (!decide ((i : Int) ∈ fs) && (lI (rowAt ex i)).any _)
              rw [decide_eq_false hin]
              rfl
        · rw [newPs_D]
          show WSs _ _ _ _
          refine ss_cons (set 4 c_points_to (w_cmpG (w_callB true rfl T.len (by decide +kernel) (a1 (nm 5 (c_lenL (w_int (o_gt ?_))))))))
          show WSs _ _ _ _
          have eln : (lI (newPs ex goals fs)).length = (newPs ex goals fs).length := List.length_map _
          have hmore := hf.more
          have hlen := hmore.len
          rw [List.length_append] at hlen
          have hlt : kf fs = kf (fs ++ (newPs ex goals fs).take 0) := by rw [List.take_zero, List.append_nil]
          refine ss_one (for1 6 c_points_to (wi_lst (nm 5 ⟨_, rfl, fun i ρ => ∃ s6, ρ = [.val (netD C e ex), .val (.lst (lI goals)), .val (.lst (rowsL ex)), .own true (.dic (kf (fs ++ (newPs ex goals fs).take i))), .val (.bl (decide ((0 : Int) < ((lI (newPs ex goals fs)).length : Int)))), .val (.lst (lI (newPs ex goals fs))), s6, .un, .un], ⟨s6, ?_⟩, fun i d ρi hd hI => ?_, fun ρn hI => ?_⟩)))
          · rw [← hlt]; rfl
          · obtain ⟨s6', rfl⟩ := hI
            have hi : i < (newPs ex goals fs).length := by have := (List.getElem?_eq_some_iff.mp hd).1; rw [eln] at this; exact this
            have ed : d = .int (newPs ex goals fs)[i] := by
              unfold lI at hd
              rw [List.getElem?_map, List.getElem?_eq_getElem hi] at hd
              cases hd; rfl
            subst ed
            have etk : (newPs ex goals fs).take (i + 1) = (newPs ex goals fs).take i ++ [(newPs ex goals fs)[i]] := by rw [List.take_add_one, List.getElem?_eq_getElem hi]; rfl
            have hnot : (newPs ex goals fs)[i] ∉ fs ++ (newPs ex goals fs).take i := by
              have nd := hmore.nd
              have e2 : fs ++ newPs ex goals fs = (fs ++ (newPs ex goals fs).take i) ++ ((newPs ex goals fs)[i] :: (newPs ex goals fs).drop (i + 1)) := by
                rw [List.append_assoc, ← List.drop_eq_getElem_cons hi, List.take_append_drop]
              rw [e2] at nd
              intro hin
              exact (List.nodup_append.mp nd).2.2 _ hin _ List.mem_cons_self rfl
            refine ss_one (s_dput (i := 3) (hu_of hr) (w_bl (nm 6 ⟨_, _, rfl, rfl, ?_, .val (.int (newPs ex goals fs)[i]), ?_⟩)) (hr0 := ⟨_, rfl⟩))
            · unfold kf; rw [List.length_map, List.length_append, List.length_take]; have := v.n24; omega
            · rw [putD_kf hnot, etk, ← List.append_assoc]
              rfl
          · obtain ⟨s6', rfl⟩ := hI
            rw [eln, List.take_length]
            subst hm
            refine ⟨_, ?_, fs ++ newPs ex goals fs, _, _, s6', hmore, fun z => ?_, rfl, rfl⟩
            · rw [List.length_append]
              by_cases h0 : (newPs ex goals fs).length = 0
              · rw [h0, if_neg (by decide)]
                show _ < _ + 1
                omega
              · show _ < _ + 1
                split <;> omega
            · have z := of_decide_eq_false z
              have e0 : newPs ex goals fs = [] := List.length_eq_zero_iff.mp (by omega)
              rw [e0, List.append_nil]
              exact hf.all e0
    · obtain ⟨fs, s4, s5, s6, hf, hall, rfl⟩ := hI
      refine ss_one (s_ret (w_sortedDic (y := "found") (i := 3) (ns := fs) rfl T.sorted rfl ?_ ?_ fun ms pm pw => ?_))
      · unfold kf; rw [List.map_map]; rfl
      · have := hf.len; have := v.n24; omega
      · rw [hf.done hall pm pw]; exact q
end
section
variable {P : Program} {w : World} {K : PySem.W.Frag} {mg : Str → Option Value} {base : Heap} {f C : Addr} {fd : FuncData} {k : Nat}
/-! ### leads_to, is_leading -/
def cTo (C : Addr) : List D → (D → Prop) → Prop := fun ds Z => ∃ e ex t, ds = [netD C e ex, .int t] ∧ Valid e ex ∧ (-e ≤ t ∧ t < ex.length) ∧ Z (.lst (lI (ptsTo ex [t])))
theorem ok_leads_to (Fn : Df P w K mg base k "check_net" ["net"] (spD (cNet C fun _ _ => .non))) (Ft : Df P w K mg base k "is_target" ["net", "value"] (spD (cNet1 C fun d e ex => isTg d e ex.length))) (Fp : Df P w K mg base k "_points_to" ["net", "goals"] (spD (cPts C)))
    (F : Fun K "leads_to" "leads_to" s_leads_to f fd) : FnOk P w K mg base CX0 (k + 1) f fd ["net", "target"] (spD (cTo C)) := by
  refine fnD F c_leads_to (fun ds Z h => ?_) (fun cdv A outer s H E ds Z hr h => ?_)
  · obtain ⟨e, ex, t, rfl, _⟩ := h
    rfl
  · obtain ⟨e, ex, t, rfl, v, ⟨b1, b2⟩, q⟩ := h
    refine ss_cons (s_expr (call Fn hr (a1 (nm 0 ⟨e, ex, rfl, v, ?_⟩))))
    show WSs _ _ _ _
    refine ss_cons (s_if (t_not (t_val (call Ft hr (aG (nm 0 (a1 (nm 1 ⟨e, ex, _, rfl, v, pl_int t, _, rfl, ?_⟩))))))))
    have e1 : isTg (.int t) e ex.length = true := by
      show (decide _ && decide _) = true
      rw [decide_eq_true b1, decide_eq_true b2]; rfl
    show if (!isTg (.int t) e ex.length) = true then WSs _ _ _ _ else WSs _ _ _ _
    rw [e1]
    show WSs _ [] _ _
    refine ss_nil ?_
    show WSs _ _ _ _
    exact ss_one (s_ret (call Fp hr (aG (nm 0 (a1 (w_lst (a1 (nm 1 ⟨(by show 1 ≤ sizeLine; decide), e, ex, [t], rfl, v, q⟩))))))))
def endsL (e : Int) : List Int := (List.range e.toNat).map fun i : Nat => -1 - (i : Int)
def endD : D → D
  | .int i => .int (-1 - i)
  | _ => .non
theorem ok_points_to_ends {j : Nat} (T : Blt mg) (N : NetP P w K mg base C j) (hj : j + 1 ≤ k) (Fp : Df P w K mg base k "_points_to" ["net", "goals"] (spD (cPts C)))
    (F : Fun K "points_to_ends" "points_to_ends" s_points_to_ends f fd) : FnOk P w K mg base CX0 (k + 1) f fd ["net"] (spD (cNet C fun e ex => .lst (lI (ptsTo ex (endsL e))))) := by
  refine fnD F c_points_to_ends (fun ds Z h => ?_) (fun cdv A outer s H E ds Z hr h => ?_)
  · obtain ⟨e, ex, rfl, _⟩ := h
    rfl
  · obtain ⟨e, ex, rfl, v, q⟩ := h
    refine ss_one (s_ret (call Fp hr (aG (nm 0 (a1 (lc1 1 endD c_points_to_ends (wi_rng1 rfl T.range (a1 (w_ends N (hr.mono hj) (nm 0 ⟨e, ex, rfl, v, e, rfl, ?_, ?_, fun d hd _ _ _ _ _ => ?_, ?_⟩))))))))))
    · have := v.e0; have := v.e6; omega
    · rw [rng_len]; have := v.e6; omega
    · obtain ⟨i, _, rfl⟩ := List.mem_map.mp hd
      exact w_binG (w_un (w_int (o_neg (nm 1 (o_sub rfl)))))
    · have e1 : (rng 0 e.toNat).map endD = lI (endsL e) := by
        unfold rng endsL lI
        rw [List.map_map, List.map_map]
        refine List.map_congr_left fun i _ => ?_
        show D.int (-1 - (0 + (i : Int))) = .int (-1 - (i : Int))
        rw [Int.zero_add]
      rw [e1]
      exact ⟨e, ex, endsL e, rfl, v, q⟩
theorem ok_is_leading {j : Nat} (T : Blt mg) (N : NetP P w K mg base C j) (hj : j + 1 ≤ k) (Fn : Df P w K mg base k "check_net" ["net"] (spD (cNet C fun _ _ => .non))) (Fe : Df P w K mg base k "points_to_ends" ["net"] (spD (cNet C fun e ex => .lst (lI (ptsTo ex (endsL e))))))
    (F : Fun K "is_leading" "is_leading" s_is_leading f fd) : FnOk P w K mg base CX0 (k + 1) f fd ["net"] (spD (cNet C fun e ex => .bl (decide ((ptsTo ex (endsL e)).length = ex.length)))) := by
  refine fnD F c_is_leading (fun ds Z h => ?_) (fun cdv A outer s H E ds Z hr h => ?_)
  · obtain ⟨e, ex, rfl, _⟩ := h
    rfl
  · obtain ⟨e, ex, rfl, v, q⟩ := h
    refine ss_cons (s_expr (call Fn hr (a1 (nm 0 ⟨e, ex, rfl, v, ?_⟩))))
    show WSs _ _ _ _
    refine ss_one (s_ret (w_cmpG (w_callB true rfl T.len (by decide +kernel) (a1 (call Fe hr (a1 (nm 0 ⟨e, ex, rfl, v, c_lenL (w_points N (hr.mono hj) (nm 0 ⟨e, ex, rfl, v, o_eq ?_⟩))⟩)))))))
    have e2 : (lI (ptsTo ex (endsL e))).length = (ptsTo ex (endsL e)).length := List.length_map _
    rw [e2, show decide (((ptsTo ex (endsL e)).length : Int) = (ex.length : Int)) = decide ((ptsTo ex (endsL e)).length = ex.length) from decide_eq_decide.mpr (by omega)]
    exact q
theorem rng_nats (n : Nat) : rng 0 n = lI (nats n) := by
  unfold rng nats lI
  rw [List.map_map]
  refine List.map_congr_left fun i _ => ?_
  show D.int (0 + (i : Int)) = .int (i : Int)
  rw [Int.zero_add]
theorem py_lI (l : List Int) : py (.lst (lI l)) = some (.list (l.map PyData.int)) := by
  show (pyA (l.map D.int)).map PyData.list = _
  rw [pyA_ints]; rfl
theorem lI_len (l : List Int) : (lI l).length = l.length := List.length_map _
theorem lI_snoc (l : List Int) (t : Int) : lI l ++ [.int t] = lI (l ++ [t]) := by unfold lI; rw [List.map_append]; rfl
theorem lI_at {l : List Int} {i : Nat} {d : D} (h : (lI l)[i]? = some d) : ∃ t, l[i]? = some t ∧ d = .int t := by
  unfold lI at h
  rw [List.getElem?_map] at h
  cases hl : l[i]? with
  | none => rw [hl] at h; cases h
  | some t => rw [hl] at h; cases h; exact ⟨t, rfl, rfl⟩
theorem rowsL_snoc (ex : List (List Int)) (l : List Int) : rowsL ex ++ [.lst (lI l)] = rowsL (ex ++ [l]) := by unfold rowsL; rw [List.map_append]; rfl
theorem ptsTo_len (ex : List (List Int)) (goals : List Int) : (ptsTo ex goals).length ≤ ex.length := by
  unfold ptsTo
  exact Nat.le_trans (List.length_filter_le _ _) (Nat.le_of_eq (nats_len _))
theorem enum_at {sq : List Int} {j : Nat} {d : D} (h : (((rng 0 (lI sq).length).zip (lI sq)).map fun q => D.tup [q.1, q.2])[j]? = some d) : ∃ o, sq[j]? = some o ∧ d = .tup [.int (j : Int), .int o] := by
  rw [enum_eq, List.getElem?_map] at h
  have hll := lI_len sq
  by_cases hj : j < sq.length
  · rw [List.getElem?_range (by omega)] at h
    refine ⟨sq[j], List.getElem?_eq_getElem hj, ?_⟩
    have e1 : (lI sq).getD j .non = .int sq[j] := by
      unfold lI
      rw [List.getD_eq_getElem?_getD, List.getElem?_map, List.getElem?_eq_getElem hj]; rfl
    rw [← e1]
    exact (Option.some.inj h).symm
  · rw [List.getElem?_eq_none (by simp; omega)] at h
    cases h
theorem enum_len (sq : List Int) : (((rng 0 (lI sq).length).zip (lI sq)).map fun q => D.tup [q.1, q.2]).length = sq.length := by
  rw [List.length_map, List.length_zip, rng_len, lI_len, Nat.min_self]
theorem py_rows (ex : List (List Int)) : py (.lst (rowsL ex)) = some (.list (ex.map fun l => PyData.list (l.map PyData.int))) := by
  show (pyA (rowsL ex)).map PyData.list = _
  rw [show pyA (rowsL ex) = some _ from pyA_lsts ex]; rfl
theorem rows_atI {ex : List (List Int)} {o : Int} (h0 : 0 ≤ o) (h1 : o < ex.length) : atI (rowsL ex) o = some (.lst (lI (rowAt ex o.toNat))) := by
  have hlt : o.toNat < ex.length := by omega
  unfold atI ixN
  rw [if_pos h0, if_pos (by rw [rowsL_len]; omega)]
  have z := rowsL_at ex hlt
  rw [List.getD_eq_getElem?_getD] at z
  show (rowsL ex)[o.toNat]? = _
  rw [List.getElem?_eq_getElem (by rw [rowsL_len]; exact hlt)] at z ⊢
  exact congrArg some z
theorem ints_atI {l : List Int} {i : Int} {t : Int} (h0 : 0 ≤ i) (h : l[i.toNat]? = some t) : atI (lI l) i = some (.int t) := by
  have hl := (List.getElem?_eq_some_iff.mp h).1
  rw [atI_lI]
  unfold atI ixN
  rw [if_pos h0, if_pos (by omega)]
  show Option.map D.int (l[i.toNat]?) = _
  rw [h]; rfl
end
end K12

namespace K12
open PySem PySem.Spec PyProof.Rows L2 DD
section
variable {P : Program} {w : World} {K : PySem.W.Frag} {mg : Str → Option Value} {base : Heap} {f C : Addr} {fd : FuncData} {k : Nat}
/-! ### the law's own defs: the pot, draws -/
structure Blt2 (mg : Str → Option Value) : Prop where
  t : Blt mg
  abs : mg "abs" = none
  max : mg "max" = none
  divmod : mg "divmod" = none
def cPot (K : PySem.W.Frag) : List D → Prop := fun ds => ∃ (ns : List Int), ds = [.scr K ns, .int 0] ∧ ns.length < 1000
theorem ok_pot (T : Blt2 mg) (F : Fun K "_law_pot" "_law_pot" s_Lpot f fd) : FnOk P w K mg base CX0 (k + 1) f fd ["_law_script", "_law_k"] (spF (cPot K)) := by
  refine fnF F c_Lpot (fun ds h => ?_) (fun cdv A outer s H E ds hr h => ?_)
  · obtain ⟨ns, rfl, _⟩ := h
    rfl
  · obtain ⟨ns, rfl, hl⟩ := h
    have rest : ∀ c : Int, 0 ≤ c → WSF (CxD P w K mg base N_Lpot "_law_pot" s_Lpot f cdv A outer s H E) ((defBody s_Lpot).drop 1) [.val (.scr K ns), .val (.int 0), .val (.int c)] := fun c h0 => by
      refine wsf_ret (aG (w_callB (id := "max") true rfl T.max (by decide +kernel) (aG (w_int (a1 (w_binG (nm 2 (w_binG (w_int (w_int (o_pow ⟨by decide, o_sub (c_max2 rfl ?_)⟩)))))))))))
      refine a1 (w_binG (w_binG (w_callTy (T := "int") true rfl T.t.int (by decide +kernel) (a1 (w_binG (w_binG (w_binG (w_binG (w_callTy (T := "int") true rfl T.t.int (by decide +kernel) (a1 (nm 2 (c_int (w_int (o_mod ⟨by decide, w_int (o_mul ⟨.inr (by decide), w_binG (w_int (nm 1 (o_mul ⟨.inl (by decide), o_add (w_int (o_add (c_int (w_int (o_mod ⟨by decide, w_int (o_add ⟨_, _, rfl, ?_, ?_, ?_⟩)⟩)))))⟩)))⟩)⟩))))))))))))))
      · split <;> omega
      · have : (0 : Int) < 2147483579 := by decide
        have := Int.emod_nonneg (c % 2147483477 * 41603 + 7211 * 0 + 859) (show (2147483579 : Int) ≠ 0 by decide)
        omega
      · have := Int.emod_lt_of_pos (c % 2147483477 * 41603 + 7211 * 0 + 859) (show (0 : Int) < 2147483579 by decide)
        omega
    refine wsf_cons (set 2 c_Lpot (w_if (t_cmpG (nm 1 (w_callB (id := "len") true rfl T.t.len (by decide +kernel) (a1 (nm 0 (c_lenScr (o_lt ⟨_, rfl, ?_⟩)))))))))
    by_cases hn : (0 : Int) < (ns.length : Int)
    · rw [if_pos (decide_eq_true hn)]
      have h0 : 0 < ns.length := by omega
      refine w_callB (id := "abs") true rfl T.abs (by decide +kernel) (a1 (w_ix true true (fun _ _ => rfl) (.inr rfl) (nm 0 (nm 1 (x_scr (n := ns[0]) ?_ (c_abs ?_))))))
      · unfold atI ixN
        rw [if_pos (by decide), if_pos (by rw [List.length_map]; omega)]
        show (ns.map V.int)[0]? = _
        rw [List.getElem?_map, List.getElem?_eq_getElem h0]; rfl
      · exact rest _ (by split <;> omega)
    · rw [if_neg (by rw [decide_eq_false hn]; decide)]
      exact w_binG (w_binG (w_int (nm 1 (o_mul ⟨.inl (by decide), w_int (o_add (rest (1117 * 0 + 881) (by decide)))⟩))))
def cDraw : List D → (D → Prop) → Prop := fun ds Z => ∃ n : Int, ds = [.int n] ∧ (0 < n ∧ n < 1000000) ∧ ∀ r, 0 ≤ r → r < n → Z (.int r)
theorem ok_draw (T : Blt2 mg) (F : Fun K "_law_draw" "_law_draw" s_Ldraw f fd) : FnOk P w K mg base CX0 (k + 1) f fd ["_law_pot_here", "_law_size"] (spP cDraw) := by
  refine fnP F c_Ldraw (fun ds Z h => ?_) (fun cdv A outer s H E ds Z hr h => ?_)
  · obtain ⟨n, rfl, _⟩ := h
    rfl
  · obtain ⟨n, rfl, ⟨n0, n1⟩, q⟩ := h
    refine ss_cons (s_if (t_cmpG (w_pot0 0 rfl fun a a0 => w_int (o_gt ⟨_, rfl, ?_⟩))))
    by_cases ha : (0 : Int) < a
    · rw [if_pos (decide_eq_true ha)]
      show WSs _ _ _ _
      refine ss_cons (s_pot0 0 2 c_Ldraw.nd rfl rfl (w_callB (id := "divmod") true rfl T.divmod (by decide +kernel) (aG (w_pot0 0 rfl fun a2 a20 => a1 (nm 1 (c_divmod ⟨⟨n0, by omega⟩, _, _, rfl, Int.ediv_nonneg a20 (by omega), ?_⟩))))))
      show WSs _ _ _ _
      exact ss_one (s_ret (nm 2 (q _ (Int.emod_nonneg _ (by omega)) (Int.emod_lt_of_pos _ n0))))
    · rw [if_neg (by rw [decide_eq_false ha]; decide)]
      show WSs _ _ _ _
      refine ss_nil ?_
      show WSs _ _ _ _
      refine ss_cons (s_pot1 0 rfl (w_binG (w_callTy (T := "int") true rfl T.t.int (by decide +kernel) (a1 (w_binG (w_binG (w_pot1 0 rfl fun b b0 b1 => w_int (o_mul ⟨.inr (by decide), w_int (o_add (c_int (w_int (o_mod ⟨by decide, _, rfl, ⟨?_, ?_⟩, ?_⟩))))⟩))))))))
      · exact Int.emod_nonneg _ (by decide)
      · have := Int.emod_lt_of_pos (b * 40939 + 31393) (show (0 : Int) < 2147483579 by decide)
        omega
      · show WSs _ _ _ _
        refine ss_one (s_ret (w_binG (w_callTy (T := "int") true rfl T.t.int (by decide +kernel) (a1 (w_binG (w_binG (w_callTy (T := "int") true rfl T.t.int (by decide +kernel) (a1 (w_binG (w_pot1 0 rfl fun c c0 c1 => w_pot1 0 rfl fun d d0 d1 => o_mul ⟨.inl ⟨by omega, by omega⟩, c_int (w_int (o_mod ⟨by decide, w_int (o_fdiv ⟨⟨by decide, by decide⟩, c_int (nm 1 (o_mod ⟨n0, q _ ?_ ?_⟩))⟩)⟩))⟩)))))))) ))
        · exact Int.emod_nonneg _ (by omega)
        · exact Int.emod_lt_of_pos _ n0
end
section
variable {P : Program} {w : World} {K : PySem.W.Frag} {mg : Str → Option Value} {base : Heap} {f C : Addr} {fd : FuncData} {k : Nat}
/-! ### drawn exits -/
structure ExOk (e n : Int) (ex : List (List Int)) : Prop where
  r1 : ∀ l ∈ ex, 1 ≤ l.length ∧ l.length ≤ 4
  b : ∀ l ∈ ex, ∀ t ∈ l, -e ≤ t ∧ t < n
theorem sum_le {ex : List (List Int)} : (∀ l ∈ ex, l.length ≤ 4) → ex.flatten.length ≤ 4 * ex.length := by
  induction ex with
  | nil => intro _; exact Nat.le_refl _
  | cons l ls ih =>
    intro h
    rw [List.flatten_cons, List.length_append, List.length_cons]
    have := h l List.mem_cons_self
    have := ih fun x hx => h x (List.mem_cons_of_mem _ hx)
    omega
theorem ExOk.valid {e : Int} {n : Nat} {ex : List (List Int)} (h : ExOk e n ex) (hl : ex.length = n) (e0 : 0 ≤ e) (e6 : e ≤ 6) (n1 : 1 ≤ n) (n6 : n ≤ 15) : Valid e ex := by
  refine ⟨e0, e6, by omega, by omega, fun l hm => (h.r1 l hm).1, fun l hm => by have := (h.r1 l hm).2; omega, fun l hm t ht => (h.b l hm t ht).1, fun l hm t ht => by have := (h.b l hm t ht).2; omega, ?_⟩
  have := sum_le fun l hm => (h.r1 l hm).2
  omega
def cExits : List D → (D → Prop) → Prop := fun ds Z => ∃ (e : Int) (n : Nat) (m : Int), ds = [.int e, .int (n : Int), .int m] ∧ (0 ≤ e ∧ e ≤ 6 ∧ 1 ≤ n ∧ n ≤ 15 ∧ 1 ≤ m ∧ m ≤ 4) ∧ ∀ ex, Valid e ex → ex.length = n → Z (.lst (rowsL ex))
theorem ok_Lexits (T : Blt2 mg) (Fd : Df P w K mg base k "_law_draw" ["_law_pot_here", "_law_size"] (spP cDraw)) (F : Fun K "_law_exits" "_law_exits" s_Lexits f fd) : FnOk P w K mg base CX0 (k + 1) f fd ["_law_pot_here", "_law_ends", "_law_points", "_law_most"] (spP cExits) := by
  refine fnP F c_Lexits (fun ds Z h => ?_) (fun cdv A outer s H E ds Z hr h => ?_)
  · obtain ⟨e, n, mm, rfl, _⟩ := h
    rfl
  · obtain ⟨e, n, mm, rfl, ⟨e0, e6, n1, n6, m1, m4⟩, q⟩ := h
    refine ss_cons (setO 4 c_Lexits (f_nil ?_))
    show WSs _ _ _ _
    refine ss_cut (fun ρ => ∃ ex s5 s6 s7, ExOk e n ex ∧ ex.length = n ∧ ρ = [.own false .pot, .val (.int e), .val (.int (n : Int)), .val (.int mm), .own true (.lst (rowsL ex)), s5, s6, s7])
      (for1 5 c_Lexits (wi_rng1 rfl T.t.range (a1 (nm 2 ⟨(n : Int), rfl, ⟨by omega, by omega⟩, fun j ρ => ∃ ex s5 s6 s7, ExOk e n ex ∧ ex.length = j ∧ ρ = [.own false .pot, .val (.int e), .val (.int (n : Int)), .val (.int mm), .own true (.lst (rowsL ex)), s5, s6, s7],
        ⟨[], .un, .un, .un, ⟨fun l hl => absurd hl (by simp), fun l hl => absurd hl (by simp)⟩, rfl, rfl⟩, fun j d ρi hd hI => ?_, fun ρn hI => ?_⟩)))) (fun ρ' hI => ?_)
    · obtain ⟨ex, s5, s6, s7, hex, hlen, rfl⟩ := hI
      refine ss_cons (setO 6 c_Lexits (f_nil ?_))
      show WSs _ _ _ _
      refine ss_cut (fun ρ => ∃ l s7, (1 ≤ l.length ∧ l.length ≤ 4) ∧ (∀ t ∈ l, -e ≤ t ∧ t < n) ∧ ρ = [.own false .pot, .val (.int e), .val (.int (n : Int)), .val (.int mm), .own true (.lst (rowsL ex)), .val d, .own true (.lst (lI l)), s7])
        (for1 7 c_Lexits (wi_rng1 rfl T.t.range (a1 (w_binG (w_int (callP 0 Fd hr (a1 (nm 3 ⟨rfl, mm, rfl, ⟨by omega, by omega⟩, fun r r0 r1 => o_add ⟨_, rfl, ⟨by omega, by omega⟩, fun i ρ => ∃ l s7, l.length = i ∧ (∀ t ∈ l, -e ≤ t ∧ t < n) ∧ ρ = [.own false .pot, .val (.int e), .val (.int (n : Int)), .val (.int mm), .own true (.lst (rowsL ex)), .val d, .own true (.lst (lI l)), s7],
          ⟨[], s7, rfl, fun t ht => absurd ht (by simp), rfl⟩, fun i d2 ρi hd2 hI => ?_, fun ρn hI => ?_⟩⟩)))))))) (fun ρ' hI => ?_)
      · obtain ⟨l, s7', hl, hb, rfl⟩ := hI
        have hi := (List.getElem?_eq_some_iff.mp hd2).1
        rw [rng_len] at hi
        refine ss_one (app 6 (ds := lI l) rfl (w_binG (callP 0 Fd hr (a1 (w_binG (nm 2 (nm 1 (o_add ⟨rfl, _, rfl, ⟨?_, ?_⟩, fun r r0 r1 => nm 1 (o_sub ⟨lI l, rfl, ?_, l ++ [r - e], .val d2, ?_, ?_, ?_⟩)⟩))))))))
        · omega
        · omega
        · rw [lI_len]; omega
        · rw [List.length_append]; simp [hl]
        · intro t ht
          rcases List.mem_append.mp ht with h | h
          · exact hb t h
          · have : t = r - e := by simpa using h
            omega
        · rw [lI_snoc]; rfl
      · obtain ⟨l, s7', hl, hb, rfl⟩ := hI
        rw [rng_len] at hl
        exact ⟨l, s7', ⟨by omega, by omega⟩, hb, rfl⟩
      · obtain ⟨l, s7', hl, hb, rfl⟩ := hI
        refine ss_one (app 4 (ds := rowsL ex) rfl (nmS 6 ⟨rowsL ex, rfl, ?_, ex ++ [l], .val d, .val (.lst (lI l)), s7', ⟨?_, ?_⟩, ?_, ?_⟩))
        · have : (rowsL ex).length = ex.length := rowsL_len ex
          have := (List.getElem?_eq_some_iff.mp hd).1
          rw [rng_len] at this
          omega
        · intro x hx
          rcases List.mem_append.mp hx with h | h
          · exact hex.r1 x h
          · have : x = l := by simpa using h
            subst this; exact hl
        · intro x hx
          rcases List.mem_append.mp hx with h | h
          · exact hex.b x h
          · have : x = l := by simpa using h
            subst this; exact hb
        · rw [List.length_append, hlen]; rfl
        · rw [rowsL_snoc]; rfl
    · obtain ⟨ex, s5, s6, s7, hex, hlen, rfl⟩ := hI
      rw [rng_len] at hlen
      exact ⟨ex, s5, s6, s7, hex, by omega, rfl⟩
    · obtain ⟨ex, s5, s6, s7, hex, hlen, rfl⟩ := hI
      exact ss_one (s_ret (nmS 4 (q ex (hex.valid hlen e0 e6 n1 n6) hlen)))
/-! ### a drawn setting -/
def cLset : List D → (D → Prop) → Prop := fun ds Z => ∃ e ex, ds = [.lst (rowsL ex)] ∧ Valid e ex ∧ ∀ st, ValidS ex st → Z (.lst (lI st))
theorem ok_Lsetting (T : Blt2 mg) (Fd : Df P w K mg base k "_law_draw" ["_law_pot_here", "_law_size"] (spP cDraw)) (F : Fun K "_law_setting" "_law_setting" s_Lsetting f fd) : FnOk P w K mg base CX0 (k + 1) f fd ["_law_pot_here", "_law_exits_here"] (spP cLset) := by
  refine fnP F c_Lsetting (fun ds Z h => ?_) (fun cdv A outer s H E ds Z hr h => ?_)
  · obtain ⟨e, ex, rfl, _⟩ := h
    rfl
  · obtain ⟨e, ex, rfl, v, q⟩ := h
    refine ss_cons (setO 2 c_Lsetting (f_nil ?_))
    show WSs _ _ _ _
    refine ss_cut (fun ρ => ∃ st s3, ValidS ex st ∧ ρ = [.own false .pot, .val (.lst (rowsL ex)), .own true (.lst (lI st)), s3])
      (for1 3 c_Lsetting (wi_lst (nm 1 ⟨_, rfl, fun j ρ => ∃ st s3, ValidS (ex.take j) st ∧ ρ = [.own false .pot, .val (.lst (rowsL ex)), .own true (.lst (lI st)), s3],
        ⟨[], .un, ⟨rfl, fun i s l h _ => by cases h⟩, rfl⟩, fun j d ρi hd hI => ?_, fun ρn hI => ?_⟩))) (fun ρ' hI => ?_)
    · obtain ⟨st, s3, hst, rfl⟩ := hI
      have hj : j < ex.length := by have := (List.getElem?_eq_some_iff.mp hd).1; rw [rowsL_len] at this; exact this
      have ed : d = .lst (lI (rowAt ex j)) := by
        have z := rowsL_at ex hj
        rw [List.getD_eq_getElem?_getD, hd] at z
        exact z
      subst ed
      have hr1 := v.r1 _ (rowAt_mem hj)
      have hr6 := v.r6 _ (rowAt_mem hj)
      have hlj : (ex.take j).length = j := by rw [List.length_take]; omega
      have hls := hst.1
      have e24 := v.n24
      refine ss_one (app 2 (ds := lI st) rfl (callP 0 Fd hr (a1 (w_callB (id := "len") true rfl T.t.len (by decide +kernel) (a1 (nm 3 (c_lenL ⟨rfl, _, rfl, ⟨?_, ?_⟩, fun r r0 r1 => ⟨lI st, rfl, ?_, st ++ [r], .val (.lst (lI (rowAt ex j))), ⟨?_, ?_⟩, ?_⟩⟩)))))))
      · rw [lI_len]; omega
      · rw [lI_len]; omega
      · rw [lI_len]; omega
      · rw [List.length_append, List.length_take]; simp; omega
      · intro i s l h1 h2
        rw [List.getElem?_take] at h2
        split at h2
        · rename_i hij
          by_cases hi : i < st.length
          · rw [List.getElem?_append_left hi] at h1
            exact hst.2 i s l h1 (by rw [List.getElem?_take, if_pos (by omega)]; exact h2)
          · have hij2 : i = j := by omega
            subst hij2
            rw [List.getElem?_append_right (by omega), show i - st.length = 0 by omega] at h1
            have es : s = r := by simpa using h1.symm
            have el : l = rowAt ex i := by unfold rowAt; rw [List.getD_eq_getElem?_getD, h2]; rfl
            rw [lI_len] at r1
            subst es el
            exact ⟨r0, r1⟩
        · cases h2
      · rw [lI_snoc]; rfl
    · obtain ⟨st, s3, hst, rfl⟩ := hI
      rw [rowsL_len, List.take_length] at hst
      exact ⟨st, s3, hst, rfl⟩
    · obtain ⟨st, s3, hst, rfl⟩ := hI
      exact ss_one (s_ret (nmS 2 (q st hst)))
end
end K12

namespace K12
open PySem PySem.Spec PyProof.Rows L2 DD
/-! ### tracks, counted -/
theorem flat_get {α : Type} : ∀ (L : List (List α)) (p s : Nat) (r : List α) (x : α), L[p]? = some r → r[s]? = some x → L.flatten[(L.take p).flatten.length + s]? = some x
  | [], _, _, _, _, h, _ => by simp at h
  | l :: L, 0, s, r, x, h, h2 => by
    have e : l = r := by simpa using h
    subst e
    have hs := (List.getElem?_eq_some_iff.mp h2).1
    show (l ++ L.flatten)[0 + s]? = some x
    rw [Nat.zero_add, List.getElem?_append_left hs]
    exact h2
  | l :: L, p + 1, s, r, x, h, h2 => by
    have ih := flat_get L p s r x h h2
    show (l ++ L.flatten)[(l ++ (L.take p).flatten).length + s]? = some x
    rw [List.length_append, Nat.add_assoc, List.getElem?_append_right (Nat.le_add_right _ _), Nat.add_sub_cancel_left]
    exact ih
theorem flat_len2 {α β : Type} (L : List (List α)) (M : List (List β)) (h : L.map List.length = M.map List.length) (p : Nat) : (L.take p).flatten.length = (M.take p).flatten.length := by
  rw [List.length_flatten, List.length_flatten, List.map_take, List.map_take, h]
/-- the number of a point's first track -/
def off (ex : List (List Int)) (p : Nat) : Nat := (ex.take p).flatten.length
theorem rowAt_get {ex : List (List Int)} {p : Nat} (h : p < ex.length) : ex[p]? = some (rowAt ex p) := by
  unfold rowAt
  rw [List.getD_eq_getElem?_getD, List.getElem?_eq_getElem h]; rfl
theorem off_succ {ex : List (List Int)} {p : Nat} (h : p < ex.length) : off ex (p + 1) = off ex p + (rowAt ex p).length := by
  unfold off
  rw [List.take_add_one, rowAt_get h]
  show (ex.take p ++ [rowAt ex p]).flatten.length = _
  rw [List.flatten_append, List.length_append]
  simp
theorem off_lt {ex : List (List Int)} {p s : Nat} (h : p < ex.length) (hs : s < (rowAt ex p).length) : off ex p + s < ex.flatten.length := by
  have := flat_get ex p s _ _ (rowAt_get h) (List.getElem?_eq_getElem hs)
  exact (List.getElem?_eq_some_iff.mp this).1
def ownL (ex : List (List Int)) : List (List Int) := (List.range ex.length).map fun i : Nat => (rowAt ex i).map fun _ => (i : Int)
theorem own_get {ex : List (List Int)} {p s : Nat} (h : p < ex.length) (hs : s < (rowAt ex p).length) : (ownL ex).flatten[off ex p + s]? = some (p : Int) := by
  have e : off ex p = ((ownL ex).take p).flatten.length := by
    unfold off
    refine flat_len2 _ _ ?_ p
    unfold ownL
    rw [List.map_map]
    apply List.ext_getElem?
    intro i
    rw [List.getElem?_map, List.getElem?_map]
    by_cases hi : i < ex.length
    · rw [List.getElem?_range hi, rowAt_get hi]
      show some _ = some ((rowAt ex i).map fun _ => (i : Int)).length
      rw [List.length_map]
    · rw [List.getElem?_eq_none (by omega), List.getElem?_eq_none (by simpa using hi)]; rfl
  rw [e]
  refine flat_get (ownL ex) p s ((rowAt ex p).map fun _ => (p : Int)) _ ?_ ?_
  · unfold ownL
    rw [List.getElem?_map, List.getElem?_range h]; rfl
  · rw [List.getElem?_map, List.getElem?_eq_getElem hs]; rfl
def lenD : D → Int
  | .lst xs => (xs.length : Int)
  | _ => 0
theorem sum_lens (ls : List (List Int)) : ((rowsL ls).map lenD).sum = (ls.flatten.length : Int) := by
  induction ls with
  | nil => rfl
  | cons l ls ih =>
    show lenD (.lst (lI l)) + ((rowsL ls).map lenD).sum = _
    rw [ih, List.flatten_cons, List.length_append]
    show ((lI l).length : Int) + _ = _
    rw [lI_len]
    omega
section
variable {P : Program} {w : World} {K : PySem.W.Frag} {mg : Str → Option Value} {base : Heap} {f C : Addr} {fd : FuncData} {k : Nat}
theorem isCB_true {i b : Int} (h0 : 0 ≤ i) (h1 : i < b) : isCB (.int i) b = true := by
  show (decide (0 ≤ i) && decide (i < b)) = true
  rw [decide_eq_true h0, decide_eq_true h1]; rfl
def cPt (C : Addr) (r : Int → List (List Int) → Nat → D) : List D → (D → Prop) → Prop := fun ds Z => ∃ (e : Int) (ex : List (List Int)) (p : Nat), ds = [netD C e ex, .int (p : Int)] ∧ Valid e ex ∧ p < ex.length ∧ Z (r e ex p)
theorem ok_check_point (Fp : Df P w K mg base k "is_point" ["net", "value"] (spD (cNet1 C fun d _ ex => isCB d ex.length))) (F : Fun K "check_point" "check_point" s_check_point f fd) : FnOk P w K mg base CX0 (k + 1) f fd ["net", "point"] (spD (cPt C fun _ _ _ => .non)) := by
  refine fnD F c_check_point (fun ds Z h => ?_) (fun cdv A outer s H E ds Z hr h => ?_)
  · obtain ⟨e, ex, p, rfl, _⟩ := h
    rfl
  · obtain ⟨e, ex, p, rfl, v, hp, q⟩ := h
    refine ss_one (s_if (t_not (t_val (call Fp hr (aG (nm 0 (a1 (nm 1 ⟨e, ex, _, rfl, v, pl_int _, _, rfl, ?_⟩))))))))
    have e1 : isCB (.int (p : Int)) (ex.length : Int) = true := isCB_true (by omega) (by omega)
    show if (!isCB (.int (p : Int)) (ex.length : Int)) = true then WSs _ _ _ _ else WSs _ _ _ _
    rw [e1]
    show WSs _ [] _ _
    exact ss_nil q
/-- a track, by its point and its place -/
def cTr (C : Addr) (r : Int → List (List Int) → Nat → Nat → D) : List D → (D → Prop) → Prop := fun ds Z => ∃ (e : Int) (ex : List (List Int)) (p s : Nat), ds = [netD C e ex, .int ((off ex p + s : Nat) : Int)] ∧ Valid e ex ∧ p < ex.length ∧ s < (rowAt ex p).length ∧ Z (r e ex p s)
theorem ok_check_track {j : Nat} (N : NetP P w K mg base C j) (hj : j ≤ k) (Fc : Df P w K mg base k "is_count_below" ["value", "bound"] (spD (c2 isCB))) (F : Fun K "check_track" "check_track" s_check_track f fd) : FnOk P w K mg base CX0 (k + 2) f fd ["net", "track"] (spD (cTr C fun _ _ _ _ => .non)) := by
  refine fnD F c_check_track (fun ds Z h => ?_) (fun cdv A outer s H E ds Z hr h => ?_)
  · obtain ⟨e, ex, p, s, rfl, _⟩ := h
    rfl
  · obtain ⟨e, ex, p, s, rfl, v, hp, hs, q⟩ := h
    refine ss_one (s_if (t_not (t_val (call Fc (hr.mono (Nat.le_succ _)) (aG (nm 1 (a1 (w_many N (hr.mono (by omega)) (nm 0 ⟨e, ex, rfl, v, _, _, rfl, pl_int _, _, rfl, ?_⟩)))))))))
    have hl := off_lt hp hs
    have e1 : isCB (.int ((off ex p + s : Nat) : Int)) (ex.flatten.length : Int) = true := isCB_true (by omega) (by omega)
    show if (!isCB (.int ((off ex p + s : Nat) : Int)) (ex.flatten.length : Int)) = true then WSs _ _ _ _ else WSs _ _ _ _
    rw [e1]
    show WSs _ [] _ _
    exact ss_nil q
def cAt (C : Addr) : List D → (D → Prop) → Prop := fun ds Z => ∃ (e : Int) (ex : List (List Int)) (p s : Nat), ds = [netD C e ex, .int (p : Int), .int (s : Int)] ∧ Valid e ex ∧ p < ex.length ∧ s < (rowAt ex p).length ∧ Z (.int ((off ex p + s : Nat) : Int))
theorem ok_track_at {j : Nat} (T : Blt mg) (N : NetP P w K mg base C j) (hj : j ≤ k) (Fn : Df P w K mg base k "check_net" ["net"] (spD (cNet C fun _ _ => .non))) (Fp : Df P w K mg base k "check_point" ["net", "point"] (spD (cPt C fun _ _ _ => .non))) (Fc : Df P w K mg base k "is_count_below" ["value", "bound"] (spD (c2 isCB)))
    (F : Fun K "track_at" "track_at" s_track_at f fd) : FnOk P w K mg base CX0 (k + 2) f fd ["net", "point", "spot"] (spD (cAt C)) := by
  refine fnD F c_track_at (fun ds Z h => ?_) (fun cdv A outer s H E ds Z hr h => ?_)
  · obtain ⟨e, ex, p, s, rfl, _⟩ := h
    rfl
  · obtain ⟨e, ex, p, sp, rfl, v, hp, hs, q⟩ := h
    have hrk := hr.mono (Nat.le_succ k)
    refine ss_cons (s_expr (call Fn hrk (a1 (nm 0 ⟨e, ex, rfl, v, ?_⟩))))
    show WSs _ _ _ _
    refine ss_cons (s_expr (call Fp hrk (aG (nm 0 (a1 (nm 1 ⟨e, ex, p, rfl, v, hp, ?_⟩))))))
    show WSs _ _ _ _
    refine ss_cons (set 3 c_track_at (w_exits N (hr.mono (by omega)) (nm 0 ⟨e, ex, rfl, v, ?_⟩)))
    show WSs _ _ _ _
    refine ss_cons (s_if (t_not (t_val (call Fc hrk (aG (nm 2 (a1 (w_callB (id := "len") true rfl T.len (by decide +kernel) (a1 (w_ix true true (fun _ _ => rfl) (.inr rfl) (nm 3 (nm 1 (x_lst (rows_atI (ex := ex) (o := (p : Int)) (by omega) (by omega)) (c_lenL ⟨_, _, rfl, pl_int _, _, rfl, ?_⟩))))))))))))))
    have e1 : isCB (.int (sp : Int)) ((lI (rowAt ex ((p : Int)).toNat)).length : Int) = true := isCB_true (by omega) (by rw [lI_len, Int.toNat_natCast]; omega)
    rw [e1]
    show WSs _ [] _ _
    refine ss_nil ?_
    show WSs _ _ _ _
    refine ss_one (s_ret (w_binG (w_callB (id := "sum") true rfl T.sum (by decide +kernel) (a1 (lc1 4 (fun x => .int (lenD x)) c_track_at (wi_lst (w_slL (nm 3 ⟨_, rfl, ?_⟩))))))))
    show W _ _ _ _ _ _
    refine nm 1 ⟨_, rfl, _, rfl, ?_, fun d hd _ _ _ _ _ => ?_, c_sumD rfl (nm 2 (o_add ?_))⟩
    · rw [cut_to (by rw [rowsL_len]; omega), List.length_take, rowsL_len]; have := v.n24; omega
    · rw [cut_to (by rw [rowsL_len]; omega)] at hd
      have hd2 := List.mem_of_mem_take hd
      obtain ⟨l, hl, rfl⟩ := List.mem_map.mp hd2
      exact w_callB (id := "len") true rfl T.len (by decide +kernel) (a1 (nm 4 (c_lenL rfl)))
    · have e2 : ((cutD (rowsL ex) none (some (p : Int))).map lenD).sum = (off ex p : Int) := by
        rw [cut_to (by rw [rowsL_len]; omega), show (rowsL ex).take p = rowsL (ex.take p) by unfold rowsL; rw [List.map_take], sum_lens]; rfl
      rw [e2, show (off ex p : Int) + (sp : Int) = ((off ex p + sp : Nat) : Int) by omega]
      exact q
def ownInner : D → List D
  | .tup [_, .lst l] => l
  | _ => []
theorem ok_point_of {j : Nat} (T : Blt mg) (N : NetP P w K mg base C j) (hj : j ≤ k) (Fn : Df P w K mg base k "check_net" ["net"] (spD (cNet C fun _ _ => .non))) (Ft : Df P w K mg base k "check_track" ["net", "track"] (spD (cTr C fun _ _ _ _ => .non)))
    (F : Fun K "point_of" "point_of" s_point_of f fd) : FnOk P w K mg base CX0 (k + 2) f fd ["net", "track"] (spD (cTr C fun _ _ p _ => .int (p : Int))) := by
  refine fnD F c_point_of (fun ds Z h => ?_) (fun cdv A outer s H E ds Z hr h => ?_)
  · obtain ⟨e, ex, p, s, rfl, _⟩ := h
    rfl
  · obtain ⟨e, ex, p, sp, rfl, v, hp, hs, q⟩ := h
    have hrk := hr.mono (Nat.le_succ k)
    refine ss_cons (s_expr (call Fn hrk (a1 (nm 0 ⟨e, ex, rfl, v, ?_⟩))))
    show WSs _ _ _ _
    refine ss_cons (s_expr (call Ft hrk (aG (nm 0 (a1 (nm 1 ⟨e, ex, p, sp, rfl, v, hp, hs, ?_⟩))))))
    show WSs _ _ _ _
    refine ss_cons (s_lc21 2 3 4 5 ownInner (fun d _ => fstD d) c_point_of (wi_enum rfl T.enum (a1 (w_exits N (hr.mono (by omega)) (nm 0 ⟨e, ex, rfl, v, _, rfl, ?_⟩)))))
    rw [enum_rows]
    have ef : ((List.range ex.length).map fun i : Nat => D.tup [.int (i : Int), .lst (lI (rowAt ex i))]).flatMap (fun d => (ownInner d).map fun _ => fstD d) = lI (ownL ex).flatten := by
      unfold ownL lI
      rw [List.map_flatten, List.map_map, List.flatMap_map, List.flatMap_def]
      congr 1
      refine List.map_congr_left fun i _ => ?_
      show ((rowAt ex i).map D.int).map (fun _ => D.int (i : Int)) = ((rowAt ex i).map fun _ => (i : Int)).map D.int
      rw [List.map_map, List.map_map]; rfl
    have hlen : (ownL ex).flatten.length = ex.flatten.length := by
      rw [List.length_flatten, List.length_flatten]
      congr 1
      unfold ownL
      rw [List.map_map]
      apply List.ext_getElem?
      intro i
      rw [List.getElem?_map, List.getElem?_map]
      by_cases hi : i < ex.length
      · rw [List.getElem?_range hi, rowAt_get hi]
        show some ((rowAt ex i).map fun _ => (i : Int)).length = some _
        rw [List.length_map]
      · rw [List.getElem?_eq_none (l := List.range ex.length) (by simpa using hi), List.getElem?_eq_none (l := ex) (by omega)]; rfl
    rw [ef]
    refine ⟨by rw [lI_len, hlen]; have := v.m60; omega, fun d hd => ?_, ?_⟩
    · obtain ⟨i, hi, rfl⟩ := List.mem_map.mp hd
      exact ⟨_, _, rfl, fun _ _ _ _ _ => wi_lst (nm 4 ⟨_, rfl, rfl⟩), fun e he _ _ _ _ _ => nm 3 rfl⟩
    · show WSs _ _ _ _
      refine ss_one (s_ret (w_ix true true (fun _ _ => rfl) (.inr rfl) (nm 2 (nm 1 (x_lst (ints_atI (i := ((off ex p + sp : Nat) : Int)) (t := (p : Int)) (by omega) ?_) q)))))
      rw [Int.toNat_natCast]
      exact own_get hp hs
theorem ok_target_of {j : Nat} (T : Blt mg) (N : NetP P w K mg base C j) (hj : j ≤ k) (Fn : Df P w K mg base k "check_net" ["net"] (spD (cNet C fun _ _ => .non))) (Ft : Df P w K mg base k "check_track" ["net", "track"] (spD (cTr C fun _ _ _ _ => .non)))
    (F : Fun K "target_of" "target_of" s_target_of f fd) : FnOk P w K mg base CX0 (k + 2) f fd ["net", "track"] (spD (cTr C fun _ ex p s => .int ((rowAt ex p).getD s 0))) := by
  refine fnD F c_target_of (fun ds Z h => ?_) (fun cdv A outer s H E ds Z hr h => ?_)
  · obtain ⟨e, ex, p, s, rfl, _⟩ := h
    rfl
  · obtain ⟨e, ex, p, sp, rfl, v, hp, hs, q⟩ := h
    have hrk := hr.mono (Nat.le_succ k)
    refine ss_cons (s_expr (call Fn hrk (a1 (nm 0 ⟨e, ex, rfl, v, ?_⟩))))
    show WSs _ _ _ _
    refine ss_cons (s_expr (call Ft hrk (aG (nm 0 (a1 (nm 1 ⟨e, ex, p, sp, rfl, v, hp, hs, ?_⟩))))))
    show WSs _ _ _ _
    refine ss_one (s_ret (w_ix true true (fun _ _ => rfl) (.inr rfl) (w_targets N (hr.mono (by omega)) (nm 0 ⟨e, ex, rfl, v, nm 1 (x_lst (ints_atI (i := ((off ex p + sp : Nat) : Int)) (t := (rowAt ex p).getD sp 0) (by omega) ?_) q)⟩))))
    rw [Int.toNat_natCast]
    refine flat_get ex p sp _ _ (rowAt_get hp) ?_
    rw [List.getD_eq_getElem?_getD, List.getElem?_eq_getElem hs]; rfl
theorem ok_first_setting {j : Nat} (T : Blt mg) (N : NetP P w K mg base C j) (hj : j ≤ k) (Fn : Df P w K mg base k "check_net" ["net"] (spD (cNet C fun _ _ => .non))) (F : Fun K "first_setting" "first_setting" s_first_setting f fd) : FnOk P w K mg base CX0 (k + 2) f fd ["net"] (spD (cNet C fun _ ex => .lst (lI (List.replicate ex.length 0)))) := by
  refine fnD F c_first_setting (fun ds Z h => ?_) (fun cdv A outer s H E ds Z hr h => ?_)
  · obtain ⟨e, ex, rfl, _⟩ := h
    rfl
  · obtain ⟨e, ex, rfl, v, q⟩ := h
    have hrk := hr.mono (Nat.le_succ k)
    have := v.n24
    refine ss_cons (s_expr (call Fn hrk (a1 (nm 0 ⟨e, ex, rfl, v, ?_⟩))))
    show WSs _ _ _ _
    refine ss_one (s_ret (w_binG (w_lst (a1 (w_int ⟨by show 1 ≤ sizeLine; decide, w_points N (hr.mono (by omega)) (nm 0 ⟨e, ex, rfl, v, o_rep ⟨⟨by omega, by omega, ?_⟩, ?_⟩⟩)⟩)))))
    · rw [sizeLine_eq]; simp; omega
    · have esp : (List.replicate ((ex.length : Int)).toNat [D.int 0]).flatten = lI (List.replicate ex.length 0) := by
        rw [Int.toNat_natCast]
        unfold lI
        rw [List.map_replicate]
        induction ex.length with
        | zero => rfl
        | succ n ih => rw [List.replicate_succ, List.replicate_succ, List.flatten_cons, ih]; rfl
      rw [esp]; exact q
end
end K12

namespace K12
open PySem PySem.Spec PyProof.Rows L2 DD
/-! ### who leads where, pass by pass -/
theorem enumR_at {ex : List (List Int)} {j : Nat} {d : D} (h : (((rng 0 (rowsL ex).length).zip (rowsL ex)).map fun q => D.tup [q.1, q.2])[j]? = some d) : j < ex.length ∧ d = .tup [.int (j : Int), .lst (lI (rowAt ex j))] := by
  rw [enum_rows, List.getElem?_map] at h
  cases hr : (List.range ex.length)[j]? with
  | none => rw [hr] at h; cases h
  | some i =>
    rw [hr] at h
    obtain ⟨hl, e⟩ := List.getElem?_eq_some_iff.mp hr
    rw [List.getElem_range] at e
    subst e
    cases h
    exact ⟨by simpa using hl, rfl⟩
theorem enumR_len (ex : List (List Int)) : (((rng 0 (rowsL ex).length).zip (rowsL ex)).map fun q => D.tup [q.1, q.2]).length = ex.length := by
  rw [enum_rows, List.length_map, List.length_range]
theorem newP_lead {ex : List (List Int)} {goals fs : List Int} {p : Nat} (f : Fnd ex goals fs) (hp : p < ex.length) (h : newP ex goals fs p = true) : (p : Int) ∉ fs ∧ Lead ex goals (p : Int) := by
  unfold newP at h
  obtain ⟨h1, h2⟩ := Bool.and_eq_true_iff.mp h
  refine ⟨fun q => ?_, ?_⟩
  · rw [decide_eq_true q] at h1; cases h1
  · obtain ⟨t, ht, h3⟩ := List.any_eq_true.mp h2
    rcases Bool.or_eq_true_iff.mp h3 with h4 | h4
    · exact .goal hp ht (of_decide_eq_true h4)
    · exact .via hp ht (f.ld t (of_decide_eq_true h4))
theorem Fnd.snoc {ex : List (List Int)} {goals fs : List Int} {p : Nat} (f : Fnd ex goals fs) (hp : p < ex.length) (h : newP ex goals fs p = true) : Fnd ex goals (fs ++ [(p : Int)]) := by
  obtain ⟨h1, h2⟩ := newP_lead f hp h
  refine ⟨List.nodup_append.mpr ⟨f.nd, by simp, fun a ha b hb e => ?_⟩, fun i hi => ?_⟩
  · have : b = (p : Int) := by simpa using hb
    subst this
    subst e
    exact h1 ha
  · rcases List.mem_append.mp hi with q | q
    · exact f.ld i q
    · have : i = (p : Int) := by simpa using q
      subst this
      exact h2
theorem newPs_nil {ex : List (List Int)} {goals fs : List Int} (h : ∀ p, p < ex.length → newP ex goals fs p = false) : newPs ex goals fs = [] := by
  unfold newPs
  rw [List.filter_eq_nil_iff.mpr fun p hp => by rw [h p (List.mem_range.mp hp)]; decide]
  rfl
theorem Fnd.full {ex : List (List Int)} {goals fs : List Int} (f : Fnd ex goals fs) (h : ex.length ≤ fs.length) : ∀ i, i ∈ fs ↔ Lead ex goals i := by
  refine fun i => ⟨f.ld i, fun hl => ?_⟩
  obtain ⟨p, hp, rfl⟩ := hl.pt
  have pm : fs.Perm ((nats ex.length).filter fun i => decide (i ∈ fs)) := perm_of_mem f.nd (nodup_of_lt ((nats_pw _).filter _)) fun i => by
    rw [List.mem_filter, decide_eq_true_iff]
    refine ⟨fun h => ⟨?_, h⟩, fun h => h.2⟩
    obtain ⟨p, hp, rfl⟩ := (f.ld i h).pt
    exact mem_nats.mpr ⟨by omega, by omega⟩
  have hl2 : ((nats ex.length).filter fun i => decide (i ∈ fs)).length = (nats ex.length).length := by
    have a := List.length_filter_le (fun i => decide (i ∈ fs)) (nats ex.length)
    have b := pm.length_eq
    rw [nats_len] at a ⊢
    omega
  have := List.length_filter_eq_length_iff.mp hl2 (p : Int) (mem_nats.mpr ⟨by omega, by omega⟩)
  exact of_decide_eq_true this
/-- behind some points of a pass from fs0 -/
def Pass (ex : List (List Int)) (goals fs0 fs : List Int) (j : Nat) : Prop := Fnd ex goals fs ∧ ((fs = fs0 ∧ ∀ p, p < j → newP ex goals fs0 p = false) ∨ (fs0.length < fs.length ∧ ∃ p, p < ex.length ∧ newP ex goals fs0 p = true))
theorem Pass.no {ex : List (List Int)} {goals fs0 fs : List Int} {j : Nat} (h : Pass ex goals fs0 fs j) (hn : newP ex goals fs j = false) : Pass ex goals fs0 fs (j + 1) := by
  obtain ⟨f, h⟩ := h
  refine ⟨f, ?_⟩
  rcases h with ⟨rfl, h⟩ | h
  · refine .inl ⟨rfl, fun p hp => ?_⟩
    by_cases e : p = j
    · subst e; exact hn
    · exact h p (by omega)
  · exact .inr h
theorem Pass.yes {ex : List (List Int)} {goals fs0 fs : List Int} {j : Nat} (h : Pass ex goals fs0 fs j) (hj : j < ex.length) (hn : newP ex goals fs j = true) : Pass ex goals fs0 (fs ++ [(j : Int)]) (j + 1) := by
  obtain ⟨f, h⟩ := h
  refine ⟨f.snoc hj hn, .inr ?_⟩
  rw [List.length_append]
  show _ < fs.length + 1 ∧ _
  rcases h with ⟨rfl, h⟩ | ⟨h, z⟩
  · exact ⟨by omega, j, hj, hn⟩
  · exact ⟨by omega, z⟩
def All (ex : List (List Int)) (goals fs : List Int) (t : Nat) : Prop := Fnd ex goals fs ∧ ((∀ i, i ∈ fs ↔ Lead ex goals i) ∨ t ≤ fs.length)
theorem All.pass {ex : List (List Int)} {goals fs0 fs : List Int} {t : Nat} (h0 : All ex goals fs0 t) (h : Pass ex goals fs0 fs ex.length) : All ex goals fs (t + 1) := by
  obtain ⟨f0, h0⟩ := h0
  obtain ⟨f, h⟩ := h
  refine ⟨f, ?_⟩
  rcases h with ⟨rfl, h⟩ | ⟨h, p, hp, hn⟩
  · exact .inl (f.all (newPs_nil h))
  · rcases h0 with h0 | h0
    · obtain ⟨a, b⟩ := newP_lead f0 hp hn
      exact absurd ((h0 _).mpr b) a
    · exact .inr (by omega)
theorem filt_lI (goals fs l : List Int) : ((lI l).filter (inD goals fs)).map (fun d => d) = lI (l.filter fun t => decide (t ∈ goals) || decide (t ∈ fs)) := by
  rw [List.map_id']
  unfold lI
  rw [List.filter_map]
  rfl
theorem filt_any (b : Int → Bool) (l : List Int) : (!decide (l.filter b = [])) = l.any b := by
  induction l with
  | nil => rfl
  | cons a l ih =>
    rw [List.filter_cons, List.any_cons]
    cases h : b a with
    | true => simp
    | false => simpa [h] using ih
section
variable {P : Program} {w : World} {K : PySem.W.Frag} {mg : Str → Option Value} {base : Heap} {f C : Addr} {fd : FuncData} {k : Nat}
def cLead : List D → (D → Prop) → Prop := fun ds Z => ∃ e ex goals, ds = [.lst (rowsL ex), .lst (lI goals)] ∧ Valid e ex ∧ Z (.lst (lI (ptsTo ex goals)))
theorem ok_Lleading (T : Blt mg) (F : Fun K "_law_leading" "_law_leading" s_Lleading f fd) : FnOk P w K mg base CX0 (k + 1) f fd ["_law_exits_here", "_law_targets"] (spD cLead) := by
  refine fnD F c_Lleading (fun ds Z h => ?_) (fun cdv A outer s H E ds Z hr h => ?_)
  · obtain ⟨e, ex, goals, rfl, _⟩ := h
    rfl
  · obtain ⟨e, ex, goals, rfl, v, q⟩ := h
    have n24 := v.n24
    have hsz : ∀ fs, Fnd ex goals fs → fs.length ≤ 24 := fun fs hf => Nat.le_trans hf.len n24
    refine ss_cons (setO 2 c_Lleading (f_nil ?_))
    show WSs _ _ _ _
    refine ss_cut (fun ρ => ∃ fs s3 s4 s5, All ex goals fs ex.length ∧ ρ = [.val (.lst (rowsL ex)), .val (.lst (lI goals)), .own true (.lst (lI fs)), s3, s4, s5, .un])
      (for1 3 c_Lleading (wi_rng1 rfl T.range (a1 (w_callB (id := "len") true rfl T.len (by decide +kernel) (a1 (nm 0 (c_lenL ⟨_, rfl, ⟨?_, ?_⟩, fun t ρ => ∃ fs s3 s4 s5, All ex goals fs t ∧ ρ = [.val (.lst (rowsL ex)), .val (.lst (lI goals)), .own true (.lst (lI fs)), s3, s4, s5, .un],
        ⟨[], .un, .un, .un, ⟨⟨List.nodup_nil, fun i hi => absurd hi (by simp)⟩, .inr (Nat.zero_le _)⟩, rfl⟩, fun t d ρi hd hI => ?_, fun ρn hI => ?_⟩))))))) (fun ρ' hI => ?_)
    · omega
    · rw [rowsL_len]; omega
    · obtain ⟨fs0, s3, s4, s5, hA, rfl⟩ := hI
      refine ss_one (for2 4 5 c_Lleading (wi_enum rfl T.enum (a1 (nm 0 ⟨_, rfl, fun j ρ => ∃ fs s4 s5, Pass ex goals fs0 fs j ∧ ρ = [.val (.lst (rowsL ex)), .val (.lst (lI goals)), .own true (.lst (lI fs)), .val d, s4, s5, .un],
        ⟨fs0, s4, s5, ⟨hA.1, .inl ⟨rfl, fun p hp => absurd hp (by omega)⟩⟩, rfl⟩, fun j d2 ρj hd2 hJ => ?_, fun ρn hJ => ?_⟩))))
      · obtain ⟨fs, s4', s5', hP, rfl⟩ := hJ
        obtain ⟨hj, rfl⟩ := enumR_at hd2
        have hr6 := v.r6 _ (rowAt_mem hj)
        have hfl := hsz fs hP.1
        refine ⟨_, _, rfl, ?_⟩
        have stay : newP ex goals fs j = false → ∃ gs t4 t5, Pass ex goals fs0 gs (j + 1) ∧ [Slot.val (.lst (rowsL ex)), .val (.lst (lI goals)), .own true (.lst (lI fs)), .val d, .val (.int (j : Int)), .val (.lst (lI (rowAt ex j))), .un] = [Slot.val (.lst (rowsL ex)), .val (.lst (lI goals)), .own true (.lst (lI gs)), .val d, t4, t5, .un] := fun hn => ⟨fs, _, _, hP.no hn, rfl⟩
        refine ss_one (s_if (t_bool (tb_and (t_cmpR (nm 4 (nmO 2 (o_nin (ns := fs) ⟨_, rfl, ?_⟩)))))))
        by_cases hin : (j : Int) ∈ fs
        · rw [if_neg (by rw [decide_eq_true hin]; decide)]
          show WSs _ [] _ _
          refine ss_nil (stay ?_)
          unfold newP
          rw [decide_eq_true hin]; rfl
        · rw [if_pos (by rw [decide_eq_false hin]; rfl)]
          show WTB _ _ _ _ _ _ _
          refine tb_and1 (t_cmpG (lc1If 6 (inD goals fs) (fun d => d) c_Lleading (wi_lst (nm 5 ⟨_, rfl, ?_, fun d3 hd3 _ _ _ _ _ => ⟨?_, fun _ => nm 6 rfl⟩, ?_⟩))))
          · rw [lI_len]; omega
          · obtain ⟨t3, _, rfl⟩ := List.mem_map.mp hd3
            refine t_bool (tb_or (t_cmpG (nm 6 (nm 1 (o_in (ns := goals) ⟨_, rfl, ?_⟩)))))
            by_cases hg : t3 ∈ goals
            · rw [if_pos (decide_eq_true hg)]
              show true = (decide (t3 ∈ goals) || decide (t3 ∈ fs))
              rw [decide_eq_true hg]; rfl
            · rw [if_neg (by rw [decide_eq_false hg]; decide)]
              show WTB _ _ _ _ _ _ _
              refine tb_or1 (t_cmpR (nm 6 (nmO 2 (o_in (ns := fs) ⟨_, rfl, ?_⟩))))
              show decide (t3 ∈ fs) = (decide (t3 ∈ goals) || decide (t3 ∈ fs))
              rw [decide_eq_false hg]; rfl
          · rw [filt_lI]
            refine w_lst (a_nil ⟨Nat.zero_le _, o_neD hr.units (py_lI _) (py_lI []) (shaped_ints _) (shaped_ints []) ⟨_, rfl, ?_⟩⟩)
            have e1 : (!PyData.eqv (.list (((rowAt ex j).filter fun t => decide (t ∈ goals) || decide (t ∈ fs)).map PyData.int)) (.list (([] : List Int).map PyData.int))) = newP ex goals fs j := by
              show (!PyData.eqvAll _ _) = _
              rw [eqv_ints, filt_any]
              unfold newP
              rw [decide_eq_false hin]; rfl
            rw [e1]
            cases hn : newP ex goals fs j with
            | false =>
              show WSs _ [] _ _
              exact ss_nil (stay hn)
            | true =>
              show WSs _ _ _ _
              refine ss_one (app 2 (ds := lI fs) rfl (nm 4 ⟨lI fs, rfl, by rw [lI_len]; omega, fs ++ [(j : Int)], .val (.int (j : Int)), .val (.lst (lI (rowAt ex j))), hP.yes hj hn, ?_⟩))
              rw [lI_snoc]; rfl
      · obtain ⟨fs, s4', s5', hP, rfl⟩ := hJ
        rw [enumR_len] at hP
        exact ⟨fs, _, _, _, hA.pass hP, rfl⟩
    · obtain ⟨fs, s3, s4, s5, hA, rfl⟩ := hI
      rw [rng_len, rowsL_len, Int.toNat_natCast] at hA
      exact ⟨fs, _, _, _, hA, rfl⟩
    · obtain ⟨fs, s3, s4, s5, ⟨hf, hA⟩, rfl⟩ := hI
      have hall : ∀ i, i ∈ fs ↔ Lead ex goals i := by
        rcases hA with h | h
        · exact h
        · exact hf.full h
      refine ss_one (s_ret (w_callB (id := "sorted") false rfl T.sorted (by decide +kernel) (a1 (nmO 2 (c_sorted (ns := fs) fun ms pm pw => ?_)))))
      rw [hf.done hall pm pw]
      exact q
def cIsLead : List D → (D → Prop) → Prop := fun ds Z => ∃ e ex, ds = [.lst (rowsL ex), .int e] ∧ Valid e ex ∧ Z (.bl (decide ((ptsTo ex (endsL e)).length = ex.length)))
theorem ok_Lis_leading (T : Blt mg) (Fl : Df P w K mg base k "_law_leading" ["_law_exits_here", "_law_targets"] (spD cLead)) (F : Fun K "_law_is_leading" "_law_is_leading" s_Lis_leading f fd) : FnOk P w K mg base CX0 (k + 1) f fd ["_law_exits_here", "_law_ends"] (spD cIsLead) := by
  refine fnD F c_Lis_leading (fun ds Z h => ?_) (fun cdv A outer s H E ds Z hr h => ?_)
  · obtain ⟨e, ex, rfl, _⟩ := h
    rfl
  · obtain ⟨e, ex, rfl, v, q⟩ := h
    refine ss_one (s_ret (w_cmpG (w_callB (id := "len") true rfl T.len (by decide +kernel) (a1 (call Fl hr (aG (nm 0 (a1 (lc1 2 endD c_Lis_leading (wi_rng1 rfl T.range (a1 (nm 1 ⟨e, rfl, ?_, ?_, fun d hd _ _ _ _ _ => ?_, ?_⟩))))))))))))
    · have := v.e0; have := v.e6; omega
    · rw [rng_len]; have := v.e6; omega
    · obtain ⟨i, _, rfl⟩ := List.mem_map.mp hd
      exact w_binG (w_un (w_int (o_neg (nm 2 (o_sub rfl)))))
    · have e1 : (rng 0 e.toNat).map endD = lI (endsL e) := by
        unfold rng endsL lI
        rw [List.map_map, List.map_map]
        refine List.map_congr_left fun i _ => ?_
        show D.int (-1 - (0 + (i : Int))) = .int (-1 - (i : Int))
        rw [Int.zero_add]
      rw [e1]
      refine ⟨e, ex, endsL e, rfl, v, c_lenL (w_callB (id := "len") true rfl T.len (by decide +kernel) (a1 (nm 0 (c_lenL (o_eq ?_)))))⟩
      rw [lI_len, rowsL_len, show decide (((ptsTo ex (endsL e)).length : Int) = (ex.length : Int)) = decide ((ptsTo ex (endsL e)).length = ex.length) from decide_eq_decide.mpr (by omega)]
      exact q
end
end K12

namespace K12
open PySem PySem.Spec PyProof.Rows L2 DD
theorem lasts_get {ex : List (List Int)} {st : List Int} (hl : st.length = ex.length) {i : Nat} (h : i < ex.length) : (lasts ex st)[i]? = some ((atI (rowAt ex i) (st.getD i 0 - 1)).getD 0) := by
  unfold lasts
  have e1 : st[i]? = some (st.getD i 0) := by rw [List.getD_eq_getElem?_getD, List.getElem?_eq_getElem (by omega)]; rfl
  have e2 : ex[i]? = some (rowAt ex i) := by unfold rowAt; rw [List.getD_eq_getElem?_getD, List.getElem?_eq_getElem h]; rfl
  have e3 : (st.zip ex)[i]? = some (st.getD i 0, rowAt ex i) := List.getElem?_zip_eq_some.mpr ⟨e1, e2⟩
  rw [List.getElem?_map, e3]
  rfl
theorem lasts_len {ex : List (List Int)} {st : List Int} (hl : st.length = ex.length) : (lasts ex st).length = ex.length := by unfold lasts; rw [List.length_map, List.length_zip]; omega
theorem turn_at {l : List Int} {s : Int} (h0 : 0 ≤ s) (h1 : s < l.length) : atI l ((s + l.length - 1) % l.length) = atI l (s - 1) := by
  by_cases hs : s = 0
  · subst hs
    rw [show ((0 : Int) + l.length - 1) % l.length = (l.length : Int) - 1 from by rw [Int.zero_add]; exact Int.emod_eq_of_lt (by omega) (by omega)]
    unfold atI ixN
    rw [if_pos (by omega), if_pos (by omega), if_neg (by omega), if_pos (by omega)]
    show l[((l.length : Int) - 1).toNat]? = l[((0 : Int) - 1 + l.length).toNat]?
    rw [show ((l.length : Int) - 1).toNat = ((0 : Int) - 1 + l.length).toNat by omega]
  · rw [show (s + l.length - 1) % l.length = s - 1 from by
      rw [show s + (l.length : Int) - 1 = (s - 1) + l.length by omega, Int.add_emod_right]
      exact Int.emod_eq_of_lt (by omega) (by omega)]
def dueD (ex : List (List Int)) (st : List Int) : D → D
  | .tup [.int p, _] => .int ((atI (rowAt ex p.toNat) (st.getD p.toNat 0 - 1)).getD 0)
  | _ => .non
theorem due_all {ex : List (List Int)} {st : List Int} (hl : st.length = ex.length) : (((rng 0 (rowsL ex).length).zip (rowsL ex)).map fun q => D.tup [q.1, q.2]).map (dueD ex st) = lI (lasts ex st) := by
  rw [enum_rows]
  apply List.ext_getElem?
  intro i
  unfold lI
  rw [List.getElem?_map, List.getElem?_map, List.getElem?_map]
  by_cases h : i < ex.length
  · rw [List.getElem?_range h, lasts_get hl h]; rfl
  · rw [List.getElem?_eq_none (l := List.range ex.length) (by simpa using h), List.getElem?_eq_none (l := lasts ex st) (by rw [lasts_len hl]; omega)]; rfl
theorem rep0 (n : Nat) : (List.replicate ((n : Int)).toNat [D.int 0]).flatten = lI (List.replicate n 0) := by
  rw [Int.toNat_natCast]
  unfold lI
  rw [List.map_replicate]
  induction n with
  | zero => rfl
  | succ n ih => rw [List.replicate_succ, List.replicate_succ, List.flatten_cons, ih]; rfl
theorem ne_self_i (l : List Int) : (!PyData.eqv (.list (l.map PyData.int)) (.list (l.map PyData.int))) = false := by
  show (!PyData.eqvAll _ _) = false
  rw [eqv_ints, decide_eq_true rfl]; rfl
theorem eq_self_i (l : List Int) : PyData.eqv (.list (l.map PyData.int)) (.list (l.map PyData.int)) = true := by
  show PyData.eqvAll _ _ = true
  rw [eqv_ints, decide_eq_true rfl]
theorem ne_self_r (z : List (List Int)) : (!PyData.eqv (.list (z.map fun l => PyData.list (l.map PyData.int))) (.list (z.map fun l => PyData.list (l.map PyData.int)))) = false := by
  show (!PyData.eqvAll _ _) = false
  rw [eqv_lsts, decide_eq_true rfl]; rfl
theorem eq_self_r (z : List (List Int)) : PyData.eqv (.list (z.map fun l => PyData.list (l.map PyData.int))) (.list (z.map fun l => PyData.list (l.map PyData.int))) = true := by
  show PyData.eqvAll _ _ = true
  rw [eqv_lsts, decide_eq_true rfl]
theorem rowsL_map (ex : List (List Int)) : rowsL ex = (ex.map lI).map D.lst := by unfold rowsL; rw [List.map_map]; rfl
theorem flat_take {ex : List (List Int)} {j : Nat} (h : j < ex.length) : (ex.take (j + 1)).flatten = (ex.take j).flatten ++ rowAt ex j := by
  rw [List.take_add_one, rowAt_get h]
  show (ex.take j ++ [rowAt ex j]).flatten = _
  rw [List.flatten_append]
  simp
section
variable {P : Program} {w : World} {K : PySem.W.Frag} {mg : Str → Option Value} {base : Heap} {f C : Addr} {fd : FuncData} {k : Nat}
abbrev stT (C : Addr) (e : Int) (ex : List (List Int)) (n : Nat) (ts : List Int) (s4 s5 s6 s7 : Slot) : Rho := [.val (netD C e ex), .val (.lst (rowsL ex)), .val (.int (n : Int)), .own true (.lst (lI ts)), s4, s5, s6, s7]
def cTracks (C : Addr) : List D → (D → Prop) → Prop := fun ds Z => ∃ e ex, ds = [netD C e ex, .lst (rowsL ex)] ∧ Valid e ex ∧ Z (.bl true)
theorem ok_Ltracks {j0 : Nat} (T : Blt mg) (N : NetP P w K mg base C j0) (hj0 : j0 < k) (Fa : Df P w K mg base k "track_at" ["net", "point", "spot"] (spD (cAt C))) (Fo : DfI P w K mg base k "point_of" ["net", "track"] (spD (cTr C fun _ _ p _ => .int (p : Int)))) (Ft : Df P w K mg base k "target_of" ["net", "track"] (spD (cTr C fun _ ex p s => .int ((rowAt ex p).getD s 0))))
    (F : Fun K "_law_tracks_right" "_law_tracks_right" s_Ltracks_right f fd) : FnOk P w K mg base CX0 (k + 1) f fd ["_law_net", "_law_exits_here"] (spD (cTracks C)) := by
  refine fnD F c_Ltracks_right (fun ds Z h => ?_) (fun cdv A outer s H E ds Z hr h => ?_)
  · obtain ⟨e, ex, rfl, _⟩ := h
    rfl
  · obtain ⟨e, ex, rfl, v, q⟩ := h
    have hrj := hr.mono (show j0 + 1 ≤ k by omega)
    have hrj0 := hr.mono (show j0 ≤ k by omega)
    have n24 := v.n24
    have m60 := v.m60
    refine ss_cons (s_parN 2 3 c_Ltracks_right (by decide) (w_int ?_))
    show WSs _ _ (stT C e ex 0 [] .un .un .un .un) _
    refine ss_cut (fun ρ => ∃ s4 s5 s6 s7, ρ = stT C e ex (off ex ex.length) (ex.take ex.length).flatten s4 s5 s6 s7)
      (for2 4 5 c_Ltracks_right (wi_enum rfl T.enum (a1 (nm 1 ⟨_, rfl, fun j ρ => ∃ s4 s5 s6 s7, ρ = stT C e ex (off ex j) (ex.take j).flatten s4 s5 s6 s7, ⟨.un, .un, .un, .un, rfl⟩, fun j d ρi hd hI => ?_, fun ρn hI => ?_⟩)))) (fun ρ' hI => ?_)
    · obtain ⟨s4, s5, s6, s7, rfl⟩ := hI
      obtain ⟨hj, rfl⟩ := enumR_at hd
      refine ⟨_, _, rfl, ss_one (for2 6 7 c_Ltracks_right (wi_enum rfl T.enum (a1 (nm 5 ⟨_, rfl, fun i ρ => ∃ s6 s7, ρ = stT C e ex (off ex j + i) ((ex.take j).flatten ++ (rowAt ex j).take i) (.val (.int (j : Int))) (.val (.lst (lI (rowAt ex j)))) s6 s7, ⟨s6, s7, ?_⟩, fun i d ρi hd hI => ?_, fun ρn hI => ?_⟩))))⟩
      · rw [List.take_zero, List.append_nil]; rfl
      · obtain ⟨s6', s7', rfl⟩ := hI
        obtain ⟨t, ht, rfl⟩ := enum_at hd
        obtain ⟨hi, et⟩ := List.getElem?_eq_some_iff.mp ht
        have hlt := off_lt hj hi
        have etd : (rowAt ex j).getD i 0 = t := by rw [List.getD_eq_getElem?_getD, ht]; rfl
        have hlen : ((ex.take j).flatten ++ (rowAt ex j).take i).length < 1000 := by
          rw [List.length_append, List.length_take]
          have : (ex.take j).flatten.length = off ex j := rfl
          omega
        refine ⟨_, _, rfl, ?_⟩
        refine ss_cons (s_if (t_bool (tb_or (t_cmpG (call Fa hr (aG (nm 0 (aG (nm 4 (a1 (nm 6 ⟨e, ex, j, i, rfl, v, hj, hi, nm 2 (o_ne ⟨_, rfl, ?_⟩)⟩)))))))))))
        rw [decide_eq_true rfl]
        show WTB _ _ _ _ _ _ _
        refine tb_or1 (t_cmpG (callI Fo hr (k_cons (nm 0 (k_cons (nm 2 (k_nil ⟨e, ex, j, i, rfl, v, hj, hi, nm 4 (o_ne ⟨_, rfl, ?_⟩)⟩)))))))
        rw [decide_eq_true rfl]
        show WSs _ [] _ _
        refine ss_nil ?_
        show WSs _ _ _ _
        refine ss_cons (s_if (t_cmpG (call Ft hr (aG (nm 0 (a1 (nm 2 ⟨e, ex, j, i, rfl, v, hj, hi, nm 7 (o_ne ⟨_, rfl, ?_⟩)⟩)))))))
        rw [etd, decide_eq_true rfl]
        show WSs _ [] _ _
        refine ss_nil ?_
        show WSs _ _ _ _
        refine ss_cons (app 3 (ds := lI ((ex.take j).flatten ++ (rowAt ex j).take i)) rfl (nm 7 ⟨_, rfl, by rw [lI_len]; omega, ?_⟩))
        rw [lI_snoc]
        show WSs _ _ (stT C e ex (off ex j + i) (((ex.take j).flatten ++ (rowAt ex j).take i) ++ [t]) (.val (.int (j : Int))) (.val (.lst (lI (rowAt ex j)))) (.val (.int (i : Int))) (.val (.int t))) _
        refine ss_one (set 2 c_Ltracks_right (w_binG (nm 2 (w_int (o_add ⟨.val (.int (i : Int)), .val (.int t), ?_⟩)))))
        rw [List.take_add_one, ht, ← List.append_assoc, show (((off ex j + i : Nat) : Int) + 1) = ((off ex j + (i + 1) : Nat) : Int) by omega]
        rfl
      · obtain ⟨s6', s7', rfl⟩ := hI
        refine ⟨.val (.int (j : Int)), .val (.lst (lI (rowAt ex j))), s6', s7', ?_⟩
        rw [enum_len, List.take_length, ← flat_take hj, ← off_succ hj]
    · obtain ⟨s4, s5, s6, s7, rfl⟩ := hI
      rw [enumR_len]
      exact ⟨s4, s5, s6, s7, rfl⟩
    · obtain ⟨s4, s5, s6, s7, rfl⟩ := hI
      have eo : off ex ex.length = ex.flatten.length := by unfold off; rw [List.take_length]
      rw [eo, List.take_length]
      refine ss_share (i := 3) rfl ?_
      refine ss_cons (s_if (t_bool (tb_or (t_cmpG (w_lst (aG (w_many N hrj (nm 0 ⟨e, ex, rfl, v, a1 (w_points N hrj (nm 0 ⟨e, ex, rfl, v, by show 2 ≤ sizeLine; decide, w_lst (aG (nm 2 (a1 (w_callB (id := "len") true rfl T.len (by decide +kernel) (a1 (nm 1 (c_lenL ⟨by show 2 ≤ sizeLine; decide, o_neD hr.units (py_lI [(ex.flatten.length : Int), (ex.length : Int)]) (py_lI [(ex.flatten.length : Int), ((rowsL ex).length : Int)]) (shaped_ints _) (shaped_ints _) ⟨_, rfl, ?_⟩⟩)))))))⟩))⟩))))))))
      rw [rowsL_len, ne_self_i]
      show WTB _ _ _ _ _ _ _
      refine tb_or (t_cmpG (w_targets N hrj0 (nm 0 ⟨e, ex, rfl, v, nm 3 (o_neD hr.units (py_lI _) (py_lI _) (shaped_ints _) (shaped_ints _) ⟨_, rfl, ?_⟩)⟩)))
      rw [ne_self_i]
      show WTB _ _ _ _ _ _ _
      refine tb_or1 (t_cmpG (w_exits N hrj0 (nm 0 ⟨e, ex, rfl, v, nm 1 (o_neD hr.units (py_rows _) (py_rows _) (shaped_lsts _) (shaped_lsts _) ⟨_, rfl, ?_⟩)⟩)))
      rw [ne_self_r]
      show WSs _ [] _ _
      refine ss_nil ?_
      show WSs _ _ _ _
      -- what was told may be changed
      refine ss_cons (s_appNew (wfr_exits N hrj0 v (nm 0 rfl)) (by rw [rowsL_len]; omega) ?_)
      show WSs _ _ _ _
      have last : ∀ s5', WSs (CxD P w K mg base N_Ltracks_right "_law_tracks_right" s_Ltracks_right f cdv A outer s H E) ((defBody s_Ltracks_right).drop 5) [.val (netD C e ex), .val (.lst (rowsL ex)), .val (.int (ex.flatten.length : Int)), .val (.lst (lI ex.flatten)), s4, s5', s6, s7] { nx := fun _ => Z .non, rt := Z } := fun s5' => by
        refine ss_cons (s_appNew (wfr_targets N hrj0 v (nm 0 rfl)) (by rw [lI_len]; omega) ?_)
        show WSs _ _ _ _
        refine ss_one (s_ret (w_and (w_cmpG (w_exits N hrj0 (nm 0 ⟨e, ex, rfl, v, nm 1 (o_eqD hr.units (py_rows _) (py_rows _) (shaped_lsts _) (shaped_lsts _) ⟨_, rfl, ?_⟩)⟩)))))
        rw [eq_self_r]
        show W _ _ _ _ _ _
        refine w_one (w_cmpG (w_targets N hrj0 (nm 0 ⟨e, ex, rfl, v, nm 3 (o_eqD hr.units (py_lI _) (py_lI _) (shaped_ints _) (shaped_ints _) ?_)⟩)))
        rw [eq_self_i]
        exact q
      refine ss_cons (s_forNew (i := 5) (ls := ex.map lI) c_Ltracks_right (by rw [← rowsL_map]; exact wfr_exits N hrj0 v (nm 0 rfl)) (fun l hl => ?_) (last .un) (last s5) (by show 5 < 8; decide) (by rw [List.length_map]; omega))
      obtain ⟨r, hr', rfl⟩ := List.mem_map.mp hl
      have h1 := v.r1 r hr'
      have h6 := v.r6 r hr'
      refine ⟨by rw [lI_len]; omega, ?_⟩
      cases r with
      | nil => simp at h1
      | cons a r => exact ⟨a, lI r, rfl⟩
end
end K12

namespace K12
open PySem PySem.Spec PyProof.Rows L2 DD
section
variable {P : Program} {w : World} {K : PySem.W.Frag} {mg : Str → Option Value} {base : Heap} {f C : Addr} {fd : FuncData} {k : Nat}
theorem prodR_snoc (ex : List (List Int)) (j : Nat) (h : j < ex.length) : prodR (ex.take (j + 1)) = prodR (ex.take j) * ((rowAt ex j).length : Int) := by
  rw [List.take_add_one, rowAt_get h]
  unfold prodR
  show List.foldl _ 1 (ex.take j ++ [rowAt ex j]) = _
  rw [List.foldl_append]; rfl
abbrev stS (C : Addr) (e : Int) (ex : List (List Int)) (m : Int) (s4 s5 s6 s7 s8 : Slot) : Rho := [.own false .pot, .val (netD C e ex), .val (.lst (rowsL ex)), .val (.int m), s4, s5, s6, s7, s8]
def cSets (C : Addr) : List D → (D → Prop) → Prop := fun ds Z => ∃ e ex, ds = [netD C e ex, .lst (rowsL ex)] ∧ Valid e ex ∧ Z (.bl true)
theorem ok_Lsettings {j0 : Nat} (T : Blt2 mg) (N : NetP P w K mg base C j0) (hj0 : j0 < k) (Fm : Df P w K mg base k "many_settings" ["net"] (spD (cNet C fun _ ex => .int (prodR ex)))) (Ff : DfI P w K mg base k "first_setting" ["net"] (spD (cNet C fun _ ex => .lst (lI (List.replicate ex.length 0)))))
    (Fs : Df P w K mg base k "_law_setting" ["_law_pot_here", "_law_exits_here"] (spP cLset)) (Fl : Df P w K mg base k "last_exits" ["net", "setting"] (spD (cSet C fun _ ex st => .lst (lI (lasts ex st))))) (FlI : DfI P w K mg base k "last_exits" ["net", "setting"] (spD (cSet C fun _ ex st => .lst (lI (lasts ex st)))))
    (Fi : Df P w K mg base k "is_setting" ["net", "value"] (spD (cSet C fun _ _ _ => .bl true)))
    (F : Fun K "_law_settings_right" "_law_settings_right" s_Lsettings_right f fd) : FnOk P w K mg base CX0 (k + 1) f fd ["_law_pot_here", "_law_net", "_law_exits_here"] (spP (cSets C)) := by
  refine fnP F c_Lsettings_right (fun ds Z h => ?_) (fun cdv A outer s H E ds Z hr h => ?_)
  · obtain ⟨e, ex, rfl, _⟩ := h
    rfl
  · obtain ⟨e, ex, rfl, v, q⟩ := h
    have n24 := v.n24
    refine ss_cons (set 3 c_Lsettings_right (w_int ?_))
    show WSs _ _ (stS C e ex 1 .un .un .un .un .un) _
    refine ss_cut (fun ρ => ∃ s4, ρ = stS C e ex (prodR ex) s4 .un .un .un .un)
      (for1 4 c_Lsettings_right (wi_lst (nm 2 ⟨_, rfl, fun j ρ => ∃ s4, ρ = stS C e ex (prodR (ex.take j)) s4 .un .un .un .un, ⟨.un, rfl⟩, fun j d ρi hd hI => ?_, fun ρn hI => ?_⟩))) (fun ρ' hI => ?_)
    · obtain ⟨s4, rfl⟩ := hI
      have hj : j < ex.length := by have := (List.getElem?_eq_some_iff.mp hd).1; rw [rowsL_len] at this; exact this
      have ed : d = .lst (lI (rowAt ex j)) := by
        have z := rowsL_at ex hj
        rw [List.getD_eq_getElem?_getD, hd] at z
        exact z
      subst ed
      have h6 := v.r6 _ (rowAt_mem hj)
      refine ss_one (set 3 c_Lsettings_right (w_binG (nm 3 (w_callB (id := "len") true rfl T.t.len (by decide +kernel) (a1 (nm 4 (c_lenL (o_mul ⟨.inr ?_, .val (.lst (lI (rowAt ex j))), ?_⟩))))))))
      · rw [lI_len]; omega
      · rw [lI_len, prodR_snoc ex j hj]; rfl
    · obtain ⟨s4, rfl⟩ := hI
      rw [rowsL_len, List.take_length]
      exact ⟨s4, rfl⟩
    · obtain ⟨s4, rfl⟩ := hI
      refine ss_cons (s_if (t_bool (tb_or (t_cmpG (call Fm hr (a1 (nm 1 ⟨e, ex, rfl, v, nm 3 (o_ne ⟨_, rfl, ?_⟩)⟩)))))))
      rw [decide_eq_true rfl]
      show WTB _ _ _ _ _ _ _
      refine tb_or1 (t_cmpG (callI Ff hr (k_cons (nm 1 (k_nil ⟨e, ex, rfl, v, w_binG (w_lst (a1 (w_int ⟨by show 1 ≤ sizeLine; decide, w_callB (id := "len") true rfl T.t.len (by decide +kernel) (a1 (nm 2 (c_lenL (o_rep ⟨⟨?_, ?_, ?_⟩, ?_⟩))))⟩)))⟩)))))
      · omega
      · rw [rowsL_len]; omega
      · rw [rowsL_len, sizeLine_eq]; simp; omega
      · rw [rowsL_len, rep0]
        refine o_neD hr.units (py_lI _) (py_lI _) (shaped_ints _) (shaped_ints _) ⟨_, rfl, ?_⟩
        rw [ne_self_i]
        show WSs _ [] _ _
        refine ss_nil ?_
        show WSs _ _ _ _
        refine ss_cut (fun ρ => ∃ s5 s6 s7, ρ = stS C e ex (prodR ex) s4 s5 s6 s7 .un)
          (for1 5 c_Lsettings_right (wi_rng1 rfl T.t.range (a1 (w_int ⟨3, rfl, ⟨by decide, by decide⟩, fun _ ρ => ∃ s5 s6 s7, ρ = stS C e ex (prodR ex) s4 s5 s6 s7 .un, ⟨_, _, _, rfl⟩, fun j d ρi hd hI => ?_, fun ρn hI => hI⟩)))) (fun ρ' hI => ?_)
        · obtain ⟨s5, s6, s7, rfl⟩ := hI
          refine ss_cons (set 6 c_Lsettings_right (callP 0 Fs hr (a1 (nm 2 ⟨rfl, e, ex, rfl, v, fun st hst => ?_⟩))))
          show WSs _ _ (stS C e ex (prodR ex) s4 (.val d) (.val (.lst (lI st))) s7 .un) _
          have hsl := hst.1
          refine ss_cons (s_lc2 7 8 4 (dueD ex st) c_Lsettings_right (wi_enum rfl T.t.enum (a1 (nm 2 ⟨_, rfl, ?_, fun d hd => ?_, ?_⟩))))
          · rw [enumR_len]; omega
          · obtain ⟨i, hii⟩ := List.mem_iff_getElem?.mp hd
            obtain ⟨hi, rfl⟩ := enumR_at hii
            have hm := rowAt_mem hi
            have h1 := v.r1 _ hm
            have h6 := v.r6 _ hm
            have hgs : st[i]? = some (st.getD i 0) := by rw [List.getD_eq_getElem?_getD, List.getElem?_eq_getElem (by omega)]; rfl
            obtain ⟨b0, b1⟩ := hst.2 i _ _ hgs (rowAt_get hi)
            obtain ⟨t, ht, _⟩ := atI_some b0 b1
            refine ⟨_, _, rfl, fun _ _ _ _ _ => w_ix true true (fun _ _ => rfl) (.inr rfl) (nm 4 (w_binG (w_binG (w_binG (w_ix true true (fun _ _ => rfl) (.inr rfl) (nm 6 (nm 8 (x_lst (ints_atI (i := (i : Int)) (t := st.getD i 0) (by omega) (by rw [Int.toNat_natCast]; exact hgs)) (w_callB (id := "len") true rfl T.t.len (by decide +kernel) (a1 (nm 4 (c_lenL (o_add (w_int (o_sub (w_callB (id := "len") true rfl T.t.len (by decide +kernel) (a1 (nm 4 (c_lenL (o_mod ⟨?_, x_lst (d := .int t) ?_ ?_⟩))))))))))))))))))))⟩
            · rw [lI_len]; omega
            · rw [lI_len, atI_lI, turn_at b0 b1, ht]; rfl
            · show D.int t = .int ((atI (rowAt ex ((i : Int)).toNat) (st.getD ((i : Int)).toNat 0 - 1)).getD 0)
              rw [Int.toNat_natCast, ht]; rfl
          · rw [due_all hsl]
            show WSs _ _ (stS C e ex (prodR ex) s4 (.val d) (.val (.lst (lI st))) (.val (.lst (lI (lasts ex st)))) .un) _
            refine ss_cons (s_if (t_bool (tb_or (t_cmpG (call Fl hr (aG (nm 1 (a1 (w_callTy (T := "tuple") true rfl T.t.tuple (by decide +kernel) (a1 (nm 6 (c_tuple ⟨e, ex, _, st, rfl, .inr rfl, v, hst, nm 7 (o_neD hr.units (py_lI _) (py_lI _) (shaped_ints _) (shaped_ints _) ⟨_, rfl, ?_⟩)⟩))))))))))))
            rw [ne_self_i]
            show WTB _ _ _ _ _ _ _
            refine tb_or1 (t_cmpG (callI FlI hr (k_cons (nm 1 (k_cons (nm 6 (k_nil ⟨e, ex, _, st, rfl, .inl rfl, v, hst, nm 7 (o_neD hr.units (py_lI _) (py_lI _) (shaped_ints _) (shaped_ints _) ⟨_, rfl, ?_⟩)⟩)))))))
            rw [ne_self_i]
            show WSs _ [] _ _
            refine ss_nil ?_
            show WSs _ _ _ _
            refine ss_one (s_if (t_cmpG (call Fi hr (aG (nm 1 (a1 (nm 6 ⟨e, ex, _, st, rfl, .inl rfl, v, hst, w_bl (o_isnotB ⟨_, rfl, ?_⟩)⟩)))))))
            show WSs _ [] _ _
            exact ss_nil ⟨_, _, _, rfl⟩
        · obtain ⟨s5, s6, s7, rfl⟩ := hI
          exact ss_one (s_ret (w_bl q))
/-! ### ways -/
def cWays (C : Addr) : List D → (D → Prop) → Prop := fun ds Z => ∃ e ex, ds = [netD C e ex, .int e, .lst (rowsL ex)] ∧ Valid e ex ∧ Z (.bl true)
structure Blt3 (mg : Str → Option Value) : Prop where
  t : Blt2 mg
  repr : mg "repr" = none
theorem ok_Lways (T : Blt3 mg) (Fo : Df P w K mg base k "leads_to" ["net", "target"] (spD (cTo C))) (Fl : Df P w K mg base k "_law_leading" ["_law_exits_here", "_law_targets"] (spD cLead)) (Fi : Df P w K mg base k "is_leading" ["net"] (spD (cNet C fun e ex => .bl (decide ((ptsTo ex (endsL e)).length = ex.length)))))
    (Fj : Df P w K mg base k "_law_is_leading" ["_law_exits_here", "_law_ends"] (spD cIsLead)) (F : Fun K "_law_ways_right" "_law_ways_right" s_Lways_right f fd) : FnOk P w K mg base CX0 (k + 1) f fd ["_law_net", "_law_ends", "_law_exits_here"] (spD (cWays C)) := by
  refine fnD F c_Lways_right (fun ds Z h => ?_) (fun cdv A outer s H E ds Z hr h => ?_)
  · obtain ⟨e, ex, rfl, _⟩ := h
    rfl
  · obtain ⟨e, ex, rfl, v, q⟩ := h
    have n24 := v.n24
    have e0 := v.e0
    have e6 := v.e6
    refine ss_cut (fun ρ => ∃ s3, ρ = [.val (netD C e ex), .val (.int e), .val (.lst (rowsL ex)), s3])
      (for1 3 c_Lways_right (wi_rng2 rfl T.t.t.range (WA.un (aP (w_binG (w_int (nm 1 (o_sub (a1 (w_callB (id := "len") true rfl T.t.t.len (by decide +kernel) (a1 (nm 2 (c_lenL ⟨_, _, rfl, ⟨?_, ?_, ?_, ?_⟩, fun _ ρ => ∃ s3, ρ = [.val (netD C e ex), .val (.int e), .val (.lst (rowsL ex)), s3], ⟨.un, rfl⟩, fun j d ρi hd hI => ?_, fun ρn hI => hI⟩))))))))))))) (fun ρ' hI => ?_)
    · omega
    · omega
    · omega
    · rw [rowsL_len]; omega
    · obtain ⟨s3, rfl⟩ := hI
      obtain ⟨hj, rfl⟩ := rng_get hd
      rw [rowsL_len] at hj
      have hlo : -e ≤ 0 - e + (j : Int) := by omega
      have hhi : 0 - e + (j : Int) < ex.length := by omega
      refine ss_one (s_if (t_cmpG (call Fo hr (aG (nm 0 (a1 (nm 3 ⟨e, ex, _, rfl, v, ⟨hlo, hhi⟩, call Fl hr (aG (nm 2 (a1 (w_lst (a1 (nm 3 ⟨by show 1 ≤ sizeLine; decide, e, ex, [0 - e + (j : Int)], rfl, v, o_neD hr.units (py_lI _) (py_lI _) (shaped_ints _) (shaped_ints _) ⟨_, rfl, ?_⟩⟩))))))⟩)))))))
      rw [ne_self_i]
      show WSs _ [] _ _
      exact ss_nil ⟨_, rfl⟩
    · obtain ⟨s3, rfl⟩ := hI
      refine ss_one (s_ret (w_cmpG (w_callB (id := "repr") true rfl T.repr (by decide +kernel) (a1 (call Fi hr (a1 (nm 0 ⟨e, ex, rfl, v, c_reprB (w_callB (id := "repr") true rfl T.repr (by decide +kernel) (a1 (call Fj hr (aG (nm 2 (a1 (nm 1 ⟨e, ex, rfl, v, c_reprB (o_eqs ?_)⟩)))))))⟩)))))))
      rw [decide_eq_true rfl]
      exact q
end
end K12

namespace K12
open PySem PySem.Spec PyProof.Rows L2 DD
section
variable {P : Program} {w : World} {K : PySem.W.Frag} {mg : Str → Option Value} {base : Heap} {f C : Addr} {fd : FuncData} {k : Nat}
theorem Valid.more {e : Int} {ex : List (List Int)} (v : Valid e ex) (h : e ≤ 5) : Valid (e + 1) ex := ⟨by have := v.e0; omega, by omega, v.n1, v.n24, v.r1, v.r6, fun l hl t ht => by have := v.lo l hl t ht; omega, v.hi, v.m60⟩
theorem eq_rows (a b : List (List Int)) : PyData.eqv (.list (a.map fun l => PyData.list (l.map PyData.int))) (.list (b.map fun l => PyData.list (l.map PyData.int))) = decide (a = b) := by
  show PyData.eqvAll _ _ = _
  rw [eqv_lsts]
theorem itsT (ex : List (List Int)) : (rowsL ex).map (fun d => D.tup (itsD d)) = rowsT ex := by
  unfold rowsL rowsT
  rw [List.map_map]; rfl
def cLaw (K : PySem.W.Frag) : List D → (D → Prop) → Prop := fun ds Z => ∃ ns : List Int, ds = [.scr K ns] ∧ ns.length < 1000 ∧ Z (.bl true)
theorem ok_law {j0 : Nat} (T : Blt3 mg) (N : NetP P w K mg base C j0) (hj0 : j0 < k) (Fp : Df P w K mg base k "_law_pot" ["_law_script", "_law_k"] (spF (cPot K))) (Fd : Df P w K mg base k "_law_draw" ["_law_pot_here", "_law_size"] (spP cDraw))
    (Fx : Df P w K mg base k "_law_exits" ["_law_pot_here", "_law_ends", "_law_points", "_law_most"] (spP cExits)) (Ft : Df P w K mg base k "_law_tracks_right" ["_law_net", "_law_exits_here"] (spD (cTracks C)))
    (Fs : Df P w K mg base k "_law_settings_right" ["_law_pot_here", "_law_net", "_law_exits_here"] (spP (cSets C))) (Fw : Df P w K mg base k "_law_ways_right" ["_law_net", "_law_ends", "_law_exits_here"] (spD (cWays C)))
    (F : Fun K "law" "law" s_law f fd) : FnOk P w K mg base CX0 (k + 1) f fd ["_law_script"] (spD (cLaw K)) := by
  refine fnD F c_law (fun ds Z h => ?_) (fun cdv A outer s H E ds Z hr h => ?_)
  · obtain ⟨ns, rfl, _⟩ := h
    rfl
  · obtain ⟨ns, rfl, hl, q⟩ := h
    have hrj := hr.mono (show j0 + 1 ≤ k by omega)
    have hrj0 := hr.mono (show j0 ≤ k by omega)
    refine ss_cons (setO 1 c_law (f_call Fp hr (aG (nm 0 (a1 (w_int ⟨⟨ns, rfl, hl⟩, ?_⟩))))))
    show WSs _ _ _ _
    refine ss_cut (fun ρ => ∃ s2 s3 s4 s5 s6 s7 s8 s9 s10, ρ = [.val (.scr K ns), .own true .pot, s2, s3, s4, s5, s6, s7, s8, s9, s10])
      (for1 2 c_law (wi_rng1 rfl T.t.t.range (a1 (w_int ⟨2, rfl, ⟨by decide, by decide⟩, fun _ ρ => ∃ s2 s3 s4 s5 s6 s7 s8 s9 s10, ρ = [.val (.scr K ns), .own true .pot, s2, s3, s4, s5, s6, s7, s8, s9, s10], ⟨_, _, _, _, _, _, _, _, _, rfl⟩, fun j d ρi hd hI => ?_, fun ρn hI => hI⟩)))) (fun ρ' hI => ?_)
    · obtain ⟨s2, s3, s4, s5, s6, s7, s8, s9, s10, rfl⟩ := hI
      refine ss_cons (s_par (i := 3) (j := 4) rfl c_law.nd rfl rfl (by decide) rfl rfl (aG (callP 1 Fd hr (a1 (w_int ⟨rfl, 4, rfl, ⟨by decide, by decide⟩, fun e e0 e4 => a1 (w_binG (w_int (callP 1 Fd hr (a1 (w_int ⟨rfl, 6, rfl, ⟨by decide, by decide⟩, fun n n0 n6 => o_add ⟨_, _, rfl, ?_⟩⟩)))))⟩)))))
      show WSs _ _ _ _
      obtain ⟨m, hm⟩ : ∃ m : Nat, 1 + n = (m : Int) := ⟨(1 + n).toNat, by omega⟩
      rw [hm]
      refine ss_cons (set 5 c_law (callP 1 Fx hr (aG (nm 3 (aG (nm 4 (a1 (w_int ⟨rfl, e, m, 4, rfl, ⟨by omega, by omega, by omega, by omega, by omega, by omega⟩, fun ex v hxl => ?_⟩))))))))
      show WSs _ _ [.val (.scr K ns), .own true .pot, .val d, .val (.int e), .val (.int (m : Int)), .val (.lst (rowsL ex)), s6, s7, s8, s9, s10] _
      have n1 := v.n1
      have n24 := v.n24
      refine ss_cons (set 6 c_law (w_net N hrj (aG (nm 3 (a1 (nm 5 ⟨e, _, ex, rfl, ⟨_, .inl rfl, rowsA_L ex⟩, v, ?_⟩))))))
      show WSs _ _ [.val (.scr K ns), .own true .pot, .val d, .val (.int e), .val (.int (m : Int)), .val (.lst (rowsL ex)), .val (netD C e ex), s7, s8, s9, s10] _
      refine ss_cons (s_if (t_bool (tb_or (t_cmpG (w_ends N hrj (nm 6 ⟨e, ex, rfl, v, nm 3 (o_ne ⟨_, rfl, ?_⟩)⟩))))))
      rw [decide_eq_true rfl]
      show WTB _ _ _ _ _ _ _
      refine tb_or (t_not (t_val (call Ft hr (aG (nm 6 (a1 (nm 5 ⟨e, ex, rfl, v, _, rfl, ?_⟩)))))))
      show WTB _ _ _ _ _ _ _
      refine tb_or1 (t_not (t_val (callP 1 Fs hr (aG (nm 6 (a1 (nm 5 ⟨rfl, e, ex, rfl, v, _, rfl, ?_⟩)))))))
      show WSs _ [] _ _
      refine ss_nil ?_
      show WSs _ _ _ _
      refine ss_cons (s_if (t_not (t_val (call Fw hr (aG (nm 6 (aG (nm 3 (a1 (nm 5 ⟨e, ex, rfl, v, _, rfl, ?_⟩))))))))))
      show WSs _ [] _ _
      refine ss_nil ?_
      show WSs _ _ _ _
      refine ss_cons (set 7 c_law (callP 1 Fx hr (aG (nm 3 (aG (nm 4 (a1 (w_int ⟨rfl, e, m, 2, rfl, ⟨by omega, by omega, by omega, by omega, by omega, by omega⟩, fun ex2 v2 hxl2 => ?_⟩))))))))
      show WSs _ _ [.val (.scr K ns), .own true .pot, .val d, .val (.int e), .val (.int (m : Int)), .val (.lst (rowsL ex)), .val (netD C e ex), .val (.lst (rowsL ex2)), s8, s9, s10] _
      refine ss_cons (s_if (t_bool (tb_or (t_cmpG (w_cmpG (w_net N hrj (aG (nm 3 (a1 (nm 7 ⟨e, _, ex2, rfl, ⟨_, .inl rfl, rowsA_L ex2⟩, v2, nm 6 (o_eqN N hrj0 (w_cmpG (nm 7 (nm 5 (o_eqD hr.units (py_rows _) (py_rows _) (shaped_lsts _) (shaped_lsts _) (o_bne hr.units ⟨_, rfl, ?_⟩))))))⟩))))))))))
      rw [eq_rows, show (decide (e = e) && decide (ex2 = ex)) = decide (ex2 = ex) by rw [decide_eq_true (rfl : e = e), Bool.true_and], decide_eq_true (rfl : decide (ex2 = ex) = decide (ex2 = ex))]
      show WTB _ _ _ _ _ _ _
      refine tb_or (t_cmpG (nm 6 (nm 5 (o_eqNL N hrj0 ⟨_, rfl, ?_⟩))))
      show WTB _ _ _ _ _ _ _
      refine tb_or1 (t_cmpG (w_net N hrj (aG (w_binG (nm 3 (w_int (o_add (a1 (nm 5 ⟨e + 1, _, ex, rfl, ⟨_, .inl rfl, rowsA_L ex⟩, v.more (by omega), nm 6 (o_eqN N hrj0 ⟨_, rfl, ?_⟩)⟩)))))))))
      rw [show (decide (e + 1 = e) && decide (ex = ex)) = false by rw [decide_eq_false (by omega)]; rfl]
      show WSs _ [] _ _
      refine ss_nil ?_
      show WSs _ _ _ _
      refine ss_cons (s_if (t_cmpG (w_netK N hrj (k_cons (w_callTy (T := "tuple") true rfl T.t.t.tuple (by decide +kernel) (a1 (lc1 10 (fun x => .tup (itsD x)) c_law (wi_lst (nm 5 ⟨_, rfl, ?_, fun x hx _ _ _ _ _ => ?_, c_tuple (k_cons (nm 3 (k_nil ⟨e, _, ex, rfl, ?_, v, nm 6 (o_neN N hrj ⟨_, rfl, ?_⟩)⟩)))⟩)))))))))
      · rw [rowsL_len]; omega
      · obtain ⟨l, hl, rfl⟩ := List.mem_map.mp hx
        exact w_callTy (T := "tuple") true rfl T.t.t.tuple (by decide +kernel) (a1 (nm 10 (c_tuple rfl)))
      · rw [itsT]
        exact ⟨_, .inr rfl, rowsA_T ex⟩
      rw [decide_eq_true rfl, decide_eq_true rfl]
      show WSs _ [] _ _
      refine ss_nil ?_
      show WSs _ _ _ _
      -- what was passed may be changed
      refine ss_tmp (i := 8) (j := 9) (d2 := netD C e ex) (Q := fun ds => ds = rowsL ex) c_law (by decide) (by show 8 < 11; decide)
        (ps_setLc (own := [("_law_row", 10)]) rfl c_law.nd rfl rfl (sw_true rfl rfl rfl (by decide +kernel)) pi_w (blkOk_by (by kernel_rfl)) (pg1 c_law rfl rfl (by intro _ _ _ _ _; exact ⟨.inl rfl, .inr rfl⟩)) (fun _ _ _ _ _ => pts_nil) pe_c (by intro _; rfl))
        (x_lcN (T := .one 10) (own := [("_law_row", 10)]) (fun x => .lst (itsD x)) (fun k hk => hk) (wi_lst (nm 5 ⟨_, rfl, ?_, fun x hx => ⟨_, rfl, ?_⟩, ?_⟩))) ?_ ?_ (noL_net e ex) ?_
      · rw [rowsL_len]; omega
      · obtain ⟨l, hl, rfl⟩ := List.mem_map.mp hx
        exact fun _ _ _ _ _ => wnew_list (i := 10) T.t.t.list rfl rfl (by first | exact .inl rfl | exact .inr (.inl rfl) | exact .inr (.inr rfl))
      · unfold rowsL
        rw [List.map_map]; rfl
      · rintro ds rfl
        cases ex with
        | nil => simp at n1
        | cons r rest =>
          refine ⟨lI r, rowsL rest, rfl, ?_⟩
          have := v.r6 r List.mem_cons_self
          rw [lI_len]; omega
      · rintro ds rfl
        exact w_net N hrj (aG (nm 3 (a1 (nm 8 ⟨e, _, ex, rfl, ⟨_, .inl rfl, rowsA_L ex⟩, v, rfl⟩))))
      show WSs _ _ [.val (.scr K ns), .own true .pot, .val d, .val (.int e), .val (.int (m : Int)), .val (.lst (rowsL ex)), .val (netD C e ex), .val (.lst (rowsL ex2)), .un, .val (netD C e ex), s10] _
      refine ss_one (s_if (t_bool (tb_or (t_cmpG (nm 9 (nm 6 (o_neN N hrj ⟨_, rfl, ?_⟩)))))))
      rw [decide_eq_true rfl, decide_eq_true rfl]
      show WTB _ _ _ _ _ _ _
      refine tb_or1 (t_cmpG (w_exits N hrj0 (nm 9 ⟨e, ex, rfl, v, nm 5 (o_neD hr.units (py_rows _) (py_rows _) (shaped_lsts _) (shaped_lsts _) ⟨_, rfl, ?_⟩)⟩)))
      rw [ne_self_r]
      show WSs _ [] _ _
      exact ss_nil ⟨_, _, _, _, _, _, _, _, _, rfl⟩
    · obtain ⟨s2, s3, s4, s5, s6, s7, s8, s9, s10, rfl⟩ := hI
      exact ss_one (s_ret (w_bl q))
end
end K12

namespace K12
open PySem PySem.Spec PyProof.Rows L2 DD
section
variable {P : Program} {w : World} {K : PySem.W.Frag} {mg : Str → Option Value} {base : Heap}
theorem Df.mono {j k : Nat} {x : Str} {ps : List Str} {sp : Sp} (F : Df P w K mg base j x ps sp) (h : j ≤ k) : Df P w K mg base k x ps sp := by
  obtain ⟨f, fd, F, r⟩ := F.ex
  exact ⟨f, fd, F.mono h, r⟩
theorem sw2_len {α : Type} (l : List α) : (sw2 l).length = l.length := by
  rcases l with _ | ⟨a, _ | ⟨b, _ | ⟨c, r⟩⟩⟩ <;> rfl
/-- a def's cell -/
def Fa (K : PySem.W.Frag) (x qual : Str) (st : Stmt) (f : Addr) : Prop := ∃ (oc : Value) (od : Option Addr) (kV doc pm : Value) (an : Option Addr) (cdv ct : Value) (osl : Array (Option Value)),
  K.lookup f = some ⟨oc, od, .func (PySem.W.fnOf x qual (defArgs st) (defBody st) (defScope st) .none kV doc pm an cdv ct), osl⟩ ∧ PySem.W.codeIn K cdv qual = true ∧ PySem.W.keepIn K (.ref f) = true
theorem Fa.fn {x qual : Str} {st : Stmt} {f : Addr} (h : Fa K x qual st f) : ∃ fd, Fun K x qual st f fd := by
  obtain ⟨oc, od, kV, doc, pm, an, cdv, ct, osl, l, c, k⟩ := h
  exact ⟨_, fun_mk l c k⟩
/-- how a def's arguments bind -/
def Bd (x qual : Str) (st : Stmt) (ps : List Str) : Prop := ∀ (kV doc pm : Value) (an : Option Addr) (cdv ct : Value) (us : List Value), us.length = ps.length → bindArgs (PySem.W.fnOf x qual (defArgs st) (defBody st) (defScope st) .none kV doc pm an cdv ct) ⟨us, []⟩ = pure (ps.zip us)
/-- a def of the top -/
def Tp (K : PySem.W.Frag) (x : Str) (st : Stmt) : Prop := ∃ f, PySem.W.nsIn K mainGlobals x = some (some (.ref f)) ∧ Fa K x x st f
theorem Tp.df {h : Heap} {x : Str} {st : Stmt} {ps : List Str} {sp : Sp} {k : Nat} (T : Tp K x st) (X : K.In h) (G : h.Ns mainGlobals mg) (hb : Bd x x st ps) (F : ∀ f fd, Fun K x x st f fd → FnOk P w K mg base CX0 k f fd ps sp) : Df P w K mg base k x ps sp := by
  obtain ⟨f, a, fa⟩ := T
  obtain ⟨fd, fn⟩ := fa.fn
  obtain ⟨_, _, _, _, _, _, _, _, _, _, _, k⟩ := fa
  exact ⟨f, fd, F f fd fn, PySem.W.mg_of X G a, k, fn.binds hb⟩
theorem Tp.dfK {h : Heap} {x : Str} {st : Stmt} {ps ks : List Str} {sp : Sp} {k : Nat} (T : Tp K x st) (X : K.In h) (G : h.Ns mainGlobals mg)
    (hb : ∀ (kV doc pm : Value) (an : Option Addr) (cdv ct : Value) (us ws : List Value), (us ++ sw2 ws).length = ps.length → bindArgs (PySem.W.fnOf x x (defArgs st) (defBody st) (defScope st) .none kV doc pm an cdv ct) ⟨us, ks.zip ws⟩ = pure (ps.zip (us ++ sw2 ws)))
    (F : ∀ f fd, Fun K x x st f fd → FnOk P w K mg base CX0 k f fd ps sp) : DfK P w K mg base k x ps ks sp := by
  obtain ⟨f, a, fa⟩ := T
  obtain ⟨oc, od, kV, doc, pm, an, cdv, ct, osl, l, c, k⟩ := fa
  exact ⟨f, _, F f _ (fun_mk l c k), PySem.W.mg_of X G a, k, ⟨fun s us ws _ hl => .of_eq (hb kV doc pm an cdv ct us ws hl), fun r1 r2 => r1.append (vals_sw r2)⟩⟩
theorem Tp.dfI {h : Heap} {x : Str} {st : Stmt} {ps : List Str} {sp : Sp} {k : Nat} (T : Tp K x st) (X : K.In h) (G : h.Ns mainGlobals mg)
    (hb : ∀ (kV doc pm : Value) (an : Option Addr) (cdv ct : Value) (ws : List Value), ws.length = ps.length → bindArgs (PySem.W.fnOf x x (defArgs st) (defBody st) (defScope st) .none kV doc pm an cdv ct) ⟨[], ps.zip ws⟩ = pure (ps.zip ws))
    (F : ∀ f fd, Fun K x x st f fd → FnOk P w K mg base CX0 k f fd ps sp) : DfI P w K mg base k x ps sp := by
  obtain ⟨f, a, fa⟩ := T
  obtain ⟨oc, od, kV, doc, pm, an, cdv, ct, osl, l, c, k⟩ := fa
  exact ⟨f, _, F f _ (fun_mk l c k), PySem.W.mg_of X G a, k, ⟨fun s us ws _ hl => by
    cases us with
    | nil => exact .of_eq (hb kV doc pm an cdv ct ws hl)
    | cons u r =>
      have hl : (List.replicate (ps.length + 1) u).length = ps.length := hl
      rw [List.length_replicate] at hl
      omega, fun r1 r2 => vals_onlyK r1 r2⟩⟩
/-- a method -/
def Mt (K : PySem.W.Frag) (C : Addr) (m qual : Str) (st : Stmt) : Prop := ∃ f, PySem.W.findIn K (.ref C) m = some (some (.ref f)) ∧ PySem.W.isFn K (.ref f) = true ∧ Fa K m qual st f
/-- a property -/
def Pp (K : PySem.W.Frag) (C : Addr) (m qual : Str) (st : Stmt) : Prop := ∃ p g rest, PySem.W.findIn K (.ref C) m = some (some (.ref p)) ∧ PySem.W.specialIn K (.ref p) "__get__" = some (some (.builtin "property.__get__")) ∧ PySem.W.takesIn K (.ref p) = some true ∧
  PySem.W.recIn K p "property" = some (.ref g :: rest) ∧ Fa K m qual st g
section
variable {x qual m : Str} {st : Stmt} {f C p g : Addr} {oc kV doc pm cdv ct : Value} {od an : Option Addr} {osl : Array (Option Value)} {rest : List Value}
theorem tp_mk (a : PySem.W.nsIn K mainGlobals x = some (some (.ref f))) (l : K.lookup f = some ⟨oc, od, .func (PySem.W.fnOf x x (defArgs st) (defBody st) (defScope st) .none kV doc pm an cdv ct), osl⟩) (c : PySem.W.codeIn K cdv x = true) (k : PySem.W.keepIn K (.ref f) = true) : Tp K x st :=
  ⟨f, a, oc, od, kV, doc, pm, an, cdv, ct, osl, l, c, k⟩
theorem mt_mk (a : PySem.W.findIn K (.ref C) m = some (some (.ref f))) (i : PySem.W.isFn K (.ref f) = true) (l : K.lookup f = some ⟨oc, od, .func (PySem.W.fnOf m qual (defArgs st) (defBody st) (defScope st) .none kV doc pm an cdv ct), osl⟩) (c : PySem.W.codeIn K cdv qual = true) (k : PySem.W.keepIn K (.ref f) = true) : Mt K C m qual st :=
  ⟨f, a, i, oc, od, kV, doc, pm, an, cdv, ct, osl, l, c, k⟩
theorem pp_mk (a : PySem.W.findIn K (.ref C) m = some (some (.ref p))) (b : PySem.W.specialIn K (.ref p) "__get__" = some (some (.builtin "property.__get__"))) (t : PySem.W.takesIn K (.ref p) = some true) (r : PySem.W.recIn K p "property" = some (.ref g :: rest))
    (l : K.lookup g = some ⟨oc, od, .func (PySem.W.fnOf m qual (defArgs st) (defBody st) (defScope st) .none kV doc pm an cdv ct), osl⟩) (c : PySem.W.codeIn K cdv qual = true) (k : PySem.W.keepIn K (.ref g) = true) : Pp K C m qual st :=
  ⟨p, g, rest, a, b, t, r, oc, od, kV, doc, pm, an, cdv, ct, osl, l, c, k⟩
end
structure NetX (K : PySem.W.Frag) (C : Addr) : Prop where
  pg : PySem.W.plainGet K C Str.empty = true
  hd : PySem.W.hasDictIn K C = true
  po : PySem.W.plainOver K C = true
  sa : PySem.W.findIn K (.ref C) "__setattr__" = some (some (.builtin "object.__setattr__"))
  ha : PySem.W.findIn K (.ref C) "__class__" = some (some (.builtin "object.__class__"))
  hn : PySem.W.specialIn K (.builtin "object.__class__") "__get__" = some (some (.builtin "getset_descriptor.__get__"))
  ht : PySem.W.takesIn K (.builtin "object.__class__") = some true
  hm : PySem.W.mroIn K C (.type "object") = some true
  nE : PySem.W.findIn K (.ref C) "_ends" = some none
  nX : PySem.W.findIn K (.ref C) "_exits" = some none
  nT : PySem.W.findIn K (.ref C) "_targets" = some none
  ne : PySem.W.findIn K (.ref C) "__ne__" = some (some (.builtin "object.__ne__"))
  sub : PySem.W.subIn K (.ref C) (.type "object") = some true
  mkI : PySem.W.makesIn K C = true
  kC : PySem.W.keepIn K (.ref C) = true
  ini : Mt K C "__init__" "Net.__init__" s_Net_init_
  eq : Mt K C "__eq__" "Net.__eq__" s_Net_eq_
  exits : Mt K C "exits" "Net.exits" s_Net_exits
  ends : Pp K C "ends" "Net.ends" s_Net_ends
  points : Pp K C "points" "Net.points" s_Net_points
  many : Pp K C "many" "Net.many" s_Net_many
  targets : Mt K C "targets" "Net.targets" s_Net_targets
  ka : PySem.W.isClsIn K C = true
  kb : PySem.W.typeIn K (.ref C) = some (.type "type")
  kc : PySem.W.subIn K (.type "list") (.ref C) = some false
  nf : PySem.W.notFirst K C (.type "list") = true
theorem kit_no {C : Addr} (a : PySem.W.isClsIn K C = true) (b : PySem.W.typeIn K (.ref C) = some (.type "type")) (c : PySem.W.subIn K (.type "list") (.ref C) = some false) : PySem.W.kitOne K (.type "list") (.ref C) = some false := by
  unfold PySem.W.kitOne PySem.W.kitCls
  have a : (PySem.W.clsIn K C).isSome = true := a
  rw [if_neg (show ¬ (Value.type "list" == Value.ref C) = true from Bool.false_ne_true)]
  show (if ((PySem.W.clsIn K C).isSome && PySem.W.typeIn K (.ref C) == some (.type "type")) = true then PySem.W.subIn K (.type "list") (.ref C) else none) = some false
  rw [a, b, c]
  rfl
structure TopX (K : PySem.W.Frag) : Prop where
  net : ∃ C, PySem.W.nsIn K mainGlobals "Net" = some (some (.ref C)) ∧ NetX K C
  c6 : ∃ t, PySem.W.nsIn K mainGlobals "MOST_ENDS" = some (some (.int 6 t))
  c60 : ∃ t, PySem.W.nsIn K mainGlobals "MOST_TRACKS" = some (some (.int 60 t))
  c24 : ∃ t, PySem.W.nsIn K mainGlobals "MOST_POINTS" = some (some (.int 24 t))
  cx6 : ∃ t, PySem.W.nsIn K mainGlobals "MOST_EXITS" = some (some (.int 6 t))
  bs : ∀ x ∈ (["isinstance", "int", "bool", "list", "tuple", "len", "all", "any", "sum", "sorted", "range", "enumerate", "zip", "abs", "max", "divmod", "repr"] : List Str), PySem.W.nsIn K mainGlobals x = some none
  t1 : Tp K "is_integer" s_is_integer
  t2 : Tp K "is_count" s_is_count
  t3 : Tp K "is_count_below" s_is_count_below
  t4 : Tp K "is_row" s_is_row
  t5 : Tp K "_is_target_of" s_is_target_of
  t6 : Tp K "_is_exit_row" s_is_exit_row
  t7 : Tp K "_are_exits" s_are_exits
  t8 : Tp K "check_net" s_check_net
  t9 : Tp K "is_point" s_is_point
  t10 : Tp K "is_target" s_is_target
  t11 : Tp K "is_setting" s_is_setting
  t12 : Tp K "check_setting" s_check_setting
  t13 : Tp K "last_exits" s_last_exits
  t14 : Tp K "many_settings" s_many_settings
  t15 : Tp K "_points_to" s_points_to
  t16 : Tp K "leads_to" s_leads_to
  tpe : Tp K "points_to_ends" s_points_to_ends
  t17 : Tp K "is_leading" s_is_leading
  t18 : Tp K "check_point" s_check_point
  t19 : Tp K "check_track" s_check_track
  t20 : Tp K "track_at" s_track_at
  t21 : Tp K "point_of" s_point_of
  t22 : Tp K "target_of" s_target_of
  t23 : Tp K "first_setting" s_first_setting
  l1 : Tp K "_law_pot" s_Lpot
  l2 : Tp K "_law_draw" s_Ldraw
  l3 : Tp K "_law_exits" s_Lexits
  l4 : Tp K "_law_setting" s_Lsetting
  l5 : Tp K "_law_leading" s_Lleading
  l6 : Tp K "_law_is_leading" s_Lis_leading
  l8 : Tp K "_law_tracks_right" s_Ltracks_right
  l9 : Tp K "_law_settings_right" s_Lsettings_right
  l10 : Tp K "_law_ways_right" s_Lways_right
  l7 : Tp K "law" s_law
theorem net_mk {C : Addr} (aC : PySem.W.nsIn K mainGlobals "Net" = some (some (.ref C))) (N : NetX K C) : ∃ C, PySem.W.nsIn K mainGlobals "Net" = some (some (.ref C)) ∧ NetX K C := ⟨C, aC, N⟩
theorem con_mk {x : Str} {n : Int} {t : Tok} (a : PySem.W.nsIn K mainGlobals x = some (some (.int n t))) : ∃ t, PySem.W.nsIn K mainGlobals x = some (some (.int n t)) := ⟨t, a⟩
theorem all_mk {h : Heap} {fa : Addr} (X : K.In h) (G : h.Ns mainGlobals mg) (hfa : mg "law" = some (.ref fa)) (T : TopX K) :
    ∃ fd : FuncData, (∀ (s : Shared) (v : Value), BindsTo s fd ⟨[v], []⟩ [("_law_script", v)]) ∧ ∀ base : Heap, K.In base → base.Ns mainGlobals mg → FnOk P w K mg base CX0 12 fa fd ["_law_script"] (spD (cLaw K)) := by
  have z : ∀ x ∈ (["isinstance", "int", "bool", "list", "tuple", "len", "all", "any", "sum", "sorted", "range", "enumerate", "zip", "abs", "max", "divmod", "repr"] : List Str), mg x = none := fun x hx => PySem.W.mg_none_of X G (T.bs x hx)
  have B : Blt mg := ⟨z _ (by simp), z _ (by simp), z _ (by simp), z _ (by simp), z _ (by simp), z _ (by simp), z _ (by simp), z _ (by simp), z _ (by simp), z _ (by simp), z _ (by simp), z _ (by simp), z _ (by simp)⟩
  have B2 : Blt2 mg := ⟨B, z _ (by simp), z _ (by simp), z _ (by simp)⟩
  have B3 : Blt3 mg := ⟨B2, z _ (by simp)⟩
  obtain ⟨C, aC, N⟩ := T.net
  obtain ⟨_, c6⟩ := T.c6
  obtain ⟨_, c60⟩ := T.c60
  obtain ⟨_, c24⟩ := T.c24
  obtain ⟨_, cx6⟩ := T.cx6
  have m6 := PySem.W.mg_of X G c6
  have m60 := PySem.W.mg_of X G c60
  have m24 := PySem.W.mg_of X G c24
  have mx6 := PySem.W.mg_of X G cx6
  have NT : NetT K mg C := ⟨⟨⟨N.pg, N.hd, N.po, N.sa⟩, N.ha, N.hn, N.ht, N.hm, if_pos (beq_self_eq_true _)⟩, N.nE, N.nX, N.nT, PySem.W.mg_of X G aC, kit_no N.ka N.kb N.kc, N.nf⟩
  obtain ⟨fl, al, fal⟩ := T.l7
  have e := hfa.symm.trans (PySem.W.mg_of X G al)
  cases e
  obtain ⟨oc, od, kV, doc, pm, an, cdv, ct, osl, ll, lc, lk⟩ := fal
  refine ⟨PySem.W.fnOf "law" "law" (defArgs s_law) (defBody s_law) (defScope s_law) .none kV doc pm an cdv ct, fun s v => .of_eq rfl, fun base _ _ => ?_⟩
  have d1 : Df P w K mg base 1 "is_integer" ["value"] (spD (c1 isI)) := T.t1.df X G (fun _ _ _ _ _ _ us hl => match us, hl with | [_], _ => rfl) fun f fd F => ok_is_integer B F
  have d2 : Df P w K mg base 2 "is_count" ["value"] (spD (c1 isC)) := T.t2.df X G (fun _ _ _ _ _ _ us hl => match us, hl with | [_], _ => rfl) fun f fd F => ok_is_count d1 F
  have d3 : Df P w K mg base 3 "is_count_below" ["value", "bound"] (spD (c2 isCB)) := T.t3.df X G (fun _ _ _ _ _ _ us hl => match us, hl with | [_, _], _ => rfl) fun f fd F => ok_is_count_below d2 F
  have d4 : Df P w K mg base 1 "is_row" ["value"] (spD (c1 isRow)) := T.t4.df X G (fun _ _ _ _ _ _ us hl => match us, hl with | [_], _ => rfl) fun f fd F => ok_is_row B F
  have d5 : Df P w K mg base 2 "_is_target_of" ["value", "ends", "points"] (spD (c3 isTg)) := T.t5.df X G (fun _ _ _ _ _ _ us hl => match us, hl with | [_, _, _], _ => rfl) fun f fd F => ok_is_target_of d1 F
  have d6 : Df P w K mg base 3 "_is_exit_row" ["value", "ends", "points"] (spD (c3R isXR)) := T.t6.df X G (fun _ _ _ _ _ _ us hl => match us, hl with | [_, _, _], _ => rfl) fun f fd F => ok_is_exit_row B mx6 (Df.mono d4 (by decide)) d5 F
  have d7 : Df P w K mg base 4 "_are_exits" ["value", "ends"] (spD (c2R isXs)) := T.t7.df X G (fun _ _ _ _ _ _ us hl => match us, hl with | [_, _], _ => rfl) fun f fd F => ok_are_exits B m24 (Df.mono d4 (by decide)) d6 F
  have NP : NetP P w K mg base C 5 := by
    obtain ⟨f1, a1, i1, fa1⟩ := N.ini
    obtain ⟨f6, a6, i6, fa6⟩ := N.targets
    obtain ⟨p7, g7, r7, a7, b7, c7, e7, fa7⟩ := N.many
    have k6 : PySem.W.keepIn K (.ref f6) = true := by
      obtain ⟨_, _, _, _, _, _, _, _, _, _, _, k⟩ := fa6
      exact k
    obtain ⟨d6', F6⟩ := fa6.fn
    obtain ⟨d7', F7⟩ := fa7.fn
    obtain ⟨f2, a2, i2, fa2⟩ := N.eq
    obtain ⟨f3, a3, i3, fa3⟩ := N.exits
    obtain ⟨p4, g4, r4, a4, b4, c4, e4, fa4⟩ := N.ends
    obtain ⟨p5, g5, r5, a5, b5, c5, e5, fa5⟩ := N.points
    have k3 : PySem.W.keepIn K (.ref f3) = true := by
      obtain ⟨_, _, _, _, _, _, _, _, _, _, _, k⟩ := fa3
      exact k
    obtain ⟨oc1, od1, kV1, doc1, pm1, an1, cdv1, ct1, osl1, l1, cc1, kk1⟩ := fa1
    have F1 := fun_mk (st := s_Net_init_) l1 cc1 kk1
    obtain ⟨d2, F2⟩ := fa2.fn
    obtain ⟨d3', F3⟩ := fa3.fn
    obtain ⟨d4, F4⟩ := fa4.fn
    obtain ⟨d5, F5⟩ := fa5.fn
    exact ⟨NT, ⟨p4, g4, d4, ⟨a4, b4, c4, _, e4⟩, (ok_ends NT F4 (k := 0)).mono (by decide), F4.binds fun _ _ _ _ _ _ us hl => match us, hl with | [_], _ => rfl⟩,
      ⟨p5, g5, d5, ⟨a5, b5, c5, _, e5⟩, (ok_points B NT F5 (k := 0)).mono (by decide), F5.binds fun _ _ _ _ _ _ us hl => match us, hl with | [_], _ => rfl⟩,
      ⟨p7, g7, d7', ⟨a7, b7, c7, _, e7⟩, (ok_many B NT F7 (k := 0)).mono (by decide), F7.binds fun _ _ _ _ _ _ us hl => match us, hl with | [_], _ => rfl⟩,
      ⟨f6, d6', ⟨a6, i6, k6⟩, (ok_targets B NT F6 (k := 0)).mono (by decide), F6.binds fun _ _ _ _ _ _ us hl => match us, hl with | [_], _ => rfl⟩,
      ⟨f3, d3', ⟨a3, i3, k3⟩, (ok_exits B NT F3 (k := 0)).mono (by decide), F3.binds fun _ _ _ _ _ _ us hl => match us, hl with | [_], _ => rfl⟩,
      ⟨f2, d2, a2, i2, (ok_eq B NT F2 (k := 0)).mono (by decide), F2.binds fun _ _ _ _ _ _ us hl => match us, hl with | [_, _], _ => rfl⟩, N.ne, N.sub,
      ⟨f1, _, ⟨N.mkI, a1, i1, N.kC⟩, ok_init B NT m6 m60 (Df.mono d3 (by decide)) d7 F1, F1.binds fun _ _ _ _ _ _ us hl => match us, hl with | [_, _, _], _ => rfl,
        ⟨fun s us ws _ h1 h2 => by
          rcases us with _ | ⟨a, _ | ⟨b, r⟩⟩ <;> rcases ws with _ | ⟨x, _ | ⟨y, _ | ⟨z, r2⟩⟩⟩ <;> first | exact .of_eq rfl | (simp at h1; done) | (simp at h2; done) | (simp at h1 h2; done), fun r1 r2 => r1.append (vals_sw r2)⟩⟩⟩
  have d8 : Df P w K mg base 1 "check_net" ["net"] (spD (cNet C fun _ _ => .non)) := T.t8.df X G (fun _ _ _ _ _ _ us hl => match us, hl with | [_], _ => rfl) fun f fd F => ok_check_net B NT F
  have d9 : Df P w K mg base 7 "is_point" ["net", "value"] (spD (cNet1 C fun d _ ex => isCB d ex.length)) := T.t9.df X G (fun _ _ _ _ _ _ us hl => match us, hl with | [_, _], _ => rfl) fun f fd F => ok_is_point NP (Nat.le_refl 5) (Df.mono d3 (by decide)) F
  have d10 : Df P w K mg base 7 "is_target" ["net", "value"] (spD (cNet1 C fun d e ex => isTg d e ex.length)) := T.t10.df X G (fun _ _ _ _ _ _ us hl => match us, hl with | [_, _], _ => rfl) fun f fd F => ok_is_target NP (Nat.le_refl 5) (Df.mono d5 (by decide)) F
  have d11 : Df P w K mg base 7 "is_setting" ["net", "value"] (spD (cSet C fun _ _ _ => .bl true)) := T.t11.df X G (fun _ _ _ _ _ _ us hl => match us, hl with | [_, _], _ => rfl) fun f fd F => ok_is_setting B NP (Nat.le_refl 5) (Df.mono d8 (by decide)) (Df.mono d4 (by decide)) (Df.mono d3 (by decide)) F
  have d12 : Df P w K mg base 8 "check_setting" ["net", "setting"] (spD (cSet C fun _ _ _ => .non)) := T.t12.df X G (fun _ _ _ _ _ _ us hl => match us, hl with | [_, _], _ => rfl) fun f fd F => ok_check_setting d11 F
  have d13 : Df P w K mg base 10 "last_exits" ["net", "setting"] (spD (cSet C fun _ ex st => .lst (lI (lasts ex st)))) := T.t13.df X G (fun _ _ _ _ _ _ us hl => match us, hl with | [_, _], _ => rfl) fun f fd F => ok_last_exits B NP (by decide : 5 ≤ 8) (Df.mono d8 (by decide)) d12 F
  have d14 : Df P w K mg base 7 "many_settings" ["net"] (spD (cNet C fun _ ex => .int (prodR ex))) := T.t14.df X G (fun _ _ _ _ _ _ us hl => match us, hl with | [_], _ => rfl) fun f fd F => ok_many_settings B NP (Nat.le_refl 5) (Df.mono d8 (by decide)) F
  have d15 : Df P w K mg base 7 "_points_to" ["net", "goals"] (spD (cPts C)) := T.t15.df X G (fun _ _ _ _ _ _ us hl => match us, hl with | [_, _], _ => rfl) fun f fd F => ok_points_to B NP (Nat.le_refl 5) F
  have d16 : Df P w K mg base 8 "leads_to" ["net", "target"] (spD (cTo C)) := T.t16.df X G (fun _ _ _ _ _ _ us hl => match us, hl with | [_, _], _ => rfl) fun f fd F => ok_leads_to (Df.mono d8 (by decide)) d10 d15 F
  have dpe : Df P w K mg base 8 "points_to_ends" ["net"] (spD (cNet C fun e ex => .lst (lI (ptsTo ex (endsL e))))) := T.tpe.df X G (fun _ _ _ _ _ _ us hl => match us, hl with | [_], _ => rfl) fun f fd F => ok_points_to_ends B NP (by decide : 5 + 1 ≤ 7) d15 F
  have d17 : Df P w K mg base 9 "is_leading" ["net"] (spD (cNet C fun e ex => .bl (decide ((ptsTo ex (endsL e)).length = ex.length)))) := T.t17.df X G (fun _ _ _ _ _ _ us hl => match us, hl with | [_], _ => rfl) fun f fd F => ok_is_leading B NP (by decide : 5 + 1 ≤ 8) (Df.mono d8 (by decide)) dpe F
  have d18 : Df P w K mg base 8 "check_point" ["net", "point"] (spD (cPt C fun _ _ _ => .non)) := T.t18.df X G (fun _ _ _ _ _ _ us hl => match us, hl with | [_, _], _ => rfl) fun f fd F => ok_check_point d9 F
  have d19 : Df P w K mg base 7 "check_track" ["net", "track"] (spD (cTr C fun _ _ _ _ => .non)) := T.t19.df X G (fun _ _ _ _ _ _ us hl => match us, hl with | [_, _], _ => rfl) fun f fd F => ok_check_track NP (Nat.le_refl 5) (Df.mono d3 (by decide)) F
  have d20 : Df P w K mg base 10 "track_at" ["net", "point", "spot"] (spD (cAt C)) := T.t20.df X G (fun _ _ _ _ _ _ us hl => match us, hl with | [_, _, _], _ => rfl) fun f fd F => ok_track_at B NP (by decide : 5 ≤ 8) (Df.mono d8 (by decide)) d18 (Df.mono d3 (by decide)) F
  have d21 : DfI P w K mg base 10 "point_of" ["net", "track"] (spD (cTr C fun _ _ p _ => .int (p : Int))) := T.t21.dfI X G (fun _ _ _ _ _ _ ws hl => match ws, hl with | [_, _], _ => rfl) fun f fd F => (ok_point_of B NP (by decide : 5 ≤ 7) (Df.mono d8 (by decide)) d19 F).mono (by decide)
  have d22 : Df P w K mg base 9 "target_of" ["net", "track"] (spD (cTr C fun _ ex p s => .int ((rowAt ex p).getD s 0))) := T.t22.df X G (fun _ _ _ _ _ _ us hl => match us, hl with | [_, _], _ => rfl) fun f fd F => ok_target_of B NP (by decide : 5 ≤ 7) (Df.mono d8 (by decide)) d19 F
  have d23 : DfI P w K mg base 10 "first_setting" ["net"] (spD (cNet C fun _ ex => .lst (lI (List.replicate ex.length 0)))) := T.t23.dfI X G (fun _ _ _ _ _ _ ws hl => match ws, hl with | [_], _ => rfl) fun f fd F => (ok_first_setting B NP (Nat.le_refl 5) (Df.mono d8 (by decide)) F).mono (by decide)
  have d13I : DfI P w K mg base 10 "last_exits" ["net", "setting"] (spD (cSet C fun _ ex st => .lst (lI (lasts ex st)))) := T.t13.dfI X G (fun _ _ _ _ _ _ ws hl => match ws, hl with | [_, _], _ => rfl) fun f fd F => ok_last_exits B NP (by decide : 5 ≤ 8) (Df.mono d8 (by decide)) d12 F
  have e1 : Df P w K mg base 1 "_law_pot" ["_law_script", "_law_k"] (spF (cPot K)) := T.l1.df X G (fun _ _ _ _ _ _ us hl => match us, hl with | [_, _], _ => rfl) fun f fd F => ok_pot B2 F
  have e2 : Df P w K mg base 1 "_law_draw" ["_law_pot_here", "_law_size"] (spP cDraw) := T.l2.df X G (fun _ _ _ _ _ _ us hl => match us, hl with | [_, _], _ => rfl) fun f fd F => ok_draw B2 F
  have e3 : Df P w K mg base 2 "_law_exits" ["_law_pot_here", "_law_ends", "_law_points", "_law_most"] (spP cExits) := T.l3.df X G (fun _ _ _ _ _ _ us hl => match us, hl with | [_, _, _, _], _ => rfl) fun f fd F => ok_Lexits B2 e2 F
  have e4 : Df P w K mg base 2 "_law_setting" ["_law_pot_here", "_law_exits_here"] (spP cLset) := T.l4.df X G (fun _ _ _ _ _ _ us hl => match us, hl with | [_, _], _ => rfl) fun f fd F => ok_Lsetting B2 e2 F
  have e5 : Df P w K mg base 1 "_law_leading" ["_law_exits_here", "_law_targets"] (spD cLead) := T.l5.df X G (fun _ _ _ _ _ _ us hl => match us, hl with | [_, _], _ => rfl) fun f fd F => ok_Lleading B F
  have e6 : Df P w K mg base 2 "_law_is_leading" ["_law_exits_here", "_law_ends"] (spD cIsLead) := T.l6.df X G (fun _ _ _ _ _ _ us hl => match us, hl with | [_, _], _ => rfl) fun f fd F => ok_Lis_leading B e5 F
  have e8 : Df P w K mg base 11 "_law_tracks_right" ["_law_net", "_law_exits_here"] (spD (cTracks C)) := T.l8.df X G (fun _ _ _ _ _ _ us hl => match us, hl with | [_, _], _ => rfl) fun f fd F => ok_Ltracks B NP (by decide : 5 < 10) d20 d21 (Df.mono d22 (by decide)) F
  have e9 : Df P w K mg base 11 "_law_settings_right" ["_law_pot_here", "_law_net", "_law_exits_here"] (spP (cSets C)) := T.l9.df X G (fun _ _ _ _ _ _ us hl => match us, hl with | [_, _, _], _ => rfl) fun f fd F => ok_Lsettings B2 NP (by decide : 5 < 10) (Df.mono d14 (by decide)) d23 (Df.mono e4 (by decide)) d13 d13I (Df.mono d11 (by decide)) F
  have e10 : Df P w K mg base 10 "_law_ways_right" ["_law_net", "_law_ends", "_law_exits_here"] (spD (cWays C)) := T.l10.df X G (fun _ _ _ _ _ _ us hl => match us, hl with | [_, _, _], _ => rfl) fun f fd F => ok_Lways B3 (Df.mono d16 (by decide)) (Df.mono e5 (by decide)) d17 (Df.mono e6 (by decide)) F
  exact ok_law B3 NP (by decide : 5 < 11) (Df.mono e1 (by decide)) (Df.mono e2 (by decide)) (Df.mono e3 (by decide)) e8 e9 (Df.mono e10 (by decide)) (fun_mk (st := s_law) ll lc lk)
end
theorem walk {l : PySem.W.OpenLaw} {q : Program} {loose : List Str} {XP : (Str → Option Value) → Heap → Prop} {YP : World → Heap → Prop} {d : DefRec} {K : Params → PySem.W.Frag} (hn : l.most = some 63) (hdf : d.params.defaults = [])
    (hY : ∀ (w : World) (h : Heap), YP w h → (K w.params).In h) (hd : d.name = "law") (T : ∀ w : World, TopX (K w.params)) : PySem.W.WalkO q loose XP YP l.row.toRowW d [] (fun f vs => PySem.call f vs) := by
  refine L2.walk_of (n := 63) (k := 12) (x := "_law_script") (CX := fun _ => CX0) (sp := fun w => spD (cLaw (K w.params))) hn (by decide) hdf ⟨rfl, by decide, by decide⟩ hY (fun w mg fa h X G hmg => all_mk X G (by rw [← hd]; exact hmg) (T w)) (fun w H a ns hl _ hS => ?_) (fun _ _ _ _ _ z => z)
  refine ⟨H, [.scr (K w.params) ns], fun d => d = .bl true, Ex.refl H, ⟨.ref a, [], rfl, ⟨a, rfl, hS⟩, rfl⟩, ⟨ns, rfl, by omega, rfl⟩, fun v d G' H' hz _ i => ?_⟩
  subst hz
  exact i
end K12

open PySem PySem.W PyProof.Rows K12
set_option maxHeartbeats 0 in
theorem PySem.Challenge.cw_flippedpoints_k12_whole_nets_looked_at_holds : PySem.Challenge.rw_flippedpoints_k12_whole_nets_looked_at.Holds := by
  w_on; o_law; k_head; (case hw => w_witness2)
  k_fill
  refine K12.walk (l := PySem.Challenge.rw_flippedpoints_k12_whole_nets_looked_at) rfl rfl (fun w h Y => PySem.W.kIn_of Y) rfl fun w => ?T
  case T =>
    refine' { net := ?net, c6 := con_mk ?c6, c60 := con_mk ?c60, c24 := con_mk ?c24, cx6 := con_mk ?cx6, bs := ?bs, t1 := ?t1, t2 := ?t2, t3 := ?t3, t4 := ?t4, t5 := ?t5, t6 := ?t6, t7 := ?t7, t8 := ?t8, t9 := ?t9, t10 := ?t10, t11 := ?t11, t12 := ?t12, t13 := ?t13, t14 := ?t14, t15 := ?t15, t16 := ?t16, tpe := ?tpe, t17 := ?t17, t18 := ?t18, t19 := ?t19, t20 := ?t20, t21 := ?t21, t22 := ?t22, t23 := ?t23, l1 := ?l1, l2 := ?l2, l3 := ?l3, l4 := ?l4, l5 := ?l5, l6 := ?l6, l7 := ?l7, l8 := ?l8, l9 := ?l9, l10 := ?l10 }
    case net =>
      refine' net_mk ?zaC ?zNet
      (case zaC => k_is)
      case zNet =>
        refine' { pg := ?pg, hd := ?hd, po := ?po, sa := ?sa, ha := ?ha, hn := ?hn, ht := ?ht, hm := ?hm, nE := ?nE, nX := ?nX, nT := ?nT, ne := ?ne, sub := ?sub, mkI := ?mkI, kC := ?kC, ini := mt_mk ?i1 ?i2 ?i3 ?i4 ?i5, eq := mt_mk ?q1 ?q2 ?q3 ?q4 ?q5, exits := mt_mk ?x1 ?x2 ?x3 ?x4 ?x5, ends := pp_mk ?e1 ?e2 ?e3 ?e4 ?e5 ?e6 ?e7, points := pp_mk ?p1 ?p2 ?p3 ?p4 ?p5 ?p6 ?p7, many := pp_mk ?m1 ?m2 ?m3 ?m4 ?m5 ?m6 ?m7, targets := mt_mk ?y1 ?y2 ?y3 ?y4 ?y5, ka := ?ka, kb := ?kb, kc := ?kc, nf := ?nf }
        (case pg => k_is)
        (case hd => k_is)
        (case po => k_is)
        (case sa => k_is)
        (case ha => k_is)
        (case hn => k_is)
        (case ht => k_is)
        (case hm => k_is)
        (case nE => k_is)
        (case nX => k_is)
        (case nT => k_is)
        (case ne => k_is)
        (case sub => k_is)
        (case mkI => k_is)
        (case kC => k_is)
        (case i1 => k_is)
        (case i2 => k_is)
        (case i3 => k_is)
        (case i4 => k_is)
        (case i5 => k_is)
        (case q1 => k_is)
        (case q2 => k_is)
        (case q3 => k_is)
        (case q4 => k_is)
        (case q5 => k_is)
        (case x1 => k_is)
        (case x2 => k_is)
        (case x3 => k_is)
        (case x4 => k_is)
        (case x5 => k_is)
        (case e1 => k_is)
        (case e2 => k_is)
        (case e3 => k_is)
        (case e4 => k_is)
        (case e5 => k_is)
        (case e6 => k_is)
        (case e7 => k_is)
        (case p1 => k_is)
        (case p2 => k_is)
        (case p3 => k_is)
        (case p4 => k_is)
        (case p5 => k_is)
        (case p6 => k_is)
        (case p7 => k_is)
        (case m1 => k_is)
        (case m2 => k_is)
        (case m3 => k_is)
        (case m4 => k_is)
        (case m5 => k_is)
        (case m6 => k_is)
        (case m7 => k_is)
        (case y1 => k_is)
        (case y2 => k_is)
        (case y3 => k_is)
        (case y4 => k_is)
        (case y5 => k_is)
        (case ka => k_is)
        (case kb => k_is)
        (case kc => k_is)
        (case nf => k_is)
    (case c6 => k_is)
    (case c60 => k_is)
    (case c24 => k_is)
    (case cx6 => k_is)
    case bs =>
      intro x hx
      rcases List.mem_cons.mp hx with rfl | hx
      · k_is
      rcases List.mem_cons.mp hx with rfl | hx
      · k_is
      rcases List.mem_cons.mp hx with rfl | hx
      · k_is
      rcases List.mem_cons.mp hx with rfl | hx
      · k_is
      rcases List.mem_cons.mp hx with rfl | hx
      · k_is
      rcases List.mem_cons.mp hx with rfl | hx
      · k_is
      rcases List.mem_cons.mp hx with rfl | hx
      · k_is
      rcases List.mem_cons.mp hx with rfl | hx
      · k_is
      rcases List.mem_cons.mp hx with rfl | hx
      · k_is
      rcases List.mem_cons.mp hx with rfl | hx
      · k_is
      rcases List.mem_cons.mp hx with rfl | hx
      · k_is
      rcases List.mem_cons.mp hx with rfl | hx
      · k_is
      rcases List.mem_cons.mp hx with rfl | hx
      · k_is
      rcases List.mem_cons.mp hx with rfl | hx
      · k_is
      rcases List.mem_cons.mp hx with rfl | hx
      · k_is
      rcases List.mem_cons.mp hx with rfl | hx
      · k_is
      rcases List.mem_cons.mp hx with rfl | hx
      · k_is
      cases hx
    case t1 =>
      refine' tp_mk ?a ?l ?c ?k
      (case a => k_is)
      (case l => k_is)
      (case c => k_is)
      (case k => k_is)
    case t2 =>
      refine' tp_mk ?a ?l ?c ?k
      (case a => k_is)
      (case l => k_is)
      (case c => k_is)
      (case k => k_is)
    case t3 =>
      refine' tp_mk ?a ?l ?c ?k
      (case a => k_is)
      (case l => k_is)
      (case c => k_is)
      (case k => k_is)
    case t4 =>
      refine' tp_mk ?a ?l ?c ?k
      (case a => k_is)
      (case l => k_is)
      (case c => k_is)
      (case k => k_is)
    case t5 =>
      refine' tp_mk ?a ?l ?c ?k
      (case a => k_is)
      (case l => k_is)
      (case c => k_is)
      (case k => k_is)
    case t6 =>
      refine' tp_mk ?a ?l ?c ?k
      (case a => k_is)
      (case l => k_is)
      (case c => k_is)
      (case k => k_is)
    case t7 =>
      refine' tp_mk ?a ?l ?c ?k
      (case a => k_is)
      (case l => k_is)
      (case c => k_is)
      (case k => k_is)
    case t8 =>
      refine' tp_mk ?a ?l ?c ?k
      (case a => k_is)
      (case l => k_is)
      (case c => k_is)
      (case k => k_is)
    case t9 =>
      refine' tp_mk ?a ?l ?c ?k
      (case a => k_is)
      (case l => k_is)
      (case c => k_is)
      (case k => k_is)
    case t10 =>
      refine' tp_mk ?a ?l ?c ?k
      (case a => k_is)
      (case l => k_is)
      (case c => k_is)
      (case k => k_is)
    case t11 =>
      refine' tp_mk ?a ?l ?c ?k
      (case a => k_is)
      (case l => k_is)
      (case c => k_is)
      (case k => k_is)
    case t12 =>
      refine' tp_mk ?a ?l ?c ?k
      (case a => k_is)
      (case l => k_is)
      (case c => k_is)
      (case k => k_is)
    case t13 =>
      refine' tp_mk ?a ?l ?c ?k
      (case a => k_is)
      (case l => k_is)
      (case c => k_is)
      (case k => k_is)
    case t14 =>
      refine' tp_mk ?a ?l ?c ?k
      (case a => k_is)
      (case l => k_is)
      (case c => k_is)
      (case k => k_is)
    case t15 =>
      refine' tp_mk ?a ?l ?c ?k
      (case a => k_is)
      (case l => k_is)
      (case c => k_is)
      (case k => k_is)
    case t16 =>
      refine' tp_mk ?a ?l ?c ?k
      (case a => k_is)
      (case l => k_is)
      (case c => k_is)
      (case k => k_is)
    case tpe =>
      refine' tp_mk ?a ?l ?c ?k
      (case a => k_is)
      (case l => k_is)
      (case c => k_is)
      (case k => k_is)
    case t17 =>
      refine' tp_mk ?a ?l ?c ?k
      (case a => k_is)
      (case l => k_is)
      (case c => k_is)
      (case k => k_is)
    case t18 =>
      refine' tp_mk ?a ?l ?c ?k
      (case a => k_is)
      (case l => k_is)
      (case c => k_is)
      (case k => k_is)
    case t19 =>
      refine' tp_mk ?a ?l ?c ?k
      (case a => k_is)
      (case l => k_is)
      (case c => k_is)
      (case k => k_is)
    case t20 =>
      refine' tp_mk ?a ?l ?c ?k
      (case a => k_is)
      (case l => k_is)
      (case c => k_is)
      (case k => k_is)
    case t21 =>
      refine' tp_mk ?a ?l ?c ?k
      (case a => k_is)
      (case l => k_is)
      (case c => k_is)
      (case k => k_is)
    case t22 =>
      refine' tp_mk ?a ?l ?c ?k
      (case a => k_is)
      (case l => k_is)
      (case c => k_is)
      (case k => k_is)
    case t23 =>
      refine' tp_mk ?a ?l ?c ?k
      (case a => k_is)
      (case l => k_is)
      (case c => k_is)
      (case k => k_is)
    case l1 =>
      refine' tp_mk ?a ?l ?c ?k
      (case a => k_is)
      (case l => k_is)
      (case c => k_is)
      (case k => k_is)
    case l2 =>
      refine' tp_mk ?a ?l ?c ?k
      (case a => k_is)
      (case l => k_is)
      (case c => k_is)
      (case k => k_is)
    case l3 =>
      refine' tp_mk ?a ?l ?c ?k
      (case a => k_is)
      (case l => k_is)
      (case c => k_is)
      (case k => k_is)
    case l4 =>
      refine' tp_mk ?a ?l ?c ?k
      (case a => k_is)
      (case l => k_is)
      (case c => k_is)
      (case k => k_is)
    case l5 =>
      refine' tp_mk ?a ?l ?c ?k
      (case a => k_is)
      (case l => k_is)
      (case c => k_is)
      (case k => k_is)
    case l6 =>
      refine' tp_mk ?a ?l ?c ?k
      (case a => k_is)
      (case l => k_is)
      (case c => k_is)
      (case k => k_is)
    case l7 =>
      refine' tp_mk ?a ?l ?c ?k
      (case a => k_is)
      (case l => k_is)
      (case c => k_is)
      (case k => k_is)
    case l8 =>
      refine' tp_mk ?a ?l ?c ?k
      (case a => k_is)
      (case l => k_is)
      (case c => k_is)
      (case k => k_is)
    case l9 =>
      refine' tp_mk ?a ?l ?c ?k
      (case a => k_is)
      (case l => k_is)
      (case c => k_is)
      (case k => k_is)
    case l10 =>
      refine' tp_mk ?a ?l ?c ?k
      (case a => k_is)
      (case l => k_is)
      (case c => k_is)
      (case k => k_is)

