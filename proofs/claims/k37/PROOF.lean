import PyProof.Rows.All
import Wide.All
import OpenK.AllK
import Wide.FinOn
import HandS.ForMost
import HandS.Evl
import HandS.IsInst
import HandS.Walk
import HandS.Property
import HandS.MakeKwOnly
import HandS.SortInts
import HandS.DictComp
import HandS.OwnEq
import PyProof.InstNe
import HandS.Conv
import HandS.Zip
import KE.GoesEnum
import KE.GoesZip
import KE.OsSort
import HandS.Style
import HandS.Deep
import HandS.RaiseMore
import HandS.TupAny
import PySem.Challenge.RW_flippedpoints_k37_whole_flows_reduced_an
set_option Elab.async false
set_option linter.all false
set_option maxRecDepth 100000
set_option maxHeartbeats 4000000
/-! Data: what a Python value is worth, without addresses; readings over data alone -/
namespace DD
open PySem PySem.Spec PyProof.Rows L2

inductive D where
  | non | bl (b : Bool) | int (i : Int) | str (s : Str) | ty (n : String)
  | lst (xs : List D) | tup (xs : List D)
  | obj (C : Addr) (fs : List (Str × D))
  | dic (kvs : List (Key × D))
  | scr (K : PySem.W.Frag) (ns : List Int)

def Ex (H H' : Hp) : Prop := ∀ a o, H a = some o → H' a = some o
theorem Ex.refl (H : Hp) : Ex H H := fun _ _ h => h
theorem Ex.trans {H H1 H2 : Hp} (a : Ex H H1) (b : Ex H1 H2) : Ex H H2 := fun x o h => b x o (a x o h)
theorem Ex.new {H : Hp} {p : Addr} {o : HO} (h : H p = none) : Ex H (upd H p o) := fun a u e => by
  rw [upd_ne (ne_of_none e h)]
  exact e

mutual
def Is (H : Hp) : D → V → Prop
  | .non, v => v = .non
  | .bl b, v => v = .bl b
  | .int i, v => v = .int i
  | .str s, v => v = .str s
  | .ty n, v => v = .ty n
  | .lst ds, v => ∃ a xs, v = .ref a ∧ H a = some (.lst xs) ∧ IsA H ds xs
  | .tup ds, v => ∃ a xs, v = .ref a ∧ H a = some (.tup xs) ∧ IsA H ds xs
  | .obj C fs, v => ∃ a dx gs, v = .ref a ∧ H a = some (.ins C dx gs) ∧ IsF H fs gs
  | .dic kvs, v => ∃ a ks, v = .ref a ∧ H a = some (.dK ks) ∧ IsK H kvs ks
  | .scr K ns, v => ∃ a, v = .ref a ∧ SqL K H a (ns.map V.int)
def IsA (H : Hp) : List D → List V → Prop
  | [], xs => xs = []
  | d :: ds, xs => ∃ x r, xs = x :: r ∧ Is H d x ∧ IsA H ds r
def IsF (H : Hp) : List (Str × D) → List (Str × V) → Prop
  | [], xs => xs = []
  | (k, d) :: ds, xs => ∃ x r, xs = (k, x) :: r ∧ Is H d x ∧ IsF H ds r
def IsK (H : Hp) : List (Key × D) → List (Key × V) → Prop
  | [], xs => xs = []
  | (k, d) :: ds, xs => ∃ x r, xs = (k, x) :: r ∧ Is H d x ∧ IsK H ds r
end

theorem Ex.seq {K : PySem.W.Frag} {H H' : Hp} (e : Ex H H') {a : Addr} {xs : List V} (h : SqL K H a xs) : SqL K H' a xs := by
  rcases h with (h | ⟨o, h⟩) | h
  · exact .inl (.inl (e _ _ h))
  · exact .inl (.inr ⟨o, e _ _ h⟩)
  · exact .inr h
mutual
theorem Is.mono {H H' : Hp} (e : Ex H H') : ∀ (d : D) (v : V), Is H d v → Is H' d v
  | .non, _, h => h
  | .bl _, _, h => h
  | .int _, _, h => h
  | .str _, _, h => h
  | .ty _, _, h => h
  | .lst ds, _, ⟨a, xs, e1, e2, e3⟩ => ⟨a, xs, e1, e _ _ e2, IsA.mono e ds xs e3⟩
  | .tup ds, _, ⟨a, xs, e1, e2, e3⟩ => ⟨a, xs, e1, e _ _ e2, IsA.mono e ds xs e3⟩
  | .obj C fs, _, ⟨a, dx, gs, e1, e2, e3⟩ => ⟨a, dx, gs, e1, e _ _ e2, IsF.mono e fs gs e3⟩
  | .dic kvs, _, ⟨a, ks, e1, e2, e3⟩ => ⟨a, ks, e1, e _ _ e2, IsK.mono e kvs ks e3⟩
  | .scr K ns, _, ⟨a, e1, e2⟩ => ⟨a, e1, e.seq e2⟩
theorem IsA.mono {H H' : Hp} (e : Ex H H') : ∀ (ds : List D) (xs : List V), IsA H ds xs → IsA H' ds xs
  | [], _, h => h
  | d :: ds, _, ⟨x, r, e1, e2, e3⟩ => ⟨x, r, e1, Is.mono e d x e2, IsA.mono e ds r e3⟩
theorem IsF.mono {H H' : Hp} (e : Ex H H') : ∀ (ds : List (Str × D)) (xs : List (Str × V)), IsF H ds xs → IsF H' ds xs
  | [], _, h => h
  | (k, d) :: ds, _, ⟨x, r, e1, e2, e3⟩ => ⟨x, r, e1, Is.mono e d x e2, IsF.mono e ds r e3⟩
theorem IsK.mono {H H' : Hp} (e : Ex H H') : ∀ (ds : List (Key × D)) (xs : List (Key × V)), IsK H ds xs → IsK H' ds xs
  | [], _, h => h
  | (k, d) :: ds, _, ⟨x, r, e1, e2, e3⟩ => ⟨x, r, e1, Is.mono e d x e2, IsK.mono e ds r e3⟩
end

theorem IsA.length {H : Hp} : ∀ {ds : List D} {xs : List V}, IsA H ds xs → xs.length = ds.length
  | [], _, h => by cases h; rfl
  | d :: ds, _, ⟨x, r, e1, e2, e3⟩ => by subst e1; simp [IsA.length e3]
theorem IsA.get {H : Hp} : ∀ {ds : List D} {xs : List V} {i : Nat} {d : D}, IsA H ds xs → ds[i]? = some d → ∃ x, xs[i]? = some x ∧ Is H d x
  | [], _, _, _, _, h => by simp at h
  | d :: ds, _, 0, _, ⟨x, r, e1, e2, e3⟩, h => by subst e1; simp at h; subst h; exact ⟨x, rfl, e2⟩
  | d :: ds, _, i + 1, _, ⟨x, r, e1, e2, e3⟩, h => by subst e1; simp at h ⊢; exact IsA.get e3 h
theorem IsA.at {H : Hp} : ∀ {ds : List D} {xs : List V} {i : Nat} {x : V}, IsA H ds xs → xs[i]? = some x → ∃ d, ds[i]? = some d ∧ Is H d x
  | [], _, _, _, h, h2 => by cases h; simp at h2
  | d :: ds, _, 0, _, ⟨x, r, e1, e2, e3⟩, h => by subst e1; simp at h; subst h; exact ⟨d, rfl, e2⟩
  | d :: ds, _, i + 1, _, ⟨x, r, e1, e2, e3⟩, h => by subst e1; simp at h ⊢; exact IsA.at e3 h
theorem IsA.append {H : Hp} : ∀ {ds es : List D} {xs ys : List V}, IsA H ds xs → IsA H es ys → IsA H (ds ++ es) (xs ++ ys)
  | [], _, _, _, h, h2 => by cases h; exact h2
  | d :: ds, _, _, _, ⟨x, r, e1, e2, e3⟩, h2 => by subst e1; exact ⟨x, _, rfl, e2, IsA.append e3 h2⟩
theorem IsA.one {H : Hp} {d : D} {v : V} (h : Is H d v) : IsA H [d] [v] := ⟨v, [], rfl, h, rfl⟩
theorem IsA.set {H : Hp} : ∀ {ds : List D} {xs : List V} {i : Nat} {d : D} {x : V}, IsA H ds xs → Is H d x → IsA H (ds.set i d) (xs.set i x)
  | [], _, _, _, _, h, h2 => by cases h; exact rfl
  | d :: ds, _, 0, _, _, ⟨x, r, e1, e2, e3⟩, h => by subst e1; exact ⟨_, _, rfl, h, e3⟩
  | d :: ds, _, i + 1, _, _, ⟨x, r, e1, e2, e3⟩, h => by subst e1; exact ⟨_, _, rfl, e2, IsA.set e3 h⟩
theorem IsA.take {H : Hp} : ∀ {ds : List D} {xs : List V} (n : Nat), IsA H ds xs → IsA H (ds.take n) (xs.take n)
  | [], _, n, h => by cases h; cases n <;> exact rfl
  | d :: ds, _, 0, _ => rfl
  | d :: ds, _, n + 1, ⟨x, r, e1, e2, e3⟩ => by subst e1; exact ⟨_, _, rfl, e2, IsA.take n e3⟩
theorem IsA.drop {H : Hp} : ∀ {ds : List D} {xs : List V} (n : Nat), IsA H ds xs → IsA H (ds.drop n) (xs.drop n)
  | [], _, n, h => by cases h; cases n <;> exact rfl
  | d :: ds, _, 0, h => h
  | d :: ds, _, n + 1, ⟨x, r, e1, e2, e3⟩ => by subst e1; exact IsA.drop n e3
theorem IsA.ints {H : Hp} : ∀ {ns : List Int} {xs : List V}, IsA H (ns.map D.int) xs → xs = ns.map V.int
  | [], _, h => h
  | n :: ns, _, ⟨x, r, e1, e2, e3⟩ => by subst e1; rw [show x = .int n from e2, IsA.ints e3]; rfl
theorem IsA.bls {H : Hp} : ∀ {ns : List Bool} {xs : List V}, IsA H (ns.map D.bl) xs → xs = ns.map V.bl
  | [], _, h => h
  | n :: ns, _, ⟨x, r, e1, e2, e3⟩ => by subst e1; rw [show x = .bl n from e2, IsA.bls e3]; rfl
theorem IsA.of_ints {H : Hp} : ∀ {ns : List Int}, IsA H (ns.map D.int) (ns.map V.int)
  | [] => rfl
  | n :: ns => ⟨_, _, rfl, rfl, IsA.of_ints⟩

/-- flat data -/
def sc : D → Option V
  | .non => some .non
  | .bl b => some (.bl b)
  | .int i => some (.int i)
  | .str s => some (.str s)
  | .ty n => some (.ty n)
  | _ => none
theorem Is.sc {H : Hp} : ∀ {d : D} {v u : V}, DD.sc d = some u → Is H d v → v = u
  | .non, _, _, h, e => by cases h; exact e
  | .bl _, _, _, h, e => by cases h; exact e
  | .int _, _, _, h, e => by cases h; exact e
  | .str _, _, _, h, e => by cases h; exact e
  | .ty _, _, _, h, e => by cases h; exact e
theorem Is.of_sc {H : Hp} : ∀ {d : D} {u : V}, DD.sc d = some u → Is H d u
  | .non, _, h => by cases h; exact rfl
  | .bl _, _, h => by cases h; exact rfl
  | .int _, _, h => by cases h; exact rfl
  | .str _, _, h => by cases h; exact rfl
  | .ty _, _, h => by cases h; exact rfl

/-! ### slots -/
inductive Own where
  | lst (ds : List D)
  | dic (kvs : List (Key × D))
  | ins (C : Addr) (fs : List (Str × D))
  | pot
inductive Slot where
  | un
  | val (d : D)
  | own (loc : Bool) (o : Own)
abbrev Rho := List Slot
def Slot.isOwn : Slot → Bool
  | .own _ _ => true
  | _ => false
structure Base where
  H : Hp
  G : Hp
  W : List Addr
  X : Addr := 0
/-- two numbers to draw from -/
def PotAt (H : Hp) (l : Addr) : Prop := ∃ a b : Int, H l = some (.lst [.int a, .int b]) ∧ 0 ≤ a ∧ 0 ≤ b ∧ b < 4294967296
def OwnOk (B : Base) (G H : Hp) (l : Addr) : Own → Prop
  | .pot => PotAt H l
  | .lst ds => ∃ xs, H l = some (.lst xs) ∧ IsA G ds xs
  | .dic kvs => ∃ ks, H l = some (.dK ks) ∧ IsK G kvs ks
  | .ins C fs => l = B.X ∧ ∃ dx gs, H l = some (.ins C dx gs) ∧ IsF G fs gs
def SlotOk (B : Base) (G H : Hp) (s : Slot) (v : Option V) : Prop :=
  match s with
  | .un => True
  | .val d => ∃ x, v = some x ∧ Is G d x
  | .own loc o => ∃ l, v = some (.ref l) ∧ G l = none ∧ (if loc = true then B.H l = none else l ∈ B.W) ∧ OwnOk B G H l o
/-- the state: the slots' data, the ghost G of what stands still -/
structure Sta (B : Base) (σ : L2.St) (ρ : Rho) (G H : Hp) : Prop where
  len : σ.length = ρ.length
  ex : Ex G H
  fr : ∀ a o, B.H a = some o → a ∉ B.W → H a = some o
  kn : ∀ a, H a = none → B.H a = none
  nw : ∀ a o, G a = some o → B.G a = some o ∨ B.H a = none
  bg : Ex B.G G
  bx : Ex B.G B.H
  pot : ∀ l ∈ B.W, PotAt H l ∧ ∃ u, B.H l = some u
  env : ∀ (i : Nat) (s : Slot) (v : Option V), ρ[i]? = some s → σ[i]? = some v → SlotOk B G H s v
  dist : ∀ (i j : Nat) (l1 l2 : Bool) (o1 o2 : Own), i ≠ j → ρ[i]? = some (.own l1 o1) → ρ[j]? = some (.own l2 o2) → σ[i]? ≠ σ[j]?

theorem OwnOk.known {B : Base} {G H : Hp} {l : Addr} : ∀ {o : Own}, OwnOk B G H l o → ∃ u, H l = some u
  | .pot, ⟨_, _, e, _⟩ => ⟨_, e⟩
  | .lst _, ⟨_, e, _⟩ => ⟨_, e⟩
  | .dic _, ⟨_, e, _⟩ => ⟨_, e⟩
  | .ins _ _, ⟨_, _, _, e, _⟩ => ⟨_, e⟩
theorem OwnOk.mono {B : Base} {G H G' H' : Hp} {l : Addr} (e : Ex G G') (k : ∀ o, H l = some o → H' l = some o) : ∀ {o : Own}, OwnOk B G H l o → OwnOk B G' H' l o
  | .pot, ⟨_, _, e, r⟩ => ⟨_, _, k _ e, r⟩
  | .lst _, ⟨_, e1, e2⟩ => ⟨_, k _ e1, IsA.mono e _ _ e2⟩
  | .dic _, ⟨_, e1, e2⟩ => ⟨_, k _ e1, IsK.mono e _ _ e2⟩
  | .ins _ _, ⟨z, _, _, e1, e2⟩ => ⟨z, _, _, k _ e1, IsF.mono e _ _ e2⟩

/-- the slots of an own thing aren't in the ghost -/
theorem Sta.ownAt {B : Base} {σ : L2.St} {ρ : Rho} {G H : Hp} (S : Sta B σ ρ G H) {i : Nat} {loc : Bool} {o : Own} (h : ρ[i]? = some (.own loc o)) :
    ∃ l, σ[i]? = some (some (.ref l)) ∧ G l = none ∧ (if loc = true then B.H l = none else l ∈ B.W) ∧ OwnOk B G H l o := by
  have hi : i < ρ.length := (List.getElem?_eq_some_iff.mp h).1
  have hs : i < σ.length := S.len ▸ hi
  have e : σ[i]? = some (σ[i]'hs) := List.getElem?_eq_getElem hs
  obtain ⟨l, e1, e2⟩ := S.env i _ _ h e
  exact ⟨l, by rw [e, e1], e2⟩
theorem Sta.valAt {B : Base} {σ : L2.St} {ρ : Rho} {G H : Hp} (S : Sta B σ ρ G H) {i : Nat} {d : D} (h : ρ[i]? = some (.val d)) : ∃ x, σ[i]? = some (some x) ∧ Is G d x := by
  have hi : i < ρ.length := (List.getElem?_eq_some_iff.mp h).1
  have hs : i < σ.length := S.len ▸ hi
  have e : σ[i]? = some (σ[i]'hs) := List.getElem?_eq_getElem hs
  obtain ⟨x, e1, e2⟩ := S.env i _ _ h e
  exact ⟨x, by rw [e, e1], e2⟩

/-- the heap grows by new objects, the ghost by some of them -/
structure Grow (G H G' H' : Hp) : Prop where
  g : Ex G G'
  h : Ex H H'
  x : Ex G' H'
  n : ∀ a o, G' a = some o → G a = some o ∨ H a = none
theorem Grow.refl {G H : Hp} (x : Ex G H) : Grow G H G H := ⟨Ex.refl _, Ex.refl _, x, fun _ _ h => .inl h⟩
theorem Grow.trans {G H G1 H1 G2 H2 : Hp} (a : Grow G H G1 H1) (b : Grow G1 H1 G2 H2) : Grow G H G2 H2 :=
  ⟨a.g.trans b.g, a.h.trans b.h, b.x, fun c o e => by
    rcases b.n c o e with q | q
    · exact a.n c o q
    · right
      cases r : H c with
      | none => rfl
      | some u => rw [a.h c u r] at q; cases q⟩
/-- a new object, put into the ghost too -/
theorem Grow.new {G H : Hp} {p : Addr} {o : HO} (x : Ex G H) (hp : H p = none) : Grow G H (upd G p o) (upd H p o) := by
  have gp : G p = none := by
    cases r : G p with
    | none => rfl
    | some u => rw [x p u r] at hp; cases hp
  refine ⟨Ex.new gp, Ex.new hp, fun a u e => ?_, fun a u e => ?_⟩
  · by_cases q : a = p
    · subst q; rw [upd_same] at e ⊢; exact e
    · rw [upd_ne q] at e ⊢; exact x a u e
  · by_cases q : a = p
    · subst q; exact .inr hp
    · rw [upd_ne q] at e; exact .inl e
/-- a new object, not in the ghost -/
theorem Grow.own {G H : Hp} {p : Addr} {o : HO} (x : Ex G H) (hp : H p = none) : Grow G H G (upd H p o) :=
  ⟨Ex.refl _, Ex.new hp, x.trans (Ex.new hp), fun a u e => .inl e⟩
theorem Sta.grow {B : Base} {σ : L2.St} {ρ : Rho} {G H G' H' : Hp} (S : Sta B σ ρ G H) (g : Grow G H G' H') : Sta B σ ρ G' H' := by
  refine ⟨S.len, g.x, fun a o e n => g.h a o (S.fr a o e n), fun a e => S.kn a ?_, fun a o e => ?_, S.bg.trans g.g, S.bx, fun l hl => ?_, fun i s v h1 h2 => ?_, S.dist⟩
  · cases r : H a with
    | none => rfl
    | some u => rw [g.h a u r] at e; cases e
  · rcases g.n a o e with q | q
    · exact S.nw a o q
    · exact .inr (S.kn a q)
  · obtain ⟨⟨a, b, e, r⟩, z⟩ := S.pot l hl
    exact ⟨⟨a, b, g.h _ _ e, r⟩, z⟩
  · have k := S.env i s v h1 h2
    cases s with
    | un => trivial
    | val d =>
      obtain ⟨x, e1, e2⟩ := k
      exact ⟨x, e1, Is.mono g.g _ _ e2⟩
    | own loc o =>
      obtain ⟨l, e1, e2, e3, e4⟩ := k
      refine ⟨l, e1, ?_, e3, e4.mono g.g fun o q => g.h l o q⟩
      cases r : G' l with
      | none => rfl
      | some u =>
        rcases g.n l u r with q | q
        · rw [e2] at q; cases q
        · obtain ⟨w, hw⟩ := e4.known
          rw [hw] at q; cases q
/-- what a body leaves: seen from its entry -/
structure Fin (B : Base) (G H : Hp) : Prop where
  ex : Ex G H
  fr : ∀ a o, B.H a = some o → a ∉ B.W → H a = some o
  nw : ∀ a o, G a = some o → B.G a = some o ∨ B.H a = none
  bg : Ex B.G G
  pot : ∀ l ∈ B.W, PotAt H l
theorem Sta.fin {B : Base} {σ : L2.St} {ρ : Rho} {G H : Hp} (S : Sta B σ ρ G H) : Fin B G H := ⟨S.ex, S.fr, S.nw, S.bg, fun l hl => (S.pot l hl).1⟩
/-- the heap behind a call that draws from the pot at l -/
structure GrowP (l : Addr) (G H G' H' : Hp) : Prop where
  g : Ex G G'
  h : ∀ a o, H a = some o → a ≠ l → H' a = some o
  x : Ex G' H'
  n : ∀ a o, G' a = some o → G a = some o ∨ H a = none
  p : PotAt H' l
theorem Sta.growP {B : Base} {σ : L2.St} {ρ : Rho} {G H G' H' : Hp} {l : Addr} (S : Sta B σ ρ G H) (g : GrowP l G H G' H') {i : Nat} {loc : Bool} (hi : ρ[i]? = some (.own loc .pot)) (hl : σ[i]? = some (some (.ref l))) : Sta B σ ρ G' H' := by
  obtain ⟨l', e1, gl, ll, pl⟩ := S.ownAt hi
  have el : l' = l := by rw [hl] at e1; cases e1; rfl
  subst el
  have hw : loc = true ∧ B.H l' = none ∨ l' ∈ B.W := by
    cases loc with
    | true => exact .inl ⟨rfl, ll⟩
    | false => exact .inr ll
  refine ⟨S.len, g.x, fun a o e n => g.h a o (S.fr a o e n) ?_, fun a e => S.kn a ?_, fun a o e => ?_, S.bg.trans g.g, S.bx, fun m hm => ?_, fun j s v h1 h2 => ?_, S.dist⟩
  · rintro rfl
    rcases hw with ⟨_, z⟩ | z
    · rw [z] at e; cases e
    · exact n z
  · cases r : H a with
    | none => rfl
    | some u =>
      by_cases q : a = l'
      · subst q
        obtain ⟨x, y, z, _⟩ := g.p
        rw [z] at e; cases e
      · rw [g.h a u r q] at e; cases e
  · rcases g.n a o e with q | q
    · exact S.nw a o q
    · exact .inr (S.kn a q)
  · refine ⟨?_, (S.pot m hm).2⟩
    by_cases q : m = l'
    · subst q; exact g.p
    · obtain ⟨⟨a, b, e, r⟩, _⟩ := S.pot m hm
      exact ⟨a, b, g.h _ _ e q, r⟩
  · have k := S.env j s v h1 h2
    cases s with
    | un => trivial
    | val d =>
      obtain ⟨x, e1, e2⟩ := k
      exact ⟨x, e1, Is.mono g.g _ _ e2⟩
    | own lc o =>
      obtain ⟨m, f1, f2, f3, f4⟩ := k
      refine ⟨m, f1, ?_, f3, ?_⟩
      · cases r : G' m with
        | none => rfl
        | some u =>
          rcases g.n m u r with q | q
          · rw [f2] at q; cases q
          · obtain ⟨w, hw⟩ := f4.known
            rw [hw] at q; cases q
      · by_cases q : m = l'
        · have ji : j = i := by
            by_cases z : j = i
            · exact z
            · exact absurd (by rw [h2, f1, hl, q]) (S.dist j i _ _ _ _ z h1 hi)
          subst ji
          rw [hi] at h1
          cases h1
          rw [q]; exact g.p
        · exact f4.mono g.g fun o z => g.h m o z q
/-- a slot gets a value -/
theorem Sta.set {B : Base} {σ : L2.St} {ρ : Rho} {G H : Hp} (S : Sta B σ ρ G H) {i : Nat} {d : D} {v : V} (h : Is G d v) : Sta B (σ.set i (some v)) (ρ.set i (.val d)) G H := by
  refine ⟨by rw [List.length_set, List.length_set]; exact S.len, S.ex, S.fr, S.kn, S.nw, S.bg, S.bx, S.pot, fun j s w h1 h2 => ?_, fun j k l1 l2 o1 o2 jk h1 h2 => ?_⟩
  · by_cases q : i = j
    · subst q
      rw [List.getElem?_set] at h1 h2
      simp only [if_true] at h1 h2
      split at h1
      · cases h1
        split at h2
        · cases h2; exact ⟨v, rfl, h⟩
        · cases h2
      · cases h1
    · rw [List.getElem?_set_ne q] at h1 h2
      exact S.env j s w h1 h2
  · have nj : i ≠ j := fun q => by
      subst q
      rw [List.getElem?_set] at h1
      simp only [if_true] at h1
      split at h1 <;> cases h1
    have nk : i ≠ k := fun q => by
      subst q
      rw [List.getElem?_set] at h2
      simp only [if_true] at h2
      split at h2 <;> cases h2
    rw [List.getElem?_set_ne nj] at h1
    rw [List.getElem?_set_ne nk] at h2
    rw [List.getElem?_set_ne nj, List.getElem?_set_ne nk]
    exact S.dist j k l1 l2 o1 o2 jk h1 h2
/-- a slot gets an own thing that is new -/
theorem Sta.setOwn {B : Base} {σ : L2.St} {ρ : Rho} {G H : Hp} (S : Sta B σ ρ G H) {i : Nat} {l : Addr} {o : Own} (gl : G l = none) (bl : B.H l = none) (ho : OwnOk B G H l o)
    (nw : ∀ (j : Nat) (lc : Bool) (u : Own), ρ[j]? = some (.own lc u) → σ[j]? ≠ some (some (.ref l))) : Sta B (σ.set i (some (.ref l))) (ρ.set i (.own true o)) G H := by
  refine ⟨by rw [List.length_set, List.length_set]; exact S.len, S.ex, S.fr, S.kn, S.nw, S.bg, S.bx, S.pot, fun j s w h1 h2 => ?_, fun j k l1 l2 o1 o2 jk h1 h2 => ?_⟩
  · by_cases q : i = j
    · subst q
      rw [List.getElem?_set] at h1 h2
      simp only [if_true] at h1 h2
      split at h1
      · cases h1
        split at h2
        · cases h2; exact ⟨l, rfl, gl, bl, ho⟩
        · cases h2
      · cases h1
    · rw [List.getElem?_set_ne q] at h1 h2
      exact S.env j s w h1 h2
  · by_cases qj : i = j
    · have qk : i ≠ k := fun q => jk (qj.symm.trans q)
      subst qj
      rw [List.getElem?_set_ne qk] at h2
      rw [List.getElem?_set_ne qk]
      have hi : i < σ.length := by
        rw [S.len]
        rw [List.getElem?_set] at h1
        simp only [if_true] at h1
        split at h1
        · assumption
        · cases h1
      rw [List.getElem?_set_self hi]
      exact fun z => nw k l2 o2 h2 z.symm
    · by_cases qk : i = k
      · subst qk
        rw [List.getElem?_set_ne qj] at h1
        rw [List.getElem?_set_ne qj]
        have hi : i < σ.length := by
          rw [S.len]
          rw [List.getElem?_set] at h2
          simp only [if_true] at h2
          split at h2
          · assumption
          · cases h2
        rw [List.getElem?_set_self hi]
        exact nw j l1 o1 h1
      · rw [List.getElem?_set_ne qj] at h1
        rw [List.getElem?_set_ne qk] at h2
        rw [List.getElem?_set_ne qj, List.getElem?_set_ne qk]
        exact S.dist j k l1 l2 o1 o2 jk h1 h2
/-- an own thing changes -/
theorem Sta.upd {B : Base} {σ : L2.St} {ρ : Rho} {G H : Hp} (S : Sta B σ ρ G H) {i : Nat} {l : Addr} {o o' : Own} {u : HO} (hi : ρ[i]? = some (.own true o)) (hl : σ[i]? = some (some (.ref l))) (ho : OwnOk B G (L2.upd H l u) l o') :
    Sta B σ (ρ.set i (.own true o')) G (L2.upd H l u) := by
  obtain ⟨l', e1, gl, ll, pl⟩ := S.ownAt hi
  have el : l' = l := by rw [hl] at e1; cases e1; rfl
  subst el
  have bl : B.H l' = none := ll
  refine ⟨by rw [List.length_set]; exact S.len, fun a o e => ?_, fun a o e n => ?_, fun a e => S.kn a ?_, S.nw, S.bg, S.bx, fun m hm => ?_, fun j s w h1 h2 => ?_, fun j k l1 l2 o1 o2 jk h1 h2 => ?_⟩
  · have q : a ≠ l' := by rintro rfl; rw [gl] at e; cases e
    rw [upd_ne q]; exact S.ex a o e
  · have q : a ≠ l' := by rintro rfl; rw [bl] at e; cases e
    rw [upd_ne q]; exact S.fr a o e n
  · by_cases q : a = l'
    · subst q; rw [upd_same] at e; cases e
    · rw [upd_ne q] at e; exact e
  · obtain ⟨⟨a, b, e, r⟩, z, hz⟩ := S.pot m hm
    have q : m ≠ l' := by
      rintro rfl
      rw [bl] at hz
      cases hz
    exact ⟨⟨a, b, by rw [upd_ne q]; exact e, r⟩, z, hz⟩
  · by_cases q : i = j
    · subst q
      rw [List.getElem?_set] at h1
      simp only [if_true] at h1
      split at h1
      · cases h1
        rw [hl] at h2
        cases h2
        exact ⟨l', rfl, gl, bl, ho⟩
      · cases h1
    · rw [List.getElem?_set_ne q] at h1
      have k := S.env j s w h1 h2
      cases s with
      | un => trivial
      | val d => exact k
      | own lc o2 =>
        obtain ⟨m, f1, f2, f3, f4⟩ := k
        have nm : m ≠ l' := by
          rintro rfl
          exact S.dist i j _ _ _ _ q hi h1 (by rw [hl, h2, f1])
        exact ⟨m, f1, f2, f3, f4.mono (Ex.refl G) fun o z => by rw [upd_ne nm]; exact z⟩
  · have c1 : ∃ la oa, ρ[j]? = some (.own la oa) := by
      by_cases q : i = j
      · subst q; exact ⟨_, _, hi⟩
      · rw [List.getElem?_set_ne q] at h1; exact ⟨_, _, h1⟩
    have c2 : ∃ la oa, ρ[k]? = some (.own la oa) := by
      by_cases q : i = k
      · subst q; exact ⟨_, _, hi⟩
      · rw [List.getElem?_set_ne q] at h2; exact ⟨_, _, h2⟩
    obtain ⟨_, _, c1⟩ := c1
    obtain ⟨_, _, c2⟩ := c2
    exact S.dist j k _ _ _ _ jk c1 c2
/-- an own list is shared from here on -/
theorem Sta.share {B : Base} {σ : L2.St} {ρ : Rho} {G H : Hp} (S : Sta B σ ρ G H) {i : Nat} {ds : List D} (hi : ρ[i]? = some (.own true (.lst ds))) :
    ∃ l G', σ[i]? = some (some (.ref l)) ∧ Ex G G' ∧ Is G' (.lst ds) (.ref l) ∧ Sta B σ (ρ.set i (.val (.lst ds))) G' H := by
  obtain ⟨l, e1, gl, bl, xs, hl, hx⟩ := S.ownAt hi
  have bl : B.H l = none := bl
  have ex : Ex G (L2.upd G l (.lst xs)) := Ex.new gl
  have iv : Is (L2.upd G l (.lst xs)) (.lst ds) (.ref l) := ⟨l, xs, rfl, upd_same, IsA.mono ex _ _ hx⟩
  refine ⟨l, _, e1, ex, iv, by rw [List.length_set]; exact S.len, fun a o e => ?_, S.fr, S.kn, fun a o e => ?_, S.bg.trans ex, S.bx, S.pot, fun j s w h1 h2 => ?_, fun j k l1 l2 o1 o2 jk h1 h2 => ?_⟩
  · by_cases q : a = l
    · subst q; rw [upd_same] at e; rw [hl]; exact e
    · rw [upd_ne q] at e; exact S.ex a o e
  · by_cases q : a = l
    · subst q; exact .inr bl
    · rw [upd_ne q] at e; exact S.nw a o e
  · by_cases q : i = j
    · subst q
      rw [List.getElem?_set] at h1
      simp only [if_true] at h1
      split at h1
      · cases h1
        rw [e1] at h2
        cases h2
        exact ⟨_, rfl, iv⟩
      · cases h1
    · rw [List.getElem?_set_ne q] at h1
      have k := S.env j s w h1 h2
      cases s with
      | un => trivial
      | val d =>
        obtain ⟨x, f1, f2⟩ := k
        exact ⟨x, f1, Is.mono ex _ _ f2⟩
      | own lc o2 =>
        obtain ⟨m, f1, f2, f3, f4⟩ := k
        have nm : m ≠ l := by
          rintro rfl
          exact S.dist i j _ _ _ _ q hi h1 (by rw [e1, h2, f1])
        exact ⟨m, f1, by rw [upd_ne nm]; exact f2, f3, f4.mono ex fun o z => z⟩
  · have nj : i ≠ j := fun q => by
      subst q
      rw [List.getElem?_set] at h1
      simp only [if_true] at h1
      split at h1 <;> cases h1
    have nk : i ≠ k := fun q => by
      subst q
      rw [List.getElem?_set] at h2
      simp only [if_true] at h2
      split at h2 <;> cases h2
    rw [List.getElem?_set_ne nj] at h1
    rw [List.getElem?_set_ne nk] at h2
    exact S.dist j k l1 l2 o1 o2 jk h1 h2
end DD

namespace DD
open PySem PySem.Spec PyProof.Rows L2

/-! ### the least reading of an expression -/
def wE (X : Cx) (e : Expr) : TE := fun σ H R => ∀ pins s, Inv X pins σ H s → wpAny (model X.prog X.w) X.A (eval e X.env) (EP X pins σ R) X.xe s
theorem pe_w {X : Cx} {e : Expr} : PE X e (wE X e) := ⟨fun pins s σ H R I h => h pins s I⟩
theorem wE_of {X : Cx} {e : Expr} {t : TE} {σ : L2.St} {H : Hp} {R : VK} (p : PE X e t) (h : t σ H R) : wE X e σ H R := fun pins s I => p.run pins s σ H R I h
def wT (X : Cx) (e : Expr) : TT := fun σ H R => ∀ pins s, Inv X pins σ H s → wpAny (model X.prog X.w) X.A (isTrue e X.env (eval e X.env)) (TP X pins σ R) X.xe s
theorem pt_w {X : Cx} {e : Expr} : PT X e (wT X e) := ⟨fun pins s σ H R I h => h pins s I⟩
theorem wT_of {X : Cx} {e : Expr} {t : TT} {σ : L2.St} {H : Hp} {R : Bool → Hp → Prop} (p : PT X e t) (h : t σ H R) : wT X e σ H R := fun pins s I => p.run pins s σ H R I h
def wA (X : Cx) (es : List Expr) : TA := fun σ H R => ∀ pos pins s, Inv X pins σ H s → wpAny (model X.prog X.w) X.A (spliced (backTo pos (starEach es X.env))) (AP X pins σ R) X.xe s
theorem pa_w {X : Cx} {es : List Expr} : PA X es (wA X es) := ⟨fun pos pins s σ H R I h => h pos pins s I⟩
theorem wA_of {X : Cx} {e : List Expr} {t : TA} {σ : L2.St} {H : Hp} {R : List V → Hp → Prop} (p : PA X e t) (h : t σ H R) : wA X e σ H R := fun pos pins s I => p.run pos pins s σ H R I h
/-- whatever rule serves -/
def rAny (X : Cx) (f : Value → Value → Sem Value) : R2 := fun x y H Q => ∃ r, OpR X f r ∧ r x y H Q
theorem op_any {X : Cx} {f : Value → Value → Sem Value} : OpR X f (rAny X f) := fun pins s σ H x y v u Q I rx ry ⟨r, hr, h⟩ => hr pins s σ H x y v u Q I rx ry h
def rAnyU (X : Cx) (f : Value → Sem Value) : V → Hp → VK → Prop := fun x H Q => ∃ r, UnR X f r ∧ r x H Q
theorem un_any {X : Cx} {f : Value → Sem Value} : UnR X f (rAnyU X f) := fun pins s σ H x v Q I rx ⟨r, hr, h⟩ => hr pins s σ H x v Q I rx h
def rAnyC (X : Cx) (f : Value) : List V → Hp → VK → Prop := fun x H Q => ∃ r, CallR X f r ∧ r x H Q
theorem call_any {X : Cx} {f : Value} : CallR X f (rAnyC X f) := fun pins s σ H x v Q I rx ⟨r, hr, h⟩ => hr pins s σ H x v Q I rx h
def rAnyI (X : Cx) : R2 := fun x y H Q => ∃ r, IxR X r ∧ r x y H Q
theorem ix_any {X : Cx} : IxR X (rAnyI X) := fun va sl pins s σ H x y v u Q I rx ry ⟨r, hr, h⟩ => hr va sl pins s σ H x y v u Q I rx ry h
def rAnyS (X : Cx) : V → Option Int → Option Int → Hp → VK → Prop := fun x lo hi H Q => ∃ r, SlR X r ∧ r x lo hi H Q
theorem sl_any {X : Cx} : SlR X (rAnyS X) := fun pins s σ H x v vl vu lo hi sl Q I rx hs pl pu ⟨r, hr, h⟩ => hr pins s σ H x v vl vu lo hi sl Q I rx hs pl pu h

/-! ### readings over data. p: pure (no own thing changes), g: the value stands in the ghost -/
def W (p g : Bool) (X : Cx) (e : Expr) (ρ : Rho) (Q : D → Rho → Prop) : Prop :=
  ∀ (B : Base) (σ : L2.St) (G H : Hp), Sta B σ ρ G H → ∀ R : VK,
    (∀ v d ρ' G' H', Q d ρ' → Sta B σ ρ' G' H' → Ex G G' → (p = true → ρ' = ρ ∧ Grow G H G' H') → Is (if g = true then G' else H') d v → R v H') → wE X e σ H R
/-- the same of any reading -/
def WX (p g : Bool) (t : TE) (ρ : Rho) (Q : D → Rho → Prop) : Prop :=
  ∀ (B : Base) (σ : L2.St) (G H : Hp), Sta B σ ρ G H → ∀ R : VK,
    (∀ v d ρ' G' H', Q d ρ' → Sta B σ ρ' G' H' → Ex G G' → (p = true → ρ' = ρ ∧ Grow G H G' H') → Is (if g = true then G' else H') d v → R v H') → t σ H R
theorem WX.w {p g : Bool} {X : Cx} {e : Expr} {t : TE} {ρ : Rho} {Q : D → Rho → Prop} (pe : PE X e t) (h : WX p g t ρ Q) : W p g X e ρ Q := fun B σ G H S R r => wE_of pe (h B σ G H S R r)
def WT (p : Bool) (X : Cx) (e : Expr) (ρ : Rho) (Q : Bool → Rho → Prop) : Prop :=
  ∀ (B : Base) (σ : L2.St) (G H : Hp), Sta B σ ρ G H → ∀ R : Bool → Hp → Prop,
    (∀ b ρ' G' H', Q b ρ' → Sta B σ ρ' G' H' → Ex G G' → (p = true → ρ' = ρ ∧ Grow G H G' H') → R b H') → wT X e σ H R
def WA (p g : Bool) (X : Cx) (es : List Expr) (ρ : Rho) (Q : List D → Rho → Prop) : Prop :=
  ∀ (B : Base) (σ : L2.St) (G H : Hp), Sta B σ ρ G H → ∀ R : List V → Hp → Prop,
    (∀ vs ds ρ' G' H', Q ds ρ' → Sta B σ ρ' G' H' → Ex G G' → (p = true → ρ' = ρ ∧ Grow G H G' H') → IsA (if g = true then G' else H') ds vs → R vs H') → wA X es σ H R

section
variable {p g : Bool} {X : Cx} {ρ : Rho} {Q : D → Rho → Prop} {QT : Bool → Rho → Prop} {QA : List D → Rho → Prop}
theorem is_h {B : Base} {σ : L2.St} {G H : Hp} {d : D} {v : V} (S : Sta B σ ρ G H) (h : Is G d v) : Is (if g = true then G else H) d v := by
  cases g with
  | true => exact h
  | false => exact Is.mono S.ex d v h
theorem is_g {B : Base} {σ : L2.St} {G H : Hp} {d : D} {v : V} (S : Sta B σ ρ G H) (h : Is (if g = true then G else H) d v) : Is H d v := by
  cases g with
  | true => exact Is.mono S.ex d v h
  | false => exact h
/-- pure is as good as any; what stands in the ghost stands -/
theorem W.imp {e : Expr} {Q' : D → Rho → Prop} (h : W p g X e ρ Q) (k : ∀ d ρ', Q d ρ' → Q' d ρ') : W p g X e ρ Q' := fun B σ G H S R r =>
  h B σ G H S R fun v d ρ' G' H' q S' x pu i => r v d ρ' G' H' (k d ρ' q) S' x pu i
theorem W.un {e : Expr} (h : W true g X e ρ Q) : W p g X e ρ Q := fun B σ G H S R r =>
  h B σ G H S R fun v d ρ' G' H' q S' x pu i => r v d ρ' G' H' q S' x (fun _ => pu rfl) i
theorem W.rd {e : Expr} (h : W p true X e ρ Q) : W p g X e ρ Q := fun B σ G H S R r =>
  h B σ G H S R fun v d ρ' G' H' q S' x pu i => r v d ρ' G' H' q S' x pu (is_h S' i)
/-- flat values stand in the ghost -/
theorem W.sc {e : Expr} (h : W p false X e ρ fun d ρ' => (DD.sc d).isSome = true ∧ Q d ρ') : W p g X e ρ Q := fun B σ G H S R r =>
  h B σ G H S R fun v d ρ' G' H' q S' x pu i => r v d ρ' G' H' q.2 S' x pu (by
    obtain ⟨u, hu⟩ := Option.isSome_iff_exists.mp q.1
    have e : v = u := Is.sc hu i
    subst e
    exact Is.of_sc hu)
theorem w_name {i : Nat} {x : Str} {pos : Pos} {d : D} (hN : X.N[i]? = some x) (hv : Vis X.env.scope x) (hd : (x == ("__debug__" : Str)) = false) (hcd : (x == ("__classdict__" : Str)) = false)
    (hr : ρ[i]? = some (.val d)) (q : Q d ρ) : W p g X (.Name x pos) ρ Q := fun B σ G H S R r => by
  obtain ⟨v, e, h⟩ := S.valAt hr
  exact wE_of (pe_var hN hv hd hcd) ⟨v, e, r v d ρ G H q S (Ex.refl G) (fun _ => ⟨rfl, Grow.refl S.ex⟩) (is_h S h)⟩
/-- an own list, read -/
theorem w_own {i : Nat} {x : Str} {pos : Pos} {loc : Bool} {ds : List D} (hN : X.N[i]? = some x) (hv : Vis X.env.scope x) (hd : (x == ("__debug__" : Str)) = false) (hcd : (x == ("__classdict__" : Str)) = false)
    (hr : ρ[i]? = some (.own loc (.lst ds))) (q : Q (.lst ds) ρ) : W p false X (.Name x pos) ρ Q := fun B σ G H S R r => by
  obtain ⟨l, e, h1, h2, xs, h3, h4⟩ := S.ownAt hr
  exact wE_of (pe_var hN hv hd hcd) ⟨_, e, r _ (.lst ds) ρ G H q S (Ex.refl G) (fun _ => ⟨rfl, Grow.refl S.ex⟩) ⟨l, xs, rfl, h3, IsA.mono S.ex _ _ h4⟩⟩
theorem w_const {e : Expr} {v : V} {d : D} (hp : PE X e (tC v)) (hs : DD.sc d = some v) (q : Q d ρ) : W p g X e ρ Q := fun B σ G H S R r =>
  wE_of hp (r v d ρ G H q S (Ex.refl G) (fun _ => ⟨rfl, Grow.refl S.ex⟩) (Is.of_sc hs))
theorem w_int {i : Int} {j pos} (q : Q (.int i) ρ) : W p g X (.Constant (.int i) j pos) ρ Q := w_const pe_int rfl q
theorem w_bl {b : Bool} {j pos} (q : Q (.bl b) ρ) : W p g X (.Constant (.bool b) j pos) ρ Q := w_const pe_bl rfl q
theorem w_non {j pos} (q : Q .non ρ) : W p g X (.Constant .none j pos) ρ Q := w_const pe_non rfl q
theorem w_str {s : Str} {j pos} (q : Q (.str s) ρ) : W p g X (.Constant (.str s) j pos) ρ Q := w_const pe_str rfl q
/-- a constant of the module: a number, a text, a built-in type, a class -/
theorem w_glob {x : Str} {v : V} {u : Value} {d : D} {pos : Pos} (hg : Gl X x) (hm : X.mg x = some u) (r : RelV v u) (hd : (x == ("__debug__" : Str)) = false) (hs : DD.sc d = some v) (q : Q d ρ) : W p g X (.Name x pos) ρ Q := w_const (pe_glob hg hm r hd) hs q

/-! ### operations on data -/
/-- the operation f on x and y gives some z of Z; g: x and y stand in the ghost -/
def Op2 (g : Bool) (X : Cx) (f : Value → Value → Sem Value) (x y : D) (Z : D → Prop) : Prop :=
  ∀ (G H : Hp) (v u : V) (R : VK), Ex G H → Is (if g = true then G else H) x v → Is (if g = true then G else H) y u → (∀ w z G' H', Z z → Grow G H G' H' → Is G' z w → R w H') → rAny X f v u H R
def Op1 (g : Bool) (X : Cx) (f : Value → Sem Value) (x : D) (Z : D → Prop) : Prop :=
  ∀ (G H : Hp) (v : V) (R : VK), Ex G H → Is (if g = true then G else H) x v → (∀ w z G' H', Z z → Grow G H G' H' → Is G' z w → R w H') → rAnyU X f v H R
def OpC (g : Bool) (X : Cx) (f : Value) (xs : List D) (Z : D → Prop) : Prop :=
  ∀ (G H : Hp) (vs : List V) (R : VK), Ex G H → IsA (if g = true then G else H) xs vs → (∀ w z G' H', Z z → Grow G H G' H' → Is G' z w → R w H') → rAnyC X f vs H R
def OpI (g : Bool) (X : Cx) (x y : D) (Z : D → Prop) : Prop :=
  ∀ (G H : Hp) (v u : V) (R : VK), Ex G H → Is (if g = true then G else H) x v → Is (if g = true then G else H) y u → (∀ w z, Z z → Is (if g = true then G else H) z w → R w H) → rAnyI X v u H R

/-- two parts from the left, then what is done with both -/
theorem two {p1 g1 g2 : Bool} {a b : Expr} {K2 : D → D → Rho → Prop} (hp : p = true ∨ g1 = true) (h : W p g1 X a ρ fun x ρ1 => W p g2 X b ρ1 fun y ρ2 => K2 x y ρ2)
    {B : Base} {σ : L2.St} {G H : Hp} (S : Sta B σ ρ G H) {R : V → V → Hp → Prop}
    (k : ∀ v u x y ρ' G' H', K2 x y ρ' → Sta B σ ρ' G' H' → Ex G G' → (p = true → ρ' = ρ ∧ Grow G H G' H') → Is (if g1 = true then G' else H') x v → Is (if g2 = true then G' else H') y u → R v u H') :
    wE X a σ H fun v H1 => wE X b σ H1 fun u H2 => R v u H2 := by
  refine h B σ G H S _ fun v x ρ1 G1 H1 q1 S1 e1 pu1 i1 => ?_
  refine q1 B σ G1 H1 S1 _ fun u y ρ2 G2 H2 q2 S2 e2 pu2 i2 => ?_
  refine k v u x y ρ2 G2 H2 q2 S2 (e1.trans e2) (fun z => ⟨(pu2 z).1.trans (pu1 z).1, (pu1 z).2.trans (pu2 z).2⟩) ?_ i2
  cases g1 with
  | true => exact Is.mono e2 _ _ i1
  | false =>
    rcases hp with z | z
    · exact Is.mono (pu2 z).2.h _ _ i1
    · cases z
theorem is_and {g1 g2 : Bool} {G H : Hp} (x : Ex G H) {d : D} {v : V} (h : Is (if g1 = true then G else H) d v) : Is (if (g1 && g2) = true then G else H) d v := by
  cases g1 with
  | true =>
    cases g2 with
    | true => exact h
    | false => exact Is.mono x _ _ h
  | false => exact h
theorem is_and' {g1 g2 : Bool} {G H : Hp} (x : Ex G H) {d : D} {v : V} (h : Is (if g2 = true then G else H) d v) : Is (if (g1 && g2) = true then G else H) d v := by
  cases g2 with
  | true =>
    cases g1 with
    | true => exact h
    | false => exact Is.mono x _ _ h
  | false =>
    cases g1 with
    | true => exact h
    | false => exact h
theorem w_bin (g1 g2 : Bool) {a b : Expr} {op : Operator} {pos : Pos} (hp : p = true ∨ g1 = true)
    (h : W p g1 X a ρ fun x ρ1 => W p g2 X b ρ1 fun y ρ2 => Op2 (g1 && g2) X (binaryOp op) x y fun z => Q z ρ2) : W p g X (.BinOp a op b pos) ρ Q := fun B σ G H S R r => by
  refine wE_of (pe_op op_any pe_w pe_w) ?_
  refine two (p1 := p) hp h S fun v u x y ρ' G' H' q S' e pu i1 i2 => ?_
  exact q G' H' v u R S'.ex (is_and S'.ex i1) (is_and' S'.ex i2) fun w z G2 H2 hz gr iz => r w z ρ' G2 H2 hz (S'.grow gr) (e.trans gr.g) (fun z => ⟨(pu z).1, (pu z).2.trans gr⟩) (is_h (S'.grow gr) iz)
theorem w_cmp (g1 g2 : Bool) {a b : Expr} {op : CmpOp} {pos : Pos} (hm : behindInMarks op b = false) (hp : p = true ∨ g1 = true)
    (h : W p g1 X a ρ fun x ρ1 => W p g2 X b ρ1 fun y ρ2 => Op2 (g1 && g2) X (compareOp op) x y fun z => Q z ρ2) : W p g X (.Compare a [op] [b] pos) ρ Q := fun B σ G H S R r => by
  refine wE_of (pe_cmpR op_any pe_w pe_w hm) ?_
  refine two (p1 := p) hp h S fun v u x y ρ' G' H' q S' e pu i1 i2 => ?_
  exact q G' H' v u R S'.ex (is_and S'.ex i1) (is_and' S'.ex i2) fun w z G2 H2 hz gr iz => r w z ρ' G2 H2 hz (S'.grow gr) (e.trans gr.g) (fun z => ⟨(pu z).1, (pu z).2.trans gr⟩) (is_h (S'.grow gr) iz)
theorem w_un {a : Expr} {op : UnaryOp} {pos : Pos} (h : W p true X a ρ fun x ρ1 => Op1 true X (unaryOp op) x fun z => Q z ρ1) : W p g X (.UnaryOp op a pos) ρ Q := fun B σ G H S R r => by
  refine wE_of (pe_un un_any pe_w) ?_
  refine h B σ G H S _ fun v x ρ1 G1 H1 q1 S1 e1 pu1 i1 => ?_
  exact q1 G1 H1 v R S1.ex i1 fun w z G2 H2 hz gr iz => r w z ρ1 G2 H2 hz (S1.grow gr) (e1.trans gr.g) (fun z => ⟨(pu1 z).1, (pu1 z).2.trans gr⟩) (is_h (S1.grow gr) iz)
theorem w_ix (g1 g2 : Bool) {a b : Expr} {pos : Pos} (hs : PlainIx b) (hp : p = true ∨ g1 = true)
    (h : W p g1 X a ρ fun x ρ1 => W p true X b ρ1 fun y ρ2 => OpI g1 X x y fun z => Q z ρ2) : W p g1 X (.Subscript a b pos) ρ Q := fun B σ G H S R r => by
  refine wE_of (pe_ix ix_any pe_w pe_w hs) ?_
  refine two (p1 := p) (g2 := true) hp h S fun v u x y ρ' G' H' q S' e pu i1 i2 => ?_
  refine q G' H' v u R S'.ex i1 ?_ fun w z hz iz => r w z ρ' G' H' hz S' e pu iz
  cases g1 with
  | true => exact i2
  | false => exact Is.mono S'.ex _ _ i2

/-! ### truth -/
def TruD (g : Bool) (d : D) (b : Bool) : Prop := match d with
  | .non => b = false
  | .bl k => b = k
  | .int i => b = (i != 0)
  | .str y => y.length ≤ sizeLine ∧ b = ((y.length : Int) != 0)
  | .lst xs => b = !xs.isEmpty
  | .tup xs => b = !xs.isEmpty
  | .dic xs => b = !xs.isEmpty
  | _ => False
theorem IsA.isEmpty {H : Hp} {ds : List D} {xs : List V} (h : IsA H ds xs) : xs.isEmpty = ds.isEmpty := by
  have e := h.length
  cases ds <;> cases xs <;> simp_all
theorem IsK.isEmpty {H : Hp} : ∀ {ds : List (Key × D)} {xs : List (Key × V)}, IsK H ds xs → xs.isEmpty = ds.isEmpty
  | [], _, h => by cases h; rfl
  | (k, d) :: ds, _, ⟨x, r, e1, e2, e3⟩ => by subst e1; rfl
theorem tru_of {K : PySem.W.Frag} {H : Hp} {d : D} {v : V} {b : Bool} (h : Is H d v) (t : TruD g d b) : TruV K v H b := by
  cases d with
  | non => cases h; exact t
  | bl k => cases h; exact t
  | int i => cases h; exact t
  | str y => cases h; exact t
  | ty n => exact t.elim
  | lst ds =>
    obtain ⟨a, xs, rfl, e, i⟩ := h
    exact .inl ⟨xs, .inl (.inl e), by rw [i.isEmpty]; exact t⟩
  | tup ds =>
    obtain ⟨a, xs, rfl, e, i⟩ := h
    exact .inr (.inl ⟨xs, .inl (.inl e), by rw [i.isEmpty]; exact t⟩)
  | obj C fs => exact t.elim
  | dic ds =>
    obtain ⟨a, xs, rfl, e, i⟩ := h
    exact .inr (.inr ⟨xs, e, by rw [i.isEmpty]; exact t⟩)
  | scr K ns => exact t.elim
/-- an expression's value as a test -/
theorem t_val {e : Expr} (h : W p false X e ρ fun d ρ' => ∃ b, TruD false d b ∧ QT b ρ') (he : ∀ whole, isTrue e X.env whole = (do let v ← whole; standAt e.pos; holding [v] (truthy v)) := by intro _; rfl) : WT p X e ρ QT := fun B σ G H S R r => by
  refine wT_of (pt_truth pe_w he) ?_
  refine h B σ G H S _ fun v d ρ' G' H' ⟨b, tb, q⟩ S' x pu i => ⟨b, tru_of (g := false) i tb, r b ρ' G' H' q S' x pu⟩
theorem t_cmp (g1 g2 : Bool) {a b : Expr} {op : CmpOp} {pos : Pos} (hm : behindInMarks op b = false) (hp : p = true ∨ g1 = true)
    (h : W p g1 X a ρ fun x ρ1 => W p g2 X b ρ1 fun y ρ2 => Op2 (g1 && g2) X (compareOp op) x y fun z => ∃ k, z = .bl k ∧ QT k ρ2) : WT p X (.Compare a [op] [b] pos) ρ QT := fun B σ G H S R r => by
  refine wT_of (pt_cmpR op_any pe_w pe_w hm) ?_
  refine two (p1 := p) hp h S fun v u x y ρ' G' H' q S' e pu i1 i2 => ?_
  refine q G' H' v u _ S'.ex (is_and S'.ex i1) (is_and' S'.ex i2) fun w z G2 H2 hz gr iz => ?_
  obtain ⟨k, rfl, hk⟩ := hz
  exact ⟨k, iz, r k ρ' G2 H2 hk (S'.grow gr) (e.trans gr.g) fun z => ⟨(pu z).1, (pu z).2.trans gr⟩⟩
theorem t_not {a : Expr} {pos : Pos} (h : WT p X a ρ fun b ρ' => QT (!b) ρ') : WT p X (.UnaryOp .Not a pos) ρ QT := fun B σ G H S R r => by
  refine wT_of (pt_not pt_w) ?_
  exact h B σ G H S _ fun b ρ' G' H' q S' x pu => r (!b) ρ' G' H' q S' x pu
/-- and, or: the list of the parts -/
def WB (X : Cx) (op : BoolOp) (es : List Expr) (pos : Pos) : TT := fun σ H R => ∀ whole pins s, Inv X pins σ H s → wpAny (model X.prog X.w) X.A (isTrue (.BoolOp op es pos) X.env whole) (TP X pins σ R) X.xe s
theorem pw_w {X : Cx} {op : BoolOp} {es : List Expr} {pos : Pos} : PW X (.BoolOp op es pos) (WB X op es pos) := ⟨fun wh pins s σ H R I h => h wh pins s I⟩
def WTB (p : Bool) (X : Cx) (op : BoolOp) (es : List Expr) (pos : Pos) (ρ : Rho) (Q : Bool → Rho → Prop) : Prop :=
  ∀ (B : Base) (σ : L2.St) (G H : Hp), Sta B σ ρ G H → ∀ R : Bool → Hp → Prop,
    (∀ b ρ' G' H', Q b ρ' → Sta B σ ρ' G' H' → Ex G G' → (p = true → ρ' = ρ ∧ Grow G H G' H') → R b H') → WB X op es pos σ H R
theorem t_bool {op : BoolOp} {es : List Expr} {pos : Pos} (h : WTB p X op es pos ρ QT) : WT p X (.BoolOp op es pos) ρ QT := fun B σ G H S R r =>
  wT_of (PW.pt pw_w) (h B σ G H S R r)
theorem tb_and1 {a : Expr} {pos : Pos} (h : WT p X a ρ QT) : WTB p X .And [a] pos ρ QT := fun B σ G H S R r wh pins s I =>
  (pw_and1 pt_w).run wh pins s σ H R I (h B σ G H S R r)
theorem tb_or1 {a : Expr} {pos : Pos} (h : WT p X a ρ QT) : WTB p X .Or [a] pos ρ QT := fun B σ G H S R r wh pins s I =>
  (pw_or1 pt_w).run wh pins s σ H R I (h B σ G H S R r)
theorem tb_and {a b : Expr} {rest : List Expr} {pos : Pos} (h : WT p X a ρ fun c ρ1 => if c = true then WTB p X .And (b :: rest) pos ρ1 QT else QT false ρ1) : WTB p X .And (a :: b :: rest) pos ρ QT := fun B σ G H S R r wh pins s I => by
  refine (pw_and pt_w pw_w).run wh pins s σ H R I ?_
  refine h B σ G H S _ fun c ρ' G' H' q S' x pu => ?_
  cases c with
  | true => exact q B σ G' H' S' R fun b ρ2 G2 H2 q2 S2 x2 pu2 => r b ρ2 G2 H2 q2 S2 (x.trans x2) fun z => ⟨(pu2 z).1.trans (pu z).1, (pu z).2.trans (pu2 z).2⟩
  | false => exact r false ρ' G' H' q S' x pu
theorem tb_or {a b : Expr} {rest : List Expr} {pos : Pos} (h : WT p X a ρ fun c ρ1 => if c = true then QT true ρ1 else WTB p X .Or (b :: rest) pos ρ1 QT) : WTB p X .Or (a :: b :: rest) pos ρ QT := fun B σ G H S R r wh pins s I => by
  refine (pw_or pt_w pw_w).run wh pins s σ H R I ?_
  refine h B σ G H S _ fun c ρ' G' H' q S' x pu => ?_
  cases c with
  | false => exact q B σ G' H' S' R fun b ρ2 G2 H2 q2 S2 x2 pu2 => r b ρ2 G2 H2 q2 S2 (x.trans x2) fun z => ⟨(pu2 z).1.trans (pu z).1, (pu z).2.trans (pu2 z).2⟩
  | true => exact r true ρ' G' H' q S' x pu
/-- a if t else b -/
theorem w_if {c a b : Expr} {pos : Pos} (h : WT p X c ρ fun k ρ1 => if k = true then W p g X a ρ1 Q else W p g X b ρ1 Q) : W p g X (.IfExp c a b pos) ρ Q := fun B σ G H S R r => by
  refine wE_of (pe_ifExp pt_w pe_w pe_w) ?_
  refine h B σ G H S _ fun k ρ' G' H' q S' x pu => ?_
  cases k with
  | true => exact q B σ G' H' S' R fun v d ρ2 G2 H2 q2 S2 x2 pu2 i => r v d ρ2 G2 H2 q2 S2 (x.trans x2) (fun z => ⟨(pu2 z).1.trans (pu z).1, (pu z).2.trans (pu2 z).2⟩) i
  | false => exact q B σ G' H' S' R fun v d ρ2 G2 H2 q2 S2 x2 pu2 i => r v d ρ2 G2 H2 q2 S2 (x.trans x2) (fun z => ⟨(pu2 z).1.trans (pu z).1, (pu z).2.trans (pu2 z).2⟩) i
/-- and, or, as values: bools -/
theorem w_one {a : Expr} {op : BoolOp} {pos : Pos} (h : W p g X a ρ Q) : W p g X (.BoolOp op [a] pos) ρ Q := fun B σ G H S R r => wE_of (pe_one pe_w) (h B σ G H S R r)
theorem w_and {a b : Expr} {rest : List Expr} {pos : Pos} (h : W p true X a ρ fun x ρ1 => ∃ c, x = .bl c ∧ if c = true then W p g X (.BoolOp .And (b :: rest) pos) ρ1 Q else Q (.bl false) ρ1) : W p g X (.BoolOp .And (a :: b :: rest) pos) ρ Q := fun B σ G H S R r => by
  refine wE_of (pe_and pe_w pe_w) ?_
  refine h B σ G H S _ fun v d ρ' G' H' q S' x pu i => ?_
  obtain ⟨c, rfl, q⟩ := q
  refine ⟨c, i, ?_⟩
  cases c with
  | true => exact q B σ G' H' S' R fun v d ρ2 G2 H2 q2 S2 x2 pu2 i => r v d ρ2 G2 H2 q2 S2 (x.trans x2) (fun z => ⟨(pu2 z).1.trans (pu z).1, (pu z).2.trans (pu2 z).2⟩) i
  | false => exact r _ _ ρ' G' H' q S' x pu (is_h S' rfl)
theorem w_or {a b : Expr} {rest : List Expr} {pos : Pos} (h : W p true X a ρ fun x ρ1 => ∃ c, x = .bl c ∧ if c = true then Q (.bl true) ρ1 else W p g X (.BoolOp .Or (b :: rest) pos) ρ1 Q) : W p g X (.BoolOp .Or (a :: b :: rest) pos) ρ Q := fun B σ G H S R r => by
  refine wE_of (pe_or pe_w pe_w) ?_
  refine h B σ G H S _ fun v d ρ' G' H' q S' x pu i => ?_
  obtain ⟨c, rfl, q⟩ := q
  refine ⟨c, i, ?_⟩
  cases c with
  | false => exact q B σ G' H' S' R fun v d ρ2 G2 H2 q2 S2 x2 pu2 i => r v d ρ2 G2 H2 q2 S2 (x.trans x2) (fun z => ⟨(pu2 z).1.trans (pu z).1, (pu z).2.trans (pu2 z).2⟩) i
  | true => exact r _ _ ρ' G' H' q S' x pu (is_h S' rfl)
theorem w_not {a : Expr} {pos : Pos} (h : W p true X a ρ fun x ρ1 => ∃ c, x = .bl c ∧ Q (.bl (!c)) ρ1) : W p g X (.UnaryOp .Not a pos) ρ Q := fun B σ G H S R r => by
  refine wE_of (pe_not pe_w) ?_
  refine h B σ G H S _ fun v d ρ' G' H' q S' x pu i => ?_
  obtain ⟨c, rfl, q⟩ := q
  exact ⟨c, i, r _ _ ρ' G' H' q S' x pu (is_h S' rfl)⟩

/-! ### arguments, displays, calls -/
theorem a_nil (q : QA [] ρ) : WA p g X [] ρ QA := fun B σ G H S R r => wA_of pa_nil (r [] [] ρ G H q S (Ex.refl G) (fun _ => ⟨rfl, Grow.refl S.ex⟩) rfl)
theorem a_cons {e : Expr} {es : List Expr} (hp : p = true ∨ g = true) (h : W p g X e ρ fun d ρ1 => WA p g X es ρ1 fun ds ρ2 => QA (d :: ds) ρ2) (hs : starEach (e :: es) X.env = (false, eval e X.env) :: starEach es X.env := by rfl) : WA p g X (e :: es) ρ QA := fun B σ G H S R r => by
  refine wA_of (pa_cons pe_w pa_w hs) ?_
  refine h B σ G H S _ fun v d ρ1 G1 H1 q1 S1 e1 pu1 i1 => ?_
  refine q1 B σ G1 H1 S1 _ fun vs ds ρ2 G2 H2 q2 S2 e2 pu2 i2 => ?_
  refine r (v :: vs) (d :: ds) ρ2 G2 H2 q2 S2 (e1.trans e2) (fun z => ⟨(pu2 z).1.trans (pu1 z).1, (pu1 z).2.trans (pu2 z).2⟩) ⟨v, vs, rfl, ?_, i2⟩
  cases g with
  | true => exact Is.mono e2 _ _ i1
  | false =>
    rcases hp with z | z
    · exact Is.mono (pu2 z).2.h _ _ i1
    · cases z
theorem w_lst {es : List Expr} {pos : Pos} (h : WA p true X es ρ fun ds ρ' => ds.length ≤ sizeLine ∧ Q (.lst ds) ρ') : W p g X (.List es pos) ρ Q := fun B σ G H S R r => by
  refine wE_of (pe_lst pa_w) ?_
  refine h B σ G H S _ fun vs ds ρ' G' H' q S' x pu i => ⟨by rw [i.length]; exact q.1, fun a ha => ?_⟩
  have gr := Grow.new (o := .lst vs) S'.ex ha
  exact r _ (.lst ds) ρ' _ _ q.2 (S'.grow gr) (x.trans gr.g) (fun z => ⟨(pu z).1, (pu z).2.trans gr⟩) (is_h (S'.grow gr) ⟨a, vs, rfl, upd_same, IsA.mono gr.g _ _ i⟩)
theorem w_tup {es : List Expr} {k} {pos : Pos} (h : WA p true X es ρ fun ds ρ' => ds.length ≤ sizeLine ∧ Q (.tup ds) ρ') : W p g X (.Tuple es k pos) ρ Q := fun B σ G H S R r => by
  refine wE_of (pe_tup pa_w) ?_
  refine h B σ G H S _ fun vs ds ρ' G' H' q S' x pu i => ⟨by rw [i.length]; exact q.1, fun a ha => ?_⟩
  have gr := Grow.new (o := .tup vs) S'.ex ha
  exact r _ (.tup ds) ρ' _ _ q.2 (S'.grow gr) (x.trans gr.g) (fun z => ⟨(pu z).1, (pu z).2.trans gr⟩) (is_h (S'.grow gr) ⟨a, vs, rfl, upd_same, IsA.mono gr.g _ _ i⟩)
/-- f(e, ..), f a built-in -/
theorem w_callB (g1 : Bool) {x : Str} {id : String} {e : Expr} {es : List Expr} {pp pos : Pos} (hg : Gl X x) (hm : X.mg x = none) (hv : bootBuiltins x = some (.builtin id))
    (h : WA p g1 X (e :: es) ρ fun ds ρ' => OpC g1 X (.builtin id) ds fun z => Q z ρ') (hn : x ≠ "__name__" := by decide) (hdb : (x == ("__debug__" : Str)) = false := by decide)
    (he : starEach (e :: es) X.env = (false, eval e X.env) :: starEach es X.env := by rfl) (hpl : (backTo pos (starEach es X.env)).any (·.1) = false := by rfl) : W p g X (.Call (.Name x pp) (e :: es) [] pos) ρ Q := fun B σ G H S R r => by
  refine wE_of (pe_callB call_any hg hm hv pa_w hn hdb he hpl) ?_
  refine h B σ G H S _ fun vs ds ρ' G' H' q S' x pu i => ?_
  exact q G' H' vs R S'.ex i fun w z G2 H2 hz gr iz => r w z ρ' G2 H2 hz (S'.grow gr) (x.trans gr.g) (fun z => ⟨(pu z).1, (pu z).2.trans gr⟩) (is_h (S'.grow gr) iz)
theorem w_callTy (g1 : Bool) {x : Str} {T : String} {e : Expr} {es : List Expr} {pp pos : Pos} (hg : Gl X x) (hm : X.mg x = none) (hv : bootBuiltins x = some (.type T))
    (h : WA p g1 X (e :: es) ρ fun ds ρ' => OpC g1 X (.type T) ds fun z => Q z ρ') (hn : x ≠ "__name__" := by decide) (hdb : (x == ("__debug__" : Str)) = false := by decide)
    (he : starEach (e :: es) X.env = (false, eval e X.env) :: starEach es X.env := by rfl) (hpl : (backTo pos (starEach es X.env)).any (·.1) = false := by rfl) : W p g X (.Call (.Name x pp) (e :: es) [] pos) ρ Q := fun B σ G H S R r => by
  refine wE_of (pe_callTy call_any hg hm hv pa_w hn hdb he hpl) ?_
  refine h B σ G H S _ fun vs ds ρ' G' H' q S' x pu i => ?_
  exact q G' H' vs R S'.ex i fun w z G2 H2 hz gr iz => r w z ρ' G2 H2 hz (S'.grow gr) (x.trans gr.g) (fun z => ⟨(pu z).1, (pu z).2.trans gr⟩) (is_h (S'.grow gr) iz)
end
end DD

namespace DD
open PySem PySem.Spec PyProof.Rows L2

/-! ### data as PyData -/
mutual
def py : D → Option PyData
  | .non => some .none
  | .bl b => some (.bool b)
  | .int i => some (.int i)
  | .str s => some (.str s)
  | .ty _ => none
  | .lst xs => (pyA xs).map .list
  | .tup xs => (pyA xs).map .tuple
  | .obj _ _ => none
  | .dic _ => none
  | .scr _ _ => none
def pyA : List D → Option (List PyData)
  | [] => some []
  | d :: ds => (py d).bind fun p => (pyA ds).map (p :: ·)
end
mutual
theorem dp_of {K : PySem.W.Frag} {H : Hp} : ∀ (d : D) (v : V) (q : PyData), Is H d v → py d = some q → Dp K H v q
  | .non, _, _, h, e => by cases h; cases e; exact .non
  | .bl b, _, _, h, e => by cases h; cases e; exact .bl b
  | .int i, _, _, h, e => by cases h; cases e; exact .int i
  | .str s, _, _, h, e => by cases h; cases e; exact .str s
  | .ty n, _, _, h, e => by cases e
  | .lst ds, _, _, ⟨a, xs, e1, e2, e3⟩, e => by
    subst e1
    cases hq : pyA ds with
    | none => rw [py, hq] at e; cases e
    | some qs => rw [py, hq] at e; cases e; exact .lst (.inl (.inl e2)) (dpA_of ds xs qs e3 hq)
  | .tup ds, _, _, ⟨a, xs, e1, e2, e3⟩, e => by
    subst e1
    cases hq : pyA ds with
    | none => rw [py, hq] at e; cases e
    | some qs => rw [py, hq] at e; cases e; exact .tup (.inl (.inl e2)) (dpA_of ds xs qs e3 hq)
  | .obj C fs, _, _, h, e => by cases e
  | .dic _, _, _, h, e => by cases e
  | .scr _ _, _, _, h, e => by cases e
theorem dpA_of {K : PySem.W.Frag} {H : Hp} : ∀ (ds : List D) (vs : List V) (qs : List PyData), IsA H ds vs → pyA ds = some qs → DpAll K H vs qs
  | [], _, _, h, e => by cases h; cases e; exact .nil
  | d :: ds, _, qs, ⟨x, r, e1, e2, e3⟩, e => by
    subst e1
    cases h1 : py d with
    | none => rw [pyA, h1] at e; cases e
    | some p =>
      cases h2 : pyA ds with
      | none => rw [pyA, h1, h2] at e; cases e
      | some ps => rw [pyA, h1, h2] at e; cases e; exact .cons (dp_of d x p e2 h1) (dpA_of ds r ps e3 h2)
end
theorem pyA_ints : ∀ ns : List Int, pyA (ns.map D.int) = some (ns.map PyData.int)
  | [] => rfl
  | n :: ns => by show (py (.int n)).bind _ = _; rw [pyA_ints ns]; rfl
theorem pyA_lsts : ∀ ls : List (List Int), pyA (ls.map fun l => D.lst (l.map D.int)) = some (ls.map fun l => PyData.list (l.map PyData.int))
  | [] => rfl
  | l :: ls => by
    show (py (.lst (l.map D.int))).bind _ = _
    rw [pyA_lsts ls]
    show ((pyA (l.map D.int)).map PyData.list).bind _ = _
    rw [pyA_ints]
    rfl
theorem pyA_tups : ∀ ls : List (List Int), pyA (ls.map fun l => D.tup (l.map D.int)) = some (ls.map fun l => PyData.tuple (l.map PyData.int))
  | [] => rfl
  | l :: ls => by
    show (py (.tup (l.map D.int))).bind _ = _
    rw [pyA_tups ls]
    show ((pyA (l.map D.int)).map PyData.tuple).bind _ = _
    rw [pyA_ints]
    rfl
theorem lay_ints : ∀ ns : List Int, PyData.canLayAll0 (ns.map PyData.int) = true
  | [] => rfl
  | n :: ns => by show (true && PyData.canLayAll0 (ns.map PyData.int)) = true; rw [lay_ints ns]; rfl
theorem lay_lsts : ∀ ls : List (List Int), PyData.canLayAll0 (ls.map fun l => PyData.list (l.map PyData.int)) = true
  | [] => rfl
  | l :: ls => by show (PyData.canLayAll0 (l.map PyData.int) && PyData.canLayAll0 (ls.map _)) = true; rw [lay_lsts ls, lay_ints]; rfl
theorem lay_tups : ∀ ls : List (List Int), PyData.canLayAll0 (ls.map fun l => PyData.tuple (l.map PyData.int)) = true
  | [] => rfl
  | l :: ls => by show (PyData.canLayAll0 (l.map PyData.int) && PyData.canLayAll0 (ls.map _)) = true; rw [lay_tups ls, lay_ints]; rfl
theorem eqv_ints : ∀ ns ms : List Int, PyData.eqvAll (ns.map PyData.int) (ms.map PyData.int) = decide (ns = ms)
  | [], [] => rfl
  | [], m :: ms => by simp [PyData.eqvAll]
  | n :: ns, [] => by simp [PyData.eqvAll]
  | n :: ns, m :: ms => by
    show (n == m && PyData.eqvAll (ns.map PyData.int) (ms.map PyData.int)) = _
    rw [eqv_ints ns ms]
    by_cases h : n = m <;> by_cases h2 : ns = ms <;> simp [h, h2]
theorem eqv_lsts : ∀ ns ms : List (List Int), PyData.eqvAll (ns.map fun l => PyData.list (l.map PyData.int)) (ms.map fun l => PyData.list (l.map PyData.int)) = decide (ns = ms)
  | [], [] => rfl
  | [], m :: ms => by simp [PyData.eqvAll]
  | n :: ns, [] => by simp [PyData.eqvAll]
  | n :: ns, m :: ms => by
    show (PyData.eqvAll (n.map PyData.int) (m.map PyData.int) && PyData.eqvAll (ns.map _) (ms.map _)) = _
    rw [eqv_lsts ns ms, eqv_ints]
    by_cases h : n = m <;> by_cases h2 : ns = ms <;> simp [h, h2]
theorem eqv_tups : ∀ ns ms : List (List Int), PyData.eqvAll (ns.map fun l => PyData.tuple (l.map PyData.int)) (ms.map fun l => PyData.tuple (l.map PyData.int)) = decide (ns = ms)
  | [], [] => rfl
  | [], m :: ms => by simp [PyData.eqvAll]
  | n :: ns, [] => by simp [PyData.eqvAll]
  | n :: ns, m :: ms => by
    show (PyData.eqvAll (n.map PyData.int) (m.map PyData.int) && PyData.eqvAll (ns.map _) (ms.map _)) = _
    rw [eqv_tups ns ms, eqv_ints]
    by_cases h : n = m <;> by_cases h2 : ns = ms <;> simp [h, h2]

section
variable {g : Bool} {X : Cx} {Z : D → Prop}
/-! ### operations -/
theorem is_any {G H : Hp} (x : Ex G H) {d : D} {v : V} (h : Is (if g = true then G else H) d v) : Is H d v := by
  cases g with
  | true => exact Is.mono x _ _ h
  | false => exact h
theorem isA_any {G H : Hp} (x : Ex G H) {d : List D} {v : List V} (h : IsA (if g = true then G else H) d v) : IsA H d v := by
  cases g with
  | true => exact IsA.mono x _ _ h
  | false => exact h
theorem op2_sc {f : Value → Value → Sem Value} {r : R2} {x y z : D} {vx vy vz : V} (ho : OpR X f r) (hx : sc x = some vx) (hy : sc y = some vy) (hz : sc z = some vz) (h : ∀ (H : Hp) (R : VK), R vz H → r vx vy H R) (q : Z z) : Op2 g X f x y Z := by
  intro G H v u R ex i j k
  have e1 : v = vx := Is.sc hx i
  have e2 : u = vy := Is.sc hy j
  subst e1; subst e2
  exact ⟨r, ho, h H R (k vz z G H q (Grow.refl ex) (Is.of_sc hz))⟩
theorem o_add {i j : Int} (q : Z (.int (i + j))) : Op2 g X (binaryOp .Add) (.int i) (.int j) Z := op2_sc (z := .int (i + j)) op_add rfl rfl rfl (fun _ _ h => ⟨i, j, rfl, rfl, h⟩) q
theorem o_sub {i j : Int} (q : Z (.int (i - j))) : Op2 g X (binaryOp .Sub) (.int i) (.int j) Z := op2_sc (z := .int (i - j)) op_sub rfl rfl rfl (fun _ _ h => ⟨i, j, rfl, rfl, h⟩) q
theorem o_mul {i j : Int} (q : (-(2 ^ 64) < i ∧ i < 2 ^ 64 ∨ -(2 ^ 64) < j ∧ j < 2 ^ 64) ∧ Z (.int (i * j))) : Op2 g X (binaryOp .Mult) (.int i) (.int j) Z := op2_sc (z := .int (i * j)) op_mul rfl rfl rfl (fun _ _ h => ⟨i, j, rfl, rfl, q.1, h⟩) q.2
theorem o_mod {i j : Int} (q : 0 < j ∧ Z (.int (i % j))) : Op2 g X (binaryOp .Mod) (.int i) (.int j) Z := op2_sc (z := .int (i % j)) op_mod rfl rfl rfl (fun _ _ h => ⟨i, j, rfl, rfl, q.1, h⟩) q.2
theorem o_fdiv {i j : Int} (q : (0 < j ∧ j < 1073741824) ∧ Z (.int (i / j))) : Op2 g X (binaryOp .FloorDiv) (.int i) (.int j) Z := op2_sc (z := .int (i / j)) op_fdiv rfl rfl rfl (fun _ _ h => ⟨i, j, rfl, rfl, q.1, h⟩) q.2
theorem o_pow {i j : Int} (q : (0 ≤ j ∧ j ≤ 1000000 ∧ i.natAbs < 2 ^ 64) ∧ Z (.int (i ^ j.toNat))) : Op2 g X (binaryOp .Pow) (.int i) (.int j) Z := op2_sc (z := .int (i ^ j.toNat)) op_pow rfl rfl rfl (fun _ _ h => ⟨i, j, rfl, rfl, q.1, h⟩) q.2
theorem o_adds {i j : Str} (q : i.length + j.length ≤ sizeLine ∧ Z (.str (i ++ j))) : Op2 g X (binaryOp .Add) (.str i) (.str j) Z := op2_sc (z := .str (i ++ j)) op_add_str rfl rfl rfl (fun _ _ h => ⟨i, j, rfl, rfl, q.1, h⟩) q.2
theorem o_cat {xs ys : List D} (q : xs.length + ys.length ≤ sizeLine ∧ Z (.lst (xs ++ ys))) : Op2 true X (binaryOp .Add) (.lst xs) (.lst ys) Z := by
  intro G H v u R ex ⟨a, as, e1, e2, e3⟩ ⟨b, bs, f1, f2, f3⟩ k
  refine ⟨_, op_cat, a, b, as, bs, e1, f1, ex _ _ e2, ex _ _ f2, by rw [e3.length, f3.length]; exact q.1, fun p hp => ?_⟩
  have gr := Grow.new (o := .lst (as ++ bs)) ex hp
  exact k _ (.lst (xs ++ ys)) _ _ q.2 gr ⟨p, _, rfl, upd_same, IsA.mono gr.g _ _ (e3.append f3)⟩
theorem IsA.rep {H : Hp} {ds : List D} {xs : List V} (h : IsA H ds xs) : ∀ n : Nat, IsA H (List.replicate n ds).flatten (List.replicate n xs).flatten
  | 0 => rfl
  | n + 1 => by
    rw [List.replicate_succ, List.replicate_succ, List.flatten_cons, List.flatten_cons]
    exact h.append (IsA.rep h n)
theorem o_rep {xs : List D} {n : Int} (q : (-(2 ^ 63) ≤ n ∧ n < 2 ^ 63 ∧ xs.length * n.toNat ≤ sizeLine) ∧ Z (.lst (List.replicate n.toNat xs).flatten)) : Op2 true X (binaryOp .Mult) (.lst xs) (.int n) Z := by
  intro G H v u R ex ⟨a, as, e1, e2, e3⟩ f1 k
  refine ⟨_, op_rep, a, n, as, e1, f1, ex _ _ e2, q.1.1, q.1.2.1, by rw [e3.length]; exact q.1.2.2, fun p hp => ?_⟩
  have gr := Grow.new (o := .lst (List.replicate n.toNat as).flatten) ex hp
  exact k _ (.lst (List.replicate n.toNat xs).flatten) _ _ q.2 gr ⟨p, _, rfl, upd_same, IsA.mono gr.g _ _ (e3.rep _)⟩
theorem o_lt {i j : Int} (q : Z (.bl (decide (i < j)))) : Op2 g X (compareOp .Lt) (.int i) (.int j) Z := op2_sc (z := .bl (decide (i < j))) op_lt rfl rfl rfl (fun _ _ h => ⟨i, j, rfl, rfl, h⟩) q
theorem o_le {i j : Int} (q : Z (.bl (decide (i ≤ j)))) : Op2 g X (compareOp .LtE) (.int i) (.int j) Z := op2_sc (z := .bl (decide (i ≤ j))) op_le rfl rfl rfl (fun _ _ h => ⟨i, j, rfl, rfl, h⟩) q
theorem o_gt {i j : Int} (q : Z (.bl (decide (j < i)))) : Op2 g X (compareOp .Gt) (.int i) (.int j) Z := op2_sc (z := .bl (decide (j < i))) op_gt rfl rfl rfl (fun _ _ h => ⟨i, j, rfl, rfl, h⟩) q
theorem o_ge {i j : Int} (q : Z (.bl (decide (j ≤ i)))) : Op2 g X (compareOp .GtE) (.int i) (.int j) Z := op2_sc (z := .bl (decide (j ≤ i))) op_ge rfl rfl rfl (fun _ _ h => ⟨i, j, rfl, rfl, h⟩) q
theorem o_eq {i j : Int} (q : Z (.bl (decide (i = j)))) : Op2 g X (compareOp .Eq) (.int i) (.int j) Z := op2_sc (z := .bl (decide (i = j))) op_eq rfl rfl rfl (fun _ _ h => ⟨rfl, by rw [show decide (V.int i = V.int j) = decide (i = j) by by_cases e : i = j <;> simp [e]]; exact h⟩) q
theorem o_ne {i j : Int} (q : Z (.bl (!decide (i = j)))) : Op2 g X (compareOp .NotEq) (.int i) (.int j) Z := op2_sc (z := .bl (!decide (i = j))) op_ne rfl rfl rfl (fun _ _ h => ⟨rfl, by rw [show decide (V.int i = V.int j) = decide (i = j) by by_cases e : i = j <;> simp [e]]; exact h⟩) q
theorem o_eqs {i j : Str} (q : Z (.bl (decide (i = j)))) : Op2 g X (compareOp .Eq) (.str i) (.str j) Z := op2_sc (z := .bl (decide (i = j))) op_eq rfl rfl rfl (fun _ _ h => ⟨rfl, by rw [show decide (V.str i = V.str j) = decide (i = j) by by_cases e : i = j <;> simp [e]]; exact h⟩) q
theorem o_nes {i j : Str} (q : Z (.bl (!decide (i = j)))) : Op2 g X (compareOp .NotEq) (.str i) (.str j) Z := op2_sc (z := .bl (!decide (i = j))) op_ne rfl rfl rfl (fun _ _ h => ⟨rfl, by rw [show decide (V.str i = V.str j) = decide (i = j) by by_cases e : i = j <;> simp [e]]; exact h⟩) q
/-- == and != of data -/
theorem o_eqD {x y : D} {a b : PyData} (hu : X.A.units + 64 < cLine) (hx : py x = some a) (hy : py y = some b) (sx : SeqAt.shaped a = true) (sy : SeqAt.shaped b = true) (q : Z (.bl (PyData.eqv a b))) : Op2 g X (compareOp .Eq) x y Z := by
  intro G H v u R ex i j k
  exact ⟨_, op_eqD hu, a, b, dp_of _ _ _ (is_any ex i) hx, dp_of _ _ _ (is_any ex j) hy, sx, sy, k _ (.bl (PyData.eqv a b)) G H q (Grow.refl ex) rfl⟩
theorem o_neD {x y : D} {a b : PyData} (hu : X.A.units + 64 < cLine) (hx : py x = some a) (hy : py y = some b) (sx : SeqAt.shaped a = true) (sy : SeqAt.shaped b = true) (q : Z (.bl (!PyData.eqv a b))) : Op2 g X (compareOp .NotEq) x y Z := by
  intro G H v u R ex i j k
  exact ⟨_, op_neD hu, a, b, dp_of _ _ _ (is_any ex i) hx, dp_of _ _ _ (is_any ex j) hy, sx, sy, k _ (.bl (!PyData.eqv a b)) G H q (Grow.refl ex) rfl⟩
theorem o_isN {x : D} {v : V} (hx : sc x = some v) (q : Z (.bl (decide (v = .non)))) : Op2 g X (compareOp .Is) x .non Z := op2_sc (z := .bl (decide (v = .non))) op_isN hx rfl rfl (fun _ _ h => ⟨rfl, h⟩) q
/-- in, not in, over ints -/
theorem all_flat : ∀ ns : List Int, (ns.map V.int).all flatV = true
  | [] => rfl
  | n :: ns => by show (true && (ns.map V.int).all flatV) = true; rw [all_flat ns]; rfl
theorem inV_int (i : Int) : ∀ ns : List Int, inV (.int i) (ns.map V.int) = decide (i ∈ ns)
  | [] => rfl
  | n :: ns => by
    show (n == i || inV (.int i) (ns.map V.int)) = _
    rw [inV_int i ns]
    have e : (n == i) = decide (i = n) := by
      by_cases h : i = n
      · subst h; simp
      · rw [decide_eq_false h]; exact beq_eq_false_iff_ne.mpr fun q => h q.symm
    rw [e, Bool.eq_iff_iff]
    simp
theorem o_in {i : Int} {ns : List Int} (q : Z (.bl (decide (i ∈ ns)))) : Op2 g X (compareOp .In) (.int i) (.lst (ns.map D.int)) Z := by
  intro G H v u R ex i1 j k
  obtain ⟨a, xs, rfl, e2, e3⟩ := is_any ex j
  have e4 := e3.ints
  subst e4
  cases (is_any ex i1 : v = .int i)
  refine ⟨_, op_in_seq, a, _, rfl, .inl (.inl (.inl e2)), rfl, all_flat ns, ?_⟩
  show R (.bl (inV (.int i) (ns.map V.int))) H
  rw [inV_int]
  exact k _ (.bl (decide (i ∈ ns))) G H q (Grow.refl ex) rfl
theorem o_nin {i : Int} {ns : List Int} (q : Z (.bl (!decide (i ∈ ns)))) : Op2 g X (compareOp .NotIn) (.int i) (.lst (ns.map D.int)) Z := by
  intro G H v u R ex i1 j k
  obtain ⟨a, xs, rfl, e2, e3⟩ := is_any ex j
  have e4 := e3.ints
  subst e4
  cases (is_any ex i1 : v = .int i)
  refine ⟨_, op_notIn_seq, a, _, rfl, .inl (.inl (.inl e2)), rfl, all_flat ns, ?_⟩
  show R (.bl (!inV (.int i) (ns.map V.int))) H
  rw [inV_int]
  exact k _ (.bl (!decide (i ∈ ns))) G H q (Grow.refl ex) rfl
theorem o_neg {i : Int} (q : Z (.int (-i))) : Op1 g X (unaryOp .USub) (.int i) Z := by
  intro G H v R ex i1 k
  cases (is_any ex i1 : v = .int i)
  exact ⟨_, un_neg, i, rfl, k _ (.int (-i)) G H q (Grow.refl ex) rfl⟩
/-! ### subscripts -/
theorem x_lst {ds : List D} {i : Int} {d : D} (h : atI ds i = some d) (q : Z d) : OpI g X (.lst ds) (.int i) Z := by
  intro G H v u R ex i1 j k
  have j' : u = .int i := is_any ex j
  subst j'
  have i2 : Is (if g = true then G else H) (.lst ds) v := i1
  obtain ⟨a, xs, rfl, e2, e3⟩ := i1
  have hh : H a = some (.lst xs) := by
    cases g with
    | true => exact ex _ _ e2
    | false => exact e2
  unfold atI at h
  cases hj : ixN ds.length i with
  | none => rw [hj] at h; cases h
  | some n =>
    rw [hj] at h
    obtain ⟨x, hx, ix⟩ := e3.get (show ds[n]? = some d from h)
    refine ⟨_, ix_list, a, xs, i, x, rfl, rfl, .inl (.inl hh), ?_, k x d q ix⟩
    unfold atI
    rw [e3.length, hj]
    exact hx
theorem x_tup {ds : List D} {i : Int} {d : D} (h : atI ds i = some d) (q : Z d) : OpI g X (.tup ds) (.int i) Z := by
  intro G H v u R ex i1 j k
  have j' : u = .int i := is_any ex j
  subst j'
  obtain ⟨a, xs, rfl, e2, e3⟩ := i1
  have hh : H a = some (.tup xs) := by
    cases g with
    | true => exact ex _ _ e2
    | false => exact e2
  unfold atI at h
  cases hj : ixN ds.length i with
  | none => rw [hj] at h; cases h
  | some n =>
    rw [hj] at h
    obtain ⟨x, hx, ix⟩ := e3.get (show ds[n]? = some d from h)
    refine ⟨_, ix_tup, a, xs, i, x, rfl, rfl, .inl (.inl hh), ?_, k x d q ix⟩
    unfold atI
    rw [e3.length, hj]
    exact hx
/-! ### built-ins -/
theorem isA_one {H : Hp} {d : D} {vs : List V} (h : IsA H [d] vs) : ∃ v, vs = [v] ∧ Is H d v := by
  obtain ⟨x, r, rfl, e, e2⟩ := h
  cases e2
  exact ⟨x, rfl, e⟩
theorem isA_two {H : Hp} {d e : D} {vs : List V} (h : IsA H [d, e] vs) : ∃ v u, vs = [v, u] ∧ Is H d v ∧ Is H e u := by
  obtain ⟨x, r, rfl, e, e2⟩ := h
  obtain ⟨y, rfl, e3⟩ := isA_one e2
  exact ⟨x, y, rfl, e, e3⟩
theorem c_lenL {ds : List D} (q : Z (.int (ds.length : Int))) : OpC g X (.builtin "len") [.lst ds] Z := by
  intro G H vs R ex i k
  obtain ⟨v, rfl, a, xs, rfl, e2, e3⟩ := isA_one (isA_any ex i)
  exact ⟨_, call_len_seq, a, xs, rfl, .inl (.inl (.inl e2)), by rw [e3.length]; exact k _ (.int (ds.length : Int)) G H q (Grow.refl ex) rfl⟩
theorem c_lenT {ds : List D} (q : Z (.int (ds.length : Int))) : OpC g X (.builtin "len") [.tup ds] Z := by
  intro G H vs R ex i k
  obtain ⟨v, rfl, a, xs, rfl, e2, e3⟩ := isA_one (isA_any ex i)
  exact ⟨_, call_len_seq, a, xs, rfl, .inr (.inl (.inl e2)), by rw [e3.length]; exact k _ (.int (ds.length : Int)) G H q (Grow.refl ex) rfl⟩
theorem c_lenS {s : Str} (hl : s.length ≤ sizeLine) (q : Z (.int (s.length : Int))) : OpC g X (.builtin "len") [.str s] Z := by
  intro G H vs R ex i k
  obtain ⟨v, rfl, e⟩ := isA_one (isA_any ex i)
  cases (e : v = .str s)
  exact ⟨_, call_len_str, s, rfl, hl, k _ (.int (s.length : Int)) G H q (Grow.refl ex) rfl⟩
theorem c_sum {ns : List Int} (hc : X.calm = true) (q : Z (.int ns.sum)) : OpC g X (.builtin "sum") [.lst (ns.map D.int)] Z := by
  intro G H vs R ex i k
  obtain ⟨v, rfl, a, xs, rfl, e2, e3⟩ := isA_one (isA_any ex i)
  have e4 := e3.ints
  subst e4
  exact ⟨_, cr_sum hc, a, ns, rfl, .inl (.inl e2), k _ (.int ns.sum) G H q (Grow.refl ex) rfl⟩
theorem c_all {bs : List Bool} (hc : X.calm = true) (q : Z (.bl (bs.all id))) : OpC g X (.builtin "all") [.lst (bs.map D.bl)] Z := by
  intro G H vs R ex i k
  obtain ⟨v, rfl, a, xs, rfl, e2, e3⟩ := isA_one (isA_any ex i)
  have e4 := e3.bls
  subst e4
  exact ⟨_, cr_all hc, a, bs, rfl, .inl (.inl e2), k _ (.bl (bs.all id)) G H q (Grow.refl ex) rfl⟩
theorem c_any {bs : List Bool} (hc : X.calm = true) (q : Z (.bl (bs.any id))) : OpC g X (.builtin "any") [.lst (bs.map D.bl)] Z := by
  intro G H vs R ex i k
  obtain ⟨v, rfl, a, xs, rfl, e2, e3⟩ := isA_one (isA_any ex i)
  have e4 := e3.bls
  subst e4
  exact ⟨_, cr_any hc, a, bs, rfl, .inl (.inl e2), k _ (.bl (bs.any id)) G H q (Grow.refl ex) rfl⟩
theorem c_max2 {i j : Int} (hc : X.calm = true) (q : Z (.int (if j > i then j else i))) : OpC g X (.builtin "max") [.int i, .int j] Z := by
  intro G H vs R ex i1 k
  obtain ⟨v, u, rfl, e1, e2⟩ := isA_two (isA_any ex i1)
  cases (e1 : v = .int i); cases (e2 : u = .int j)
  exact ⟨_, call_max2 hc, i, j, rfl, k _ (.int (if j > i then j else i)) G H q (Grow.refl ex) rfl⟩
theorem c_abs {i : Int} (q : Z (.int (if i < 0 then -i else i))) : OpC g X (.builtin "abs") [.int i] Z := by
  intro G H vs R ex i1 k
  obtain ⟨v, rfl, e1⟩ := isA_one (isA_any ex i1)
  cases (e1 : v = .int i)
  exact ⟨_, call_abs, i, rfl, k _ (.int (if i < 0 then -i else i)) G H q (Grow.refl ex) rfl⟩
theorem c_int {i : Int} (q : Z (.int i)) : OpC g X (.type "int") [.int i] Z := by
  intro G H vs R ex i1 k
  obtain ⟨v, rfl, e1⟩ := isA_one (isA_any ex i1)
  cases (e1 : v = .int i)
  exact ⟨_, call_int1, .inl ⟨i, rfl, k _ (.int i) G H q (Grow.refl ex) rfl⟩⟩
theorem c_intB {b : Bool} (q : Z (.int (if b then 1 else 0))) : OpC g X (.type "int") [.bl b] Z := by
  intro G H vs R ex i1 k
  obtain ⟨v, rfl, e1⟩ := isA_one (isA_any ex i1)
  cases (e1 : v = .bl b)
  exact ⟨_, call_int1, .inr ⟨b, rfl, k _ (.int (if b then 1 else 0)) G H q (Grow.refl ex) rfl⟩⟩
theorem c_list {ds : List D} (q : Z (.lst ds)) : OpC true X (.type "list") [.lst ds] Z := by
  intro G H vs R ex i k
  obtain ⟨v, rfl, a, xs, rfl, e2, e3⟩ := isA_one i
  refine ⟨_, call_list_of, a, xs, rfl, .inl (.inl (.inl (ex _ _ e2))), fun p hp => ?_⟩
  have gr := Grow.new (o := .lst xs) ex hp
  exact k _ (.lst ds) _ _ q gr ⟨p, xs, rfl, upd_same, IsA.mono gr.g _ _ e3⟩
theorem c_listT {ds : List D} (q : Z (.lst ds)) : OpC true X (.type "list") [.tup ds] Z := by
  intro G H vs R ex i k
  obtain ⟨v, rfl, a, xs, rfl, e2, e3⟩ := isA_one i
  refine ⟨_, call_list_of, a, xs, rfl, .inr (.inl (.inl (ex _ _ e2))), fun p hp => ?_⟩
  have gr := Grow.new (o := .lst xs) ex hp
  exact k _ (.lst ds) _ _ q gr ⟨p, xs, rfl, upd_same, IsA.mono gr.g _ _ e3⟩
theorem c_tuple {ds : List D} (q : Z (.tup ds)) : OpC true X (.type "tuple") [.lst ds] Z := by
  intro G H vs R ex i k
  obtain ⟨v, rfl, a, xs, rfl, e2, e3⟩ := isA_one i
  refine ⟨_, call_tuple_of, a, xs, rfl, .inl ⟨.inl (.inl (ex _ _ e2)), fun p hp => ?_⟩⟩
  have gr := Grow.new (o := .tup xs) ex hp
  exact k _ (.tup ds) _ _ q gr ⟨p, xs, rfl, upd_same, IsA.mono gr.g _ _ e3⟩
theorem c_tupleT {ds : List D} (q : Z (.tup ds)) : OpC true X (.type "tuple") [.tup ds] Z := by
  intro G H vs R ex i k
  obtain ⟨v, rfl, a, xs, rfl, e2, e3⟩ := isA_one i
  exact ⟨_, call_tuple_of, a, xs, rfl, .inr ⟨.inl (.inl (ex _ _ e2)), k _ (.tup ds) G H q (Grow.refl ex) ⟨a, xs, rfl, e2, e3⟩⟩⟩
/-- isinstance: the name of a value's class -/
def tyN : D → Option String
  | .non => some "NoneType"
  | .bl _ => some "bool"
  | .int _ => some "int"
  | .str _ => some "str"
  | .lst _ => some "list"
  | .tup _ => some "tuple"
  | .dic _ => some "dict"
  | _ => none
theorem tyX_of {K : PySem.W.Frag} {H : Hp} {d : D} {v : V} {n : String} (h : Is H d v) (e : tyN d = some n) : TyX K H v (.type n) := by
  cases d with
  | non => cases h; cases e; exact .base .non
  | bl b => cases h; cases e; exact .base (.bl b)
  | int i => cases h; cases e; exact .base (.int i)
  | str s => cases h; cases e; exact .base (.str s)
  | ty n => cases e
  | lst ds => obtain ⟨a, xs, rfl, e2, _⟩ := h; cases e; exact .base (.lst e2)
  | tup ds => obtain ⟨a, xs, rfl, e2, _⟩ := h; cases e; exact .base (.tup e2)
  | obj C fs => cases e
  | dic ds => obtain ⟨a, xs, rfl, e2, _⟩ := h; cases e; exact .base (.dK e2)
  | scr K ns => cases e
theorem c_isi {x : D} {n c : String} {b : Bool} (hx : tyN x = some n) (hk : kitB n c = some b) (q : Z (.bl b)) : OpC g X (.builtin "isinstance") [x, .ty c] Z := by
  intro G H vs R ex i k
  obtain ⟨v, u, rfl, e1, e2⟩ := isA_two (isA_any ex i)
  cases (e2 : u = .ty c)
  exact ⟨_, call_isi, v, .ty c, .type n, .type c, b, rfl, .ty c, tyX_of e1 hx, kit_ty hk, k _ (.bl b) G H q (Grow.refl ex) rfl⟩
theorem c_isi2 {x : D} {n c c2 : String} {b b2 : Bool} (hx : tyN x = some n) (hk : kitB n c = some b) (hk2 : kitB n c2 = some b2) (q : Z (.bl (b || b2))) : OpC g X (.builtin "isinstance") [x, .tup [.ty c, .ty c2]] Z := by
  intro G H vs R ex i k
  obtain ⟨v, u, rfl, e1, a, xs, rfl, e2, e3⟩ := isA_two (isA_any ex i)
  obtain ⟨y, z, rfl, f1, f2⟩ := isA_two e3
  cases (f1 : y = .ty c); cases (f2 : z = .ty c2)
  refine ⟨_, call_isiT, v, a, _, .type n, [.type c, .type c2], b || b2, rfl, e2, .cons (.ty c) (.cons (.ty c2) .nil), tyX_of e1 hx, ?_, k _ (.bl (b || b2)) G H q (Grow.refl ex) rfl⟩
  refine kitAny_cons (kit_ty hk) (fun e => ?_) (fun e => by rw [e]; rfl)
  subst e
  refine kitAny_cons (kit_ty hk2) (fun e => ?_) (fun e => by rw [e]; rfl)
  subst e
  rfl
end
end DD

namespace DD
open PySem PySem.Spec PyProof.Rows L2

/-! ### what is walked -/
def wI (X : Cx) (tg iter : Expr) : TI := fun σ H R => ∀ pins s, Inv X pins σ H s → wpAny (model X.prog X.w) X.A (eval iter X.env) (fun v s1 => wpAny (model X.prog X.w) X.A (pyIter v) (PIE X pins σ tg R) X.xe s1) X.xe s
theorem pi_w {X : Cx} {tg iter : Expr} : PI X tg iter (wI X tg iter) := ⟨fun pins s σ H R I h => h pins s I⟩
theorem wI_of {X : Cx} {tg iter : Expr} {t : TI} {σ : L2.St} {H : Hp} {R : It → Hp → Prop} (p : PI X tg iter t) (h : t σ H R) : wI X tg iter σ H R := fun pins s I => p.run pins s σ H R I h
/-- the items are the data ds, while the ghost G0 stands -/
def WalkD (G0 : Hp) (J : It) (ds : List D) : Prop :=
  Walk J ds.length (fun H => Ex G0 H) (fun i H x H'' => ∀ d, ds[i]? = some d → ∀ G, Ex G0 G → Ex G H → ∃ G'', Grow G H G'' H'' ∧ Is G'' d x)
def WI (p : Bool) (X : Cx) (tg iter : Expr) (ρ : Rho) (Q : List D → Rho → Prop) : Prop :=
  ∀ (B : Base) (σ : L2.St) (G H : Hp), Sta B σ ρ G H → ∀ R : It → Hp → Prop,
    (∀ J ds ρ' G' H', Q ds ρ' → Sta B σ ρ' G' H' → Ex G G' → (p = true → ρ' = ρ ∧ Grow G H G' H') → WalkD G' J ds → R J H') → wI X tg iter σ H R
section
variable {p g : Bool} {X : Cx} {ρ : Rho} {QI : List D → Rho → Prop} {tg : Expr}
theorem wi_lst {e : Expr} (h : W p true X e ρ fun d ρ' => ∃ ds, d = .lst ds ∧ QI ds ρ') : WI p X tg e ρ QI := fun B σ G H S R r => by
  refine wI_of (pi_list pe_w) ?_
  refine h B σ G H S _ fun v d ρ' G' H' q S' x pu i => ?_
  obtain ⟨ds, rfl, q⟩ := q
  obtain ⟨a, xs, rfl, e2, e3⟩ := i
  refine ⟨a, rfl, ⟨xs, .inl (.inl (S'.ex _ _ e2))⟩, r _ ds ρ' G' H' q S' x pu ?_⟩
  unfold WalkD
  rw [← e3.length]
  refine walk_list.mono (fun H h => .inl (.inl (h _ _ e2))) fun i Hc y H'' hi hx ya d hd Gc g1 g2 => ?_
  obtain ⟨rfl, hy⟩ := ya
  obtain ⟨z, hz, iz⟩ := e3.get hd
  rw [hz] at hy
  cases hy
  exact ⟨Gc, Grow.refl g2, Is.mono g1 _ _ iz⟩
theorem wi_tup {e : Expr} (h : W p true X e ρ fun d ρ' => ∃ ds, d = .tup ds ∧ QI ds ρ') : WI p X tg e ρ QI := fun B σ G H S R r => by
  refine wI_of (pi_tup pe_w) ?_
  refine h B σ G H S _ fun v d ρ' G' H' q S' x pu i => ?_
  obtain ⟨ds, rfl, q⟩ := q
  obtain ⟨a, xs, rfl, e2, e3⟩ := i
  refine ⟨a, rfl, ⟨xs, .inl (.inl (S'.ex _ _ e2))⟩, r _ ds ρ' G' H' q S' x pu ?_⟩
  unfold WalkD
  rw [← e3.length]
  refine walk_tup.mono (fun H h => .inl (.inl (h _ _ e2))) fun i Hc y H'' hi hx ya d hd Gc g1 g2 => ?_
  obtain ⟨rfl, hy⟩ := ya
  obtain ⟨z, hz, iz⟩ := e3.get hd
  rw [hz] at hy
  cases hy
  exact ⟨Gc, Grow.refl g2, Is.mono g1 _ _ iz⟩
/-- lo, lo + 1, .. -/
def rng (lo : Int) (n : Nat) : List D := (List.range n).map fun i : Nat => D.int (lo + i)
theorem rng_len (lo : Int) (n : Nat) : (rng lo n).length = n := by simp [rng]
theorem rng_get {lo : Int} {n i : Nat} {d : D} (h : (rng lo n)[i]? = some d) : i < n ∧ d = .int (lo + i) := by
  unfold rng at h
  rw [List.getElem?_map] at h
  by_cases hi : i < n
  · rw [List.getElem?_range hi] at h
    cases h
    exact ⟨hi, rfl⟩
  · rw [List.getElem?_eq_none (by simpa using hi)] at h
    cases h
theorem walkD_rng {G : Hp} {lo : Int} {n : Nat} : WalkD G (Itr lo n) (rng lo n) := by
  unfold WalkD
  rw [rng_len]
  refine walk_range.mono (fun _ _ => trivial) fun i Hc y H'' hi hx ya d hd Gc g1 g2 => ?_
  obtain ⟨rfl, rfl⟩ := ya
  obtain ⟨_, rfl⟩ := rng_get hd
  exact ⟨Gc, Grow.refl g2, rfl⟩
theorem wi_rng1 {a : Expr} {pp pos : Pos} (hg : Gl X "range") (hm : X.mg "range" = none) (h : WA p false X [a] ρ fun ds ρ' => ∃ j : Int, ds = [.int j] ∧ (-(2 ^ 62) ≤ j ∧ j < 2 ^ 62) ∧ QI (rng 0 j.toNat) ρ')
    (hs : starEach [a] X.env = [(false, eval a X.env)] := by rfl) : WI p X tg (.Call (.Name "range" pp) [a] [] pos) ρ QI := fun B σ G H S R r => by
  refine wI_of (pi_range1 hg hm pa_w hs) ?_
  refine h B σ G H S _ fun vs ds ρ' G' H' q S' x pu i => ?_
  obtain ⟨j, rfl, b, q⟩ := q
  obtain ⟨v, rfl, e⟩ := isA_one i
  cases (e : v = .int j)
  exact ⟨j, rfl, b.1, b.2, r _ _ ρ' G' H' q S' x pu walkD_rng⟩
theorem wi_rng2 {a b : Expr} {pp pos : Pos} (hg : Gl X "range") (hm : X.mg "range" = none) (h : WA p false X [a, b] ρ fun ds ρ' => ∃ i j : Int, ds = [.int i, .int j] ∧ (-(2 ^ 62) ≤ i ∧ i < 2 ^ 62 ∧ -(2 ^ 62) ≤ j ∧ j < 2 ^ 62) ∧ QI (rng i (j - i).toNat) ρ')
    (hs : starEach [a, b] X.env = [(false, eval a X.env), (false, eval b X.env)] := by rfl) (hs2 : starEach [b] X.env = [(false, eval b X.env)] := by rfl) : WI p X tg (.Call (.Name "range" pp) [a, b] [] pos) ρ QI := fun B σ G H S R r => by
  refine wI_of (pi_range2 hg hm pa_w hs hs2) ?_
  refine h B σ G H S _ fun vs ds ρ' G' H' q S' x pu i => ?_
  obtain ⟨k, j, rfl, b, q⟩ := q
  obtain ⟨v, u, rfl, e, e2⟩ := isA_two i
  cases (e : v = .int k); cases (e2 : u = .int j)
  exact ⟨k, j, rfl, b, r _ _ ρ' G' H' q S' x pu walkD_rng⟩
/-- pairs -/
theorem walkD_pair {G : Hp} {J : It} {xs ys : List D} {vx vy : Nat → Option V} {n : Nat} (hn : n = min xs.length ys.length) {C : Hp → Prop} (w : Walk J n C (YPair vx vy)) (hC : ∀ H, Ex G H → C H)
    (hx : ∀ i d, xs[i]? = some d → ∃ v, vx i = some v ∧ Is G d v) (hy : ∀ i d, ys[i]? = some d → ∃ v, vy i = some v ∧ Is G d v) : WalkD G J ((xs.zip ys).map fun q => D.tup [q.1, q.2]) := by
  unfold WalkD
  rw [List.length_map, List.length_zip, ← hn]
  refine w.mono hC fun i Hc y H'' hi hC ya d hd Gc g1 g2 => ?_
  obtain ⟨T, x, z, rfl, hT, rfl, e1, e2⟩ := ya
  rw [List.getElem?_map] at hd
  cases hz : (xs.zip ys)[i]? with
  | none => rw [hz] at hd; cases hd
  | some q =>
    rw [hz] at hd
    cases hd
    rw [List.getElem?_zip_eq_some] at hz
    obtain ⟨v, f1, f2⟩ := hx i _ hz.1
    obtain ⟨u, f3, f4⟩ := hy i _ hz.2
    rw [e1] at f1; cases f1
    rw [e2] at f3; cases f3
    have gr := Grow.new (o := .tup [x, z]) g2 hT
    exact ⟨_, gr, T, [x, z], rfl, upd_same, x, [z], rfl, Is.mono (g1.trans gr.g) _ _ f2, z, [], rfl, Is.mono (g1.trans gr.g) _ _ f4, rfl⟩
theorem wi_zip {a b : Expr} {elts : List Expr} {kk : Nat} {pp pos tpos : Pos} (hg : Gl X "zip") (hm : X.mg "zip" = none) (h : WA p true X [a, b] ρ fun ds ρ' => ∃ xs ys, ds = [.lst xs, .lst ys] ∧ QI ((xs.zip ys).map fun q => D.tup [q.1, q.2]) ρ')
    (hs : starEach [a, b] X.env = (false, eval a X.env) :: starEach [b] X.env := by rfl) (hpl : (backTo pos (starEach [b] X.env)).any (·.1) = false := by rfl) : WI p X (.Tuple elts kk tpos) (.Call (.Name "zip" pp) [a, b] [] pos) ρ QI := fun B σ G H S R r => by
  refine wI_of (pi_zip hg hm pa_w hs hpl) ?_
  refine h B σ G H S _ fun vs ds ρ' G' H' q S' x pu i => ?_
  obtain ⟨xs, ys, rfl, q⟩ := q
  obtain ⟨v, u, rfl, ⟨l1, as, rfl, e2, e3⟩, l2, bs, rfl, f2, f3⟩ := isA_two i
  refine ⟨l1, l2, as, bs, rfl, .inl (.inl (S'.ex _ _ e2)), .inl (.inl (S'.ex _ _ f2)), r _ _ ρ' G' H' q S' x pu ?_⟩
  exact walkD_pair (n := min xs.length ys.length) rfl (walk_zip (xs := as) (ys := bs) (by rw [e3.length, f3.length])) (fun H h => ⟨.inl (.inl (h _ _ e2)), .inl (.inl (h _ _ f2))⟩) (fun i d hd => e3.get hd) (fun i d hd => f3.get hd)
theorem wi_enum {a : Expr} {elts : List Expr} {kk : Nat} {pp pos tpos : Pos} (hg : Gl X "enumerate") (hm : X.mg "enumerate" = none) (h : WA p true X [a] ρ fun ds ρ' => ∃ xs, ds = [.lst xs] ∧ QI (((rng 0 xs.length).zip xs).map fun q => D.tup [q.1, q.2]) ρ')
    (hs : starEach [a] X.env = [(false, eval a X.env)] := by rfl) : WI p X (.Tuple elts kk tpos) (.Call (.Name "enumerate" pp) [a] [] pos) ρ QI := fun B σ G H S R r => by
  refine wI_of (pi_enum hg hm pa_w hs) ?_
  refine h B σ G H S _ fun vs ds ρ' G' H' q S' x pu i => ?_
  obtain ⟨xs, rfl, q⟩ := q
  obtain ⟨v, rfl, l1, as, rfl, e2, e3⟩ := isA_one i
  refine ⟨l1, as, rfl, .inl (.inl (S'.ex _ _ e2)), r _ _ ρ' G' H' q S' x pu ?_⟩
  refine walkD_pair (n := as.length) (by rw [rng_len, e3.length, Nat.min_self]) walk_enum (fun H h => .inl (.inl (h _ _ e2))) (fun i d hd => ?_) (fun i d hd => e3.get hd)
  obtain ⟨_, rfl⟩ := rng_get hd
  exact ⟨_, rfl, by show V.int _ = V.int _; rw [Int.zero_add]⟩
end

/-! ### targets -/
def gMany : List Nat → TGs
  | [] => gNil
  | i :: is => gCons (gName i) (gMany is)
def setAll : Rho → List Nat → List D → Rho
  | ρ, i :: is, d :: ds => setAll (ρ.set i (.val d)) is ds
  | ρ, _, _ => ρ
inductive Tg where
  | one (i : Nat)
  | two (i j : Nat)
  | many (is : List Nat)
def Tg.g (K : PySem.W.Frag) : Tg → TG
  | .one i => gName i
  | .two i j => gTup K 2 (gCons (gName i) (gCons (gName j) gNil))
  | .many is => gTup K is.length (gMany is)
def Tg.eff : Tg → D → Rho → Option Rho
  | .one i, d, ρ => some (ρ.set i (.val d))
  | .two i j, .tup [a, b], ρ => some ((ρ.set i (.val a)).set j (.val b))
  | .two _ _, _, _ => none
  | .many is, .tup ds, ρ => if ds.length = is.length then some (setAll ρ is ds) else none
  | .many _, _, _ => none
def Tg.slots : Tg → List Nat
  | .one i => [i]
  | .two i j => [i, j]
  | .many is => is
theorem run_many {B : Base} {G H0 H : Hp} {R : L2.St → Hp → Prop} : ∀ (is : List Nat) (ds : List D) (xs : List V) (σ : L2.St) (ρ : Rho), Sta B σ ρ G H0 → IsA G ds xs → ds.length = is.length →
    (∀ σ', Sta B σ' (setAll ρ is ds) G H0 → (∀ vs : List Nat, (∀ i ∈ is, i ∈ vs) → (∀ (τ : L2.St) (i : Nat) (o : Option V), i ∈ vs → wipe (τ.set i o) vs = wipe τ vs) → wipe σ' vs = wipe σ vs) → R σ' H) → gMany is xs σ H R
  | [], [], xs, σ, ρ, S, h, _, r => by
    cases h
    exact ⟨rfl, r σ S fun _ _ _ => rfl⟩
  | [], d :: ds, _, _, _, _, _, l, _ => by cases l
  | i :: is, [], _, _, _, _, _, l, _ => by cases l
  | i :: is, d :: ds, xs, σ, ρ, S, ⟨x, xr, e1, e2, e3⟩, l, r => by
    subst e1
    refine ⟨x, xr, rfl, ?_⟩
    show gMany is xr (σ.set i (some x)) H R
    refine run_many is ds xr _ _ (S.set e2) e3 (by simpa using l) fun σ' S' hw => r σ' S' fun vs hv hs => ?_
    rw [hw vs (fun j hj => hv j (List.mem_cons_of_mem _ hj)) hs, hs _ _ _ (hv i List.mem_cons_self)]
theorem Tg.run {K : PySem.W.Frag} {T : Tg} {d : D} {ρ ρ' : Rho} (he : T.eff d ρ = some ρ') {B : Base} {σ : L2.St} {G H : Hp} {v : V} (S : Sta B σ ρ G H) (h : Is G d v) {R : L2.St → Hp → Prop}
    (r : ∀ σ', Sta B σ' ρ' G H → (∀ vs, (∀ i ∈ T.slots, i ∈ vs) → wipe σ' vs = wipe σ vs) → R σ' H) (hw : ∀ (τ : L2.St) (vs : List Nat) (i : Nat) (o : Option V), i ∈ vs → wipe (τ.set i o) vs = wipe τ vs) : T.g K v σ H R := by
  cases T with
  | one i =>
    cases he
    exact r _ (S.set h) fun vs hv => hw _ _ _ _ (hv i (by simp [Tg.slots]))
  | two i j =>
    have hd : ∃ a b, d = .tup [a, b] := by
      cases d with
      | tup ds =>
        match ds, he with
        | [a, b], _ => exact ⟨a, b, rfl⟩
      | _ => cases he
    obtain ⟨a, b, rfl⟩ := hd
    cases he
    obtain ⟨l, xs, rfl, e2, e3⟩ := h
    obtain ⟨x, y, rfl, f1, f2⟩ := isA_two e3
    refine ⟨l, _, rfl, .inl (.inl (S.ex _ _ e2)), rfl, x, [y], rfl, y, [], rfl, rfl, ?_⟩
    refine r _ ((S.set f1).set f2) fun vs hv => ?_
    rw [hw _ _ _ _ (hv j (by simp [Tg.slots])), hw _ _ _ _ (hv i (by simp [Tg.slots]))]
  | many is =>
    have hd : ∃ ds, d = .tup ds ∧ ds.length = is.length ∧ ρ' = setAll ρ is ds := by
      cases d with
      | tup ds =>
        by_cases hl : ds.length = is.length
        · have he : (if ds.length = is.length then some (setAll ρ is ds) else none) = some ρ' := he
          rw [if_pos hl] at he
          cases he
          exact ⟨ds, rfl, hl, rfl⟩
        · have he : (if ds.length = is.length then some (setAll ρ is ds) else none) = some ρ' := he
          rw [if_neg hl] at he
          cases he
      | _ => cases he
    obtain ⟨ds, rfl, hl, rfl⟩ := hd
    obtain ⟨l, xs, rfl, e2, e3⟩ := h
    exact ⟨l, xs, rfl, .inl (.inl (S.ex _ _ e2)), by rw [e3.length, hl], run_many is ds xs σ ρ S e3 hl fun σ' S' z => r σ' S' fun vs hv => z vs hv fun τ i o hi => hw τ vs i o hi⟩
theorem Tg.run' {K : PySem.W.Frag} {T : Tg} {d : D} {ρ ρ' : Rho} (he : T.eff d ρ = some ρ') {B : Base} {σ : L2.St} {G H0 H : Hp} {v : V} (S : Sta B σ ρ G H0) (ex : Ex G H) (h : Is G d v) {R : L2.St → Hp → Prop}
    (r : ∀ σ', Sta B σ' ρ' G H0 → (∀ vs, (∀ i ∈ T.slots, i ∈ vs) → wipe σ' vs = wipe σ vs) → R σ' H) (hw : ∀ (τ : L2.St) (vs : List Nat) (i : Nat) (o : Option V), i ∈ vs → wipe (τ.set i o) vs = wipe τ vs) : T.g K v σ H R := by
  cases T with
  | one i =>
    cases he
    exact r _ (S.set h) fun vs hv => hw _ _ _ _ (hv i (by simp [Tg.slots]))
  | two i j =>
    have hd : ∃ a b, d = .tup [a, b] := by
      cases d with
      | tup ds =>
        match ds, he with
        | [a, b], _ => exact ⟨a, b, rfl⟩
      | _ => cases he
    obtain ⟨a, b, rfl⟩ := hd
    cases he
    obtain ⟨l, xs, rfl, e2, e3⟩ := h
    obtain ⟨x, y, rfl, f1, f2⟩ := isA_two e3
    refine ⟨l, _, rfl, .inl (.inl (ex _ _ e2)), rfl, x, [y], rfl, y, [], rfl, rfl, ?_⟩
    refine r _ ((S.set f1).set f2) fun vs hv => ?_
    rw [hw _ _ _ _ (hv j (by simp [Tg.slots])), hw _ _ _ _ (hv i (by simp [Tg.slots]))]
  | many is =>
    have hd : ∃ ds, d = .tup ds ∧ ds.length = is.length ∧ ρ' = setAll ρ is ds := by
      cases d with
      | tup ds =>
        by_cases hl : ds.length = is.length
        · have he : (if ds.length = is.length then some (setAll ρ is ds) else none) = some ρ' := he
          rw [if_pos hl] at he
          cases he
          exact ⟨ds, rfl, hl, rfl⟩
        · have he : (if ds.length = is.length then some (setAll ρ is ds) else none) = some ρ' := he
          rw [if_neg hl] at he
          cases he
      | _ => cases he
    obtain ⟨ds, rfl, hl, rfl⟩ := hd
    obtain ⟨l, xs, rfl, e2, e3⟩ := h
    exact ⟨l, xs, rfl, .inl (.inl (ex _ _ e2)), by rw [e3.length, hl], run_many is ds xs σ ρ S e3 hl fun σ' S' z => r σ' S' fun vs hv => z vs hv fun τ i o hi => hw τ vs i o hi⟩
theorem wipe_get : ∀ (σ : L2.St) (vs : List Nat) (i : Nat), (wipe σ vs)[i]? = if i ∈ vs then (if i < σ.length then some none else none) else σ[i]?
  | σ, [], i => by simp [wipe]
  | σ, v :: vs, i => by
    show ((wipe σ vs).set v none)[i]? = _
    rw [List.getElem?_set, wipe_length, wipe_get σ vs i]
    by_cases h : v = i
    · subst h
      simp
    · rw [if_neg h]
      have : (i ∈ v :: vs) = (i ∈ vs) := by
        rw [List.mem_cons, eq_iff_iff]
        exact ⟨fun q => q.resolve_left fun z => h z.symm, .inr⟩
      simp only [this]
theorem wipe_set (σ : L2.St) (vs : List Nat) (i : Nat) (o : Option V) (h : i ∈ vs) : wipe (σ.set i o) vs = wipe σ vs := by
  apply List.ext_getElem?
  intro j
  rw [wipe_get, wipe_get, List.length_set]
  by_cases hj : j ∈ vs
  · rw [if_pos hj, if_pos hj]
  · rw [if_neg hj, if_neg hj]
    rw [List.getElem?_set_ne]
    rintro rfl
    exact hj h
/-- the data of slots forgotten -/
def wipeR (ρ : Rho) : List Nat → Rho
  | [] => ρ
  | v :: vs => (wipeR ρ vs).set v .un
theorem Sta.un {B : Base} {σ : L2.St} {ρ : Rho} {G H : Hp} (S : Sta B σ ρ G H) {i : Nat} {v : Option V} : Sta B (σ.set i v) (ρ.set i .un) G H := by
  refine ⟨by rw [List.length_set, List.length_set]; exact S.len, S.ex, S.fr, S.kn, S.nw, S.bg, S.bx, S.pot, fun j s w h1 h2 => ?_, fun j k l1 l2 o1 o2 jk h1 h2 => ?_⟩
  · by_cases q : i = j
    · subst q
      rw [List.getElem?_set] at h1
      simp only [if_true] at h1
      split at h1
      · cases h1; trivial
      · cases h1
    · rw [List.getElem?_set_ne q] at h1 h2
      exact S.env j s w h1 h2
  · have nj : i ≠ j := fun q => by
      subst q
      rw [List.getElem?_set] at h1
      simp only [if_true] at h1
      split at h1 <;> cases h1
    have nk : i ≠ k := fun q => by
      subst q
      rw [List.getElem?_set] at h2
      simp only [if_true] at h2
      split at h2 <;> cases h2
    rw [List.getElem?_set_ne nj] at h1
    rw [List.getElem?_set_ne nk] at h2
    rw [List.getElem?_set_ne nj, List.getElem?_set_ne nk]
    exact S.dist j k l1 l2 o1 o2 jk h1 h2
theorem Sta.wipe {B : Base} {σ : L2.St} {ρ : Rho} {G H : Hp} (S : Sta B σ ρ G H) : ∀ vs : List Nat, Sta B (L2.wipe σ vs) (wipeR ρ vs) G H
  | [] => S
  | v :: vs => (Sta.wipe S vs).un

/-! ### comprehensions -/
section
variable {p g : Bool} {X : Cx} {ρ : Rho} {Q : D → Rho → Prop}
/-- the block's contexts -/
abbrev Blk (X : Cx) (scope : Scope) (s : Shared) (H : Hp) (C : Addr) (cl : List (Str × Addr)) (fp : List Addr) : Cx := X.blk s H scope (compEnvC scope cl C X.env) fp
def cE (X : Cx) (scope : Scope) (e : Expr) : TE := fun σ H Q => ∀ s H0 C cl fp, wE (Blk X scope s H0 C cl fp) e σ H Q
theorem pe_c {scope : Scope} {e : Expr} (s : Shared) (H0 : Hp) (C : Addr) (cl : List (Str × Addr)) (fp : List Addr) : PE (X.blk s H0 scope (compEnvC scope cl C X.env) fp) e (cE X scope e) := ⟨fun pins s1 σ H Q I h => h s H0 C cl fp pins s1 I⟩
def cT (X : Cx) (scope : Scope) (e : Expr) : TT := fun σ H Q => ∀ s H0 C cl fp, wT (Blk X scope s H0 C cl fp) e σ H Q
theorem pt_c {scope : Scope} {e : Expr} (s : Shared) (H0 : Hp) (C : Addr) (cl : List (Str × Addr)) (fp : List Addr) : PTs (X.blk s H0 scope (compEnvC scope cl C X.env) fp) [e] (cT X scope e) := pts_one ⟨fun pins s1 σ H Q I h => h s H0 C cl fp pins s1 I⟩
theorem IsA.snoc {H : Hp} {ds : List D} {xs : List V} {d : D} {x : V} (h : IsA H ds xs) (i : Is H d x) : IsA H (ds ++ [d]) (xs ++ [x]) := h.append (IsA.one i)
/-- what stands between two turns: the list at D so far, the ghost -/
def LcW (G1 H1 : Hp) (D : Addr) (outs : List DD.D) (Hc : Hp) : Prop := H1 D = none ∧ ∃ Gi acc, Hc D = some (.lst acc) ∧ Gi D = none ∧ Grow G1 H1 Gi Hc ∧ IsA Gi outs acc
/-- the loop of a comprehension, whatever its tests: turn i adds o i -/
theorem lc_go {B : Base} {σ : L2.St} {G1 H1 : Hp} {J : It} {ds : List DD.D} {T : Tg} {tt : TT} {te : TE} {vs : List Nat} {Qd : V → Hp → Prop} (S : Sta B σ ρ G1 H1) (w : WalkD G1 J ds) (hT : ∀ i ∈ T.slots, i ∈ vs)
    (bt : DD.D → Bool) (f : DD.D → DD.D) (hlen : ds.length ≤ 40000)
    (turn : ∀ d ∈ ds, ∃ ρi, T.eff d (wipeR ρ vs) = some ρi ∧ (∀ σ' G H, Sta B σ' ρi G H → ∀ R : Bool → Hp → Prop, (∀ G' H', Sta B σ' ρi G' H' → Grow G H G' H' → R (bt d) H') → tt σ' H R) ∧
      (bt d = true → ∀ σ' G H, Sta B σ' ρi G H → ∀ R : VK, (∀ v G' H', Sta B σ' ρi G' H' → Grow G H G' H' → Is G' (f d) v → R v H') → te σ' H R))
    (hd : ∀ a G' H', Grow G1 H1 G' H' → Is G' (.lst ((ds.filter bt).map f)) (.ref a) → Qd (.ref a) H') (D : Addr) (hD : H1 D = none) :
    ∃ W : Nat → Nat → Hp → Prop, (∃ m, W 0 m (L2.upd H1 D (.lst []))) ∧ ∀ i m H, W i m H →
      (J.stop i H ∧ Qd (.ref D) H) ∨ (J.go i H ∧ ∃ Nx : Hp → Prop, (∀ H', Nx H' → ∃ m', m' < m ∧ W (i + 1) m' H') ∧ ∀ x H', J.yld i H x H' → T.g X.K x (wipe σ vs) H' fun σ2 H2 => wipe σ2 vs = wipe σ vs ∧ tt σ2 H2 fun b H3 =>
        if b = true then te σ2 H3 fun y H4 => ∃ acc, H4 D = some (.lst acc) ∧ acc.length < sizeLine ∧ Nx (L2.upd H4 D (.lst (acc ++ [y]))) else Nx H3) := by
  have hsz : ∀ i, (((ds.take i).filter bt).map f).length < sizeLine := fun i => by
    have h1 : (((ds.take i).filter bt).map f).length ≤ 40000 := by
      rw [List.length_map]
      refine Nat.le_trans (List.length_filter_le _ _) ?_
      rw [List.length_take]
      omega
    exact Nat.lt_of_le_of_lt h1 (by decide)
  refine lc_it w (fun i H => LcW G1 H1 D (((ds.take i).filter bt).map f) H) ?_ (fun i H _ h => ?_) (fun i x H H' hi h y => ?_) (fun H h => ?_)
  · refine ⟨hD, G1, [], upd_same, ?_, Grow.own S.ex hD, rfl⟩
    cases r : G1 D with
    | none => rfl
    | some u => rw [S.ex D u r] at hD; cases hD
  · obtain ⟨_, Gi, acc, _, _, gr, _⟩ := h
    exact gr.g.trans gr.x
  · obtain ⟨_, Gi, acc, hacc, gD, gr, ia⟩ := h
    have hget : ds[i]? = some ds[i] := List.getElem?_eq_getElem hi
    obtain ⟨G2, gr2, ix⟩ := y _ hget Gi gr.g gr.x
    obtain ⟨ρi, he, ht, hel⟩ := turn ds[i] (List.getElem_mem hi)
    have g2D : G2 D = none := by
      cases r : G2 D with
      | none => rfl
      | some u =>
        rcases gr2.n D u r with q | q
        · rw [gD] at q; cases q
        · rw [hacc] at q; cases q
    have grA := gr.trans gr2
    refine Tg.run he ((S.grow grA).wipe vs) ix (fun σ' S' hwp => ?_) (fun τ us j o hj => wipe_set τ us j o hj)
    have hidem : wipe (wipe σ vs) vs = wipe σ vs := by
      apply List.ext_getElem?
      intro j
      rw [wipe_get, wipe_length, wipe_get]
      by_cases hj : j ∈ vs
      · simp [hj]
      · simp [hj]
    refine ⟨(hwp vs hT).trans hidem, ?_⟩
    refine ht σ' G2 H' S' _ fun G3 H3 S3 gr3 => ?_
    have g3D : G3 D = none ∧ H3 D = some (.lst acc) := by
      have h3 : H3 D = some (.lst acc) := gr3.h _ _ (gr2.h _ _ hacc)
      refine ⟨?_, h3⟩
      cases r : G3 D with
      | none => rfl
      | some u =>
        rcases gr3.n D u r with q | q
        · rw [g2D] at q; cases q
        · rw [gr2.h _ _ hacc] at q; cases q
    have etake : ds.take (i + 1) = ds.take i ++ [ds[i]] := by rw [List.take_add_one, hget]; rfl
    cases hb : bt ds[i] with
    | false =>
      show LcW G1 H1 D (((ds.take (i + 1)).filter bt).map f) H3
      rw [etake, List.filter_append, List.filter_cons, if_neg (by rw [hb]; decide)]
      show LcW G1 H1 D (((ds.take i).filter bt ++ []).map f) H3
      rw [List.append_nil]
      exact ⟨hD, G3, acc, g3D.2, g3D.1, grA.trans gr3, IsA.mono (gr2.g.trans gr3.g) _ _ ia⟩
    | true =>
      show te σ' H3 fun y H4 => ∃ acc, H4 D = some (.lst acc) ∧ acc.length < sizeLine ∧ LcW G1 H1 D (((ds.take (i + 1)).filter bt).map f) (L2.upd H4 D (.lst (acc ++ [y])))
      refine hel hb σ' G3 H3 S3 _ fun v G4 H4 S4 gr4 iv => ?_
      have h4 : H4 D = some (.lst acc) := gr4.h _ _ g3D.2
      have g4D : G4 D = none := by
        cases r : G4 D with
        | none => rfl
        | some u =>
          rcases gr4.n D u r with q | q
          · rw [g3D.1] at q; cases q
          · rw [g3D.2] at q; cases q
      refine ⟨acc, h4, by rw [ia.length]; exact hsz i, ?_⟩
      rw [etake, List.filter_append, List.filter_cons, if_pos hb, List.filter_nil, List.map_append]
      have grT := (grA.trans gr3).trans gr4
      refine ⟨hD, G4, acc ++ [v], upd_same, g4D, ⟨grT.g, fun a o e => ?_, fun a o e => ?_, grT.n⟩, ?_⟩
      · have q : a ≠ D := by rintro rfl; rw [hD] at e; cases e
        rw [upd_ne q]; exact grT.h a o e
      · have q : a ≠ D := by rintro rfl; rw [g4D] at e; cases e
        rw [upd_ne q]; exact grT.x a o e
      · exact IsA.snoc (IsA.mono ((gr2.g.trans gr3.g).trans gr4.g) _ _ ia) iv
  · obtain ⟨_, Gi, acc, hacc, gD, gr, ia⟩ := h
    rw [List.take_length] at ia
    have ex := Ex.new (o := HO.lst acc) gD
    refine hd D (L2.upd Gi D (.lst acc)) H ⟨gr.g.trans ex, gr.h, fun a o e => ?_, fun a o e => ?_⟩ ⟨D, acc, rfl, upd_same, IsA.mono ex _ _ ia⟩
    · by_cases q : a = D
      · subst q; rw [upd_same] at e; rw [hacc]; exact e
      · rw [upd_ne q] at e; exact gr.x a o e
    · by_cases q : a = D
      · subst q; exact .inr hD
      · rw [upd_ne q] at e; exact gr.n a o e
/-- [elt for tg in iter] -/
theorem x_lc {elt tg iter : Expr} {scope : Scope} {own : List (Str × Nat)} {T : Tg} (f : DD.D → DD.D) (hT : ∀ i ∈ T.slots, i ∈ own.map (·.2))
    (h : WI p X tg iter ρ fun ds ρ1 => ds.length ≤ 40000 ∧ (∀ d ∈ ds, ∃ ρi, T.eff d (wipeR ρ1 (own.map (·.2))) = some ρi ∧ ∀ s H C cl fp, W true true (Blk X scope s H C cl fp) elt ρi fun y _ => y = f d) ∧ Q (.lst (ds.map f)) ρ1) :
    WX p g (tLc (wI X tg iter) (T.g X.K) tYes (cE X scope elt) (own.map (·.2))) ρ Q := fun B σ G H S R r => by
  refine h B σ G H S _ fun J ds ρ1 G1 H1 q S1 x pu wk D hD => ?_
  obtain ⟨hl, turn, q⟩ := q
  refine lc_go (X := X) (Qd := R) S1 wk hT (fun _ => true) f hl (fun d hd => ?_) (fun a G' H' gr i => ?_) D hD
  · obtain ⟨ρi, he, hw⟩ := turn d hd
    refine ⟨ρi, he, fun σ' G2 H2 S2 R2 r2 => r2 G2 H2 S2 (Grow.refl S2.ex), fun _ σ' G2 H2 S2 R2 r2 s H0 C cl fp => ?_⟩
    refine hw s H0 C cl fp B σ' G2 H2 S2 R2 fun v y ρ3 G3 H3 e S3 x3 p3 i3 => ?_
    subst e
    have e3 := (p3 rfl).1
    subst e3
    exact r2 v G3 H3 S3 (p3 rfl).2 i3
  · have e : ds.filter (fun _ => true) = ds := List.filter_eq_self.mpr fun _ _ => rfl
    rw [e] at i
    exact r _ _ ρ1 G' H' q (S1.grow gr) (x.trans gr.g) (fun z => ⟨(pu z).1, (pu z).2.trans gr⟩) (is_h (S1.grow gr) i)
/-- [elt for tg in iter if c] -/
theorem x_lcIf {elt tg iter c : Expr} {scope : Scope} {own : List (Str × Nat)} {T : Tg} (bt : DD.D → Bool) (f : DD.D → DD.D) (hT : ∀ i ∈ T.slots, i ∈ own.map (·.2))
    (h : WI p X tg iter ρ fun ds ρ1 => ds.length ≤ 40000 ∧ (∀ d ∈ ds, ∃ ρi, T.eff d (wipeR ρ1 (own.map (·.2))) = some ρi ∧ ∀ s H C cl fp, WT true (Blk X scope s H C cl fp) c ρi (fun b _ => b = bt d) ∧ (bt d = true → W true true (Blk X scope s H C cl fp) elt ρi fun y _ => y = f d)) ∧ Q (.lst ((ds.filter bt).map f)) ρ1) :
    WX p g (tLc (wI X tg iter) (T.g X.K) (cT X scope c) (cE X scope elt) (own.map (·.2))) ρ Q := fun B σ G H S R r => by
  refine h B σ G H S _ fun J ds ρ1 G1 H1 q S1 x pu wk D hD => ?_
  obtain ⟨hl, turn, q⟩ := q
  refine lc_go (X := X) (Qd := R) S1 wk hT bt f hl (fun d hd => ?_) (fun a G' H' gr i => ?_) D hD
  · obtain ⟨ρi, he, hw⟩ := turn d hd
    refine ⟨ρi, he, fun σ' G2 H2 S2 R2 r2 s H0 C cl fp => ?_, fun hb σ' G2 H2 S2 R2 r2 s H0 C cl fp => ?_⟩
    · refine (hw s H0 C cl fp).1 B σ' G2 H2 S2 R2 fun b ρ3 G3 H3 e S3 x3 p3 => ?_
      subst e
      have e3 := (p3 rfl).1
      subst e3
      exact r2 G3 H3 S3 (p3 rfl).2
    · refine (hw s H0 C cl fp).2 hb B σ' G2 H2 S2 R2 fun v y ρ3 G3 H3 e S3 x3 p3 i3 => ?_
      subst e
      have e3 := (p3 rfl).1
      subst e3
      exact r2 v G3 H3 S3 (p3 rfl).2 i3
  · exact r _ _ ρ1 G' H' q (S1.grow gr) (x.trans gr.g) (fun z => ⟨(pu z).1, (pu z).2.trans gr⟩) (is_h (S1.grow gr) i)
end
end DD

namespace DD
open PySem PySem.Spec PyProof.Rows L2

/-! ### statements -/
def wS (X : Cx) (st : Stmt) : TS := fun D σ H => ∀ pins s, Inv X pins σ H s → wpAny (model X.prog X.w) X.A (exec st X.env) (SP X pins D) X.xe s
theorem ps_w {X : Cx} {st : Stmt} : PS X st (wS X st) := ⟨fun pins s σ H D I h => h pins s I⟩
theorem wS_of {X : Cx} {st : Stmt} {t : TS} {D : Ends} {σ : L2.St} {H : Hp} (p : PS X st t) (h : t D σ H) : wS X st D σ H := fun pins s I => p.run pins s σ H D I h
def wSs (X : Cx) (st : List Stmt) : TS := fun D σ H => ∀ pins s, Inv X pins σ H s → wpAny (model X.prog X.w) X.A (execs st X.env) (SP X pins D) X.xe s
theorem pss_w {X : Cx} {st : List Stmt} : PSs X st (wSs X st) := ⟨fun pins s σ H D I h => h pins s I⟩
theorem wSs_of {X : Cx} {st : List Stmt} {t : TS} {D : Ends} {σ : L2.St} {H : Hp} (p : PSs X st t) (h : t D σ H) : wSs X st D σ H := fun pins s I => p.run pins s σ H D I h
/-- what is wanted behind a statement, of data -/
structure DE where
  nx : Rho → Prop
  rt : D → Prop
  bk : Rho → Prop := fun _ => False
  ct : Rho → Prop := fun _ => False
structure Link (B : Base) (G0 : Hp) (E : DE) (F : Ends) : Prop where
  nx : ∀ σ ρ G H, E.nx ρ → Sta B σ ρ G H → Ex G0 G → F.nx σ H
  rt : ∀ v d G H, E.rt d → Fin B G H → Is G d v → F.rt v H
  bk : ∀ σ ρ G H, E.bk ρ → Sta B σ ρ G H → Ex G0 G → F.bk σ H
  ct : ∀ σ ρ G H, E.ct ρ → Sta B σ ρ G H → Ex G0 G → F.ct σ H
theorem Link.mono {B : Base} {G0 G1 : Hp} {E : DE} {F : Ends} (L : Link B G0 E F) (e : Ex G0 G1) : Link B G1 E F :=
  ⟨fun σ ρ G H q S x => L.nx σ ρ G H q S (e.trans x), L.rt, fun σ ρ G H q S x => L.bk σ ρ G H q S (e.trans x), fun σ ρ G H q S x => L.ct σ ρ G H q S (e.trans x)⟩
def WS (X : Cx) (st : Stmt) (ρ : Rho) (E : DE) : Prop := ∀ (B : Base) (σ : L2.St) (G H : Hp) (F : Ends), Sta B σ ρ G H → Link B G E F → wS X st F σ H
def WSs (X : Cx) (st : List Stmt) (ρ : Rho) (E : DE) : Prop := ∀ (B : Base) (σ : L2.St) (G H : Hp) (F : Ends), Sta B σ ρ G H → Link B G E F → wSs X st F σ H
section
variable {X : Cx} {ρ : Rho} {E : DE} {pos : Pos}
theorem ss_nil (h : E.nx ρ) : WSs X [] ρ E := fun B σ G H F S L => wSs_of pss_nil (L.nx σ ρ G H h S (Ex.refl G))
theorem ss_cons {st : Stmt} {rest : List Stmt} (h : WS X st ρ { E with nx := fun ρ' => WSs X rest ρ' E }) : WSs X (st :: rest) ρ E := fun B σ G H F S L =>
  wSs_of (pss_cons ps_w pss_w) (h B σ G H { F with nx := wSs X rest F } S ⟨fun σ' ρ' G' H' q S' x => q B σ' G' H' F S' (L.mono x), L.rt, L.bk, L.ct⟩)
theorem ss_one {st : Stmt} (h : WS X st ρ E) : WSs X [st] ρ E := fun B σ G H F S L => wSs_of (pss_one ps_w) (h B σ G H F S L)
/-- the rest is shown once, from a word between -/
theorem ss_cut {st : Stmt} {rest : List Stmt} (M : Rho → Prop) (h : WS X st ρ { E with nx := M }) (k : ∀ ρ', M ρ' → WSs X rest ρ' E) : WSs X (st :: rest) ρ E :=
  ss_cons fun B σ G H F S L => h B σ G H F S ⟨fun σ' ρ' G' H' q S' x => L.nx σ' ρ' G' H' (k ρ' q) S' x, L.rt, L.bk, L.ct⟩
theorem s_pass (h : E.nx ρ) : WS X (.Pass pos) ρ E := fun B σ G H F S L => wS_of ps_pass (L.nx σ ρ G H h S (Ex.refl G))
theorem s_ret {e : Expr} (h : W false true X e ρ fun d _ => E.rt d) : WS X (.Return (some e) pos) ρ E := fun B σ G H F S L => by
  refine wS_of (ps_ret pe_w) ?_
  exact h B σ G H S _ fun v d ρ' G' H' q S' x pu i => L.rt v d G' H' q S'.fin i
theorem s_retN (h : E.rt .non) : WS X (.Return none pos) ρ E := fun B σ G H F S L => wS_of ps_retN (L.rt .non .non G H h S.fin rfl)
theorem s_expr {e : Expr} (h : W false false X e ρ fun _ ρ' => E.nx ρ') (hs : swapsWith e none pos.line X.env = pure false := by rfl) : WS X (.Expr e pos) ρ E := fun B σ G H F S L => by
  refine wS_of (ps_expr pe_w hs) ?_
  exact h B σ G H S _ fun v d ρ' G' H' q S' x pu i => L.nx σ ρ' G' H' q S' x
theorem s_if {c : Expr} {a b : List Stmt} (h : WT false X c ρ fun k ρ' => if k = true then WSs X a ρ' E else WSs X b ρ' E) : WS X (.If c a b pos) ρ E := fun B σ G H F S L => by
  refine wS_of (ps_if pt_w pss_w pss_w) ?_
  refine h B σ G H S _ fun k ρ' G' H' q S' x pu => ?_
  cases k with
  | true => exact q B σ G' H' F S' (L.mono x)
  | false => exact q B σ G' H' F S' (L.mono x)
/-- x = e -/
theorem s_set {i : Nat} {x : Str} {e : Expr} {pos' : Pos} (hN : X.N.Nodup) (hi : X.N[i]? = some x) (hx : Loc X.env.scope x) (h : W false true X e ρ fun d ρ' => E.nx (ρ'.set i (.val d)))
    (hs : swapsWith e (some (.Name x pos')) pos.line X.env = pure false := by rfl) (hf : X.fn x = true ∨ X.env.scope.names.lookup x = some .local := by first | exact .inl rfl | exact .inr rfl) : WS X (.Assign [.Name x pos'] e pos) ρ E := fun B σ G H F S L => by
  refine wS_of (ps_set hN hi hx pe_w hs hf) ?_
  exact h B σ G H S _ fun v d ρ' G' H' q S' y pu j => L.nx _ _ G' H' q (S'.set j) y
/-- x = [] and the like: an own list -/
def WF (X : Cx) (e : Expr) (ρ : Rho) (Q : Own → Rho → Prop) : Prop :=
  ∀ (B : Base) (σ : L2.St) (G H : Hp), Sta B σ ρ G H → ∀ R : VK, (∀ l o ρ' G' H', Q o ρ' → Sta B σ ρ' G' H' → Ex G G' → G' l = none → B.H l = none → (∀ (j : Nat), σ[j]? = some (some (.ref l)) → ∀ lc u, ρ'[j]? ≠ some (.own lc u)) → OwnOk B G' H' l o → R (.ref l) H') → wE X e σ H R
theorem s_own {i : Nat} {x : Str} {e : Expr} {pos' : Pos} (hN : X.N.Nodup) (hi : X.N[i]? = some x) (hx : Loc X.env.scope x) (h : WF X e ρ fun o ρ' => E.nx (ρ'.set i (.own true o)))
    (hs : swapsWith e (some (.Name x pos')) pos.line X.env = pure false := by rfl) (hf : X.fn x = true ∨ X.env.scope.names.lookup x = some .local := by first | exact .inl rfl | exact .inr rfl) : WS X (.Assign [.Name x pos'] e pos) ρ E := fun B σ G H F S L => by
  refine wS_of (ps_set hN hi hx pe_w hs hf) ?_
  exact h B σ G H S _ fun l o ρ' G' H' q S' y gl bl nj ok => L.nx _ _ G' H' q (S'.setOwn gl bl ok fun j lc u hj hs => nj j hs lc u hj) y
theorem new_own {B : Base} {σ : L2.St} {G H : Hp} {l : Addr} (S : Sta B σ ρ G H) (hl : H l = none) : G l = none ∧ B.H l = none ∧ ∀ (j : Nat), σ[j]? = some (some (.ref l)) → ∀ lc u, ρ[j]? ≠ some (.own lc u) := by
  refine ⟨?_, S.kn l hl, fun j hj lc u hr => ?_⟩
  · cases r : G l with
    | none => rfl
    | some u => rw [S.ex l u r] at hl; cases hl
  · obtain ⟨m, e, _, _, ok⟩ := S.ownAt hr
    rw [hj] at e
    cases e
    obtain ⟨w, hw⟩ := ok.known
    rw [hw] at hl; cases hl
theorem f_nil {pos : Pos} {Q : Own → Rho → Prop} (q : Q (.lst []) ρ) : WF X (.List [] pos) ρ Q := fun B σ G H S R r => by
  refine wE_of (pe_lst pa_nil) ⟨Nat.zero_le _, fun l hl => ?_⟩
  obtain ⟨h1, h2, h3⟩ := new_own S hl
  exact r l (.lst []) ρ G _ q (S.grow (Grow.own S.ex hl)) (Ex.refl G) h1 h2 h3 ⟨[], upd_same, rfl⟩
theorem f_dic {pos : Pos} {Q : Own → Rho → Prop} (q : Q (.dic []) ρ) : WF X (.Dict [] [] pos) ρ Q := fun B σ G H S R r => by
  refine wE_of pe_dnewK fun l hl => ?_
  obtain ⟨h1, h2, h3⟩ := new_own S hl
  exact r l (.dic []) ρ G _ q (S.grow (Grow.own S.ex hl)) (Ex.refl G) h1 h2 h3 ⟨[], upd_same, rfl⟩
/-- [e] * n -/
theorem f_rep {a b : Expr} {pos : Pos} {Q : Own → Rho → Prop} (h : W true true X a ρ fun d ρ1 => W true true X b ρ1 fun k ρ2 => ∃ xs n, d = .lst xs ∧ k = .int n ∧ (-(2 ^ 63) ≤ n ∧ n < 2 ^ 63 ∧ xs.length * n.toNat ≤ sizeLine) ∧ Q (.lst (List.replicate n.toNat xs).flatten) ρ2) : WF X (.BinOp a .Mult b pos) ρ Q := fun B σ G H S R r => by
  refine wE_of (pe_op op_rep pe_w pe_w) ?_
  refine two (p := true) (p1 := true) (.inl rfl) h S fun v u x y ρ' G' H' q S' e pu i1 i2 => ?_
  obtain ⟨xs, n, rfl, rfl, b, q⟩ := q
  obtain ⟨a, as, rfl, e2, e3⟩ := i1
  refine ⟨a, n, as, rfl, i2, S'.ex _ _ e2, b.1, b.2.1, by rw [e3.length]; exact b.2.2, fun l hl => ?_⟩
  obtain ⟨h1, h2, h3⟩ := new_own S' hl
  exact r l (.lst _) ρ' G' _ q (S'.grow (Grow.own S'.ex hl)) e h1 h2 h3 ⟨_, upd_same, e3.rep _⟩
/-- the list that a name holds from here on is shared -/
theorem w_share {i : Nat} {x : Str} {pos : Pos} {ds : List D} {Q : D → Rho → Prop} (hN : X.N[i]? = some x) (hv : Vis X.env.scope x) (hd : (x == ("__debug__" : Str)) = false) (hcd : (x == ("__classdict__" : Str)) = false)
    (hr : ρ[i]? = some (.own true (.lst ds))) (q : Q (.lst ds) (ρ.set i (.val (.lst ds)))) : W false true X (.Name x pos) ρ Q := fun B σ G H S R r => by
  obtain ⟨l, G', e, ex, iv, S'⟩ := S.share hr
  exact wE_of (pe_var hN hv hd hcd) ⟨_, e, r _ (.lst ds) _ G' H q S' ex (fun z => nomatch z) iv⟩
/-- a list is shared ahead of a statement -/
theorem ss_share {st : List Stmt} {i : Nat} {ds : List D} (hr : ρ[i]? = some (.own true (.lst ds))) (h : WSs X st (ρ.set i (.val (.lst ds))) E) : WSs X st ρ E := fun B σ G H F S L => by
  obtain ⟨l, G', e, ex, iv, S'⟩ := S.share hr
  exact h B σ G' H F S' (L.mono ex)
/-- a name at an own thing: its address -/
theorem own_name {i : Nat} {x : Str} {pos : Pos} {o : Own} {lc : Bool} (hN : X.N[i]? = some x) (hv : Vis X.env.scope x) (hd : (x == ("__debug__" : Str)) = false) (hcd : (x == ("__classdict__" : Str)) = false)
    (hr : ρ[i]? = some (.own lc o)) {B : Base} {σ : L2.St} {G H : Hp} (S : Sta B σ ρ G H) {R : VK} (k : ∀ l, σ[i]? = some (some (.ref l)) → OwnOk B G H l o → R (.ref l) H) : wE X (.Name x pos) σ H R := by
  obtain ⟨l, e, h1, h2, ok⟩ := S.ownAt hr
  exact wE_of (pe_var hN hv hd hcd) ⟨_, e, k l e ok⟩
/-- x.append(e), x an own list -/
theorem s_app {i : Nat} {x : Str} {e : Expr} {p1 p2 p3 pos : Pos} (hN : X.N[i]? = some x) (hv : Vis X.env.scope x) (hd : (x == ("__debug__" : Str)) = false) (hcd : (x == ("__classdict__" : Str)) = false)
    (h : ∃ ds, ρ[i]? = some (.own true (.lst ds)) ∧ W false true X e ρ fun d ρ' => ∃ ds', ρ'[i]? = some (.own true (.lst ds')) ∧ ds'.length < 1000000 ∧ E.nx (ρ'.set i (.own true (.lst (ds' ++ [d])))))
    (hbase : attributeBase (.Name x p1) "append" X.env (eval (.Name x p1) X.env) = eval (.Name x p1) X.env := by rfl)
    (hfew : ((backTo p3 (starEach [e] X.env)).all (fun x => !x.1) && (backToKw p3 (keywordEach [] X.env)).all (fun x => x.1.isSome)
      && decide (([e] : List Expr).length + ([] : List Keyword).length + (if ([] : List Keyword).isEmpty then 0 else 1) < 30)) = true := by rfl)
    (hline : (p2.endLine == p3.line) = true := by rfl) (hst : starEach [e] X.env = (false, eval e X.env) :: starEach [] X.env := by rfl) (hplain : (backTo p3 (starEach [] X.env)).any (·.1) = false := by rfl)
    (hs : swapsWith (.Call (.Attribute (.Name x p1) "append" p2) [e] [] p3) none pos.line X.env = pure false := by rfl) : WS X (.Expr (.Call (.Attribute (.Name x p1) "append" p2) [e] [] p3) pos) ρ E := fun B σ G H F S L => by
  obtain ⟨ds, hr, h⟩ := h
  refine wS_of (ps_expr (pe_bm PySem.F.plainAttrs_list PySem.F.slot_list_append PySem.F.type_list_append mt_append pe_w (pa_cons pe_w pa_nil hst) hbase hfew hline hst hplain) hs) ?_
  refine own_name hN hv hd hcd hr S fun l el ok => ?_
  obtain ⟨xs, h1, h2⟩ := ok
  refine ⟨.inl ⟨rfl, xs, .inl (.inl h1)⟩, ?_⟩
  refine h B σ G H S _ fun v d ρ' G' H' q S' y pu iv => ?_
  obtain ⟨ds', hr', hz, q⟩ := q
  obtain ⟨l', el', gl, bl, xs', h1', h2'⟩ := S'.ownAt hr'
  have : l' = l := by rw [el] at el'; cases el'; rfl
  subst this
  refine ⟨l', xs', v, rfl, rfl, h1', by rw [h2'.length]; exact Nat.lt_trans hz (by decide), ?_⟩
  exact L.nx σ _ G' _ q (S'.upd hr' el ⟨_, upd_same, IsA.snoc h2' iv⟩) y
/-- x[e] = v, x an own list -/
theorem s_item {i : Nat} {x : Str} {e ev : Expr} {p1 p2 : Pos} (hN : X.N[i]? = some x) (hv : Vis X.env.scope x) (hd : (x == ("__debug__" : Str)) = false) (hcd : (x == ("__classdict__" : Str)) = false)
    (h : W true true X ev ρ fun d _ => ∃ ds, ρ[i]? = some (.own true (.lst ds)) ∧ W true true X e ρ fun k _ => ∃ n j, k = .int n ∧ ixN ds.length n = some j ∧ E.nx (ρ.set i (.own true (.lst (ds.set j d)))))
    (hs : swapsWithSole [.Subscript (.Name x p1) e p2] ev pos.line X.env = pure false := by rfl) (hw : swappedStores [.Subscript (.Name x p1) e p2] ev X.env = pure none := by rfl)
    (h1 : (assignEach [.Subscript (.Name x p1) e p2] X.env).map (·.2) = [assign (.Subscript (.Name x p1) e p2) X.env] := by rfl)
    (ha : ∀ v, assign (.Subscript (.Name x p1) e p2) X.env v = (do
      let ov ← holding [v] (eval (.Name x p1) X.env)
      let iv ← holding [v, ov] (eval e X.env)
      standAt p2
      holding [v, ov, iv] (setItem ov iv v)
      release [v, ov, iv] []) := by intro _; rfl) : WS X (.Assign [.Subscript (.Name x p1) e p2] ev pos) ρ E := fun B σ G H F S L => by
  refine wS_of (ps_asg pe_w (pg_sub pe_w pe_w set_list ha) hs hw h1) ?_
  refine h B σ G H S _ fun v d ρ' G' H' q S' y pu iv => ?_
  obtain ⟨e1, gr⟩ := pu rfl
  subst e1
  obtain ⟨ds, hr, q⟩ := q
  refine own_name hN hv hd hcd hr S' fun l el ok => ?_
  refine q B σ G' H' S' _ fun u k ρ2 G2 H2 q2 S2 y2 pu2 iu => ?_
  obtain ⟨e2, gr2⟩ := pu2 rfl
  subst e2
  obtain ⟨n, j, rfl, hj, q2⟩ := q2
  obtain ⟨l', el', gl, bl, xs', h1', h2'⟩ := S2.ownAt hr
  have : l' = l := by rw [el] at el'; cases el'; rfl
  subst this
  refine ⟨l', xs', n, j, rfl, iu, h1', by rw [h2'.length]; exact hj, ?_⟩
  exact L.nx σ _ G2 _ q2 (S2.upd hr el ⟨_, upd_same, h2'.set (Is.mono y2 _ _ iv)⟩) (y.trans y2)
/-- a, b = e, f -/
theorem s_par {i j : Nat} {x y : Str} {a b : Expr} {px py pt : Pos} {kt k2 pt2} (hc : X.calm = true) (hN : X.N.Nodup) (hi : X.N[i]? = some x) (hj : X.N[j]? = some y) (hij : i ≠ j)
    (hx : X.env.scope.names.lookup x = some .local) (hy : X.env.scope.names.lookup y = some .local)
    (h : WA false true X [a, b] ρ fun ds ρ' => ∃ d e, ds = [d, e] ∧ E.nx ((ρ'.set i (.val d)).set j (.val e)))
    (hw : swappedStores [.Tuple [.Name x px, .Name y py] kt pt] (.Tuple [a, b] k2 pt2) X.env = pure (some [x, y]) := by rfl)
    (hs : swapsWithSole [.Tuple [.Name x px, .Name y py] kt pt] (.Tuple [a, b] k2 pt2) pos.line X.env = pure false := by rfl) :
    WS X (.Assign [.Tuple [.Name x px, .Name y py] kt pt] (.Tuple [a, b] k2 pt2) pos) ρ E := fun B σ G H F S L => by
  refine wS_of (ps_par hc hN hi hj hij hx hy pa_w hw hs) ?_
  refine h B σ G H S _ fun vs ds ρ' G' H' q S' y pu iv => ?_
  obtain ⟨d, e, rfl, q⟩ := q
  obtain ⟨v, u, rfl, i1, i2⟩ := isA_two iv
  exact ⟨v, u, rfl, L.nx _ _ G' H' q ((S'.set i1).set i2) y⟩
/-- x += e, ints -/
theorem s_aug {i : Nat} {x : Str} {e : Expr} {pos' : Pos} (hN : X.N.Nodup) (hi : X.N[i]? = some x) (hx : Loc X.env.scope x) (h : ∃ n, ρ[i]? = some (.val (.int n)) ∧ W false true X e ρ fun d ρ' => ∃ m, d = .int m ∧ E.nx (ρ'.set i (.val (.int (n + m)))))
    (hf : X.fn x = true ∨ X.env.scope.names.lookup x = some .local := by first | exact .inl rfl | exact .inr rfl) : WS X (.AugAssign (.Name x pos') .Add e pos) ρ E := fun B σ G H F S L => by
  obtain ⟨n, hr, h⟩ := h
  refine wS_of (ps_aug hN hi hx pe_w ip_add hf) ?_
  obtain ⟨v, e1, iv⟩ := S.valAt hr
  cases (iv : v = .int n)
  refine ⟨_, e1, ?_⟩
  refine h B σ G H S _ fun u d ρ' G' H' q S' y pu iu => ?_
  obtain ⟨m, rfl, q⟩ := q
  cases (iu : u = .int m)
  exact ⟨n, m, rfl, rfl, L.nx _ _ G' H' q (S'.set (d := .int (n + m)) rfl) y⟩
/-- for: I by the turn and the data -/
theorem s_for {tg iter : Expr} {body : List Stmt} {T : Tg} (hp : PassesOwn (model X.prog X.w) X.A X.env X.xe) (hc : X.calm = true) (hg : PG X tg (T.g X.K)) (hs : ∀ x, foldedSetIterable iter X.env x = pure x)
    (h : WI false X tg iter ρ fun ds ρ1 => ∃ I : Nat → Rho → Prop, I 0 ρ1 ∧ (∀ i d ρi, ds[i]? = some d → I i ρi → ∃ ρ2, T.eff d ρi = some ρ2 ∧ WSs X body ρ2 { E with nx := I (i + 1), ct := I (i + 1), bk := E.nx }) ∧ ∀ ρn, I ds.length ρn → E.nx ρn) : WS X (.For tg iter body [] pos) ρ E := fun B σ G H F S L => by
  refine wS_of (ps_for hp hc pi_w hg pss_w hs) ?_
  refine h B σ G H S _ fun J ds ρ1 G1 H1 q S1 x pu wk => ?_
  obtain ⟨I, i0, turn, fin⟩ := q
  refine for_it wk (fun i σ' H' => ∃ ρ' G', I i ρ' ∧ Sta B σ' ρ' G' H' ∧ Ex G1 G') ⟨ρ1, G1, i0, S1, Ex.refl _⟩ (fun i σ' H' _ h => ?_) (fun i y σ' H' H'' hi h ya => ?_) fun σ' H' h => ?_
  · obtain ⟨ρ', G', _, S', e⟩ := h
    exact e.trans S'.ex
  · obtain ⟨ρ', G', hI, S', e⟩ := h
    have hget : ds[i]? = some ds[i] := List.getElem?_eq_getElem hi
    obtain ⟨G2, gr, iy⟩ := ya _ hget G' e S'.ex
    obtain ⟨ρ2, he, hb⟩ := turn i _ ρ' hget hI
    refine Tg.run he (S'.grow gr) iy (fun σ2 S2 _ => ?_) fun τ vs j o hj => wipe_set τ vs j o hj
    have e2 := e.trans gr.g
    exact hb B σ2 G2 H'' _ S2 ⟨fun σ3 ρ3 G3 H3 q3 S3 x3 => ⟨ρ3, G3, q3, S3, e2.trans x3⟩, L.rt, fun σ3 ρ3 G3 H3 q3 S3 x3 => L.nx σ3 ρ3 G3 H3 q3 S3 ((x.trans e2).trans x3), fun σ3 ρ3 G3 H3 q3 S3 x3 => ⟨ρ3, G3, q3, S3, e2.trans x3⟩⟩
  · obtain ⟨ρ', G', hI, S', e⟩ := h
    exact L.nx σ' ρ' G' H' (fin ρ' hI) S' (x.trans e)
/-- while: I by a number that falls and the data -/
theorem s_while {c : Expr} {body : List Stmt} (hp : PassesOwn (model X.prog X.w) X.A X.env X.xe) (I : Nat → Rho → Prop) (m0 : Nat) (h0 : I m0 ρ)
    (h : ∀ m ρ', I m ρ' → WT false X c ρ' fun b ρ2 => if b = true then WSs X body ρ2 { E with nx := fun ρ3 => ∃ m', m' < m ∧ I m' ρ3, ct := fun ρ3 => ∃ m', m' < m ∧ I m' ρ3, bk := E.nx } else E.nx ρ2) : WS X (.While c body [] pos) ρ E := fun B σ G H F S L => by
  refine wS_of (ps_while hp pt_w pss_w) ?_
  refine ⟨fun m σ' H' => ∃ ρ' G', I m ρ' ∧ Sta B σ' ρ' G' H' ∧ Ex G G', ⟨m0, ρ, G, h0, S, Ex.refl G⟩, fun m σ' H' hw => ?_⟩
  obtain ⟨ρ', G', hI, S', e⟩ := hw
  refine h m ρ' hI B σ' G' H' S' _ fun b ρ2 G2 H2 q S2 x pu => ?_
  cases b with
  | true =>
    show ∃ N : L2.St → Hp → Prop, (∀ σ' H', N σ' H' → ∃ m', m' < m ∧ ∃ ρ' G', I m' ρ' ∧ Sta B σ' ρ' G' H' ∧ Ex G G') ∧ wSs X body { F with nx := N, ct := N, bk := F.nx } σ' H2
    have e2 := e.trans x
    refine ⟨fun σ3 H3 => ∃ m', m' < m ∧ ∃ ρ' G', I m' ρ' ∧ Sta B σ3 ρ' G' H3 ∧ Ex G G', fun _ _ z => z, ?_⟩
    exact q B σ' G2 H2 _ S2 ⟨fun σ3 ρ3 G3 H3 ⟨m', hm, hi⟩ S3 x3 => ⟨m', hm, ρ3, G3, hi, S3, e2.trans x3⟩, L.rt, fun σ3 ρ3 G3 H3 q3 S3 x3 => L.nx σ3 ρ3 G3 H3 q3 S3 (e2.trans x3), fun σ3 ρ3 G3 H3 ⟨m', hm, hi⟩ S3 x3 => ⟨m', hm, ρ3, G3, hi, S3, e2.trans x3⟩⟩
  | false =>
    exact L.nx σ' ρ2 G2 H2 q S2 (e.trans x)

/-! ### defs over data -/
/-- a def that takes data and changes nothing: its promise c, by what is wanted of the result -/
def spD (c : List D → (D → Prop) → Prop) : Sp := fun vs H Q _ => ∃ (G : Hp) (ds : List D) (Z : D → Prop), Ex G H ∧ IsA G ds vs ∧ c ds Z ∧ ∀ v d G' H', Z d → Grow G H G' H' → Is G' d v → Q v H'
/-- a def that draws: the pot first, then data -/
def spP (c : List D → (D → Prop) → Prop) : Sp := fun vs H Q _ => ∃ (G : Hp) (l : Addr) (vr : List V) (ds : List D) (Z : D → Prop), vs = .ref l :: vr ∧ Ex G H ∧ G l = none ∧ PotAt H l ∧ IsA G ds vr ∧ c ds Z ∧ ∀ v d G' H', Z d → GrowP l G H G' H' → Is G' d v → Q v H'
section
variable {p g : Bool} {Q : D → Rho → Prop} {c : List D → (D → Prop) → Prop} {k : Nat} {f : Addr} {fd : FuncData} {ps : List Str} {x : Str} {pp : Pos}
theorem w_call {e : Expr} {es : List Expr} (F : FnOk X.prog X.w X.K X.mg X.base CX0 k f fd ps (spD c)) (hr : Room k X.A) (hg : Gl X x) (hm : X.mg x = some (.ref f)) (hk : PySem.W.keepIn X.K (.ref f) = true) (hb : Binds X.K fd ps [])
    (h : WA p true X (e :: es) ρ fun ds ρ' => c ds fun d => Q d ρ') (hdb : (x == ("__debug__" : Str)) = false := by decide)
    (he : starEach (e :: es) X.env = (false, eval e X.env) :: starEach es X.env := by rfl)
    (hpl : (backTo pos (starEach es X.env)).any (·.1) = false := by rfl) : W p g X (.Call (.Name x pp) (e :: es) [] pos) ρ Q := fun B σ G H S R r => by
  refine wE_of (pe_call F hr hg hm hk hb .nil pass0 pa_w hdb he hpl) ?_
  refine h B σ G H S _ fun vs ds ρ' G' H' q S' y pu i => ?_
  refine ⟨G', ds, fun d => Q d ρ', S'.ex, by rw [List.append_nil]; exact i, q, fun v d G2 H2 z gr iz => ?_⟩
  exact r v d ρ' G2 H2 z (S'.grow gr) (y.trans gr.g) (fun w => ⟨(pu w).1, (pu w).2.trans gr⟩) (is_h (S'.grow gr) iz)
/-- read: own lists may be handed -/
theorem w_callR {e : Expr} {es : List Expr} (F : FnOk X.prog X.w X.K X.mg X.base CX0 k f fd ps (spD c)) (hr : Room k X.A) (hg : Gl X x) (hm : X.mg x = some (.ref f)) (hk : PySem.W.keepIn X.K (.ref f) = true) (hb : Binds X.K fd ps [])
    (h : WA true false X (e :: es) ρ fun ds ρ' => c ds fun d => (sc d).isSome = true ∧ Q d ρ') (hdb : (x == ("__debug__" : Str)) = false := by decide)
    (he : starEach (e :: es) X.env = (false, eval e X.env) :: starEach es X.env := by rfl)
    (hpl : (backTo pos (starEach es X.env)).any (·.1) = false := by rfl) : W p g X (.Call (.Name x pp) (e :: es) [] pos) ρ Q := fun B σ G H S R r => by
  refine wE_of (pe_call F hr hg hm hk hb .nil pass0 pa_w hdb he hpl) ?_
  refine h B σ G H S _ fun vs ds ρ' G' H' q S' y pu i => ?_
  refine ⟨H', ds, fun d => (sc d).isSome = true ∧ Q d ρ', Ex.refl _, by rw [List.append_nil]; exact i, q, fun v d G2 H2 z gr iz => ?_⟩
  have gr2 : Grow G' H' G' H2 := ⟨Ex.refl _, gr.h, S'.ex.trans gr.h, fun a o e => .inl e⟩
  obtain ⟨u, hu⟩ := Option.isSome_iff_exists.mp z.1
  have e1 : v = u := Is.sc hu iz
  subst e1
  exact r v d ρ' G' H2 z.2 (S'.grow gr2) (y.trans gr2.g) (fun w => ⟨(pu rfl).1, (pu rfl).2.trans gr2⟩) (is_h (S'.grow gr2) (Is.of_sc hu))
/-- f(pot, e, ..) -/
theorem w_callP {i : Nat} {y : Str} {py : Pos} {es : List Expr} {lc : Bool} (F : FnOk X.prog X.w X.K X.mg X.base CX0 k f fd ps (spP c)) (hr : Room k X.A) (hg : Gl X x) (hm : X.mg x = some (.ref f)) (hk : PySem.W.keepIn X.K (.ref f) = true) (hb : Binds X.K fd ps [])
    (hN : X.N[i]? = some y) (hv : Vis X.env.scope y) (hd : (y == ("__debug__" : Str)) = false) (hcd : (y == ("__classdict__" : Str)) = false) (hr' : ρ[i]? = some (.own lc .pot))
    (h : WA false true X es ρ fun ds ρ' => ρ'[i]? = some (.own lc .pot) ∧ c ds fun d => Q d ρ') (hdb : (x == ("__debug__" : Str)) = false := by decide)
    (he : starEach (.Name y py :: es) X.env = (false, eval (.Name y py) X.env) :: starEach es X.env := by rfl)
    (hpl : (backTo pos (starEach es X.env)).any (·.1) = false := by rfl) : W false g X (.Call (.Name x pp) (.Name y py :: es) [] pos) ρ Q := fun B σ G H S R r => by
  refine wE_of (pe_call F hr hg hm hk hb .nil pass0 (pa_cons pe_w pa_w he) hdb he hpl) ?_
  refine own_name hN hv hd hcd hr' S fun l el ok => ?_
  refine h B σ G H S _ fun vs ds ρ' G' H' q S' yx pu j => ?_
  obtain ⟨l', el', gl, bl, pt⟩ := S'.ownAt q.1
  have : l' = l := by rw [el] at el'; cases el'; rfl
  subst this
  refine ⟨G', l', vs, ds, fun d => Q d ρ', by rw [List.append_nil], S'.ex, gl, pt, j, q.2, fun v d G2 H2 z gr iz => ?_⟩
  have S2 := S'.growP gr q.1 el
  exact r v d ρ' G2 H2 z S2 (yx.trans gr.g) (fun z => nomatch z) (is_h S2 iz)
end
end
/-- slots at the entry -/
def rho0 (N : List Str) (ds : List D) : Rho := ds.map Slot.val ++ List.replicate (N.length - ds.length) .un
theorem start_get {N : List Str} {vs : List V} {i : Nat} {v : V} (h : vs[i]? = some v) : (L2.start N vs)[i]? = some (some v) := by
  unfold L2.start
  have hi : i < vs.length := (List.getElem?_eq_some_iff.mp h).1
  rw [List.getElem?_append_left (by simpa using hi), List.getElem?_map, h]
  rfl
theorem sta_start {N : List Str} {G H : Hp} {ds : List D} {vs : List V} (ex : Ex G H) (i : IsA G ds vs) : Sta ⟨H, G, [], 0⟩ (L2.start N vs) (rho0 N ds) G H := by
  refine ⟨?_, ex, fun _ _ e _ => e, fun _ e => e, fun _ _ e => .inl e, Ex.refl _, ex, fun l hl => absurd hl (by simp), fun j s v h1 h2 => ?_, fun j k l1 l2 o1 o2 jk h1 h2 => ?_⟩
  · unfold L2.start rho0
    simp [i.length]
  · unfold rho0 at h1
    by_cases hj : j < ds.length
    · rw [List.getElem?_append_left (by simpa using hj), List.getElem?_map] at h1
      cases hd : ds[j]? with
      | none => rw [hd] at h1; cases h1
      | some d =>
        rw [hd] at h1
        cases h1
        obtain ⟨x, hx, ix⟩ := i.get hd
        rw [start_get hx] at h2
        cases h2
        exact ⟨x, rfl, ix⟩
    · rw [List.getElem?_append_right (by simpa using hj), List.getElem?_replicate] at h1
      split at h1 <;> cases h1
      trivial
  · unfold rho0 at h1
    by_cases hj : j < ds.length
    · rw [List.getElem?_append_left (by simpa using hj), List.getElem?_map] at h1
      cases hd : ds[j]? with
      | none => rw [hd] at h1; cases h1
      | some d => rw [hd] at h1; cases h1
    · rw [List.getElem?_append_right (by simpa using hj), List.getElem?_replicate] at h1
      split at h1 <;> cases h1
section
variable {P : Program} {w : World} {K : PySem.W.Frag} {mg : Str → Option Value} {base : Heap}
abbrev CxD (P : Program) (w : World) (K : PySem.W.Frag) (mg : Str → Option Value) (base : Heap) (N : List Str) (qual : Str) (st : Stmt) (f : Addr) (cdv : Value) (A : Around) (outer : List Env) (s : Shared) (H : Hp) (E : XK) : Cx := (cxOf CX0 P w K mg base N qual (defScope st) f cdv A outer s H E).nox
/-- a def over data, by its body -/
theorem fnD {x qual : Str} {st : Stmt} {f : Addr} {fd : FuncData} {N ps : List Str} {k : Nat} {c : List D → (D → Prop) → Prop} (F : Fun K x qual st f fd) (S : FnScope N ps (defScope st)) (len : ∀ ds Z, c ds Z → ds.length = ps.length)
    (h : ∀ (cdv : Value) (A : Around) (outer : List Env) (s : Shared) (H : Hp) (E : XK) (ds : List D) (Z : D → Prop), Room k (A.deeper (envOfC qual (defScope st) s.heap.objs.size f cdv)) → c ds Z →
      WSs (CxD P w K mg base N qual st f cdv A outer s H E) (defBody st) (rho0 N ds) { nx := fun _ => Z .non, rt := Z }) : FnOk P w K mg base CX0 (k + 1) f fd ps (spD c) := by
  refine F.ok S (fun vs H Q E hs => ?_) fun cdv A outer s H vs Q E hr hs => ?_
  · obtain ⟨G, ds, Z, ex, i, hc, _⟩ := hs
    rw [i.length]; exact len ds Z hc
  · obtain ⟨G, ds, Z, ex, i, hc, q⟩ := hs
    refine ⟨_, pss_w, ?_⟩
    have fin : ∀ v d G' H', Z d → Fin ⟨H, G, [], 0⟩ G' H' → Is G' d v → Q v H' := fun v d G' H' z F iv => q v d G' H' z ⟨F.bg, fun a o e => F.fr a o e (by simp), F.ex, F.nw⟩ iv
    exact h cdv A outer s H E ds Z hr hc ⟨H, G, [], 0⟩ _ G H _ (sta_start ex i) ⟨fun σ' ρ' G' H' z S' _ => fin .non .non G' H' z S'.fin rfl, fun v d G' H' z F iv => fin v d G' H' z F iv, fun _ _ _ _ z => z.elim, fun _ _ _ _ z => z.elim⟩
/-- a def that draws -/
def rhoP (N : List Str) (ds : List D) : Rho := .own false .pot :: (ds.map Slot.val ++ List.replicate (N.length - (ds.length + 1)) .un)
theorem sta_startP {N : List Str} {G H : Hp} {ds : List D} {vs : List V} {l : Addr} (ex : Ex G H) (i : IsA G ds vs) (gl : G l = none) (pl : PotAt H l) : Sta ⟨H, G, [l], 0⟩ (L2.start N (.ref l :: vs)) (rhoP N ds) G H := by
  refine ⟨?_, ex, fun _ _ e _ => e, fun _ e => e, fun _ _ e => .inl e, Ex.refl _, ex, fun m hm => ?_, fun j s v h1 h2 => ?_, fun j k l1 l2 o1 o2 jk h1 h2 => ?_⟩
  · unfold L2.start rhoP
    simp [i.length]
  · have e : m = l := by simpa using hm
    subst e
    obtain ⟨a, b, e, r⟩ := id pl
    exact ⟨pl, _, e⟩
  · cases j with
    | zero =>
      cases h1
      rw [start_get (v := .ref l) rfl] at h2
      cases h2
      exact ⟨l, rfl, gl, List.mem_singleton.mpr rfl, pl⟩
    | succ j =>
      have h1 : (ds.map Slot.val ++ List.replicate (N.length - (ds.length + 1)) Slot.un)[j]? = some s := h1
      by_cases hj : j < ds.length
      · rw [List.getElem?_append_left (by simpa using hj), List.getElem?_map] at h1
        cases hd : ds[j]? with
        | none => rw [hd] at h1; cases h1
        | some d =>
          rw [hd] at h1
          cases h1
          obtain ⟨x, hx, ix⟩ := i.get hd
          rw [start_get (vs := .ref l :: vs) (i := j + 1) hx] at h2
          cases h2
          exact ⟨x, rfl, ix⟩
      · rw [List.getElem?_append_right (by simpa using hj), List.getElem?_replicate] at h1
        split at h1 <;> cases h1
        trivial
  · have own0 : ∀ (j : Nat) (lc : Bool) (o : Own), (rhoP N ds)[j]? = some (.own lc o) → j = 0 := fun j lc o h => by
      cases j with
      | zero => rfl
      | succ j =>
        have h : (ds.map Slot.val ++ List.replicate (N.length - (ds.length + 1)) Slot.un)[j]? = some (.own lc o) := h
        by_cases hj : j < ds.length
        · rw [List.getElem?_append_left (by simpa using hj), List.getElem?_map] at h
          cases hd : ds[j]? with
          | none => rw [hd] at h; cases h
          | some d => rw [hd] at h; cases h
        · rw [List.getElem?_append_right (by simpa using hj), List.getElem?_replicate] at h
          split at h <;> cases h
    exact absurd ((own0 j _ _ h1).trans (own0 k _ _ h2).symm) jk
theorem fnP {x qual : Str} {st : Stmt} {f : Addr} {fd : FuncData} {N ps : List Str} {k : Nat} {c : List D → (D → Prop) → Prop} (F : Fun K x qual st f fd) (S : FnScope N ps (defScope st)) (len : ∀ ds Z, c ds Z → ds.length + 1 = ps.length)
    (h : ∀ (cdv : Value) (A : Around) (outer : List Env) (s : Shared) (H : Hp) (E : XK) (ds : List D) (Z : D → Prop), Room k (A.deeper (envOfC qual (defScope st) s.heap.objs.size f cdv)) → c ds Z →
      WSs (CxD P w K mg base N qual st f cdv A outer s H E) (defBody st) (rhoP N ds) { nx := fun _ => Z .non, rt := Z }) : FnOk P w K mg base CX0 (k + 1) f fd ps (spP c) := by
  refine F.ok S (fun vs H Q E hs => ?_) fun cdv A outer s H vs Q E hr hs => ?_
  · obtain ⟨G, l, vr, ds, Z, rfl, ex, gl, pl, i, hc, _⟩ := hs
    have := len ds Z hc
    rw [List.length_cons, i.length]; exact this
  · obtain ⟨G, l, vr, ds, Z, rfl, ex, gl, pl, i, hc, q⟩ := hs
    refine ⟨_, pss_w, ?_⟩
    have fin : ∀ v d G' H', Z d → Fin ⟨H, G, [l], 0⟩ G' H' → Is G' d v → Q v H' := fun v d G' H' z F iv => q v d G' H' z ⟨F.bg, fun a o e n => F.fr a o e (by simpa using n), F.ex, F.nw, F.pot l (List.mem_singleton.mpr rfl)⟩ iv
    exact h cdv A outer s H E ds Z hr hc ⟨H, G, [l], 0⟩ _ G H _ (sta_startP ex i gl pl) ⟨fun σ' ρ' G' H' z S' _ => fin .non .non G' H' z S'.fin rfl, fun v d G' H' z F iv => fin v d G' H' z F iv, fun _ _ _ _ z => z.elim, fun _ _ _ _ z => z.elim⟩
end
end DD

namespace DD
open PySem PySem.Spec PyProof.Rows L2

/-! ### short words -/
section
variable {p g : Bool} {X : Cx} {ρ : Rho} {Q : D → Rho → Prop} {QT : Bool → Rho → Prop} {QA : List D → Rho → Prop}
/-- the name in slot i -/
theorem nm (i : Nat) {x : Str} {pos : Pos} {d : D} (q : Q d ρ) (hN : X.N[i]? = some x := by rfl) (hr : ρ[i]? = some (.val d) := by rfl)
    (hv : Vis X.env.scope x := by first | exact .inl rfl | exact .inr (.inl rfl) | exact .inr (.inr rfl)) (hd : (x == ("__debug__" : Str)) = false := by decide) (hcd : (x == ("__classdict__" : Str)) = false := by decide) : W p g X (.Name x pos) ρ Q :=
  w_name hN hv hd hcd hr q
theorem nmO (i : Nat) {x : Str} {pos : Pos} {lc : Bool} {ds : List D} (q : Q (.lst ds) ρ) (hN : X.N[i]? = some x := by rfl) (hr : ρ[i]? = some (.own lc (.lst ds)) := by rfl)
    (hv : Vis X.env.scope x := by first | exact .inl rfl | exact .inr (.inl rfl) | exact .inr (.inr rfl)) (hd : (x == ("__debug__" : Str)) = false := by decide) (hcd : (x == ("__classdict__" : Str)) = false := by decide) : W p false X (.Name x pos) ρ Q :=
  w_own hN hv hd hcd hr q
theorem nmS (i : Nat) {x : Str} {pos : Pos} {ds : List D} (q : Q (.lst ds) (ρ.set i (.val (.lst ds)))) (hN : X.N[i]? = some x := by rfl) (hr : ρ[i]? = some (.own true (.lst ds)) := by rfl)
    (hv : Vis X.env.scope x := by first | exact .inl rfl | exact .inr (.inl rfl) | exact .inr (.inr rfl)) (hd : (x == ("__debug__" : Str)) = false := by decide) (hcd : (x == ("__classdict__" : Str)) = false := by decide) : W false true X (.Name x pos) ρ Q :=
  w_share hN hv hd hcd hr q
theorem bltin {n : String} {x : Str} {pos : Pos} (hm : X.mg x = none) (q : Q (.ty n) ρ) (hv : bootBuiltins x = some (.type n) := by decide +kernel) (hg : Gl X x := by rfl) (hn : x ≠ "__name__" := by decide) (hd : (x == ("__debug__" : Str)) = false := by decide) : W p g X (.Name x pos) ρ Q :=
  w_const (v := .ty n) (pe_bltn hg hm hv rfl hn hd) rfl q
theorem a1 {e : Expr} (h : W p g X e ρ fun d ρ1 => QA [d] ρ1) (hs : starEach [e] X.env = (false, eval e X.env) :: starEach [] X.env := by rfl) : WA p g X [e] ρ QA := fun B σ G H S R r => by
  refine wA_of (pa_cons pe_w pa_nil hs) ?_
  refine h B σ G H S _ fun v d ρ1 G1 H1 q1 S1 e1 pu1 i1 => ?_
  exact r [v] [d] ρ1 G1 H1 q1 S1 e1 pu1 ⟨v, [], rfl, i1, rfl⟩
theorem aG {e : Expr} {es : List Expr} (h : W p true X e ρ fun d ρ1 => WA p true X es ρ1 fun ds ρ2 => QA (d :: ds) ρ2) (hs : starEach (e :: es) X.env = (false, eval e X.env) :: starEach es X.env := by rfl) : WA p true X (e :: es) ρ QA := a_cons (.inr rfl) h hs
theorem aP {e : Expr} {es : List Expr} (h : W true g X e ρ fun d ρ1 => WA true g X es ρ1 fun ds ρ2 => QA (d :: ds) ρ2) (hs : starEach (e :: es) X.env = (false, eval e X.env) :: starEach es X.env := by rfl) : WA true g X (e :: es) ρ QA := a_cons (.inl rfl) h hs
theorem WA.un {es : List Expr} (h : WA true g X es ρ QA) : WA p g X es ρ QA := fun B σ G H S R r =>
  h B σ G H S R fun v d ρ' G' H' q S' x pu i => r v d ρ' G' H' q S' x (fun _ => pu rfl) i
theorem WT.un {e : Expr} (h : WT true X e ρ QT) : WT p X e ρ QT := fun B σ G H S R r =>
  h B σ G H S R fun b ρ' G' H' q S' x pu => r b ρ' G' H' q S' x (fun _ => pu rfl)
theorem w_binG {a b : Expr} {op : Operator} {pos : Pos}
    (h : W p true X a ρ fun x ρ1 => W p true X b ρ1 fun y ρ2 => Op2 true X (binaryOp op) x y fun z => Q z ρ2) : W p g X (.BinOp a op b pos) ρ Q := w_bin true true (.inr rfl) h
theorem w_cmpG {a b : Expr} {op : CmpOp} {pos : Pos} (h : W p true X a ρ fun x ρ1 => W p true X b ρ1 fun y ρ2 => Op2 true X (compareOp op) x y fun z => Q z ρ2) (hm : behindInMarks op b = false := by first | exact nomark _ | rfl) : W p g X (.Compare a [op] [b] pos) ρ Q := w_cmp true true hm (.inr rfl) h
theorem t_cmpG {a b : Expr} {op : CmpOp} {pos : Pos} (h : W p true X a ρ fun x ρ1 => W p true X b ρ1 fun y ρ2 => Op2 true X (compareOp op) x y fun z => ∃ k, z = .bl k ∧ QT k ρ2) (hm : behindInMarks op b = false := by first | exact nomark _ | rfl) : WT p X (.Compare a [op] [b] pos) ρ QT := t_cmp true true hm (.inr rfl) h
/-- compared as read: pure -/
theorem w_cmpR {a b : Expr} {op : CmpOp} {pos : Pos} (h : W true false X a ρ fun x ρ1 => W true false X b ρ1 fun y ρ2 => Op2 false X (compareOp op) x y fun z => Q z ρ2) (hm : behindInMarks op b = false := by first | exact nomark _ | rfl) : W p g X (.Compare a [op] [b] pos) ρ Q := W.un (w_cmp false false hm (.inl rfl) h)
theorem t_cmpR {a b : Expr} {op : CmpOp} {pos : Pos} (h : W true false X a ρ fun x ρ1 => W true false X b ρ1 fun y ρ2 => Op2 false X (compareOp op) x y fun z => ∃ k, z = .bl k ∧ QT k ρ2) (hm : behindInMarks op b = false := by first | exact nomark _ | rfl) : WT p X (.Compare a [op] [b] pos) ρ QT := WT.un (t_cmp false false hm (.inl rfl) h)
/-- a op1 b op2 c, ints -/
theorem w_chain {a b c : Expr} {op op' : CmpOp} {pos : Pos} (h : W true true X a ρ fun x ρ1 => W true true X b ρ1 fun y ρ2 => Op2 true X (compareOp op) x y fun z => ∃ k, z = .bl k ∧ if k = true then W true true X c ρ2 fun u ρ3 => Op2 true X (compareOp op') y u fun w => Q w ρ3 else Q (.bl false) ρ2)
    (hm : lastMarks [op, op'] [b, c] = false := by with_unfolding_all rfl) : W p g X (.Compare a [op, op'] [b, c] pos) ρ Q := W.un fun B σ G H S R r => by
  refine wE_of (pe_chain op_any op_any pe_w pe_w pe_w hm) ?_
  refine two (p := true) (p1 := true) (.inr rfl) h S fun v u x y ρ' G' H' q S' e pu i1 i2 => ?_
  refine q G' H' v u _ S'.ex i1 i2 fun w z G2 H2 hz gr iz => ?_
  obtain ⟨k, rfl, hk⟩ := hz
  refine ⟨k, iz, ?_⟩
  have S2 := S'.grow gr
  cases k with
  | true =>
    refine hk B σ G2 H2 S2 _ fun t d ρ3 G3 H3 q3 S3 e3 pu3 i3 => ?_
    refine q3 G3 H3 u t R S3.ex (Is.mono (gr.g.trans e3) _ _ i2) i3 fun w2 z2 G4 H4 hz4 gr4 iz4 => ?_
    exact r w2 z2 ρ3 G4 H4 hz4 (S3.grow gr4) (((e.trans gr.g).trans e3).trans gr4.g) (fun z => ⟨(pu3 rfl).1.trans (pu rfl).1, (((pu rfl).2.trans gr).trans (pu3 rfl).2).trans gr4⟩) (is_h (S3.grow gr4) iz4)
  | false => exact r _ _ ρ' G2 H2 hk S2 (e.trans gr.g) (fun z => ⟨(pu rfl).1, (pu rfl).2.trans gr⟩) (is_h S2 rfl)
/-- e.f, a field -/
theorem IsF.get {H : Hp} {f : Str} : ∀ {fs : List (Str × D)} {gs : List (Str × V)} {d : D}, IsF H fs gs → fs.lookup f = some d → ∃ v, gs.lookup f = some v ∧ Is H d v
  | [], _, _, _, h => by cases h
  | (k, e) :: fs, _, d, ⟨x, r, e1, e2, e3⟩, h => by
    subst e1
    show ∃ v, List.lookup f ((k, x) :: r) = some v ∧ _
    rw [List.lookup_cons] at h ⊢
    cases hk : f == k with
    | true => rw [hk] at h; cases h; exact ⟨x, rfl, e2⟩
    | false => rw [hk] at h; exact IsF.get e3 h
theorem IsF.no {H : Hp} {f : Str} : ∀ {fs : List (Str × D)} {gs : List (Str × V)}, IsF H fs gs → fs.lookup f = none → gs.lookup f = none
  | [], _, h, _ => by cases h; rfl
  | (k, e) :: fs, _, ⟨x, r, e1, e2, e3⟩, h => by
    subst e1
    show List.lookup f ((k, x) :: r) = none
    rw [List.lookup_cons] at h ⊢
    cases hk : f == k with
    | true => rw [hk] at h; cases h
    | false => rw [hk] at h; exact IsF.no e3 h
theorem w_fld {e : Expr} {f : Str} {pos : Pos} (h : W p g X e ρ fun x ρ1 => ∃ C fs d, x = .obj C fs ∧ Cls X.K C ∧ NoAttr X.K C f ∧ fs.lookup f = some d ∧ Q d ρ1) (hb : attributeBase e f X.env (eval e X.env) = eval e X.env := by rfl) : W p g X (.Attribute e f pos) ρ Q := fun B σ G H S R r => by
  refine wE_of (pe_fld pe_w hb) ?_
  refine h B σ G H S _ fun v x ρ' G' H' q S' y pu i => ?_
  obtain ⟨C, fs, d, rfl, hc, hn, hf, q⟩ := q
  obtain ⟨a, dx, gs, rfl, e2, e3⟩ := i
  obtain ⟨u, hu, iu⟩ := e3.get hf
  refine ⟨a, C, dx, gs, u, rfl, ?_, hc, hn, hu, r u d ρ' G' H' q S' y pu iu⟩
  cases g with
  | true => exact S'.ex _ _ e2
  | false => exact e2
/-- a text's parts -/
theorem w_callD {c : List D → (D → Prop) → Prop} {k : Nat} {f : Addr} {fd : FuncData} {ps : List Str} {x : Str} {pp pos : Pos} {e : Expr} {es : List Expr}
    (F : FnOk X.prog X.w X.K X.mg X.base CX0 k f fd ps (spD c)) (hm : X.mg x = some (.ref f)) (hk : PySem.W.keepIn X.K (.ref f) = true) (hb : Binds X.K fd ps []) (hr : Room k X.A)
    (h : WA p true X (e :: es) ρ fun ds ρ' => c ds fun d => Q d ρ') (hg : Gl X x := by rfl) (hdb : (x == ("__debug__" : Str)) = false := by decide)
    (he : starEach (e :: es) X.env = (false, eval e X.env) :: starEach es X.env := by rfl)
    (hpl : (backTo pos (starEach es X.env)).any (·.1) = false := by rfl) : W p g X (.Call (.Name x pp) (e :: es) [] pos) ρ Q := w_call F hr hg hm hk hb h hdb he hpl
end
/-- a def as its callers know it -/
structure Df (P : Program) (w : World) (K : PySem.W.Frag) (mg : Str → Option Value) (base : Heap) (k : Nat) (x : Str) (ps : List Str) (sp : Sp) : Prop where
  ex : ∃ f fd, FnOk P w K mg base CX0 k f fd ps sp ∧ mg x = some (.ref f) ∧ PySem.W.keepIn K (.ref f) = true ∧ Binds K fd ps []
section
variable {p g : Bool} {X : Cx} {ρ : Rho} {Q : D → Rho → Prop} {c : List D → (D → Prop) → Prop} {k : Nat} {ps : List Str} {x : Str} {pp pos : Pos} {e : Expr} {es : List Expr}
theorem call (F : Df X.prog X.w X.K X.mg X.base k x ps (spD c)) (hr : Room k X.A) (h : WA p true X (e :: es) ρ fun ds ρ' => c ds fun d => Q d ρ') (hg : Gl X x := by rfl) (hdb : (x == ("__debug__" : Str)) = false := by decide)
    (he : starEach (e :: es) X.env = (false, eval e X.env) :: starEach es X.env := by rfl)
    (hpl : (backTo pos (starEach es X.env)).any (·.1) = false := by rfl) : W p g X (.Call (.Name x pp) (e :: es) [] pos) ρ Q := by
  obtain ⟨f, fd, F, hm, hk, hb⟩ := F.ex
  exact w_call F hr hg hm hk hb h hdb he hpl
theorem callR (F : Df X.prog X.w X.K X.mg X.base k x ps (spD c)) (hr : Room k X.A) (h : WA true false X (e :: es) ρ fun ds ρ' => c ds fun d => (sc d).isSome = true ∧ Q d ρ') (hg : Gl X x := by rfl) (hdb : (x == ("__debug__" : Str)) = false := by decide)
    (he : starEach (e :: es) X.env = (false, eval e X.env) :: starEach es X.env := by rfl)
    (hpl : (backTo pos (starEach es X.env)).any (·.1) = false := by rfl) : W p g X (.Call (.Name x pp) (e :: es) [] pos) ρ Q := by
  obtain ⟨f, fd, F, hm, hk, hb⟩ := F.ex
  exact w_callR F hr hg hm hk hb h hdb he hpl
theorem callP (i : Nat) {y : Str} {py : Pos} {lc : Bool} (F : Df X.prog X.w X.K X.mg X.base k x ps (spP c)) (hr : Room k X.A) (h : WA false true X es ρ fun ds ρ' => ρ'[i]? = some (.own lc .pot) ∧ c ds fun d => Q d ρ') (hN : X.N[i]? = some y := by rfl) (hr' : ρ[i]? = some (.own lc .pot) := by rfl)
    (hv : Vis X.env.scope y := by first | exact .inl rfl | exact .inr (.inl rfl) | exact .inr (.inr rfl)) (hd : (y == ("__debug__" : Str)) = false := by decide) (hcd : (y == ("__classdict__" : Str)) = false := by decide) (hg : Gl X x := by rfl)
    (hdb : (x == ("__debug__" : Str)) = false := by decide)
    (he : starEach (.Name y py :: es) X.env = (false, eval (.Name y py) X.env) :: starEach es X.env := by rfl)
    (hpl : (backTo pos (starEach es X.env)).any (·.1) = false := by rfl) : W false g X (.Call (.Name x pp) (.Name y py :: es) [] pos) ρ Q := by
  obtain ⟨f, fd, F, hm, hk, hb⟩ := F.ex
  exact w_callP F hr hg hm hk hb hN hv hd hcd hr' h hdb he hpl
end
end DD

namespace DD
open PySem PySem.Spec PyProof.Rows L2

/-! ### comprehensions with two fors -/
def del (D : Addr) (H : Hp) : Hp := fun a => if a = D then none else H a
theorem del_same {D : Addr} {H : Hp} : del D H D = none := by simp [del]
theorem del_ne {D a : Addr} {H : Hp} (h : a ≠ D) : del D H a = H a := by simp [del, h]
theorem Grow.del {G H G' H' : Hp} {D : Addr} (g : Grow G H G' H') (hg : G' D = none) : Grow G (del D H) G' (del D H') := by
  refine ⟨g.g, fun a o e => ?_, fun a o e => ?_, fun a o e => ?_⟩
  · have q : a ≠ D := by rintro rfl; rw [del_same] at e; cases e
    rw [del_ne q] at e ⊢; exact g.h a o e
  · have q : a ≠ D := by rintro rfl; rw [hg] at e; cases e
    rw [del_ne q]; exact g.x a o e
  · rcases g.n a o e with z | z
    · exact .inl z
    · by_cases q : a = D
      · subst q; exact .inr del_same
      · rw [del_ne q]; exact .inr z
theorem Grow.undel {G H : Hp} {D : Addr} (x : Ex G H) (hg : G D = none) : Grow G (DD.del D H) G H := by
  refine ⟨Ex.refl _, fun a o e => ?_, x, fun a o e => .inl e⟩
  have q : a ≠ D := by rintro rfl; rw [del_same] at e; cases e
  rw [del_ne q] at e; exact e
theorem del_none {D : Addr} {H : Hp} (h : H D = none) : DD.del D H = H := by
  funext a
  by_cases q : a = D
  · subst q; rw [del_same, h]
  · rw [del_ne q]
def cI (X : Cx) (scope : Scope) (tg e : Expr) : TI := fun σ H Q => ∀ s H0 C cl fp, wI (Blk X scope s H0 C cl fp) tg e σ H Q
theorem pi_c {X : Cx} {scope : Scope} {tg e : Expr} (s : Shared) (H0 : Hp) (C : Addr) (cl : List (Str × Addr)) (fp : List Addr) : PI (X.blk s H0 scope (compEnvC scope cl C X.env) fp) tg e (cI X scope tg e) := ⟨fun pins s1 σ H Q I h => h s H0 C cl fp pins s1 I⟩
theorem g_none {G H G' H' : Hp} {D : Addr} {u : HO} (g : Grow G H G' H') (gD : G D = none) (hD : H D = some u) : G' D = none := by
  cases r : G' D with
  | none => rfl
  | some v =>
    rcases g.n D v r with q | q
    · rw [gD] at q; cases q
    · rw [hD] at q; cases q
/-- the loop over J by a word Pv of the turn and the heap -/
theorem it_go {J : It} {n : Nat} {C : Hp → Prop} {Y : Nat → Hp → V → Hp → Prop} (w : Walk J n C Y) {Qd : Hp → Prop} {St : Hp → (Hp → Prop) → V → Prop} {H0 : Hp} (Pv : Nat → Hp → Prop) (h0 : Pv 0 H0) (hG : ∀ i H, i ≤ n → Pv i H → C H)
    (hs : ∀ i x H H', i < n → Pv i H → Y i H x H' → St H' (Pv (i + 1)) x) (hd : ∀ H, Pv n H → Qd H) :
    ∃ W : Nat → Nat → Hp → Prop, (∃ m, W 0 m H0) ∧ ∀ i m H, W i m H → (J.stop i H ∧ Qd H) ∨ (J.go i H ∧ ∃ Nx : Hp → Prop, (∀ H', Nx H' → ∃ m', m' < m ∧ W (i + 1) m' H') ∧ ∀ x H', J.yld i H x H' → St H' Nx x) := by
  refine ⟨fun i m H => m = n - i ∧ i ≤ n ∧ Pv i H, ⟨n, by simp, Nat.zero_le _, h0⟩, ?_⟩
  rintro i m H ⟨rfl, hi, p⟩
  have q := hG i H hi p
  by_cases hlt : i < n
  · refine .inr ⟨w.goes i H hlt q, Pv (i + 1), fun H' p' => ⟨n - (i + 1), by omega, rfl, hlt, p'⟩, fun x H' y => hs i x H H' hlt p (w.yields i H x H' hlt q y)⟩
  · have e : i = n := by omega
    subst e
    exact .inl ⟨w.stops H q, hd H p⟩
theorem wipe_idem (σ : L2.St) (vs : List Nat) : wipe (wipe σ vs) vs = wipe σ vs := by
  apply List.ext_getElem?
  intro j
  rw [wipe_get, wipe_length, wipe_get]
  by_cases hj : j ∈ vs
  · simp [hj]
  · simp [hj]
section
variable {p g : Bool} {X : Cx} {ρ : Rho} {Q : D → Rho → Prop}
theorem x_lc2 {elt tg iter tg1 iter1 : Expr} {scope : Scope} {own : List (Str × Nat)} {T T1 : Tg} (inner : DD.D → List DD.D) (f : DD.D → DD.D → DD.D) (hT : ∀ i ∈ T.slots, i ∈ own.map (·.2)) (hT1 : ∀ i ∈ T1.slots, i ∈ own.map (·.2))
    (h : WI p X tg iter ρ fun ds ρ1 => (ds.flatMap fun d => (inner d).map (f d)).length ≤ 40000 ∧ (∀ d ∈ ds, ∃ ρi, T.eff d (wipeR ρ1 (own.map (·.2))) = some ρi ∧ (∀ s H C cl fp, WI true (Blk X scope s H C cl fp) tg1 iter1 ρi fun es _ => es = inner d) ∧
      ∀ e ∈ inner d, ∃ ρj, T1.eff e (wipeR ρi T1.slots) = some ρj ∧ ∀ s H C cl fp, W true true (Blk X scope s H C cl fp) elt ρj fun y _ => y = f d e) ∧ Q (.lst (ds.flatMap fun d => (inner d).map (f d))) ρ1) :
    WX p g (tLc2 (wI X tg iter) (T.g X.K) tYes (cI X scope tg1 iter1) (T1.g X.K) tYes (cE X scope elt) (own.map (·.2)) T1.slots) ρ Q := fun B σ G H S R r => by
  refine h B σ G H S _ fun J ds ρ1 G1 H1 q S1 x pu wk D hD => ?_
  obtain ⟨hl, turn, q⟩ := q
  have G1D : G1 D = none := by
    cases r : G1 D with
    | none => rfl
    | some u => rw [S1.ex D u r] at hD; cases hD
  have hsz : ∀ (l : List DD.D), l.length ≤ (ds.flatMap fun d => (inner d).map (f d)).length → l.length < sizeLine := fun l hh => Nat.lt_of_le_of_lt (Nat.le_trans hh hl) (by decide)
  refine it_go wk (fun i H => LcW G1 H1 D ((ds.take i).flatMap fun d => (inner d).map (f d)) H) ?_ (fun i H _ h => ?_) (fun i x H H' hi h y => ?_) fun Hc h => ?_
  · exact ⟨hD, G1, [], upd_same, G1D, Grow.own S1.ex hD, rfl⟩
  · obtain ⟨_, Gi, acc, _, _, gr, _⟩ := h
    exact gr.g.trans gr.x
  · obtain ⟨_, Gi, acc, hacc, gD, gr, ia⟩ := h
    have hget : ds[i]? = some ds[i] := List.getElem?_eq_getElem hi
    obtain ⟨G2, gr2, ix⟩ := y _ hget Gi gr.g gr.x
    obtain ⟨ρi, he, hin, hel⟩ := turn ds[i] (List.getElem_mem hi)
    have g2D := g_none gr2 gD hacc
    have hacc2 := gr2.h _ _ hacc
    have grA := gr.trans gr2
    have grD : Grow G1 H1 G2 (del D H') := by
      have z := grA.del (D := D) g2D
      rw [del_none hD] at z
      exact z
    refine Tg.run' he ((S1.grow grD).wipe (own.map (·.2))) grA.x ix (fun σ2 S2 hwp => ?_) fun τ us j o hj => wipe_set τ us j o hj
    refine ⟨(hwp _ hT).trans (wipe_idem _ _), ?_⟩
    show cI X scope tg1 iter1 σ2 H' _
    intro s H0 C cl fp
    refine hin s H0 C cl fp B σ2 G2 H' (S2.grow (Grow.undel grA.x g2D)) _ fun J1 es ρ4 G4 H4 ee S4 x4 pu4 wk1 => ?_
    obtain ⟨rfl, gr4⟩ := pu4 rfl
    subst ee
    have g4D := g_none gr4 g2D hacc2
    have hacc4 := gr4.h _ _ hacc2
    have Sd : Sta B σ2 ρ4 G4 (del D H4) := S2.grow (gr4.del g4D)
    have grE : Grow G1 H1 G4 (del D H4) := grD.trans (gr4.del g4D)
    refine it_go (St := fun H' Nx1 x => T1.g X.K x (wipe σ2 T1.slots) H' fun σ3 H5 => wipe σ3 T1.slots = wipe σ2 T1.slots ∧ tYes σ3 H5 fun b H6 => if b = true then cE X scope elt σ3 H6 fun y H7 => ∃ acc, H7 D = some (.lst acc) ∧ acc.length < sizeLine ∧ Nx1 (L2.upd H7 D (.lst (acc ++ [y]))) else Nx1 H6) wk1
      (fun j H => LcW G4 (del D H4) D (((ds.take i).flatMap fun d => (inner d).map (f d)) ++ ((inner ds[i]).take j).map (f ds[i])) H) ?_ (fun j Hj _ h => ?_) (fun j z Hj Hj' hj h yj => ?_) fun Hc h => ?_
    · refine ⟨del_same, G4, acc, hacc4, g4D, Grow.undel S4.ex g4D, ?_⟩
      rw [List.take_zero, List.map_nil, List.append_nil]
      exact IsA.mono (gr2.g.trans gr4.g) _ _ ia
    · obtain ⟨_, Gj, accj, _, _, grj, _⟩ := h
      exact grj.g.trans grj.x
    · obtain ⟨_, Gj, accj, haccj, gjD, grj, iaj⟩ := h
      have hgetj : (inner ds[i])[j]? = some (inner ds[i])[j] := List.getElem?_eq_getElem hj
      obtain ⟨G5, gr5, iz⟩ := yj _ hgetj Gj grj.g grj.x
      obtain ⟨ρj, hej, hw⟩ := hel _ (List.getElem_mem hj)
      have g5D := g_none gr5 gjD haccj
      have hacc5 := gr5.h _ _ haccj
      refine Tg.run hej ((Sd.grow (grj.trans gr5)).wipe T1.slots) iz (fun σ3 S3 hwp3 => ?_) fun τ us j o hj => wipe_set τ us j o hj
      refine ⟨(hwp3 _ fun _ h => h).trans (wipe_idem _ _), ?_⟩
      show cE X scope elt σ3 Hj' _
      intro s' H0' C' cl' fp'
      refine hw s' H0' C' cl' fp' B σ3 G5 Hj' S3 _ fun v yv ρ6 G6 H6 e6 S6 x6 pu6 i6 => ?_
      obtain ⟨rfl, gr6⟩ := pu6 rfl
      subst e6
      have g6D := g_none gr6 g5D hacc5
      have hacc6 := gr6.h _ _ hacc5
      refine ⟨accj, hacc6, ?_, del_same, G6, accj ++ [v], upd_same, g6D, ?_, ?_⟩
      · rw [iaj.length]
        refine hsz _ ?_
        rw [List.length_append, List.length_map, List.length_take]
        have e1 : ds = ds.take i ++ ds[i] :: ds.drop (i + 1) := by
          rw [List.getElem_cons_drop, List.take_append_drop]
        have e2 : (ds.flatMap fun d => (inner d).map (f d)).length = ((ds.take i).flatMap fun d => (inner d).map (f d)).length + ((inner ds[i]).length + ((ds.drop (i + 1)).flatMap fun d => (inner d).map (f d)).length) := by
          conv => lhs; rw [e1]
          rw [List.flatMap_append, List.flatMap_cons, List.length_append, List.length_append, List.length_map]
        rw [e2]
        omega
      · have grT := (grj.trans gr5).trans gr6
        refine ⟨grT.g, fun a o e => ?_, fun a o e => ?_, grT.n⟩
        · have q : a ≠ D := by rintro rfl; rw [del_same] at e; cases e
          rw [upd_ne q]; exact grT.h a o e
        · have q : a ≠ D := by rintro rfl; rw [g6D] at e; cases e
          rw [upd_ne q]; exact grT.x a o e
      · rw [List.take_add_one, hgetj]
        show IsA G6 (((ds.take i).flatMap fun d => (inner d).map (f d)) ++ ((inner ds[i]).take j ++ [(inner ds[i])[j]]).map (f ds[i])) (accj ++ [v])
        rw [List.map_append, ← List.append_assoc]
        exact IsA.snoc (IsA.mono (gr5.g.trans gr6.g) _ _ iaj) i6
    · obtain ⟨_, Gj, accj, haccj, gjD, grj, iaj⟩ := h
      refine ⟨hD, Gj, accj, haccj, gjD, grE.trans grj, ?_⟩
      rw [List.take_length] at iaj
      rw [List.take_add_one, hget]
      show IsA Gj ((ds.take i ++ [ds[i]]).flatMap fun d => (inner d).map (f d)) accj
      rw [List.flatMap_append]
      have e : [ds[i]].flatMap (fun d => (inner d).map (f d)) = (inner ds[i]).map (f ds[i]) := by simp
      rw [e]
      exact iaj
  · obtain ⟨_, Gi, acc, hacc, gD, gr, ia⟩ := h
    rw [List.take_length] at ia
    have ex := Ex.new (o := HO.lst acc) gD
    have grF : Grow G1 H1 (L2.upd Gi D (.lst acc)) Hc := ⟨gr.g.trans ex, gr.h, fun a o e => by
      by_cases q : a = D
      · subst q; rw [upd_same] at e; rw [hacc]; exact e
      · rw [upd_ne q] at e; exact gr.x a o e, fun a o e => by
      by_cases q : a = D
      · subst q; exact .inr hD
      · rw [upd_ne q] at e; exact gr.n a o e⟩
    exact r _ _ ρ1 _ Hc q (S1.grow grF) (x.trans grF.g) (fun z => ⟨(pu z).1, (pu z).2.trans grF⟩) (is_h (S1.grow grF) ⟨D, acc, rfl, upd_same, IsA.mono ex _ _ ia⟩)
end
end DD

namespace DD
open PySem PySem.Spec PyProof.Rows L2

section
variable {p g : Bool} {X : Cx} {ρ : Rho} {Q : D → Rho → Prop} {E : DE} {pos : Pos}
/-! ### properties, methods -/
/-- e.f, a property of the class C, by its getter's promise -/
theorem w_prop {C pa ga : Addr} {f : Str} {fd : FuncData} {k : Nat} {c : List D → (D → Prop) → Prop} {e : Expr} (cl : Cls X.K C) (hp : PropOf X.K C f pa ga) (F : FnOk X.prog X.w X.K X.mg X.base CX0 k ga fd ["self"] (spD c)) (hr : Room (k + 1) X.A) (hb : Binds X.K fd ["self"] [])
    (h : W p true X e ρ fun x ρ1 => ∃ fs, x = .obj C fs ∧ c [.obj C fs] fun d => Q d ρ1) (hab : attributeBase e f X.env (eval e X.env) = eval e X.env := by rfl) : W p g X (.Attribute e f pos) ρ Q := fun B σ G H S R r => by
  refine wE_of (pe_prop pe_w cl hp F hr hb .nil pass0 hab) ?_
  refine h B σ G H S _ fun v x ρ' G' H' q S' y pu i => ?_
  obtain ⟨fs, rfl, q⟩ := q
  obtain ⟨a, dx, gs, rfl, e2, e3⟩ := id i
  refine ⟨a, dx, gs, rfl, S'.ex _ _ e2, G', [.obj C fs], fun d => Q d ρ', S'.ex, ⟨.ref a, [], rfl, i, rfl⟩, q, fun v d G2 H2 z gr iz => ?_⟩
  exact r v d ρ' G2 H2 z (S'.grow gr) (y.trans gr.g) (fun w => ⟨(pu w).1, (pu w).2.trans gr⟩) (is_h (S'.grow gr) iz)
/-- e.m() -/
theorem w_meth0 {C f : Addr} {m : Str} {fd : FuncData} {k : Nat} {ps : List Str} {c : List D → (D → Prop) → Prop} {o : Expr} {apos : Pos} {pl : Sem Bool} (cl : Cls X.K C) (hm : Meth X.K C m f) (F : FnOk X.prog X.w X.K X.mg X.base CX0 k f fd ps (spD c)) (hr : Room k X.A) (hb : Binds X.K fd ps [])
    (h : W p true X o ρ fun x ρ1 => ∃ fs, x = .obj C fs ∧ fs.lookup m = none ∧ c [.obj C fs] fun d => Q d ρ1)
    (ht : eval (.Call (.Attribute o m apos) [] [] pos) X.env = (do
      let ov ← eval o X.env
      standAt apos.atName
      let (f, first) ← holding [ov] (getMethod ov m pl)
      callWith pos f first (backTo pos (starEach [] X.env)) (backToKw pos (keywordEach [] X.env))) := by rfl) : W p g X (.Call (.Attribute o m apos) [] [] pos) ρ Q := fun B σ G H S R r => by
  refine wE_of (pe_meth0 (pl := pl) pe_w cl hm F hr hb .nil pass0 ht) ?_
  refine h B σ G H S _ fun v x ρ' G' H' q S' y pu i => ?_
  obtain ⟨fs, rfl, hl, q⟩ := q
  obtain ⟨a, dx, gs, rfl, e2, e3⟩ := id i
  refine ⟨a, dx, gs, rfl, S'.ex _ _ e2, e3.no hl, ?_⟩
  refine ⟨G', [.obj C fs], fun d => Q d ρ', S'.ex, ⟨.ref a, [], rfl, i, rfl⟩, q, fun v d G2 H2 z gr iz => ?_⟩
  exact r v d ρ' G2 H2 z (S'.grow gr) (y.trans gr.g) (fun w => ⟨(pu w).1, (pu w).2.trans gr⟩) (is_h (S'.grow gr) iz)

/-! ### C(e, ..): the promise of __init__ -/
/-- an empty instance at x, made a moment ago; behind it stands with the fields fs -/
def spI (C : Addr) (c : List D → (List (Str × D) → Prop) → Prop) : Sp := fun vs H Q _ => ∃ (x dx : Addr) (H0 G : Hp) (vr : List V) (ds : List D) (Z : List (Str × D) → Prop), vs = .ref x :: vr ∧ H0 x = none ∧ H0 dx = none ∧ dx ≠ x ∧ H = upd (upd H0 dx (.own x)) x (.ins C dx []) ∧
  Ex G H0 ∧ IsA G ds vr ∧ c ds Z ∧ ∀ fs dx' gs G' H', Z fs → Grow G H0 G' H' → G' x = none → H' x = some (.ins C dx' gs) → IsF G' fs gs → Q .non H'
theorem make_go {C : Addr} {c : List D → (List (Str × D) → Prop) → Prop} {B : Base} {σ : L2.St} {ρ' : Rho} {G0 G' H' : Hp} {R : VK} {vs : List V} {ds : List D} {E' : XK} (S' : Sta B σ ρ' G' H') (i : IsA G' ds vs) (q : c ds fun fs => Q (.obj C fs) ρ')
    (r : ∀ (v : V) (d : D) G2 H2, Q d ρ' → Sta B σ ρ' G2 H2 → Grow G' H' G2 H2 → Is G2 d v → R v H2) :
    ∀ x dx, H' x = none → H' dx = none → dx ≠ x → spI C c (.ref x :: vs) (upd (upd H' dx (.own x)) x (.ins C dx [])) (fun v H2 => v = .non ∧ R (.ref x) H2) E' := fun x dx hx hdx ne => by
  refine ⟨x, dx, H', G', vs, ds, fun fs => Q (.obj C fs) ρ', rfl, hx, hdx, ne, rfl, S'.ex, i, q, fun fs dx' gs G2 H2 z gr gx hx2 hf => ⟨rfl, ?_⟩⟩
  have ex := Ex.new (o := HO.ins C dx' gs) gx
  have gr2 : Grow G' H' (L2.upd G2 x (.ins C dx' gs)) H2 := ⟨gr.g.trans ex, gr.h, fun a o e => by
    by_cases q : a = x
    · subst q; rw [upd_same] at e; rw [hx2]; exact e
    · rw [upd_ne q] at e; exact gr.x a o e, fun a o e => by
    by_cases q : a = x
    · subst q; exact .inr hx
    · rw [upd_ne q] at e; exact gr.n a o e⟩
  exact r (.ref x) (.obj C fs) _ H2 z (S'.grow gr2) gr2 ⟨x, dx', gs, rfl, upd_same, IsF.mono ex _ _ hf⟩
theorem w_make {C f : Addr} {x : Str} {pp : Pos} {fd : FuncData} {k : Nat} {ps : List Str} {c : List D → (List (Str × D) → Prop) → Prop} {e : Expr} {es : List Expr} (M : Mk X.K C f) (F : FnOk X.prog X.w X.K X.mg X.base CX0 k f fd ps (spI C c)) (hr : Room (k + 1) X.A) (hm : X.mg x = some (.ref C)) (hb : Binds X.K fd ps [])
    (h : WA p true X (e :: es) ρ fun ds ρ' => c ds fun fs => Q (.obj C fs) ρ') (hg : Gl X x := by rfl) (hdb : (x == ("__debug__" : Str)) = false := by decide)
    (he : starEach (e :: es) X.env = (false, eval e X.env) :: starEach es X.env := by rfl) (hpl : (backTo pos (starEach es X.env)).any (·.1) = false := by rfl) : W p g X (.Call (.Name x pp) (e :: es) [] pos) ρ Q := fun B σ G H S R r => by
  refine wE_of (pe_make M F hr hg hm hb .nil pass0 pa_w hdb he hpl) ?_
  refine h B σ G H S _ fun vs ds ρ' G' H' q S' y pu i => ?_
  have z := make_go (Q := Q) (G0 := G) (R := R) (E' := E0) S' i q fun v d G2 H2 z S2 gr iz => r v d ρ' G2 H2 z S2 (y.trans gr.g) (fun w => ⟨(pu w).1, (pu w).2.trans gr⟩) (is_h S2 iz)
  intro x dx hx hdx ne
  have z2 := z x dx hx hdx ne
  rw [List.append_nil]
  exact z2
/-- self.f = e, in __init__ -/
theorem IsF.put {H : Hp} {f : Str} {d : D} {v : V} (i : Is H d v) : ∀ {fs : List (Str × D)} {gs : List (Str × V)}, IsF H fs gs → fs.lookup f = none → IsF H (fs ++ [(f, d)]) (putF f v gs)
  | [], _, h, _ => by cases h; exact ⟨v, [], rfl, i, rfl⟩
  | (k, e) :: fs, _, ⟨x, r, e1, e2, e3⟩, h => by
    subst e1
    rw [List.lookup_cons] at h
    cases hk : f == k with
    | true => rw [hk] at h; cases h
    | false =>
      rw [hk] at h
      have ne : ¬ k = f := fun q => by subst q; simp at hk
      show IsF H ((k, e) :: (fs ++ [(f, d)])) (if k = f then (k, v) :: r else (k, x) :: putF f v r)
      rw [if_neg ne]
      exact ⟨x, _, rfl, e2, IsF.put i e3 h⟩
theorem IsF.length {H : Hp} : ∀ {fs : List (Str × D)} {gs : List (Str × V)}, IsF H fs gs → gs.length = fs.length
  | [], _, h => by cases h; rfl
  | (k, e) :: fs, _, ⟨x, r, e1, e2, e3⟩ => by subst e1; simp [IsF.length e3]
theorem s_fld {x f : Str} {e : Expr} {i : Nat} {p1 p2 : Pos} (hN : X.N[i]? = some x) (hv : Vis X.env.scope x) (hd : (x == ("__debug__" : Str)) = false) (hcd : (x == ("__classdict__" : Str)) = false)
    (h : W false true X e ρ fun d ρ' => ∃ C fs, ρ'[i]? = some (.own true (.ins C fs)) ∧ Cls X.K C ∧ NoAttr X.K C f ∧ fs.length < 1000 ∧ fs.lookup f = none ∧ E.nx (ρ'.set i (.own true (.ins C (fs ++ [(f, d)])))))
    (hs : swapsWith e (some (.Attribute (.Name x p1) f p2)) pos.line X.env = pure false := by rfl) : WS X (.Assign [.Attribute (.Name x p1) f p2] e pos) ρ E := fun B σ G H F S L => by
  refine wS_of (ps_fld pe_w pe_w hs) ?_
  refine h B σ G H S _ fun v d ρ' G' H' q S' y pu iv => ?_
  obtain ⟨C, fs, hr, hc, hn, hl, hl2, q⟩ := q
  refine own_name hN hv hd hcd hr S' fun l el ok => ?_
  obtain ⟨lx, dx, gs, h1, h2⟩ := ok
  refine ⟨l, C, dx, gs, rfl, h1, hc, hn, by rw [h2.length]; exact hl, ?_⟩
  exact L.nx σ _ G' _ q (S'.upd hr el ⟨lx, dx, _, upd_same, IsF.put iv h2 hl2⟩) y

/-! ### slices of lists -/
def cutD (xs : List D) (lo hi : Option Int) : List D := (xs.drop (HT.sIx xs.length 0 lo)).take (HT.sIx xs.length xs.length hi - HT.sIx xs.length 0 lo)
theorem IsA.cut {H : Hp} {ds : List D} {xs : List V} (h : IsA H ds xs) (lo hi : Option Int) : IsA H (cutD ds lo hi) (cutV xs lo hi) := by
  unfold cutD cutV
  rw [h.length]
  exact (h.drop _).take _
/-- a part of a slice -/
def WO (X : Cx) (e : Option Expr) (ρ : Rho) (Q : Option Int → Prop) : Prop := match e with
  | none => Q none
  | some e => W true true X e ρ fun d _ => ∃ i, d = .int i ∧ Q (some i)
def wO (X : Cx) (e : Option Expr) : TO := match e with
  | none => tNoPart
  | some e => tPart (wE X e)
theorem po_w {X : Cx} : ∀ {e : Option Expr}, PO X e (wO X e)
  | none => po_none
  | some e => po_some pe_w
theorem wo_go {e : Option Expr} {QO : Option Int → Prop} (h : WO X e ρ QO) {B : Base} {σ : L2.St} {G H : Hp} (S : Sta B σ ρ G H) {R : Option Int → Hp → Prop} (r : ∀ o G' H', QO o → Sta B σ ρ G' H' → Grow G H G' H' → R o H') : wO X e σ H R := by
  cases e with
  | none => exact r none G H h S (Grow.refl S.ex)
  | some e =>
    refine h B σ G H S _ fun v d ρ' G' H' q S' y pu i => ?_
    obtain ⟨rfl, gr⟩ := pu rfl
    obtain ⟨n, rfl, q⟩ := q
    exact ⟨n, i, r (some n) G' H' q S' gr⟩
theorem w_slL {e : Expr} {lo hi : Option Expr} {p2 : Pos} (h : W p true X e ρ fun d ρ1 => ∃ xs, d = .lst xs ∧ WO X lo ρ1 fun l => WO X hi ρ1 fun u => Q (.lst (cutD xs l u)) ρ1) : W p g X (.Subscript e (.Slice lo hi none p2) pos) ρ Q := fun B σ G H S R r => by
  refine wE_of (pe_slice sl_list pe_w po_w po_w) ?_
  refine h B σ G H S _ fun v d ρ1 G1 H1 q S1 y pu i => ?_
  obtain ⟨xs, rfl, q⟩ := q
  refine wo_go q S1 fun l G2 H2 q2 S2 gr2 => ?_
  refine wo_go q2 S2 fun u G3 H3 q3 S3 gr3 => ?_
  have i3 := Is.mono (gr2.g.trans gr3.g) _ _ i
  obtain ⟨a, as, rfl, e2, e3⟩ := i3
  refine ⟨a, as, rfl, .inl (.inl (S3.ex _ _ e2)), fun b hb => ?_⟩
  have gr := Grow.new (o := .lst (cutV as l u)) S3.ex hb
  exact r _ (.lst (cutD xs l u)) ρ1 _ _ q3 (S3.grow gr) (((y.trans gr2.g).trans gr3.g).trans gr.g) (fun z => ⟨(pu z).1, (((pu z).2.trans gr2).trans gr3).trans gr⟩) (is_h (S3.grow gr) ⟨b, _, rfl, upd_same, IsA.mono gr.g _ _ (e3.cut l u)⟩)

/-! ### sorted -/
theorem c_sorted {g : Bool} {Z : D → Prop} {ns : List Int} (q : ∀ ms : List Int, ms.Perm ns → ms.Pairwise (· ≤ ·) → Z (.lst (ms.map D.int))) : OpC g X (.builtin "sorted") [.lst (ns.map D.int)] Z := by
  intro G H vs R ex i k
  obtain ⟨v, rfl, a, xs, rfl, e2, e3⟩ := isA_one (isA_any ex i)
  have e4 := e3.ints
  subst e4
  refine ⟨_, cr_sortedI, a, ns, rfl, .inl (.inl e2), fun ms b pm pw hb => ?_⟩
  have gr := Grow.new (o := .lst (ms.map V.int)) ex hb
  exact k _ (.lst (ms.map D.int)) _ _ (q ms pm pw) gr ⟨b, _, rfl, upd_same, IsA.of_ints⟩
/-- sorted(d), d an own dict with int keys -/
theorem keys_of {H : Hp} : ∀ {kvs : List (Key × D)} {ks : List (Key × V)}, IsK H kvs ks → ks.map (·.1) = kvs.map (·.1)
  | [], _, h => by cases h; rfl
  | (k, d) :: kvs, _, ⟨x, r, e1, e2, e3⟩ => by subst e1; simp [keys_of e3]
theorem w_sortedDic {i : Nat} {x y : Str} {pp p2 : Pos} {lc : Bool} {kvs : List (Key × D)} {ns : List Int} (hc : X.calm = true) (hms : X.mg "sorted" = none) (hr : ρ[i]? = some (.own lc (.dic kvs))) (hk : kvs.map (·.1) = ns.map Sum.inl) (h64 : ns.length < 64)
    (q : ∀ ms : List Int, ms.Perm ns → ms.Pairwise (· ≤ ·) → Q (.lst (ms.map D.int)) ρ) (hN : X.N[i]? = some x := by rfl) (hv : Vis X.env.scope x := by first | exact .inl rfl | exact .inr (.inl rfl) | exact .inr (.inr rfl)) (hd : (x == ("__debug__" : Str)) = false := by decide) (hcd : (x == ("__classdict__" : Str)) = false := by decide) (hg : Gl X "sorted" := by rfl)
    (he : starEach [.Name x p2] X.env = (false, eval (.Name x p2) X.env) :: starEach [] X.env := by rfl) (hpl : (backTo pos (starEach [] X.env)).any (·.1) = false := by rfl) : W p g X (.Call (.Name "sorted" pp) [.Name x p2] [] pos) ρ Q := fun B σ G H S R r => by
  refine wE_of (pe_callB (call_sortedDI hc) hg hms (by decide +kernel) (pa_cons pe_w pa_nil he) (by decide) (by decide) he hpl) ?_
  refine own_name hN hv hd hcd hr S fun l el ok => ?_
  obtain ⟨ks, h1, h2⟩ := ok
  refine ⟨l, ks, ns, rfl, .inl h1, (keys_of h2).trans hk, h64, fun ms b pm pw hb => ?_⟩
  have gr := Grow.new (o := .lst (ms.map V.int)) S.ex hb
  exact r _ (.lst (ms.map D.int)) ρ _ _ (q ms pm pw) (S.grow gr) gr.g (fun _ => ⟨rfl, gr⟩) (is_h (S.grow gr) ⟨b, _, rfl, upd_same, IsA.of_ints⟩)

/-! ### dicts with whole numbers as keys -/
theorem IsK.val {H : Hp} {k : Key} : ∀ {kvs : List (Key × D)} {ks : List (Key × V)}, IsK H kvs ks → (∃ d v, (kvs.find? fun e => decide (e.1 = k)).map (·.2) = some d ∧ valV ks k = some v ∧ Is H d v) ∨ ((kvs.find? fun e => decide (e.1 = k)).map (·.2) = none ∧ valV ks k = none)
  | [], _, h => by cases h; exact .inr ⟨rfl, rfl⟩
  | (j, e) :: kvs, _, ⟨x, r, e1, e2, e3⟩ => by
    subst e1
    unfold valV
    rw [List.find?_cons, List.find?_cons]
    by_cases hj : j = k
    · simp only [hj, decide_true]
      exact .inl ⟨e, x, rfl, rfl, e2⟩
    · simp only [hj, decide_false]
      exact IsK.val e3
def lookD (kvs : List (Key × D)) (k : Key) : Option D := (kvs.find? fun e => decide (e.1 = k)).map (·.2)
/-- e in d, e not in d: d an own dict -/
theorem t_inDic {i : Nat} {x : Str} {e : Expr} {p2 : Pos} {lc : Bool} {QT : Bool → Rho → Prop} (hu : X.A.units + 1 < cLine) (h : W true true X e ρ fun d ρ1 => ∃ n kvs, d = .int n ∧ ρ1[i]? = some (.own lc (.dic kvs)) ∧ QT (lookD kvs (.inl n)).isSome ρ1)
    (hN : X.N[i]? = some x := by rfl) (hv : Vis X.env.scope x := by first | exact .inl rfl | exact .inr (.inl rfl) | exact .inr (.inr rfl)) (hd : (x == ("__debug__" : Str)) = false := by decide) (hcd : (x == ("__classdict__" : Str)) = false := by decide) (hm : behindInMarks .In (.Name x p2) = false := by rfl) : WT p X (.Compare e [.In] [.Name x p2] pos) ρ QT := fun B σ G H S R r => by
  refine wT_of (pt_cmp (pc_din hu pe_w pe_w) hm) ?_
  refine h B σ G H S _ fun v d ρ1 G1 H1 q S1 y pu iv => ?_
  obtain ⟨n, kvs, rfl, hr, q⟩ := q
  refine own_name hN hv hd hcd hr S1 fun l el ok => ?_
  obtain ⟨ks, h1, h2⟩ := ok
  cases (iv : v = .int n)
  refine ⟨l, _, rfl, DGet.k (k := Sum.inl n) h1, (valV ks (.inl n)).isSome, rfl, ?_⟩
  have ee : (valV ks (Sum.inl n)).isSome = (lookD kvs (.inl n)).isSome := by
    rcases h2.val (k := Sum.inl n) with ⟨d, v, a1, a2, _⟩ | ⟨a1, a2⟩
    · unfold lookD; rw [a1, a2]; rfl
    · unfold lookD; rw [a1, a2]; rfl
  rw [ee]
  exact r _ ρ1 G1 H1 q S1 y fun _ => pu rfl
theorem t_ninDic {i : Nat} {x : Str} {e : Expr} {p2 : Pos} {lc : Bool} {QT : Bool → Rho → Prop} (hu : X.A.units + 1 < cLine) (h : W true true X e ρ fun d ρ1 => ∃ n kvs, d = .int n ∧ ρ1[i]? = some (.own lc (.dic kvs)) ∧ QT (!(lookD kvs (.inl n)).isSome) ρ1)
    (hN : X.N[i]? = some x := by rfl) (hv : Vis X.env.scope x := by first | exact .inl rfl | exact .inr (.inl rfl) | exact .inr (.inr rfl)) (hd : (x == ("__debug__" : Str)) = false := by decide) (hcd : (x == ("__classdict__" : Str)) = false := by decide) (hm : behindInMarks .NotIn (.Name x p2) = false := by rfl) : WT p X (.Compare e [.NotIn] [.Name x p2] pos) ρ QT := fun B σ G H S R r => by
  refine wT_of (pt_cmp (pc_dnotin hu pe_w pe_w) hm) ?_
  refine h B σ G H S _ fun v d ρ1 G1 H1 q S1 y pu iv => ?_
  obtain ⟨n, kvs, rfl, hr, q⟩ := q
  refine own_name hN hv hd hcd hr S1 fun l el ok => ?_
  obtain ⟨ks, h1, h2⟩ := ok
  cases (iv : v = .int n)
  refine ⟨l, _, rfl, DGet.k (k := Sum.inl n) h1, !(valV ks (.inl n)).isSome, rfl, ?_⟩
  have ee : (valV ks (Sum.inl n)).isSome = (lookD kvs (.inl n)).isSome := by
    rcases h2.val (k := Sum.inl n) with ⟨d, v, a1, a2, _⟩ | ⟨a1, a2⟩
    · unfold lookD; rw [a1, a2]; rfl
    · unfold lookD; rw [a1, a2]; rfl
  rw [ee]
  exact r _ ρ1 G1 H1 q S1 y fun _ => pu rfl
/-- the same as a value -/
theorem w_inDic {i : Nat} {x : Str} {e : Expr} {p2 : Pos} {lc : Bool} (hu : X.A.units + 1 < cLine) (h : W true true X e ρ fun d ρ1 => ∃ n kvs, d = .int n ∧ ρ1[i]? = some (.own lc (.dic kvs)) ∧ Q (.bl (lookD kvs (.inl n)).isSome) ρ1)
    (hN : X.N[i]? = some x := by rfl) (hv : Vis X.env.scope x := by first | exact .inl rfl | exact .inr (.inl rfl) | exact .inr (.inr rfl)) (hd : (x == ("__debug__" : Str)) = false := by decide) (hcd : (x == ("__classdict__" : Str)) = false := by decide) (hm : behindInMarks .In (.Name x p2) = false := by rfl) : W p g X (.Compare e [.In] [.Name x p2] pos) ρ Q := fun B σ G H S R r => by
  refine wE_of (pe_cmp (pc_din hu pe_w pe_w) hm) ?_
  refine h B σ G H S _ fun v d ρ1 G1 H1 q S1 y pu iv => ?_
  obtain ⟨n, kvs, rfl, hr, q⟩ := q
  refine own_name hN hv hd hcd hr S1 fun l el ok => ?_
  obtain ⟨ks, h1, h2⟩ := ok
  cases (iv : v = .int n)
  refine ⟨l, _, rfl, DGet.k (k := Sum.inl n) h1, ?_⟩
  have ee : (valV ks (Sum.inl n)).isSome = (lookD kvs (.inl n)).isSome := by
    rcases h2.val (k := Sum.inl n) with ⟨d, v, a1, a2, _⟩ | ⟨a1, a2⟩
    · unfold lookD; rw [a1, a2]; rfl
    · unfold lookD; rw [a1, a2]; rfl
  rw [ee]
  exact r _ _ ρ1 G1 H1 q S1 y (fun _ => pu rfl) (is_h S1 rfl)
/-- d[e] = v, d an own dict -/
def putD (kvs : List (Key × D)) (k : Key) (v : D) : List (Key × D) :=
  if (kvs.any fun kv => decide (kv.1 = k)) = true then kvs.map (fun kv => if kv.1 = k then (kv.1, v) else kv) else kvs ++ [(k, v)]
theorem IsK.any {H : Hp} {k : Key} : ∀ {kvs : List (Key × D)} {ks : List (Key × V)}, IsK H kvs ks → (ks.any fun kv => decide (kv.1 = k)) = (kvs.any fun kv => decide (kv.1 = k))
  | [], _, h => by cases h; rfl
  | (j, e) :: kvs, _, ⟨x, r, e1, e2, e3⟩ => by subst e1; rw [List.any_cons, List.any_cons, IsK.any e3]
theorem IsK.mapPut {H : Hp} {k : Key} {d : D} {v : V} (i : Is H d v) : ∀ {kvs : List (Key × D)} {ks : List (Key × V)}, IsK H kvs ks → IsK H (kvs.map (fun kv => if kv.1 = k then (kv.1, d) else kv)) (ks.map (fun kv => if kv.1 = k then (kv.1, v) else kv))
  | [], _, h => by cases h; exact rfl
  | (j, e) :: kvs, _, ⟨x, r, e1, e2, e3⟩ => by
    subst e1
    rw [List.map_cons, List.map_cons]
    by_cases hj : j = k
    · rw [if_pos hj, if_pos hj]; exact ⟨v, _, rfl, i, IsK.mapPut i e3⟩
    · rw [if_neg hj, if_neg hj]; exact ⟨x, _, rfl, e2, IsK.mapPut i e3⟩
theorem IsK.app {H : Hp} {k : Key} {d : D} {v : V} (i : Is H d v) : ∀ {kvs : List (Key × D)} {ks : List (Key × V)}, IsK H kvs ks → IsK H (kvs ++ [(k, d)]) (ks ++ [(k, v)])
  | [], _, h => by cases h; exact ⟨v, [], rfl, i, rfl⟩
  | (j, e) :: kvs, _, ⟨x, r, e1, e2, e3⟩ => by subst e1; exact ⟨x, _, rfl, e2, IsK.app i e3⟩
theorem IsK.put {H : Hp} {k : Key} {d : D} {v : V} {kvs : List (Key × D)} {ks : List (Key × V)} (h : IsK H kvs ks) (i : Is H d v) : IsK H (putD kvs k d) (putK ks k v) := by
  unfold putD putK
  rw [h.any]
  split
  · exact h.mapPut i
  · exact h.app i
theorem IsK.length {H : Hp} : ∀ {kvs : List (Key × D)} {ks : List (Key × V)}, IsK H kvs ks → ks.length = kvs.length
  | [], _, h => by cases h; rfl
  | (k, e) :: kvs, _, ⟨x, r, e1, e2, e3⟩ => by subst e1; simp [IsK.length e3]
theorem s_dput {i : Nat} {x : Str} {e ev : Expr} {p1 p2 : Pos} (hu : X.A.units + 1 < cLine)
    (h : W true true X ev ρ fun d _ => W true true X e ρ fun k _ => ∃ n kvs, k = .int n ∧ ρ[i]? = some (.own true (.dic kvs)) ∧ kvs.length < 1000000 ∧ E.nx (ρ.set i (.own true (.dic (putD kvs (.inl n) d)))))
    (hN : X.N[i]? = some x := by rfl) (hv : Vis X.env.scope x := by first | exact .inl rfl | exact .inr (.inl rfl) | exact .inr (.inr rfl)) (hd : (x == ("__debug__" : Str)) = false := by decide) (hcd : (x == ("__classdict__" : Str)) = false := by decide)
    (hs : swapsWith ev (some (.Subscript (.Name x p1) e p2)) pos.line X.env = pure false := by rfl) (hr0 : ∃ kvs, ρ[i]? = some (.own true (.dic kvs))) : WS X (.Assign [.Subscript (.Name x p1) e p2] ev pos) ρ E := fun B σ G H F S L => by
  refine wS_of (ps_dput hu pe_w pe_w pe_w hs) ?_
  refine h B σ G H S _ fun v d ρ' G' H' q S' y pu iv => ?_
  obtain ⟨e1, gr⟩ := pu rfl
  subst e1
  obtain ⟨kvs0, hr0⟩ := hr0
  refine own_name hN hv hd hcd hr0 S' fun l el ok => ?_
  refine q B σ G' H' S' _ fun u k ρ2 G2 H2 q2 S2 y2 pu2 iu => ?_
  obtain ⟨e2, gr2⟩ := pu2 rfl
  subst e2
  obtain ⟨n, kvs, rfl, hr, hl, q2⟩ := q2
  obtain ⟨l', el', gl, bl, ks, h1, h2⟩ := S2.ownAt hr
  have : l' = l := by rw [el] at el'; cases el'; rfl
  subst this
  cases (iu : u = .int n)
  refine ⟨l', _, rfl, DPut.k (k := Sum.inl n) h1 (by rw [h2.length]; exact Nat.lt_trans hl (by decide)), ?_⟩
  exact L.nx σ _ G2 _ q2 (S2.upd hr el ⟨_, upd_same, h2.put (Is.mono y2 _ _ iv)⟩) (y.trans y2)
/-! ### keywords -/
def wK (X : Cx) (kws : List Keyword) : TA := fun σ H R => ∀ pos pins s, Inv X pins σ H s → wpAny (model X.prog X.w) X.A (evalAll ((backToKw pos (keywordEach kws X.env)).map (·.2))) (AP X pins σ R) X.xe s
theorem pk_w {kws : List Keyword} : PK X kws (wK X kws) := ⟨fun pos pins s σ H R I h => h pos pins s I⟩
def WK (p g : Bool) (X : Cx) (kws : List Keyword) (ρ : Rho) (Q : List D → Rho → Prop) : Prop :=
  ∀ (B : Base) (σ : L2.St) (G H : Hp), Sta B σ ρ G H → ∀ R : List V → Hp → Prop,
    (∀ vs ds ρ' G' H', Q ds ρ' → Sta B σ ρ' G' H' → Ex G G' → (p = true → ρ' = ρ ∧ Grow G H G' H') → IsA (if g = true then G' else H') ds vs → R vs H') → wK X kws σ H R
theorem k_nil {QA : List D → Rho → Prop} (q : QA [] ρ) : WK p g X [] ρ QA := fun B σ G H S R r => fun pos pins s I => pk_nil.run pos pins s σ H R I (r [] [] ρ G H q S (Ex.refl G) (fun _ => ⟨rfl, Grow.refl S.ex⟩) rfl)
theorem k_cons {QA : List D → Rho → Prop} {nmo : Option Str} {kpos : Pos} {e : Expr} {kws : List Keyword} (h : W p true X e ρ fun d ρ1 => WK p true X kws ρ1 fun ds ρ2 => QA (d :: ds) ρ2) : WK p true X (⟨nmo, e, kpos⟩ :: kws) ρ QA := fun B σ G H S R r => fun pos pins s I => by
  refine (pk_cons (nm := nmo) (kpos := kpos) pe_w pk_w).run pos pins s σ H R I ?_
  refine h B σ G H S _ fun v d ρ1 G1 H1 q1 S1 e1 pu1 i1 => ?_
  refine q1 B σ G1 H1 S1 _ fun vs ds ρ2 G2 H2 q2 S2 e2 pu2 i2 => ?_
  exact r (v :: vs) (d :: ds) ρ2 G2 H2 q2 S2 (e1.trans e2) (fun z => ⟨(pu2 z).1.trans (pu1 z).1, (pu1 z).2.trans (pu2 z).2⟩) ⟨v, vs, rfl, Is.mono e2 _ _ i1, i2⟩
/-- f(k = v, ..) -/
theorem pe_callK0 {CX : CXT} {k : Nat} {f : Addr} {fd : FuncData} {ps ks : List Str} {sp : Sp} {E : XK} {x : Str} {pp : Pos} {kws : List Keyword} {tk : TA} {gg : List Value → List Value → List Value} {gV : List V → List V → List V}
    (F : FnOk X.prog X.w X.K X.mg X.base CX k f fd ps sp) (hr : Room k X.A) (hg : Gl X x) (hm : X.mg x = some (.ref f)) (hk : PySem.W.keepIn X.K (.ref f) = true) (hb : KBinds X.K fd ps ks gg gV) (hx : Passes CX X E) (hkw : PK X kws tk)
    (hall : (backToKw pos (keywordEach kws X.env)).all (·.1.isSome) = true := by rfl) (hks : (backToKw pos (keywordEach kws X.env)).filterMap (·.1) = ks := by rfl) (hdb : (x == ("__debug__" : Str)) = false := by decide)
    (hpl : ((backTo pos (starEach [] X.env)).any (·.1) || (backToKw pos (keywordEach kws X.env)).any (·.1.isNone)) = false := by rfl) :
    PE X (.Call (.Name x pp) [] kws pos) (fun σ H Q => tk σ H fun zs H2 => sp (gV [] zs) H2 Q E) := by
  refine ⟨fun pins s σ H Q I h => ?_⟩
  refine wpAny_Call_Name_kw (ld_glob I hg hm ?_ hdb)
  refine PySem.W.callWith_KW0 (h₀ := X.base) I.ok.mod.kin hk hall ?_ hpl
  refine thn (hkw.run pos pins s σ H _ I h) fun ws s2 ⟨zs, H2, I2, rz, q2⟩ => ⟨I2.kIn, ?_⟩
  rw [hks]
  exact run_fnk (us := []) F hr hb hx I2 .nil rz q2
theorem w_callK0 {k : Nat} {f : Addr} {fd : FuncData} {ps ks : List Str} {c : List D → (D → Prop) → Prop} {x : Str} {pp : Pos} {kws : List Keyword} {gg : List Value → List Value → List Value} {gV : List V → List V → List V} {gD : List D → List D}
    (F : FnOk X.prog X.w X.K X.mg X.base CX0 k f fd ps (spD c)) (hr : Room k X.A) (hm : X.mg x = some (.ref f)) (hk : PySem.W.keepIn X.K (.ref f) = true) (hb : KBinds X.K fd ps ks gg gV) (hgd : ∀ H ds vs, IsA H ds vs → IsA H (gD ds) (gV [] vs))
    (h : WK p true X kws ρ fun ds ρ' => c (gD ds) fun d => Q d ρ') (hg : Gl X x := by rfl) (hdb : (x == ("__debug__" : Str)) = false := by decide)
    (hall : (backToKw pos (keywordEach kws X.env)).all (·.1.isSome) = true := by rfl) (hks : (backToKw pos (keywordEach kws X.env)).filterMap (·.1) = ks := by rfl)
    (hpl : ((backTo pos (starEach [] X.env)).any (·.1) || (backToKw pos (keywordEach kws X.env)).any (·.1.isNone)) = false := by rfl) : W p g X (.Call (.Name x pp) [] kws pos) ρ Q := fun B σ G H S R r => by
  refine wE_of (pe_callK0 F hr hg hm hk hb pass0 pk_w hall hks hdb hpl) ?_
  refine h B σ G H S _ fun vs ds ρ' G' H' q S' y pu i => ?_
  refine ⟨G', gD ds, fun d => Q d ρ', S'.ex, hgd _ _ _ i, q, fun v d G2 H2 z gr iz => ?_⟩
  exact r v d ρ' G2 H2 z (S'.grow gr) (y.trans gr.g) (fun w => ⟨(pu w).1, (pu w).2.trans gr⟩) (is_h (S'.grow gr) iz)
end
end DD
namespace DD
open PySem PySem.Spec PyProof.Rows L2
/-! ### __init__ by its body -/
def rhoI (N : List Str) (C : Addr) (ds : List D) : Rho := .own true (.ins C []) :: (ds.map Slot.val ++ List.replicate (N.length - (ds.length + 1)) .un)
theorem sta_startI {N : List Str} {G H0 : Hp} {ds : List D} {vs : List V} {C x dx : Addr} (ex : Ex G H0) (i : IsA G ds vs) (hx : H0 x = none) (hdx : H0 dx = none) (ne : dx ≠ x) :
    Sta ⟨H0, G, [], x⟩ (L2.start N (.ref x :: vs)) (rhoI N C ds) G (upd (upd H0 dx (.own x)) x (.ins C dx [])) := by
  have e1 : Ex H0 (upd (upd H0 dx (.own x)) x (.ins C dx [])) := (Ex.new hdx).trans (Ex.new (by rw [upd_ne ne.symm]; exact hx))
  have gx : G x = none := by
    cases r : G x with
    | none => rfl
    | some u => rw [ex x u r] at hx; cases hx
  refine ⟨?_, ex.trans e1, fun a o e _ => e1 a o e, fun a e => ?_, fun _ _ e => .inl e, Ex.refl _, ex, fun l hl => absurd hl (by simp), fun j s v h1 h2 => ?_, fun j k l1 l2 o1 o2 jk h1 h2 => ?_⟩
  · unfold L2.start rhoI
    simp [i.length]
  · cases r : H0 a with
    | none => exact r
    | some u => have e := e; rw [e1 a u r] at e; cases e
  · cases j with
    | zero =>
      cases h1
      rw [start_get (v := .ref x) rfl] at h2
      cases h2
      exact ⟨x, rfl, gx, hx, rfl, dx, [], upd_same, rfl⟩
    | succ j =>
      have h1 : (ds.map Slot.val ++ List.replicate (N.length - (ds.length + 1)) Slot.un)[j]? = some s := h1
      by_cases hj : j < ds.length
      · rw [List.getElem?_append_left (by simpa using hj), List.getElem?_map] at h1
        cases hd : ds[j]? with
        | none => rw [hd] at h1; cases h1
        | some d =>
          rw [hd] at h1
          cases h1
          obtain ⟨y, hy, iy⟩ := i.get hd
          rw [start_get (vs := .ref x :: vs) (i := j + 1) hy] at h2
          cases h2
          exact ⟨y, rfl, iy⟩
      · rw [List.getElem?_append_right (by simpa using hj), List.getElem?_replicate] at h1
        split at h1 <;> cases h1
        trivial
  · have own0 : ∀ (j : Nat) (lc : Bool) (o : Own), (rhoI N C ds)[j]? = some (.own lc o) → j = 0 := fun j lc o h => by
      cases j with
      | zero => rfl
      | succ j =>
        have h : (ds.map Slot.val ++ List.replicate (N.length - (ds.length + 1)) Slot.un)[j]? = some (.own lc o) := h
        by_cases hj : j < ds.length
        · rw [List.getElem?_append_left (by simpa using hj), List.getElem?_map] at h
          cases hd : ds[j]? with
          | none => rw [hd] at h; cases h
          | some d => rw [hd] at h; cases h
        · rw [List.getElem?_append_right (by simpa using hj), List.getElem?_replicate] at h
          split at h <;> cases h
    exact absurd ((own0 j _ _ h1).trans (own0 k _ _ h2).symm) jk
section
variable {P : Program} {w : World} {K : PySem.W.Frag} {mg : Str → Option Value} {base : Heap}
theorem fnI {x qual : Str} {st : Stmt} {f C : Addr} {fd : FuncData} {N ps : List Str} {k : Nat} {c : List D → (List (Str × D) → Prop) → Prop} (F : Fun K x qual st f fd) (S : FnScope N ps (defScope st)) (len : ∀ ds Z, c ds Z → ds.length + 1 = ps.length)
    (h : ∀ (cdv : Value) (A : Around) (outer : List Env) (s : Shared) (H : Hp) (E : XK) (ds : List D) (Z : List (Str × D) → Prop), Room k (A.deeper (envOfC qual (defScope st) s.heap.objs.size f cdv)) → c ds Z →
      WSs (CxD P w K mg base N qual st f cdv A outer s H E) (defBody st) (rhoI N C ds) { nx := fun ρ => ∃ fs, ρ[0]? = some (.own true (.ins C fs)) ∧ Z fs, rt := fun _ => False }) : FnOk P w K mg base CX0 (k + 1) f fd ps (spI C c) := by
  refine F.ok S (fun vs H Q E hs => ?_) fun cdv A outer s H vs Q E hr hs => ?_
  · obtain ⟨x, dx, H0, G, vr, ds, Z, rfl, _, _, _, _, _, i, hc, _⟩ := hs
    have := len ds Z hc
    rw [List.length_cons, i.length]; exact this
  · obtain ⟨x, dx, H0, G, vr, ds, Z, rfl, hx, hdx, ne, rfl, ex, i, hc, q⟩ := hs
    refine ⟨_, pss_w, ?_⟩
    refine h cdv A outer s _ E ds Z hr hc ⟨H0, G, [], x⟩ _ G _ _ (sta_startI (C := C) ex i hx hdx ne) ⟨fun σ' ρ' G' H' z S' _ => ?_, fun v d G' H' z _ _ => z.elim, fun _ _ _ _ z => z.elim, fun _ _ _ _ z => z.elim⟩
    obtain ⟨fs, h0, z⟩ := z
    obtain ⟨l, _, gl, _, lx, dx', gs, h1, h2⟩ := S'.ownAt h0
    have lx : l = x := lx
    subst lx
    exact q fs dx' gs G' H' z ⟨S'.bg, fun a o e => S'.fr a o e (by simp), S'.ex, S'.nw⟩ gl h1 h2
end
end DD

/-! == and != by an own __eq__ -/
namespace PySem.W
open PySem
section
variable {prog : Program} {w : World} {A : Around} {E : Value → Shared → Prop} {s : Shared} {K : Frag} {x C f : Addr} {ox : Obj} {od : Option Obj} {b : Value}
theorem ifBoundB_K {M : Model} {args : List Value} {name : Str} {id : String} {Q : Option Value → Shared → Prop} (X : K.In s.heap) (I : InstAt s.heap x ox C od) (hs : findIn K (.ref C) name = some (some (.builtin id))) (hb : ∀ v, bindSpecial (.builtin id) v = pure (.builtin id, [v]))
    (h : wpAny M A (call (.builtin id) (.ref x :: args)) (fun v => Q (some v)) E s) : wpAny M A (callSpecialIfBound? (.ref x) name args) Q E s := by
  simp only [callSpecialIfBound?, bindSpecialIfBound?]
  refine wpAny_holding (wpAny_bind (wpAny_bind (wpAny_bind (I.type.here ((looks_findIn X hs).here ?_)))))
  simp only [hb]
  refine wpAny_bind (wpAny_askSetting (wpAny_ite ?_))
  have fin : wpAny M A (call (.builtin id) ([.ref x] ++ args) >>= fun v => pure (some v)) Q E s := wpAny_bind (wpAny_mono h (fun v s' h' => wpAny_pure h') fun _ _ h' => h')
  split
  · exact wpAny_bind (wpAny_pure (wpAny_pure fin))
  · exact wpAny_tryCatch (wpAny_bind (wpAny_pure (wpAny_pure fin)))
theorem objNe_K (X : K.In s.heap) (I : InstAt s.heap x ox C od) (hs : findIn K (.ref C) "__eq__" = some (some (.ref f))) (hf : isFn K (.ref f) = true) (hu : A.units < cLine) {Q : Fin → Shared → Prop}
    (hcall : wpAny (model prog w) A (call (.ref f) [.ref x, b]) (fun v s' => ∃ c, v = .bool c ∧ Q (.done (.ret (.bool (!c)))) s') E s) :
    wpAny (model prog w) A (Builtin.«object.__ne__» ⟨[.ref x, b], []⟩) Q E s := by
  unfold Builtin.«object.__ne__»
  repeat (first
    | with_reducible refine wpAny_cRoomFor hu ?_
    | (refine wpAny_bind (m := callSpecialIfBound? (.ref x) (Str.ofString "__eq__") [b])
        (ifBound_K X I hs hf (wpAny_mono hcall (fun v s' hr => by
          obtain ⟨b, rfl, hq⟩ := hr
          repeat (first | exact hq | exact wpAny_pure hq | exact wpAny_truthy_bool hq | (refine wpAny_bind (m := truthy (.bool _)) (wpAny_truthy_bool ?_)) | wp_step)) fun _ _ e => e)))
    | wp_step)
theorem checkSlot_K {M : Model} {id owner n : String} {rest : List Value} {Q : Unit → Shared → Prop} (hk : builtinKind id = some .slot) (hs : splitId id = some (owner, n))
    (ha : argsOk id ⟨.ref x :: rest, []⟩) (X : K.In s.heap) (I : InstAt s.heap x ox C od) (hsub : subIn K (.ref C) (.type owner) = some true) (hq : Q () s) :
    wpAny M A (checkBuiltinCall id ⟨.ref x :: rest, []⟩) Q E s := by
  simp only [checkBuiltinCall, hk, hs]
  refine wpAny_bind ?_
  unfold isInstance
  refine wpAny_bind (I.type.here ((looks_subIn X hsub).here ?_))
  show wpAny M A _ Q E s
  cases hsig : Manifest.signature? id with
  | none => exact wpAny_pure hq
  | some sig =>
    simp only [argsOk, hsig] at ha
    have h2 : Bind.checkArgs id sig ⟨.ref x :: rest, []⟩ = pure () := ha
    show wpAny M A (Bind.checkArgs id sig ⟨.ref x :: rest, []⟩) Q E _
    rw [h2]; exact wpAny_pure hq
theorem ne_K {tb : Value} {Q : Value → Shared → Prop} (hu : A.units + 1 < cLine) (X : K.In s.heap) (I : InstAt s.heap x ox C od) (hb : Looks (model prog w) s.heap (typeOf b) tb) (hn : notFirst K C tb = true)
    (hne : findIn K (.ref C) "__ne__" = some (some (.builtin "object.__ne__"))) (hsub : subIn K (.ref C) (.type "object") = some true) (hs : findIn K (.ref C) "__eq__" = some (some (.ref f))) (hf : isFn K (.ref f) = true)
    (hcall : wpAny (model prog w) A.in1 (call (.ref f) [.ref x, b]) (fun v s' => ∃ c, v = .bool c ∧ Q (.bool (!c)) s') E s) : wpAny (model prog w) A (richCompare .NotEq (.ref x) b) Q E s := by
  have one : wpAny (model prog w) A (tryCompare (.ref x) "__ne__" b) (fun r s' => ∃ v, r = some v ∧ Q v s') E s := by
    unfold tryCompare
    refine wpAny_bind (ifBoundB_K X I hne F.cmp_object.ne.bind (wpAny_call (codeAny_call_builtin F.cmp_object.ne.plain F.cmpEntry_ne
      (checkSlot_K F.cmpKind_ne F.cmpSplit_ne (F.cmpArgs_ne _ _) X I hsub (objNe_K (A := A.in1) X I hs hf hu (wpAny_mono hcall (fun v s' hv => ?_) fun _ _ e => e))))))
    obtain ⟨c, rfl, hq⟩ := hv
    first | exact ⟨c, rfl, wpAny_pure ⟨_, rfl, hq⟩⟩ | exact ⟨c, rfl, wpAny_pure (wpAny_pure ⟨_, rfl, hq⟩)⟩ | exact ⟨c, rfl, _, rfl, hq⟩
  unfold richCompare
  simp only [oneThing_ref]
  refine wpAny_holding (wpAny_bind (wpAny_cRoomFor (Nat.lt_of_succ_lt hu) ?_))
  rw [cmpInfo_NotEq]
  dsimp only
  refine wpAny_bind (I.type.here (wpAny_bind (hb.here ?_)))
  split
  · rename_i q
    have e : subIn K tb (.ref C) = some false := by
      rcases Bool.or_eq_true_iff.mp hn with e | e
      · rw [beq_iff_eq.mp e] at q; simp at q
      · exact beq_iff_eq.mp e
    refine wpAny_bind ((looks_subIn X e).here ?_)
    simp only [Bool.false_eq_true, if_false]
    refine wpAny_bind (wpAny_mono one (fun r s' z => ?_) fun _ _ e => e)
    obtain ⟨v, rfl, hq⟩ := z
    exact wpAny_pure hq
  · refine wpAny_bind (wpAny_pure ?_)
    simp only [Bool.false_eq_true, if_false]
    refine wpAny_bind (wpAny_mono one (fun r s' z => ?_) fun _ _ e => e)
    obtain ⟨v, rfl, hq⟩ := z
    exact wpAny_pure hq
end
end PySem.W
namespace DD
open PySem PySem.Spec PyProof.Rows L2
section
variable {X : Cx} {C f : Addr} {fd : FuncData} {ps : List Str} {k : Nat}
def rEqO (C : Addr) (sp : Sp) : R2 := fun x y H Q => ∃ a b dx dy fs gs, x = .ref a ∧ y = .ref b ∧ H a = some (.ins C dx fs) ∧ H b = some (.ins C dy gs) ∧ sp [x, y] H (fun v H' => (∃ c, v = .bl c) ∧ Q v H') E0
def rNeO (C : Addr) (sp : Sp) : R2 := fun x y H Q => ∃ a b dx dy fs gs, x = .ref a ∧ y = .ref b ∧ H a = some (.ins C dx fs) ∧ H b = some (.ins C dy gs) ∧ sp [x, y] H (fun v H' => ∃ c, v = .bl c ∧ Q (.bl (!c)) H') E0
theorem op_eqO {sp : Sp} (F : FnOk X.prog X.w X.K X.mg X.base CX0 k f fd ps sp) (hr : Room k X.A) (hs : PySem.W.findIn X.K (.ref C) "__eq__" = some (some (.ref f))) (hf : PySem.W.isFn X.K (.ref f) = true) (hb : Binds X.K fd ps []) : OpR X (compareOp .Eq) (rEqO C sp) := by
  intro pins s σ H x y v u Q I rx ry h
  obtain ⟨a, b, dx, dy, fs, gs, rfl, rfl, ha, hb', hsp⟩ := h
  cases rx
  cases ry
  obtain ⟨mA, J, _⟩ := ins_get I.hok ha
  obtain ⟨mB, J', _⟩ := ins_get I.hok hb'
  obtain ⟨od, J, _⟩ := J.look
  obtain ⟨od', J', _⟩ := J'.look
  obtain ⟨m, hF⟩ := I.fr
  show wpAny (model X.prog X.w) X.A (richCompare .Eq (.ref a) (.ref b)) (EP X pins σ Q) X.xe s
  refine PySem.W.cmp_K (op := .Eq) (tb := .ref C) hr.units0 hF I.ok.mod.kin J J'.type (by simp [PySem.W.notFirst]) hs hf ?_
  have hl := F.len _ _ _ _ hsp
  have r2 : Vals [V.ref a, V.ref b] [Value.ref a, Value.ref b] := .cons rfl (.cons rfl .nil)
  refine wpAny_call (codeAny_mono (F.run X.A X.stack s H ⟨[.ref a, .ref b], []⟩ [.ref a, .ref b] [.ref a, .ref b] _ E0 hr I.env0 (by
    have := hb s [.ref a, .ref b] I.kIn (by simpa using hl)
    simpa using this) r2 hsp) fun r s' hq => ?_)
  cases r with
  | error e => exact (pass0 pins σ H s e s' I hq : X.xe e s')
  | ok fl =>
    cases fl with
    | ret w =>
      obtain ⟨z, H', I', rz, ⟨c, ez⟩, q⟩ := I.after hq
      subst ez
      cases rz
      exact ⟨.bl c, H', I', rfl, q⟩
    | next => exact False.elim hq
    | brk => exact False.elim hq
    | cont => exact False.elim hq
theorem op_neO {sp : Sp} (F : FnOk X.prog X.w X.K X.mg X.base CX0 k f fd ps sp) (hr : Room (k + 1) X.A) (hs : PySem.W.findIn X.K (.ref C) "__eq__" = some (some (.ref f))) (hne : PySem.W.findIn X.K (.ref C) "__ne__" = some (some (.builtin "object.__ne__"))) (hsub : PySem.W.subIn X.K (.ref C) (.type "object") = some true)
    (hf : PySem.W.isFn X.K (.ref f) = true) (hb : Binds X.K fd ps []) : OpR X (compareOp .NotEq) (rNeO C sp) := by
  intro pins s σ H x y v u Q I rx ry h
  obtain ⟨a, b, dx, dy, fs, gs, rfl, rfl, ha, hb', hsp⟩ := h
  cases rx
  cases ry
  obtain ⟨mA, J, _⟩ := ins_get I.hok ha
  obtain ⟨mB, J', _⟩ := ins_get I.hok hb'
  obtain ⟨od, J, _⟩ := J.look
  obtain ⟨od', J', _⟩ := J'.look
  show wpAny (model X.prog X.w) X.A (richCompare .NotEq (.ref a) (.ref b)) (EP X pins σ Q) X.xe s
  refine PySem.W.ne_K (tb := .ref C) (hu_of hr) I.kIn J J'.type (by simp [PySem.W.notFirst]) hne hsub hs hf ?_
  have hl := F.len _ _ _ _ hsp
  have r2 : Vals [V.ref a, V.ref b] [Value.ref a, Value.ref b] := .cons rfl (.cons rfl .nil)
  refine wpAny_call (codeAny_mono (F.run X.A.in1 X.stack s H ⟨[.ref a, .ref b], []⟩ [.ref a, .ref b] [.ref a, .ref b] _ E0 hr.in1 I.env0.in1 (by
    have := hb s [.ref a, .ref b] I.kIn (by simpa using hl)
    simpa using this) r2 hsp) fun r s' hq => ?_)
  cases r with
  | error e => exact (pass0 pins σ H s e s' I hq : X.xe e s')
  | ok fl =>
    cases fl with
    | ret w =>
      obtain ⟨z, H', I', rz, c, ez, q⟩ := I.after hq
      subst ez
      cases rz
      exact ⟨c, rfl, .bl (!c), H', I', rfl, q⟩
    | next => exact False.elim hq
    | brk => exact False.elim hq
    | cont => exact False.elim hq
variable {c : List D → (D → Prop) → Prop} {Z : D → Prop} {fs gs : List (Str × D)}
theorem o_eqO (F : FnOk X.prog X.w X.K X.mg X.base CX0 k f fd ps (spD c)) (hr : Room k X.A) (hs : PySem.W.findIn X.K (.ref C) "__eq__" = some (some (.ref f))) (hf : PySem.W.isFn X.K (.ref f) = true) (hb : Binds X.K fd ps [])
    (q : c [.obj C fs, .obj C gs] fun d => ∃ k, d = .bl k ∧ Z (.bl k)) : Op2 true X (compareOp .Eq) (.obj C fs) (.obj C gs) Z := by
  intro G H v u R ex i j kk
  obtain ⟨a, dx, hs1, rfl, e2, e3⟩ := id i
  obtain ⟨b, dy, hs2, rfl, f2, f3⟩ := id j
  refine ⟨_, op_eqO F hr hs hf hb, a, b, dx, dy, hs1, hs2, rfl, rfl, ex _ _ e2, ex _ _ f2, G, [.obj C fs, .obj C gs], fun d => ∃ k, d = .bl k ∧ Z (.bl k), ex, ⟨_, _, rfl, i, _, _, rfl, j, rfl⟩, q, fun v d G' H' z gr iz => ?_⟩
  obtain ⟨k, rfl, z⟩ := z
  exact ⟨⟨k, iz⟩, kk v (.bl k) G' H' z gr iz⟩
theorem o_neO (F : FnOk X.prog X.w X.K X.mg X.base CX0 k f fd ps (spD c)) (hr : Room (k + 1) X.A) (hs : PySem.W.findIn X.K (.ref C) "__eq__" = some (some (.ref f))) (hne : PySem.W.findIn X.K (.ref C) "__ne__" = some (some (.builtin "object.__ne__"))) (hsub : PySem.W.subIn X.K (.ref C) (.type "object") = some true) (hf : PySem.W.isFn X.K (.ref f) = true) (hb : Binds X.K fd ps [])
    (q : c [.obj C fs, .obj C gs] fun d => ∃ k, d = .bl k ∧ Z (.bl (!k))) : Op2 true X (compareOp .NotEq) (.obj C fs) (.obj C gs) Z := by
  intro G H v u R ex i j kk
  obtain ⟨a, dx, hs1, rfl, e2, e3⟩ := id i
  obtain ⟨b, dy, hs2, rfl, f2, f3⟩ := id j
  refine ⟨_, op_neO F hr hs hne hsub hf hb, a, b, dx, dy, hs1, hs2, rfl, rfl, ex _ _ e2, ex _ _ f2, G, [.obj C fs, .obj C gs], fun d => ∃ k, d = .bl k ∧ Z (.bl (!k)), ex, ⟨_, _, rfl, i, _, _, rfl, j, rfl⟩, q, fun v d G' H' z gr iz => ?_⟩
  obtain ⟨k, rfl, z⟩ := z
  cases (iz : v = .bl k)
  exact ⟨k, rfl, kk _ (.bl (!k)) G' H' z gr rfl⟩
/-- isinstance(x, C) of an instance of C -/
theorem c_isiO (cl : Cls X.K C) (ha : PySem.W.findIn X.K (.ref C) "__class__" = some (some (.builtin "object.__class__"))) (hn : PySem.W.specialIn X.K (.builtin "object.__class__") "__get__" = some (some (.builtin "getset_descriptor.__get__"))) (htk : PySem.W.takesIn X.K (.builtin "object.__class__") = some true) (hm : PySem.W.mroIn X.K C (.type "object") = some true)
    (hk : PySem.W.kitOne X.K (.ref C) (.ref C) = some true) (q : Z (.bl true)) (G H : Hp) (a : Addr) (v : V) (R : VK) (ex : Ex G H) (i : Is G (.obj C fs) v) (kk : ∀ w z G' H', Z z → Grow G H G' H' → Is G' z w → R w H') : rAnyC X (.builtin "isinstance") [v, .ref C] H R := by
  obtain ⟨b, dx, gs, rfl, e2, e3⟩ := i
  exact ⟨_, call_isi, .ref b, .ref C, .ref C, .ref C, true, rfl, .own C, .base (.ins (ex _ _ e2) cl ha hn htk hm), hk, kk _ (.bl true) G H q (Grow.refl ex) rfl⟩
end
end DD
namespace DD
open PySem PySem.Spec PyProof.Rows L2
section
variable {p g : Bool} {X : Cx} {ρ : Rho} {Q : D → Rho → Prop} {C : Addr}
structure ClsT (K : PySem.W.Frag) (C : Addr) : Prop where
  cl : Cls K C
  ha : PySem.W.findIn K (.ref C) "__class__" = some (some (.builtin "object.__class__"))
  hn : PySem.W.specialIn K (.builtin "object.__class__") "__get__" = some (some (.builtin "getset_descriptor.__get__"))
  ht : PySem.W.takesIn K (.builtin "object.__class__") = some true
  hm : PySem.W.mroIn K C (.type "object") = some true
  hk : PySem.W.kitOne K (.ref C) (.ref C) = some true
theorem w_isiO {y : Str} {e : Expr} {pp py pos : Pos} (T : ClsT X.K C) (hmi : X.mg "isinstance" = none) (hC : X.mg y = some (.ref C)) (h : W p true X e ρ fun x ρ1 => ∃ fs, x = .obj C fs ∧ Q (.bl true) ρ1)
    (hg1 : Gl X "isinstance" := by rfl) (hg2 : Gl X y := by rfl) (hd : (y == ("__debug__" : Str)) = false := by decide)
    (he : starEach [e, .Name y py] X.env = (false, eval e X.env) :: starEach [.Name y py] X.env := by rfl) (he2 : starEach [.Name y py] X.env = (false, eval (.Name y py) X.env) :: starEach [] X.env := by rfl) (hpl : (backTo pos (starEach [.Name y py] X.env)).any (·.1) = false := by rfl) :
    W p g X (.Call (.Name "isinstance" pp) [e, .Name y py] [] pos) ρ Q := fun B σ G H S R r => by
  refine wE_of (pe_callB (id := "isinstance") call_any hg1 hmi (by decide +kernel) (pa_cons pe_w (pa_cons (pe_glob (v := .ref C) hg2 hC rfl hd) pa_nil he2) he) (by decide) (by decide) he hpl) ?_
  refine h B σ G H S _ fun v x ρ' G' H' q S' y pu i => ?_
  obtain ⟨fs, rfl, q⟩ := q
  exact c_isiO (Z := fun z => Q z ρ') T.cl T.ha T.hn T.ht T.hm T.hk q G' H' 0 v R S'.ex i fun w z G2 H2 hz gr iz => r w z ρ' G2 H2 hz (S'.grow gr) (y.trans gr.g) (fun z => ⟨(pu z).1, (pu z).2.trans gr⟩) (is_h (S'.grow gr) iz)
end
end DD
namespace DD
open PySem PySem.Spec PyProof.Rows L2
section
variable {p g : Bool} {X : Cx} {ρ : Rho} {Q : D → Rho → Prop} {QT : Bool → Rho → Prop} {Z : D → Prop}
theorem t_chain {a b c : Expr} {op op' : CmpOp} {pos : Pos} (h : W true true X a ρ fun x ρ1 => W true true X b ρ1 fun y ρ2 => Op2 true X (compareOp op) x y fun z => ∃ k, z = .bl k ∧ if k = true then W true true X c ρ2 fun u ρ3 => Op2 true X (compareOp op') y u fun w => ∃ j, w = .bl j ∧ QT j ρ3 else QT false ρ2)
    (hm : lastMarks [op, op'] [b, c] = false := by with_unfolding_all rfl) : WT p X (.Compare a [op, op'] [b, c] pos) ρ QT := WT.un fun B σ G H S R r => by
  refine wT_of (pt_chain op_any op_any pe_w pe_w pe_w hm) ?_
  refine two (p := true) (p1 := true) (.inr rfl) h S fun v u x y ρ' G' H' q S' e pu i1 i2 => ?_
  refine q G' H' v u _ S'.ex i1 i2 fun w z G2 H2 hz gr iz => ?_
  obtain ⟨k, rfl, hk⟩ := hz
  refine ⟨k, iz, ?_⟩
  have S2 := S'.grow gr
  cases k with
  | true =>
    refine hk B σ G2 H2 S2 _ fun t d ρ3 G3 H3 q3 S3 e3 pu3 i3 => ?_
    refine q3 G3 H3 u t _ S3.ex (Is.mono (gr.g.trans e3) _ _ i2) i3 fun w2 z2 G4 H4 hz4 gr4 iz4 => ?_
    obtain ⟨j, rfl, hz4⟩ := hz4
    exact ⟨j, iz4, r j ρ3 G4 H4 hz4 (S3.grow gr4) (((e.trans gr.g).trans e3).trans gr4.g) (fun z => ⟨(pu3 rfl).1.trans (pu rfl).1, (((pu rfl).2.trans gr).trans (pu3 rfl).2).trans gr4⟩)⟩
  | false => exact ⟨false, rfl, r false ρ' G2 H2 hk S2 (e.trans gr.g) (fun z => ⟨(pu rfl).1, (pu rfl).2.trans gr⟩)⟩
theorem c_allD {ds : List D} {b : D → Bool} (hc : X.calm = true) (q : Z (.bl (ds.all b))) : OpC g X (.builtin "all") [.lst (ds.map fun d => .bl (b d))] Z := by
  have e : ds.map (fun d => D.bl (b d)) = (ds.map b).map D.bl := by rw [List.map_map]; rfl
  rw [e]
  refine c_all hc ?_
  have e2 : (ds.map b).all id = ds.all b := by rw [List.all_map]; rfl
  rw [e2]; exact q
theorem c_anyD {ds : List D} {b : D → Bool} (hc : X.calm = true) (q : Z (.bl (ds.any b))) : OpC g X (.builtin "any") [.lst (ds.map fun d => .bl (b d))] Z := by
  have e : ds.map (fun d => D.bl (b d)) = (ds.map b).map D.bl := by rw [List.map_map]; rfl
  rw [e]
  refine c_any hc ?_
  have e2 : (ds.map b).any id = ds.any b := by rw [List.any_map]; rfl
  rw [e2]; exact q
theorem c_sumD {ds : List D} {b : D → Int} (hc : X.calm = true) (q : Z (.int (ds.map b).sum)) : OpC g X (.builtin "sum") [.lst (ds.map fun d => .int (b d))] Z := by
  have e : ds.map (fun d => D.int (b d)) = (ds.map b).map D.int := by rw [List.map_map]; rfl
  rw [e]
  exact c_sum hc q
/-! comprehensions by the forms of their targets: one name, two names -/
theorem s_setX {i : Nat} {y : Str} {py : Pos} {e : Expr} {t : TE} {spos : Pos} {E : DE} (ps : PS X (.Assign [.Name y py] e spos) (tAsg t (gName i))) (h : WX false true t ρ fun d ρ' => E.nx (ρ'.set i (.val d))) : WS X (.Assign [.Name y py] e spos) ρ E := fun B σ G H F S L => by
  refine wS_of ps ?_
  exact h B σ G H S _ fun v d ρ' G' H' q S' x pu j => L.nx _ _ G' H' q (S'.set j) x
abbrev Loc1 (X : Cx) (scope : Scope) (x : Str) : Prop := ∀ s H C cl fp, Loc (Blk X scope s H C cl fp).env.scope x ∧ ((Blk X scope s H C cl fp).fn x = true ∨ (Blk X scope s H C cl fp).env.scope.names.lookup x = some .local)
theorem pg1 {scope : Scope} {x : Str} {i : Nat} {px : Pos} {N ps : List Str} {sc : Scope} (S0 : FnScope N ps sc) (hXN : X.N = N) (hi : X.N[i]? = some x) (hl : Loc1 X scope x) : ∀ s H C cl fp, PG (Blk X scope s H C cl fp) (.Name x px) ((Tg.one i).g X.K) :=
  fun s H C cl fp => pg_name (show (Blk X scope s H C cl fp).N.Nodup from hXN ▸ S0.nd) hi (hl s H C cl fp).1 (hl s H C cl fp).2
abbrev Two (X : Cx) (scope : Scope) (x y : Str) (px py : Pos) : Prop := ∀ s H C cl fp, (assignEach [.Name x px, .Name y py] (Blk X scope s H C cl fp).env).length = 2 ∧ (assignEach [.Name x px, .Name y py] (Blk X scope s H C cl fp).env).findIdx? (·.1) = none ∧
  (assignEach [.Name x px, .Name y py] (Blk X scope s H C cl fp).env).map (·.2) = assign (.Name x px) (Blk X scope s H C cl fp).env :: (assignEach [.Name y py] (Blk X scope s H C cl fp).env).map (·.2) ∧
  (assignEach [.Name y py] (Blk X scope s H C cl fp).env).map (·.2) = assign (.Name y py) (Blk X scope s H C cl fp).env :: (assignEach [] (Blk X scope s H C cl fp).env).map (·.2)
theorem pg2 {scope : Scope} {x y : Str} {i j : Nat} {px py pt : Pos} {kk : Nat} {N ps : List Str} {sc : Scope} (S0 : FnScope N ps sc) (hXN : X.N = N) (hc : X.calm = true) (hi : X.N[i]? = some x) (hl : Loc1 X scope x) (hj : X.N[j]? = some y) (hl2 : Loc1 X scope y) (h2 : Two X scope x y px py) :
    ∀ s H C cl fp, PG (Blk X scope s H C cl fp) (.Tuple [.Name x px, .Name y py] kk pt) ((Tg.two i j).g X.K) :=
  fun s H C cl fp => pg_tup hc (pgs_cons (pg_name (show (Blk X scope s H C cl fp).N.Nodup from hXN ▸ S0.nd) hi (hl s H C cl fp).1 (hl s H C cl fp).2) (pgs_cons (pg_name (show (Blk X scope s H C cl fp).N.Nodup from hXN ▸ S0.nd) hj (hl2 s H C cl fp).1 (hl2 s H C cl fp).2) pgs_nil (h2 s H C cl fp).2.2.2) (h2 s H C cl fp).2.2.1) (h2 s H C cl fp).1 (h2 s H C cl fp).2.1
section
variable {N ps : List Str} {sc scope : Scope} {x y : Str} {elt iter c : Expr} {pos px py pt : Pos} {kk : Nat}
abbrev P1 (p : Bool) (X : Cx) (scope : Scope) (i : Nat) (x : Str) (px : Pos) (iter elt : Expr) (f : D → D) (ρ : Rho) (Q : D → Rho → Prop) : Prop :=
  WI p X (.Name x px) iter ρ fun ds ρ1 => ds.length ≤ 40000 ∧ (∀ d ∈ ds, ∀ s H C cl fp, W true true (Blk X scope s H C cl fp) elt ((ρ1.set i .un).set i (.val d)) fun y _ => y = f d) ∧ Q (.lst (ds.map f)) ρ1
theorem x1 {i : Nat} {f : D → D} (h : P1 p X scope i x px iter elt f ρ Q) : WX p g (tLc (wI X (.Name x px) iter) ((Tg.one i).g X.K) tYes (cE X scope elt) [i]) ρ Q :=
  x_lc (T := .one i) (own := [(x, i)]) f (fun j hj => hj) fun B σ G H S R r => h B σ G H S R fun J ds ρ1 G1 H1 q S1 y pu wk => r J ds ρ1 G1 H1 ⟨q.1, fun d hd => ⟨_, rfl, q.2.1 d hd⟩, q.2.2⟩ S1 y pu wk
/-- [elt for x in iter], x in slot i -/
theorem lc1 (i : Nat) (f : D → D) (S0 : FnScope N ps sc) (h : P1 p X scope i x px iter elt f ρ Q) (hXN : X.N = N := by rfl) (hbk : blkC X.N X.env.scope scope [(x, i)] = true := by kernel_rfl) (hi : X.N[i]? = some x := by rfl)
    (hl : Loc1 X scope x := by intro _ _ _ _ _; first | exact ⟨.inl rfl, .inr rfl⟩ | exact ⟨.inr rfl, .inl rfl⟩) (hc : X.calm = true := by rfl) (hs : ∀ x, foldedSetIterable iter X.env x = pure x := by intro _; rfl) :
    W p g X (.ListComp elt [⟨.Name x px, iter, [], 0⟩] scope pos) ρ Q :=
  WX.w (pe_lc (own := [(x, i)]) hc (hXN ▸ S0.nd) pi_w (blkOk_by hbk) (pg1 S0 hXN hi hl) (fun _ _ _ _ _ => pts_nil) pe_c hs) (x1 h)
/-- y = [elt for x in iter], y in slot l -/
theorem s_lc1 (l i : Nat) (f : D → D) {E : DE} {z : Str} {pz spos : Pos} (S0 : FnScope N ps sc) (h : P1 false X scope i x px iter elt f ρ fun d ρ' => E.nx (ρ'.set l (.val d))) (hXN : X.N = N := by rfl) (hbk : blkC X.N X.env.scope scope [(x, i)] = true := by kernel_rfl) (hi : X.N[i]? = some x := by rfl)
    (hl : Loc1 X scope x := by intro _ _ _ _ _; first | exact ⟨.inl rfl, .inr rfl⟩ | exact ⟨.inr rfl, .inl rfl⟩) (hc : X.calm = true := by rfl) (hs : ∀ x, foldedSetIterable iter X.env x = pure x := by intro _; rfl) (hz : X.N[l]? = some z := by rfl) (hzl : X.env.scope.names.lookup z = some .local := by rfl)
    (hsw : swapsWith (.ListComp elt [⟨.Name x px, iter, [], 0⟩] scope pos) (some (.Name z pz)) spos.line X.env = pure true := by exact sw_true rfl rfl rfl (by decide +kernel)) :
    WS X (.Assign [.Name z pz] (.ListComp elt [⟨.Name x px, iter, [], 0⟩] scope pos) spos) ρ E :=
  s_setX (ps_setLc (own := [(x, i)]) hc (hXN ▸ S0.nd) hz hzl hsw pi_w (blkOk_by hbk) (pg1 S0 hXN hi hl) (fun _ _ _ _ _ => pts_nil) pe_c hs) (x1 h)
abbrev P1If (p : Bool) (X : Cx) (scope : Scope) (i : Nat) (x : Str) (px : Pos) (iter elt c : Expr) (bt : D → Bool) (f : D → D) (ρ : Rho) (Q : D → Rho → Prop) : Prop :=
  WI p X (.Name x px) iter ρ fun ds ρ1 => ds.length ≤ 40000 ∧ (∀ d ∈ ds, ∀ s H C cl fp, WT true (Blk X scope s H C cl fp) c ((ρ1.set i .un).set i (.val d)) (fun b _ => b = bt d) ∧ (bt d = true → W true true (Blk X scope s H C cl fp) elt ((ρ1.set i .un).set i (.val d)) fun y _ => y = f d)) ∧ Q (.lst ((ds.filter bt).map f)) ρ1
theorem x1If {i : Nat} {bt : D → Bool} {f : D → D} (h : P1If p X scope i x px iter elt c bt f ρ Q) : WX p g (tLc (wI X (.Name x px) iter) ((Tg.one i).g X.K) (cT X scope c) (cE X scope elt) [i]) ρ Q :=
  x_lcIf (T := .one i) (own := [(x, i)]) bt f (fun j hj => hj) fun B σ G H S R r => h B σ G H S R fun J ds ρ1 G1 H1 q S1 y pu wk => r J ds ρ1 G1 H1 ⟨q.1, fun d hd => ⟨_, rfl, q.2.1 d hd⟩, q.2.2⟩ S1 y pu wk
theorem lc1If (i : Nat) (bt : D → Bool) (f : D → D) (S0 : FnScope N ps sc) (h : P1If p X scope i x px iter elt c bt f ρ Q) (hXN : X.N = N := by rfl) (hbk : blkC X.N X.env.scope scope [(x, i)] = true := by kernel_rfl) (hi : X.N[i]? = some x := by rfl)
    (hl : Loc1 X scope x := by intro _ _ _ _ _; first | exact ⟨.inl rfl, .inr rfl⟩ | exact ⟨.inr rfl, .inl rfl⟩) (hc : X.calm = true := by rfl) (hs : ∀ x, foldedSetIterable iter X.env x = pure x := by intro _; rfl) :
    W p g X (.ListComp elt [⟨.Name x px, iter, [c], 0⟩] scope pos) ρ Q :=
  WX.w (pe_lc (own := [(x, i)]) hc (hXN ▸ S0.nd) pi_w (blkOk_by hbk) (pg1 S0 hXN hi hl) pt_c pe_c hs) (x1If h)
abbrev P2 (p : Bool) (X : Cx) (scope : Scope) (i j : Nat) (x y : Str) (px py pt : Pos) (kk : Nat) (iter elt : Expr) (f : D → D) (ρ : Rho) (Q : D → Rho → Prop) : Prop :=
  WI p X (.Tuple [.Name x px, .Name y py] kk pt) iter ρ fun ds ρ1 => ds.length ≤ 40000 ∧ (∀ d ∈ ds, ∃ a b, d = .tup [a, b] ∧ ∀ s H C cl fp, W true true (Blk X scope s H C cl fp) elt ((((ρ1.set j .un).set i .un).set i (.val a)).set j (.val b)) fun y _ => y = f d) ∧ Q (.lst (ds.map f)) ρ1
theorem x2 {i j : Nat} {f : D → D} (h : P2 p X scope i j x y px py pt kk iter elt f ρ Q) : WX p g (tLc (wI X (.Tuple [.Name x px, .Name y py] kk pt) iter) ((Tg.two i j).g X.K) tYes (cE X scope elt) [i, j]) ρ Q :=
  x_lc (T := .two i j) (own := [(x, i), (y, j)]) f (fun j hj => hj) fun B σ G H S R r => h B σ G H S R fun J ds ρ1 G1 H1 q S1 y pu wk => r J ds ρ1 G1 H1 ⟨q.1, fun d hd => by
    obtain ⟨a, b, rfl, hw⟩ := q.2.1 d hd
    exact ⟨_, rfl, hw⟩, q.2.2⟩ S1 y pu wk
theorem lc2 (i j : Nat) (f : D → D) (S0 : FnScope N ps sc) (h : P2 p X scope i j x y px py pt kk iter elt f ρ Q) (hXN : X.N = N := by rfl) (hbk : blkC X.N X.env.scope scope [(x, i), (y, j)] = true := by kernel_rfl) (hi : X.N[i]? = some x := by rfl) (hj : X.N[j]? = some y := by rfl)
    (hl : Loc1 X scope x := by intro _ _ _ _ _; first | exact ⟨.inl rfl, .inr rfl⟩ | exact ⟨.inr rfl, .inl rfl⟩) (hl2 : Loc1 X scope y := by intro _ _ _ _ _; first | exact ⟨.inl rfl, .inr rfl⟩ | exact ⟨.inr rfl, .inl rfl⟩) (h2 : Two X scope x y px py := by intro _ _ _ _ _; exact ⟨rfl, rfl, rfl, rfl⟩)
    (hc : X.calm = true := by rfl) (hs : ∀ x, foldedSetIterable iter X.env x = pure x := by intro _; rfl) :
    W p g X (.ListComp elt [⟨.Tuple [.Name x px, .Name y py] kk pt, iter, [], 0⟩] scope pos) ρ Q :=
  WX.w (pe_lc (own := [(x, i), (y, j)]) hc (hXN ▸ S0.nd) pi_w (blkOk_by hbk) (pg2 S0 hXN hc hi hl hj hl2 h2) (fun _ _ _ _ _ => pts_nil) pe_c hs) (x2 h)
theorem s_lc2 (l i j : Nat) (f : D → D) {E : DE} {z : Str} {pz spos : Pos} (S0 : FnScope N ps sc) (h : P2 false X scope i j x y px py pt kk iter elt f ρ fun d ρ' => E.nx (ρ'.set l (.val d))) (hXN : X.N = N := by rfl) (hbk : blkC X.N X.env.scope scope [(x, i), (y, j)] = true := by kernel_rfl) (hi : X.N[i]? = some x := by rfl) (hj : X.N[j]? = some y := by rfl)
    (hl : Loc1 X scope x := by intro _ _ _ _ _; first | exact ⟨.inl rfl, .inr rfl⟩ | exact ⟨.inr rfl, .inl rfl⟩) (hl2 : Loc1 X scope y := by intro _ _ _ _ _; first | exact ⟨.inl rfl, .inr rfl⟩ | exact ⟨.inr rfl, .inl rfl⟩) (h2 : Two X scope x y px py := by intro _ _ _ _ _; exact ⟨rfl, rfl, rfl, rfl⟩)
    (hc : X.calm = true := by rfl) (hs : ∀ x, foldedSetIterable iter X.env x = pure x := by intro _; rfl) (hz : X.N[l]? = some z := by rfl) (hzl : X.env.scope.names.lookup z = some .local := by rfl)
    (hsw : swapsWith (.ListComp elt [⟨.Tuple [.Name x px, .Name y py] kk pt, iter, [], 0⟩] scope pos) (some (.Name z pz)) spos.line X.env = pure true := by exact sw_true rfl rfl rfl (by decide +kernel)) :
    WS X (.Assign [.Name z pz] (.ListComp elt [⟨.Tuple [.Name x px, .Name y py] kk pt, iter, [], 0⟩] scope pos) spos) ρ E :=
  s_setX (ps_setLc (own := [(x, i), (y, j)]) hc (hXN ▸ S0.nd) hz hzl hsw pi_w (blkOk_by hbk) (pg2 S0 hXN hc hi hl hj hl2 h2) (fun _ _ _ _ _ => pts_nil) pe_c hs) (x2 h)
abbrev P2If (p : Bool) (X : Cx) (scope : Scope) (i j : Nat) (x y : Str) (px py pt : Pos) (kk : Nat) (iter elt c : Expr) (bt : D → Bool) (f : D → D) (ρ : Rho) (Q : D → Rho → Prop) : Prop :=
  WI p X (.Tuple [.Name x px, .Name y py] kk pt) iter ρ fun ds ρ1 => ds.length ≤ 40000 ∧ (∀ d ∈ ds, ∃ a b, d = .tup [a, b] ∧ ∀ s H C cl fp, WT true (Blk X scope s H C cl fp) c ((((ρ1.set j .un).set i .un).set i (.val a)).set j (.val b)) (fun k _ => k = bt d) ∧ (bt d = true → W true true (Blk X scope s H C cl fp) elt ((((ρ1.set j .un).set i .un).set i (.val a)).set j (.val b)) fun y _ => y = f d)) ∧ Q (.lst ((ds.filter bt).map f)) ρ1
theorem x2If {i j : Nat} {bt : D → Bool} {f : D → D} (h : P2If p X scope i j x y px py pt kk iter elt c bt f ρ Q) : WX p g (tLc (wI X (.Tuple [.Name x px, .Name y py] kk pt) iter) ((Tg.two i j).g X.K) (cT X scope c) (cE X scope elt) [i, j]) ρ Q :=
  x_lcIf (T := .two i j) (own := [(x, i), (y, j)]) bt f (fun j hj => hj) fun B σ G H S R r => h B σ G H S R fun J ds ρ1 G1 H1 q S1 y pu wk => r J ds ρ1 G1 H1 ⟨q.1, fun d hd => by
    obtain ⟨a, b, rfl, hw⟩ := q.2.1 d hd
    exact ⟨_, rfl, hw⟩, q.2.2⟩ S1 y pu wk
theorem s_lc2If (l i j : Nat) (bt : D → Bool) (f : D → D) {E : DE} {z : Str} {pz spos : Pos} (S0 : FnScope N ps sc) (h : P2If false X scope i j x y px py pt kk iter elt c bt f ρ fun d ρ' => E.nx (ρ'.set l (.val d))) (hXN : X.N = N := by rfl) (hbk : blkC X.N X.env.scope scope [(x, i), (y, j)] = true := by kernel_rfl) (hi : X.N[i]? = some x := by rfl) (hj : X.N[j]? = some y := by rfl)
    (hl : Loc1 X scope x := by intro _ _ _ _ _; first | exact ⟨.inl rfl, .inr rfl⟩ | exact ⟨.inr rfl, .inl rfl⟩) (hl2 : Loc1 X scope y := by intro _ _ _ _ _; first | exact ⟨.inl rfl, .inr rfl⟩ | exact ⟨.inr rfl, .inl rfl⟩) (h2 : Two X scope x y px py := by intro _ _ _ _ _; exact ⟨rfl, rfl, rfl, rfl⟩)
    (hc : X.calm = true := by rfl) (hs : ∀ x, foldedSetIterable iter X.env x = pure x := by intro _; rfl) (hz : X.N[l]? = some z := by rfl) (hzl : X.env.scope.names.lookup z = some .local := by rfl)
    (hsw : swapsWith (.ListComp elt [⟨.Tuple [.Name x px, .Name y py] kk pt, iter, [c], 0⟩] scope pos) (some (.Name z pz)) spos.line X.env = pure true := by exact sw_true rfl rfl rfl (by decide +kernel)) :
    WS X (.Assign [.Name z pz] (.ListComp elt [⟨.Tuple [.Name x px, .Name y py] kk pt, iter, [c], 0⟩] scope pos) spos) ρ E :=
  s_setX (ps_setLc (own := [(x, i), (y, j)]) hc (hXN ▸ S0.nd) hz hzl hsw pi_w (blkOk_by hbk) (pg2 S0 hXN hc hi hl hj hl2 h2) pt_c pe_c hs) (x2If h)
theorem slots_i (x y : Str) (i j : Nat) : ∀ k ∈ (Tg.one i).slots, k ∈ [(x, i), (y, j)].map (·.2) := fun k hk => by
  have e : k = i := by simpa [Tg.slots] using hk
  subst e; simp
theorem slots_j (x y : Str) (i j : Nat) : ∀ k ∈ (Tg.one j).slots, k ∈ [(x, i), (y, j)].map (·.2) := fun k hk => by
  have e : k = j := by simpa [Tg.slots] using hk
  subst e; simp
/-- y = [elt for x in iter for z in iter1] -/
abbrev P11 (p : Bool) (X : Cx) (scope : Scope) (i j : Nat) (x y : Str) (px py : Pos) (iter iter1 elt : Expr) (inner : D → List D) (f : D → D → D) (ρ : Rho) (Q : D → Rho → Prop) : Prop :=
  WI p X (.Name x px) iter ρ fun ds ρ1 => (ds.flatMap fun d => (inner d).map (f d)).length ≤ 40000 ∧ (∀ d ∈ ds, (∀ s H C cl fp, WI true (Blk X scope s H C cl fp) (.Name y py) iter1 (((ρ1.set j .un).set i .un).set i (.val d)) fun es _ => es = inner d) ∧
    ∀ e ∈ inner d, ∀ s H C cl fp, W true true (Blk X scope s H C cl fp) elt (((((ρ1.set j .un).set i .un).set i (.val d)).set j .un).set j (.val e)) fun y _ => y = f d e) ∧ Q (.lst (ds.flatMap fun d => (inner d).map (f d))) ρ1
theorem s_lc11 (l i j : Nat) (inner : D → List D) (f : D → D → D) {E : DE} {z : Str} {iter1 : Expr} {pz spos : Pos} (S0 : FnScope N ps sc) (h : P11 false X scope i j x y px py iter iter1 elt inner f ρ fun d ρ' => E.nx (ρ'.set l (.val d))) (hXN : X.N = N := by rfl) (hbk : blkC X.N X.env.scope scope [(x, i), (y, j)] = true := by kernel_rfl) (hi : X.N[i]? = some x := by rfl) (hj : X.N[j]? = some y := by rfl)
    (hl : Loc1 X scope x := by intro _ _ _ _ _; first | exact ⟨.inl rfl, .inr rfl⟩ | exact ⟨.inr rfl, .inl rfl⟩) (hl2 : Loc1 X scope y := by intro _ _ _ _ _; first | exact ⟨.inl rfl, .inr rfl⟩ | exact ⟨.inr rfl, .inl rfl⟩)
    (hc : X.calm = true := by rfl) (hs : ∀ x, foldedSetIterable iter X.env x = pure x := by intro _; rfl) (hs1 : ∀ env x, foldedSetIterable iter1 env x = pure x := by intro _ _; rfl) (hz : X.N[l]? = some z := by rfl) (hzl : X.env.scope.names.lookup z = some .local := by rfl)
    (hsw : swapsWith (.ListComp elt [⟨.Name x px, iter, [], 0⟩, ⟨.Name y py, iter1, [], 0⟩] scope pos) (some (.Name z pz)) spos.line X.env = pure true := by exact sw_true rfl rfl rfl (by decide +kernel)) :
    WS X (.Assign [.Name z pz] (.ListComp elt [⟨.Name x px, iter, [], 0⟩, ⟨.Name y py, iter1, [], 0⟩] scope pos) spos) ρ E :=
  s_setX (ps_setLc2 (own := [(x, i), (y, j)]) (vs1 := (Tg.one j).slots) hc (hXN ▸ S0.nd) hz hzl hsw pi_w (blkOk_by hbk) (slots_j x y i j) (pg1 S0 hXN hi hl) (fun _ _ _ _ _ => pts_nil) pi_c (pg1 S0 hXN hj hl2) (fun _ _ _ _ _ => pts_nil) pe_c hs hs1)
    (x_lc2 (T := .one i) (T1 := .one j) (own := [(x, i), (y, j)]) inner f (slots_i x y i j) (slots_j x y i j) fun B σ G H S R r => h B σ G H S R fun J ds ρ1 G1 H1 q S1 y pu wk => r J ds ρ1 G1 H1 ⟨q.1, fun d hd => ⟨_, rfl, (q.2.1 d hd).1, fun e he => ⟨_, rfl, (q.2.1 d hd).2 e he⟩⟩, q.2.2⟩ S1 y pu wk)
end
/-- a constant of the module -/
theorem glb {x : Str} {i : Int} {t : Tok} {pos : Pos} (hm : X.mg x = some (.int i t)) (q : Q (.int i) ρ) (hg : Gl X x := by rfl) (hd : (x == ("__debug__" : Str)) = false := by decide) : W p g X (.Name x pos) ρ Q := w_glob (v := .int i) hg hm ⟨t, rfl⟩ hd rfl q
end
end DD

namespace DD
open PySem PySem.Spec PyProof.Rows L2
section
variable {p g : Bool} {X : Cx} {ρ : Rho} {Q : D → Rho → Prop} {E : DE} {pos : Pos}
/-- x *= e, ints -/
theorem s_augMul {i : Nat} {x : Str} {e : Expr} {pos' : Pos} (hN : X.N.Nodup) (hi : X.N[i]? = some x) (hx : Loc X.env.scope x) (h : ∃ n, ρ[i]? = some (.val (.int n)) ∧ W false true X e ρ fun d ρ' => ∃ m, d = .int m ∧ (-(2 ^ 64) < n ∧ n < 2 ^ 64 ∨ -(2 ^ 64) < m ∧ m < 2 ^ 64) ∧ E.nx (ρ'.set i (.val (.int (n * m)))))
    (hf : X.fn x = true ∨ X.env.scope.names.lookup x = some .local := by first | exact .inl rfl | exact .inr rfl) : WS X (.AugAssign (.Name x pos') .Mult e pos) ρ E := fun B σ G H F S L => by
  obtain ⟨n, hr, h⟩ := h
  refine wS_of (ps_aug hN hi hx pe_w iop_mul hf) ?_
  obtain ⟨v, e1, iv⟩ := S.valAt hr
  cases (iv : v = .int n)
  refine ⟨_, e1, ?_⟩
  refine h B σ G H S _ fun u d ρ' G' H' q S' y pu iu => ?_
  obtain ⟨m, rfl, b, q⟩ := q
  cases (iu : u = .int m)
  exact ⟨n, m, rfl, rfl, b, L.nx _ _ G' H' q (S'.set (d := .int (n * m)) rfl) y⟩
/-- short words for statements -/
theorem set (i : Nat) {x : Str} {e : Expr} {pos' : Pos} {N ps : List Str} {sc : Scope} (S0 : FnScope N ps sc) (h : W false true X e ρ fun d ρ' => E.nx (ρ'.set i (.val d))) (hXN : X.N = N := by rfl) (hi : X.N[i]? = some x := by rfl) (hx : Loc X.env.scope x := by first | exact .inl rfl | exact .inr rfl)
    (hs : swapsWith e (some (.Name x pos')) pos.line X.env = pure false := by rfl) (hf : X.fn x = true ∨ X.env.scope.names.lookup x = some .local := by first | exact .inl rfl | exact .inr rfl) : WS X (.Assign [.Name x pos'] e pos) ρ E := s_set (hXN ▸ S0.nd) hi hx h hs hf
theorem setO (i : Nat) {x : Str} {e : Expr} {pos' : Pos} {N ps : List Str} {sc : Scope} (S0 : FnScope N ps sc) (h : WF X e ρ fun o ρ' => E.nx (ρ'.set i (.own true o))) (hXN : X.N = N := by rfl) (hi : X.N[i]? = some x := by rfl) (hx : Loc X.env.scope x := by first | exact .inl rfl | exact .inr rfl)
    (hs : swapsWith e (some (.Name x pos')) pos.line X.env = pure false := by rfl) (hf : X.fn x = true ∨ X.env.scope.names.lookup x = some .local := by first | exact .inl rfl | exact .inr rfl) : WS X (.Assign [.Name x pos'] e pos) ρ E := s_own (hXN ▸ S0.nd) hi hx h hs hf
theorem app (i : Nat) {x : Str} {e : Expr} {p1 p2 p3 : Pos} {ds : List D} (hr : ρ[i]? = some (.own true (.lst ds)))
    (h : W false true X e ρ fun d ρ' => ∃ ds', ρ'[i]? = some (.own true (.lst ds')) ∧ ds'.length < 1000000 ∧ E.nx (ρ'.set i (.own true (.lst (ds' ++ [d])))))
    (hN : X.N[i]? = some x := by rfl) (hv : Vis X.env.scope x := by first | exact .inl rfl | exact .inr (.inl rfl) | exact .inr (.inr rfl)) (hd : (x == ("__debug__" : Str)) = false := by decide) (hcd : (x == ("__classdict__" : Str)) = false := by decide)
    (hbase : attributeBase (.Name x p1) "append" X.env (eval (.Name x p1) X.env) = eval (.Name x p1) X.env := by rfl)
    (hfew : ((backTo p3 (starEach [e] X.env)).all (fun x => !x.1) && (backToKw p3 (keywordEach [] X.env)).all (fun x => x.1.isSome)
      && decide (([e] : List Expr).length + ([] : List Keyword).length + (if ([] : List Keyword).isEmpty then 0 else 1) < 30)) = true := by rfl)
    (hline : (p2.endLine == p3.line) = true := by rfl) (hst : starEach [e] X.env = (false, eval e X.env) :: starEach [] X.env := by rfl) (hplain : (backTo p3 (starEach [] X.env)).any (·.1) = false := by rfl)
    (hs : swapsWith (.Call (.Attribute (.Name x p1) "append" p2) [e] [] p3) none pos.line X.env = pure false := by rfl) : WS X (.Expr (.Call (.Attribute (.Name x p1) "append" p2) [e] [] p3) pos) ρ E :=
  s_app hN hv hd hcd ⟨ds, hr, h⟩ hbase hfew hline hst hplain hs
/-- for x in iter, x in slot i -/
theorem for1 (i : Nat) {x : Str} {px : Pos} {iter : Expr} {body : List Stmt} {N ps : List Str} {sc : Scope} (S0 : FnScope N ps sc) (h : WI false X (.Name x px) iter ρ fun ds ρ1 => ∃ I : Nat → Rho → Prop, I 0 ρ1 ∧ (∀ j d ρi, ds[j]? = some d → I j ρi → WSs X body (ρi.set i (.val d)) { E with nx := I (j + 1), ct := I (j + 1), bk := E.nx }) ∧ ∀ ρn, I ds.length ρn → E.nx ρn)
    (hp : PassesOwn (model X.prog X.w) X.A X.env X.xe := by exact PassesOwn.never) (hXN : X.N = N := by rfl) (hi : X.N[i]? = some x := by rfl) (hx : Loc X.env.scope x := by first | exact .inl rfl | exact .inr rfl) (hf : X.fn x = true ∨ X.env.scope.names.lookup x = some .local := by first | exact .inl rfl | exact .inr rfl)
    (hc : X.calm = true := by rfl) (hs : ∀ x, foldedSetIterable iter X.env x = pure x := by intro _; rfl) : WS X (.For (.Name x px) iter body [] pos) ρ E :=
  s_for (T := .one i) hp hc (pg_name (hXN ▸ S0.nd) hi hx hf) hs fun B σ G H S R r => h B σ G H S R fun J ds ρ1 G1 H1 q S1 y pu wk => r J ds ρ1 G1 H1 (by
    obtain ⟨I, i0, st, fin⟩ := q
    exact ⟨I, i0, fun j d ρi hd hI => ⟨_, rfl, st j d ρi hd hI⟩, fin⟩) S1 y pu wk
theorem for2 (i l : Nat) {x y : Str} {px py pt : Pos} {kk : Nat} {iter : Expr} {body : List Stmt} {N ps : List Str} {sc : Scope} (S0 : FnScope N ps sc) (h : WI false X (.Tuple [.Name x px, .Name y py] kk pt) iter ρ fun ds ρ1 => ∃ I : Nat → Rho → Prop, I 0 ρ1 ∧ (∀ j d ρi, ds[j]? = some d → I j ρi → ∃ a b, d = .tup [a, b] ∧ WSs X body ((ρi.set i (.val a)).set l (.val b)) { E with nx := I (j + 1), ct := I (j + 1), bk := E.nx }) ∧ ∀ ρn, I ds.length ρn → E.nx ρn)
    (hp : PassesOwn (model X.prog X.w) X.A X.env X.xe := by exact PassesOwn.never) (hXN : X.N = N := by rfl) (hi : X.N[i]? = some x := by rfl) (hl : X.N[l]? = some y := by rfl) (hx : Loc X.env.scope x := by first | exact .inl rfl | exact .inr rfl) (hy : Loc X.env.scope y := by first | exact .inl rfl | exact .inr rfl) (hf : X.fn x = true ∨ X.env.scope.names.lookup x = some .local := by first | exact .inl rfl | exact .inr rfl) (hf2 : X.fn y = true ∨ X.env.scope.names.lookup y = some .local := by first | exact .inl rfl | exact .inr rfl)
    (hc : X.calm = true := by rfl) (hs : ∀ x, foldedSetIterable iter X.env x = pure x := by intro _; rfl)
    (h1 : (assignEach [.Name x px, .Name y py] X.env).length = 2 := by rfl) (h2 : (assignEach [.Name x px, .Name y py] X.env).findIdx? (·.1) = none := by rfl)
    (h3 : (assignEach [.Name x px, .Name y py] X.env).map (·.2) = assign (.Name x px) X.env :: (assignEach [.Name y py] X.env).map (·.2) := by rfl) (h4 : (assignEach [.Name y py] X.env).map (·.2) = assign (.Name y py) X.env :: (assignEach [] X.env).map (·.2) := by rfl) : WS X (.For (.Tuple [.Name x px, .Name y py] kk pt) iter body [] pos) ρ E :=
  s_for (T := .two i l) hp hc (pg_tup hc (pgs_cons (pg_name (hXN ▸ S0.nd) hi hx hf) (pgs_cons (pg_name (hXN ▸ S0.nd) hl hy hf2) pgs_nil h4) h3) h1 h2) hs fun B σ G H S R r => h B σ G H S R fun J ds ρ1 G1 H1 q S1 y pu wk => r J ds ρ1 G1 H1 (by
    obtain ⟨I, i0, st, fin⟩ := q
    exact ⟨I, i0, fun j d ρi hd hI => by
      obtain ⟨a, b, rfl, z⟩ := st j d ρi hd hI
      exact ⟨_, rfl, z⟩, fin⟩) S1 y pu wk
end
end DD

namespace DD
open PySem PySem.Spec PyProof.Rows L2
/-! ### enumerate of a tuple -/
abbrev tupIt (a : Addr) : Obj := { cls := .type "tuple_iterator", data := .fields #[.ref a, .int 0 0] }
abbrev enuOf (i : Addr) : Obj := { cls := .type "enumerate", data := .fields #[.none, .bool false, .ref i, rawInt 0, .none, .none] }
theorem enuT_meets (a : Addr) (ys : Array Value) :
    Meets (Builtin.«enumerate.__new__» ⟨[.type "enumerate", .ref a], []⟩) (fun _ R s => s.heap.IsTuple a ys ∧ R (.ok (.ret (.ref (s.heap.push (tupIt a)).objs.size))) { s with heap := (s.heap.push (tupIt a)).push (enuOf s.heap.objs.size) }) :=
  .of_wp fun prog w A R s hyp => by
    obtain ⟨hp, gn, dr, tk, os⟩ := s
    obtain ⟨isT, goal⟩ := hyp
    have sb := sub_enumerate
    have it1 : ∀ {A' : Around} {E' : Value → Shared → Prop} {Q' : Value → Shared → Prop}, Q' (.ref hp.objs.size) ⟨hp.push (tupIt a), gn, dr, tk, os⟩ → wpAny (model prog w) A' (pyIter (.ref a)) Q' E' ⟨hp, gn, dr, tk, os⟩ := fun q =>
      wpAny_pyIter_tuple isT q
    wp_walk using it1
    refine wpAny_stack_any fun _ => wpAny_pure ?_
    split
    · rename_i cc _ _ _ _ _
      cases (cc == Value.type "enumerate") <;> (wp_walk using it1; exact ⟨_, rfl, goal⟩)
    · wp_walk using it1
      exact ⟨_, rfl, goal⟩
section
variable {prog : Program} {w : World} {A : Around} {E : Value → Shared → Prop} {s : Shared}
theorem enuT_call {a : Addr} {ys : Array Value} {Q : Value → Shared → Prop} (isT : s.heap.IsTuple a ys)
    (k : ∀ h', IsEnum h' (s.heap.objs.size + 1) s.heap.objs.size 0 .none → h'.IsTupleIter s.heap.objs.size a 0 → (∀ b u, s.heap.get? b = some u → h'.get? b = some u) → Q (.ref (s.heap.objs.size + 1)) { s with heap := h' }) :
    wpAny (model prog w) A (PySem.call (.type "enumerate") [.ref a]) Q E s := by
  refine callType_new F.called_enumerate (by decide) (F.typeCall_enumerate_1 _) (F.newCall_enumerate_1 _) (fun ob => F.args_object_init_2 ob _) F.entry_enumerate_new (enuT_meets a ys) ⟨isT, ?_⟩
  have sz : (s.heap.push (tupIt a)).objs.size = s.heap.objs.size + 1 := Heap.size_push ..
  show _ ∧ _
  rw [sz]
  have e1 : IsEnum ((s.heap.push (tupIt a)).push (enuOf s.heap.objs.size)) (s.heap.objs.size + 1) s.heap.objs.size 0 .none := by
    have z := Heap.get?_push_size (s.heap.push (tupIt a)) (o := enuOf s.heap.objs.size) rfl
    rw [sz] at z
    exact z
  exact ⟨⟨_, e1, rfl⟩, k _ e1 ⟨_, Heap.get?_push_of_some _ (Heap.get?_push_size _ rfl), rfl, rfl⟩ fun b u q => Heap.get?_push_of_some _ (Heap.get?_push_of_some _ q)⟩
end
/-- an iterator that has come to its end -/
theorem drawsEnd {prog : Program} {w : World} {A : Around} (hh : A.handled = none) (it a : Addr) (ys : Array Value) (i : Nat) (hx : ys[i]? = none) :
    Draws prog w A it [it, a] i (fun _ _ => True) (fun j h => j = i ∧ h.IsTupleIter it a i ∧ h.IsTuple a ys) where
  live := fun _ _ st => ⟨st.2.1.choose, st.2.1.choose_spec.1⟩
  frame := fun _ _ _ st k => ⟨st.1, st.2.1.at fun o q => k it (by simp) o q, st.2.2.at fun o q => k a (by simp) o q⟩
  item := fun j s Q E hj st hQ => absurd st.1 (Nat.ne_of_lt hj)
  done := fun s Q E st hE => wpAny_nextOf_tuple_end hh st.2.1 st.2.2 hx hE
/-- the tuple at a, each item in a new pair with its place -/
def ItEnuT (K : PySem.W.Frag) (a : Addr) : It where
  go := fun i H => ∃ (xs : List V) (x : V), SqT K H a xs ∧ xs[i]? = some x
  yld := fun i H v H' => ∃ T x, v = .ref T ∧ H T = none ∧ H' = upd H T (.tup [.int (i : Nat), x]) ∧ ∀ xs, SqT K H a xs → xs[i]? = some x
  stop := fun i H => ∃ xs : List V, SqT K H a xs ∧ xs.length ≤ i
theorem turn_enuT {P : Program} {w : World} {K : PySem.W.Frag} {elts : List Expr} {kk : Nat} {tpos : Pos} (a e it : Addr) :
    Turn P w K (.Tuple elts kk tpos) (ItEnuT K a) [e, it] e (fun i h => (∃ old, IsEnum h e it ((i : Nat) : Int) old) ∧ h.IsTupleIter it a i ∧ e ≠ it) where
  mem := by simp
  obj := fun i h st b hb => by
    obtain ⟨⟨od, hE⟩, ⟨o, ho, _, hdt⟩, _⟩ := st
    rcases (show b = e ∨ b = it by simpa using hb) with rfl | rfl
    · exact ⟨_, hE, fun v q => by cases q⟩
    · exact ⟨o, ho, fun v q => by rw [hdt] at q; cases q⟩
  keep := fun i h h' st k => ⟨⟨st.1.choose, k e (by simp) _ st.1.choose_spec⟩, st.2.1.at fun o q => k it (by simp) o q, st.2.2⟩
  item := by
    intro X hP hw hK hc i pins s σ H E I hf st hg
    subst hP hw hK
    obtain ⟨⟨od, hE⟩, hI, ne⟩ := st
    obtain ⟨xs, x, hq, hx⟩ := hg
    obtain ⟨its, rv, pt, hz⟩ := I.tuple hq
    have pt : s.heap.IsTuple a its.toArray := pt
    obtain ⟨u, hu, ru⟩ := rv.get hx
    have ai : a ≠ it := by
      rintro rfl
      obtain ⟨o1, q1, c1, _⟩ := pt
      obtain ⟨o2, q2, c2, _⟩ := hI
      rw [q1] at q2; cases q2; exact absurd (Value.type.inj (c1.symm.trans c2)) (by decide)
    have ea : e ≠ a := by
      rintro rfl
      obtain ⟨o1, q1, c1, _⟩ := pt
      rw [hE] at q1; cases q1; exact absurd (Value.type.inj c1) (by decide)
    have le : e < s.heap.objs.size := Heap.lt_size hE
    have li : it < s.heap.objs.size := by obtain ⟨_, q, _⟩ := hI; exact Heap.lt_size q
    have hlt : i < its.toArray.size := by
      have := (List.getElem?_eq_some_iff.mp hu).1
      simpa using this
    refine wpAny_pyNext_enum_itemD (Draws.tuple (A := X.A.in1) (I.ok.hd hc) it a ai its.toArray) hE ⟨hI, pt⟩ hlt ne (by simp [ne, ea]) fun y h1 tk hy hO hI1 hT hsz hk => ?_
    have ey : y = u := by
      have q : its[i]? = some y := by simpa using hy
      rw [hu] at q; cases q; rfl
    subst ey
    refine ⟨_, rfl, wpAny_letOwnedTupleGo_enum (s := { s with heap := h1, toks := tk + 1 }) hO fun h2 hE2 sb => ?_⟩
    have hT2 : h2.get? s.heap.objs.size = some { cls := .type "tuple", data := .seq #[.int i tk, y] } := (sb.2 _ (Nat.ne_of_gt le)).trans hT
    have new : ObjOk X.prog X.w (upd H s.heap.objs.size (.tup [.int (i : Nat), x])) h2 s.heap.objs.size (.tup [.int (i : Nat), x]) :=
      ⟨by show 2 ≤ sizeLine; decide, [.int i tk, y], .cons ⟨_, rfl⟩ (.cons ru .nil), ⟨_, hT2, rfl, _, rfl⟩⟩
    have I2 : Inv X pins σ (upd H s.heap.objs.size (.tup [.int (i : Nat), x])) { s with heap := h2, toks := tk + 1 } :=
      I.turnedNew (ch := [e, it]) (fun b ob hb q => (sb.2 b fun z => hb (by simp [z])).trans (hk b ob (fun z => hb (by simp [z])) (fun z => hb (by simp [z])) q)) hf (Nat.le_refl _) new
    refine ⟨.ref s.heap.objs.size, _, I2, rfl, ⟨_, x, rfl, I.hok.fresh (Nat.le_refl _), rfl, fun ys hy => by rw [I.tuple_inj hy hq]; exact hx⟩, ⟨⟨y, ?_⟩, hI1.1.at fun o q => (sb.2 it ne.symm).trans q, ne⟩, fun b hb => ?_⟩
    · rw [show ((i + 1 : Nat) : Int) = (i : Int) + 1 by omega]; exact hE2
    · have lb : b < s.heap.objs.size := by
        rcases (show b = e ∨ b = it by simpa using hb) with rfl | rfl
        · exact le
        · exact li
      rw [upd_ne (Nat.ne_of_lt lb)]
      exact (hf b hb).1
  done := by
    intro X hP hw hK hc i pins s σ H E I hf st hg
    subst hP hw hK
    obtain ⟨⟨od, hE⟩, hI, ne⟩ := st
    obtain ⟨xs, hq, hx⟩ := hg
    obtain ⟨its, rv, pt, hz⟩ := I.tuple hq
    have pt : s.heap.IsTuple a its.toArray := pt
    have ai : a ≠ it := by
      rintro rfl
      obtain ⟨o1, q1, c1, _⟩ := pt
      obtain ⟨o2, q2, c2, _⟩ := hI
      rw [q1] at q2; cases q2; exact absurd (Value.type.inj (c1.symm.trans c2)) (by decide)
    obtain ⟨f0, f1, f2, f3, f4, f5⟩ := hf it (by simp)
    have hl := rv.length
    have hx0 : its.toArray[i]? = none := by simp; omega
    refine wpAny_pyNext_enum_endD (drawsEnd (A := X.A.in1) (I.ok.hd hc) it a its.toArray i hx0) hE ⟨rfl, hI, pt⟩ fun h' eb => ⟨rfl, I.turned (t' := s.toks) (fun b o hb q => eb b o hb q) f0 f1 f3 f4 f5⟩
  self := fun A i s Q E st h => wpAny_pyIter_enum st.1.choose_spec h
end DD
namespace DD
open PySem PySem.Spec PyProof.Rows L2
section
variable {p g : Bool} {X : Cx} {ρ : Rho} {Q : D → Rho → Prop} {E : DE} {pos : Pos} {QI : List D → Rho → Prop}
def iEnuT (K : PySem.W.Frag) (ta : TA) : TI := fun σ H R => ta σ H fun vs H1 => ∃ a xs, vs = [.ref a] ∧ SqT K H1 a xs ∧ R (ItEnuT K a) H1
theorem pi_enuT {e : Expr} {ta : TA} {pp tpos : Pos} {elts : List Expr} {kk : Nat} (hg : Gl X "enumerate") (hm : X.mg "enumerate" = none) (ha : PA X [e] ta) (hs : starEach [e] X.env = [(false, eval e X.env)] := by rfl) :
    PI X (.Tuple elts kk tpos) (.Call (.Name "enumerate" pp) [e] [] pos) (iEnuT X.K ta) := by
  refine ⟨fun pins s σ H R I hyp => ?_⟩
  refine Call_ (ld_blt I hg hm boot_enumerate (PyProof.Rows.callWith_type1 (thn (ha.run pos pins s σ H _ I hyp) fun us s1 ⟨vs, H1, I1, r1, q1⟩ => ?_) hs rfl))
  obtain ⟨a, xs, rfl, hq, q⟩ := q1
  obtain ⟨u, rfl, ru⟩ := vals1 r1
  cases ru
  obtain ⟨its, rv, pt, hz⟩ := I1.tuple hq
  refine enuT_call (show s1.heap.IsTuple a its.toArray from pt) fun h' hE hI hk => wpAny_pyIter_enum hE ?_
  have I2 : Inv X pins σ H1 { s1 with heap := h' } := I1.kept (t' := s1.toks) hk
  refine ⟨s1.heap.objs.size + 1, [s1.heap.objs.size + 1, s1.heap.objs.size], _, _, H1, rfl, I2, turn_enuT a (s1.heap.objs.size + 1) s1.heap.objs.size, ⟨⟨.none, hE⟩, hI, Nat.succ_ne_self _⟩, fun b hb => ?_, q⟩
  have le : s1.heap.objs.size ≤ b := by
    rcases (show b = s1.heap.objs.size + 1 ∨ b = s1.heap.objs.size by simpa using hb) with z | z
    · rw [z]; exact Nat.le_add_right _ 1
    · rw [z]; exact Nat.le_refl _
  exact I1.fpOk le (I1.hok.fresh le)
theorem walk_enuT {K : PySem.W.Frag} {a : Addr} {xs : List V} : Walk (ItEnuT K a) xs.length (fun H => SqT K H a xs) (YPair (fun i => some (.int (i : Nat))) (fun i => xs[i]?)) where
  goes := fun i H hi q => ⟨xs, xs[i], q, List.getElem?_eq_getElem hi⟩
  stops := fun H q => ⟨xs, q, Nat.le_refl _⟩
  yields := fun i H v H' _ q y => by
    obtain ⟨T, x, z1, z2, z3, z4⟩ := y
    exact ⟨T, .int (i : Nat), x, z1, z2, z3, rfl, z4 xs q⟩
theorem wi_enuT {a : Expr} {elts : List Expr} {kk : Nat} {pp tpos : Pos} (hg : Gl X "enumerate") (hm : X.mg "enumerate" = none) (h : WA p true X [a] ρ fun ds ρ' => ∃ xs, ds = [.tup xs] ∧ QI (((rng 0 xs.length).zip xs).map fun q => D.tup [q.1, q.2]) ρ')
    (hs : starEach [a] X.env = [(false, eval a X.env)] := by rfl) : WI p X (.Tuple elts kk tpos) (.Call (.Name "enumerate" pp) [a] [] pos) ρ QI := fun B σ G H S R r => by
  refine wI_of (pi_enuT hg hm pa_w hs) ?_
  refine h B σ G H S _ fun vs ds ρ' G' H' q S' x pu i => ?_
  obtain ⟨xs, rfl, q⟩ := q
  obtain ⟨v, rfl, l1, as, rfl, e2, e3⟩ := isA_one i
  refine ⟨l1, as, rfl, .inl (.inl (S'.ex _ _ e2)), r _ _ ρ' G' H' q S' x pu ?_⟩
  refine walkD_pair (n := as.length) (by rw [rng_len, e3.length, Nat.min_self]) walk_enuT (fun H h => .inl (.inl (h _ _ e2))) (fun i d hd => ?_) (fun i d hd => e3.get hd)
  obtain ⟨_, rfl⟩ := rng_get hd
  exact ⟨_, rfl, by show V.int _ = V.int _; rw [Int.zero_add]⟩
/-! ### sorted of a tuple of whole numbers -/
theorem cr_sortedT : CallR X (.builtin "sorted") (fun vs H Q => ∃ (a : Addr) (ns : List Int), vs = [V.ref a] ∧ SqT X.K H a (ns.map V.int) ∧ ns.length < 64 ∧ ∀ (ms : List Int) (b : Addr), ms.Perm ns → ms.Pairwise (· ≤ ·) → H b = none → Q (.ref b) (upd H b (.lst (ms.map V.int)))) := by
  intro pins s σ H vs us Q I r hyp
  obtain ⟨a, ns, rfl, hq, h64, q⟩ := hyp
  obtain ⟨u, rfl, ru⟩ := vals1 r
  cases ru
  obtain ⟨its, rv, pt, hz⟩ := I.tuple hq
  have pt : s.heap.IsTuple a its.toArray := pt
  have li : its.length = ns.length := by rw [← rv.length, List.length_map]
  have isI := rv.ints
  refine Calls.call_function_entry kind_sorted plain_sorted entry_sorted (args_sorted1 _) ?_
  unfold Builtin.«sorted»
  refine wpAny_bind (m := checkCount "sorted" 1 1 _) (wpAny_pure ?_)
  obtain ⟨o, ho, hc, n, hd⟩ := pt
  have hzz : its.length ≤ sizeLine := by rw [li, sizeLine_eq]; omega
  refine wpAny_bind (wpAny_collect_seq a (.inr rfl) ho hc hd (fun h1 k1 => ?_) (by rw [List.size_toArray]; exact hzz))
  rw [show its.toArray.toList = its by simp]
  refine wpAny_bind (wpAny_newList ?_ hzz)
  have I1 : Inv X pins σ H { s with heap := h1 } := I.kept (t' := s.toks) k1
  have nw : (h1.push (seqObj "list" its.toArray 0)).get? h1.objs.size = some (seqObj "list" its.toArray 0) := Heap.get?_push_size _ rfl
  show wpAny _ _ _ _ _ { s with heap := h1.push (seqObj "list" its.toArray 0) }
  refine wpAny_bind (wpAny_holding (wpAny_call_entry slot_list_sort ⟨_, nw, rfl⟩ entry_list_sort (list_sort_tree (s := { s with heap := h1.push (seqObj "list" its.toArray 0) }) nw isI (by rw [li]; exact h64) fun out ms g1 g2 g3 => ⟨_, rfl, ?_⟩) (args_list_sort _)))
  obtain ⟨ep, ha⟩ := sortedHeap_at (vs := its) (out := out) nw
  have lm : (ms.map V.int).length ≤ sizeLine := by rw [List.length_map, g2.length_eq, sizeLine_eq]; omega
  refine wpAny_pure ⟨_, rfl, .ref h1.objs.size, upd H h1.objs.size (.lst (ms.map V.int)), I1.laid (t' := s.toks) (fun b u e => ?_) (Nat.le_refl _) (show ObjOk X.prog X.w _ _ _ (.lst (ms.map V.int)) from ⟨lm, out.toList, ep, vals_of_ints g1, by rw [Array.toArray_toList]; exact ha⟩), rfl, q ms _ g2 g3 (I1.hok.fresh (Nat.le_refl _))⟩
  have lb : b < h1.objs.size := Heap.lt_size e
  rw [sortedHeap_old (Nat.ne_of_lt lb) (by rw [size_push']; exact Nat.lt_succ_of_lt lb)]
  exact Heap.get?_push_of_some _ e
theorem c_sortedT {g : Bool} {Z : D → Prop} {ns : List Int} (h64 : ns.length < 64) (q : ∀ ms : List Int, ms.Perm ns → ms.Pairwise (· ≤ ·) → Z (.lst (ms.map D.int))) : OpC g X (.builtin "sorted") [.tup (ns.map D.int)] Z := by
  intro G H vs R ex i k
  obtain ⟨v, rfl, a, xs, rfl, e2, e3⟩ := isA_one (isA_any ex i)
  have e4 := e3.ints
  subst e4
  refine ⟨_, cr_sortedT, a, ns, rfl, .inl (.inl e2), h64, fun ms b pm pw hb => ?_⟩
  have gr := Grow.new (o := .lst (ms.map V.int)) ex hb
  exact k _ (.lst (ms.map D.int)) _ _ (q ms pm pw) gr ⟨b, _, rfl, upd_same, IsA.of_ints⟩
/-! ### list(range(n)) -/
theorem w_listRg {a : Expr} {p1 p2 p3 : Pos} (hml : X.mg "list" = none) (hmr : X.mg "range" = none) (hc : X.calm = true) (h : W p false X a ρ fun d ρ' => ∃ n : Int, d = .int n ∧ (0 ≤ n ∧ n ≤ 1000000) ∧ Q (.lst (rng 0 n.toNat)) ρ')
    (hg1 : Gl X "list" := by rfl) (hg2 : Gl X "range" := by rfl) (n1 : starEach [a] X.env = (false, eval a X.env) :: starEach [] X.env := by rfl)
    (n2 : starEach [.Call (.Name "range" p2) [a] [] p3] X.env = (false, eval (.Call (.Name "range" p2) [a] [] p3) X.env) :: starEach [] X.env := by rfl) : W p g X (.Call (.Name "list" p1) [.Call (.Name "range" p2) [a] [] p3] [] pos) ρ Q := fun B σ G H S R r => by
  refine wE_of (pe_listRg hc hg1 hml (prg_1 hg2 hmr pe_w n1) n2) ?_
  refine h B σ G H S _ fun v d ρ' G' H' q S' x pu i => ?_
  obtain ⟨n, rfl, ⟨b0, b1⟩, q⟩ := q
  cases (i : v = .int n)
  refine ⟨n, rfl, ⟨by omega, by omega, by omega, by omega, by omega⟩, fun c hcn => ?_⟩
  have gr := Grow.new (o := .lst (rgV 0 n)) S'.ex hcn
  refine r _ (.lst (rng 0 n.toNat)) ρ' _ _ q (S'.grow gr) (x.trans gr.g) (fun z => ⟨(pu z).1, (pu z).2.trans gr⟩) (is_h (S'.grow gr) ⟨c, _, rfl, upd_same, ?_⟩)
  have e : rng 0 n.toNat = ((List.range n.toNat).map fun i : Nat => (0 : Int) + i).map D.int := by unfold rng; rw [List.map_map]; rfl
  have e2 : rgV 0 n = ((List.range n.toNat).map fun i : Nat => (0 : Int) + i).map V.int := by unfold rgV; rw [List.map_map, show (n - 0).toNat = n.toNat by omega]; rfl
  rw [e, e2]
  exact IsA.of_ints
end
end DD
namespace DD
open PySem PySem.Spec PyProof.Rows L2
/-! ### dict comprehensions whose keys are whole numbers -/
section
variable {p g : Bool} {X : Cx} {ρ : Rho} {Q : D → Rho → Prop} {E : DE} {pos : Pos}
/-- the dict so far -/
def putAll (kvs : List (Key × D)) : List (Int × D) → List (Key × D)
  | [] => kvs
  | (i, d) :: r => putAll (putD kvs (.inl i) d) r
theorem putAll_snoc (i : Int) (d : D) : ∀ (r : List (Int × D)) (kvs : List (Key × D)), putAll kvs (r ++ [(i, d)]) = putD (putAll kvs r) (.inl i) d
  | [], _ => rfl
  | (j, e) :: r, kvs => putAll_snoc i d r _
theorem putD_len (kvs : List (Key × D)) (k : Key) (d : D) : (putD kvs k d).length ≤ kvs.length + 1 := by
  unfold putD
  split
  · rw [List.length_map]; exact Nat.le_succ _
  · rw [List.length_append]; exact Nat.le_refl _
theorem putAll_len : ∀ (r : List (Int × D)) (kvs : List (Key × D)), (putAll kvs r).length ≤ kvs.length + r.length
  | [], _ => Nat.le_refl _
  | (i, d) :: r, kvs => by
    have a := putAll_len r (putD kvs (.inl i) d)
    have b := putD_len kvs (.inl i) d
    show (putAll (putD kvs (.inl i) d) r).length ≤ kvs.length + (r.length + 1)
    omega
def DcW (G1 H1 : Hp) (A : Addr) (kvs : List (Key × D)) (Hc : Hp) : Prop := H1 A = none ∧ ∃ Gi ks, Hc A = some (.dK ks) ∧ Gi A = none ∧ Grow G1 H1 Gi Hc ∧ IsK Gi kvs ks
theorem dc_go {B : Base} {σ : L2.St} {G1 H1 : Hp} {J : It} {ds : List D} {T : Tg} {tk tv : TE} {vs : List Nat} {Qd : V → Hp → Prop} (S : Sta B σ ρ G1 H1) (w : WalkD G1 J ds) (hT : ∀ i ∈ T.slots, i ∈ vs)
    (fk : D → Int) (fv : D → D) (hlen : ds.length ≤ 40000)
    (turn : ∀ d ∈ ds, ∃ ρi, T.eff d (wipeR ρ vs) = some ρi ∧ (∀ σ' G H, Sta B σ' ρi G H → ∀ R : VK, (∀ v G' H', Sta B σ' ρi G' H' → Grow G H G' H' → Is G' (.int (fk d)) v → R v H') → tk σ' H R) ∧
      (∀ σ' G H, Sta B σ' ρi G H → ∀ R : VK, (∀ v G' H', Sta B σ' ρi G' H' → Grow G H G' H' → Is G' (fv d) v → R v H') → tv σ' H R))
    (hd : ∀ a G' H', Grow G1 H1 G' H' → Is G' (.dic (putAll [] (ds.map fun d => (fk d, fv d)))) (.ref a) → Qd (.ref a) H') (A : Addr) (hA : H1 A = none) :
    ∃ W : Nat → Nat → Hp → Prop, (∃ m, W 0 m (L2.upd H1 A (.dK []))) ∧ ∀ i m H, W i m H →
      (J.stop i H ∧ Qd (.ref A) H) ∨ (J.go i H ∧ ∃ Nx : Hp → Prop, (∀ H', Nx H' → ∃ m', m' < m ∧ W (i + 1) m' H') ∧ ∀ x H', J.yld i H x H' → T.g X.K x (wipe σ vs) H' fun σ2 H2 => wipe σ2 vs = wipe σ vs ∧ tYes σ2 H2 fun b H3 =>
        if b = true then tk σ2 H3 fun y H4 => tv σ2 H4 fun z H5 => ∃ kvs k, y = kV k ∧ H5 A = some (.dK kvs) ∧ kvs.length < sizeLine ∧ Nx (L2.upd H5 A (.dK (putK kvs k z))) else Nx H3) := by
  refine it_go w (fun i H => DcW G1 H1 A (putAll [] ((ds.take i).map fun d => (fk d, fv d))) H) ?_ (fun i H _ h => ?_) (fun i x H H' hi h y => ?_) fun H h => ?_
  · refine ⟨hA, G1, [], upd_same, ?_, Grow.own S.ex hA, rfl⟩
    cases r : G1 A with
    | none => rfl
    | some u => rw [S.ex A u r] at hA; cases hA
  · obtain ⟨_, Gi, ks, _, _, gr, _⟩ := h
    exact gr.g.trans gr.x
  · obtain ⟨_, Gi, ks, hks, gA, gr, ik⟩ := h
    have hget : ds[i]? = some ds[i] := List.getElem?_eq_getElem hi
    obtain ⟨G2, gr2, ix⟩ := y _ hget Gi gr.g gr.x
    obtain ⟨ρi, he, hk, hv⟩ := turn ds[i] (List.getElem_mem hi)
    have g2 := g_none gr2 gA hks
    have h2 := gr2.h _ _ hks
    refine Tg.run he ((S.grow (gr.trans gr2)).wipe vs) ix (fun σ' S' hwp => ?_) (fun τ us j o hj => wipe_set τ us j o hj)
    refine ⟨(hwp vs hT).trans (wipe_idem σ vs), ?_⟩
    show tk σ' H' _
    refine hk σ' G2 H' S' _ fun u G3 H3 S3 gr3 iu => ?_
    refine hv σ' G3 H3 S3 _ fun v G4 H4 S4 gr4 iv => ?_
    cases (iu : u = .int (fk ds[i]))
    have g3 := g_none gr3 g2 h2
    have h3 := gr3.h _ _ h2
    have g4 := g_none gr4 g3 h3
    have h4 := gr4.h _ _ h3
    have lk : ks.length < sizeLine := by
      rw [ik.length]
      refine Nat.lt_of_le_of_lt (putAll_len _ _) ?_
      rw [List.length_map, List.length_take, sizeLine_eq]
      show (0 : Nat) + min i ds.length < _
      omega
    refine ⟨ks, .inl (fk ds[i]), rfl, h4, lk, ?_⟩
    have et : ds.take (i + 1) = ds.take i ++ [ds[i]] := by rw [List.take_add_one, hget]; rfl
    show DcW G1 H1 A (putAll [] ((ds.take (i + 1)).map fun d => (fk d, fv d))) _
    rw [et, List.map_append, List.map_cons, List.map_nil, putAll_snoc]
    have gt := ((gr.trans gr2).trans gr3).trans gr4
    refine ⟨hA, G4, _, upd_same, g4, ⟨gt.g, fun a o e => ?_, fun a o e => ?_, gt.n⟩, ?_⟩
    · have q : a ≠ A := by rintro rfl; rw [hA] at e; cases e
      rw [upd_ne q]; exact gt.h a o e
    · have q : a ≠ A := by rintro rfl; rw [g4] at e; cases e
      rw [upd_ne q]; exact gt.x a o e
    · exact (IsK.mono ((gr2.g.trans gr3.g).trans gr4.g) _ _ ik).put iv
  · obtain ⟨_, Gi, ks, hks, gA, gr, ik⟩ := h
    rw [List.take_length] at ik
    have ex := Ex.new (o := HO.dK ks) gA
    refine hd A (L2.upd Gi A (.dK ks)) H ⟨gr.g.trans ex, gr.h, fun a o e => ?_, fun a o e => ?_⟩ ⟨A, ks, rfl, upd_same, IsK.mono ex _ _ ik⟩
    · by_cases q : a = A
      · subst q; rw [upd_same] at e; rw [hks]; exact e
      · rw [upd_ne q] at e; exact gr.x a o e
    · by_cases q : a = A
      · subst q; exact .inr hA
      · rw [upd_ne q] at e; exact gr.n a o e
variable {N ps : List Str} {sc scope : Scope} {x y : Str} {kx vx iter : Expr} {px py pt : Pos} {kk : Nat}
abbrev P2D (p : Bool) (X : Cx) (scope : Scope) (i j : Nat) (x y : Str) (px py pt : Pos) (kk : Nat) (iter kx vx : Expr) (fk : D → Int) (fv : D → D) (ρ : Rho) (Q : D → Rho → Prop) : Prop :=
  WI p X (.Tuple [.Name x px, .Name y py] kk pt) iter ρ fun ds ρ1 => ds.length ≤ 40000 ∧ (∀ d ∈ ds, ∃ a b, d = .tup [a, b] ∧ ∀ s H C cl fp, W true true (Blk X scope s H C cl fp) kx ((((ρ1.set j .un).set i .un).set i (.val a)).set j (.val b)) (fun z _ => z = .int (fk d)) ∧
    W true true (Blk X scope s H C cl fp) vx ((((ρ1.set j .un).set i .un).set i (.val a)).set j (.val b)) fun z _ => z = fv d) ∧ Q (.dic (putAll [] (ds.map fun d => (fk d, fv d)))) ρ1
/-- {k: v for x, y in iter} -/
theorem dc2 (i j : Nat) (fk : D → Int) (fv : D → D) (S0 : FnScope N ps sc) (h : P2D p X scope i j x y px py pt kk iter kx vx fk fv ρ Q) (hXN : X.N = N := by rfl) (hbk : blkC X.N X.env.scope scope [(x, i), (y, j)] = true := by kernel_rfl) (hi : X.N[i]? = some x := by rfl) (hj : X.N[j]? = some y := by rfl)
    (hl : Loc1 X scope x := by intro _ _ _ _ _; first | exact ⟨.inl rfl, .inr rfl⟩ | exact ⟨.inr rfl, .inl rfl⟩) (hl2 : Loc1 X scope y := by intro _ _ _ _ _; first | exact ⟨.inl rfl, .inr rfl⟩ | exact ⟨.inr rfl, .inl rfl⟩) (h2 : Two X scope x y px py := by intro _ _ _ _ _; exact ⟨rfl, rfl, rfl, rfl⟩)
    (hc : X.calm = true := by rfl) (hs : ∀ x, foldedSetIterable iter X.env x = pure x := by intro _; rfl) :
    W p g X (.DictComp kx vx [⟨.Tuple [.Name x px, .Name y py] kk pt, iter, [], 0⟩] scope pos) ρ Q := fun B σ G H S R r => by
  refine wE_of (pe_dc (own := [(x, i), (y, j)]) hc (hXN ▸ S0.nd) pi_w (blkOk_by hbk) (pg2 S0 hXN hc hi hl hj hl2 h2) (fun _ _ _ _ _ => pts_nil) pe_c pe_c hs) ?_
  refine h B σ G H S _ fun J ds ρ1 G1 H1 q S1 z pu wk A hA => ?_
  obtain ⟨hl, turn, q⟩ := q
  refine dc_go (X := X) (Qd := R) S1 wk (T := .two i j) (fun k hk => hk) fk fv hl (fun d hd => ?_) (fun a G' H' gr ii => ?_) A hA
  · obtain ⟨a, b, rfl, hw⟩ := turn d hd
    refine ⟨_, rfl, fun σ' G2 H2 S2 R2 r2 s H0 C cl fp => ?_, fun σ' G2 H2 S2 R2 r2 s H0 C cl fp => ?_⟩
    · refine (hw s H0 C cl fp).1 B σ' G2 H2 S2 R2 fun v y ρ3 G3 H3 e S3 x3 p3 i3 => ?_
      subst e
      have e3 := (p3 rfl).1
      subst e3
      exact r2 v G3 H3 S3 (p3 rfl).2 i3
    · refine (hw s H0 C cl fp).2 B σ' G2 H2 S2 R2 fun v y ρ3 G3 H3 e S3 x3 p3 i3 => ?_
      subst e
      have e3 := (p3 rfl).1
      subst e3
      exact r2 v G3 H3 S3 (p3 rfl).2 i3
  · exact r _ _ ρ1 G' H' q (S1.grow gr) (z.trans gr.g) (fun z => ⟨(pu z).1, (pu z).2.trans gr⟩) (is_h (S1.grow gr) ii)
/-- d.get(e, f), d read -/
theorem w_dget {o e f : Expr} {apos : Pos} (hu : X.A.units + 1 < cLine) (h : W p true X o ρ fun d ρ1 => ∃ kvs, d = .dic kvs ∧ W p true X e ρ1 fun k ρ2 => ∃ n, k = .int n ∧ W p true X f ρ2 fun z ρ3 => Q ((lookD kvs (.inl n)).getD z) ρ3)
    (hbase : attributeBase o "get" X.env (eval o X.env) = eval o X.env := by rfl)
    (few : ((backTo pos (starEach [e, f] X.env)).all (fun x => !x.1) && (backToKw pos (keywordEach [] X.env)).all (fun x => x.1.isSome) && decide (([e, f] : List Expr).length + ([] : List Keyword).length + (if ([] : List Keyword).isEmpty then 0 else 1) < 30)) = true := by rfl)
    (hline : (apos.endLine == pos.line) = true := by rfl) (htr : backTo pos (starEach [e, f] X.env) = [(false, eval e X.env), (false, eval f X.env)] := by rfl) : W p g X (.Call (.Attribute o "get" apos) [e, f] [] pos) ρ Q := fun B σ G H S R r => by
  refine wE_of (pe_dget2 hu pe_w pe_w pe_w ⟨hbase, few, hline, htr⟩) ?_
  refine h B σ G H S _ fun v d ρ1 G1 H1 q S1 y1 p1 i1 => ?_
  obtain ⟨kvs, rfl, q⟩ := q
  obtain ⟨a, ks, rfl, e2, e3⟩ := i1
  refine ⟨a, rfl, .inl ⟨ks, .inl (S1.ex _ _ e2)⟩, ?_⟩
  refine q B σ G1 H1 S1 _ fun v k ρ2 G2 H2 q2 S2 y2 p2 i2 => ?_
  obtain ⟨n, rfl, q2⟩ := q2
  cases (i2 : v = .int n)
  refine q2 B σ G2 H2 S2 _ fun u z ρ3 G3 H3 q3 S3 y3 p3 i3 => ?_
  have yy := y2.trans y3
  refine ⟨valV ks (.inl n), DGet.k (k := Sum.inl n) (S3.ex _ _ (yy _ _ e2)), ?_⟩
  have e3' := IsK.mono yy _ _ e3
  refine r _ _ ρ3 G3 H3 q3 S3 (y1.trans yy) (fun w => ⟨((p3 w).1.trans (p2 w).1).trans (p1 w).1, ((p1 w).2.trans (p2 w).2).trans (p3 w).2⟩) (is_h S3 ?_)
  rcases e3'.val (k := Sum.inl n) with ⟨d, v, a1, a2, a3⟩ | ⟨a1, a2⟩
  · unfold lookD; rw [a1, a2]; exact a3
  · unfold lookD; rw [a1, a2]; exact i3
end
end DD
namespace DD
open PySem PySem.Spec PyProof.Rows L2
section
variable {p g : Bool} {X : Cx} {ρ : Rho} {Q : D → Rho → Prop} {E : DE} {pos : Pos} {N ps : List Str} {sc scope : Scope} {x y z : Str} {kx vx iter : Expr} {px py pt pz spos : Pos} {kk : Nat}
/-- name = {k: v for ..} -/
theorem ps_setDc {l : Nat} {tg : Expr} {own : List (Str × Nat)} {wi : TI} {gg : TG} {tt : TT} {tk tv : TE} (hc : X.calm = true) (hN : X.N.Nodup) (hz : X.N[l]? = some z) (hzl : X.env.scope.names.lookup z = some .local)
    (sw : swapsWith (.DictComp kx vx [⟨tg, iter, [], 0⟩] scope pos) (some (.Name z pz)) spos.line X.env = pure true) (hi : PI X tg iter wi) (ok : BlkOk X.N X.env.scope scope own)
    (h1 : ∀ s H C cl fp, PG (Blk X scope s H C cl fp) tg gg) (h2 : ∀ s H C cl fp, PTs (Blk X scope s H C cl fp) [] tt) (h3 : ∀ s H C cl fp, PE (Blk X scope s H C cl fp) kx tk) (h4 : ∀ s H C cl fp, PE (Blk X scope s H C cl fp) vx tv)
    (hs : ∀ x, foldedSetIterable iter X.env x = pure x) : PS X (.Assign [.Name z pz] (.DictComp kx vx [⟨tg, iter, [], 0⟩] scope pos) spos) (tAsg (tDc wi gg tt tk tv (own.map (·.2))) (gName l)) := by
  refine ⟨fun pins s σ H D I hyp => ?_⟩
  rw [exec_Assign_Name_used _ _ _ _ sw]
  refine wpAny_bind (wpAny_standAt (wpAny_bind ?_))
  show wpAny _ X.A (do let _ ← comprehension (.DictComp kx vx [⟨tg, iter, [], 0⟩] scope pos) scope X.env (firstIterPos [⟨tg, iter, [], 0⟩] pos) newDict false (eval iter X.env) (some (assign (.Name z pz) X.env))) _ _ s
  have hyp : tDc wi gg tt tk tv (own.map (·.2)) σ H (fun x H1 => gName l x σ H1 D.nx) := hyp
  refine wpAny_bind (thn (dc_core (Qf := fun _ s' => SP X pins D .next s') hc hN I hi ok h1 h2 h3 h4 hs hyp fun A C s' m H' I' q hn fp => ?_) fun _ s' hq => wpAny_pure (wpAny_pure hq))
  show wpAny _ _ (assign (.Name z pz) X.env (.ref A)) _ _ _
  obtain ⟨f0, f1, f2, f3, f4, f5⟩ := fp
  refine wpAny_assign_Name (store_ok2 (v := V.ref A) I' hN hz (.inl hzl) rfl (fun s2 I2 ⟨a, sb, ha⟩ => ?_) (.inr hzl))
  have neq : C ≠ a := ha.elim (fun e => e ▸ f1) fun e q => f4 z a e q.symm
  exact ⟨m, hn.sameBut sb neq, fun h3 sb3 => ⟨_, H', I2.turned (t' := s2.toks) (fun b o hb e => (sb3.2 b hb).trans e) f0 f1 f3 f4 f5, q⟩⟩
theorem sw_dict {gs : List Comprehension} {n : Nat} {env : Env} (hk : env.scope.kind = .function) (hz : env.scope.names.lookup z = some .local) (hl : (pz.line == pos.line) = true)
    (ha : (scope.names.any fun (n, k) => n == z && (k == .local || k == .cell)) = false) : swapsWith (.DictComp kx vx gs scope pos) (some (.Name z pz)) n env = pure true := by
  have q1 : env.kindOf z = some .local := hz
  have q2 : env.blockKind = .function := by unfold Env.blockKind; rw [hk]; rfl
  unfold swapsWith
  simp only [q1, q2, ha, Expr.pos, hl]
  rfl
theorem x2D {i j : Nat} {fk : D → Int} {fv : D → D} (h : P2D p X scope i j x y px py pt kk iter kx vx fk fv ρ Q) : WX p g (tDc (wI X (.Tuple [.Name x px, .Name y py] kk pt) iter) ((Tg.two i j).g X.K) tYes (cE X scope kx) (cE X scope vx) [i, j]) ρ Q := fun B σ G H S R r => by
  refine h B σ G H S _ fun J ds ρ1 G1 H1 q S1 z pu wk A hA => ?_
  obtain ⟨hl, turn, q⟩ := q
  refine dc_go (X := X) (Qd := R) S1 wk (T := .two i j) (fun k hk => hk) fk fv hl (fun d hd => ?_) (fun a G' H' gr ii => ?_) A hA
  · obtain ⟨a, b, rfl, hw⟩ := turn d hd
    refine ⟨_, rfl, fun σ' G2 H2 S2 R2 r2 s H0 C cl fp => ?_, fun σ' G2 H2 S2 R2 r2 s H0 C cl fp => ?_⟩
    · refine (hw s H0 C cl fp).1 B σ' G2 H2 S2 R2 fun v y ρ3 G3 H3 e S3 x3 p3 i3 => ?_
      subst e
      have e3 := (p3 rfl).1
      subst e3
      exact r2 v G3 H3 S3 (p3 rfl).2 i3
    · refine (hw s H0 C cl fp).2 B σ' G2 H2 S2 R2 fun v y ρ3 G3 H3 e S3 x3 p3 i3 => ?_
      subst e
      have e3 := (p3 rfl).1
      subst e3
      exact r2 v G3 H3 S3 (p3 rfl).2 i3
  · exact r _ _ ρ1 G' H' q (S1.grow gr) (z.trans gr.g) (fun z => ⟨(pu z).1, (pu z).2.trans gr⟩) (is_h (S1.grow gr) ii)
/-- z = {k: v for x, y in iter} -/
theorem s_dc2 (l i j : Nat) (fk : D → Int) (fv : D → D) (S0 : FnScope N ps sc) (h : P2D false X scope i j x y px py pt kk iter kx vx fk fv ρ fun d ρ' => E.nx (ρ'.set l (.val d))) (hXN : X.N = N := by rfl) (hbk : blkC X.N X.env.scope scope [(x, i), (y, j)] = true := by kernel_rfl) (hi : X.N[i]? = some x := by rfl) (hj : X.N[j]? = some y := by rfl)
    (hl : Loc1 X scope x := by intro _ _ _ _ _; first | exact ⟨.inl rfl, .inr rfl⟩ | exact ⟨.inr rfl, .inl rfl⟩) (hl2 : Loc1 X scope y := by intro _ _ _ _ _; first | exact ⟨.inl rfl, .inr rfl⟩ | exact ⟨.inr rfl, .inl rfl⟩) (h2 : Two X scope x y px py := by intro _ _ _ _ _; exact ⟨rfl, rfl, rfl, rfl⟩)
    (hc : X.calm = true := by rfl) (hs : ∀ x, foldedSetIterable iter X.env x = pure x := by intro _; rfl) (hz : X.N[l]? = some z := by rfl) (hzl : X.env.scope.names.lookup z = some .local := by rfl)
    (hsw : swapsWith (.DictComp kx vx [⟨.Tuple [.Name x px, .Name y py] kk pt, iter, [], 0⟩] scope pos) (some (.Name z pz)) spos.line X.env = pure true := by exact sw_dict rfl rfl rfl (by decide +kernel)) :
    WS X (.Assign [.Name z pz] (.DictComp kx vx [⟨.Tuple [.Name x px, .Name y py] kk pt, iter, [], 0⟩] scope pos) spos) ρ E :=
  s_setX (ps_setDc (own := [(x, i), (y, j)]) hc (hXN ▸ S0.nd) hz hzl hsw pi_w (blkOk_by hbk) (pg2 S0 hXN hc hi hl hj hl2 h2) (fun _ _ _ _ _ => pts_nil) pe_c pe_c hs) (x2D h)
end
end DD

namespace DD
open PySem PySem.Spec PyProof.Rows L2
/-! ### the pot -/
section
variable {p g : Bool} {X : Cx} {ρ : Rho} {Q : D → Rho → Prop} {E : DE} {pos : Pos}
theorem w_pot0 (i : Nat) {x : Str} {lc : Bool} {p1 p2 : Pos} {j : Nat} (hr : ρ[i]? = some (.own lc .pot)) (q : ∀ a : Int, 0 ≤ a → Q (.int a) ρ)
    (hN : X.N[i]? = some x := by rfl) (hv : Vis X.env.scope x := by first | exact .inl rfl | exact .inr (.inl rfl) | exact .inr (.inr rfl)) (hd : (x == ("__debug__" : Str)) = false := by decide) (hcd : (x == ("__classdict__" : Str)) = false := by decide)
    (hs : PlainIx (.Constant (.int 0) j p2) := by intro _ _; rfl) : W p g X (.Subscript (.Name x p1) (.Constant (.int 0) j p2) pos) ρ Q := fun B σ G H S R r => by
  refine wE_of (pe_ix ix_list pe_w pe_int hs) ?_
  refine own_name hN hv hd hcd hr S fun l el ok => ?_
  obtain ⟨a, b, hl, a0, b0, b1⟩ := ok
  exact ⟨l, _, 0, .int a, rfl, rfl, .inl (.inl hl), rfl, r _ (.int a) ρ G H (q a a0) S (Ex.refl G) (fun _ => ⟨rfl, Grow.refl S.ex⟩) (is_h S rfl)⟩
theorem w_pot1 (i : Nat) {x : Str} {lc : Bool} {p1 p2 : Pos} {j : Nat} (hr : ρ[i]? = some (.own lc .pot)) (q : ∀ b : Int, 0 ≤ b → b < 4294967296 → Q (.int b) ρ)
    (hN : X.N[i]? = some x := by rfl) (hv : Vis X.env.scope x := by first | exact .inl rfl | exact .inr (.inl rfl) | exact .inr (.inr rfl)) (hd : (x == ("__debug__" : Str)) = false := by decide) (hcd : (x == ("__classdict__" : Str)) = false := by decide)
    (hs : PlainIx (.Constant (.int 1) j p2) := by intro _ _; rfl) : W p g X (.Subscript (.Name x p1) (.Constant (.int 1) j p2) pos) ρ Q := fun B σ G H S R r => by
  refine wE_of (pe_ix ix_list pe_w pe_int hs) ?_
  refine own_name hN hv hd hcd hr S fun l el ok => ?_
  obtain ⟨a, b, hl, a0, b0, b1⟩ := ok
  exact ⟨l, _, 1, .int b, rfl, rfl, .inl (.inl hl), rfl, r _ (.int b) ρ G H (q b b0 b1) S (Ex.refl G) (fun _ => ⟨rfl, Grow.refl S.ex⟩) (is_h S rfl)⟩
theorem pot_put {B : Base} {σ : L2.St} {G H : Hp} (S : Sta B σ ρ G H) {i : Nat} {lc : Bool} {l : Addr} {a b : Int} (hr : ρ[i]? = some (.own lc .pot)) (el : σ[i]? = some (some (.ref l))) (a0 : 0 ≤ a) (b0 : 0 ≤ b) (b1 : b < 4294967296) : Sta B σ ρ G (L2.upd H l (.lst [.int a, .int b])) := by
  obtain ⟨m, em, gl, _, _⟩ := S.ownAt hr
  have : m = l := by rw [el] at em; cases em; rfl
  subst this
  refine S.growP (l := m) ⟨Ex.refl _, fun c o e ne => by rw [upd_ne ne]; exact e, fun c o e => ?_, fun c o e => .inl e, a, b, upd_same, a0, b0, b1⟩ hr el
  have ne : c ≠ m := by rintro rfl; rw [gl] at e; cases e
  rw [upd_ne ne]; exact S.ex c o e
/-- pot[1] = e -/
theorem s_pot1 (i : Nat) {x : Str} {lc : Bool} {e : Expr} {p1 p2 p3 : Pos} {j : Nat} (hr : ρ[i]? = some (.own lc .pot)) (h : W true true X e ρ fun d _ => ∃ n, d = .int n ∧ (0 ≤ n ∧ n < 4294967296) ∧ E.nx ρ)
    (hN : X.N[i]? = some x := by rfl) (hv : Vis X.env.scope x := by first | exact .inl rfl | exact .inr (.inl rfl) | exact .inr (.inr rfl)) (hd : (x == ("__debug__" : Str)) = false := by decide) (hcd : (x == ("__classdict__" : Str)) = false := by decide)
    (hs : swapsWithSole [.Subscript (.Name x p1) (.Constant (.int 1) j p2) p3] e pos.line X.env = pure false := by rfl) (hw : swappedStores [.Subscript (.Name x p1) (.Constant (.int 1) j p2) p3] e X.env = pure none := by rfl)
    (h1 : (assignEach [.Subscript (.Name x p1) (.Constant (.int 1) j p2) p3] X.env).map (·.2) = [assign (.Subscript (.Name x p1) (.Constant (.int 1) j p2) p3) X.env] := by rfl) :
    WS X (.Assign [.Subscript (.Name x p1) (.Constant (.int 1) j p2) p3] e pos) ρ E := fun B σ G H F S L => by
  refine wS_of (ps_asg pe_w (pg_sub pe_w pe_int set_list) hs hw h1) ?_
  refine h B σ G H S _ fun v d ρ' G' H' q S' y pu iv => ?_
  obtain ⟨e1, gr⟩ := pu rfl
  subst e1
  obtain ⟨n, rfl, ⟨n0, n1⟩, q⟩ := q
  cases (iv : v = .int n)
  refine own_name hN hv hd hcd hr S' fun l el ok => ?_
  obtain ⟨a, b, hl, a0, b0, b1⟩ := ok
  exact ⟨l, _, 1, 1, rfl, rfl, hl, rfl, L.nx _ _ G' _ q (pot_put S' hr el a0 n0 n1) y⟩
/-- pot[0], x = e, e a pair -/
theorem s_pot0 (i l : Nat) {x y : Str} {lc : Bool} {e : Expr} {p1 p2 p3 p4 p5 : Pos} {j kk : Nat} (hN : X.N.Nodup) (hc : X.calm = true) (hr : ρ[i]? = some (.own lc .pot)) (h : W true true X e ρ fun d _ => ∃ n m, d = .tup [.int n, .int m] ∧ 0 ≤ n ∧ E.nx (ρ.set l (.val (.int m))))
    (hi : X.N[i]? = some x := by rfl) (hl : X.N[l]? = some y := by rfl) (hy : Loc X.env.scope y := by first | exact .inl rfl | exact .inr rfl) (hf : X.fn y = true ∨ X.env.scope.names.lookup y = some .local := by first | exact .inl rfl | exact .inr rfl)
    (hv : Vis X.env.scope x := by first | exact .inl rfl | exact .inr (.inl rfl) | exact .inr (.inr rfl)) (hd : (x == ("__debug__" : Str)) = false := by decide) (hcd : (x == ("__classdict__" : Str)) = false := by decide)
    (hs : swapsWithSole [.Tuple [.Subscript (.Name x p1) (.Constant (.int 0) j p2) p3, .Name y p4] kk p5] e pos.line X.env = pure false := by rfl) (hw : swappedStores [.Tuple [.Subscript (.Name x p1) (.Constant (.int 0) j p2) p3, .Name y p4] kk p5] e X.env = pure none := by rfl)
    (h1 : (assignEach [.Tuple [.Subscript (.Name x p1) (.Constant (.int 0) j p2) p3, .Name y p4] kk p5] X.env).map (·.2) = [assign (.Tuple [.Subscript (.Name x p1) (.Constant (.int 0) j p2) p3, .Name y p4] kk p5) X.env] := by rfl)
    (t1 : (assignEach [.Subscript (.Name x p1) (.Constant (.int 0) j p2) p3, .Name y p4] X.env).length = 2 := by rfl) (t2 : (assignEach [.Subscript (.Name x p1) (.Constant (.int 0) j p2) p3, .Name y p4] X.env).findIdx? (·.1) = none := by rfl)
    (t3 : (assignEach [.Subscript (.Name x p1) (.Constant (.int 0) j p2) p3, .Name y p4] X.env).map (·.2) = assign (.Subscript (.Name x p1) (.Constant (.int 0) j p2) p3) X.env :: (assignEach [.Name y p4] X.env).map (·.2) := by rfl) (t4 : (assignEach [.Name y p4] X.env).map (·.2) = assign (.Name y p4) X.env :: (assignEach [] X.env).map (·.2) := by rfl) :
    WS X (.Assign [.Tuple [.Subscript (.Name x p1) (.Constant (.int 0) j p2) p3, .Name y p4] kk p5] e pos) ρ E := fun B σ G H F S L => by
  refine wS_of (ps_asg pe_w (pg_tup hc (pgs_cons (pg_sub pe_w pe_int set_list) (pgs_cons (pg_name hN hl hy hf) pgs_nil t4) t3) t1 t2) hs hw h1) ?_
  refine h B σ G H S _ fun v d ρ' G' H' q S' y pu iv => ?_
  obtain ⟨e1, gr⟩ := pu rfl
  subst e1
  obtain ⟨n, m, rfl, n0, q⟩ := q
  obtain ⟨tl, vs, rfl, e2, e3⟩ := iv
  obtain ⟨v1, v2, rfl, i1, i2⟩ := isA_two e3
  cases (i1 : v1 = .int n); cases (i2 : v2 = .int m)
  refine ⟨tl, _, rfl, .inl (.inl (S'.ex _ _ e2)), rfl, .int n, [.int m], rfl, ?_⟩
  refine own_name hi hv hd hcd hr S' fun l' el ok => ?_
  obtain ⟨a, b, hl, a0, b0, b1⟩ := ok
  exact ⟨l', _, 0, 0, rfl, rfl, hl, rfl, .int m, [], rfl, rfl, L.nx _ _ G' _ q ((pot_put S' hr el n0 b0 b1).set (d := .int m) rfl) y⟩
theorem c_divmod {i j : Int} {g : Bool} {Z : D → Prop} (q : (0 < j ∧ j < 1073741824) ∧ Z (.tup [.int (i / j), .int (i % j)])) : OpC g X (.builtin "divmod") [.int i, .int j] Z := by
  intro G H vs R ex hi k
  obtain ⟨v, u, rfl, e1, e2⟩ := isA_two (isA_any ex hi)
  cases (e1 : v = .int i); cases (e2 : u = .int j)
  refine ⟨_, call_divmod, i, j, rfl, q.1, fun b hb => ?_⟩
  have gr := Grow.new (o := .tup [.int (i / j), .int (i % j)]) ex hb
  exact k _ (.tup [.int (i / j), .int (i % j)]) _ _ q.2 gr ⟨b, _, rfl, upd_same, _, _, rfl, rfl, _, _, rfl, rfl, rfl⟩
/-! ### a def that makes a pot -/
def spF (c : List D → Prop) : Sp := fun vs H Q _ => ∃ (G : Hp) (ds : List D), Ex G H ∧ IsA G ds vs ∧ c ds ∧ ∀ l a b H', H l = none → Ex H H' → H' l = some (.lst [.int a, .int b]) → 0 ≤ a → 0 ≤ b → b < 4294967296 → Q (.ref l) H'
def WSF (X : Cx) (st : List Stmt) (ρ : Rho) : Prop := ∀ (B : Base) (σ : L2.St) (G H : Hp) (F : Ends), B.W = [] → Sta B σ ρ G H →
  (∀ l a b H', B.H l = none → Ex B.H H' → H' l = some (.lst [.int a, .int b]) → 0 ≤ a → 0 ≤ b → b < 4294967296 → F.rt (.ref l) H') → wSs X st F σ H
theorem wsf_cons {st : Stmt} {rest : List Stmt} (h : WS X st ρ { nx := fun ρ' => WSF X rest ρ', rt := fun _ => False }) : WSF X (st :: rest) ρ := fun B σ G H F hW S k =>
  wSs_of (pss_cons ps_w pss_w) (h B σ G H { F with nx := wSs X rest F } S ⟨fun σ' ρ' G' H' q S' _ => q B σ' G' H' F hW S' k, fun _ _ _ _ z => z.elim, fun _ _ _ _ z => z.elim, fun _ _ _ _ z => z.elim⟩)
theorem wsf_ret {es : List Expr} {p1 : Pos} (h : WA true true X es ρ fun ds _ => ∃ a b : Int, ds = [.int a, .int b] ∧ 0 ≤ a ∧ 0 ≤ b ∧ b < 4294967296) : WSF X [.Return (some (.List es p1)) pos] ρ := fun B σ G H F hW S k => by
  refine wSs_of (pss_one (ps_ret (pe_lst pa_w))) ?_
  refine h B σ G H S _ fun vs ds ρ' G' H' q S' x pu i => ?_
  obtain ⟨a, b, rfl, a0, b0, b1⟩ := q
  obtain ⟨v, u, rfl, e1, e2⟩ := isA_two i
  cases (e1 : v = .int a); cases (e2 : u = .int b)
  refine ⟨by show 2 ≤ sizeLine; decide, fun l hl => ?_⟩
  have ex : Ex B.H H' := fun c o e => S'.fr c o e (by rw [hW]; simp)
  exact k l a b _ (S'.kn l hl) (ex.trans (Ex.new hl)) upd_same a0 b0 b1
variable {P : Program} {w : World} {K : PySem.W.Frag} {mg : Str → Option Value} {base : Heap}
theorem fnF {x qual : Str} {st : Stmt} {f : Addr} {fd : FuncData} {N ps : List Str} {k : Nat} {c : List D → Prop} (F : Fun K x qual st f fd) (S : FnScope N ps (defScope st)) (len : ∀ ds, c ds → ds.length = ps.length)
    (h : ∀ (cdv : Value) (A : Around) (outer : List Env) (s : Shared) (H : Hp) (E : XK) (ds : List D), Room k (A.deeper (envOfC qual (defScope st) s.heap.objs.size f cdv)) → c ds → WSF (CxD P w K mg base N qual st f cdv A outer s H E) (defBody st) (rho0 N ds)) : FnOk P w K mg base CX0 (k + 1) f fd ps (spF c) := by
  refine F.ok S (fun vs H Q E hs => ?_) fun cdv A outer s H vs Q E hr hs => ?_
  · obtain ⟨G, ds, ex, i, hc, _⟩ := hs
    rw [i.length]; exact len ds hc
  · obtain ⟨G, ds, ex, i, hc, q⟩ := hs
    exact ⟨_, pss_w, h cdv A outer s H E ds hr hc ⟨H, G, [], 0⟩ _ G H _ rfl (sta_start ex i) fun l a b H' n e z a0 b0 b1 => q l a b H' n e z a0 b0 b1⟩
/-- x = f(e, ..), a new pot -/
theorem f_call {c : List D → Prop} {k : Nat} {ps : List Str} {x : Str} {pp : Pos} {e : Expr} {es : List Expr} {QO : Own → Rho → Prop} (F : Df X.prog X.w X.K X.mg X.base k x ps (spF c)) (hr : Room k X.A) (h : WA true true X (e :: es) ρ fun ds ρ' => c ds ∧ QO .pot ρ') (hg : Gl X x := by rfl) (hdb : (x == ("__debug__" : Str)) = false := by decide)
    (he : starEach (e :: es) X.env = (false, eval e X.env) :: starEach es X.env := by rfl) (hpl : (backTo pos (starEach es X.env)).any (·.1) = false := by rfl) : WF X (.Call (.Name x pp) (e :: es) [] pos) ρ QO := fun B σ G H S R r => by
  obtain ⟨f, fd, F, hm, hk, hb⟩ := F.ex
  refine wE_of (pe_call F hr hg hm hk hb .nil pass0 pa_w hdb he hpl) ?_
  refine h B σ G H S _ fun vs ds ρ' G' H' q S' y pu i => ?_
  refine ⟨G', ds, S'.ex, by rw [List.append_nil]; exact i, q.1, fun l a b H2 n ex z a0 b0 b1 => ?_⟩
  obtain ⟨h1, h2, h3⟩ := new_own S' n
  have gr : Grow G' H' G' H2 := ⟨Ex.refl _, ex, S'.ex.trans ex, fun _ _ e => .inl e⟩
  exact r l .pot ρ' G' H2 q.2 (S'.grow gr) y h1 h2 h3 ⟨a, b, z, a0, b0, b1⟩
end
end DD
namespace DD
open PySem PySem.Spec PyProof.Rows L2
section
variable {p g : Bool} {X : Cx} {ρ : Rho} {Q : D → Rho → Prop} {E : DE} {pos : Pos}
/-- x, y = e, [] -/
theorem s_parN (i j : Nat) {x y : Str} {a : Expr} {px py pt pl : Pos} {kt k2 pt2} {N ps : List Str} {sc : Scope} (S0 : FnScope N ps sc) (hij : i ≠ j)
    (h : W true true X a ρ fun d _ => E.nx ((ρ.set i (.val d)).set j (.own true (.lst [])))) (hXN : X.N = N := by rfl) (hc : X.calm = true := by rfl) (hi : X.N[i]? = some x := by rfl) (hj : X.N[j]? = some y := by rfl)
    (hx : X.env.scope.names.lookup x = some .local := by rfl) (hy : X.env.scope.names.lookup y = some .local := by rfl)
    (hs1 : starEach [a, .List [] pl] X.env = (false, eval a X.env) :: starEach [.List [] pl] X.env := by rfl) (hs2 : starEach [.List [] pl] X.env = (false, eval (.List [] pl) X.env) :: starEach [] X.env := by rfl)
    (hw : swappedStores [.Tuple [.Name x px, .Name y py] kt pt] (.Tuple [a, .List [] pl] k2 pt2) X.env = pure (some [x, y]) := by rfl)
    (hs : swapsWithSole [.Tuple [.Name x px, .Name y py] kt pt] (.Tuple [a, .List [] pl] k2 pt2) pos.line X.env = pure false := by rfl) :
    WS X (.Assign [.Tuple [.Name x px, .Name y py] kt pt] (.Tuple [a, .List [] pl] k2 pt2) pos) ρ E := fun B σ G H F S L => by
  refine wS_of (ps_par hc (hXN ▸ S0.nd) hi hj hij hx hy (pa_cons pe_w (pa_cons (pe_lst pa_nil) pa_nil hs2) hs1) hw hs) ?_
  refine h B σ G H S _ fun v d ρ' G' H' q S' z pu iv => ?_
  obtain ⟨e1, gr⟩ := pu rfl
  subst e1
  refine ⟨Nat.zero_le _, fun l hl => ⟨v, .ref l, rfl, ?_⟩⟩
  obtain ⟨h1, h2, h3⟩ := new_own S' hl
  have S2 := S'.grow (Grow.own (o := .lst []) S'.ex hl)
  have S3 := S2.set (i := i) iv
  refine L.nx _ _ G' _ q (S3.setOwn (i := j) (l := l) h1 h2 ⟨[], upd_same, rfl⟩ fun m lc u hm hs => ?_) z
  by_cases him : i = m
  · subst him
    rw [List.getElem?_set] at hm
    simp only [if_true] at hm
    split at hm <;> cases hm
  · rw [List.getElem?_set_ne him] at hm hs
    exact h3 m hs lc u hm
end
theorem cut_to {xs : List D} {n : Nat} (h : n ≤ xs.length) : cutD xs none (some (n : Int)) = xs.take n := by
  unfold cutD
  rw [HT.sIx_none, HT.sIx_nat, List.drop_zero, Nat.min_eq_left h, Nat.sub_zero]
theorem cut_from {xs : List D} {n : Nat} (h : n ≤ xs.length) : cutD xs (some (n : Int)) none = xs.drop n := by
  unfold cutD
  rw [HT.sIx_none, HT.sIx_nat, Nat.min_eq_left h, ← List.length_drop, List.take_length]
end DD
namespace DD
open PySem PySem.Spec PyProof.Rows L2
section
variable {p g : Bool} {X : Cx} {ρ : Rho} {Q : D → Rho → Prop} {E : DE} {pos : Pos}
/-- x[e] = v, short -/
theorem item (i : Nat) {x : Str} {e ev : Expr} {p1 p2 : Pos}
    (h : W true true X ev ρ fun d _ => ∃ ds, ρ[i]? = some (.own true (.lst ds)) ∧ W true true X e ρ fun k _ => ∃ n j, k = .int n ∧ ixN ds.length n = some j ∧ E.nx (ρ.set i (.own true (.lst (ds.set j d)))))
    (hN : X.N[i]? = some x := by rfl) (hv : Vis X.env.scope x := by first | exact .inl rfl | exact .inr (.inl rfl) | exact .inr (.inr rfl)) (hd : (x == ("__debug__" : Str)) = false := by decide) (hcd : (x == ("__classdict__" : Str)) = false := by decide)
    (hs : swapsWithSole [.Subscript (.Name x p1) e p2] ev pos.line X.env = pure false := by rfl) (hw : swappedStores [.Subscript (.Name x p1) e p2] ev X.env = pure none := by rfl)
    (h1 : (assignEach [.Subscript (.Name x p1) e p2] X.env).map (·.2) = [assign (.Subscript (.Name x p1) e p2) X.env] := by rfl)
    (ha : ∀ v, assign (.Subscript (.Name x p1) e p2) X.env v = (do
      let ov ← holding [v] (eval (.Name x p1) X.env)
      let iv ← holding [v, ov] (eval e X.env)
      standAt p2
      holding [v, ov, iv] (setItem ov iv v)
      release [v, ov, iv] []) := by intro _; rfl) : WS X (.Assign [.Subscript (.Name x p1) e p2] ev pos) ρ E := s_item hN hv hd hcd h hs hw h1 ha
end
/-- keywords the other way about -/
def sw2 {α : Type} : List α → List α
  | [a, b] => [b, a]
  | l => l
theorem isA_sw {H : Hp} {ds : List D} {vs : List V} (h : IsA H ds vs) : IsA H (sw2 ds) (sw2 vs) := by
  match ds, h with
  | [], h => cases h; rfl
  | [a], h =>
    obtain ⟨x, rfl, i⟩ := isA_one h
    exact ⟨x, [], rfl, i, rfl⟩
  | [a, b], h =>
    obtain ⟨x, y, rfl, i1, i2⟩ := isA_two h
    exact ⟨y, [x], rfl, i2, x, [], rfl, i1, rfl⟩
  | a :: b :: c :: r, h =>
    have hl := h.length
    obtain ⟨x, s, rfl, i1, h2⟩ := id h
    obtain ⟨y, s, rfl, i2, h3⟩ := h2
    obtain ⟨z, s, rfl, i3, h4⟩ := h3
    exact h
theorem vals_sw {vs : List V} {us : List Value} (h : Vals vs us) : Vals (sw2 vs) (sw2 us) := by
  cases h with
  | nil => exact .nil
  | cons h1 t1 =>
    cases t1 with
    | nil => exact .cons h1 .nil
    | cons h2 t2 =>
      cases t2 with
      | nil => exact .cons h2 (.cons h1 .nil)
      | cons h3 t3 => exact .cons h1 (.cons h2 (.cons h3 t3))
structure DfK (P : Program) (w : World) (K : PySem.W.Frag) (mg : Str → Option Value) (base : Heap) (k : Nat) (x : Str) (ps ks : List Str) (sp : Sp) : Prop where
  ex : ∃ f fd, FnOk P w K mg base CX0 k f fd ps sp ∧ mg x = some (.ref f) ∧ PySem.W.keepIn K (.ref f) = true ∧ KBinds K fd ps ks (fun us ws => us ++ sw2 ws) (fun vs zs => vs ++ sw2 zs)
section
variable {p g : Bool} {X : Cx} {ρ : Rho} {Q : D → Rho → Prop} {pos : Pos}
theorem callK {k : Nat} {ps ks : List Str} {c : List D → (D → Prop) → Prop} {x : Str} {pp : Pos} {kws : List Keyword} (F : DfK X.prog X.w X.K X.mg X.base k x ps ks (spD c)) (hr : Room k X.A)
    (h : WK p true X kws ρ fun ds ρ' => c (sw2 ds) fun d => Q d ρ') (hg : Gl X x := by rfl) (hdb : (x == ("__debug__" : Str)) = false := by decide)
    (hall : (backToKw pos (keywordEach kws X.env)).all (·.1.isSome) = true := by rfl) (hks : (backToKw pos (keywordEach kws X.env)).filterMap (·.1) = ks := by rfl)
    (hpl : ((backTo pos (starEach [] X.env)).any (·.1) || (backToKw pos (keywordEach kws X.env)).any (·.1.isNone)) = false := by rfl) : W p g X (.Call (.Name x pp) [] kws pos) ρ Q := by
  obtain ⟨f, fd, F, hm, hk, hb⟩ := F.ex
  exact w_callK0 F hr hm hk hb (fun _ _ _ h => isA_sw h) h hg hdb hall hks hpl
end
end DD
namespace DD
open PySem PySem.Spec PyProof.Rows L2
section
variable {g : Bool} {X : Cx} {Z : D → Prop}
/-! ### the script -/
theorem c_lenScr {ns : List Int} (q : Z (.int (ns.length : Int))) : OpC g X (.builtin "len") [.scr X.K ns] Z := by
  intro G H vs R ex i k
  obtain ⟨v, rfl, a, rfl, e⟩ := isA_one (isA_any ex i)
  refine ⟨_, call_len_seq, a, _, rfl, .inl e, ?_⟩
  rw [List.length_map]
  exact k _ (.int (ns.length : Int)) G H q (Grow.refl ex) rfl
theorem x_scr {ns : List Int} {i : Int} {n : Int} (h : atI (ns.map V.int) i = some (.int n)) (q : Z (.int n)) : OpI g X (.scr X.K ns) (.int i) Z := by
  intro G H v u R ex i1 j k
  have j' : u = .int i := is_any ex j
  subst j'
  obtain ⟨a, rfl, e⟩ := is_any ex i1
  exact ⟨_, ix_list, a, _, i, .int n, rfl, rfl, e, h, k (.int n) (.int n) q (by cases g <;> exact rfl)⟩
end
end DD

namespace DD
open PySem PySem.Spec PyProof.Rows L2

/-! ### data that hold no list; ghosts without lists: so what comes out of a def is new -/
mutual
def noL : D → Bool
  | .lst _ => false
  | .dic _ => false
  | .scr _ _ => false
  | .tup ds => noLA ds
  | .obj _ fs => noLF fs
  | _ => true
def noLA : List D → Bool
  | [] => true
  | d :: ds => noL d && noLA ds
def noLF : List (Str × D) → Bool
  | [] => true
  | (_, d) :: ds => noL d && noLF ds
end
def NoList (o : HO) : Prop := ∀ xs, o ≠ .lst xs
mutual
theorem Is.keepNL {G G' : Hp} (e : ∀ a o, G a = some o → NoList o → G' a = some o) : ∀ (d : D) (v : V), noL d = true → Is G d v → Is G' d v
  | .non, _, _, h => h
  | .bl _, _, _, h => h
  | .int _, _, _, h => h
  | .str _, _, _, h => h
  | .ty _, _, _, h => h
  | .lst _, _, n, _ => by cases n
  | .dic _, _, n, _ => by cases n
  | .scr _ _, _, n, _ => by cases n
  | .tup ds, _, n, ⟨a, xs, e1, e2, e3⟩ => ⟨a, xs, e1, e _ _ e2 (fun _ z => nomatch z), IsA.keepNL e ds xs n e3⟩
  | .obj C fs, _, n, ⟨a, dx, gs, e1, e2, e3⟩ => ⟨a, dx, gs, e1, e _ _ e2 (fun _ z => nomatch z), IsF.keepNL e fs gs n e3⟩
theorem IsA.keepNL {G G' : Hp} (e : ∀ a o, G a = some o → NoList o → G' a = some o) : ∀ (ds : List D) (xs : List V), noLA ds = true → IsA G ds xs → IsA G' ds xs
  | [], _, _, h => h
  | d :: ds, _, n, ⟨x, r, e1, e2, e3⟩ => ⟨x, r, e1, Is.keepNL e d x (Bool.and_eq_true_iff.mp n).1 e2, IsA.keepNL e ds r (Bool.and_eq_true_iff.mp n).2 e3⟩
theorem IsF.keepNL {G G' : Hp} (e : ∀ a o, G a = some o → NoList o → G' a = some o) : ∀ (fs : List (Str × D)) (xs : List (Str × V)), noLF fs = true → IsF G fs xs → IsF G' fs xs
  | [], _, _, h => h
  | (k, d) :: ds, _, n, ⟨x, r, e1, e2, e3⟩ => ⟨x, r, e1, Is.keepNL e d x (Bool.and_eq_true_iff.mp n).1 e2, IsF.keepNL e ds r (Bool.and_eq_true_iff.mp n).2 e3⟩
end
/-- a ghost less its lists -/
def LF (G : Hp) : Hp := fun a => match G a with
  | some (.lst _) => none
  | o => o
theorem LF.ex {G : Hp} : Ex (LF G) G := fun a o h => by
  unfold LF at h
  split at h
  · cases h
  · exact h
theorem LF.keep {G : Hp} : ∀ a o, G a = some o → NoList o → LF G a = some o := fun a o h n => by
  unfold LF
  split
  · rename_i xs e
    rw [h] at e
    cases e
    exact absurd rfl (n xs)
  · exact h
theorem LF.no {G : Hp} (a : Addr) (xs : List V) : LF G a ≠ some (.lst xs) := fun h => by
  unfold LF at h
  split at h
  · cases h
  · rename_i n
    exact n xs h
/-- a ghost less one place -/
theorem del_ex {G : Hp} {D : Addr} : Ex (del D G) G := fun a o h => by
  have q : a ≠ D := by rintro rfl; rw [del_same] at h; cases h
  rw [del_ne q] at h; exact h

section
variable {X : Cx} {ρ : Rho} {E : DE} {pos : Pos}
/-- e makes new data: all its lists are new -/
def WFr (X : Cx) (e : Expr) (ρ : Rho) (d : D) : Prop := ∀ (B : Base) (σ : L2.St) (G H : Hp), Sta B σ ρ G H → ∀ R : VK,
  (∀ v G' H', Ex H H' → Ex G' H' → (∀ a xs, G' a = some (.lst xs) → H a = none) → Is G' d v → R v H') → wE X e σ H R
theorem wfr_meth0 {C f : Addr} {m : Str} {fd : FuncData} {k : Nat} {ps : List Str} {c : List D → (D → Prop) → Prop} {o : Expr} {apos : Pos} {pl : Sem Bool} {dd : D} {fs : List (Str × D)} (cl : Cls X.K C) (hm : Meth X.K C m f) (F : FnOk X.prog X.w X.K X.mg X.base CX0 k f fd ps (spD c)) (hr : Room k X.A) (hb : Binds X.K fd ps [])
    (h : W true true X o ρ fun x _ => x = .obj C fs) (hl : fs.lookup m = none) (hn : noLF fs = true) (hc : c [.obj C fs] fun d => d = dd)
    (ht : eval (.Call (.Attribute o m apos) [] [] pos) X.env = (do
      let ov ← eval o X.env
      standAt apos.atName
      let (f, first) ← holding [ov] (getMethod ov m pl)
      callWith pos f first (backTo pos (starEach [] X.env)) (backToKw pos (keywordEach [] X.env))) := by rfl) : WFr X (.Call (.Attribute o m apos) [] [] pos) ρ dd := fun B σ G H S R r => by
  refine wE_of (pe_meth0 (pl := pl) pe_w cl hm F hr hb .nil pass0 ht) ?_
  refine h B σ G H S _ fun v x ρ' G' H' q S' y pu i => ?_
  subst q
  obtain ⟨rfl, g0⟩ := pu rfl
  obtain ⟨a, dx, gs, rfl, e2, e3⟩ := id i
  refine ⟨a, dx, gs, rfl, S'.ex _ _ e2, e3.no hl, ?_⟩
  refine ⟨LF G', [.obj C fs], fun d => d = dd, LF.ex.trans S'.ex, ⟨.ref a, [], rfl, Is.keepNL LF.keep _ _ hn i, rfl⟩, hc, fun v d G2 H2 z gr iz => ?_⟩
  subst z
  refine r v G2 H2 (g0.h.trans gr.h) gr.x (fun b xs hb => ?_) iz
  rcases gr.n b _ hb with q | q
  · exact absurd q (LF.no b xs)
  · cases hq : H b with
    | none => rfl
    | some u => rw [g0.h b u hq] at q; cases q
/-- new(..).append(None) -/
theorem s_appNew {e : Expr} {ds : List D} {j} {cp p2 p3 : Pos} (h : WFr X e ρ (.lst ds)) (hz : ds.length < 1000000) (q : E.nx ρ)
    (hbase : attributeBase e "append" X.env (eval e X.env) = eval e X.env := by rfl)
    (hfew : ((backTo p3 (starEach [.Constant .none j cp] X.env)).all (fun x => !x.1) && (backToKw p3 (keywordEach [] X.env)).all (fun x => x.1.isSome)
      && decide (([.Constant .none j cp] : List Expr).length + ([] : List Keyword).length + (if ([] : List Keyword).isEmpty then 0 else 1) < 30)) = true := by rfl)
    (hline : (p2.endLine == p3.line) = true := by rfl) (hst : starEach [.Constant .none j cp] X.env = (false, eval (.Constant .none j cp) X.env) :: starEach [] X.env := by rfl) (hplain : (backTo p3 (starEach [] X.env)).any (·.1) = false := by rfl)
    (hs : swapsWith (.Call (.Attribute e "append" p2) [.Constant .none j cp] [] p3) none pos.line X.env = pure false := by rfl) : WS X (.Expr (.Call (.Attribute e "append" p2) [.Constant .none j cp] [] p3) pos) ρ E := fun B σ G H F S L => by
  refine wS_of (ps_expr (pe_bm PySem.F.plainAttrs_list PySem.F.slot_list_append PySem.F.type_list_append mt_append pe_w (pa_cons pe_non pa_nil hst) hbase hfew hline hst hplain) hs) ?_
  refine h B σ G H S _ fun v G' H' x1 x2 nw i => ?_
  obtain ⟨a, xs, rfl, e2, e3⟩ := i
  refine ⟨.inl ⟨rfl, xs, .inl (.inl (x2 _ _ e2))⟩, ?_⟩
  refine ⟨a, xs, .non, rfl, rfl, x2 _ _ e2, by rw [e3.length]; exact Nat.lt_trans hz (by decide), ?_⟩
  have fr := nw a xs e2
  have gr : Grow G H G (L2.upd H' a (.lst (xs ++ [.non]))) := ⟨Ex.refl _, fun b o hb => by
    have q : b ≠ a := by rintro rfl; rw [fr] at hb; cases hb
    rw [upd_ne q]; exact x1 b o hb, fun b o hb => by
    have hb := S.ex b o hb
    have q : b ≠ a := by rintro rfl; rw [fr] at hb; cases hb
    rw [upd_ne q]; exact x1 b o hb, fun b o hb => .inl hb⟩
  exact L.nx σ ρ G _ q (S.grow gr) (Ex.refl G)
end
end DD

namespace DD
open PySem PySem.Spec PyProof.Rows L2
section
variable {X : Cx} {ρ : Rho} {E : DE} {pos : Pos}
theorem Sta.ununset {B : Base} {σ : L2.St} {G H : Hp} (S : Sta B σ ρ G H) {i : Nat} {v : Option V} : Sta B (σ.set i v) (ρ.set i .un) G H := S.un
theorem set_un_idem (i : Nat) : (ρ.set i .un).set i .un = ρ.set i .un := List.set_set ..
/-- for x in new(..): x.append(None) -/
theorem s_forNew {i : Nat} {x : Str} {px q1 p2 p3 q4 cp : Pos} {iter : Expr} {ls : List (List D)} {j} {N ps : List Str} {sc : Scope} (S0 : FnScope N ps sc) (h : WFr X iter ρ (.lst (ls.map D.lst))) (hz : ∀ l ∈ ls, l.length < 1000 ∧ ∃ n r, l = .int n :: r) (q : E.nx (ρ.set i .un))
    (q0 : E.nx ρ) (hlρ : i < ρ.length) (hmany : ls.length < 100000)
    (hp : PassesOwn (model X.prog X.w) X.A X.env X.xe := by exact PassesOwn.never) (hXN : X.N = N := by rfl) (hi : X.N[i]? = some x := by rfl) (hx : Loc X.env.scope x := by first | exact .inl rfl | exact .inr rfl) (hf : X.fn x = true ∨ X.env.scope.names.lookup x = some .local := by first | exact .inl rfl | exact .inr rfl)
    (hv : Vis X.env.scope x := by first | exact .inl rfl | exact .inr (.inl rfl) | exact .inr (.inr rfl)) (hd : (x == ("__debug__" : Str)) = false := by decide) (hcd : (x == ("__classdict__" : Str)) = false := by decide)
    (hc : X.calm = true := by rfl) (hsI : ∀ x, foldedSetIterable iter X.env x = pure x := by intro _; rfl)
    (hbase : attributeBase (.Name x q1) "append" X.env (eval (.Name x q1) X.env) = eval (.Name x q1) X.env := by rfl)
    (hfew : ((backTo p3 (starEach [.Constant .none j cp] X.env)).all (fun x => !x.1) && (backToKw p3 (keywordEach [] X.env)).all (fun x => x.1.isSome)
      && decide (([.Constant .none j cp] : List Expr).length + ([] : List Keyword).length + (if ([] : List Keyword).isEmpty then 0 else 1) < 30)) = true := by rfl)
    (hline : (p2.endLine == p3.line) = true := by rfl) (hst : starEach [.Constant .none j cp] X.env = (false, eval (.Constant .none j cp) X.env) :: starEach [] X.env := by rfl) (hplain : (backTo p3 (starEach [] X.env)).any (·.1) = false := by rfl)
    (hs : swapsWith (.Call (.Attribute (.Name x q1) "append" p2) [.Constant .none j cp] [] p3) none q4.line X.env = pure false := by rfl) :
    WS X (.For (.Name x px) iter [.Expr (.Call (.Attribute (.Name x q1) "append" p2) [.Constant .none j cp] [] p3) q4] [] pos) ρ E := fun B σ G H F S L => by
  refine wS_of (ps_for hp hc (pi_list pe_w) (pg_name (hXN ▸ S0.nd) hi hx hf) (pss_one (ps_expr (pe_bm PySem.F.plainAttrs_list PySem.F.slot_list_append PySem.F.type_list_append mt_append (pe_var hi hv hd hcd) (pa_cons pe_non pa_nil hst) hbase hfew hline hst hplain) hs)) hsI) ?_
  refine h B σ G H S _ fun v G' H' x1 x2 nw iv => ?_
  obtain ⟨a, xs, rfl, e2, e3⟩ := iv
  have ga : G a = none := by
    cases r : G a with
    | none => rfl
    | some u => have := S.ex a u r; rw [nw a xs e2] at this; cases this
  refine ⟨a, rfl, ⟨xs, .inl (.inl (x2 _ _ e2))⟩, ?_⟩
  have hlen : xs.length = ls.length := by rw [e3.length, List.length_map]
  -- each item is a new list that begins with a whole number
  have item : ∀ (n : Nat) (y : V), xs[n]? = some y → ∃ b ys z r, y = .ref b ∧ H b = none ∧ b ≠ a ∧ H' b = some (.lst ys) ∧ ys = V.int z :: r ∧ ys.length < 1000 := fun n y hy => by
    obtain ⟨d, hd, iy⟩ := e3.at hy
    rw [List.getElem?_map] at hd
    cases hl : ls[n]? with
    | none => rw [hl] at hd; cases hd
    | some l =>
      rw [hl] at hd
      cases hd
      obtain ⟨h1, z, r, rfl⟩ := hz l (List.mem_of_getElem? hl)
      obtain ⟨b, ys, rfl, f2, f3⟩ := iy
      have hlen := f3.length
      obtain ⟨w, r2, rfl, g1, g2⟩ := f3
      cases (g1 : w = .int z)
      refine ⟨b, _, z, r2, rfl, nw b _ f2, fun hab => ?_, x2 _ _ f2, rfl, by omega⟩
      subst hab
      rw [e2] at f2
      cases f2
      obtain ⟨d, hd, iy⟩ := e3.at (i := 0) (x := V.int z) rfl
      rw [List.getElem?_map] at hd
      cases hl : ls[0]? with
      | none => rw [hl] at hd; cases hd
      | some l =>
        rw [hl] at hd
        cases hd
        obtain ⟨_, _, e, _⟩ := iy
        cases e
  -- what stays: all that stood ahead, the list at a, lists that begin with whole numbers
  have gr0 : Grow G H G H' := ⟨Ex.refl _, x1, S.ex.trans x1, fun b o hb => .inl hb⟩
  have si : i < σ.length := by
    have := (List.getElem?_eq_some_iff.mp hi).1
    rw [S.len]; exact hlρ
  refine for_it (n := xs.length) walk_list (fun t σ' Hc => (Ex H Hc ∧ Hc a = some (.lst xs) ∧ ∀ (n : Nat) (b : Addr), xs[n]? = some (.ref b) → ∃ ys z r, Hc b = some (.lst ys) ∧ ys = V.int z :: r ∧ ys.length < 1000 + t) ∧ (∀ m, m ≠ i → σ'[m]? = σ[m]?) ∧ ∃ ρ', (ρ' = ρ ∨ ρ' = ρ.set i .un) ∧ Sta B σ' ρ' G Hc)
    ⟨⟨x1, x2 _ _ e2, fun n b hb => ?_⟩, fun _ _ => rfl, ρ, .inl rfl, S.grow gr0⟩ (fun t σ' Hc _ h => .inl (.inl h.1.2.1)) (fun t y σ' Hc H'' ht hI ya => ?_) (fun σ' Hc hI => ?_)
  · obtain ⟨b', ys, z, r, e, _, _, f, g, k⟩ := item n _ hb
    cases e
    exact ⟨ys, z, r, f, g, by omega⟩
  · obtain ⟨⟨y1, y2, y3⟩, hσ, ρ', hρ, S'⟩ := hI
    obtain ⟨rfl, hy⟩ := ya
    obtain ⟨b, ys0, z0, r0, rfl, hb0, hba, _, _, _⟩ := item t y hy
    obtain ⟨ys, z, r, f, rfl, k⟩ := y3 t b hy
    have hl' : σ'.length = σ.length := by
      rw [S'.len, S.len]
      rcases hρ with rfl | rfl
      · rfl
      · rw [List.length_set]
    refine ⟨.ref b, List.getElem?_set_self (by omega), ?_⟩
    refine ⟨.inl ⟨rfl, _, .inl (.inl f)⟩, ?_⟩
    refine ⟨b, _, .non, rfl, rfl, f, Nat.lt_trans (m := 101000) (by omega) (by decide), ?_⟩
    have gb : G b = none := by
      cases r : G b with
      | none => rfl
      | some u => have := S.ex b u r; rw [hb0] at this; cases this
    have nb : ∀ c o, H c = some o → c ≠ b := fun c o hc => by rintro rfl; rw [hb0] at hc; cases hc
    refine ⟨⟨fun c o hc => ?_, ?_, fun n c hc => ?_⟩, fun m hm => by rw [List.getElem?_set_ne (Ne.symm hm)]; exact hσ m hm, ρ.set i .un, .inr rfl, ?_⟩
    · rw [upd_ne (nb c o hc)]; exact y1 c o hc
    · rw [upd_ne (Ne.symm hba)]; exact y2
    · by_cases q : c = b
      · subst q
        refine ⟨_, z, r ++ [.non], upd_same, rfl, ?_⟩
        rw [List.length_append]
        show _ + 1 < _
        omega
      · obtain ⟨us, z', r', f', e', k'⟩ := y3 n c hc
        exact ⟨us, z', r', by rw [upd_ne q]; exact f', e', by omega⟩
    · have Su : Sta B (σ'.set i (some (.ref b))) (ρ.set i .un) G H'' := by
        rcases hρ with rfl | rfl
        · exact S'.un
        · have := S'.un (i := i) (v := some (.ref b))
          rw [List.set_set] at this
          exact this
      have bb : B.H b = none := S.kn b hb0
      refine ⟨Su.len, fun c o hc => ?_, fun c o hc hw => ?_, fun c hc => ?_, Su.nw, Su.bg, Su.bx, fun l hl => ?_, fun m s w h1 h2 => ?_, Su.dist⟩
      · have q : c ≠ b := by rintro rfl; rw [gb] at hc; cases hc
        rw [upd_ne q]; exact Su.ex c o hc
      · have q : c ≠ b := by rintro rfl; rw [bb] at hc; cases hc
        rw [upd_ne q]; exact Su.fr c o hc hw
      · have q : c ≠ b := by rintro rfl; rw [upd_same] at hc; cases hc
        rw [upd_ne q] at hc; exact Su.kn c hc
      · obtain ⟨⟨u, w, e, r⟩, k, hk⟩ := Su.pot l hl
        have q : l ≠ b := by rintro rfl; rw [bb] at hk; cases hk
        exact ⟨⟨u, w, by rw [upd_ne q]; exact e, r⟩, k, hk⟩
      · have k := Su.env m s w h1 h2
        cases s with
        | un => trivial
        | val d => exact k
        | own lc o =>
          obtain ⟨l, e, f1, f2, f3⟩ := k
          -- an own thing stood ahead
          have q : l ≠ b := by
            rintro rfl
            have hm : m ≠ i := fun z => by
              subst z
              rw [List.getElem?_set] at h1
              simp only [if_true] at h1
              split at h1 <;> cases h1
            rw [List.getElem?_set_ne (Ne.symm hm)] at h1 h2
            rw [hσ m hm] at h2
            obtain ⟨l', e', _, _, ok⟩ := S.ownAt h1
            rw [e'] at h2
            cases h2
            cases e
            obtain ⟨u, hu⟩ := ok.known
            rw [hb0] at hu; cases hu
          exact ⟨l, e, f1, f2, f3.mono (Ex.refl G) fun o z => by rw [upd_ne q]; exact z⟩
  · obtain ⟨_, _, ρ', hρ, S'⟩ := hI
    rcases hρ with rfl | rfl
    · exact L.nx σ' _ G Hc q0 S' (Ex.refl G)
    · exact L.nx σ' _ G Hc q S' (Ex.refl G)
end
end DD

namespace DD
open PySem PySem.Spec PyProof.Rows L2
section
variable {X : Cx} {ρ : Rho} {E : DE} {pos : Pos}
/-- a value at a place that was free -/
def Fh (H : Hp) (v : V) : Prop := ∃ a, v = .ref a ∧ H a = none
theorem Fh.back {H H' : Hp} {v : V} (e : Ex H H') (h : Fh H' v) : Fh H v := by
  obtain ⟨a, rfl, ha⟩ := h
  refine ⟨a, rfl, ?_⟩
  cases r : H a with
  | none => rfl
  | some u => rw [e a u r] at ha; cases ha
/-- between two turns: all that was made is new -/
def LcN (G1 H1 : Hp) (D : Addr) (outs : List DD.D) (Hc : Hp) : Prop := H1 D = none ∧ ∃ Gi acc, Hc D = some (.lst acc) ∧ Gi D = none ∧ Grow G1 H1 Gi Hc ∧ IsA Gi outs acc ∧ ∀ v ∈ acc, Fh H1 v
/-- e hands back a new thing -/
def WNew (X : Cx) (e : Expr) (ρ : Rho) (d : D) : Prop := ∀ (B : Base) (σ : L2.St) (G H : Hp), Sta B σ ρ G H → ∀ R : VK,
  (∀ v G' H', Grow G H G' H' → Is G' d v → Fh H v → R v H') → wE X e σ H R
/-- e hands back a list of new things, pure -/
def WNl (X : Cx) (e : Expr) (ρ : Rho) (Q : List D → Prop) : Prop := ∀ (B : Base) (σ : L2.St) (G H : Hp), Sta B σ ρ G H → ∀ R : VK,
  (∀ a xs ds G' H', Q ds → Grow G H G' H' → G' a = some (.lst xs) → IsA G' ds xs → (∀ v ∈ xs, Fh H v) → R (.ref a) H') → wE X e σ H R
theorem x_lcN {elt tg iter : Expr} {scope : Scope} {own : List (Str × Nat)} {T : Tg} {Q : List D → Prop} (f : DD.D → DD.D) (hT : ∀ i ∈ T.slots, i ∈ own.map (·.2))
    (h : WI true X tg iter ρ fun ds ρ1 => ds.length ≤ 40000 ∧ (∀ d ∈ ds, ∃ ρi, T.eff d (wipeR ρ1 (own.map (·.2))) = some ρi ∧ ∀ s H C cl fp, WNew (Blk X scope s H C cl fp) elt ρi (f d)) ∧ Q (ds.map f)) :
    ∀ (B : Base) (σ : L2.St) (G H : Hp), Sta B σ ρ G H → ∀ R : VK,
      (∀ a xs ds G' H', Q ds → Grow G H G' H' → G' a = some (.lst xs) → IsA G' ds xs → (∀ v ∈ xs, Fh H v) → R (.ref a) H') → tLc (wI X tg iter) (T.g X.K) tYes (cE X scope elt) (own.map (·.2)) σ H R := fun B σ G H S R r => by
  refine h B σ G H S _ fun J ds ρ1 G1 H1 q S1 x pu wk D hD => ?_
  obtain ⟨hl, turn, q⟩ := q
  obtain ⟨rfl, g0⟩ := pu rfl
  refine lc_it wk (fun i Hc => LcN G1 H1 D ((ds.take i).map f) Hc) ?_ (fun i Hc _ h => ?_) (fun i x Hc H' hi h y => ?_) (fun Hc h => ?_)
  · refine ⟨hD, G1, [], upd_same, ?_, Grow.own S1.ex hD, rfl, fun v hv => absurd hv (by simp)⟩
    cases r : G1 D with
    | none => rfl
    | some u => rw [S1.ex D u r] at hD; cases hD
  · obtain ⟨_, Gi, acc, _, _, gr, _⟩ := h
    exact gr.g.trans gr.x
  · obtain ⟨_, Gi, acc, hacc, gD, gr, ia, nw⟩ := h
    have hget : ds[i]? = some ds[i] := List.getElem?_eq_getElem hi
    obtain ⟨G2, gr2, ix⟩ := y _ hget Gi gr.g gr.x
    obtain ⟨ρi, he, hel⟩ := turn ds[i] (List.getElem_mem hi)
    have g2D := g_none gr2 gD hacc
    have grA := gr.trans gr2
    refine Tg.run he ((S1.grow grA).wipe (own.map (·.2))) ix (fun σ' S' hwp => ?_) (fun τ us j o hj => wipe_set τ us j o hj)
    refine ⟨(hwp _ hT).trans (wipe_idem _ _), ?_⟩
    have etake : ds.take (i + 1) = ds.take i ++ [ds[i]] := by rw [List.take_add_one, hget]; rfl
    show cE X scope elt σ' H' _
    intro s H0 C cl fp
    refine hel s H0 C cl fp B σ' G2 H' S' _ fun v G4 H4 gr4 iv fv => ?_
    have hacc2 := gr2.h _ _ hacc
    have h4 : H4 D = some (.lst acc) := gr4.h _ _ hacc2
    have g4D := g_none gr4 g2D hacc2
    have hsz : acc.length < sizeLine := by
      rw [ia.length, List.length_map, List.length_take]
      exact Nat.lt_of_le_of_lt (m := 40000) (by omega) (by decide)
    refine ⟨acc, h4, hsz, ?_⟩
    have grT := grA.trans gr4
    refine ⟨hD, G4, acc ++ [v], upd_same, g4D, ⟨grT.g, fun a o e => ?_, fun a o e => ?_, grT.n⟩, ?_, fun u hu => ?_⟩
    · have q : a ≠ D := by rintro rfl; rw [hD] at e; cases e
      rw [upd_ne q]; exact grT.h a o e
    · have q : a ≠ D := by rintro rfl; rw [g4D] at e; cases e
      rw [upd_ne q]; exact grT.x a o e
    · rw [etake, List.map_append]
      exact IsA.snoc (IsA.mono (gr2.g.trans gr4.g) _ _ ia) iv
    · rcases List.mem_append.mp hu with hu | hu
      · exact nw u hu
      · have : u = v := by simpa using hu
        subst this
        exact fv.back grA.h
  · obtain ⟨_, Gi, acc, hacc, gD, gr, ia, nw⟩ := h
    rw [List.take_length] at ia
    have ex := Ex.new (o := HO.lst acc) gD
    refine r D acc _ (L2.upd Gi D (.lst acc)) Hc q (g0.trans ⟨gr.g.trans ex, gr.h, fun a o e => ?_, fun a o e => ?_⟩) upd_same (IsA.mono ex _ _ ia) fun v hv => (nw v hv).back g0.h
    · by_cases q : a = D
      · subst q; rw [upd_same] at e; rw [hacc]; exact e
      · rw [upd_ne q] at e; exact gr.x a o e
    · by_cases q : a = D
      · subst q; exact .inr hD
      · rw [upd_ne q] at e; exact gr.n a o e
/-- list(x) is new -/
theorem wnew_list {i : Nat} {x : Str} {px pp : Pos} {ds : List D} (hm : X.mg "list" = none) (hN : X.N[i]? = some x) (hr : ρ[i]? = some (.val (.lst ds))) (hv : Vis X.env.scope x) (hd : (x == ("__debug__" : Str)) = false := by decide) (hcd : (x == ("__classdict__" : Str)) = false := by decide)
    (hg : Gl X "list" := by rfl) (he : starEach [.Name x px] X.env = (false, eval (.Name x px) X.env) :: starEach [] X.env := by rfl) (hpl : (backTo pos (starEach [] X.env)).any (·.1) = false := by rfl) : WNew X (.Call (.Name "list" pp) [.Name x px] [] pos) ρ (.lst ds) := fun B σ G H S R r => by
  refine wE_of (pe_callTy call_any hg hm (T := "list") (by decide +kernel) (pa_cons (pe_var hN hv hd hcd) pa_nil he) (by decide) (by decide) he hpl) ?_
  obtain ⟨v, e1, iv⟩ := S.valAt hr
  obtain ⟨a, xs, rfl, e2, e3⟩ := iv
  refine ⟨_, e1, ⟨_, call_list_of, a, xs, rfl, .inl (.inl (.inl (S.ex _ _ e2))), fun p hp => ?_⟩⟩
  have gr := Grow.new (o := .lst xs) S.ex hp
  exact r _ _ _ gr ⟨p, xs, rfl, upd_same, IsA.mono gr.g _ _ e3⟩ ⟨p, rfl, hp⟩
end
end DD

namespace DD
open PySem PySem.Spec PyProof.Rows L2
section
variable {X : Cx} {ρ : Rho} {E : DE} {pos : Pos}
/-- a state whose slot i is forgotten, one place fewer in the ghost, another thing at that place: i held what was new behind H0 -/
theorem Sta.thaw {B : Base} {σ σ2 : L2.St} {G H0 G2 H2 : Hp} {i j : Nat} {a : Addr} {o : HO} {d1 d2 : D} (S : Sta B σ ρ G H0) (S2 : Sta B σ2 ((ρ.set i (.val d1)).set j (.val d2)) G2 H2) (hg : Ex G G2) (hH : Ex H0 H2) (hσ : ∀ m, m ≠ i → m ≠ j → σ2[m]? = σ[m]?)
    (ha : H0 a = none) (hL : ∃ xs, G2 a = some (.lst xs)) (hn : noL d2 = true) (hij : i ≠ j) (hiρ : i < ρ.length) : Sta B σ2 ((ρ.set i .un).set j (.val d2)) (del a G2) (L2.upd H2 a o) := by
  have Ga : G a = none := by
    cases r : G a with
    | none => rfl
    | some u => have := S.ex a u r; rw [ha] at this; cases this
  have Ba : B.H a = none := S.kn a ha
  have BGa : B.G a = none := by
    cases r : B.G a with
    | none => rfl
    | some u => have := S.bx a u r; rw [Ba] at this; cases this
  have gx : Ex G (del a G2) := fun c u hc => by
    have q : c ≠ a := by rintro rfl; rw [Ga] at hc; cases hc
    rw [del_ne q]; exact hg c u hc
  have hρ : ∀ m s, m ≠ i → m ≠ j → ((ρ.set i .un).set j (.val d2))[m]? = some s → ρ[m]? = some s ∧ ((ρ.set i (.val d1)).set j (.val d2))[m]? = some s := fun m s h1 h2 h3 => by
    rw [List.getElem?_set_ne (Ne.symm h2), List.getElem?_set_ne (Ne.symm h1)] at h3
    refine ⟨h3, ?_⟩
    rw [List.getElem?_set_ne (Ne.symm h2), List.getElem?_set_ne (Ne.symm h1)]
    exact h3
  refine ⟨?_, fun c u hc => ?_, fun c u hc hw => ?_, fun c hc => ?_, fun c u hc => S2.nw c u (del_ex c u hc), fun c u hc => ?_, S2.bx, fun l hl => ?_, fun m s w h1 h2 => ?_, fun m k l1 l2 o1 o2 mk h1 h2 => ?_⟩
  · rw [S2.len, List.length_set, List.length_set, List.length_set, List.length_set]
  · have q : c ≠ a := by rintro rfl; rw [del_same] at hc; cases hc
    rw [upd_ne q]; exact S2.ex c u (del_ex c u hc)
  · have q : c ≠ a := by rintro rfl; rw [Ba] at hc; cases hc
    rw [upd_ne q]; exact S2.fr c u hc hw
  · have q : c ≠ a := by rintro rfl; rw [upd_same] at hc; cases hc
    rw [upd_ne q] at hc; exact S2.kn c hc
  · have q : c ≠ a := by rintro rfl; rw [BGa] at hc; cases hc
    rw [del_ne q]; exact S2.bg c u hc
  · obtain ⟨⟨u, w, e, r⟩, k, hk⟩ := S2.pot l hl
    have q : l ≠ a := by rintro rfl; rw [Ba] at hk; cases hk
    exact ⟨⟨u, w, by rw [upd_ne q]; exact e, r⟩, k, hk⟩
  · by_cases mj : m = j
    · subst mj
      rw [List.getElem?_set] at h1
      simp only [if_true] at h1
      split at h1
      · rename_i hl
        cases h1
        have k : SlotOk B G2 H2 (.val d2) w := S2.env m _ w (by rw [List.getElem?_set_self (by simpa using hl)]) h2
        obtain ⟨x, e, iv⟩ := k
        refine ⟨x, e, Is.keepNL (fun c u hc nl => ?_) _ _ hn iv⟩
        have q : c ≠ a := by
          rintro rfl
          obtain ⟨xs, hx⟩ := hL
          rw [hx] at hc
          cases hc
          exact absurd rfl (nl xs)
        rw [del_ne q]; exact hc
      · cases h1
    · by_cases mi : m = i
      · subst mi
        rw [List.getElem?_set_ne (Ne.symm mj), List.getElem?_set_self hiρ] at h1
        cases h1
        trivial
      · obtain ⟨r1, r2⟩ := hρ m s mi mj h1
        have k2 := S2.env m s w r2 h2
        rw [hσ m mi mj] at h2
        have k := S.env m s w r1 h2
        cases s with
        | un => trivial
        | val d =>
          obtain ⟨x, e, iv⟩ := k
          exact ⟨x, e, Is.mono gx _ _ iv⟩
        | own lc ow =>
          obtain ⟨l, e, f1, f2, f3⟩ := k2
          have q : l ≠ a := by
            rintro rfl
            obtain ⟨l', e', _, _, ok⟩ := k
            rw [e] at e'
            cases e'
            obtain ⟨u, hu⟩ := ok.known
            rw [ha] at hu; cases hu
          refine ⟨l, e, by rw [del_ne q]; exact f1, f2, ?_⟩
          obtain ⟨l', e', _, _, ok⟩ := k
          rw [e] at e'
          cases e'
          exact ok.mono gx fun u z => by rw [upd_ne q]; exact hH _ _ z
  · have c1 : ∃ la oa, ((ρ.set i (.val d1)).set j (.val d2))[m]? = some (.own la oa) := by
      by_cases mj : m = j
      · subst mj
        rw [List.getElem?_set] at h1
        simp only [if_true] at h1
        split at h1 <;> cases h1
      · by_cases mi : m = i
        · subst mi
          rw [List.getElem?_set_ne (Ne.symm mj), List.getElem?_set_self hiρ] at h1
          cases h1
        · exact ⟨_, _, (hρ m _ mi mj h1).2⟩
    have c2 : ∃ la oa, ((ρ.set i (.val d1)).set j (.val d2))[k]? = some (.own la oa) := by
      by_cases mj : k = j
      · subst mj
        rw [List.getElem?_set] at h2
        simp only [if_true] at h2
        split at h2 <;> cases h2
      · by_cases mi : k = i
        · subst mi
          rw [List.getElem?_set_ne (Ne.symm mj), List.getElem?_set_self hiρ] at h2
          cases h2
        · exact ⟨_, _, (hρ k _ mi mj h2).2⟩
    obtain ⟨_, _, c1⟩ := c1
    obtain ⟨_, _, c2⟩ := c2
    exact S2.dist m k _ _ _ _ mk c1 c2
/-- x = [new things]; y = e2; x[0].append(None): behind it y's data stand as they were -/
theorem ss_tmp {t : TE} {i j : Nat} {x y : Str} {py q1 q2 q3 q4 cp zp p2 p3 : Pos} {e2 : Expr} {rest : List Stmt} {st1 : Stmt} {jj kk} {d2 : D} {N ps : List Str} {sc : Scope} {Q : List D → Prop} (S0 : FnScope N ps sc) (hij : i ≠ j) (hiρ : i < ρ.length)
    (ps1 : PS X st1 (tAsg t (gName i)))
    (h1 : ∀ (B : Base) (σ : L2.St) (G H : Hp), Sta B σ ρ G H → ∀ R : VK, (∀ a xs ds G' H', Q ds → Grow G H G' H' → G' a = some (.lst xs) → IsA G' ds xs → (∀ v ∈ xs, Fh H v) → R (.ref a) H') → t σ H R)
    (hQ : ∀ ds, Q ds → ∃ d0 r, ds = .lst d0 :: r ∧ d0.length < 1000000)
    (h2 : ∀ ds, Q ds → W true true X e2 (ρ.set i (.val (.lst ds))) fun u _ => u = d2) (hn : noL d2 = true) (h3 : WSs X rest ((ρ.set i .un).set j (.val d2)) E)
    (hXN : X.N = N := by rfl) (hi : X.N[i]? = some x := by rfl) (hj : X.N[j]? = some y := by rfl) (hx : Loc X.env.scope y := by first | exact .inl rfl | exact .inr rfl) (hf : X.fn y = true ∨ X.env.scope.names.lookup y = some .local := by first | exact .inl rfl | exact .inr rfl)
    (hv : Vis X.env.scope x := by first | exact .inl rfl | exact .inr (.inl rfl) | exact .inr (.inr rfl)) (hd : (x == ("__debug__" : Str)) = false := by decide) (hcd : (x == ("__classdict__" : Str)) = false := by decide)
    (hs2 : swapsWith e2 (some (.Name y py)) p2.line X.env = pure false := by rfl)
    (hpl : PlainIx (.Constant (.int 0) kk zp) := by exact fun _ _ => rfl)
    (hbase : attributeBase (.Subscript (.Name x q1) (.Constant (.int 0) kk zp) q4) "append" X.env (eval (.Subscript (.Name x q1) (.Constant (.int 0) kk zp) q4) X.env) = eval (.Subscript (.Name x q1) (.Constant (.int 0) kk zp) q4) X.env := by rfl)
    (hfew : ((backTo q3 (starEach [.Constant .none jj cp] X.env)).all (fun x => !x.1) && (backToKw q3 (keywordEach [] X.env)).all (fun x => x.1.isSome)
      && decide (([.Constant .none jj cp] : List Expr).length + ([] : List Keyword).length + (if ([] : List Keyword).isEmpty then 0 else 1) < 30)) = true := by rfl)
    (hline : (q2.endLine == q3.line) = true := by rfl) (hst : starEach [.Constant .none jj cp] X.env = (false, eval (.Constant .none jj cp) X.env) :: starEach [] X.env := by rfl) (hplain : (backTo q3 (starEach [] X.env)).any (·.1) = false := by rfl)
    (hs : swapsWith (.Call (.Attribute (.Subscript (.Name x q1) (.Constant (.int 0) kk zp) q4) "append" q2) [.Constant .none jj cp] [] q3) none p3.line X.env = pure false := by rfl) :
    WSs X (st1 :: .Assign [.Name y py] e2 p2 :: .Expr (.Call (.Attribute (.Subscript (.Name x q1) (.Constant (.int 0) kk zp) q4) "append" q2) [.Constant .none jj cp] [] q3) p3 :: rest) ρ E := fun B σ G H F S L => by
  refine wSs_of (pss_cons ps1 (pss_cons (ps_set (hXN ▸ S0.nd) hj hx pe_w hs2 hf) (pss_cons (ps_expr (pe_bm PySem.F.plainAttrs_list PySem.F.slot_list_append PySem.F.type_list_append mt_append (pe_ix ix_list (pe_var hi hv hd hcd) pe_int hpl) (pa_cons pe_non pa_nil hst) hbase hfew hline hst hplain) hs) pss_w))) ?_
  refine h1 B σ G H S _ fun a xs ds G1 H1 q gr e1 i1 fr => ?_
  obtain ⟨d0, r0, rfl, hl0⟩ := hQ ds q
  have S1 : Sta B (σ.set i (some (.ref a))) (ρ.set i (.val (.lst (.lst d0 :: r0)))) G1 H1 := (S.grow gr).set ⟨a, xs, rfl, e1, i1⟩
  refine h2 _ q B _ G1 H1 S1 _ fun v d ρ' G2 H2 hd S2 x2 pu iv => ?_
  obtain ⟨rfl, gr2⟩ := pu rfl
  subst hd
  have iv : Is G2 d v := iv
  have S3 := S2.set (i := j) iv
  have hiσ : i < σ.length := by rw [S.len]; exact hiρ
  refine ⟨.ref a, by rw [List.getElem?_set_ne (Ne.symm hij)]; exact List.getElem?_set_self hiσ, ?_⟩
  obtain ⟨y0, ys, rfl, b0, i2⟩ := i1
  obtain ⟨b, zs, rfl, f1, f2⟩ := b0
  obtain ⟨b', e', hb0⟩ := fr (.ref b) List.mem_cons_self
  cases e'
  have g2a := gr2.g _ _ e1
  have g2b := gr2.g _ _ f1
  refine ⟨a, _, 0, .ref b, rfl, rfl, .inl (.inl (S2.ex _ _ g2a)), by unfold atI ixN; simp, ?_⟩
  refine ⟨.inl ⟨rfl, zs, .inl (.inl (S2.ex _ _ g2b))⟩, ?_⟩
  refine ⟨b, zs, .non, rfl, rfl, S2.ex _ _ g2b, by rw [f2.length]; exact Nat.lt_trans hl0 (by decide), ?_⟩
  have S4 := Sta.thaw (o := .lst (zs ++ [.non])) S S3 (gr.g.trans gr2.g) (gr.h.trans gr2.h) (fun m m1 m2 => by rw [List.getElem?_set_ne (Ne.symm m2), List.getElem?_set_ne (Ne.symm m1)]) hb0 ⟨zs, g2b⟩ hn hij hiρ
  have ex4 : Ex G (del b G2) := fun c u hc => by
    have q : c ≠ b := by
      rintro rfl
      have := S.ex c u hc
      rw [hb0] at this; cases this
    rw [del_ne q]; exact gr2.g c u (gr.g c u hc)
  exact h3 B _ _ _ F S4 (L.mono ex4)
end
end DD

namespace DD
open PySem PySem.Spec PyProof.Rows L2
/-! ### zip of a tuple and a list -/
def ItTL (K : PySem.W.Frag) (a b : Addr) : It where
  go := fun i H => ∃ (xs ys : List V) (x y : V), (SqT K H a xs ∧ SqL K H b ys) ∧ xs[i]? = some x ∧ ys[i]? = some y
  yld := fun i H v H' => ∃ T x y, v = .ref T ∧ H T = none ∧ H' = upd H T (.tup [x, y]) ∧ (∀ l, SqT K H a l → l[i]? = some x) ∧ ∀ l, SqL K H b l → l[i]? = some y
  stop := fun i H => ∃ xs ys : List V, (SqT K H a xs ∧ SqL K H b ys) ∧ i = min xs.length ys.length
structure TLSt (z TI TO i1 i2 a b : Addr) (i : Nat) (h : Heap) : Prop where
  z : IsZip h z TI TO .none
  p : IsTupOf2 h TI (.ref i1) (.ref i2)
  o : ∃ u v, IsTupOf2 h TO u v
  t : h.IsTupleIter i1 a i
  l : h.IsListIter i2 b i
theorem turn_TL {P : Program} {w : World} {K : PySem.W.Frag} {elts : List Expr} {kk : Nat} {tpos : Pos} {a b z TI TO i1 i2 : Addr} (D : ZipSep2 z TI TO i1 i2 [i1, a] [i2, b]) (ha : a ≠ i1) (hb : b ≠ i2) :
    Turn P w K (.Tuple elts kk tpos) (ItTL K a b) [z, TI, TO, i1, i2] z (TLSt z TI TO i1 i2 a b) where
  mem := by simp
  obj := fun i h st c hc => by
    obtain ⟨o1, e1, _, d1⟩ := st.t
    obtain ⟨o2, e2, _, d2⟩ := st.l
    obtain ⟨u, v, e3⟩ := st.o
    rcases (show c = z ∨ c = TI ∨ c = TO ∨ c = i1 ∨ c = i2 by simpa using hc) with rfl | rfl | rfl | rfl | rfl
    · exact ⟨_, st.z, fun _ q => by cases q⟩
    · exact ⟨_, st.p, fun _ q => by cases q⟩
    · exact ⟨_, e3, fun _ q => by cases q⟩
    · exact ⟨_, e1, fun _ q => by rw [d1] at q; cases q⟩
    · exact ⟨_, e2, fun _ q => by rw [d2] at q; cases q⟩
  keep := fun i h h' st k => by
    obtain ⟨u, v, e3⟩ := st.o
    exact ⟨k z (by simp) _ st.z, k TI (by simp) _ st.p, ⟨u, v, k TO (by simp) _ e3⟩, st.t.at fun o => k i1 (by simp) o, st.l.at fun o => k i2 (by simp) o⟩
  item := by
    intro X hP hw hK hc i pins s σ H E I hf st hg
    subst hP hw hK
    obtain ⟨xs, ys, x, y, ⟨qa, qb⟩, hx, hy⟩ := hg
    obtain ⟨ia, ra, pa, _⟩ := I.tuple qa
    obtain ⟨ib, rb, pb, _⟩ := I.list qb
    have pa : s.heap.IsTuple a ia.toArray := pa
    obtain ⟨va, ga, wa⟩ := ra.get hx
    obtain ⟨vb, gb, wb⟩ := rb.get hy
    have la : i < ia.toArray.size := by have := (List.getElem?_eq_some_iff.mp ga).1; simpa using this
    have lb : i < ib.toArray.size := by have := (List.getElem?_eq_some_iff.mp gb).1; simpa using this
    have lz : z < s.heap.objs.size := Heap.lt_size st.z
    obtain ⟨u0, v0, eO⟩ := st.o
    refine wpAny_pyNext_zipD2_item D (Draws.tuple (A := X.A.in1) (I.ok.hd hc) i1 a ha ia.toArray) (Draws.list (A := X.A.in1) (I.ok.hd hc) i2 b hb ib.toArray) st.z st.p eO ⟨st.t, pa⟩ ⟨st.l, pb.isList⟩ la lb fun y1 y2 h1 tk f1 f2 g1 g2 g3 g4 g5 g6 hk => ?_
    have e1 : y1 = va := by
      have q : ia[i]? = some y1 := by simpa using f1
      rw [ga] at q; cases q; rfl
    have e2 : y2 = vb := by
      have q : ib[i]? = some y2 := by simpa using f2
      rw [gb] at q; cases q; rfl
    subst e1; subst e2
    refine ⟨_, rfl, wpAny_letOwnedTupleGo_zip (s := { s with heap := h1, toks := tk }) g1 fun h2 z2 sb => ?_⟩
    have hT : h2.get? s.heap.objs.size = some { cls := .type "tuple", data := .seq #[y1, y2] } := (sb.2 _ (Nat.ne_of_gt lz)).trans g5
    have new : ObjOk X.prog X.w (upd H s.heap.objs.size (.tup [x, y])) h2 s.heap.objs.size (.tup [x, y]) := ⟨by show 2 ≤ sizeLine; decide, [y1, y2], .cons wa (.cons wb .nil), ⟨_, hT, rfl, _, rfl⟩⟩
    have I2 : Inv X pins σ (upd H s.heap.objs.size (.tup [x, y])) { s with heap := h2, toks := tk } := I.turnedNew (ch := [z, TI, TO, i1, i2]) (fun c ob hm q => by
      have n : c ≠ z ∧ c ≠ TI ∧ c ≠ TO ∧ c ≠ i1 ∧ c ≠ i2 := by simpa using hm
      exact (sb.2 c n.1).trans (hk c ob n.1 n.2.2.1 n.2.2.2.1 n.2.2.2.2 q)) hf (Nat.le_refl _) new
    have nz1 : i1 ≠ z := fun e => D.zf1 (e ▸ D.mem1)
    have nz2 : i2 ≠ z := fun e => D.zf2 (e ▸ D.mem2)
    refine ⟨.ref s.heap.objs.size, _, I2, rfl, ⟨_, x, y, rfl, I.hok.fresh (Nat.le_refl _), rfl, fun l hl => ?_, fun l hl => ?_⟩, ⟨z2, (sb.2 _ D.TIz).trans (hk _ _ D.TIz D.TITO D.TIi1 D.TIi2 st.p), ⟨y1, y2, (sb.2 _ D.TOz).trans g2⟩, g3.1.at fun o q => (sb.2 _ nz1).trans q, g4.1.at fun o q => (sb.2 _ nz2).trans q⟩, fun c hm => ?_⟩
    · rw [I.tuple_inj hl qa]; exact hx
    · rw [I.list_inj hl qb]; exact hy
    · have lt : c < s.heap.objs.size := by
        obtain ⟨o1, k1, _⟩ := st.t
        obtain ⟨o2, k2, _⟩ := st.l
        rcases (show c = z ∨ c = TI ∨ c = TO ∨ c = i1 ∨ c = i2 by simpa using hm) with rfl | rfl | rfl | rfl | rfl
        · exact lz
        · exact Heap.lt_size st.p
        · exact Heap.lt_size eO
        · exact Heap.lt_size k1
        · exact Heap.lt_size k2
      rw [upd_ne (Nat.ne_of_lt lt)]
      exact (hf c hm).1
  done := by
    intro X hP hw hK hc i pins s σ H E I hf st hg
    subst hP hw hK
    obtain ⟨xs, ys, ⟨qa, qb⟩, he⟩ := hg
    obtain ⟨ia, ra, pa, _⟩ := I.tuple qa
    obtain ⟨ib, rb, pb, _⟩ := I.list qb
    have pa : s.heap.IsTuple a ia.toArray := pa
    have la := ra.length
    have lb := rb.length
    obtain ⟨u0, v0, eO⟩ := st.o
    have sa : ia.toArray.size = xs.length := by simp [la]
    have sb : ib.toArray.size = ys.length := by simp [lb]
    refine wpAny_pyNext_zipD2_end D (Draws.tuple (A := X.A.in1) (I.ok.hd hc) i1 a ha ia.toArray) (Draws.list (A := X.A.in1) (I.ok.hd hc) i2 b hb ib.toArray) st.z st.p eO ⟨st.t, pa⟩ ⟨st.l, pb.isList⟩ (by omega) (by omega) (by omega) fun h' tk hk => ⟨rfl, I.turnedL (ch := [z, TI, TO, i1, i2]) (fun c ob hm q => ?_) hf⟩
    have n : c ≠ z ∧ c ≠ TI ∧ c ≠ TO ∧ c ≠ i1 ∧ c ≠ i2 := by simpa using hm
    exact hk c ob n.1 n.2.2.1 n.2.2.2.1 n.2.2.2.2 q
  self := fun A i s Q E st h => wpAny_pyIter_zip st.z h
def iTL (K : PySem.W.Frag) (ta : TA) : TI := fun σ H R => ta σ H fun vs H1 => ∃ a b xs ys, vs = [.ref a, .ref b] ∧ SqT K H1 a xs ∧ SqL K H1 b ys ∧ R (ItTL K a b) H1
theorem pi_TL {X : Cx} {e e2 : Expr} {ta : TA} {pp pos tpos : Pos} {elts : List Expr} {kk : Nat} (hg : Gl X "zip") (hm : X.mg "zip" = none) (ha : PA X [e, e2] ta)
    (hs : starEach [e, e2] X.env = (false, eval e X.env) :: starEach [e2] X.env := by rfl) (hpl : (backTo pos (starEach [e2] X.env)).any (·.1) = false := by rfl) : PI X (.Tuple elts kk tpos) (.Call (.Name "zip" pp) [e, e2] [] pos) (iTL X.K ta) := by
  refine ⟨fun pins s σ H R I hyp => ?_⟩
  refine Call_ (ld_blt I hg hm PyProof.Rows.boot_zip (PyProof.Rows.callWith_type1 (thn (ha.run pos pins s σ H _ I hyp) fun us s1 ⟨vs, H1, I1, r1, q1⟩ => ?_) hs hpl))
  obtain ⟨a, b, xs, ys, rfl, qa, qb, q⟩ := q1
  cases r1 with
  | cons ra rr =>
    cases rr with
    | cons rb rr =>
      cases rr; cases ra; cases rb
      obtain ⟨ia, va, pa, _⟩ := I1.tuple qa
      obtain ⟨ib, vb, pb, _⟩ := I1.list qb
      have pa : s1.heap.IsTuple a ia.toArray := pa
      have la : a < s1.heap.objs.size := by obtain ⟨_, k, _⟩ := pa; exact Heap.lt_size k
      have lb : b < s1.heap.objs.size := pb.lt
      refine zip_begins2 (begins_tuple a ia.toArray) (begins_list b ib.toArray) pa pb.isList fun h' g1 g2 g3 g4 g5 g6 hk => wpAny_pyIter_zip g1 ?_
      have I2 : Inv X pins σ H1 { s1 with heap := h' } := I1.kept (t' := s1.toks) hk
      have D := zip_sep2 (N := s1.heap.objs.size) (fp1 := [a]) (fp2 := [b]) (fun c hc => by rw [List.mem_singleton.mp hc]; exact la) (fun c hc => by rw [List.mem_singleton.mp hc]; exact lb)
      refine ⟨_, [s1.heap.objs.size + 4, s1.heap.objs.size + 2, s1.heap.objs.size + 3, s1.heap.objs.size, s1.heap.objs.size + 1], _, _, H1, rfl, I2, turn_TL D (Nat.ne_of_lt la) (Nat.ne_of_lt (Nat.lt_succ_of_lt lb)), ⟨g1, g2, ⟨_, _, g3⟩, ⟨_, g4, rfl, rfl⟩, ⟨_, g5, rfl, rfl⟩⟩, fun c hm => ?_, q⟩
      have le : s1.heap.objs.size ≤ c := by
        rcases (show c = s1.heap.objs.size + 4 ∨ c = s1.heap.objs.size + 2 ∨ c = s1.heap.objs.size + 3 ∨ c = s1.heap.objs.size ∨ c = s1.heap.objs.size + 1 by simpa using hm) with z | z | z | z | z <;> rw [z] <;> first | exact Nat.le_refl _ | exact Nat.le_add_right _ _
      exact I1.fpOk le (I1.hok.fresh le)
theorem walk_TL {K : PySem.W.Frag} {a b : Addr} {xs ys : List V} : Walk (ItTL K a b) (min xs.length ys.length) (fun H => SqT K H a xs ∧ SqL K H b ys) (YPair (fun i => xs[i]?) (fun i => ys[i]?)) where
  goes := fun i H hi q => ⟨xs, ys, xs[i]'(by omega), ys[i]'(by omega), q, List.getElem?_eq_getElem (by omega), List.getElem?_eq_getElem (by omega)⟩
  stops := fun H q => ⟨xs, ys, q, rfl⟩
  yields := fun i H v H' _ q y => by
    obtain ⟨T, x, u, z1, z2, z3, z4, z5⟩ := y
    exact ⟨T, x, u, z1, z2, z3, z4 xs q.1, z5 ys q.2⟩
section
variable {X : Cx} {p : Bool} {ρ : Rho} {QI : List D → Rho → Prop}
theorem wi_zipTL {a b : Expr} {elts : List Expr} {kk : Nat} {pp pos tpos : Pos} (hg : Gl X "zip") (hm : X.mg "zip" = none) (h : WA p true X [a, b] ρ fun ds ρ' => ∃ xs ys, ds = [.tup xs, .lst ys] ∧ QI ((xs.zip ys).map fun q => D.tup [q.1, q.2]) ρ')
    (hs : starEach [a, b] X.env = (false, eval a X.env) :: starEach [b] X.env := by rfl) (hpl : (backTo pos (starEach [b] X.env)).any (·.1) = false := by rfl) : WI p X (.Tuple elts kk tpos) (.Call (.Name "zip" pp) [a, b] [] pos) ρ QI := fun B σ G H S R r => by
  refine wI_of (pi_TL hg hm pa_w hs hpl) ?_
  refine h B σ G H S _ fun vs ds ρ' G' H' q S' x pu i => ?_
  obtain ⟨xs, ys, rfl, q⟩ := q
  obtain ⟨v, u, rfl, ⟨l1, as, rfl, e2, e3⟩, l2, bs, rfl, f2, f3⟩ := isA_two i
  refine ⟨l1, l2, as, bs, rfl, .inl (.inl (S'.ex _ _ e2)), .inl (.inl (S'.ex _ _ f2)), r _ _ ρ' G' H' q S' x pu ?_⟩
  exact walkD_pair (n := min as.length bs.length) (by rw [e3.length, f3.length]) (walk_TL (xs := as) (ys := bs)) (fun H h => ⟨.inl (.inl (h _ _ e2)), .inl (.inl (h _ _ f2))⟩) (fun i d hd => e3.get hd) (fun i d hd => f3.get hd)
end
end DD

namespace DD
open PySem PySem.Spec PyProof.Rows L2
section
variable {p g : Bool} {X : Cx} {ρ : Rho} {Q : D → Rho → Prop} {QT : Bool → Rho → Prop} {Z : D → Prop} {E : DE} {pos : Pos}
/-! ### truths compared, shown -/
theorem op_isnotB : OpR X (compareOp .IsNot) (fun x y H Q => ∃ a b, x = .bl a ∧ y = .bl b ∧ Q (.bl (!decide (a = b))) H) := by
  intro pins s σ H x y v u Q I rx ry h
  obtain ⟨a, b, rfl, rfl, q⟩ := h
  cases rx; cases ry
  cases a <;> cases b <;> exact wpAny_pure (fin_bl I q rfl)
theorem o_isnotB {a b : Bool} (q : Z (.bl (!decide (a = b)))) : Op2 g X (compareOp .IsNot) (.bl a) (.bl b) Z := op2_sc (z := .bl (!decide (a = b))) op_isnotB rfl rfl rfl (fun _ _ h => ⟨a, b, rfl, rfl, h⟩) q
theorem o_beq {a b : Bool} (hu : X.A.units + 64 < cLine) (q : Z (.bl (decide (a = b)))) : Op2 g X (compareOp .Eq) (.bl a) (.bl b) Z := by
  refine o_eqD hu (a := .bool a) (b := .bool b) rfl rfl rfl rfl ?_
  rw [show PyData.eqv (.bool a) (.bool b) = decide (a = b) by cases a <;> cases b <;> rfl]
  exact q
theorem o_bne {a b : Bool} (hu : X.A.units + 64 < cLine) (q : Z (.bl (!decide (a = b)))) : Op2 g X (compareOp .NotEq) (.bl a) (.bl b) Z := by
  refine o_neD hu (a := .bool a) (b := .bool b) rfl rfl rfl rfl ?_
  rw [show PyData.eqv (.bool a) (.bool b) = decide (a = b) by cases a <;> cases b <;> rfl]
  exact q
def shB (b : Bool) : Str := if b then "True" else "False"
theorem call_reprB : CallR X (.builtin "repr") (fun xs H Q => ∃ b, xs = [.bl b] ∧ Q (.str (shB b)) H) := by
  intro pins s σ H xs us Q I r h
  obtain ⟨b, rfl, q⟩ := h
  obtain ⟨u, rfl, ru⟩ := vals1 r
  cases ru
  exact PySem.P.repr_of_bool ⟨.str _, H, I.tok _, ⟨_, rfl⟩, q⟩
theorem c_reprB {b : Bool} (q : Z (.str (shB b))) : OpC g X (.builtin "repr") [.bl b] Z := by
  intro G H vs R ex i k
  obtain ⟨v, rfl, e⟩ := isA_one (isA_any ex i)
  cases (e : v = .bl b)
  exact ⟨_, call_reprB, b, rfl, k _ (.str (shB b)) G H q (Grow.refl ex) rfl⟩
/-! ### an instance == a list -/
variable {C f : Addr} {fd : FuncData} {ps : List Str} {k : Nat}
def rEqL (C : Addr) (sp : Sp) : R2 := fun x y H Q => ∃ a b dx fs xs, x = .ref a ∧ y = .ref b ∧ H a = some (.ins C dx fs) ∧ H b = some (.lst xs) ∧ sp [x, y] H (fun v H' => (∃ c, v = .bl c) ∧ Q v H') E0
theorem op_eqL {sp : Sp} (F : FnOk X.prog X.w X.K X.mg X.base CX0 k f fd ps sp) (hr : Room k X.A) (hs : PySem.W.findIn X.K (.ref C) "__eq__" = some (some (.ref f))) (hf : PySem.W.isFn X.K (.ref f) = true) (hn : PySem.W.notFirst X.K C (.type "list") = true) (hb : Binds X.K fd ps []) : OpR X (compareOp .Eq) (rEqL C sp) := by
  intro pins s σ H x y v u Q I rx ry h
  obtain ⟨a, b, dx, fs, xs, rfl, rfl, ha, hb', hsp⟩ := h
  cases rx
  cases ry
  obtain ⟨mA, J, _⟩ := ins_get I.hok ha
  obtain ⟨od, J, _⟩ := J.look
  obtain ⟨_, _, n, _, h1⟩ := (show ObjOk X.prog X.w H s.heap b (.lst xs) from I.hok b _ hb')
  have ty : PySem.W.Looks (model X.prog X.w) s.heap (typeOf (.ref b)) (.type "list") := (PySem.W.Looks.ld h1).andThen .now
  obtain ⟨m, hF⟩ := I.fr
  show wpAny (model X.prog X.w) X.A (richCompare .Eq (.ref a) (.ref b)) (EP X pins σ Q) X.xe s
  refine PySem.W.cmp_K (op := .Eq) (tb := .type "list") hr.units0 hF I.ok.mod.kin J ty hn hs hf ?_
  have hl := F.len _ _ _ _ hsp
  have bt := hb s [.ref a, .ref b] I.kIn (by simpa using hl)
  refine wpAny_call (codeAny_mono (F.run X.A X.stack s H ⟨[.ref a, .ref b], []⟩ [.ref a, .ref b] [.ref a, .ref b] _ E0 hr I.env0 (by simpa using bt) (.cons rfl (.cons rfl .nil)) hsp) fun r s' hq => ?_)
  cases r with
  | error e => exact (pass0 pins σ H s e s' I hq : X.xe e s')
  | ok fl =>
    cases fl with
    | ret w =>
      obtain ⟨z, H', I', rz, ⟨c, ez⟩, q⟩ := I.after hq
      subst ez
      cases rz
      exact ⟨.bl c, H', I', rfl, q⟩
    | next => exact hq.elim
    | brk => exact hq.elim
    | cont => exact hq.elim
theorem o_eqL {c : List D → (D → Prop) → Prop} {fs : List (Str × D)} {ds : List D} (F : FnOk X.prog X.w X.K X.mg X.base CX0 k f fd ps (spD c)) (hr : Room k X.A) (hs : PySem.W.findIn X.K (.ref C) "__eq__" = some (some (.ref f))) (hf : PySem.W.isFn X.K (.ref f) = true) (hn : PySem.W.notFirst X.K C (.type "list") = true) (hb : Binds X.K fd ps [])
    (q : c [.obj C fs, .lst ds] fun d => ∃ k, d = .bl k ∧ Z (.bl k)) : Op2 true X (compareOp .Eq) (.obj C fs) (.lst ds) Z := by
  intro G H v u R ex i j kk
  obtain ⟨a, dx, gs, rfl, e2, e3⟩ := id i
  obtain ⟨b, xs, rfl, f2, f3⟩ := id j
  refine ⟨_, op_eqL F hr hs hf hn hb, a, b, dx, gs, xs, rfl, rfl, ex _ _ e2, ex _ _ f2, G, [.obj C fs, .lst ds], fun d => ∃ k, d = .bl k ∧ Z (.bl k), ex, ⟨_, _, rfl, i, _, _, rfl, j, rfl⟩, q, fun v d G' H' z gr iz => ?_⟩
  obtain ⟨k, rfl, z⟩ := z
  exact ⟨⟨k, iz⟩, kk v (.bl k) G' H' z gr iz⟩
/-- isinstance(x, C), x a list -/
theorem w_isiL {y : Str} {e : Expr} {pp py : Pos} (hk : PySem.W.kitOne X.K (.type "list") (.ref C) = some false) (hcl : Cls X.K C) (hmi : X.mg "isinstance" = none) (hC : X.mg y = some (.ref C)) (h : W p true X e ρ fun x ρ1 => ∃ ds, x = .lst ds ∧ Q (.bl false) ρ1)
    (hg1 : Gl X "isinstance" := by rfl) (hg2 : Gl X y := by rfl) (hd : (y == ("__debug__" : Str)) = false := by decide)
    (he : starEach [e, .Name y py] X.env = (false, eval e X.env) :: starEach [.Name y py] X.env := by rfl) (he2 : starEach [.Name y py] X.env = (false, eval (.Name y py) X.env) :: starEach [] X.env := by rfl) (hpl : (backTo pos (starEach [.Name y py] X.env)).any (·.1) = false := by rfl) :
    W p g X (.Call (.Name "isinstance" pp) [e, .Name y py] [] pos) ρ Q := fun B σ G H S R r => by
  refine wE_of (pe_callB (id := "isinstance") call_any hg1 hmi (by decide +kernel) (pa_cons pe_w (pa_cons (pe_glob (v := .ref C) hg2 hC rfl hd) pa_nil he2) he) (by decide) (by decide) he hpl) ?_
  refine h B σ G H S _ fun v x ρ' G' H' q S' y pu i => ?_
  obtain ⟨ds, rfl, q⟩ := q
  obtain ⟨b, xs, rfl, f2, f3⟩ := i
  exact ⟨_, call_isi, .ref b, .ref C, .type "list", .ref C, false, rfl, .own C, .base (.lst (S'.ex _ _ f2)), hk, r _ (.bl false) ρ' G' H' q S' y pu (is_h S' rfl)⟩
end
end DD

namespace DD
open PySem PySem.Spec PyProof.Rows L2
section
variable {p g : Bool} {X : Cx} {ρ : Rho} {Q : D → Rho → Prop} {pos : Pos} {scope : Scope} {N ps : List Str} {sc : Scope}
/-! ### z = [elt for x, y in iter for u in iter1] -/
theorem s_lc21 (m i j l : Nat) (inner : D → List D) (f : D → D → D) {E : DE} {x y u z : Str} {px py pt pu pz spos : Pos} {kk : Nat} {iter iter1 elt : Expr} (S0 : FnScope N ps sc)
    (h : WI false X (.Tuple [.Name x px, .Name y py] kk pt) iter ρ fun ds ρ1 => (ds.flatMap fun d => (inner d).map (f d)).length ≤ 40000 ∧ (∀ d ∈ ds, ∃ a b, d = .tup [a, b] ∧
      (∀ s H C cl fp, WI true (Blk X scope s H C cl fp) (.Name u pu) iter1 (((((ρ1.set l .un).set j .un).set i .un).set i (.val a)).set j (.val b)) fun es _ => es = inner d) ∧
      ∀ e ∈ inner d, ∀ s H C cl fp, W true true (Blk X scope s H C cl fp) elt (((((((ρ1.set l .un).set j .un).set i .un).set i (.val a)).set j (.val b)).set l .un).set l (.val e)) fun w _ => w = f d e) ∧
      E.nx (ρ1.set m (.val (.lst (ds.flatMap fun d => (inner d).map (f d))))))
    (hXN : X.N = N := by rfl) (hbk : blkC X.N X.env.scope scope [(x, i), (y, j), (u, l)] = true := by kernel_rfl) (hi : X.N[i]? = some x := by rfl) (hj : X.N[j]? = some y := by rfl) (hk : X.N[l]? = some u := by rfl)
    (hl : Loc1 X scope x := by intro _ _ _ _ _; first | exact ⟨.inl rfl, .inr rfl⟩ | exact ⟨.inr rfl, .inl rfl⟩) (hl2 : Loc1 X scope y := by intro _ _ _ _ _; first | exact ⟨.inl rfl, .inr rfl⟩ | exact ⟨.inr rfl, .inl rfl⟩) (hl3 : Loc1 X scope u := by intro _ _ _ _ _; first | exact ⟨.inl rfl, .inr rfl⟩ | exact ⟨.inr rfl, .inl rfl⟩)
    (h2 : Two X scope x y px py := by intro _ _ _ _ _; exact ⟨rfl, rfl, rfl, rfl⟩)
    (hc : X.calm = true := by rfl) (hs : ∀ x, foldedSetIterable iter X.env x = pure x := by intro _; rfl) (hs1 : ∀ env x, foldedSetIterable iter1 env x = pure x := by intro _ _; rfl) (hz : X.N[m]? = some z := by rfl) (hzl : X.env.scope.names.lookup z = some .local := by rfl)
    (hsw : swapsWith (.ListComp elt [⟨.Tuple [.Name x px, .Name y py] kk pt, iter, [], 0⟩, ⟨.Name u pu, iter1, [], 0⟩] scope pos) (some (.Name z pz)) spos.line X.env = pure true := by exact sw_true rfl rfl rfl (by decide +kernel)) :
    WS X (.Assign [.Name z pz] (.ListComp elt [⟨.Tuple [.Name x px, .Name y py] kk pt, iter, [], 0⟩, ⟨.Name u pu, iter1, [], 0⟩] scope pos) spos) ρ E :=
  s_setX (ps_setLc2 (own := [(x, i), (y, j), (u, l)]) (vs1 := (Tg.one l).slots) hc (hXN ▸ S0.nd) hz hzl hsw pi_w (blkOk_by hbk) (fun k hk => by simp [Tg.slots] at hk ⊢; simp [hk]) (pg2 S0 hXN hc hi hl hj hl2 h2) (fun _ _ _ _ _ => pts_nil) pi_c (pg1 S0 hXN hk hl3) (fun _ _ _ _ _ => pts_nil) pe_c hs hs1)
    (x_lc2 (T := .two i j) (T1 := .one l) (own := [(x, i), (y, j), (u, l)]) inner f (fun k hk => by simp [Tg.slots] at hk ⊢; rcases hk with h | h <;> simp [h]) (fun k hk => by simp [Tg.slots] at hk ⊢; simp [hk]) fun B σ G H S R r => h B σ G H S R fun J ds ρ1 G1 H1 q S1 y pu wk => r J ds ρ1 G1 H1 ⟨q.1, fun d hd => by
      obtain ⟨a, b, rfl, h1, h2⟩ := q.2.1 d hd
      exact ⟨_, rfl, h1, fun e he => ⟨_, rfl, h2 e he⟩⟩, q.2.2⟩ S1 y pu wk)
/-! ### keywords in the parameters' own sequence; C(k = v, ..), two keywords, turned -/
/-- keywords alone -/
def onlyK {α : Type} (n : Nat) : List α → List α → List α
  | [], ws => ws
  | u :: _, _ => List.replicate (n + 1) u
theorem vals_onlyK {n : Nat} {vs zs : List V} {us ws : List Value} (h : Vals vs us) (h2 : Vals zs ws) : Vals (onlyK n vs zs) (onlyK n us ws) := by
  cases h with
  | nil => exact h2
  | cons a _ =>
    show Vals (List.replicate (n + 1) _) (List.replicate (n + 1) _)
    induction n + 1 with
    | zero => exact .nil
    | succ m ih => exact .cons a ih
structure DfI (P : Program) (w : World) (K : PySem.W.Frag) (mg : Str → Option Value) (base : Heap) (k : Nat) (x : Str) (ps : List Str) (sp : Sp) : Prop where
  ex : ∃ f fd, FnOk P w K mg base CX0 k f fd ps sp ∧ mg x = some (.ref f) ∧ PySem.W.keepIn K (.ref f) = true ∧ KBinds K fd ps ps (onlyK ps.length) (onlyK ps.length)
theorem callI {k : Nat} {ps : List Str} {c : List D → (D → Prop) → Prop} {x : Str} {pp : Pos} {kws : List Keyword} (F : DfI X.prog X.w X.K X.mg X.base k x ps (spD c)) (hr : Room k X.A)
    (h : WK p true X kws ρ fun ds ρ' => c ds fun d => Q d ρ') (hg : Gl X x := by rfl) (hdb : (x == ("__debug__" : Str)) = false := by decide)
    (hall : (backToKw pos (keywordEach kws X.env)).all (·.1.isSome) = true := by rfl) (hks : (backToKw pos (keywordEach kws X.env)).filterMap (·.1) = ps := by rfl)
    (hpl : ((backTo pos (starEach [] X.env)).any (·.1) || (backToKw pos (keywordEach kws X.env)).any (·.1.isNone)) = false := by rfl) : W p g X (.Call (.Name x pp) [] kws pos) ρ Q := by
  obtain ⟨f, fd, F, hm, hk, hb⟩ := F.ex
  exact w_callK0 (gD := id) F hr hm hk hb (fun _ _ _ h => h) h hg hdb hall hks hpl
theorem w_makeK {C f : Addr} {x : Str} {pp : Pos} {fd : FuncData} {k : Nat} {ps ks : List Str} {c : List D → (List (Str × D) → Prop) → Prop} {kws : List Keyword} (M : Mk X.K C f) (F : FnOk X.prog X.w X.K X.mg X.base CX0 k f fd ps (spI C c)) (hr : Room (k + 1) X.A) (hm : X.mg x = some (.ref C))
    (hb : KBn X.K fd ps 1 ks (fun us ws => us ++ sw2 ws) (fun vs zs => vs ++ sw2 zs)) (h : WK p true X kws ρ fun ds ρ' => ds.length = ks.length ∧ c (sw2 ds) fun fs => Q (.obj C fs) ρ') (hg : Gl X x := by rfl) (hdb : (x == ("__debug__" : Str)) = false := by decide)
    (hall : (backToKw pos (keywordEach kws X.env)).all (·.1.isSome) = true := by rfl) (hks : (backToKw pos (keywordEach kws X.env)).filterMap (·.1) = ks := by rfl)
    (hpl : ((backTo pos (starEach [] X.env)).any (·.1) || (backToKw pos (keywordEach kws X.env)).any (·.1.isNone)) = false := by rfl) : W p g X (.Call (.Name x pp) [] kws pos) ρ Q := fun B σ G H S R r => by
  refine wE_of (pe_makeK0 M F hr hg hm hb pass0 pk_w hall hks hdb hpl) ?_
  refine h B σ G H S _ fun vs ds ρ' G' H' q S' y pu i => ?_
  have z := make_go (Q := Q) (G0 := G) (R := R) (E' := E0) S' (isA_sw i) q.2 fun v d G2 H2 z S2 gr iz => r v d ρ' G2 H2 z S2 (y.trans gr.g) (fun w => ⟨(pu w).1, (pu w).2.trans gr⟩) (is_h S2 iz)
  exact ⟨rfl, by rw [i.length]; exact q.1, fun x dx hx hdx ne => z x dx hx hdx ne⟩
end
end DD

/-! ### defs whose callers know that no guard stands: so they may show lists -/
namespace DD
open PySem PySem.Spec PyProof.Rows L2
structure FnG (P : Program) (w : World) (K : PySem.W.Frag) (mg : Str → Option Value) (base : Heap) (k : Nat) (f : Addr) (fd : FuncData) (ps : List Str) (sp : Sp) : Prop where
  n : ∀ vs H Q E, sp vs H Q E → vs.length = ps.length
  go : ∀ (A : Around) (outer : List Env) (s : Shared) (H : Hp) (args : Args) (us : List Value) (vs : List V) (Q : VK) (E : XK), A.guards = some [] → Room k A → Env0 P w K mg base A outer s H → BindsTo s fd args (ps.zip us) → Vals vs us → sp vs H Q E →
    codeAny (model P w) A (.call (.ref f) args) (CR CX0 outer P w H s Q E) s
section
variable {P : Program} {w : World} {K : PySem.W.Frag} {mg : Str → Option Value} {base : Heap} {f : Addr} {fd : FuncData} {ps : List Str} {sp : Sp} {k : Nat}
theorem FnG.mono {j : Nat} (F : FnG P w K mg base j f fd ps sp) (h : j ≤ k) : FnG P w K mg base k f fd ps sp := ⟨F.n, fun A o s H a us vs Q E g r => F.go A o s H a us vs Q E g (r.mono h)⟩
theorem FnG.of (F : FnOk P w K mg base CX0 k f fd ps sp) : FnG P w K mg base k f fd ps sp := ⟨F.len, fun A o s H a us vs Q E _ r => F.run A o s H a us vs Q E r⟩
theorem gds {A : Around} {e : Env} (h : A.guards = some []) : (A.deeper e).guards = some [] := h
/-- a def by its body, guards known -/
theorem fnG_of {x qual : Str} {st : Stmt} {N : List Str} (F : Fun K x qual st f fd) (S : FnScope N ps (defScope st)) (n : ∀ vs H Q E, sp vs H Q E → vs.length = ps.length)
    (body : ∀ (cdv : Value) (A : Around) (outer : List Env) (s : Shared) (H : Hp) (vs : List V) (Q : VK) (E : XK), A.guards = some [] → Room k (A.deeper (envOfC qual (defScope st) s.heap.objs.size f cdv)) → sp vs H Q E →
      ∃ t, PSs (cxOf CX0 P w K mg base N qual (defScope st) f cdv A outer s H E).nox (defBody st) t ∧ t { nx := fun _ H' => Q .non H', rt := Q } (L2.start N vs) H) : FnG P w K mg base (k + 1) f fd ps sp := by
  obtain ⟨oc, od, kV, doc, pm, an, cdv, ct, osl, rfl, lk, hc⟩ := F.ex
  refine ⟨n, fun A outer s H args us vs Q E g room env bind rel asked => ?_⟩
  have len := n _ _ _ _ asked
  have up : ∀ b o, base.get? b = some o → s.heap.get? b = some o := fun b o e => (env.bs b o e).1
  have inK : K.In s.heap := env.mod.kin.keeps up
  have kinds : ∀ y ∈ ps.zip us, (defScope st).names.lookup y.1 = some .local ∨ ((defScope st).names.lookup y.1 = some .cell ∧ ((cellsFrom (s.heap.objs.size + 1) (defScope st).names []).lookup y.1).isSome = true) := by
    rintro ⟨nm, v⟩ hy
    have z := S.par nm (List.of_mem_zip hy).1
    exact z.imp id fun z => ⟨z, PySem.W.cellsFrom_some _ _ _ (.inl z)⟩
  have dp : A.depth < recursionLimit := room.depth
  refine codeAny_call_function dp (inK _ _ lk) rfl S.co S.gen rfl (PySem.W.codeRec_of inK hc) (bind _ _ _ _ ?_)
  refine wpAny_newFunctionEnv_cells S.kind kinds fun ev he s1 inCall => ?_
  subst he
  refine ⟨(env.mod.nolimit.keeps up).keeps inCall.toInCall.keep, codeAny_func ?_⟩
  obtain ⟨t, ht, asked2⟩ := body cdv A outer s H vs Q E g (room.deeper _) asked
  have inv : Inv (cxOf CX0 P w K mg base N qual (defScope st) f cdv A outer s H E) [] (L2.start N vs) H s1 := inv_start S room.hd env len rel inCall
  have run := ht.nox.run [] s1 (L2.start N vs) H _ inv asked2
  refine wpAny_mono run (fun fl s' end_ => ?_) fun e s' z => z
  cases fl with
  | brk => exact end_.choose_spec.choose_spec.2.elim
  | cont => exact end_.choose_spec.choose_spec.2.elim
  | next =>
    obtain ⟨σ2, H2, J, q⟩ := end_
    exact ⟨.non, H2, J.os, J.bare, J.base, J.hok, rfl, q⟩
  | ret u =>
    obtain ⟨v, σ2, H2, J, rv, q⟩ := end_
    exact ⟨v, H2, J.os, J.bare, J.base, J.hok, rv, q⟩
end
section
variable {X : Cx} {k : Nat} {f : Addr} {fd : FuncData} {ps : List Str} {sp : Sp} {x : Str} {pp pos : Pos} {e : Expr} {es : List Expr} {t : TA}
/-- f(e, ..) -/
theorem pe_callG (F : FnG X.prog X.w X.K X.mg X.base k f fd ps sp) (hG : X.A.guards = some []) (hr : Room k X.A) (hg : Gl X x) (hm : X.mg x = some (.ref f)) (hk : PySem.W.keepIn X.K (.ref f) = true) (hb : Binds X.K fd ps [])
    (ha : PA X (e :: es) t) (hdb : (x == ("__debug__" : Str)) = false := by decide) (he : starEach (e :: es) X.env = (false, eval e X.env) :: starEach es X.env := by rfl) (hpl : (backTo pos (starEach es X.env)).any (·.1) = false := by rfl) :
    PE X (.Call (.Name x pp) (e :: es) [] pos) (tCall sp [] E0 t) := by
  refine ⟨fun pins s σ H Q I h => wpAny_Call_Name_kw (ld_glob I hg hm ?_ hdb)⟩
  refine PySem.W.callWith_K (h₀ := X.base) I.ok.mod.kin hk (thn (ha.run pos pins s σ H _ I h) fun us s1 ⟨vs, H1, I1, rel, q⟩ => ⟨I1.kIn, ?_⟩) he hpl
  have q : sp (vs ++ []) H1 Q E0 := q
  rw [List.append_nil] at q
  have len : us.length = ps.length := by rw [← rel.length]; exact F.n _ _ _ _ q
  have bt := hb s1 us I1.kIn (by rw [List.append_nil]; exact len)
  rw [List.append_nil] at bt
  refine wpAny_call (codeAny_mono (F.go X.A X.stack s1 H1 ⟨us, []⟩ us vs Q E0 hG hr I1.env0 bt rel q) fun r s2 z => ?_)
  cases r with
  | error e => exact (pass0 pins σ H1 s1 e s2 I1 z : X.xe e s2)
  | ok fl =>
    cases fl with
    | ret u => exact I1.after z
    | next => exact z.elim
    | brk => exact z.elim
    | cont => exact z.elim
end
end DD

namespace DD
open PySem PySem.Spec PyProof.Rows L2
/-- the script alone is known: the abstract heap at the law's call -/
structure OneList (K : PySem.W.Frag) (H : Hp) (h : Heap) (a : Addr) (ns : List Int) : Prop where
  only : ∀ b, H b ≠ none → b = a
  frz : ∀ b, H b = none ∨ ∃ ob xs, H b = some (.frz ob (.lst xs))
  free : H a ≠ none → K.lookup a = none
  seq : SqL K H a (ns.map V.int)
theorem call_oneG {P : Program} {w : World} {K : PySem.W.Frag} {mg mb : Str → Option Value} {k : Nat} {fa a : Addr} {fd : FuncData} {x : Str} {sp : Sp} {s : Shared} {vs : List Value} {ns : List Int} {H : Hp} (inK : K.In s.heap) (nsM : s.heap.Ns mainGlobals mg) (nsB : s.heap.Ns builtinsNs mb)
    (blt : ∀ y : Str, y ≠ "__name__" → mb y = bootBuiltins y) (lim : s.heap.NoLimit) (gens : s.gens = #[]) (obj : s.heap.get? a = some { cls := .type "list", data := .seq vs.toArray }) (room : Room k callerA) (O : OneList K H s.heap a ns) (ok : HOk P w H s.heap)
    (F : ∀ base : Heap, K.In base → base.Ns mainGlobals mg → FnG P w K mg base k fa fd [x] sp) (bind : ∀ (s : Shared) (u : Value), BindsTo s fd ⟨[u], []⟩ [(x, u)]) (asked : sp [.ref a] H (fun v _ => v = .bl true) E0) :
    codeAny (model P w) callerA (.call (.ref fa) ⟨[.ref a], []⟩) (fun r s' => r = .ok (.ret (.bool true)) ∧ OldK s.heap s'.heap ∧ s'.os = s.os ∧ AllBare s'.gens) s := by
  have far : ∀ {b : Addr} {o : Obj}, s.heap.get? b = some o → (∀ v, o.data ≠ .seq v) → H b = none := fun {b o} e n => Classical.byContradiction fun z => by
    have eb := O.only b z
    rw [eb, obj] at e
    cases e
    exact n _ rfl
  have hid : ∀ {b : Addr} {o : Obj}, s.heap.get? b = some o → H b = none → (hidT s.heap H).get? b = some o := fun e z => hidT_get e z
  have ns' : ∀ {b : Addr} {m : Str → Option Value}, s.heap.Ns b m → (hidT s.heap H).Ns b m := by
    rintro b m ⟨o, es, ep, e, d, r⟩
    exact ⟨o, es, ep, hid e (far e fun v z => by rw [d] at z; cases z), d, r⟩
  have inK' : K.In (hidT s.heap H) := fun b o e => hid (inK b o e) (Classical.byContradiction fun z => by
    have eb := O.only b z
    rw [eb] at z e
    rw [O.free z] at e; cases e)
  have md : Mod K mg (hidT s.heap H) := by
    obtain ⟨mc, l1, l2⟩ := lim
    exact ⟨inK', ns' nsM, ⟨mb, ns' nsB, blt⟩, mc, ns' l1, l2⟩
  have nil : ∀ b, b ∉ ([] : List Addr) := fun b => by simp
  have env : Env0 P w K mg (hidT s.heap H) callerA [] s H := ⟨rfl, md, fun b o e => of_hidT e, Nat.le_of_eq (hidT_size _ _), trivial, fun b hb => (nil b hb).elim, ok, .of_eq gens⟩
  have run := (F _ inK' (ns' nsM)).go callerA [] s H ⟨[.ref a], []⟩ [.ref a] [.ref a] _ _ rfl room env (bind s (.ref a)) (.cons rfl .nil) asked
  refine codeAny_mono run fun r s2 z => ?_
  cases r with
  | error e => exact z.elim
  | ok fl =>
    cases fl with
    | next => exact z.elim
    | brk => exact z.elim
    | cont => exact z.elim
    | ret u =>
      obtain ⟨v, H2, os, bare, un, ok2, rv, ev⟩ := z
      have ev : v = .bl true := ev
      rw [ev] at rv
      have eu : u = Value.bool true := rv
      rw [eu]
      refine ⟨rfl, OldK.of_keep fun b o e => ?_, os, bare⟩
      rcases O.frz b with z | ⟨ob, xs, z⟩
      · exact un.keep b o e z (nil b) (nil b)
      · obtain ⟨g1, _⟩ := ok b _ z
        obtain ⟨g2, _⟩ := ok2 b _ (un.frzs b ob _ z)
        rw [e] at g1
        cases g1
        exact g2
theorem walkG {l : PySem.W.OpenLaw} {n k : Nat} {q : Program} {loose : List Str} {XP : (Str → Option Value) → Heap → Prop} {YP : World → Heap → Prop} {d : DefRec} {K : Params → PySem.W.Frag} {sp : World → Sp} {x : Str} (hn : l.most = some n) (hn2 : n ≤ sizeLine) (hdf : d.params.defaults = []) (room : Room k callerA)
    (hY : ∀ (w : World) (h : Heap), YP w h → (K w.params).In h)
    (F : ∀ (w : World) (mg : Str → Option Value) (fa : Addr) (h : Heap), (K w.params).In h → h.Ns mainGlobals mg → mg d.name = some (.ref fa) → ∃ fd : FuncData, (∀ (s : Shared) (u : Value), BindsTo s fd ⟨[u], []⟩ [(x, u)]) ∧
      ∀ base : Heap, (K w.params).In base → base.Ns mainGlobals mg → FnG l.prog w (K w.params) mg base k fa fd [x] (sp w))
    (asked : ∀ (w : World) (H : Hp) (a : Addr) (ns : List Int), ns.length ≤ n → SqL (K w.params) H a (ns.map V.int) → sp w [.ref a] H (fun v _ => v = .bl true) E0) : PySem.W.WalkO q loose XP YP l.row.toRowW d [] (fun f vs => PySem.call f vs) := by
  refine Att.attach_call hn hdf fun w s₀ s mg mb fa o pm cd doc a vs ns G Y ho hd hcd hmg obj iAre len gens => ?_
  have inK := hY w _ Y
  obtain ⟨fd, bind, FF⟩ := F w mg fa _ inK G.T.g hmg
  have rel := vals_ints iAre
  have eqL := iAre.length
  have go : ∀ H, OneList (K w.params) H s.heap a ns → HOk l.prog w H s.heap → codeAny (model l.prog w) callerA (.call (.ref fa) ⟨[.ref a], []⟩) (fun r s' => r = .ok (.ret (.bool true)) ∧ OldK s.heap s'.heap ∧ s'.os = s.os ∧ AllBare s'.gens) s := fun H O ok =>
    call_oneG inK G.T.g G.T.b G.T.builtins G.T.nolimit gens obj room O ok FF bind (asked w H a ns len O.seq)
  cases kl : (K w.params).lookup a with
  | some oo =>
    have same := inK a oo kl
    rw [obj] at same
    cases same
    have sq : SqL (K w.params) (fun _ => none) a (ns.map V.int) := .inr ⟨_, vs.toArray, _, kl, rfl, rfl, rfl, by rw [List.size_toArray, eqL]; exact Nat.le_trans len hn2, by simpa using rel⟩
    exact go (fun _ => none) ⟨fun b z => absurd rfl z, fun _ => .inl rfl, fun z => absurd rfl z, sq⟩ fun b u z => by cases (z : (none : Option HO) = some u)
  | none =>
    let cell : HO := .frz { cls := .type "list", data := .seq vs.toArray } (.lst (ns.map V.int))
    refine go (fun b => if b = a then some cell else none) ⟨fun b z => ?_, fun b => ?_, fun _ => kl, .inl (.inr ⟨_, if_pos rfl⟩)⟩ fun b u z => ?_
    · by_cases e : b = a
      · exact e
      · exact absurd (if_neg e) z
    · by_cases e : b = a
      · exact .inr ⟨_, _, if_pos e⟩
      · exact .inl (if_neg e)
    · by_cases e : b = a
      · have z := (if_pos e).symm.trans z
        cases z
        rw [e]
        exact ⟨obj, by rw [List.length_map]; exact Nat.le_trans len hn2, vs, _, rel, obj⟩
      · have z := (if_neg e).symm.trans z
        cases z
end DD

namespace DD
open PySem PySem.Spec PyProof.Rows L2
/-! ### lists of whole numbers, shown -/
mutual
def plainI : PyData → Bool
  | .int i => decide (i.natAbs.log2 < 1920)
  | .list xs => plainA xs
  | .tuple xs => plainA xs
  | _ => false
def plainA : List PyData → Bool
  | [] => true
  | x :: xs => plainI x && plainA xs
end
mutual
def nod : PyData → Nat
  | .list xs => nodA xs + 1
  | .tuple xs => nodA xs + 1
  | _ => 1
def nodA : List PyData → Nat
  | [] => 0
  | x :: xs => nod x + nodA xs
end
theorem strLen (x y : Str) : (x ++ y).length = x.length + y.length := strLen_append ..
theorem textFrom_up : ∀ (ts : List Str) (k : Nat) (acc : Str), (textFrom k acc ts).length ≤ acc.length + piled ts
  | [], _, _ => Nat.le_add_right _ _
  | t :: ts, k, acc => by
    have ih := textFrom_up ts (k + 1) (acc ++ (if k > 0 then ", " else "" : String) ++ t)
    have h : ((acc ++ (if k > 0 then ", " else "" : String) ++ t : Str)).length ≤ acc.length + 2 + t.length := by
      rw [strLen, strLen]
      split
      · show acc.length + 2 + _ ≤ _; omega
      · show acc.length + 0 + _ ≤ _; omega
    rw [piled_cons]
    show (textFrom (k + 1) _ ts).length ≤ _
    omega
theorem tupleText_up (ts : List Str) : (tupleText ts).length ≤ 4 + piled ts := by
  have j : (Str.join ", " ts).length ≤ piled ts := by
    by_cases h : ts = []
    · subst h; exact Nat.zero_le _
    · have := join_length_add ts h; omega
  unfold tupleText
  rw [strLen, strLen]
  split
  · show 1 + _ + 2 ≤ _; omega
  · show 1 + _ + 1 ≤ _; omega
mutual
theorem shown_up : ∀ d : PyData, plainI d = true → d.shown.length + 2 ≤ 2000 * nod d
  | .int i, h => by
    have := int_text_len_1921 (of_decide_eq_true h)
    show (Str.ofString (toString i)).length + 2 ≤ 2000 * 1
    omega
  | .list xs, h => by
    have := shownA_up xs h
    have := textFrom_up (PyData.shownAll xs) 0 "["
    show (listText (PyData.shownAll xs)).length + 2 ≤ 2000 * (nodA xs + 1)
    unfold listText
    rw [strLen]
    have e1 : (("[" : Str)).length = 1 := rfl
    have e2 : (("]" : Str)).length = 1 := rfl
    omega
  | .tuple xs, h => by
    have := shownA_up xs h
    have := tupleText_up (PyData.shownAll xs)
    show (tupleText (PyData.shownAll xs)).length + 2 ≤ 2000 * (nodA xs + 1)
    omega
  | .none, h => by cases h
  | .bool _, h => by cases h
  | .str _, h => by cases h
  | .dict _, h => by cases h
theorem shownA_up : ∀ xs : List PyData, plainA xs = true → piled (PyData.shownAll xs) ≤ 2000 * nodA xs
  | [], _ => Nat.le_refl _
  | x :: xs, h => by
    have a := shown_up x (Bool.and_eq_true_iff.mp h).1
    have b := shownA_up xs (Bool.and_eq_true_iff.mp h).2
    show piled (x.shown :: PyData.shownAll xs) ≤ 2000 * (nod x + nodA xs)
    rw [piled_cons]
    omega
end
mutual
theorem plain_show : ∀ d : PyData, plainI d = true → d.showable = true ∧ d.hasDict = false
  | .int i, h => ⟨h, rfl⟩
  | .list xs, h => plain_showA xs h
  | .tuple xs, h => plain_showA xs h
  | .none, h => by cases h
  | .bool _, h => by cases h
  | .str _, h => by cases h
  | .dict _, h => by cases h
theorem plain_showA : ∀ xs : List PyData, plainA xs = true → PyData.showableAll xs = true ∧ PyData.hasDictAll xs = false
  | [], _ => ⟨rfl, rfl⟩
  | x :: xs, h => by
    have a := plain_show x (Bool.and_eq_true_iff.mp h).1
    have b := plain_showA xs (Bool.and_eq_true_iff.mp h).2
    refine ⟨?_, ?_⟩
    · show (x.showable && PyData.showableAll xs) = true
      rw [a.1, b.1]; rfl
    · show (x.hasDict || PyData.hasDictAll xs) = false
      rw [a.2, b.2]; rfl
end
section
variable {X : Cx} {g : Bool} {Z : D → Prop}
theorem call_shown (hG : X.A.guards = some []) (hu : X.A.units + 80 < cLine) : CallR X (.builtin "repr") (fun xs H Q => ∃ (a : Addr) (q : PyData), xs = [.ref a] ∧ Dp X.K H (.ref a) q ∧ plainI q = true ∧ q.depth ≤ 64 ∧ nod q ≤ 8000 ∧ Q (.str q.shown) H) := by
  intro pins s σ H xs us Q I r h
  obtain ⟨a, q, rfl, dp, pl, dep, sz, k⟩ := h
  obtain ⟨u, rfl, ru⟩ := vals1 r
  cases ru
  obtain ⟨as, rd⟩ := Dp.reads I q _ _ dp rfl
  have up := shown_up q pl
  obtain ⟨s1, s2⟩ := plain_show q pl
  have e : sizeLine = 16777216 := by decide
  exact repr_of_reads' rd s1 (PyData.noDict_hsm s2) hG (by omega) (fun _ _ e => e) (fun h' t tk keep => ⟨.str _, H, I.kept (t' := tk) keep, ⟨_, rfl⟩, k⟩) (by omega)
theorem c_repr {d : D} {q : PyData} (hG : X.A.guards = some []) (hu : X.A.units + 80 < cLine) (hp : py d = some q) (hd : (sc d).isSome = false) (pl : plainI q = true) (dep : q.depth ≤ 64) (sz : nod q ≤ 8000) (k : Z (.str q.shown)) : OpC g X (.builtin "repr") [d] Z := by
  intro G H vs R ex i kk
  obtain ⟨v, rfl, e⟩ := isA_one (isA_any ex i)
  have ref : ∃ a, v = .ref a := by
    cases d with
    | lst ds => obtain ⟨a, _, e, _⟩ := e; exact ⟨a, e⟩
    | tup ds => obtain ⟨a, _, e, _⟩ := e; exact ⟨a, e⟩
    | obj C fs => obtain ⟨a, _, _, e, _⟩ := e; exact ⟨a, e⟩
    | dic ks => obtain ⟨a, _, e, _⟩ := e; exact ⟨a, e⟩
    | scr K ns => obtain ⟨a, e, _⟩ := e; exact ⟨a, e⟩
    | _ => cases hd
  obtain ⟨a, rfl⟩ := ref
  exact ⟨_, call_shown hG hu, a, q, rfl, dp_of _ _ _ e hp, pl, dep, sz, kk _ (.str q.shown) G H k (Grow.refl ex) rfl⟩
end
/-! ### defs over data, guards known -/
structure DfG (P : Program) (w : World) (K : PySem.W.Frag) (mg : Str → Option Value) (base : Heap) (k : Nat) (x : Str) (ps : List Str) (sp : Sp) : Prop where
  ex : ∃ f fd, FnG P w K mg base k f fd ps sp ∧ mg x = some (.ref f) ∧ PySem.W.keepIn K (.ref f) = true ∧ Binds K fd ps []
section
variable {P : Program} {w : World} {K : PySem.W.Frag} {mg : Str → Option Value} {base : Heap}
theorem fnDG {x qual : Str} {st : Stmt} {f : Addr} {fd : FuncData} {N ps : List Str} {k : Nat} {c : List D → (D → Prop) → Prop} (F : Fun K x qual st f fd) (S : FnScope N ps (defScope st)) (len : ∀ ds Z, c ds Z → ds.length = ps.length)
    (h : ∀ (cdv : Value) (A : Around) (outer : List Env) (s : Shared) (H : Hp) (E : XK) (ds : List D) (Z : D → Prop), A.guards = some [] → Room k (A.deeper (envOfC qual (defScope st) s.heap.objs.size f cdv)) → c ds Z →
      WSs (CxD P w K mg base N qual st f cdv A outer s H E) (defBody st) (rho0 N ds) { nx := fun _ => Z .non, rt := Z }) : FnG P w K mg base (k + 1) f fd ps (spD c) := by
  refine fnG_of F S (fun vs H Q E hs => ?_) fun cdv A outer s H vs Q E hG hr hs => ?_
  · obtain ⟨G, ds, Z, _, i, hc, _⟩ := hs
    rw [i.length]
    exact len ds Z hc
  · obtain ⟨G, ds, Z, ex, i, hc, q⟩ := hs
    have fin : ∀ v d G' H', Z d → Fin ⟨H, G, [], 0⟩ G' H' → Is G' d v → Q v H' := fun v d G' H' z F iv => q v d G' H' z ⟨F.bg, fun a o e => F.fr a o e (by simp), F.ex, F.nw⟩ iv
    exact ⟨_, pss_w, h cdv A outer s H E ds Z hG hr hc ⟨H, G, [], 0⟩ _ G H _ (sta_start ex i) ⟨fun σ' ρ' G' H' z S' _ => fin .non .non G' H' z S'.fin rfl, fun v d G' H' z F iv => fin v d G' H' z F iv, fun _ _ _ _ z => z.elim, fun _ _ _ _ z => z.elim⟩⟩
theorem fnPG {x qual : Str} {st : Stmt} {f : Addr} {fd : FuncData} {N ps : List Str} {k : Nat} {c : List D → (D → Prop) → Prop} (F : Fun K x qual st f fd) (S : FnScope N ps (defScope st)) (len : ∀ ds Z, c ds Z → ds.length + 1 = ps.length)
    (h : ∀ (cdv : Value) (A : Around) (outer : List Env) (s : Shared) (H : Hp) (E : XK) (ds : List D) (Z : D → Prop), A.guards = some [] → Room k (A.deeper (envOfC qual (defScope st) s.heap.objs.size f cdv)) → c ds Z →
      WSs (CxD P w K mg base N qual st f cdv A outer s H E) (defBody st) (rhoP N ds) { nx := fun _ => Z .non, rt := Z }) : FnG P w K mg base (k + 1) f fd ps (spP c) := by
  refine fnG_of F S (fun vs H Q E hs => ?_) fun cdv A outer s H vs Q E hG hr hs => ?_
  · obtain ⟨G, l, vr, ds, Z, rfl, _, _, _, i, hc, _⟩ := hs
    have := len ds Z hc
    rw [List.length_cons, i.length]
    exact this
  · obtain ⟨G, l, vr, ds, Z, rfl, ex, gl, pl, i, hc, q⟩ := hs
    have fin : ∀ v d G' H', Z d → Fin ⟨H, G, [l], 0⟩ G' H' → Is G' d v → Q v H' := fun v d G' H' z F iv => q v d G' H' z ⟨F.bg, fun a o e n => F.fr a o e (by simpa using n), F.ex, F.nw, F.pot l (List.mem_singleton.mpr rfl)⟩ iv
    exact ⟨_, pss_w, h cdv A outer s H E ds Z hG hr hc ⟨H, G, [l], 0⟩ _ G H _ (sta_startP ex i gl pl) ⟨fun σ' ρ' G' H' z S' _ => fin .non .non G' H' z S'.fin rfl, fun v d G' H' z F iv => fin v d G' H' z F iv, fun _ _ _ _ z => z.elim, fun _ _ _ _ z => z.elim⟩⟩
end
section
variable {p g : Bool} {X : Cx} {ρ : Rho} {Q : D → Rho → Prop} {c : List D → (D → Prop) → Prop} {k : Nat} {ps : List Str} {x : Str} {pp pos : Pos} {e : Expr} {es : List Expr}
theorem callG (F : DfG X.prog X.w X.K X.mg X.base k x ps (spD c)) (hG : X.A.guards = some []) (hr : Room k X.A) (h : WA p true X (e :: es) ρ fun ds ρ' => c ds fun d => Q d ρ') (hg : Gl X x := by rfl) (hdb : (x == ("__debug__" : Str)) = false := by decide)
    (he : starEach (e :: es) X.env = (false, eval e X.env) :: starEach es X.env := by rfl) (hpl : (backTo pos (starEach es X.env)).any (·.1) = false := by rfl) : W p g X (.Call (.Name x pp) (e :: es) [] pos) ρ Q := by
  obtain ⟨f, fd, F, hm, hk, hb⟩ := F.ex
  intro B σ G H S R r
  refine wE_of (pe_callG F hG hr hg hm hk hb pa_w hdb he hpl) ?_
  refine h B σ G H S _ fun vs ds ρ' G' H' q S' y pu i => ?_
  refine ⟨G', ds, fun d => Q d ρ', S'.ex, by rw [List.append_nil]; exact i, q, fun v d G2 H2 z gr iz => ?_⟩
  exact r v d ρ' G2 H2 z (S'.grow gr) (y.trans gr.g) (fun w => ⟨(pu w).1, (pu w).2.trans gr⟩) (is_h (S'.grow gr) iz)
theorem callPG (i : Nat) {y : Str} {py : Pos} {lc : Bool} (F : DfG X.prog X.w X.K X.mg X.base k x ps (spP c)) (hG : X.A.guards = some []) (hr : Room k X.A) (h : WA false true X es ρ fun ds ρ' => ρ'[i]? = some (.own lc .pot) ∧ c ds fun d => Q d ρ') (hN : X.N[i]? = some y := by rfl) (hr' : ρ[i]? = some (.own lc .pot) := by rfl)
    (hv : Vis X.env.scope y := by first | exact .inl rfl | exact .inr (.inl rfl) | exact .inr (.inr rfl)) (hd : (y == ("__debug__" : Str)) = false := by decide) (hcd : (y == ("__classdict__" : Str)) = false := by decide) (hg : Gl X x := by rfl)
    (hdb : (x == ("__debug__" : Str)) = false := by decide) (he : starEach (.Name y py :: es) X.env = (false, eval (.Name y py) X.env) :: starEach es X.env := by rfl) (hpl : (backTo pos (starEach es X.env)).any (·.1) = false := by rfl) : W false g X (.Call (.Name x pp) (.Name y py :: es) [] pos) ρ Q := by
  obtain ⟨f, fd, F, hm, hk, hb⟩ := F.ex
  intro B σ G H S R r
  refine wE_of (pe_callG F hG hr hg hm hk hb (pa_cons pe_w pa_w he) hdb he hpl) ?_
  refine own_name hN hv hd hcd hr' S fun l el ok => ?_
  refine h B σ G H S _ fun vs ds ρ' G' H' q S' yx pu j => ?_
  obtain ⟨l', el', gl, bl, pt⟩ := S'.ownAt q.1
  have : l' = l := by rw [el] at el'; cases el'; rfl
  subst this
  refine ⟨G', l', vs, ds, fun d => Q d ρ', by rw [List.append_nil], S'.ex, gl, pt, j, q.2, fun v d G2 H2 z gr iz => ?_⟩
  have S2 := S'.growP gr q.1 el
  exact r v d ρ' G2 H2 z S2 (yx.trans gr.g) (fun z => nomatch z) (is_h S2 iz)
end
end DD

namespace DD
open PySem PySem.Spec PyProof.Rows L2
/-! ### lists and tuples, by one word (true: a tuple) -/
def SqB (K : PySem.W.Frag) (b : Bool) (H : Hp) (a : Addr) (xs : List V) : Prop := match b with
  | true => SqT K H a xs
  | false => SqL K H a xs
def HeB (b : Bool) (h : Heap) (a : Addr) (ys : Array Value) : Prop := match b with
  | true => h.IsTuple a ys
  | false => h.IsList a ys
def ItB (b : Bool) (h : Heap) (it a : Addr) (i : Nat) : Prop := match b with
  | true => h.IsTupleIter it a i
  | false => h.IsListIter it a i
def obB (b : Bool) (a : Addr) : Obj := match b with
  | true => { cls := .type "tuple_iterator", data := .fields #[.ref a, .int 0 0] }
  | false => { cls := .type "list_iterator", data := .fields #[.ref a, .int 0 0] }
def isB2 (b : Bool) (ds : List D) : D := match b with
  | true => .tup ds
  | false => .lst ds
theorem SqB.seq {X : Cx} {pins : List (Addr × Obj)} {σ : L2.St} {H : Hp} {s : Shared} {a : Addr} {xs : List V} (I : Inv X pins σ H s) : ∀ {b : Bool}, SqB X.K b H a xs → ∃ ys : List Value, Vals xs ys ∧ HeB b s.heap a ys.toArray ∧ a < s.heap.objs.size
  | true, q => by
    obtain ⟨ys, r, p, _⟩ := I.tuple q
    have p : s.heap.IsTuple a ys.toArray := p
    exact ⟨ys, r, p, by obtain ⟨_, k, _⟩ := p; exact Heap.lt_size k⟩
  | false, q => by
    obtain ⟨ys, r, p, _⟩ := I.list q
    exact ⟨ys, r, p.isList, p.lt⟩
theorem SqB.inj {X : Cx} {pins : List (Addr × Obj)} {σ : L2.St} {H : Hp} {s : Shared} {a : Addr} {xs ys : List V} (I : Inv X pins σ H s) : ∀ {b : Bool}, SqB X.K b H a xs → SqB X.K b H a ys → xs = ys
  | true, q, q2 => I.tuple_inj q q2
  | false, q, q2 => I.list_inj q q2
theorem ItB.at {h h' : Heap} {it a : Addr} {i : Nat} : ∀ {b : Bool}, ItB b h it a i → (∀ o, h.get? it = some o → h'.get? it = some o) → ItB b h' it a i
  | true, p, k => Heap.IsTupleIter.at p k
  | false, p, k => Heap.IsListIter.at p k
theorem ItB.cell {h : Heap} {it a : Addr} {i : Nat} : ∀ {b : Bool}, ItB b h it a i → ∃ o, h.get? it = some o ∧ ∀ v, o.data ≠ .cell v
  | true, ⟨o, e, _, d⟩ => ⟨o, e, fun v q => by rw [d] at q; cases q⟩
  | false, ⟨o, e, _, d⟩ => ⟨o, e, fun v q => by rw [d] at q; cases q⟩
theorem ItB.new {h : Heap} {it a : Addr} : ∀ {b : Bool}, h.get? it = some (obB b a) → ItB b h it a 0
  | true, e => ⟨_, e, rfl, rfl⟩
  | false, e => ⟨_, e, rfl, rfl⟩
theorem drB {prog : Program} {w : World} {A : Around} (hh : A.handled = none) (it a : Addr) (ne : a ≠ it) (ys : Array Value) : ∀ b : Bool, Draws prog w A it [it, a] ys.size (fun i v => ys[i]? = some v) (fun i h => ItB b h it a i ∧ HeB b h a ys)
  | true => Draws.tuple hh it a ne ys
  | false => Draws.list hh it a ne ys
theorem bgB (a : Addr) (ys : Array Value) : ∀ b : Bool, Begins (.ref a) (obB b a) fun h => HeB b h a ys
  | true => begins_tuple a ys
  | false => begins_list a ys
/-! ### zip of three -/
def It3 (K : PySem.W.Frag) (b1 b2 b3 : Bool) (p q r : Addr) : It where
  go := fun i H => ∃ (xs ys zs : List V) (x y z : V), (SqB K b1 H p xs ∧ SqB K b2 H q ys ∧ SqB K b3 H r zs) ∧ xs[i]? = some x ∧ ys[i]? = some y ∧ zs[i]? = some z
  yld := fun i H v H' => ∃ T x y z, v = .ref T ∧ H T = none ∧ H' = upd H T (.tup [x, y, z]) ∧ (∀ l, SqB K b1 H p l → l[i]? = some x) ∧ (∀ l, SqB K b2 H q l → l[i]? = some y) ∧ ∀ l, SqB K b3 H r l → l[i]? = some z
  stop := fun i H => ∃ xs ys zs : List V, (SqB K b1 H p xs ∧ SqB K b2 H q ys ∧ SqB K b3 H r zs) ∧ i = min (min xs.length ys.length) zs.length
structure St3 (b1 b2 b3 : Bool) (z TI TO i1 i2 i3 p q r : Addr) (i : Nat) (h : Heap) : Prop where
  z : IsZip h z TI TO .none
  t : IsTupOf3 h TI (.ref i1) (.ref i2) (.ref i3)
  o : ∃ u v w, IsTupOf3 h TO u v w
  l1 : ItB b1 h i1 p i
  l2 : ItB b2 h i2 q i
  l3 : ItB b3 h i3 r i
theorem turn3 {P : Program} {w : World} {K : PySem.W.Frag} {elts : List Expr} {kk : Nat} {tpos : Pos} {b1 b2 b3 : Bool} {p q r z TI TO i1 i2 i3 : Addr} (D : ZipSep3 z TI TO i1 i2 i3 [i1, p] [i2, q] [i3, r]) (n1 : p ≠ i1) (n2 : q ≠ i2) (n3 : r ≠ i3) :
    Turn P w K (.Tuple elts kk tpos) (It3 K b1 b2 b3 p q r) [z, TI, TO, i1, i2, i3] z (St3 b1 b2 b3 z TI TO i1 i2 i3 p q r) where
  mem := by simp
  obj := fun i h st c hc => by
    obtain ⟨u, v, w, e⟩ := st.o
    rcases (show c = z ∨ c = TI ∨ c = TO ∨ c = i1 ∨ c = i2 ∨ c = i3 by simpa using hc) with rfl | rfl | rfl | rfl | rfl | rfl
    · exact ⟨_, st.z, fun _ k => by cases k⟩
    · exact ⟨_, st.t, fun _ k => by cases k⟩
    · exact ⟨_, e, fun _ k => by cases k⟩
    · obtain ⟨o, e, d⟩ := st.l1.cell
      exact ⟨o, e, fun v k => d _ k⟩
    · obtain ⟨o, e, d⟩ := st.l2.cell
      exact ⟨o, e, fun v k => d _ k⟩
    · obtain ⟨o, e, d⟩ := st.l3.cell
      exact ⟨o, e, fun v k => d _ k⟩
  keep := fun i h h' st k => by
    obtain ⟨u, v, w, e⟩ := st.o
    exact ⟨k z (by simp) _ st.z, k TI (by simp) _ st.t, ⟨u, v, w, k TO (by simp) _ e⟩, st.l1.at fun o => k i1 (by simp) o, st.l2.at fun o => k i2 (by simp) o, st.l3.at fun o => k i3 (by simp) o⟩
  item := by
    intro X hP hw hK hc i pins s σ H E I hf st hg
    subst hP hw hK
    obtain ⟨xs, ys, zs, x, y, u, ⟨q1, q2, q3⟩, hx, hy, hu⟩ := hg
    obtain ⟨a1, r1, p1, _⟩ := q1.seq I
    obtain ⟨a2, r2, p2, _⟩ := q2.seq I
    obtain ⟨a3, r3, p3, _⟩ := q3.seq I
    obtain ⟨v1, g1, w1⟩ := r1.get hx
    obtain ⟨v2, g2, w2⟩ := r2.get hy
    obtain ⟨v3, g3, w3⟩ := r3.get hu
    have m1 : i < a1.toArray.size := by have := (List.getElem?_eq_some_iff.mp g1).1; simpa using this
    have m2 : i < a2.toArray.size := by have := (List.getElem?_eq_some_iff.mp g2).1; simpa using this
    have m3 : i < a3.toArray.size := by have := (List.getElem?_eq_some_iff.mp g3).1; simpa using this
    have lz : z < s.heap.objs.size := Heap.lt_size st.z
    obtain ⟨u0, v0, w0, eO⟩ := st.o
    have hd := I.ok.hd hc
    refine wpAny_pyNext_zipD3_item D (drB (A := X.A.in1) hd i1 p n1 a1.toArray b1) (drB (A := X.A.in1) hd i2 q n2 a2.toArray b2) (drB (A := X.A.in1) hd i3 r n3 a3.toArray b3) st.z st.t eO ⟨st.l1, p1⟩ ⟨st.l2, p2⟩ ⟨st.l3, p3⟩ m1 m2 m3 fun y1 y2 y3 h1 tk f1 f2 f3 c1 c2 c3 c4 c5 c6 c7 hk => ?_
    have e1 : y1 = v1 := by
      have k : a1[i]? = some y1 := by simpa using f1
      rw [g1] at k; cases k; rfl
    have e2 : y2 = v2 := by
      have k : a2[i]? = some y2 := by simpa using f2
      rw [g2] at k; cases k; rfl
    have e3 : y3 = v3 := by
      have k : a3[i]? = some y3 := by simpa using f3
      rw [g3] at k; cases k; rfl
    subst e1; subst e2; subst e3
    refine ⟨_, rfl, wpAny_letOwnedTupleGo_zip (s := { s with heap := h1, toks := tk }) c1 fun h2 z2 sb => ?_⟩
    have hT : h2.get? s.heap.objs.size = some { cls := .type "tuple", data := .seq #[y1, y2, y3] } := (sb.2 _ (Nat.ne_of_gt lz)).trans c6
    have new : ObjOk X.prog X.w (upd H s.heap.objs.size (.tup [x, y, u])) h2 s.heap.objs.size (.tup [x, y, u]) := ⟨by show 3 ≤ sizeLine; decide, [y1, y2, y3], .cons w1 (.cons w2 (.cons w3 .nil)), ⟨_, hT, rfl, _, rfl⟩⟩
    have I2 : Inv X pins σ (upd H s.heap.objs.size (.tup [x, y, u])) { s with heap := h2, toks := tk } := I.turnedNew (ch := [z, TI, TO, i1, i2, i3]) (fun c ob hm k => by
      have n : c ≠ z ∧ c ≠ TI ∧ c ≠ TO ∧ c ≠ i1 ∧ c ≠ i2 ∧ c ≠ i3 := by simpa using hm
      exact (sb.2 c n.1).trans (hk c ob n.1 n.2.2.1 n.2.2.2.1 n.2.2.2.2.1 n.2.2.2.2.2 k)) hf (Nat.le_refl _) new
    have z1 : i1 ≠ z := fun e => D.zf1 (e ▸ D.mem1)
    have z2' : i2 ≠ z := fun e => D.zf2 (e ▸ D.mem2)
    have z3 : i3 ≠ z := fun e => D.zf3 (e ▸ D.mem3)
    refine ⟨.ref s.heap.objs.size, _, I2, rfl, ⟨_, x, y, u, rfl, I.hok.fresh (Nat.le_refl _), rfl, fun l hl => ?_, fun l hl => ?_, fun l hl => ?_⟩, ⟨z2, (sb.2 _ D.TIz).trans (hk _ _ D.TIz D.TITO D.TIi1 D.TIi2 D.TIi3 st.t), ⟨y1, y2, y3, (sb.2 _ D.TOz).trans c2⟩, c3.1.at fun o k => (sb.2 _ z1).trans k, c4.1.at fun o k => (sb.2 _ z2').trans k, c5.1.at fun o k => (sb.2 _ z3).trans k⟩, fun c hm => ?_⟩
    · rw [SqB.inj I hl q1]; exact hx
    · rw [SqB.inj I hl q2]; exact hy
    · rw [SqB.inj I hl q3]; exact hu
    · have lt : c < s.heap.objs.size := by
        obtain ⟨o1, k1, _⟩ := st.l1.cell
        obtain ⟨o2, k2, _⟩ := st.l2.cell
        obtain ⟨o3, k3, _⟩ := st.l3.cell
        rcases (show c = z ∨ c = TI ∨ c = TO ∨ c = i1 ∨ c = i2 ∨ c = i3 by simpa using hm) with rfl | rfl | rfl | rfl | rfl | rfl
        · exact lz
        · exact Heap.lt_size st.t
        · exact Heap.lt_size eO
        · exact Heap.lt_size k1
        · exact Heap.lt_size k2
        · exact Heap.lt_size k3
      rw [upd_ne (Nat.ne_of_lt lt)]
      exact (hf c hm).1
  done := by
    intro X hP hw hK hc i pins s σ H E I hf st hg
    subst hP hw hK
    obtain ⟨xs, ys, zs, ⟨q1, q2, q3⟩, he⟩ := hg
    obtain ⟨a1, r1, p1, _⟩ := q1.seq I
    obtain ⟨a2, r2, p2, _⟩ := q2.seq I
    obtain ⟨a3, r3, p3, _⟩ := q3.seq I
    have s1 : a1.toArray.size = xs.length := by simp [r1.length]
    have s2 : a2.toArray.size = ys.length := by simp [r2.length]
    have s3 : a3.toArray.size = zs.length := by simp [r3.length]
    obtain ⟨u0, v0, w0, eO⟩ := st.o
    have hd := I.ok.hd hc
    refine wpAny_pyNext_zipD3_end D (drB (A := X.A.in1) hd i1 p n1 a1.toArray b1) (drB (A := X.A.in1) hd i2 q n2 a2.toArray b2) (drB (A := X.A.in1) hd i3 r n3 a3.toArray b3) st.z st.t eO ⟨st.l1, p1⟩ ⟨st.l2, p2⟩ ⟨st.l3, p3⟩ (by omega) (by omega) (by omega) (by omega) fun h' tk hk => ⟨rfl, I.turnedL (ch := [z, TI, TO, i1, i2, i3]) (fun c ob hm k => ?_) hf⟩
    have n : c ≠ z ∧ c ≠ TI ∧ c ≠ TO ∧ c ≠ i1 ∧ c ≠ i2 ∧ c ≠ i3 := by simpa using hm
    exact hk c ob n.1 n.2.2.1 n.2.2.2.1 n.2.2.2.2.1 n.2.2.2.2.2 k
  self := fun A i s Q E st h => wpAny_pyIter_zip st.z h
def iZ3 (K : PySem.W.Frag) (b1 b2 b3 : Bool) (ta : TA) : TI := fun σ H R => ta σ H fun vs H1 => ∃ p q r xs ys zs, vs = [.ref p, .ref q, .ref r] ∧ (SqB K b1 H1 p xs ∧ SqB K b2 H1 q ys ∧ SqB K b3 H1 r zs) ∧ R (It3 K b1 b2 b3 p q r) H1
theorem pi_z3 {X : Cx} {b1 b2 b3 : Bool} {e e2 e3 : Expr} {ta : TA} {pp pos tpos : Pos} {elts : List Expr} {kk : Nat} (hg : Gl X "zip") (hm : X.mg "zip" = none) (ha : PA X [e, e2, e3] ta)
    (hs : starEach [e, e2, e3] X.env = (false, eval e X.env) :: starEach [e2, e3] X.env := by rfl) (hpl : (backTo pos (starEach [e2, e3] X.env)).any (·.1) = false := by rfl) : PI X (.Tuple elts kk tpos) (.Call (.Name "zip" pp) [e, e2, e3] [] pos) (iZ3 X.K b1 b2 b3 ta) := by
  refine ⟨fun pins s σ H R I hyp => ?_⟩
  refine Call_ (ld_blt I hg hm PyProof.Rows.boot_zip (PyProof.Rows.callWith_type1 (thn (ha.run pos pins s σ H _ I hyp) fun us s1 ⟨vs, H1, I1, rr, q1⟩ => ?_) hs hpl))
  obtain ⟨p, q, r, xs, ys, zs, rfl, ⟨qp, qq, qr⟩, k⟩ := q1
  cases rr with
  | cons ra rr =>
    cases rr with
    | cons rb rr =>
      cases rr with
      | cons rc rr =>
        cases rr; cases ra; cases rb; cases rc
        obtain ⟨a1, r1, p1, m1⟩ := qp.seq I1
        obtain ⟨a2, r2, p2, m2⟩ := qq.seq I1
        obtain ⟨a3, r3, p3, m3⟩ := qr.seq I1
        refine zip_begins3 (bgB p a1.toArray b1) (bgB q a2.toArray b2) (bgB r a3.toArray b3) p1 p2 p3 fun h' g1 g2 g3 g4 g5 g6 g7 hk => wpAny_pyIter_zip g1 ?_
        have I2 : Inv X pins σ H1 { s1 with heap := h' } := I1.kept (t' := s1.toks) hk
        have D := zip_sep3 (N := s1.heap.objs.size) (fp1 := [p]) (fp2 := [q]) (fp3 := [r]) (fun c hc => by rw [List.mem_singleton.mp hc]; exact m1) (fun c hc => by rw [List.mem_singleton.mp hc]; exact m2) (fun c hc => by rw [List.mem_singleton.mp hc]; exact m3)
        have N := s1.heap.objs.size
        refine ⟨_, [s1.heap.objs.size + 5, s1.heap.objs.size + 3, s1.heap.objs.size + 4, s1.heap.objs.size, s1.heap.objs.size + 1, s1.heap.objs.size + 2], _, _, H1, rfl, I2, turn3 D (Nat.ne_of_lt m1) (Nat.ne_of_lt (Nat.lt_succ_of_lt m2)) (Nat.ne_of_lt (Nat.lt_succ_of_lt (Nat.lt_succ_of_lt m3))), ⟨g1, g2, ⟨_, _, _, g3⟩, .new g4, .new g5, .new g6⟩, fun c hm => ?_, k⟩
        have le : s1.heap.objs.size ≤ c := by
          rcases (show c = s1.heap.objs.size + 5 ∨ c = s1.heap.objs.size + 3 ∨ c = s1.heap.objs.size + 4 ∨ c = s1.heap.objs.size ∨ c = s1.heap.objs.size + 1 ∨ c = s1.heap.objs.size + 2 by simpa using hm) with z | z | z | z | z | z <;> rw [z] <;> first | exact Nat.le_refl _ | exact Nat.le_add_right _ _
        exact I1.fpOk le (I1.hok.fresh le)
def zip3 (xs ys zs : List D) : List D := (xs.zip (ys.zip zs)).map fun q => D.tup [q.1, q.2.1, q.2.2]
theorem zip3_len (xs ys zs : List D) : (zip3 xs ys zs).length = min (min xs.length ys.length) zs.length := by
  unfold zip3
  rw [List.length_map, List.length_zip, List.length_zip]
  omega
theorem zip3_at {xs ys zs : List D} {i : Nat} {d : D} (h : (zip3 xs ys zs)[i]? = some d) : ∃ a b c, d = .tup [a, b, c] ∧ xs[i]? = some a ∧ ys[i]? = some b ∧ zs[i]? = some c := by
  unfold zip3 at h
  rw [List.getElem?_map] at h
  cases hz : (xs.zip (ys.zip zs))[i]? with
  | none => rw [hz] at h; cases h
  | some q =>
    rw [hz] at h
    cases h
    rw [List.getElem?_zip_eq_some, List.getElem?_zip_eq_some] at hz
    exact ⟨_, _, _, rfl, hz.1, hz.2.1, hz.2.2⟩
section
variable {X : Cx} {p : Bool} {ρ : Rho} {QI : List D → Rho → Prop}
theorem seq_of {K : PySem.W.Frag} {G H : Hp} {ds : List D} {v : V} (ex : Ex G H) : ∀ {b : Bool}, Is G (isB2 b ds) v → ∃ a xs, v = .ref a ∧ (∀ H', Ex G H' → SqB K b H' a xs) ∧ IsA G ds xs
  | true, ⟨a, xs, e1, e2, e3⟩ => ⟨a, xs, e1, fun H' ex => .inl (.inl (ex _ _ e2)), e3⟩
  | false, ⟨a, xs, e1, e2, e3⟩ => ⟨a, xs, e1, fun H' ex => .inl (.inl (ex _ _ e2)), e3⟩
theorem wi_zip3 (b1 b2 b3 : Bool) {a b c : Expr} {elts : List Expr} {kk : Nat} {pp pos tpos : Pos} (hg : Gl X "zip") (hm : X.mg "zip" = none) (h : WA p true X [a, b, c] ρ fun ds ρ' => ∃ xs ys zs, ds = [isB2 b1 xs, isB2 b2 ys, isB2 b3 zs] ∧ QI (zip3 xs ys zs) ρ')
    (hs : starEach [a, b, c] X.env = (false, eval a X.env) :: starEach [b, c] X.env := by rfl) (hpl : (backTo pos (starEach [b, c] X.env)).any (·.1) = false := by rfl) : WI p X (.Tuple elts kk tpos) (.Call (.Name "zip" pp) [a, b, c] [] pos) ρ QI := fun B σ G H S R r => by
  refine wI_of (pi_z3 (b1 := b1) (b2 := b2) (b3 := b3) hg hm pa_w hs hpl) ?_
  refine h B σ G H S _ fun vs ds ρ' G' H' q S' x pu i => ?_
  obtain ⟨xs, ys, zs, rfl, q⟩ := q
  obtain ⟨v1, vr, rfl, j1, v2, vr2, rfl, j2, v3, vr3, rfl, j3, e⟩ := i
  cases e
  obtain ⟨l1, as, rfl, s1, t1⟩ := seq_of (K := X.K) S'.ex j1
  obtain ⟨l2, bs, rfl, s2, t2⟩ := seq_of (K := X.K) S'.ex j2
  obtain ⟨l3, cs, rfl, s3, t3⟩ := seq_of (K := X.K) S'.ex j3
  refine ⟨l1, l2, l3, as, bs, cs, rfl, ⟨s1 _ S'.ex, s2 _ S'.ex, s3 _ S'.ex⟩, r _ _ ρ' G' H' q S' x pu ?_⟩
  have hl : (zip3 xs ys zs).length = min (min as.length bs.length) cs.length := by rw [zip3_len, t1.length, t2.length, t3.length]
  unfold WalkD
  rw [hl]
  refine ⟨fun i Hc hi ex => ?_, fun Hc ex => ⟨as, bs, cs, ⟨s1 _ ex, s2 _ ex, s3 _ ex⟩, rfl⟩, fun i Hc y H'' hi ex ya d hd Gc g1 g2 => ?_⟩
  · exact ⟨as, bs, cs, as[i]'(by omega), bs[i]'(by omega), cs[i]'(by omega), ⟨s1 _ ex, s2 _ ex, s3 _ ex⟩, List.getElem?_eq_getElem (by omega), List.getElem?_eq_getElem (by omega), List.getElem?_eq_getElem (by omega)⟩
  · obtain ⟨T, u1, u2, u3, rfl, hT, rfl, f1, f2, f3⟩ := ya
    obtain ⟨d1, d2, d3, rfl, k1, k2, k3⟩ := zip3_at hd
    obtain ⟨w1, m1, n1⟩ := t1.get k1
    obtain ⟨w2, m2, n2⟩ := t2.get k2
    obtain ⟨w3, m3, n3⟩ := t3.get k3
    have e1 := f1 as (s1 _ ex)
    have e2 := f2 bs (s2 _ ex)
    have e3 := f3 cs (s3 _ ex)
    rw [m1] at e1; cases e1
    rw [m2] at e2; cases e2
    rw [m3] at e3; cases e3
    have gr := Grow.new (o := .tup [u1, u2, u3]) g2 hT
    have up := g1.trans gr.g
    exact ⟨_, gr, T, _, rfl, upd_same, u1, _, rfl, Is.mono up _ _ n1, u2, _, rfl, Is.mono up _ _ n2, u3, _, rfl, Is.mono up _ _ n3, rfl⟩
end
end DD

namespace DD
open PySem PySem.Spec PyProof.Rows L2
section
variable {X : Cx} {ρ : Rho} {E : DE} {pos : Pos}
/-! ### x[e] += ev, x an own list of whole numbers -/
theorem get_ofL : PGet X (rIxL X.K) := by
  intro pins s σ H o i ov iv Q I ro ri h
  obtain ⟨p, xs, k, z, rfl, rfl, hq, he, q⟩ := h
  cases ro
  obtain ⟨t, rfl⟩ := ri
  obtain ⟨its, r, pl, hz⟩ := I.list hq
  obtain ⟨j, h1, h2, h3, h4, h5⟩ := atI_get he
  obtain ⟨w, ew, rw'⟩ := r.get h2
  have len := r.length
  have big := line63
  have fin : EP X pins σ Q w s := ⟨z, H, I, rw', q⟩
  have sz : its.toArray.size = its.length := List.size_toArray ..
  by_cases k0 : 0 ≤ k
  · rw [seqIndex_of k0 h5] at h1
    have hj := Option.some.inj h1
    exact wpAny_getItem_list pl.isList (by omega) (by omega) (by rw [hj]; simpa using ew) fin
  · rw [seqIndex_neg (by omega) h4] at h1
    have hj := Option.some.inj h1
    exact wpAny_getItem_list_neg pl.isList (by omega) (by omega) (by omega) (by rw [sz, ← len, hj]; simpa using ew) fin
theorem s_augItem (i : Nat) {x : Str} {e ev : Expr} {p1 p2 : Pos} {ns : List Int} (hr : ρ[i]? = some (.own true (.lst (ns.map D.int))))
    (h : W true true X e ρ fun k _ => ∃ (n : Int) (j : Nat) (v : Int), k = .int n ∧ ixN ns.length n = some j ∧ ns[j]? = some v ∧ W true true X ev ρ fun d _ => ∃ m : Int, d = .int m ∧ E.nx (ρ.set i (.own true (.lst ((ns.set j (v + m)).map D.int)))))
    (hN : X.N[i]? = some x := by rfl) (hv : Vis X.env.scope x := by first | exact .inl rfl | exact .inr (.inl rfl) | exact .inr (.inr rfl)) (hd : (x == ("__debug__" : Str)) = false := by decide) (hcd : (x == ("__classdict__" : Str)) = false := by decide)
    (ha : ∀ ov iv new, augStore e ov iv new = (do holding [new, ov, iv] (setItem ov iv new); release [new, ov, iv] []; pure .next) := by intros; rfl) : WS X (.AugAssign (.Subscript (.Name x p1) e p2) .Add ev pos) ρ E := fun B σ G H F S L => by
  refine wS_of (ps_augS pe_w pe_w get_ofL pe_w ip_add set_list ha) ?_
  refine own_name hN hv hd hcd hr S fun l el ok => ?_
  refine h B σ G H S _ fun u k ρ1 G1 H1 q S1 y1 pu1 iu => ?_
  obtain ⟨rfl, g1⟩ := pu1 rfl
  obtain ⟨n, j, v, rfl, hj, hat, q⟩ := q
  have iu : u = .int n := iu
  subst iu
  obtain ⟨l', el', gl, bl, xs', h1', h2'⟩ := S1.ownAt hr
  have : l' = l := by rw [el] at el'; cases el'; rfl
  subst this
  have ex := h2'.ints
  subst ex
  have at' : atI (ns.map V.int) n = some (.int v) := by
    unfold atI
    rw [List.length_map, hj]
    show (ns.map V.int)[j]? = _
    rw [List.getElem?_map, hat]; rfl
  refine ⟨l', _, n, .int v, rfl, rfl, .inl (.inl h1'), at', ?_⟩
  refine q B σ G1 H1 S1 _ fun u2 d ρ2 G2 H2 q2 S2 y2 pu2 iu2 => ?_
  obtain ⟨rfl, g2⟩ := pu2 rfl
  obtain ⟨m, rfl, q2⟩ := q2
  have iu2 : u2 = .int m := iu2
  subst iu2
  obtain ⟨l2, el2, gl2, bl2, xs2, k1, k2⟩ := S2.ownAt hr
  have : l2 = l' := by rw [el] at el2; cases el2; rfl
  subst this
  have ex := k2.ints
  subst ex
  refine ⟨v, m, rfl, rfl, ?_⟩
  refine ⟨l2, _, n, j, rfl, rfl, k1, by rw [List.length_map]; exact hj, ?_⟩
  refine L.nx σ _ G2 _ q2 (S2.upd hr el ⟨_, upd_same, ?_⟩) (y1.trans y2)
  show IsA G2 ((ns.set j (v + m)).map D.int) ((ns.map V.int).set j (V.int (v + m)))
  rw [← List.map_set]
  exact IsA.of_ints
/-! ### x.insert(e, e2), x.extend(e), own lists -/
theorem s_insert (i : Nat) {x : Str} {e e2 : Expr} {p1 p2 p3 : Pos} {ds : List D} (hr : ρ[i]? = some (.own true (.lst ds)))
    (h : WA false true X [e, e2] ρ fun vs ρ' => ∃ (n : Int) (d : D), vs = [.int n, d] ∧ ρ'[i]? = some (.own true (.lst ds)) ∧ (0 ≤ n ∧ n < 2 ^ 63 ∧ ds.length < 1000000) ∧ E.nx (ρ'.set i (.own true (.lst (ds.take n.toNat ++ [d] ++ ds.drop n.toNat)))))
    (hN : X.N[i]? = some x := by rfl) (hv : Vis X.env.scope x := by first | exact .inl rfl | exact .inr (.inl rfl) | exact .inr (.inr rfl)) (hd : (x == ("__debug__" : Str)) = false := by decide) (hcd : (x == ("__classdict__" : Str)) = false := by decide)
    (hbase : attributeBase (.Name x p1) "insert" X.env (eval (.Name x p1) X.env) = eval (.Name x p1) X.env := by rfl)
    (hfew : ((backTo p3 (starEach [e, e2] X.env)).all (fun x => !x.1) && (backToKw p3 (keywordEach [] X.env)).all (fun x => x.1.isSome)
      && decide (([e, e2] : List Expr).length + ([] : List Keyword).length + (if ([] : List Keyword).isEmpty then 0 else 1) < 30)) = true := by rfl)
    (hline : (p2.endLine == p3.line) = true := by rfl) (hst : starEach [e, e2] X.env = (false, eval e X.env) :: starEach [e2] X.env := by rfl) (hplain : (backTo p3 (starEach [e2] X.env)).any (·.1) = false := by rfl)
    (hs : swapsWith (.Call (.Attribute (.Name x p1) "insert" p2) [e, e2] [] p3) none pos.line X.env = pure false := by rfl) : WS X (.Expr (.Call (.Attribute (.Name x p1) "insert" p2) [e, e2] [] p3) pos) ρ E := fun B σ G H F S L => by
  refine wS_of (ps_expr (pe_bm PySem.F.plainAttrs_list PySem.F.slot_list_insert PySem.F.type_list_insert mt_insert pe_w pa_w hbase hfew hline hst hplain) hs) ?_
  refine own_name hN hv hd hcd hr S fun l el ok => ?_
  obtain ⟨xs, h1, h2⟩ := ok
  refine ⟨.inl ⟨rfl, xs, .inl (.inl h1)⟩, ?_⟩
  refine h B σ G H S _ fun vs ds' ρ' G' H' q S' y pu iv => ?_
  obtain ⟨n, d, rfl, hr', ⟨n0, n1, hz⟩, q⟩ := q
  obtain ⟨u, w, rfl, iu, iw⟩ := isA_two iv
  cases (iu : u = .int n)
  obtain ⟨l', el', gl, bl, xs', h1', h2'⟩ := S'.ownAt hr'
  have : l' = l := by rw [el] at el'; cases el'; rfl
  subst this
  refine ⟨l', xs', n, w, rfl, rfl, h1', by rw [h2'.length]; exact Nat.lt_trans hz (by decide), n0, n1, ?_⟩
  exact L.nx σ _ G' _ q (S'.upd hr' el ⟨_, upd_same, ((h2'.take _).append (IsA.one iw)).append (h2'.drop _)⟩) y
theorem s_extend (i : Nat) {x : Str} {e : Expr} {p1 p2 p3 : Pos} {ds : List D} (hr : ρ[i]? = some (.own true (.lst ds)))
    (h : W true true X e ρ fun d _ => ∃ es, d = .lst es ∧ ds.length + es.length ≤ 1000000 ∧ E.nx (ρ.set i (.own true (.lst (ds ++ es)))))
    (hN : X.N[i]? = some x := by rfl) (hv : Vis X.env.scope x := by first | exact .inl rfl | exact .inr (.inl rfl) | exact .inr (.inr rfl)) (hd : (x == ("__debug__" : Str)) = false := by decide) (hcd : (x == ("__classdict__" : Str)) = false := by decide)
    (hbase : attributeBase (.Name x p1) "extend" X.env (eval (.Name x p1) X.env) = eval (.Name x p1) X.env := by rfl)
    (hfew : ((backTo p3 (starEach [e] X.env)).all (fun x => !x.1) && (backToKw p3 (keywordEach [] X.env)).all (fun x => x.1.isSome)
      && decide (([e] : List Expr).length + ([] : List Keyword).length + (if ([] : List Keyword).isEmpty then 0 else 1) < 30)) = true := by rfl)
    (hline : (p2.endLine == p3.line) = true := by rfl) (hst : starEach [e] X.env = (false, eval e X.env) :: starEach [] X.env := by rfl) (hplain : (backTo p3 (starEach [] X.env)).any (·.1) = false := by rfl)
    (hs : swapsWith (.Call (.Attribute (.Name x p1) "extend" p2) [e] [] p3) none pos.line X.env = pure false := by rfl) : WS X (.Expr (.Call (.Attribute (.Name x p1) "extend" p2) [e] [] p3) pos) ρ E := fun B σ G H F S L => by
  refine wS_of (ps_expr (pe_bm PySem.F.plainAttrs_list PySem.F.slot_list_extend PySem.F.type_list_extend mt_extend pe_w (pa_cons pe_w pa_nil hst) hbase hfew hline hst hplain) hs) ?_
  refine own_name hN hv hd hcd hr S fun l el ok => ?_
  obtain ⟨xs, h1, h2⟩ := ok
  refine ⟨.inl ⟨rfl, xs, .inl (.inl h1)⟩, ?_⟩
  refine h B σ G H S _ fun v d ρ' G' H' q S' y pu iv => ?_
  obtain ⟨rfl, g0⟩ := pu rfl
  obtain ⟨es, rfl, hz, q⟩ := q
  obtain ⟨b, zs, rfl, b1, b2⟩ := iv
  obtain ⟨l', el', gl, bl, xs', h1', h2'⟩ := S'.ownAt hr
  have : l' = l := by rw [el] at el'; cases el'; rfl
  subst this
  refine ⟨l', b, xs', zs, rfl, rfl, h1', S'.ex _ _ b1, by rw [h2'.length, b2.length]; exact Nat.le_trans hz (by decide), ?_⟩
  exact L.nx σ _ G' _ q (S'.upd hr el ⟨_, upd_same, h2'.append b2⟩) y
end
end DD

namespace DD
open PySem PySem.Spec PyProof.Rows L2
section
variable {p g : Bool} {X : Cx} {ρ : Rho} {Q : D → Rho → Prop} {E : DE} {pos : Pos} {scope : Scope} {N ps : List Str} {sc : Scope} {x y z u : Str} {px py pz pu pt : Pos} {kk : Nat} {iter elt : Expr}
/-! ### targets of three and four names -/
abbrev AE (X : Cx) (a : Expr) (es : List Expr) : Prop := (assignEach (a :: es) X.env).map (·.2) = assign a X.env :: (assignEach es X.env).map (·.2)
theorem pg3 (i j k : Nat) (S0 : FnScope N ps sc) (hXN : X.N = N) (hc : X.calm = true) (hi : X.N[i]? = some x) (hj : X.N[j]? = some y) (hk : X.N[k]? = some z) (hx : Loc X.env.scope x) (hy : Loc X.env.scope y) (hz : Loc X.env.scope z)
    (fx : X.fn x = true ∨ X.env.scope.names.lookup x = some .local) (fy : X.fn y = true ∨ X.env.scope.names.lookup y = some .local) (fz : X.fn z = true ∨ X.env.scope.names.lookup z = some .local)
    (h1 : (assignEach [.Name x px, .Name y py, .Name z pz] X.env).length = 3) (h2 : (assignEach [.Name x px, .Name y py, .Name z pz] X.env).findIdx? (·.1) = none)
    (a1 : AE X (.Name x px) [.Name y py, .Name z pz]) (a2 : AE X (.Name y py) [.Name z pz]) (a3 : AE X (.Name z pz) []) : PG X (.Tuple [.Name x px, .Name y py, .Name z pz] kk pt) ((Tg.many [i, j, k]).g X.K) :=
  pg_tup hc (pgs_cons (pg_name (hXN ▸ S0.nd) hi hx fx) (pgs_cons (pg_name (hXN ▸ S0.nd) hj hy fy) (pgs_cons (pg_name (hXN ▸ S0.nd) hk hz fz) pgs_nil a3) a2) a1) h1 h2
theorem pg4 (i j k l : Nat) (S0 : FnScope N ps sc) (hXN : X.N = N) (hc : X.calm = true) (hi : X.N[i]? = some x) (hj : X.N[j]? = some y) (hk : X.N[k]? = some z) (hl : X.N[l]? = some u) (hx : Loc X.env.scope x) (hy : Loc X.env.scope y) (hz : Loc X.env.scope z) (hu : Loc X.env.scope u)
    (fx : X.fn x = true ∨ X.env.scope.names.lookup x = some .local) (fy : X.fn y = true ∨ X.env.scope.names.lookup y = some .local) (fz : X.fn z = true ∨ X.env.scope.names.lookup z = some .local) (fu : X.fn u = true ∨ X.env.scope.names.lookup u = some .local)
    (h1 : (assignEach [.Name x px, .Name y py, .Name z pz, .Name u pu] X.env).length = 4) (h2 : (assignEach [.Name x px, .Name y py, .Name z pz, .Name u pu] X.env).findIdx? (·.1) = none)
    (a1 : AE X (.Name x px) [.Name y py, .Name z pz, .Name u pu]) (a2 : AE X (.Name y py) [.Name z pz, .Name u pu]) (a3 : AE X (.Name z pz) [.Name u pu]) (a4 : AE X (.Name u pu) []) : PG X (.Tuple [.Name x px, .Name y py, .Name z pz, .Name u pu] kk pt) ((Tg.many [i, j, k, l]).g X.K) :=
  pg_tup hc (pgs_cons (pg_name (hXN ▸ S0.nd) hi hx fx) (pgs_cons (pg_name (hXN ▸ S0.nd) hj hy fy) (pgs_cons (pg_name (hXN ▸ S0.nd) hk hz fz) (pgs_cons (pg_name (hXN ▸ S0.nd) hl hu fu) pgs_nil a4) a3) a2) a1) h1 h2
theorem for3 (i j k : Nat) {body : List Stmt} (S0 : FnScope N ps sc) (h : WI false X (.Tuple [.Name x px, .Name y py, .Name z pz] kk pt) iter ρ fun ds ρ1 => ∃ I : Nat → Rho → Prop, I 0 ρ1 ∧ (∀ m d ρi, ds[m]? = some d → I m ρi → ∃ a b c, d = .tup [a, b, c] ∧ WSs X body (((ρi.set i (.val a)).set j (.val b)).set k (.val c)) { E with nx := I (m + 1), ct := I (m + 1), bk := E.nx }) ∧ ∀ ρn, I ds.length ρn → E.nx ρn)
    (hp : PassesOwn (model X.prog X.w) X.A X.env X.xe := by exact PassesOwn.never) (hXN : X.N = N := by rfl) (hc : X.calm = true := by rfl) (hi : X.N[i]? = some x := by rfl) (hj : X.N[j]? = some y := by rfl) (hk : X.N[k]? = some z := by rfl)
    (hx : Loc X.env.scope x := by first | exact .inl rfl | exact .inr rfl) (hy : Loc X.env.scope y := by first | exact .inl rfl | exact .inr rfl) (hz : Loc X.env.scope z := by first | exact .inl rfl | exact .inr rfl)
    (fx : X.fn x = true ∨ X.env.scope.names.lookup x = some .local := by first | exact .inl rfl | exact .inr rfl) (fy : X.fn y = true ∨ X.env.scope.names.lookup y = some .local := by first | exact .inl rfl | exact .inr rfl) (fz : X.fn z = true ∨ X.env.scope.names.lookup z = some .local := by first | exact .inl rfl | exact .inr rfl)
    (h1 : (assignEach [.Name x px, .Name y py, .Name z pz] X.env).length = 3 := by rfl) (h2 : (assignEach [.Name x px, .Name y py, .Name z pz] X.env).findIdx? (·.1) = none := by rfl)
    (a1 : AE X (.Name x px) [.Name y py, .Name z pz] := by rfl) (a2 : AE X (.Name y py) [.Name z pz] := by rfl) (a3 : AE X (.Name z pz) [] := by rfl) (hs : ∀ x, foldedSetIterable iter X.env x = pure x := by intro _; rfl) : WS X (.For (.Tuple [.Name x px, .Name y py, .Name z pz] kk pt) iter body [] pos) ρ E :=
  s_for (T := .many [i, j, k]) hp hc (pg3 i j k S0 hXN hc hi hj hk hx hy hz fx fy fz h1 h2 a1 a2 a3) hs fun B σ G H S R r => h B σ G H S R fun J ds ρ1 G1 H1 q S1 y pu wk => r J ds ρ1 G1 H1 (by
    obtain ⟨I, i0, st, fin⟩ := q
    exact ⟨I, i0, fun m d ρi hd hI => by
      obtain ⟨a, b, c, rfl, z⟩ := st m d ρi hd hI
      exact ⟨_, rfl, z⟩, fin⟩) S1 y pu wk
theorem for4 (i j k l : Nat) {body : List Stmt} (S0 : FnScope N ps sc) (h : WI false X (.Tuple [.Name x px, .Name y py, .Name z pz, .Name u pu] kk pt) iter ρ fun ds ρ1 => ∃ I : Nat → Rho → Prop, I 0 ρ1 ∧ (∀ m d ρi, ds[m]? = some d → I m ρi → ∃ a b c e, d = .tup [a, b, c, e] ∧ WSs X body ((((ρi.set i (.val a)).set j (.val b)).set k (.val c)).set l (.val e)) { E with nx := I (m + 1), ct := I (m + 1), bk := E.nx }) ∧ ∀ ρn, I ds.length ρn → E.nx ρn)
    (hp : PassesOwn (model X.prog X.w) X.A X.env X.xe := by exact PassesOwn.never) (hXN : X.N = N := by rfl) (hc : X.calm = true := by rfl) (hi : X.N[i]? = some x := by rfl) (hj : X.N[j]? = some y := by rfl) (hk : X.N[k]? = some z := by rfl) (hl : X.N[l]? = some u := by rfl)
    (hx : Loc X.env.scope x := by first | exact .inl rfl | exact .inr rfl) (hy : Loc X.env.scope y := by first | exact .inl rfl | exact .inr rfl) (hz : Loc X.env.scope z := by first | exact .inl rfl | exact .inr rfl) (hu : Loc X.env.scope u := by first | exact .inl rfl | exact .inr rfl)
    (fx : X.fn x = true ∨ X.env.scope.names.lookup x = some .local := by first | exact .inl rfl | exact .inr rfl) (fy : X.fn y = true ∨ X.env.scope.names.lookup y = some .local := by first | exact .inl rfl | exact .inr rfl) (fz : X.fn z = true ∨ X.env.scope.names.lookup z = some .local := by first | exact .inl rfl | exact .inr rfl) (fu : X.fn u = true ∨ X.env.scope.names.lookup u = some .local := by first | exact .inl rfl | exact .inr rfl)
    (h1 : (assignEach [.Name x px, .Name y py, .Name z pz, .Name u pu] X.env).length = 4 := by rfl) (h2 : (assignEach [.Name x px, .Name y py, .Name z pz, .Name u pu] X.env).findIdx? (·.1) = none := by rfl)
    (a1 : AE X (.Name x px) [.Name y py, .Name z pz, .Name u pu] := by rfl) (a2 : AE X (.Name y py) [.Name z pz, .Name u pu] := by rfl) (a3 : AE X (.Name z pz) [.Name u pu] := by rfl) (a4 : AE X (.Name u pu) [] := by rfl) (hs : ∀ x, foldedSetIterable iter X.env x = pure x := by intro _; rfl) : WS X (.For (.Tuple [.Name x px, .Name y py, .Name z pz, .Name u pu] kk pt) iter body [] pos) ρ E :=
  s_for (T := .many [i, j, k, l]) hp hc (pg4 i j k l S0 hXN hc hi hj hk hl hx hy hz hu fx fy fz fu h1 h2 a1 a2 a3 a4) hs fun B σ G H S R r => h B σ G H S R fun J ds ρ1 G1 H1 q S1 y pu wk => r J ds ρ1 G1 H1 (by
    obtain ⟨I, i0, st, fin⟩ := q
    exact ⟨I, i0, fun m d ρi hd hI => by
      obtain ⟨a, b, c, e, rfl, z⟩ := st m d ρi hd hI
      exact ⟨_, rfl, z⟩, fin⟩) S1 y pu wk
/-! ### [elt for x, y, z in iter] -/
abbrev P3 (p : Bool) (X : Cx) (scope : Scope) (i j k : Nat) (x y z : Str) (px py pz pt : Pos) (kk : Nat) (iter elt : Expr) (f : D → D) (ρ : Rho) (Q : D → Rho → Prop) : Prop :=
  WI p X (.Tuple [.Name x px, .Name y py, .Name z pz] kk pt) iter ρ fun ds ρ1 => ds.length ≤ 40000 ∧ (∀ d ∈ ds, ∃ a b c, d = .tup [a, b, c] ∧ ∀ s H C cl fp, W true true (Blk X scope s H C cl fp) elt ((((((ρ1.set k .un).set j .un).set i .un).set i (.val a)).set j (.val b)).set k (.val c)) fun y _ => y = f d) ∧ Q (.lst (ds.map f)) ρ1
abbrev Thr (X : Cx) (scope : Scope) (x y z : Str) (px py pz : Pos) : Prop := ∀ s H C cl fp, (assignEach [.Name x px, .Name y py, .Name z pz] (Blk X scope s H C cl fp).env).length = 3 ∧ (assignEach [.Name x px, .Name y py, .Name z pz] (Blk X scope s H C cl fp).env).findIdx? (·.1) = none ∧
  AE (Blk X scope s H C cl fp) (.Name x px) [.Name y py, .Name z pz] ∧ AE (Blk X scope s H C cl fp) (.Name y py) [.Name z pz] ∧ AE (Blk X scope s H C cl fp) (.Name z pz) []
theorem x3 {i j k : Nat} {f : D → D} (h : P3 p X scope i j k x y z px py pz pt kk iter elt f ρ Q) : WX p g (tLc (wI X (.Tuple [.Name x px, .Name y py, .Name z pz] kk pt) iter) ((Tg.many [i, j, k]).g X.K) tYes (cE X scope elt) [i, j, k]) ρ Q :=
  x_lc (T := .many [i, j, k]) (own := [(x, i), (y, j), (z, k)]) f (fun m hm => hm) fun B σ G H S R r => h B σ G H S R fun J ds ρ1 G1 H1 q S1 y pu wk => r J ds ρ1 G1 H1 ⟨q.1, fun d hd => by
    obtain ⟨a, b, c, rfl, h⟩ := q.2.1 d hd
    exact ⟨_, rfl, h⟩, q.2.2⟩ S1 y pu wk
theorem lc3 (i j k : Nat) (f : D → D) (S0 : FnScope N ps sc) (h : P3 p X scope i j k x y z px py pz pt kk iter elt f ρ Q) (hXN : X.N = N := by rfl) (hbk : blkC X.N X.env.scope scope [(x, i), (y, j), (z, k)] = true := by kernel_rfl) (hi : X.N[i]? = some x := by rfl) (hj : X.N[j]? = some y := by rfl) (hk : X.N[k]? = some z := by rfl)
    (hl : Loc1 X scope x := by intro _ _ _ _ _; first | exact ⟨.inl rfl, .inr rfl⟩ | exact ⟨.inr rfl, .inl rfl⟩) (hl2 : Loc1 X scope y := by intro _ _ _ _ _; first | exact ⟨.inl rfl, .inr rfl⟩ | exact ⟨.inr rfl, .inl rfl⟩) (hl3 : Loc1 X scope z := by intro _ _ _ _ _; first | exact ⟨.inl rfl, .inr rfl⟩ | exact ⟨.inr rfl, .inl rfl⟩)
    (h2 : Thr X scope x y z px py pz := by intro _ _ _ _ _; exact ⟨rfl, rfl, rfl, rfl, rfl⟩) (hc : X.calm = true := by rfl) (hs : ∀ x, foldedSetIterable iter X.env x = pure x := by intro _; rfl) : W p g X (.ListComp elt [⟨.Tuple [.Name x px, .Name y py, .Name z pz] kk pt, iter, [], 0⟩] scope pos) ρ Q :=
  WX.w (pe_lc (own := [(x, i), (y, j), (z, k)]) hc (hXN ▸ S0.nd) pi_w (blkOk_by hbk) (fun s H C cl fp => pg3 (X := Blk X scope s H C cl fp) i j k S0 hXN hc hi hj hk (hl s H C cl fp).1 (hl2 s H C cl fp).1 (hl3 s H C cl fp).1 (hl s H C cl fp).2 (hl2 s H C cl fp).2 (hl3 s H C cl fp).2 (h2 s H C cl fp).1 (h2 s H C cl fp).2.1 (h2 s H C cl fp).2.2.1 (h2 s H C cl fp).2.2.2.1 (h2 s H C cl fp).2.2.2.2) (fun _ _ _ _ _ => pts_nil) pe_c hs) (x3 h)
theorem s_lc3 (m i j k : Nat) (f : D → D) {w0 : Str} {pw spos : Pos} (S0 : FnScope N ps sc) (h : P3 false X scope i j k x y z px py pz pt kk iter elt f ρ fun d ρ' => E.nx (ρ'.set m (.val d))) (hXN : X.N = N := by rfl) (hbk : blkC X.N X.env.scope scope [(x, i), (y, j), (z, k)] = true := by kernel_rfl) (hi : X.N[i]? = some x := by rfl) (hj : X.N[j]? = some y := by rfl) (hk : X.N[k]? = some z := by rfl)
    (hl : Loc1 X scope x := by intro _ _ _ _ _; first | exact ⟨.inl rfl, .inr rfl⟩ | exact ⟨.inr rfl, .inl rfl⟩) (hl2 : Loc1 X scope y := by intro _ _ _ _ _; first | exact ⟨.inl rfl, .inr rfl⟩ | exact ⟨.inr rfl, .inl rfl⟩) (hl3 : Loc1 X scope z := by intro _ _ _ _ _; first | exact ⟨.inl rfl, .inr rfl⟩ | exact ⟨.inr rfl, .inl rfl⟩)
    (h2 : Thr X scope x y z px py pz := by intro _ _ _ _ _; exact ⟨rfl, rfl, rfl, rfl, rfl⟩) (hc : X.calm = true := by rfl) (hs : ∀ x, foldedSetIterable iter X.env x = pure x := by intro _; rfl) (hz : X.N[m]? = some w0 := by rfl) (hzl : X.env.scope.names.lookup w0 = some .local := by rfl)
    (hsw : swapsWith (.ListComp elt [⟨.Tuple [.Name x px, .Name y py, .Name z pz] kk pt, iter, [], 0⟩] scope pos) (some (.Name w0 pw)) spos.line X.env = pure true := by exact sw_true rfl rfl rfl (by decide +kernel)) :
    WS X (.Assign [.Name w0 pw] (.ListComp elt [⟨.Tuple [.Name x px, .Name y py, .Name z pz] kk pt, iter, [], 0⟩] scope pos) spos) ρ E :=
  s_setX (ps_setLc (own := [(x, i), (y, j), (z, k)]) hc (hXN ▸ S0.nd) hz hzl hsw pi_w (blkOk_by hbk) (fun s H C cl fp => pg3 (X := Blk X scope s H C cl fp) i j k S0 hXN hc hi hj hk (hl s H C cl fp).1 (hl2 s H C cl fp).1 (hl3 s H C cl fp).1 (hl s H C cl fp).2 (hl2 s H C cl fp).2 (hl3 s H C cl fp).2 (h2 s H C cl fp).1 (h2 s H C cl fp).2.1 (h2 s H C cl fp).2.2.1 (h2 s H C cl fp).2.2.2.1 (h2 s H C cl fp).2.2.2.2) (fun _ _ _ _ _ => pts_nil) pe_c hs) (x3 h)
/-! ### a, b, c = e, f, g; a, b = f(..) -/
theorem s_par3 {i j k : Nat} {a b c : Expr} {kt k2 pt2} (S0 : FnScope N ps sc) (hij : i ≠ j) (hik : i ≠ k) (hjk : j ≠ k)
    (h : WA false true X [a, b, c] ρ fun ds ρ' => ∃ d e f, ds = [d, e, f] ∧ E.nx (((ρ'.set i (.val d)).set j (.val e)).set k (.val f))) (hXN : X.N = N := by rfl) (hc : X.calm = true := by rfl) (hi : X.N[i]? = some x := by rfl) (hj : X.N[j]? = some y := by rfl) (hk : X.N[k]? = some z := by rfl)
    (hx : X.env.scope.names.lookup x = some .local := by rfl) (hy : X.env.scope.names.lookup y = some .local := by rfl) (hz : X.env.scope.names.lookup z = some .local := by rfl)
    (hw : swappedStores [.Tuple [.Name x px, .Name y py, .Name z pz] kt pt] (.Tuple [a, b, c] k2 pt2) X.env = pure (some [x, y, z]) := by rfl)
    (hs : swapsWithSole [.Tuple [.Name x px, .Name y py, .Name z pz] kt pt] (.Tuple [a, b, c] k2 pt2) pos.line X.env = pure false := by rfl) :
    WS X (.Assign [.Tuple [.Name x px, .Name y py, .Name z pz] kt pt] (.Tuple [a, b, c] k2 pt2) pos) ρ E := fun B σ G H F S L => by
  refine wS_of (ps_par3 hc (hXN ▸ S0.nd) hi hj hk hij hik hjk hx hy hz pa_w hw hs) ?_
  refine h B σ G H S _ fun vs ds ρ' G' H' q S' y pu iv => ?_
  obtain ⟨d, e, f, rfl, q⟩ := q
  obtain ⟨v1, r1, rfl, i1, v2, r2, rfl, i2, v3, r3, rfl, i3, e⟩ := iv
  cases e
  exact ⟨v1, v2, v3, rfl, L.nx _ _ G' H' q (((S'.set i1).set i2).set i3) y⟩
theorem s_unp2 (i j : Nat) {e : Expr} (S0 : FnScope N ps sc) (h : W false true X e ρ fun d ρ' => ∃ a b, d = .tup [a, b] ∧ E.nx ((ρ'.set i (.val a)).set j (.val b))) (hXN : X.N = N := by rfl) (hc : X.calm = true := by rfl) (hi : X.N[i]? = some x := by rfl) (hj : X.N[j]? = some y := by rfl)
    (hx : Loc X.env.scope x := by first | exact .inl rfl | exact .inr rfl) (hy : Loc X.env.scope y := by first | exact .inl rfl | exact .inr rfl) (hf : X.fn x = true ∨ X.env.scope.names.lookup x = some .local := by first | exact .inl rfl | exact .inr rfl) (hf2 : X.fn y = true ∨ X.env.scope.names.lookup y = some .local := by first | exact .inl rfl | exact .inr rfl)
    (h1 : (assignEach [.Name x px, .Name y py] X.env).length = 2 := by rfl) (h2 : (assignEach [.Name x px, .Name y py] X.env).findIdx? (·.1) = none := by rfl) (h3 : AE X (.Name x px) [.Name y py] := by rfl) (h4 : AE X (.Name y py) [] := by rfl)
    (hs : swapsWithSole [.Tuple [.Name x px, .Name y py] kk pt] e pos.line X.env = pure false := by rfl) (hw : swappedStores [.Tuple [.Name x px, .Name y py] kk pt] e X.env = pure none := by rfl)
    (h5 : (assignEach [.Tuple [.Name x px, .Name y py] kk pt] X.env).map (·.2) = [assign (.Tuple [.Name x px, .Name y py] kk pt) X.env] := by rfl) : WS X (.Assign [.Tuple [.Name x px, .Name y py] kk pt] e pos) ρ E := fun B σ G H F S L => by
  refine wS_of (ps_asg pe_w (pg_tup hc (pgs_cons (pg_name (hXN ▸ S0.nd) hi hx hf) (pgs_cons (pg_name (hXN ▸ S0.nd) hj hy hf2) pgs_nil h4) h3) h1 h2) hs hw h5) ?_
  refine h B σ G H S _ fun v d ρ' G' H' q S' y pu iv => ?_
  obtain ⟨a, b, rfl, q⟩ := q
  obtain ⟨l, xs, rfl, e2, e3⟩ := iv
  obtain ⟨w1, w2, rfl, f1, f2⟩ := isA_two e3
  exact ⟨l, _, rfl, .inl (.inl (S'.ex _ _ e2)), rfl, w1, [w2], rfl, w2, [], rfl, rfl, L.nx _ _ G' H' q ((S'.set f1).set f2) y⟩
end
end DD

namespace DD
open PySem PySem.Spec PyProof.Rows L2
section
variable {p g : Bool} {X : Cx} {ρ : Rho} {Q : D → Rho → Prop} {E : DE} {pos : Pos} {scope : Scope} {N ps : List Str} {sc : Scope} {x y z u : Str} {px py pz pu pt : Pos} {kk : Nat} {iter elt : Expr}
/-! ### a def whose value is a new thing -/
def spN (c : List D → (D → Prop) → Prop) : Sp := fun vs H Q _ => ∃ (G : Hp) (ds : List D) (Z : D → Prop), Ex G H ∧ IsA G ds vs ∧ c ds Z ∧ ∀ v d G' H', Z d → Grow G H G' H' → Is G' d v → Fh H v → Q v H'
def WNw (X : Cx) (e : Expr) (ρ : Rho) (Z : D → Prop) : Prop := ∀ (B : Base) (σ : L2.St) (G H : Hp), Sta B σ ρ G H → ∀ R : VK,
  (∀ v d ρ' G' H', Z d → Sta B σ ρ' G' H' → Ex G G' → Ex H H' → Is G' d v → Fh H v → R v H') → wE X e σ H R
def WSN (X : Cx) (st : List Stmt) (ρ : Rho) (Z : D → Prop) : Prop := ∀ (B : Base) (σ : L2.St) (G H : Hp) (F : Ends), B.W = [] → Sta B σ ρ G H →
  (∀ v d G' H', Z d → Fin B G' H' → Is G' d v → Fh B.H v → F.rt v H') → wSs X st F σ H
theorem wsn_cons {st : Stmt} {rest : List Stmt} {Z : D → Prop} (h : WS X st ρ { nx := fun ρ' => WSN X rest ρ' Z, rt := fun _ => False }) : WSN X (st :: rest) ρ Z := fun B σ G H F hW S k =>
  wSs_of (pss_cons ps_w pss_w) (h B σ G H { F with nx := wSs X rest F } S ⟨fun σ' ρ' G' H' q S' _ => q B σ' G' H' F hW S' k, fun _ _ _ _ z => z.elim, fun _ _ _ _ z => z.elim, fun _ _ _ _ z => z.elim⟩)
theorem wsn_ret {e : Expr} {Z : D → Prop} (h : WNw X e ρ Z) : WSN X [.Return (some e) pos] ρ Z := fun B σ G H F hW S k => by
  refine wSs_of (pss_one (ps_ret pe_w)) ?_
  refine h B σ G H S _ fun v d ρ' G' H' q S' e1 e2 iv fv => k v d G' H' q S'.fin iv ?_
  obtain ⟨a, rfl, ha⟩ := fv
  exact ⟨a, rfl, S.kn a ha⟩
variable {P : Program} {w : World} {K : PySem.W.Frag} {mg : Str → Option Value} {base : Heap}
theorem fnN {qual : Str} {st : Stmt} {f : Addr} {fd : FuncData} {k : Nat} {c : List D → (D → Prop) → Prop} (F : Fun K x qual st f fd) (S : FnScope N ps (defScope st)) (len : ∀ ds Z, c ds Z → ds.length = ps.length)
    (h : ∀ (cdv : Value) (A : Around) (outer : List Env) (s : Shared) (H : Hp) (E : XK) (ds : List D) (Z : D → Prop), Room k (A.deeper (envOfC qual (defScope st) s.heap.objs.size f cdv)) → c ds Z →
      WSN (CxD P w K mg base N qual st f cdv A outer s H E) (defBody st) (rho0 N ds) Z) : FnOk P w K mg base CX0 (k + 1) f fd ps (spN c) := by
  refine F.ok S (fun vs H Q E hs => ?_) fun cdv A outer s H vs Q E hr hs => ?_
  · obtain ⟨G, ds, Z, _, i, hc, _⟩ := hs
    rw [i.length]
    exact len ds Z hc
  · obtain ⟨G, ds, Z, ex, i, hc, q⟩ := hs
    exact ⟨_, pss_w, h cdv A outer s H E ds Z hr hc ⟨H, G, [], 0⟩ _ G H _ rfl (sta_start ex i) fun v d G' H' z F iv fv => q v d G' H' z ⟨F.bg, fun a o e => F.fr a o e (by simp), F.ex, F.nw⟩ iv fv⟩
theorem Df.ofN {k : Nat} {c : List D → (D → Prop) → Prop} (F : Df P w K mg base k x ps (spN c)) : Df P w K mg base k x ps (spD c) := by
  obtain ⟨f, fd, F, r⟩ := F.ex
  exact ⟨f, fd, F.imp fun vs H Q E ⟨G, ds, Z, ex, i, hc, q⟩ => ⟨G, ds, Z, ex, i, hc, fun v d G' H' z gr iv _ => q v d G' H' z gr iv⟩, r⟩
theorem wn_call {k : Nat} {c : List D → (D → Prop) → Prop} {pp : Pos} {e : Expr} {es : List Expr} {Z : D → Prop} (F : Df X.prog X.w X.K X.mg X.base k x ps (spN c)) (hr : Room k X.A) (h : WA true true X (e :: es) ρ fun ds _ => c ds Z) (hg : Gl X x := by rfl) (hdb : (x == ("__debug__" : Str)) = false := by decide)
    (he : starEach (e :: es) X.env = (false, eval e X.env) :: starEach es X.env := by rfl) (hpl : (backTo pos (starEach es X.env)).any (·.1) = false := by rfl) : WNw X (.Call (.Name x pp) (e :: es) [] pos) ρ Z := fun B σ G H S R r => by
  obtain ⟨f, fd, F, hm, hk, hb⟩ := F.ex
  refine wE_of (pe_call F hr hg hm hk hb .nil pass0 pa_w hdb he hpl) ?_
  refine h B σ G H S _ fun vs ds ρ' G' H' q S' y pu i => ?_
  obtain ⟨rfl, g0⟩ := pu rfl
  refine ⟨G', ds, Z, S'.ex, by rw [List.append_nil]; exact i, q, fun v d G2 H2 z gr iz fz => ?_⟩
  exact r v d _ G2 H2 z (S'.grow gr) (y.trans gr.g) (g0.h.trans gr.h) iz (fz.back g0.h)
/-- f(..).append(None) -/
theorem s_appN {e : Expr} {Z : D → Prop} {j} {cp p2 p3 : Pos} (h : WNw X e ρ fun d => ∃ ds, d = .lst ds ∧ ds.length < 1000000) (hp : ∀ (B : Base) (σ : L2.St) (G H : Hp), Sta B σ ρ G H → True) (q : E.nx ρ)
    (hbase : attributeBase e "append" X.env (eval e X.env) = eval e X.env := by rfl)
    (hfew : ((backTo p3 (starEach [.Constant .none j cp] X.env)).all (fun x => !x.1) && (backToKw p3 (keywordEach [] X.env)).all (fun x => x.1.isSome)
      && decide (([.Constant .none j cp] : List Expr).length + ([] : List Keyword).length + (if ([] : List Keyword).isEmpty then 0 else 1) < 30)) = true := by rfl)
    (hline : (p2.endLine == p3.line) = true := by rfl) (hst : starEach [.Constant .none j cp] X.env = (false, eval (.Constant .none j cp) X.env) :: starEach [] X.env := by rfl) (hplain : (backTo p3 (starEach [] X.env)).any (·.1) = false := by rfl)
    (hs : swapsWith (.Call (.Attribute e "append" p2) [.Constant .none j cp] [] p3) none pos.line X.env = pure false := by rfl) : WS X (.Expr (.Call (.Attribute e "append" p2) [.Constant .none j cp] [] p3) pos) ρ E := fun B σ G H F S L => by
  refine wS_of (ps_expr (pe_bm PySem.F.plainAttrs_list PySem.F.slot_list_append PySem.F.type_list_append mt_append pe_w (pa_cons pe_non pa_nil hst) hbase hfew hline hst hplain) hs) ?_
  refine h B σ G H S _ fun v d ρ' G' H' q2 S' e1 e2 iv fv => ?_
  obtain ⟨ds, rfl, hz⟩ := q2
  obtain ⟨a, rfl, ha⟩ := fv
  obtain ⟨b, xs, e, f2, f3⟩ := iv
  cases e
  have hH := S'.ex _ _ f2
  refine ⟨.inl ⟨rfl, xs, .inl (.inl hH)⟩, ?_⟩
  refine ⟨a, xs, .non, rfl, rfl, hH, by rw [f3.length]; exact Nat.lt_trans hz (by decide), ?_⟩
  have ne : ∀ b o, H b = some o → b ≠ a := fun b o hb => by rintro rfl; rw [ha] at hb; cases hb
  have gr : Grow G H G (L2.upd H' a (.lst (xs ++ [.non]))) := ⟨Ex.refl _, fun b o hb => by
    rw [upd_ne (ne b o hb)]; exact e2 b o hb, fun b o hb => by
    have hb := S.ex b o hb
    rw [upd_ne (ne b o hb)]; exact e2 b o hb, fun b o hb => .inl hb⟩
  exact L.nx σ ρ G _ q (S.grow gr) (Ex.refl G)
/-! ### [elt for x, y, z, u in iter], new -/
abbrev Fou (X : Cx) (scope : Scope) (x y z u : Str) (px py pz pu : Pos) : Prop := ∀ s H C cl fp, (assignEach [.Name x px, .Name y py, .Name z pz, .Name u pu] (Blk X scope s H C cl fp).env).length = 4 ∧ (assignEach [.Name x px, .Name y py, .Name z pz, .Name u pu] (Blk X scope s H C cl fp).env).findIdx? (·.1) = none ∧
  AE (Blk X scope s H C cl fp) (.Name x px) [.Name y py, .Name z pz, .Name u pu] ∧ AE (Blk X scope s H C cl fp) (.Name y py) [.Name z pz, .Name u pu] ∧ AE (Blk X scope s H C cl fp) (.Name z pz) [.Name u pu] ∧ AE (Blk X scope s H C cl fp) (.Name u pu) []
theorem wn_lc4 (i j k l : Nat) (f : D → D) {Z : D → Prop} (S0 : FnScope N ps sc)
    (h : WI true X (.Tuple [.Name x px, .Name y py, .Name z pz, .Name u pu] kk pt) iter ρ fun ds ρ1 => ds.length ≤ 40000 ∧ (∀ d ∈ ds, ∃ a b c e, d = .tup [a, b, c, e] ∧ ∀ s H C cl fp, W true true (Blk X scope s H C cl fp) elt ((((((((ρ1.set l .un).set k .un).set j .un).set i .un).set i (.val a)).set j (.val b)).set k (.val c)).set l (.val e)) fun y _ => y = f d) ∧ Z (.lst (ds.map f)))
    (hXN : X.N = N := by rfl) (hbk : blkC X.N X.env.scope scope [(x, i), (y, j), (z, k), (u, l)] = true := by kernel_rfl) (hi : X.N[i]? = some x := by rfl) (hj : X.N[j]? = some y := by rfl) (hk : X.N[k]? = some z := by rfl) (hu : X.N[l]? = some u := by rfl)
    (hl : Loc1 X scope x := by intro _ _ _ _ _; first | exact ⟨.inl rfl, .inr rfl⟩ | exact ⟨.inr rfl, .inl rfl⟩) (hl2 : Loc1 X scope y := by intro _ _ _ _ _; first | exact ⟨.inl rfl, .inr rfl⟩ | exact ⟨.inr rfl, .inl rfl⟩) (hl3 : Loc1 X scope z := by intro _ _ _ _ _; first | exact ⟨.inl rfl, .inr rfl⟩ | exact ⟨.inr rfl, .inl rfl⟩) (hl4 : Loc1 X scope u := by intro _ _ _ _ _; first | exact ⟨.inl rfl, .inr rfl⟩ | exact ⟨.inr rfl, .inl rfl⟩)
    (h2 : Fou X scope x y z u px py pz pu := by intro _ _ _ _ _; exact ⟨rfl, rfl, rfl, rfl, rfl, rfl⟩) (hc : X.calm = true := by rfl) (hs : ∀ x, foldedSetIterable iter X.env x = pure x := by intro _; rfl) : WNw X (.ListComp elt [⟨.Tuple [.Name x px, .Name y py, .Name z pz, .Name u pu] kk pt, iter, [], 0⟩] scope pos) ρ Z := fun B σ G H S R r => by
  have pe : PE X (.ListComp elt [⟨.Tuple [.Name x px, .Name y py, .Name z pz, .Name u pu] kk pt, iter, [], 0⟩] scope pos) (tLc (wI X (.Tuple [.Name x px, .Name y py, .Name z pz, .Name u pu] kk pt) iter) ((Tg.many [i, j, k, l]).g X.K) tYes (cE X scope elt) [i, j, k, l]) := (pe_lc (own := [(x, i), (y, j), (z, k), (u, l)]) hc (hXN ▸ S0.nd) pi_w (blkOk_by hbk) (fun s H C cl fp => pg4 (X := Blk X scope s H C cl fp) i j k l S0 hXN hc hi hj hk hu (hl s H C cl fp).1 (hl2 s H C cl fp).1 (hl3 s H C cl fp).1 (hl4 s H C cl fp).1 (hl s H C cl fp).2 (hl2 s H C cl fp).2 (hl3 s H C cl fp).2 (hl4 s H C cl fp).2 (h2 s H C cl fp).1 (h2 s H C cl fp).2.1 (h2 s H C cl fp).2.2.1 (h2 s H C cl fp).2.2.2.1 (h2 s H C cl fp).2.2.2.2.1 (h2 s H C cl fp).2.2.2.2.2) (fun _ _ _ _ _ => pts_nil) pe_c hs)
  refine wE_of pe ?_
  refine h B σ G H S _ fun J ds ρ1 G1 H1 q S1 y pu wk D hD => ?_
  obtain ⟨rfl, g0⟩ := pu rfl
  obtain ⟨hlen, turn, q⟩ := q
  have main := lc_go (X := X) (T := .many [i, j, k, l]) (tt := tYes) (te := cE X scope elt) (vs := [i, j, k, l]) (Qd := fun v H' => v = .ref D → R v H') S1 wk (fun m hm => hm) (fun _ => true) f hlen (fun d hd => ?_) (fun a G' H' gr iv => ?_) D hD
  · obtain ⟨W, w0, ws⟩ := main
    exact ⟨W, w0, fun i m H hw => (ws i m H hw).imp (fun ⟨st, k⟩ => ⟨st, k rfl⟩) id⟩
  · obtain ⟨a, b, c, e, rfl, he⟩ := turn d hd
    refine ⟨_, rfl, fun σ' G2 H2 S2 R2 r2 => r2 G2 H2 S2 (Grow.refl S2.ex), fun _ σ' G2 H2 S2 R2 r2 s H0 C cl fp => ?_⟩
    refine he s H0 C cl fp B σ' G2 H2 S2 R2 fun v y ρ3 G3 H3 ey S3 x3 p3 i3 => ?_
    subst ey
    have e3 := (p3 rfl).1
    subst e3
    exact r2 v G3 H3 S3 (p3 rfl).2 i3
  · intro ea
    cases ea
    have e : ds.filter (fun _ => true) = ds := List.filter_eq_self.mpr fun _ _ => rfl
    rw [e] at iv
    have fresh : H D = none := by
      cases r0 : H D with
      | none => rfl
      | some o => rw [g0.h D o r0] at hD; cases hD
    exact r _ _ _ G' H' q (S1.grow gr) (g0.g.trans gr.g) (g0.h.trans gr.h) iv ⟨D, rfl, fresh⟩
/-! ### three keywords, from the last parameter on -/
def revK {α : Type} (n : Nat) : List α → List α → List α
  | [], ws => ws.reverse
  | u :: _, _ => List.replicate (n + 1) u
theorem Vals.snoc {vs : List V} {us : List Value} {v : V} {u : Value} (h : Vals vs us) (r : RelV v u) : Vals (vs ++ [v]) (us ++ [u]) := h.append (.cons r .nil)
theorem vals_rev {vs : List V} {us : List Value} (h : Vals vs us) : Vals vs.reverse us.reverse := by
  induction h with
  | nil => exact .nil
  | cons r _ ih =>
    rw [List.reverse_cons, List.reverse_cons]
    exact Vals.snoc ih r
theorem vals_revK {n : Nat} {vs zs : List V} {us ws : List Value} (h : Vals vs us) (h2 : Vals zs ws) : Vals (revK n vs zs) (revK n us ws) := by
  cases h with
  | nil => exact vals_rev h2
  | cons a _ =>
    show Vals (List.replicate (n + 1) _) (List.replicate (n + 1) _)
    induction n + 1 with
    | zero => exact .nil
    | succ m ih => exact .cons a ih
theorem isA_rev {H : Hp} : ∀ {ds : List D} {vs : List V}, IsA H ds vs → IsA H ds.reverse vs.reverse
  | [], _, h => by cases h; exact rfl
  | d :: ds, _, ⟨v, r, e1, e2, e3⟩ => by
    subst e1
    rw [List.reverse_cons, List.reverse_cons]
    exact (isA_rev e3).append (IsA.one e2)
structure DfR (P : Program) (w : World) (K : PySem.W.Frag) (mg : Str → Option Value) (base : Heap) (k : Nat) (x : Str) (ps : List Str) (sp : Sp) : Prop where
  ex : ∃ f fd, FnOk P w K mg base CX0 k f fd ps sp ∧ mg x = some (.ref f) ∧ PySem.W.keepIn K (.ref f) = true ∧ KBinds K fd ps ps.reverse (revK ps.length) (revK ps.length)
theorem callRv {k : Nat} {c : List D → (D → Prop) → Prop} {pp : Pos} {kws : List Keyword} (F : DfR X.prog X.w X.K X.mg X.base k x ps (spD c)) (hr : Room k X.A)
    (h : WK p true X kws ρ fun ds ρ' => c ds.reverse fun d => Q d ρ') (hg : Gl X x := by rfl) (hdb : (x == ("__debug__" : Str)) = false := by decide)
    (hall : (backToKw pos (keywordEach kws X.env)).all (·.1.isSome) = true := by rfl) (hks : (backToKw pos (keywordEach kws X.env)).filterMap (·.1) = ps.reverse := by rfl)
    (hpl : ((backTo pos (starEach [] X.env)).any (·.1) || (backToKw pos (keywordEach kws X.env)).any (·.1.isNone)) = false := by rfl) : W p g X (.Call (.Name x pp) [] kws pos) ρ Q := by
  obtain ⟨f, fd, F, hm, hk, hb⟩ := F.ex
  exact w_callK0 (gD := List.reverse) F hr hm hk hb (fun _ _ _ h => isA_rev h) h hg hdb hall hks hpl
/-! ### sum(script[:n]) -/
theorem w_slScr {e : Expr} {lo hi : Option Expr} {p2 : Pos} (h : W p true X e ρ fun d ρ1 => ∃ ns : List Int, d = .scr X.K ns ∧ WO X lo ρ1 fun l => WO X hi ρ1 fun u => Q (.lst (cutD (ns.map D.int) l u)) ρ1) : W p g X (.Subscript e (.Slice lo hi none p2) pos) ρ Q := fun B σ G H S R r => by
  refine wE_of (pe_slice sl_list pe_w po_w po_w) ?_
  refine h B σ G H S _ fun v d ρ1 G1 H1 q S1 y pu i => ?_
  obtain ⟨ns, rfl, q⟩ := q
  refine wo_go q S1 fun l G2 H2 q2 S2 gr2 => ?_
  refine wo_go q2 S2 fun u G3 H3 q3 S3 gr3 => ?_
  obtain ⟨a, rfl, e2⟩ := Is.mono (gr2.g.trans gr3.g) _ _ i
  refine ⟨a, _, rfl, S3.ex.seq e2, fun b hb => ?_⟩
  have gr := Grow.new (o := .lst (cutV (ns.map V.int) l u)) S3.ex hb
  exact r _ (.lst (cutD (ns.map D.int) l u)) ρ1 _ _ q3 (S3.grow gr) (((y.trans gr2.g).trans gr3.g).trans gr.g) (fun z => ⟨(pu z).1, (((pu z).2.trans gr2).trans gr3).trans gr⟩) (is_h (S3.grow gr) ⟨b, _, rfl, upd_same, (IsA.of_ints (ns := ns)).cut l u⟩)
end
end DD

namespace DD
open PySem PySem.Spec PyProof.Rows L2
section
variable {X : Cx} {ρ : Rho} {pos : Pos}
/-- list(x), an own list -/
theorem f_list (i : Nat) {x : Str} {px pp : Pos} {ds : List D} {Q : Own → Rho → Prop} (hm : X.mg "list" = none) (hr : ρ[i]? = some (.val (.lst ds))) (q : Q (.lst ds) ρ) (hN : X.N[i]? = some x := by rfl) (hv : Vis X.env.scope x := by first | exact .inl rfl | exact .inr (.inl rfl) | exact .inr (.inr rfl)) (hd : (x == ("__debug__" : Str)) = false := by decide) (hcd : (x == ("__classdict__" : Str)) = false := by decide)
    (hg : Gl X "list" := by rfl) (he : starEach [.Name x px] X.env = (false, eval (.Name x px) X.env) :: starEach [] X.env := by rfl) (hpl : (backTo pos (starEach [] X.env)).any (·.1) = false := by rfl) : WF X (.Call (.Name "list" pp) [.Name x px] [] pos) ρ Q := fun B σ G H S R r => by
  refine wE_of (pe_callTy call_any hg hm (T := "list") (by decide +kernel) (pa_cons (pe_var hN hv hd hcd) pa_nil he) (by decide) (by decide) he hpl) ?_
  obtain ⟨v, e1, iv⟩ := S.valAt hr
  obtain ⟨a, xs, rfl, e2, e3⟩ := iv
  refine ⟨_, e1, ⟨_, call_list_of, a, xs, rfl, .inl (.inl (.inl (S.ex _ _ e2))), fun l hl => ?_⟩⟩
  obtain ⟨h1, h2, h3⟩ := new_own S hl
  exact r l (.lst ds) ρ G _ q (S.grow (Grow.own S.ex hl)) (Ex.refl G) h1 h2 h3 ⟨xs, upd_same, e3⟩
end
end DD

namespace DD
open PySem PySem.Spec PyProof.Rows L2
section
variable {p g : Bool} {X : Cx} {ρ : Rho} {Q : D → Rho → Prop} {pos : Pos} {scope : Scope} {N ps : List Str} {sc : Scope} {x y : Str} {px py pt : Pos} {kk : Nat} {iter elt c : Expr}
theorem lc2If (i j : Nat) (bt : D → Bool) (f : D → D) (S0 : FnScope N ps sc) (h : P2If p X scope i j x y px py pt kk iter elt c bt f ρ Q) (hXN : X.N = N := by rfl) (hbk : blkC X.N X.env.scope scope [(x, i), (y, j)] = true := by kernel_rfl) (hi : X.N[i]? = some x := by rfl) (hj : X.N[j]? = some y := by rfl)
    (hl : Loc1 X scope x := by intro _ _ _ _ _; first | exact ⟨.inl rfl, .inr rfl⟩ | exact ⟨.inr rfl, .inl rfl⟩) (hl2 : Loc1 X scope y := by intro _ _ _ _ _; first | exact ⟨.inl rfl, .inr rfl⟩ | exact ⟨.inr rfl, .inl rfl⟩) (h2 : Two X scope x y px py := by intro _ _ _ _ _; exact ⟨rfl, rfl, rfl, rfl⟩)
    (hc : X.calm = true := by rfl) (hs : ∀ x, foldedSetIterable iter X.env x = pure x := by intro _; rfl) :
    W p g X (.ListComp elt [⟨.Tuple [.Name x px, .Name y py] kk pt, iter, [c], 0⟩] scope pos) ρ Q :=
  WX.w (pe_lc (own := [(x, i), (y, j)]) hc (hXN ▸ S0.nd) pi_w (blkOk_by hbk) (pg2 S0 hXN hc hi hl hj hl2 h2) pt_c pe_c hs) (x2If h)
end
section
variable {p g : Bool} {X : Cx} {ρ : Rho} {Q : D → Rho → Prop} {pos pos2 pp pq : Pos} {x y : Str} {ps ps2 : List Str} {e : Expr} {es : List Expr}
/-- g(f(e, ..)): a new pot, handed on -/
theorem callNewP {c0 : List D → Prop} {c : List D → (D → Prop) → Prop} {k k2 : Nat} (Fp : Df X.prog X.w X.K X.mg X.base k2 y ps2 (spF c0)) (F : DfG X.prog X.w X.K X.mg X.base k x ps (spP c)) (hG : X.A.guards = some []) (hr : Room k X.A) (hr2 : Room k2 X.A)
    (h : WA true true X (e :: es) ρ fun ds _ => c0 ds ∧ c [] fun d => Q d ρ) (hg : Gl X x := by rfl) (hg2 : Gl X y := by rfl) (hdb : (x == ("__debug__" : Str)) = false := by decide) (hdb2 : (y == ("__debug__" : Str)) = false := by decide)
    (he : starEach [.Call (.Name y pq) (e :: es) [] pos2] X.env = (false, eval (.Call (.Name y pq) (e :: es) [] pos2) X.env) :: starEach [] X.env := by rfl) (hpl : (backTo pos (starEach [] X.env)).any (·.1) = false := by rfl)
    (he2 : starEach (e :: es) X.env = (false, eval e X.env) :: starEach es X.env := by rfl) (hpl2 : (backTo pos2 (starEach es X.env)).any (·.1) = false := by rfl) : W p g X (.Call (.Name x pp) [.Call (.Name y pq) (e :: es) [] pos2] [] pos) ρ Q := by
  obtain ⟨f, fd, F, hm, hk, hb⟩ := F.ex
  obtain ⟨f2, fd2, F2, hm2, hk2, hb2⟩ := Fp.ex
  intro B σ G H S R r
  refine wE_of (pe_callG F hG hr hg hm hk hb (pa_cons (pe_call F2 hr2 hg2 hm2 hk2 hb2 .nil pass0 pa_w hdb2 he2 hpl2) pa_nil he) hdb he hpl) ?_
  refine h B σ G H S _ fun vs ds ρ' G' H' q S' y pu i => ?_
  obtain ⟨rfl, g0⟩ := pu rfl
  refine ⟨G', ds, S'.ex, by rw [List.append_nil]; exact i, q.1, fun l a b H2 n ex z a0 b0 b1 => ?_⟩
  obtain ⟨h1, h2, h3⟩ := new_own S' n
  refine ⟨G', l, [], [], fun d => Q d ρ', by rw [List.append_nil], S'.ex.trans ex, h1, ⟨a, b, z, a0, b0, b1⟩, rfl, q.2, fun v d G3 H3 z3 gr iz => ?_⟩
  have g1 : Grow G' H' G3 H3 := ⟨gr.g, fun c o e => gr.h c o (ex c o e) (by rintro rfl; rw [n] at e; cases e), gr.x, fun c o e => by
    rcases gr.n c o e with a | a
    · exact .inl a
    · refine .inr ?_
      cases r0 : H' c with
      | none => rfl
      | some o => rw [ex c o r0] at a; cases a⟩
  exact r v d ρ' G3 H3 z3 (S'.grow g1) (y.trans g1.g) (fun w => ⟨rfl, g0.trans g1⟩) (is_h (S'.grow g1) iz)
end
end DD

namespace DD
open PySem PySem.Spec PyProof.Rows L2
section
variable {X : Cx} {ρ : Rho} {pos : Pos} {x : Str} {ps : List Str}
/-- a def whose result is new: what the caller may own -/
def spO (c : List D → (List D → Prop) → Prop) : Sp := fun vs H Q _ => ∃ (G : Hp) (ds : List D) (Z : List D → Prop), Ex G H ∧ IsA G ds vs ∧ c ds Z ∧ ∀ l es xs G' H', Z es → Ex G G' → Ex G' H' → Ex H H' → (∀ a o, G' a = some o → G a = some o ∨ H a = none) → G' l = none → H l = none → H' l = some (.lst xs) → IsA G' es xs → Q (.ref l) H'
/-- f(e, ..), an own list -/
theorem f_callO {c : List D → (List D → Prop) → Prop} {k : Nat} {pp : Pos} {e : Expr} {es : List Expr} {QO : Own → Rho → Prop} (F : Df X.prog X.w X.K X.mg X.base k x ps (spO c)) (hr : Room k X.A) (h : WA true true X (e :: es) ρ fun ds ρ' => c ds fun l => QO (.lst l) ρ') (hg : Gl X x := by rfl) (hdb : (x == ("__debug__" : Str)) = false := by decide)
    (he : starEach (e :: es) X.env = (false, eval e X.env) :: starEach es X.env := by rfl) (hpl : (backTo pos (starEach es X.env)).any (·.1) = false := by rfl) : WF X (.Call (.Name x pp) (e :: es) [] pos) ρ QO := fun B σ G H S R r => by
  obtain ⟨f, fd, F, hm, hk, hb⟩ := F.ex
  refine wE_of (pe_call F hr hg hm hk hb .nil pass0 pa_w hdb he hpl) ?_
  refine h B σ G H S _ fun vs ds ρ' G' H' q S' y pu i => ?_
  refine ⟨G', ds, fun l => QO (.lst l) ρ', S'.ex, by rw [List.append_nil]; exact i, q, fun l es xs G2 H2 z g1 g2 g3 g4 n1 n2 hl ia => ?_⟩
  obtain ⟨h1, h2, h3⟩ := new_own S' n2
  exact r l (.lst es) ρ' G2 H2 z (S'.grow ⟨g1, g3, g2, g4⟩) (y.trans g1) n1 h2 h3 ⟨xs, hl, ia⟩
def WSO (X : Cx) (st : List Stmt) (ρ : Rho) (Z : List D → Prop) : Prop := ∀ (B : Base) (σ : L2.St) (G H : Hp) (F : Ends), B.W = [] → Sta B σ ρ G H →
  (∀ l es xs G' H', Z es → Fin B G' H' → G' l = none → B.H l = none → H' l = some (.lst xs) → IsA G' es xs → F.rt (.ref l) H') → wSs X st F σ H
theorem wso_cons {st : Stmt} {rest : List Stmt} {Z : List D → Prop} (h : WS X st ρ { nx := fun ρ' => WSO X rest ρ' Z, rt := fun _ => False }) : WSO X (st :: rest) ρ Z := fun B σ G H F hW S k =>
  wSs_of (pss_cons ps_w pss_w) (h B σ G H { F with nx := wSs X rest F } S ⟨fun σ' ρ' G' H' q S' _ => q B σ' G' H' F hW S' k, fun _ _ _ _ z => z.elim, fun _ _ _ _ z => z.elim, fun _ _ _ _ z => z.elim⟩)
theorem wso_name (i : Nat) {y : Str} {p2 : Pos} {ds : List D} {Z : List D → Prop} (hr : ρ[i]? = some (.own true (.lst ds))) (q : Z ds) (hN : X.N[i]? = some y := by rfl) (hv : Vis X.env.scope y := by first | exact .inl rfl | exact .inr (.inl rfl) | exact .inr (.inr rfl))
    (hd : (y == ("__debug__" : Str)) = false := by decide) (hcd : (y == ("__classdict__" : Str)) = false := by decide) : WSO X [.Return (some (.Name y p2)) pos] ρ Z := fun B σ G H F hW S k => by
  refine wSs_of (pss_one (ps_ret pe_w)) (own_name hN hv hd hcd hr S fun l el ok => ?_)
  obtain ⟨l', el', gl, bl, xs, h1, h2⟩ := S.ownAt hr
  have : l' = l := by rw [el] at el'; cases el'; rfl
  subst this
  exact k _ ds xs G H q S.fin gl (by simpa using bl) h1 h2
variable {P : Program} {w : World} {K : PySem.W.Frag} {mg : Str → Option Value} {base : Heap}
theorem fnO {qual : Str} {st : Stmt} {f : Addr} {fd : FuncData} {N : List Str} {k : Nat} {c : List D → (List D → Prop) → Prop} (F : Fun K x qual st f fd) (S : FnScope N ps (defScope st)) (len : ∀ ds Z, c ds Z → ds.length = ps.length)
    (h : ∀ (cdv : Value) (A : Around) (outer : List Env) (s : Shared) (H : Hp) (E : XK) (ds : List D) (Z : List D → Prop), Room k (A.deeper (envOfC qual (defScope st) s.heap.objs.size f cdv)) → c ds Z →
      WSO (CxD P w K mg base N qual st f cdv A outer s H E) (defBody st) (rho0 N ds) Z) : FnOk P w K mg base CX0 (k + 1) f fd ps (spO c) := by
  refine F.ok S (fun vs H Q E hs => ?_) fun cdv A outer s H vs Q E hr hs => ?_
  · obtain ⟨G, ds, Z, _, i, hc, _⟩ := hs
    rw [i.length]
    exact len ds Z hc
  · obtain ⟨G, ds, Z, ex, i, hc, q⟩ := hs
    exact ⟨_, pss_w, h cdv A outer s H E ds Z hr hc ⟨H, G, [], 0⟩ _ G H _ rfl (sta_start ex i) fun l es xs G' H' z F n1 n2 hl ia => q l es xs G' H' z F.bg F.ex (fun a o e => F.fr a o e (by simp)) F.nw n1 n2 hl ia⟩
end
end DD

namespace DD
open PySem PySem.Spec PyProof.Rows L2
section
variable {X : Cx} {ρ : Rho} {E : DE} {pos : Pos} {N ps : List Str} {sc scope : Scope} {x y z u : Str} {px py pz pu pt p2 p3 : Pos} {kk : Nat} {iter elt : Expr}
/-! ### pairs whose second part is a new list -/
def Fh2 (G H : Hp) (v : V) : Prop := ∃ T x a ys, v = .ref T ∧ G T = some (.tup [x, .ref a]) ∧ G a = some (.lst ys) ∧ H a = none
def spT (c : List D → (D → Prop) → Prop) : Sp := fun vs H Q _ => ∃ (G : Hp) (ds : List D) (Z : D → Prop), Ex G H ∧ IsA G ds vs ∧ c ds Z ∧ ∀ v d G' H', Z d → Grow G H G' H' → Is G' d v → Fh2 G' H v → Q v H'
def WST (X : Cx) (st : List Stmt) (ρ : Rho) (Z : D → Prop) : Prop := ∀ (B : Base) (σ : L2.St) (G H : Hp) (F : Ends), B.W = [] → Sta B σ ρ G H →
  (∀ v d G' H', Z d → Fin B G' H' → Is G' d v → Fh2 G' B.H v → F.rt v H') → wSs X st F σ H
theorem wst_cons {st : Stmt} {rest : List Stmt} {Z : D → Prop} (h : WS X st ρ { nx := fun ρ' => WST X rest ρ' Z, rt := fun _ => False }) : WST X (st :: rest) ρ Z := fun B σ G H F hW S k =>
  wSs_of (pss_cons ps_w pss_w) (h B σ G H { F with nx := wSs X rest F } S ⟨fun σ' ρ' G' H' q S' _ => q B σ' G' H' F hW S' k, fun _ _ _ _ z => z.elim, fun _ _ _ _ z => z.elim, fun _ _ _ _ z => z.elim⟩)
/-- return (e1, e2), e2 new -/
theorem wst_ret {e1 e2 : Expr} {Z : D → Prop} (h : W true true X e1 ρ fun d1 ρ1 => WNw X e2 ρ1 fun d => ∃ l, d = .lst l ∧ Z (.tup [d1, .lst l]))
    (hs1 : starEach [e1, e2] X.env = (false, eval e1 X.env) :: starEach [e2] X.env := by rfl) (hs2 : starEach [e2] X.env = (false, eval e2 X.env) :: starEach [] X.env := by rfl) : WST X [.Return (some (.Tuple [e1, e2] kk p2)) pos] ρ Z := fun B σ G H F hW S k => by
  refine wSs_of (pss_one (ps_ret (pe_tup (pa_cons pe_w (pa_cons pe_w pa_nil hs2) hs1)))) ?_
  refine h B σ G H S _ fun v1 d1 ρ1 G1 H1 q1 S1 x1 pu i1 => ?_
  refine q1 B σ G1 H1 S1 _ fun v2 d2 ρ2 G2 H2 q2 S2 x2 y2 i2 fv => ?_
  obtain ⟨l, rfl, q⟩ := q2
  have i1 : Is G1 d1 v1 := i1
  obtain ⟨a, xs, rfl, e1, e2⟩ := i2
  obtain ⟨a', ea, ha⟩ := fv
  cases ea
  refine ⟨by show 2 ≤ sizeLine; decide, fun T hT => ?_⟩
  have gr := Grow.new (o := .tup [v1, .ref a]) S2.ex hT
  have S3 := S2.grow gr
  have ta : a ≠ T := by rintro rfl; rw [S2.ex _ _ e1] at hT; cases hT
  refine k _ _ _ _ q S3.fin ⟨T, [v1, .ref a], rfl, upd_same, v1, [.ref a], rfl, Is.mono (x2.trans gr.g) _ _ i1, .ref a, [], rfl, ⟨a, xs, rfl, gr.g _ _ e1, IsA.mono gr.g _ _ e2⟩, rfl⟩ ⟨T, v1, a, xs, rfl, upd_same, gr.g _ _ e1, S1.kn a ha⟩
/-- x, y = f(e, ..); return (e1, y), y new -/
theorem wst_unp {c : List D → (D → Prop) → Prop} {k : Nat} {f0 : Str} {pf pp pos1 p4 : Pos} {e e1 : Expr} {es : List Expr} {Z : D → Prop} (i j : Nat) (S0 : FnScope N ps sc) (hij : i ≠ j) {ps0 : List Str} (F : Df X.prog X.w X.K X.mg X.base k f0 ps0 (spT c)) (hr : Room k X.A)
    (h : WA true true X (e :: es) ρ fun ds _ => c ds fun d => ∃ a l, d = .tup [a, .lst l] ∧ W true true X e1 ((ρ.set i (.val a)).set j (.val (.lst l))) fun d1 _ => Z (.tup [d1, .lst l])) (hjρ : j < ρ.length)
    (hg : Gl X f0 := by rfl) (hdb : (f0 == ("__debug__" : Str)) = false := by decide)
    (he : starEach (e :: es) X.env = (false, eval e X.env) :: starEach es X.env := by rfl) (hpl : (backTo pp (starEach es X.env)).any (·.1) = false := by rfl)
    (hXN : X.N = N := by rfl) (hc : X.calm = true := by rfl) (hi : X.N[i]? = some x := by rfl) (hj : X.N[j]? = some y := by rfl)
    (hx : Loc X.env.scope x := by first | exact .inl rfl | exact .inr rfl) (hy : Loc X.env.scope y := by first | exact .inl rfl | exact .inr rfl) (hf : X.fn x = true ∨ X.env.scope.names.lookup x = some .local := by first | exact .inl rfl | exact .inr rfl) (hf2 : X.fn y = true ∨ X.env.scope.names.lookup y = some .local := by first | exact .inl rfl | exact .inr rfl)
    (h1 : (assignEach [.Name x px, .Name y py] X.env).length = 2 := by rfl) (h2 : (assignEach [.Name x px, .Name y py] X.env).findIdx? (·.1) = none := by rfl) (h3 : AE X (.Name x px) [.Name y py] := by rfl) (h4 : AE X (.Name y py) [] := by rfl)
    (hs : swapsWithSole [.Tuple [.Name x px, .Name y py] kk pt] (.Call (.Name f0 pf) (e :: es) [] pp) pos1.line X.env = pure false := by rfl) (hw : swappedStores [.Tuple [.Name x px, .Name y py] kk pt] (.Call (.Name f0 pf) (e :: es) [] pp) X.env = pure none := by rfl)
    (h5 : (assignEach [.Tuple [.Name x px, .Name y py] kk pt] X.env).map (·.2) = [assign (.Tuple [.Name x px, .Name y py] kk pt) X.env] := by rfl)
    (hv : Vis X.env.scope y := by first | exact .inl rfl | exact .inr (.inl rfl) | exact .inr (.inr rfl)) (hd : (y == ("__debug__" : Str)) = false := by decide) (hcd : (y == ("__classdict__" : Str)) = false := by decide)
    (hs1 : starEach [e1, .Name y p4] X.env = (false, eval e1 X.env) :: starEach [.Name y p4] X.env := by rfl) (hs2 : starEach [.Name y p4] X.env = (false, eval (.Name y p4) X.env) :: starEach [] X.env := by rfl) {k2 : Nat} :
    WST X [.Assign [.Tuple [.Name x px, .Name y py] kk pt] (.Call (.Name f0 pf) (e :: es) [] pp) pos1, .Return (some (.Tuple [e1, .Name y p4] k2 p2)) pos] ρ Z := fun B σ G H F2 hW S k0 => by
  obtain ⟨f, fd, F, hm, hk, hb⟩ := F.ex
  refine wSs_of (pss_cons (ps_asg (pe_call F hr hg hm hk hb .nil pass0 pa_w hdb he hpl) (pg_tup hc (pgs_cons (pg_name (hXN ▸ S0.nd) hi hx hf) (pgs_cons (pg_name (hXN ▸ S0.nd) hj hy hf2) pgs_nil h4) h3) h1 h2) hs hw h5) (pss_one (ps_ret (pe_tup (pa_cons pe_w (pa_cons (pe_var hj hv hd hcd) pa_nil hs2) hs1))))) ?_
  refine h B σ G H S _ fun vs ds ρ' G' H' q S' y0 pu ia => ?_
  obtain ⟨rfl, g0⟩ := pu rfl
  refine ⟨G', ds, _, S'.ex, by rw [List.append_nil]; exact ia, q, fun v d G2 H2 zd gr iz fz => ?_⟩
  obtain ⟨a, l, rfl, q2⟩ := zd
  obtain ⟨T, xs, rfl, f1, f2⟩ := iz
  obtain ⟨w1, w2, rfl, j1, j2⟩ := isA_two f2
  obtain ⟨T', x', b, ys, eT, g1, g2, g3⟩ := fz
  cases eT
  rw [f1] at g1
  cases g1
  have S2 := S'.grow gr
  refine ⟨T, _, rfl, .inl (.inl (S2.ex _ _ f1)), rfl, w1, [.ref b], rfl, .ref b, [], rfl, rfl, ?_⟩
  have S3 := (S2.set (i := i) j1).set (i := j) j2
  refine q2 B _ G2 H2 S3 _ fun v1 d1 ρ3 G3 H3 q3 S4 x3 pu3 i3 => ?_
  have i3 : Is G3 d1 v1 := i3
  have hjσ : j < (σ.set i (some w1)).length := by rw [List.length_set, S.len]; exact hjρ
  refine ⟨.ref b, List.getElem?_set_self hjσ, ?_⟩
  refine ⟨by show 2 ≤ sizeLine; decide, fun U hU => ?_⟩
  have gr4 := Grow.new (o := .tup [v1, .ref b]) S4.ex hU
  have S5 := S4.grow gr4
  have e3 := gr4.g _ _ (x3 _ _ g2)
  have i5 : Is (upd G3 U (.tup [v1, .ref b])) (.lst l) (.ref b) := Is.mono (x3.trans gr4.g) _ _ j2
  exact k0 _ _ _ _ q3 S5.fin ⟨U, [v1, .ref b], rfl, upd_same, v1, [.ref b], rfl, Is.mono gr4.g _ _ i3, .ref b, [], rfl, i5, rfl⟩ ⟨U, v1, b, ys, rfl, upd_same, e3, S'.kn b g3⟩
variable {P : Program} {w : World} {K : PySem.W.Frag} {mg : Str → Option Value} {base : Heap}
theorem fnT {qual : Str} {st : Stmt} {f : Addr} {fd : FuncData} {k : Nat} {c : List D → (D → Prop) → Prop} (F : Fun K x qual st f fd) (S : FnScope N ps (defScope st)) (len : ∀ ds Z, c ds Z → ds.length = ps.length)
    (h : ∀ (cdv : Value) (A : Around) (outer : List Env) (s : Shared) (H : Hp) (E : XK) (ds : List D) (Z : D → Prop), Room k (A.deeper (envOfC qual (defScope st) s.heap.objs.size f cdv)) → c ds Z →
      WST (CxD P w K mg base N qual st f cdv A outer s H E) (defBody st) (rho0 N ds) Z) : FnOk P w K mg base CX0 (k + 1) f fd ps (spT c) := by
  refine F.ok S (fun vs H Q E hs => ?_) fun cdv A outer s H vs Q E hr hs => ?_
  · obtain ⟨G, ds, Z, _, i, hc, _⟩ := hs
    rw [i.length]
    exact len ds Z hc
  · obtain ⟨G, ds, Z, ex, i, hc, q⟩ := hs
    exact ⟨_, pss_w, h cdv A outer s H E ds Z hr hc ⟨H, G, [], 0⟩ _ G H _ rfl (sta_start ex i) fun v d G' H' z F iv fv => q v d G' H' z ⟨F.bg, fun a o e => F.fr a o e (by simp), F.ex, F.nw⟩ iv fv⟩
theorem Df.ofT {k : Nat} {c : List D → (D → Prop) → Prop} (F : Df P w K mg base k x ps (spT c)) : Df P w K mg base k x ps (spD c) := by
  obtain ⟨f, fd, F, r⟩ := F.ex
  exact ⟨f, fd, F.imp fun vs H Q E ⟨G, ds, Z, ex, i, hc, q⟩ => ⟨G, ds, Z, ex, i, hc, fun v d G' H' z gr iv _ => q v d G' H' z gr iv⟩, r⟩
/-- [elt for x, y in iter], new -/
theorem wn_lc2 (i j : Nat) (f : D → D) {Z : D → Prop} (S0 : FnScope N ps sc) (h : P2 true X scope i j x y px py pt kk iter elt f ρ fun d _ => Z d) (hXN : X.N = N := by rfl)
    (hbk : blkC X.N X.env.scope scope [(x, i), (y, j)] = true := by kernel_rfl) (hi : X.N[i]? = some x := by rfl) (hj : X.N[j]? = some y := by rfl)
    (hl : Loc1 X scope x := by intro _ _ _ _ _; first | exact ⟨.inl rfl, .inr rfl⟩ | exact ⟨.inr rfl, .inl rfl⟩) (hl2 : Loc1 X scope y := by intro _ _ _ _ _; first | exact ⟨.inl rfl, .inr rfl⟩ | exact ⟨.inr rfl, .inl rfl⟩)
    (h2 : Two X scope x y px py := by intro _ _ _ _ _; exact ⟨rfl, rfl, rfl, rfl⟩) (hc : X.calm = true := by rfl) (hs : ∀ x, foldedSetIterable iter X.env x = pure x := by intro _; rfl) : WNw X (.ListComp elt [⟨.Tuple [.Name x px, .Name y py] kk pt, iter, [], 0⟩] scope pos) ρ Z := fun B σ G H S R r => by
  have pe : PE X (.ListComp elt [⟨.Tuple [.Name x px, .Name y py] kk pt, iter, [], 0⟩] scope pos) (tLc (wI X (.Tuple [.Name x px, .Name y py] kk pt) iter) ((Tg.two i j).g X.K) tYes (cE X scope elt) [i, j]) :=
    pe_lc (own := [(x, i), (y, j)]) hc (hXN ▸ S0.nd) pi_w (blkOk_by hbk) (pg2 S0 hXN hc hi hl hj hl2 h2) (fun _ _ _ _ _ => pts_nil) pe_c hs
  refine wE_of pe ?_
  refine h B σ G H S _ fun J ds ρ1 G1 H1 q S1 y pu wk D hD => ?_
  obtain ⟨rfl, g0⟩ := pu rfl
  obtain ⟨hlen, turn, q⟩ := q
  have main := lc_go (X := X) (T := .two i j) (tt := tYes) (te := cE X scope elt) (vs := [i, j]) (Qd := fun v H' => v = .ref D → R v H') S1 wk (fun m hm => hm) (fun _ => true) f hlen (fun d hd => ?_) (fun a G' H' gr iv => ?_) D hD
  · obtain ⟨W, w0, ws⟩ := main
    exact ⟨W, w0, fun i m H hw => (ws i m H hw).imp (fun ⟨st, k⟩ => ⟨st, k rfl⟩) id⟩
  · obtain ⟨a, b, rfl, he⟩ := turn d hd
    refine ⟨_, rfl, fun σ' G2 H2 S2 R2 r2 => r2 G2 H2 S2 (Grow.refl S2.ex), fun _ σ' G2 H2 S2 R2 r2 s H0 C cl fp => ?_⟩
    refine he s H0 C cl fp B σ' G2 H2 S2 R2 fun v y ρ3 G3 H3 ey S3 x3 p3 i3 => ?_
    subst ey
    have e3 := (p3 rfl).1
    subst e3
    exact r2 v G3 H3 S3 (p3 rfl).2 i3
  · intro ea
    cases ea
    have e : ds.filter (fun _ => true) = ds := List.filter_eq_self.mpr fun _ _ => rfl
    rw [e] at iv
    have fresh : H D = none := by
      cases r0 : H D with
      | none => rfl
      | some o => rw [g0.h D o r0] at hD; cases hD
    exact r _ _ _ G' H' q (S1.grow gr) (g0.g.trans gr.g) (g0.h.trans gr.h) iv ⟨D, rfl, fresh⟩
end
end DD

namespace DD
open PySem PySem.Spec PyProof.Rows L2
theorem o_inD {g : Bool} {X : Cx} {Z : D → Prop} {x : D} {ds : List D} {a : PyData} {bs : List PyData} (hu : X.A.units + 65 < cLine) (hx : py x = some a) (hy : py (.lst ds) = some (.list bs)) (sx : SeqAt.shaped a = true) (sy : SeqAt.shaped (.list bs) = true) (q : Z (.bl (bs.any fun z => PyData.eqv z a))) : Op2 g X (compareOp .In) x (.lst ds) Z := by
  intro G H v u R ex i1 j k
  exact ⟨_, op_inD hu, a, bs, dp_of _ _ _ (is_any ex i1) hx, dp_of _ _ _ (is_any ex j) hy, sx, sy, k _ (.bl _) G H q (Grow.refl ex) rfl⟩
section
variable {X : Cx} {ρ : Rho} {E : DE}
theorem Sta.thaw1 {B : Base} {σ σ2 : L2.St} {G H0 G2 H2 : Hp} {i : Nat} {a : Addr} {o : HO} {d1 : D} (S : Sta B σ ρ G H0) (S2 : Sta B σ2 (ρ.set i (.val d1)) G2 H2) (hg : Ex G G2) (hH : Ex H0 H2) (hσ : ∀ m, m ≠ i → σ2[m]? = σ[m]?)
    (ha : H0 a = none) (hiρ : i < ρ.length) : Sta B σ2 (ρ.set i .un) (del a G2) (L2.upd H2 a o) := by
  have Ga : G a = none := by
    cases r : G a with
    | none => rfl
    | some u => have := S.ex a u r; rw [ha] at this; cases this
  have Ba : B.H a = none := S.kn a ha
  have BGa : B.G a = none := by
    cases r : B.G a with
    | none => rfl
    | some u => have := S.bx a u r; rw [Ba] at this; cases this
  have gx : Ex G (del a G2) := fun c u hc => by
    have q : c ≠ a := by rintro rfl; rw [Ga] at hc; cases hc
    rw [del_ne q]; exact hg c u hc
  have hρ : ∀ m s, m ≠ i → (ρ.set i .un)[m]? = some s → ρ[m]? = some s ∧ (ρ.set i (.val d1))[m]? = some s := fun m s h1 h3 => by
    rw [List.getElem?_set_ne (Ne.symm h1)] at h3
    refine ⟨h3, ?_⟩
    rw [List.getElem?_set_ne (Ne.symm h1)]
    exact h3
  refine ⟨?_, fun c u hc => ?_, fun c u hc hw => ?_, fun c hc => ?_, fun c u hc => S2.nw c u (del_ex c u hc), fun c u hc => ?_, S2.bx, fun l hl => ?_, fun m s w h1 h2 => ?_, fun m k l1 l2 o1 o2 mk h1 h2 => ?_⟩
  · rw [S2.len, List.length_set, List.length_set]
  · have q : c ≠ a := by rintro rfl; rw [del_same] at hc; cases hc
    rw [upd_ne q]; exact S2.ex c u (del_ex c u hc)
  · have q : c ≠ a := by rintro rfl; rw [Ba] at hc; cases hc
    rw [upd_ne q]; exact S2.fr c u hc hw
  · have q : c ≠ a := by rintro rfl; rw [upd_same] at hc; cases hc
    rw [upd_ne q] at hc; exact S2.kn c hc
  · have q : c ≠ a := by rintro rfl; rw [BGa] at hc; cases hc
    rw [del_ne q]; exact S2.bg c u hc
  · obtain ⟨⟨u, w, e, r⟩, k, hk⟩ := S2.pot l hl
    have q : l ≠ a := by rintro rfl; rw [Ba] at hk; cases hk
    exact ⟨⟨u, w, by rw [upd_ne q]; exact e, r⟩, k, hk⟩
  · by_cases mi : m = i
    · subst mi
      rw [List.getElem?_set_self hiρ] at h1
      cases h1
      trivial
    · obtain ⟨r1, r2⟩ := hρ m s mi h1
      have k2 := S2.env m s w r2 h2
      rw [hσ m mi] at h2
      have k := S.env m s w r1 h2
      cases s with
      | un => trivial
      | val d =>
        obtain ⟨x, e, iv⟩ := k
        exact ⟨x, e, Is.mono gx _ _ iv⟩
      | own lc ow =>
        obtain ⟨l, e, f1, f2, f3⟩ := k2
        have q : l ≠ a := by
          rintro rfl
          obtain ⟨l', e', _, _, ok⟩ := k
          rw [e] at e'
          cases e'
          obtain ⟨u, hu⟩ := ok.known
          rw [ha] at hu; cases hu
        refine ⟨l, e, by rw [del_ne q]; exact f1, f2, ?_⟩
        obtain ⟨l', e', _, _, ok⟩ := k
        rw [e] at e'
        cases e'
        exact ok.mono gx fun u z => by rw [upd_ne q]; exact hH _ _ z
  · have c1 : ∃ la oa, (ρ.set i (.val d1))[m]? = some (.own la oa) := by
      by_cases mi : m = i
      · subst mi
        rw [List.getElem?_set_self hiρ] at h1
        cases h1
      · exact ⟨_, _, (hρ m _ mi h1).2⟩
    have c2 : ∃ la oa, (ρ.set i (.val d1))[k]? = some (.own la oa) := by
      by_cases mi : k = i
      · subst mi
        rw [List.getElem?_set_self hiρ] at h2
        cases h2
      · exact ⟨_, _, (hρ k _ mi h2).2⟩
    obtain ⟨_, _, c1⟩ := c1
    obtain ⟨_, _, c2⟩ := c2
    exact S2.dist m k _ _ _ _ mk c1 c2
/-- x = e, a pair with a new list; two tests that fail; x[1].append(None): behind it x is forgotten -/
theorem ss_told {i : Nat} {x : Str} {px q1 q2 q3 q4 cp zp p1 p2 p3 p4 : Pos} {e c1 c2 : Expr} {b1 b2 rest : List Stmt} {jj kk} {N ps : List Str} {sc : Scope} {Z : D → Prop} (S0 : FnScope N ps sc) (hiρ : i < ρ.length)
    (h1 : ∀ (B : Base) (σ : L2.St) (G H : Hp), Sta B σ ρ G H → ∀ R : VK, (∀ v d G' H', Z d → Grow G H G' H' → Is G' d v → Fh2 G' H v → R v H') → wE X e σ H R)
    (hZ : ∀ d, Z d → ∃ a l, d = .tup [a, .lst l] ∧ l.length < 1000000)
    (hc1 : ∀ d, Z d → WT true X c1 (ρ.set i (.val d)) fun b _ => b = false) (hc2 : ∀ d, Z d → WT true X c2 (ρ.set i (.val d)) fun b _ => b = false) (h3 : WSs X rest (ρ.set i .un) E)
    (hXN : X.N = N := by rfl) (hi : X.N[i]? = some x := by rfl) (hx : Loc X.env.scope x := by first | exact .inl rfl | exact .inr rfl) (hf : X.fn x = true ∨ X.env.scope.names.lookup x = some .local := by first | exact .inl rfl | exact .inr rfl)
    (hv : Vis X.env.scope x := by first | exact .inl rfl | exact .inr (.inl rfl) | exact .inr (.inr rfl)) (hd : (x == ("__debug__" : Str)) = false := by decide) (hcd : (x == ("__classdict__" : Str)) = false := by decide)
    (hs2 : swapsWith e (some (.Name x px)) p1.line X.env = pure false := by rfl)
    (hpl : PlainIx (.Constant (.int 1) kk zp) := by exact fun _ _ => rfl)
    (hbase : attributeBase (.Subscript (.Name x q1) (.Constant (.int 1) kk zp) q4) "append" X.env (eval (.Subscript (.Name x q1) (.Constant (.int 1) kk zp) q4) X.env) = eval (.Subscript (.Name x q1) (.Constant (.int 1) kk zp) q4) X.env := by rfl)
    (hfew : ((backTo q3 (starEach [.Constant .none jj cp] X.env)).all (fun x => !x.1) && (backToKw q3 (keywordEach [] X.env)).all (fun x => x.1.isSome)
      && decide (([.Constant .none jj cp] : List Expr).length + ([] : List Keyword).length + (if ([] : List Keyword).isEmpty then 0 else 1) < 30)) = true := by rfl)
    (hline : (q2.endLine == q3.line) = true := by rfl) (hst : starEach [.Constant .none jj cp] X.env = (false, eval (.Constant .none jj cp) X.env) :: starEach [] X.env := by rfl) (hplain : (backTo q3 (starEach [] X.env)).any (·.1) = false := by rfl)
    (hs : swapsWith (.Call (.Attribute (.Subscript (.Name x q1) (.Constant (.int 1) kk zp) q4) "append" q2) [.Constant .none jj cp] [] q3) none p4.line X.env = pure false := by rfl) :
    WSs X (.Assign [.Name x px] e p1 :: .If c1 b1 [] p2 :: .If c2 b2 [] p3 :: .Expr (.Call (.Attribute (.Subscript (.Name x q1) (.Constant (.int 1) kk zp) q4) "append" q2) [.Constant .none jj cp] [] q3) p4 :: rest) ρ E := fun B σ G H F S L => by
  refine wSs_of (pss_cons (ps_set (hXN ▸ S0.nd) hi hx pe_w hs2 hf) (pss_cons (ps_if pt_w pss_w pss_nil) (pss_cons (ps_if pt_w pss_w pss_nil) (pss_cons (ps_expr (pe_bm PySem.F.plainAttrs_list PySem.F.slot_list_append PySem.F.type_list_append mt_append (pe_ix ix_tup (pe_var hi hv hd hcd) pe_int hpl) (pa_cons pe_non pa_nil hst) hbase hfew hline hst hplain) hs) pss_w)))) ?_
  refine h1 B σ G H S _ fun v d G1 H1 q gr iv fr => ?_
  have S1 : Sta B (σ.set i (some v)) (ρ.set i (.val d)) G1 H1 := (S.grow gr).set iv
  refine hc1 _ q B _ G1 H1 S1 _ fun b ρ' G2 H2 hb S2 x2 pu => ?_
  subst hb
  obtain ⟨rfl, gr2⟩ := pu rfl
  refine hc2 _ q B _ G2 H2 S2 _ fun b ρ' G3 H3 hb S3 x3 pu => ?_
  subst hb
  obtain ⟨rfl, gr3⟩ := pu rfl
  obtain ⟨a0, l0, rfl, hl0⟩ := hZ d q
  obtain ⟨T, x0, a, ys, rfl, f1, f2, f3⟩ := fr
  have hiσ : i < σ.length := by rw [S.len]; exact hiρ
  have g3t := gr3.g _ _ (gr2.g _ _ f1)
  have g3a := gr3.g _ _ (gr2.g _ _ f2)
  have hT := S3.ex _ _ g3t
  have hA := S3.ex _ _ g3a
  have hlen : ys.length = l0.length := by
    obtain ⟨T', xs, eT, e1, e2⟩ := iv
    cases eT
    rw [f1] at e1
    cases e1
    obtain ⟨w1, w2, ew, j1, j2⟩ := isA_two e2
    cases ew
    obtain ⟨a', zs, ea, k1, k2⟩ := j2
    cases ea
    rw [f2] at k1
    cases k1
    exact k2.length
  refine ⟨.ref T, List.getElem?_set_self hiσ, ?_⟩
  refine ⟨T, _, 1, .ref a, rfl, rfl, .inl (.inl hT), by unfold atI ixN; simp, ?_⟩
  refine ⟨.inl ⟨rfl, ys, .inl (.inl hA)⟩, ?_⟩
  refine ⟨a, ys, .non, rfl, rfl, hA, by rw [hlen]; exact Nat.lt_trans hl0 (by decide), ?_⟩
  have S4 := Sta.thaw1 (o := .lst (ys ++ [.non])) S S3 ((gr.g.trans gr2.g).trans gr3.g) ((gr.h.trans gr2.h).trans gr3.h) (fun m m1 => List.getElem?_set_ne (Ne.symm m1)) f3 hiρ
  have ex4 : Ex G (del a G3) := fun c u hc => by
    have q : c ≠ a := by
      rintro rfl
      have := S.ex c u hc
      rw [f3] at this; cases this
    rw [del_ne q]; exact gr3.g c u (gr2.g c u (gr.g c u hc))
  exact h3 B _ _ _ F S4 (L.mono ex4)
/-- f(k = e, ..), keywords in the parameters' own sequence, a pair with a new list -/
theorem wT_callI {k : Nat} {ps : List Str} {c : List D → (D → Prop) → Prop} {x : Str} {pp pos : Pos} {kws : List Keyword} {Z : D → Prop} (F : DfI X.prog X.w X.K X.mg X.base k x ps (spT c)) (hr : Room k X.A)
    (h : WK true true X kws ρ fun ds _ => c ds Z) (hg : Gl X x := by rfl) (hdb : (x == ("__debug__" : Str)) = false := by decide)
    (hall : (backToKw pos (keywordEach kws X.env)).all (·.1.isSome) = true := by rfl) (hks : (backToKw pos (keywordEach kws X.env)).filterMap (·.1) = ps := by rfl)
    (hpl : ((backTo pos (starEach [] X.env)).any (·.1) || (backToKw pos (keywordEach kws X.env)).any (·.1.isNone)) = false := by rfl) :
    ∀ (B : Base) (σ : L2.St) (G H : Hp), Sta B σ ρ G H → ∀ R : VK, (∀ v d G' H', Z d → Grow G H G' H' → Is G' d v → Fh2 G' H v → R v H') → wE X (.Call (.Name x pp) [] kws pos) σ H R := fun B σ G H S R r => by
  obtain ⟨f, fd, F, hm, hk, hb⟩ := F.ex
  refine wE_of (pe_callK0 F hr hg hm hk hb pass0 pk_w hall hks hdb hpl) ?_
  refine h B σ G H S _ fun vs ds ρ' G' H' q S' y pu i => ?_
  obtain ⟨rfl, g0⟩ := pu rfl
  refine ⟨G', ds, Z, S'.ex, i, q, fun v d G2 H2 z gr iz fz => ?_⟩
  obtain ⟨T, x, a, ys, rfl, f1, f2, f3⟩ := fz
  refine r _ d G2 H2 z (g0.trans gr) iz ⟨T, x, a, ys, rfl, f1, f2, ?_⟩
  cases r0 : H a with
  | none => rfl
  | some o => rw [g0.h a o r0] at f3; cases f3
end
end DD

namespace DD
open PySem PySem.Spec PyProof.Rows L2
section
variable {p g : Bool} {X : Cx} {ρ : Rho} {Q : D → Rho → Prop} {pos : Pos} {scope : Scope} {N ps : List Str} {sc : Scope} {x y : Str} {px py : Pos} {iter elt : Expr}
/-- [elt for x in iter for y in iter1] -/
theorem lc11 (i j : Nat) (inner : D → List D) (f : D → D → D) {iter1 : Expr} (S0 : FnScope N ps sc) (h : P11 p X scope i j x y px py iter iter1 elt inner f ρ Q) (hXN : X.N = N := by rfl) (hbk : blkC X.N X.env.scope scope [(x, i), (y, j)] = true := by kernel_rfl) (hi : X.N[i]? = some x := by rfl) (hj : X.N[j]? = some y := by rfl)
    (hl : Loc1 X scope x := by intro _ _ _ _ _; first | exact ⟨.inl rfl, .inr rfl⟩ | exact ⟨.inr rfl, .inl rfl⟩) (hl2 : Loc1 X scope y := by intro _ _ _ _ _; first | exact ⟨.inl rfl, .inr rfl⟩ | exact ⟨.inr rfl, .inl rfl⟩)
    (hc : X.calm = true := by rfl) (hs : ∀ x, foldedSetIterable iter X.env x = pure x := by intro _; rfl) (hs1 : ∀ env x, foldedSetIterable iter1 env x = pure x := by intro _ _; rfl) :
    W p g X (.ListComp elt [⟨.Name x px, iter, [], 0⟩, ⟨.Name y py, iter1, [], 0⟩] scope pos) ρ Q :=
  WX.w (pe_lc2 (own := [(x, i), (y, j)]) (vs1 := (Tg.one j).slots) hc (hXN ▸ S0.nd) pi_w (blkOk_by hbk) (slots_j x y i j) (pg1 S0 hXN hi hl) (fun _ _ _ _ _ => pts_nil) pi_c (pg1 S0 hXN hj hl2) (fun _ _ _ _ _ => pts_nil) pe_c hs hs1)
    (x_lc2 (T := .one i) (T1 := .one j) (own := [(x, i), (y, j)]) inner f (slots_i x y i j) (slots_j x y i j) fun B σ G H S R r => h B σ G H S R fun J ds ρ1 G1 H1 q S1 y pu wk => r J ds ρ1 G1 H1 ⟨q.1, fun d hd => ⟨_, rfl, (q.2.1 d hd).1, fun e he => ⟨_, rfl, (q.2.1 d hd).2 e he⟩⟩, q.2.2⟩ S1 y pu wk)
/-- z = [elt for x in iter if c] -/
theorem s_lc1If (l i : Nat) (bt : D → Bool) (f : D → D) {E : DE} {z : Str} {c : Expr} {pz spos : Pos} (S0 : FnScope N ps sc) (h : P1If false X scope i x px iter elt c bt f ρ fun d ρ' => E.nx (ρ'.set l (.val d))) (hXN : X.N = N := by rfl) (hbk : blkC X.N X.env.scope scope [(x, i)] = true := by kernel_rfl) (hi : X.N[i]? = some x := by rfl)
    (hl : Loc1 X scope x := by intro _ _ _ _ _; first | exact ⟨.inl rfl, .inr rfl⟩ | exact ⟨.inr rfl, .inl rfl⟩) (hc : X.calm = true := by rfl) (hs : ∀ x, foldedSetIterable iter X.env x = pure x := by intro _; rfl) (hz : X.N[l]? = some z := by rfl) (hzl : X.env.scope.names.lookup z = some .local := by rfl)
    (hsw : swapsWith (.ListComp elt [⟨.Name x px, iter, [c], 0⟩] scope pos) (some (.Name z pz)) spos.line X.env = pure true := by exact sw_true rfl rfl rfl (by decide +kernel)) :
    WS X (.Assign [.Name z pz] (.ListComp elt [⟨.Name x px, iter, [c], 0⟩] scope pos) spos) ρ E :=
  s_setX (ps_setLc (own := [(x, i)]) hc (hXN ▸ S0.nd) hz hzl hsw pi_w (blkOk_by hbk) (pg1 S0 hXN hi hl) pt_c pe_c hs) (x1If h)
end
end DD

namespace DD
open PySem PySem.Spec PyProof.Rows L2
section
variable {p g : Bool} {X : Cx} {ρ : Rho} {Q : D → Rho → Prop} {E : DE} {pos : Pos} {scope : Scope} {N ps : List Str} {sc : Scope} {x y z : Str} {px py pz pt : Pos} {kk : Nat} {iter elt : Expr}
/-- list(x), x a list or a tuple: an own list -/
theorem f_listR (i : Nat) {pp : Pos} {d : D} {ds : List D} {Q : Own → Rho → Prop} (hd0 : d = .lst ds ∨ d = .tup ds) (hm : X.mg "list" = none) (hr : ρ[i]? = some (.val d)) (q : Q (.lst ds) ρ) (hN : X.N[i]? = some x := by rfl) (hv : Vis X.env.scope x := by first | exact .inl rfl | exact .inr (.inl rfl) | exact .inr (.inr rfl)) (hd : (x == ("__debug__" : Str)) = false := by decide) (hcd : (x == ("__classdict__" : Str)) = false := by decide)
    (hg : Gl X "list" := by rfl) (he : starEach [.Name x px] X.env = (false, eval (.Name x px) X.env) :: starEach [] X.env := by rfl) (hpl : (backTo pos (starEach [] X.env)).any (·.1) = false := by rfl) : WF X (.Call (.Name "list" pp) [.Name x px] [] pos) ρ Q := fun B σ G H S R r => by
  refine wE_of (pe_callTy call_any hg hm (T := "list") (by decide +kernel) (pa_cons (pe_var hN hv hd hcd) pa_nil he) (by decide) (by decide) he hpl) ?_
  obtain ⟨v, e1, iv⟩ := S.valAt hr
  have iv' : ∃ a xs, v = .ref a ∧ (SqL X.K H a xs ∨ SqT X.K H a xs) ∧ IsA G ds xs := by
    rcases hd0 with rfl | rfl
    · obtain ⟨a, xs, rfl, e2, e3⟩ := iv
      exact ⟨a, xs, rfl, .inl (.inl (.inl (S.ex _ _ e2))), e3⟩
    · obtain ⟨a, xs, rfl, e2, e3⟩ := iv
      exact ⟨a, xs, rfl, .inr (.inl (.inl (S.ex _ _ e2))), e3⟩
  obtain ⟨a, xs, rfl, e2, e3⟩ := iv'
  refine ⟨_, e1, ⟨_, call_list_of, a, xs, rfl, e2, fun l hl => ?_⟩⟩
  obtain ⟨h1, h2, h3⟩ := new_own S hl
  exact r l (.lst ds) ρ G _ q (S.grow (Grow.own S.ex hl)) (Ex.refl G) h1 h2 h3 ⟨xs, upd_same, e3⟩
/-- x, y, z = e, the value a tuple of three -/
theorem s_unp3 (i j k : Nat) {e : Expr} (S0 : FnScope N ps sc) (h : W false true X e ρ fun d ρ' => ∃ a b c, d = .tup [a, b, c] ∧ E.nx (((ρ'.set i (.val a)).set j (.val b)).set k (.val c))) (hXN : X.N = N := by rfl) (hc : X.calm = true := by rfl) (hi : X.N[i]? = some x := by rfl) (hj : X.N[j]? = some y := by rfl) (hk : X.N[k]? = some z := by rfl)
    (hx : Loc X.env.scope x := by first | exact .inl rfl | exact .inr rfl) (hy : Loc X.env.scope y := by first | exact .inl rfl | exact .inr rfl) (hz : Loc X.env.scope z := by first | exact .inl rfl | exact .inr rfl) (hf : X.fn x = true ∨ X.env.scope.names.lookup x = some .local := by first | exact .inl rfl | exact .inr rfl) (hf2 : X.fn y = true ∨ X.env.scope.names.lookup y = some .local := by first | exact .inl rfl | exact .inr rfl) (hf3 : X.fn z = true ∨ X.env.scope.names.lookup z = some .local := by first | exact .inl rfl | exact .inr rfl)
    (h1 : (assignEach [.Name x px, .Name y py, .Name z pz] X.env).length = 3 := by rfl) (h2 : (assignEach [.Name x px, .Name y py, .Name z pz] X.env).findIdx? (·.1) = none := by rfl) (h3 : AE X (.Name x px) [.Name y py, .Name z pz] := by rfl) (h4 : AE X (.Name y py) [.Name z pz] := by rfl) (h6 : AE X (.Name z pz) [] := by rfl)
    (hs : swapsWithSole [.Tuple [.Name x px, .Name y py, .Name z pz] kk pt] e pos.line X.env = pure false := by rfl) (hw : swappedStores [.Tuple [.Name x px, .Name y py, .Name z pz] kk pt] e X.env = pure none := by rfl)
    (h5 : (assignEach [.Tuple [.Name x px, .Name y py, .Name z pz] kk pt] X.env).map (·.2) = [assign (.Tuple [.Name x px, .Name y py, .Name z pz] kk pt) X.env] := by rfl) : WS X (.Assign [.Tuple [.Name x px, .Name y py, .Name z pz] kk pt] e pos) ρ E := fun B σ G H F S L => by
  refine wS_of (ps_asg pe_w (pg_tup hc (pgs_cons (pg_name (hXN ▸ S0.nd) hi hx hf) (pgs_cons (pg_name (hXN ▸ S0.nd) hj hy hf2) (pgs_cons (pg_name (hXN ▸ S0.nd) hk hz hf3) pgs_nil h6) h4) h3) h1 h2) hs hw h5) ?_
  refine h B σ G H S _ fun v d ρ' G' H' q S' y0 pu iv => ?_
  obtain ⟨a, b, c, rfl, q⟩ := q
  obtain ⟨l, xs, rfl, e2, e3⟩ := iv
  obtain ⟨w1, r1, rfl, f1, w2, r2, rfl, f2, w3, r3, rfl, f3, e4⟩ := e3
  cases e4
  exact ⟨l, _, rfl, .inl (.inl (S'.ex _ _ e2)), rfl, w1, [w2, w3], rfl, w2, [w3], rfl, w3, [], rfl, rfl, L.nx _ _ G' H' q (((S'.set f1).set f2).set f3) y0⟩
/-- x, y, z = a, b, []: the third an own list -/
theorem s_par3N (i j k : Nat) {a b : Expr} {pl : Pos} {kt k2 pt2} (S0 : FnScope N ps sc) (hij : i ≠ j) (hik : i ≠ k) (hjk : j ≠ k)
    (h : W false true X a ρ fun d ρ1 => W false true X b ρ1 fun e ρ2 => E.nx (((ρ2.set i (.val d)).set j (.val e)).set k (.own true (.lst [])))) (hXN : X.N = N := by rfl) (hc : X.calm = true := by rfl) (hi : X.N[i]? = some x := by rfl) (hj : X.N[j]? = some y := by rfl) (hk : X.N[k]? = some z := by rfl)
    (hx : X.env.scope.names.lookup x = some .local := by rfl) (hy : X.env.scope.names.lookup y = some .local := by rfl) (hz : X.env.scope.names.lookup z = some .local := by rfl)
    (hs1 : starEach [a, b, .List [] pl] X.env = (false, eval a X.env) :: starEach [b, .List [] pl] X.env := by rfl) (hs2 : starEach [b, .List [] pl] X.env = (false, eval b X.env) :: starEach [.List [] pl] X.env := by rfl) (hs3 : starEach [.List [] pl] X.env = (false, eval (.List [] pl) X.env) :: starEach [] X.env := by rfl)
    (hw : swappedStores [.Tuple [.Name x px, .Name y py, .Name z pz] kt pt] (.Tuple [a, b, .List [] pl] k2 pt2) X.env = pure (some [x, y, z]) := by rfl)
    (hs : swapsWithSole [.Tuple [.Name x px, .Name y py, .Name z pz] kt pt] (.Tuple [a, b, .List [] pl] k2 pt2) pos.line X.env = pure false := by rfl) :
    WS X (.Assign [.Tuple [.Name x px, .Name y py, .Name z pz] kt pt] (.Tuple [a, b, .List [] pl] k2 pt2) pos) ρ E := fun B σ G H F S L => by
  refine wS_of (ps_par3 hc (hXN ▸ S0.nd) hi hj hk hij hik hjk hx hy hz (pa_cons pe_w (pa_cons pe_w (pa_cons (pe_lst pa_nil) pa_nil hs3) hs2) hs1) hw hs) ?_
  refine h B σ G H S _ fun v1 d1 ρ1 G1 H1 q1 S1 x1 pu1 i1 => ?_
  refine q1 B σ G1 H1 S1 _ fun v2 d2 ρ2 G2 H2 q S2 x2 pu2 i2 => ?_
  have i1 : Is G1 d1 v1 := i1
  have i2 : Is G2 d2 v2 := i2
  refine ⟨Nat.zero_le _, fun l hl => ⟨v1, v2, .ref l, rfl, ?_⟩⟩
  obtain ⟨h1, h2, h3⟩ := new_own S2 hl
  have S3 := S2.grow (Grow.own (o := .lst []) S2.ex hl)
  have S4 := (S3.set (i := i) (Is.mono x2 _ _ i1)).set (i := j) i2
  refine L.nx _ _ G2 _ q (S4.setOwn (i := k) (l := l) h1 h2 ⟨[], upd_same, rfl⟩ fun m lc u hm hs => ?_) (x1.trans x2)
  have nv : ∀ {ρ : Rho} {i : Nat} {d : D}, (ρ.set i (.val d))[i]? ≠ some (.own lc u) := fun {ρ i d} z => by
    rw [List.getElem?_set] at z
    simp only [if_true] at z
    split at z <;> cases z
  by_cases hjm : j = m
  · subst hjm
    exact nv hm
  · rw [List.getElem?_set_ne hjm] at hm hs
    by_cases him : i = m
    · subst him
      exact nv hm
    · rw [List.getElem?_set_ne him] at hm hs
      exact h3 m hs lc u hm
end
end DD

namespace DD
open PySem PySem.Spec PyProof.Rows L2
/-! ### zip of two, each a list or a tuple -/
def ItZ2 (K : PySem.W.Frag) (b1 b2 : Bool) (a b : Addr) : It where
  go := fun i H => ∃ (xs ys : List V) (x y : V), (SqB K b1 H a xs ∧ SqB K b2 H b ys) ∧ xs[i]? = some x ∧ ys[i]? = some y
  yld := fun i H v H' => ∃ T x y, v = .ref T ∧ H T = none ∧ H' = upd H T (.tup [x, y]) ∧ (∀ l, SqB K b1 H a l → l[i]? = some x) ∧ ∀ l, SqB K b2 H b l → l[i]? = some y
  stop := fun i H => ∃ xs ys : List V, (SqB K b1 H a xs ∧ SqB K b2 H b ys) ∧ i = min xs.length ys.length
structure Z2St (b1 b2 : Bool) (z TI TO i1 i2 a b : Addr) (i : Nat) (h : Heap) : Prop where
  z : IsZip h z TI TO .none
  p : IsTupOf2 h TI (.ref i1) (.ref i2)
  o : ∃ u v, IsTupOf2 h TO u v
  t : ItB b1 h i1 a i
  l : ItB b2 h i2 b i
theorem turn_Z2 {P : Program} {w : World} {K : PySem.W.Frag} {elts : List Expr} {kk : Nat} {tpos : Pos} {b1 b2 : Bool} {a b z TI TO i1 i2 : Addr} (D : ZipSep2 z TI TO i1 i2 [i1, a] [i2, b]) (ha : a ≠ i1) (hb : b ≠ i2) :
    Turn P w K (.Tuple elts kk tpos) (ItZ2 K b1 b2 a b) [z, TI, TO, i1, i2] z (Z2St b1 b2 z TI TO i1 i2 a b) where
  mem := by simp
  obj := fun i h st c hc => by
    obtain ⟨o1, e1, d1⟩ := st.t.cell
    obtain ⟨o2, e2, d2⟩ := st.l.cell
    obtain ⟨u, v, e3⟩ := st.o
    rcases (show c = z ∨ c = TI ∨ c = TO ∨ c = i1 ∨ c = i2 by simpa using hc) with rfl | rfl | rfl | rfl | rfl
    · exact ⟨_, st.z, fun _ q => by cases q⟩
    · exact ⟨_, st.p, fun _ q => by cases q⟩
    · exact ⟨_, e3, fun _ q => by cases q⟩
    · exact ⟨_, e1, fun v q => d1 v q⟩
    · exact ⟨_, e2, fun v q => d2 v q⟩
  keep := fun i h h' st k => by
    obtain ⟨u, v, e3⟩ := st.o
    exact ⟨k z (by simp) _ st.z, k TI (by simp) _ st.p, ⟨u, v, k TO (by simp) _ e3⟩, st.t.at fun o => k i1 (by simp) o, st.l.at fun o => k i2 (by simp) o⟩
  item := by
    intro X hP hw hK hc i pins s σ H E I hf st hg
    subst hP hw hK
    obtain ⟨xs, ys, x, y, ⟨qa, qb⟩, hx, hy⟩ := hg
    obtain ⟨ia, ra, pa, _⟩ := SqB.seq I qa
    obtain ⟨ib, rb, pb, _⟩ := SqB.seq I qb
    obtain ⟨va, ga, wa⟩ := ra.get hx
    obtain ⟨vb, gb, wb⟩ := rb.get hy
    have la : i < ia.toArray.size := by have := (List.getElem?_eq_some_iff.mp ga).1; simpa using this
    have lb : i < ib.toArray.size := by have := (List.getElem?_eq_some_iff.mp gb).1; simpa using this
    have lz : z < s.heap.objs.size := Heap.lt_size st.z
    obtain ⟨u0, v0, eO⟩ := st.o
    refine wpAny_pyNext_zipD2_item D (drB (A := X.A.in1) (I.ok.hd hc) i1 a ha ia.toArray b1) (drB (A := X.A.in1) (I.ok.hd hc) i2 b hb ib.toArray b2) st.z st.p eO ⟨st.t, pa⟩ ⟨st.l, pb⟩ la lb fun y1 y2 h1 tk f1 f2 g1 g2 g3 g4 g5 g6 hk => ?_
    have e1 : y1 = va := by
      have q : ia[i]? = some y1 := by simpa using f1
      rw [ga] at q; cases q; rfl
    have e2 : y2 = vb := by
      have q : ib[i]? = some y2 := by simpa using f2
      rw [gb] at q; cases q; rfl
    subst e1; subst e2
    refine ⟨_, rfl, wpAny_letOwnedTupleGo_zip (s := { s with heap := h1, toks := tk }) g1 fun h2 z2 sb => ?_⟩
    have hT : h2.get? s.heap.objs.size = some { cls := .type "tuple", data := .seq #[y1, y2] } := (sb.2 _ (Nat.ne_of_gt lz)).trans g5
    have new : ObjOk X.prog X.w (upd H s.heap.objs.size (.tup [x, y])) h2 s.heap.objs.size (.tup [x, y]) := ⟨by show 2 ≤ sizeLine; decide, [y1, y2], .cons wa (.cons wb .nil), ⟨_, hT, rfl, _, rfl⟩⟩
    have I2 : Inv X pins σ (upd H s.heap.objs.size (.tup [x, y])) { s with heap := h2, toks := tk } := I.turnedNew (ch := [z, TI, TO, i1, i2]) (fun c ob hm q => by
      have n : c ≠ z ∧ c ≠ TI ∧ c ≠ TO ∧ c ≠ i1 ∧ c ≠ i2 := by simpa using hm
      exact (sb.2 c n.1).trans (hk c ob n.1 n.2.2.1 n.2.2.2.1 n.2.2.2.2 q)) hf (Nat.le_refl _) new
    have nz1 : i1 ≠ z := fun e => D.zf1 (e ▸ D.mem1)
    have nz2 : i2 ≠ z := fun e => D.zf2 (e ▸ D.mem2)
    refine ⟨.ref s.heap.objs.size, _, I2, rfl, ⟨_, x, y, rfl, I.hok.fresh (Nat.le_refl _), rfl, fun l hl => ?_, fun l hl => ?_⟩, ⟨z2, (sb.2 _ D.TIz).trans (hk _ _ D.TIz D.TITO D.TIi1 D.TIi2 st.p), ⟨y1, y2, (sb.2 _ D.TOz).trans g2⟩, g3.1.at fun o q => (sb.2 _ nz1).trans q, g4.1.at fun o q => (sb.2 _ nz2).trans q⟩, fun c hm => ?_⟩
    · rw [SqB.inj I hl qa]; exact hx
    · rw [SqB.inj I hl qb]; exact hy
    · have lt : c < s.heap.objs.size := by
        obtain ⟨o1, k1, _⟩ := st.t.cell
        obtain ⟨o2, k2, _⟩ := st.l.cell
        rcases (show c = z ∨ c = TI ∨ c = TO ∨ c = i1 ∨ c = i2 by simpa using hm) with rfl | rfl | rfl | rfl | rfl
        · exact lz
        · exact Heap.lt_size st.p
        · exact Heap.lt_size eO
        · exact Heap.lt_size k1
        · exact Heap.lt_size k2
      rw [upd_ne (Nat.ne_of_lt lt)]
      exact (hf c hm).1
  done := by
    intro X hP hw hK hc i pins s σ H E I hf st hg
    subst hP hw hK
    obtain ⟨xs, ys, ⟨qa, qb⟩, he⟩ := hg
    obtain ⟨ia, ra, pa, _⟩ := SqB.seq I qa
    obtain ⟨ib, rb, pb, _⟩ := SqB.seq I qb
    have la := ra.length
    have lb := rb.length
    obtain ⟨u0, v0, eO⟩ := st.o
    have sa : ia.toArray.size = xs.length := by simp [la]
    have sb : ib.toArray.size = ys.length := by simp [lb]
    refine wpAny_pyNext_zipD2_end D (drB (A := X.A.in1) (I.ok.hd hc) i1 a ha ia.toArray b1) (drB (A := X.A.in1) (I.ok.hd hc) i2 b hb ib.toArray b2) st.z st.p eO ⟨st.t, pa⟩ ⟨st.l, pb⟩ (by omega) (by omega) (by omega) fun h' tk hk => ⟨rfl, I.turnedL (ch := [z, TI, TO, i1, i2]) (fun c ob hm q => ?_) hf⟩
    have n : c ≠ z ∧ c ≠ TI ∧ c ≠ TO ∧ c ≠ i1 ∧ c ≠ i2 := by simpa using hm
    exact hk c ob n.1 n.2.2.1 n.2.2.2.1 n.2.2.2.2 q
  self := fun A i s Q E st h => wpAny_pyIter_zip st.z h
def iZ2 (K : PySem.W.Frag) (b1 b2 : Bool) (ta : TA) : TI := fun σ H R => ta σ H fun vs H1 => ∃ a b xs ys, vs = [.ref a, .ref b] ∧ SqB K b1 H1 a xs ∧ SqB K b2 H1 b ys ∧ R (ItZ2 K b1 b2 a b) H1
theorem pi_Z2 (b1 b2 : Bool) {X : Cx} {e e2 : Expr} {ta : TA} {pp pos tpos : Pos} {elts : List Expr} {kk : Nat} (hg : Gl X "zip") (hm : X.mg "zip" = none) (ha : PA X [e, e2] ta)
    (hs : starEach [e, e2] X.env = (false, eval e X.env) :: starEach [e2] X.env := by rfl) (hpl : (backTo pos (starEach [e2] X.env)).any (·.1) = false := by rfl) : PI X (.Tuple elts kk tpos) (.Call (.Name "zip" pp) [e, e2] [] pos) (iZ2 X.K b1 b2 ta) := by
  refine ⟨fun pins s σ H R I hyp => ?_⟩
  refine Call_ (ld_blt I hg hm PyProof.Rows.boot_zip (PyProof.Rows.callWith_type1 (thn (ha.run pos pins s σ H _ I hyp) fun us s1 ⟨vs, H1, I1, r1, q1⟩ => ?_) hs hpl))
  obtain ⟨a, b, xs, ys, rfl, qa, qb, q⟩ := q1
  cases r1 with
  | cons ra rr =>
    cases rr with
    | cons rb rr =>
      cases rr; cases ra; cases rb
      obtain ⟨ia, va, pa, la⟩ := SqB.seq I1 qa
      obtain ⟨ib, vb, pb, lb⟩ := SqB.seq I1 qb
      refine zip_begins2 (bgB a ia.toArray b1) (bgB b ib.toArray b2) pa pb fun h' g1 g2 g3 g4 g5 g6 hk => wpAny_pyIter_zip g1 ?_
      have I2 : Inv X pins σ H1 { s1 with heap := h' } := I1.kept (t' := s1.toks) hk
      have D := zip_sep2 (N := s1.heap.objs.size) (fp1 := [a]) (fp2 := [b]) (fun c hc => by rw [List.mem_singleton.mp hc]; exact la) (fun c hc => by rw [List.mem_singleton.mp hc]; exact lb)
      refine ⟨_, [s1.heap.objs.size + 4, s1.heap.objs.size + 2, s1.heap.objs.size + 3, s1.heap.objs.size, s1.heap.objs.size + 1], _, _, H1, rfl, I2, turn_Z2 D (Nat.ne_of_lt la) (Nat.ne_of_lt (Nat.lt_succ_of_lt lb)), ⟨g1, g2, ⟨_, _, g3⟩, ItB.new g4, ItB.new g5⟩, fun c hm => ?_, q⟩
      have le : s1.heap.objs.size ≤ c := by
        rcases (show c = s1.heap.objs.size + 4 ∨ c = s1.heap.objs.size + 2 ∨ c = s1.heap.objs.size + 3 ∨ c = s1.heap.objs.size ∨ c = s1.heap.objs.size + 1 by simpa using hm) with z | z | z | z | z <;> rw [z] <;> first | exact Nat.le_refl _ | exact Nat.le_add_right _ _
      exact I1.fpOk le (I1.hok.fresh le)
theorem walk_Z2 {K : PySem.W.Frag} {b1 b2 : Bool} {a b : Addr} {xs ys : List V} : Walk (ItZ2 K b1 b2 a b) (min xs.length ys.length) (fun H => SqB K b1 H a xs ∧ SqB K b2 H b ys) (YPair (fun i => xs[i]?) (fun i => ys[i]?)) where
  goes := fun i H hi q => ⟨xs, ys, xs[i]'(by omega), ys[i]'(by omega), q, List.getElem?_eq_getElem (by omega), List.getElem?_eq_getElem (by omega)⟩
  stops := fun H q => ⟨xs, ys, q, rfl⟩
  yields := fun i H v H' _ q y => by
    obtain ⟨T, x, u, z1, z2, z3, z4, z5⟩ := y
    exact ⟨T, x, u, z1, z2, z3, z4 xs q.1, z5 ys q.2⟩
section
variable {X : Cx} {p : Bool} {ρ : Rho} {QI : List D → Rho → Prop}
theorem wi_zipB (b1 b2 : Bool) {a b : Expr} {elts : List Expr} {kk : Nat} {pp pos tpos : Pos} (hg : Gl X "zip") (hm : X.mg "zip" = none) (h : WA p true X [a, b] ρ fun ds ρ' => ∃ xs ys, ds = [isB2 b1 xs, isB2 b2 ys] ∧ QI ((xs.zip ys).map fun q => D.tup [q.1, q.2]) ρ')
    (hs : starEach [a, b] X.env = (false, eval a X.env) :: starEach [b] X.env := by rfl) (hpl : (backTo pos (starEach [b] X.env)).any (·.1) = false := by rfl) : WI p X (.Tuple elts kk tpos) (.Call (.Name "zip" pp) [a, b] [] pos) ρ QI := fun B σ G H S R r => by
  refine wI_of (pi_Z2 b1 b2 hg hm pa_w hs hpl) ?_
  refine h B σ G H S _ fun vs ds ρ' G' H' q S' x pu i => ?_
  obtain ⟨xs, ys, rfl, q⟩ := q
  obtain ⟨v, u, rfl, iv, iu⟩ := isA_two i
  obtain ⟨l1, as, rfl, s1, e3⟩ := seq_of S'.ex (K := X.K) iv
  obtain ⟨l2, bs, rfl, s2, f3⟩ := seq_of S'.ex (K := X.K) iu
  refine ⟨l1, l2, as, bs, rfl, s1 _ S'.ex, s2 _ S'.ex, r _ _ ρ' G' H' q S' x pu ?_⟩
  exact walkD_pair (n := min as.length bs.length) (by rw [e3.length, f3.length]) (walk_Z2 (xs := as) (ys := bs)) (fun H h => ⟨s1 _ h, s2 _ h⟩) (fun i d hd => e3.get hd) (fun i d hd => f3.get hd)
end
end DD

namespace DD
open PySem PySem.Spec PyProof.Rows L2
/-! ### any plain value, shown -/
mutual
def plainP : PyData → Bool
  | .none => true
  | .bool _ => true
  | .int i => decide (i.natAbs.log2 < 1920)
  | .str x => decide ((reprText x).length ≤ 1000)
  | .list xs => plainPA xs
  | .tuple xs => plainPA xs
  | .dict _ => false
def plainPA : List PyData → Bool
  | [] => true
  | x :: xs => plainP x && plainPA xs
end
mutual
theorem shownP_up : ∀ d : PyData, plainP d = true → d.shown.length + 2 ≤ 2000 * nod d
  | .none, h => by show ("None" : Str).length + 2 ≤ 2000 * 1; decide
  | .bool b, h => by cases b <;> decide
  | .str x, h => by
    have h : (reprText x).length ≤ 1000 := of_decide_eq_true h
    show (reprText x).length + 2 ≤ 2000 * 1
    omega
  | .int i, h => by
    have := int_text_len_1921 (of_decide_eq_true h)
    show (Str.ofString (toString i)).length + 2 ≤ 2000 * 1
    omega
  | .list xs, h => by
    have := shownPA_up xs h
    have := textFrom_up (PyData.shownAll xs) 0 "["
    show (listText (PyData.shownAll xs)).length + 2 ≤ 2000 * (nodA xs + 1)
    unfold listText
    rw [strLen]
    have e1 : (("[" : Str)).length = 1 := rfl
    have e2 : (("]" : Str)).length = 1 := rfl
    omega
  | .tuple xs, h => by
    have := shownPA_up xs h
    have := tupleText_up (PyData.shownAll xs)
    show (tupleText (PyData.shownAll xs)).length + 2 ≤ 2000 * (nodA xs + 1)
    omega
  | .dict _, h => by cases h
theorem shownPA_up : ∀ xs : List PyData, plainPA xs = true → piled (PyData.shownAll xs) ≤ 2000 * nodA xs
  | [], _ => Nat.le_refl _
  | x :: xs, h => by
    have a := shownP_up x (Bool.and_eq_true_iff.mp h).1
    have b := shownPA_up xs (Bool.and_eq_true_iff.mp h).2
    show piled (x.shown :: PyData.shownAll xs) ≤ 2000 * (nod x + nodA xs)
    rw [piled_cons]
    omega
end
mutual
theorem plainP_show : ∀ d : PyData, plainP d = true → d.showable = true ∧ d.hasDict = false
  | .none, h => ⟨rfl, rfl⟩
  | .bool _, h => ⟨rfl, rfl⟩
  | .str _, h => ⟨rfl, rfl⟩
  | .int i, h => ⟨h, rfl⟩
  | .list xs, h => plainPA_show xs h
  | .tuple xs, h => plainPA_show xs h
  | .dict _, h => by cases h
theorem plainPA_show : ∀ xs : List PyData, plainPA xs = true → PyData.showableAll xs = true ∧ PyData.hasDictAll xs = false
  | [], _ => ⟨rfl, rfl⟩
  | x :: xs, h => by
    have a := plainP_show x (Bool.and_eq_true_iff.mp h).1
    have b := plainPA_show xs (Bool.and_eq_true_iff.mp h).2
    refine ⟨?_, ?_⟩
    · show (x.showable && PyData.showableAll xs) = true
      rw [a.1, b.1]; rfl
    · show (x.hasDict || PyData.hasDictAll xs) = false
      rw [a.2, b.2]; rfl
end
def RP (d : D) : Prop := (∃ q, py d = some q ∧ plainP q = true ∧ q.depth ≤ 64 ∧ nod q ≤ 8000) ∨ d = .dic []
def shD (d : D) : Str := match py d with
  | some q => q.shown
  | none => (PyData.dict []).shown
section
variable {X : Cx} {g : Bool} {Z : D → Prop}
theorem call_shownP (hG : X.A.guards = some []) (hu : X.A.units + 80 < cLine) : CallR X (.builtin "repr") (fun xs H Q => ∃ (v : V) (q : PyData), xs = [v] ∧ Dp X.K H v q ∧ plainP q = true ∧ q.depth ≤ 64 ∧ nod q ≤ 8000 ∧ Q (.str q.shown) H) := by
  intro pins s σ H xs us Q I r h
  obtain ⟨v, q, rfl, dp, pl, dep, sz, k⟩ := h
  obtain ⟨u, rfl, ru⟩ := vals1 r
  have up := shownP_up q pl
  have e : sizeLine = 16777216 := by decide
  cases dp with
  | non => cases ru; exact PySem.P.repr_of_none ⟨.str _, H, I.tok _, ⟨_, rfl⟩, k⟩
  | bl b => cases ru; exact PySem.P.repr_of_bool ⟨.str _, H, I.tok _, ⟨_, rfl⟩, k⟩
  | int i => obtain ⟨t, rfl⟩ := ru; exact PySem.P.repr_of_int (of_decide_eq_true pl) ⟨.str _, H, I.tok _, ⟨_, rfl⟩, k⟩
  | str x => obtain ⟨t, rfl⟩ := ru; exact PySem.P.repr_of_str ⟨.str _, H, I.tok _, ⟨_, rfl⟩, k⟩ (by have : (reprText x).length ≤ 1000 := of_decide_eq_true pl; omega)
  | lst h1 h2 =>
    cases ru
    obtain ⟨as, rd⟩ := Dp.reads I _ _ _ (Dp.lst h1 h2) rfl
    obtain ⟨s1, s2⟩ := plainP_show _ pl
    exact repr_of_reads' rd s1 (PyData.noDict_hsm s2) hG (by omega) (fun _ _ e => e) (fun h' t tk keep => ⟨.str _, H, I.kept (t' := tk) keep, ⟨_, rfl⟩, k⟩) (by omega)
  | tup h1 h2 =>
    cases ru
    obtain ⟨as, rd⟩ := Dp.reads I _ _ _ (Dp.tup h1 h2) rfl
    obtain ⟨s1, s2⟩ := plainP_show _ pl
    exact repr_of_reads' rd s1 (PyData.noDict_hsm s2) hG (by omega) (fun _ _ e => e) (fun h' t tk keep => ⟨.str _, H, I.kept (t' := tk) keep, ⟨_, rfl⟩, k⟩) (by omega)
theorem call_shownE (hG : X.A.guards = some []) (hu : X.A.units + 80 < cLine) : CallR X (.builtin "repr") (fun xs H Q => ∃ a : Addr, xs = [.ref a] ∧ H a = some (.dK []) ∧ Q (.str (PyData.dict []).shown) H) := by
  intro pins s σ H xs us Q I r h
  obtain ⟨a, rfl, ha, k⟩ := h
  obtain ⟨u, rfl, ru⟩ := vals1 r
  cases ru
  obtain ⟨_, hsm, vs, kv, dof⟩ := (show ObjOk X.prog X.w H s.heap a (.dK []) from I.hok a _ ha)
  cases kv
  obtain ⟨o, es, ep, ho, hx, hdat, _, hp, _⟩ := dof
  have he : es.toList = [] := by cases hes : es.toList with
    | nil => rfl
    | cons a r => rw [hes] at hp; cases hp
  have rd : Reads s.heap (.ref a) (.dict []) [a] := Reads.dict (as := []) (bs := []) ho hx.1 hdat (by rw [he]; exact .nil) (by rw [he]; exact .nil)
  have hl : (PyData.dict []).shown.length ≤ sizeLine := by decide
  exact repr_of_reads' rd rfl (fun _ hm => by
    have e : sysModules = a := by simpa using hm
    rw [e] at hsm
    simp at hsm) hG (by show X.A.units + (PyData.depth (.dict []) + 1) < cLine; have : PyData.depth (.dict []) ≤ 1 := by decide
                        omega) (fun _ _ e => e) (fun h' t tk keep => ⟨.str _, H, I.kept (t' := tk) keep, ⟨_, rfl⟩, k⟩) hl
theorem c_reprP {d : D} (hG : X.A.guards = some []) (hu : X.A.units + 80 < cLine) (h : RP d) (k : Z (.str (shD d))) : OpC g X (.builtin "repr") [d] Z := by
  intro G H vs R ex i kk
  obtain ⟨v, rfl, e⟩ := isA_one (isA_any ex i)
  rcases h with ⟨q, hq, pl, dep, sz⟩ | rfl
  · unfold shD at k
    rw [hq] at k
    exact ⟨_, call_shownP hG hu, v, q, rfl, dp_of _ _ _ e hq, pl, dep, sz, kk _ (.str q.shown) G H k (Grow.refl ex) rfl⟩
  · obtain ⟨a, ks, rfl, ha, ik⟩ := e
    cases ik
    exact ⟨_, call_shownE hG hu, a, rfl, ha, kk _ (.str _) G H k (Grow.refl ex) rfl⟩
end
end DD

namespace DD
open PySem PySem.Spec PyProof.Rows L2
section
variable {p g : Bool} {X : Cx} {ρ : Rho} {Q : D → Rho → Prop} {pos : Pos}
theorem w_slT {e : Expr} {lo hi : Option Expr} {p2 : Pos} (h : W p true X e ρ fun d ρ1 => ∃ xs, d = .tup xs ∧ WO X lo ρ1 fun l => WO X hi ρ1 fun u => Q (.tup (cutD xs l u)) ρ1) : W p g X (.Subscript e (.Slice lo hi none p2) pos) ρ Q := fun B σ G H S R r => by
  refine wE_of (pe_slice sl_tupA pe_w po_w po_w) ?_
  refine h B σ G H S _ fun v d ρ1 G1 H1 q S1 y pu i => ?_
  obtain ⟨xs, rfl, q⟩ := q
  refine wo_go q S1 fun l G2 H2 q2 S2 gr2 => ?_
  refine wo_go q2 S2 fun u G3 H3 q3 S3 gr3 => ?_
  have i3 := Is.mono (gr2.g.trans gr3.g) _ _ i
  obtain ⟨a, as, rfl, e2, e3⟩ := i3
  refine ⟨a, as, rfl, .inl (.inl (S3.ex _ _ e2)), fun hw => ?_, fun _ b hb => ?_⟩
  · rw [e3.length] at hw
    have ec : cutD xs l u = xs := by
      unfold cutD
      rw [hw.1, hw.2, List.drop_zero, Nat.sub_zero, List.take_length]
    rw [ec] at q3
    exact r _ (.tup xs) ρ1 _ _ q3 S3 ((y.trans gr2.g).trans gr3.g) (fun z => ⟨(pu z).1, (((pu z).2.trans gr2).trans gr3)⟩) (is_h S3 ⟨a, _, rfl, e2, e3⟩)
  · have gr := Grow.new (o := .tup (cutV as l u)) S3.ex hb
    exact r _ (.tup (cutD xs l u)) ρ1 _ _ q3 (S3.grow gr) (((y.trans gr2.g).trans gr3.g).trans gr.g) (fun z => ⟨(pu z).1, (((pu z).2.trans gr2).trans gr3).trans gr⟩) (is_h (S3.grow gr) ⟨b, _, rfl, upd_same, IsA.mono gr.g _ _ (e3.cut l u)⟩)
theorem o_catT {X : Cx} {Z : D → Prop} {xs ys : List D} (q : xs.length + ys.length ≤ sizeLine ∧ Z (.tup (xs ++ ys))) : Op2 true X (binaryOp .Add) (.tup xs) (.tup ys) Z := by
  intro G H v u R ex ⟨a, as, e1, e2, e3⟩ ⟨b, bs, f1, f2, f3⟩ k
  refine ⟨_, op_catA, a, b, as, bs, e1, f1, .inl (.inl (ex _ _ e2)), .inl (.inl (ex _ _ f2)), by rw [e3.length, f3.length]; exact q.1, fun h0 => ?_, fun _ h0 => ?_, fun _ _ p hp => ?_⟩
  · subst h0
    have : xs = [] := List.length_eq_zero_iff.mp e3.length.symm
    subst this
    exact k _ (.tup ys) _ _ q.2 (Grow.refl ex) ⟨b, bs, rfl, f2, f3⟩
  · subst h0
    have : ys = [] := List.length_eq_zero_iff.mp f3.length.symm
    subst this
    have q2 := q.2
    rw [List.append_nil] at q2
    exact k _ (.tup xs) _ _ q2 (Grow.refl ex) ⟨a, as, rfl, e2, e3⟩
  · have gr := Grow.new (o := .tup (as ++ bs)) ex hp
    exact k _ (.tup (xs ++ ys)) _ _ q.2 gr ⟨p, _, rfl, upd_same, IsA.mono gr.g _ _ (e3.append f3)⟩
/-- {} -/
theorem w_dic (q : Q (.dic []) ρ) : W p g X (.Dict [] [] pos) ρ Q := fun B σ G H S R r => by
  refine wE_of pe_dnewK fun l hl => ?_
  have gr := Grow.new (o := .dK []) S.ex hl
  exact r _ (.dic []) ρ _ _ q (S.grow gr) gr.g (fun z => ⟨rfl, gr⟩) (is_h (S.grow gr) ⟨l, _, rfl, upd_same, rfl⟩)
end
/-! ### how great a plain value is -/
mutual
def szD : D → Option Nat
  | .non => some 1
  | .bl _ => some 1
  | .int i => if i.natAbs.log2 < 1920 then some 1 else none
  | .str x => if (reprText x).length ≤ 1000 then some 1 else none
  | .lst xs => (szA xs).map (· + 1)
  | .tup xs => (szA xs).map (· + 1)
  | _ => none
def szA : List D → Option Nat
  | [] => some 0
  | d :: ds => (szD d).bind fun a => (szA ds).map (a + ·)
end
mutual
theorem szD_py : ∀ (d : D) (n : Nat), szD d = some n → ∃ q, py d = some q ∧ plainP q = true ∧ nod q = n ∧ q.depth ≤ n
  | .non, n, h => by cases h; exact ⟨.none, rfl, rfl, rfl, by decide⟩
  | .bl b, n, h => by cases h; exact ⟨.bool b, rfl, rfl, rfl, by show PyData.depth (.bool b) ≤ 1; exact Nat.zero_le _⟩
  | .int i, n, h => by
    unfold szD at h
    split at h
    · rename_i hi
      cases h
      exact ⟨.int i, rfl, decide_eq_true hi, rfl, Nat.zero_le _⟩
    · cases h
  | .str x, n, h => by
    unfold szD at h
    split at h
    · rename_i hi
      cases h
      exact ⟨.str x, rfl, decide_eq_true hi, rfl, Nat.zero_le _⟩
    · cases h
  | .lst xs, n, h => by
    unfold szD at h
    cases hx : szA xs with
    | none => rw [hx] at h; cases h
    | some m =>
      rw [hx] at h
      cases h
      obtain ⟨q, h1, h2, h3, h4⟩ := szA_py xs m hx
      refine ⟨.list q, ?_, h2, ?_, ?_⟩
      · show (pyA xs).map _ = _
        rw [h1]; rfl
      · show nodA q + 1 = m + 1
        rw [h3]
      · show PyData.depthAll q + 1 ≤ m + 1
        omega
  | .tup xs, n, h => by
    unfold szD at h
    cases hx : szA xs with
    | none => rw [hx] at h; cases h
    | some m =>
      rw [hx] at h
      cases h
      obtain ⟨q, h1, h2, h3, h4⟩ := szA_py xs m hx
      refine ⟨.tuple q, ?_, h2, ?_, ?_⟩
      · show (pyA xs).map _ = _
        rw [h1]; rfl
      · show nodA q + 1 = m + 1
        rw [h3]
      · show PyData.depthAll q + 1 ≤ m + 1
        omega
  | .ty _, n, h => by cases h
  | .obj _ _, n, h => by cases h
  | .dic _, n, h => by cases h
  | .scr _ _, n, h => by cases h
theorem szA_py : ∀ (ds : List D) (n : Nat), szA ds = some n → ∃ q, pyA ds = some q ∧ plainPA q = true ∧ nodA q = n ∧ PyData.depthAll q ≤ n
  | [], n, h => by cases h; exact ⟨[], rfl, rfl, rfl, Nat.le_refl _⟩
  | d :: ds, n, h => by
    unfold szA at h
    cases hd : szD d with
    | none => rw [hd] at h; cases h
    | some a =>
      cases hs : szA ds with
      | none => rw [hd, hs] at h; cases h
      | some b =>
        rw [hd, hs] at h
        cases h
        obtain ⟨q, h1, h2, h3, h4⟩ := szD_py d a hd
        obtain ⟨r, g1, g2, g3, g4⟩ := szA_py ds b hs
        refine ⟨q :: r, ?_, ?_, ?_, ?_⟩
        · show (py d).bind _ = _
          rw [h1]
          show (pyA ds).map _ = _
          rw [g1]; rfl
        · show (plainP q && plainPA r) = true
          rw [h2, g2]; rfl
        · show nod q + nodA r = a + b
          rw [h3, g3]
        · show max q.depth (PyData.depthAll r) ≤ a + b
          omega
end
theorem rp_of {d : D} {n : Nat} (h : szD d = some n) (hn : n ≤ 64) : RP d := by
  obtain ⟨q, h1, h2, h3, h4⟩ := szD_py d n h
  exact .inl ⟨q, h1, h2, by omega, by omega⟩
theorem szA_app : ∀ (xs ys : List D) (a b : Nat), szA xs = some a → szA ys = some b → szA (xs ++ ys) = some (a + b)
  | [], ys, a, b, h, h2 => by cases h; rw [Nat.zero_add]; exact h2
  | x :: xs, ys, a, b, h, h2 => by
    unfold szA at h
    cases hx : szD x with
    | none => rw [hx] at h; cases h
    | some c =>
      cases hs : szA xs with
      | none => rw [hx, hs] at h; cases h
      | some e =>
        rw [hx, hs] at h
        cases h
        show (szD x).bind _ = _
        rw [hx]
        show (szA (xs ++ ys)).map _ = _
        rw [szA_app xs ys e b hs h2]
        show some (c + (e + b)) = some (c + e + b)
        rw [Nat.add_assoc]
/-- whole numbers that can be shown -/
theorem szA_ints : ∀ l : List Int, (∀ i ∈ l, i.natAbs < 2 ^ 1000) → szA (l.map D.int) = some l.length
  | [], _ => rfl
  | i :: l, h => by
    have ih := szA_ints l fun x hx => h x (List.mem_cons_of_mem _ hx)
    have h1 := h i List.mem_cons_self
    have h2 : i.natAbs.log2 < 1920 := by
      by_cases h0 : i.natAbs = 0
      · rw [h0]; decide
      · have := (Nat.log2_lt h0).mpr h1
        omega
    show (szD (.int i)).bind _ = _
    unfold szD
    rw [if_pos h2]
    show (szA (l.map D.int)).map _ = _
    rw [ih]
    show some (1 + l.length) = some (l.length + 1)
    rw [Nat.add_comm]
end DD

namespace DD
open PySem PySem.Spec PyProof.Rows L2
section
variable {g : Bool} {X : Cx} {Z : D → Prop}
theorem c_maxL {ns : List Int} (hc : X.calm = true) (h0 : 0 < ns.length) (q : ∀ m, m ∈ ns → (∀ y, y ∈ ns → y ≤ m) → Z (.int m)) : OpC g X (.builtin "max") [.lst (ns.map D.int)] Z := by
  intro G H vs R ex i k
  obtain ⟨v, rfl, a, xs, rfl, e2, e3⟩ := isA_one (isA_any ex i)
  have e4 := e3.ints
  subst e4
  exact ⟨_, cr_max hc, a, ns, rfl, .inl (.inl e2), h0, fun m h1 h2 => k _ (.int m) G H (q m h1 h2) (Grow.refl ex) rfl⟩
theorem c_min2 {i j : Int} (hc : X.calm = true) (q : Z (.int (if j < i then j else i))) : OpC g X (.builtin "min") [.int i, .int j] Z := by
  intro G H vs R ex i1 k
  obtain ⟨v, u, rfl, e1, e2⟩ := isA_two (isA_any ex i1)
  cases (e1 : v = .int i)
  cases (e2 : u = .int j)
  exact ⟨_, call_min2 hc, i, j, rfl, k _ (.int _) G H q (Grow.refl ex) rfl⟩
end
section
variable {X : Cx} {ρ : Rho} {E : DE} {pos : Pos} {N ps : List Str} {sc scope : Scope} {x y z u : Str} {px py pz pu pt p2 p3 : Pos} {kk : Nat}
/-! ### three whose third part is a new list of whole numbers -/
def Fh3 (G H : Hp) (v : V) : Prop := ∃ T x y a ys, v = .ref T ∧ G T = some (.tup [x, y, .ref a]) ∧ G a = some (.lst ys) ∧ H a = none
def spT3 (c : List D → (D → Prop) → Prop) : Sp := fun vs H Q _ => ∃ (G : Hp) (ds : List D) (Z : D → Prop), Ex G H ∧ IsA G ds vs ∧ c ds Z ∧ ∀ v d G' H', Z d → Grow G H G' H' → Is G' d v → Fh3 G' H v → Q v H'
def WST3 (X : Cx) (st : List Stmt) (ρ : Rho) (Z : D → Prop) : Prop := ∀ (B : Base) (σ : L2.St) (G H : Hp) (F : Ends), B.W = [] → Sta B σ ρ G H →
  (∀ v d G' H', Z d → Fin B G' H' → Is G' d v → Fh3 G' B.H v → F.rt v H') → wSs X st F σ H
theorem w3_cons {st : Stmt} {rest : List Stmt} {Z : D → Prop} (h : WS X st ρ { nx := fun ρ' => WST3 X rest ρ' Z, rt := fun _ => False }) : WST3 X (st :: rest) ρ Z := fun B σ G H F hW S k =>
  wSs_of (pss_cons ps_w pss_w) (h B σ G H { F with nx := wSs X rest F } S ⟨fun σ' ρ' G' H' q S' _ => q B σ' G' H' F hW S' k, fun _ _ _ _ z => z.elim, fun _ _ _ _ z => z.elim, fun _ _ _ _ z => z.elim⟩)
theorem w3_cut {st : Stmt} {rest : List Stmt} {Z : D → Prop} (M : Rho → Prop) (h : WS X st ρ { nx := M, rt := fun _ => False }) (k : ∀ ρ', M ρ' → WST3 X rest ρ' Z) : WST3 X (st :: rest) ρ Z := fun B σ G H F hW S kk =>
  wSs_of (pss_cons ps_w pss_w) (h B σ G H { F with nx := wSs X rest F } S ⟨fun σ' ρ' G' H' q S' _ => k ρ' q B σ' G' H' F hW S' kk, fun _ _ _ _ z => z.elim, fun _ _ _ _ z => z.elim, fun _ _ _ _ z => z.elim⟩)
/-- return (x, y, z): a value, two own lists -/
theorem w3_ret (i j k : Nat) {d : D} {ds es : List D} {Z : D → Prop} (hi0 : ρ[i]? = some (.val d)) (hj0 : ρ[j]? = some (.own true (.lst ds))) (hk0 : ρ[k]? = some (.own true (.lst es))) (hjk : j ≠ k) (q : Z (.tup [d, .lst ds, .lst es]))
    (hi : X.N[i]? = some x := by rfl) (hj : X.N[j]? = some y := by rfl) (hk : X.N[k]? = some z := by rfl)
    (hv1 : Vis X.env.scope x := by first | exact .inl rfl | exact .inr (.inl rfl) | exact .inr (.inr rfl)) (hd1 : (x == ("__debug__" : Str)) = false := by decide) (hcd1 : (x == ("__classdict__" : Str)) = false := by decide)
    (hv2 : Vis X.env.scope y := by first | exact .inl rfl | exact .inr (.inl rfl) | exact .inr (.inr rfl)) (hd2 : (y == ("__debug__" : Str)) = false := by decide) (hcd2 : (y == ("__classdict__" : Str)) = false := by decide)
    (hv3 : Vis X.env.scope z := by first | exact .inl rfl | exact .inr (.inl rfl) | exact .inr (.inr rfl)) (hd3 : (z == ("__debug__" : Str)) = false := by decide) (hcd3 : (z == ("__classdict__" : Str)) = false := by decide)
    (hs1 : starEach [.Name x px, .Name y py, .Name z pz] X.env = (false, eval (.Name x px) X.env) :: starEach [.Name y py, .Name z pz] X.env := by rfl) (hs2 : starEach [.Name y py, .Name z pz] X.env = (false, eval (.Name y py) X.env) :: starEach [.Name z pz] X.env := by rfl)
    (hs3 : starEach [.Name z pz] X.env = (false, eval (.Name z pz) X.env) :: starEach [] X.env := by rfl) : WST3 X [.Return (some (.Tuple [.Name x px, .Name y py, .Name z pz] kk p2)) pos] ρ Z := fun B σ G H F hW S k0 => by
  refine wSs_of (pss_one (ps_ret (pe_tup (pa_cons (pe_var hi hv1 hd1 hcd1) (pa_cons (pe_var hj hv2 hd2 hcd2) (pa_cons (pe_var hk hv3 hd3 hcd3) pa_nil hs3) hs2) hs1)))) ?_
  obtain ⟨v1, e1, i1⟩ := S.valAt hi0
  obtain ⟨l2, e2, g2, b2, xs2, h2, o2⟩ := S.ownAt hj0
  obtain ⟨l3, e3, g3, b3, xs3, h3, o3⟩ := S.ownAt hk0
  have b2 : B.H l2 = none := by simpa using b2
  have b3 : B.H l3 = none := by simpa using b3
  have n23 : l2 ≠ l3 := fun z => S.dist j k _ _ _ _ hjk hj0 hk0 (by rw [e2, e3, z])
  refine ⟨v1, e1, .ref l2, e2, .ref l3, e3, by show 3 ≤ sizeLine; decide, fun T hT => ?_⟩
  have t2 : T ≠ l2 := by rintro rfl; rw [h2] at hT; cases hT
  have t3 : T ≠ l3 := by rintro rfl; rw [h3] at hT; cases hT
  have gT : G T = none := by
    cases r : G T with
    | none => rfl
    | some w => rw [S.ex T w r] at hT; cases hT
  let G' : Hp := L2.upd (L2.upd (L2.upd G l2 (.lst xs2)) l3 (.lst xs3)) T (.tup [v1, .ref l2, .ref l3])
  have x1 : Ex G (L2.upd G l2 (.lst xs2)) := Ex.new g2
  have x2 : Ex (L2.upd G l2 (.lst xs2)) (L2.upd (L2.upd G l2 (.lst xs2)) l3 (.lst xs3)) := Ex.new (by rw [upd_ne (Ne.symm n23)]; exact g3)
  have x3 : Ex (L2.upd (L2.upd G l2 (.lst xs2)) l3 (.lst xs3)) G' := Ex.new (by rw [upd_ne t3, upd_ne t2]; exact gT)
  have xx : Ex G G' := (x1.trans x2).trans x3
  have eT : G' T = some (.tup [v1, .ref l2, .ref l3]) := upd_same
  have e3' : G' l3 = some (.lst xs3) := x3 _ _ upd_same
  have e2' : G' l2 = some (.lst xs2) := x3 _ _ (x2 _ _ upd_same)
  have inv : ∀ a o, G' a = some o → G a = some o ∨ (a = T ∧ o = .tup [v1, .ref l2, .ref l3]) ∨ (a = l3 ∧ o = .lst xs3) ∨ (a = l2 ∧ o = .lst xs2) := fun a o h => by
    by_cases q1 : a = T
    · subst q1; rw [eT] at h; cases h; exact .inr (.inl ⟨rfl, rfl⟩)
    · by_cases q2 : a = l3
      · subst q2; rw [e3'] at h; cases h; exact .inr (.inr (.inl ⟨rfl, rfl⟩))
      · by_cases q3 : a = l2
        · subst q3; rw [e2'] at h; cases h; exact .inr (.inr (.inr ⟨rfl, rfl⟩))
        · left
          have h : L2.upd (L2.upd (L2.upd G l2 (.lst xs2)) l3 (.lst xs3)) T _ a = some o := h
          rw [upd_ne q1, upd_ne q2, upd_ne q3] at h
          exact h
  have bT : B.H T = none := S.kn T hT
  have fin : Fin B G' (L2.upd H T (.tup [v1, .ref l2, .ref l3])) := by
    refine ⟨fun a o h => ?_, fun a o h hn => ?_, fun a o h => ?_, S.bg.trans xx, fun l hl => by rw [hW] at hl; cases hl⟩
    · rcases inv a o h with h0 | ⟨rfl, rfl⟩ | ⟨rfl, rfl⟩ | ⟨rfl, rfl⟩
      · have q : a ≠ T := by rintro rfl; rw [gT] at h0; cases h0
        rw [upd_ne q]; exact S.ex a o h0
      · exact upd_same
      · rw [upd_ne (Ne.symm t3)]; exact h3
      · rw [upd_ne (Ne.symm t2)]; exact h2
    · have q : a ≠ T := by rintro rfl; rw [bT] at h; cases h
      rw [upd_ne q]; exact S.fr a o h hn
    · rcases inv a o h with h | ⟨rfl, rfl⟩ | ⟨rfl, rfl⟩ | ⟨rfl, rfl⟩
      · exact S.nw a o h
      · exact .inr bT
      · exact .inr b3
      · exact .inr b2
  refine k0 _ _ G' _ q fin ⟨T, _, rfl, eT, v1, _, rfl, Is.mono xx _ _ i1, .ref l2, _, rfl, ⟨l2, xs2, rfl, e2', IsA.mono xx _ _ o2⟩, .ref l3, [], rfl, ⟨l3, xs3, rfl, e3', IsA.mono xx _ _ o3⟩, rfl⟩ ⟨T, v1, .ref l2, l3, xs3, rfl, eT, e3', b3⟩
variable {P : Program} {w : World} {K : PySem.W.Frag} {mg : Str → Option Value} {base : Heap}
theorem fnT3 {qual : Str} {st : Stmt} {f : Addr} {fd : FuncData} {k : Nat} {c : List D → (D → Prop) → Prop} (F : Fun K x qual st f fd) (S : FnScope N ps (defScope st)) (len : ∀ ds Z, c ds Z → ds.length = ps.length)
    (h : ∀ (cdv : Value) (A : Around) (outer : List Env) (s : Shared) (H : Hp) (E : XK) (ds : List D) (Z : D → Prop), Room k (A.deeper (envOfC qual (defScope st) s.heap.objs.size f cdv)) → c ds Z →
      WST3 (CxD P w K mg base N qual st f cdv A outer s H E) (defBody st) (rho0 N ds) Z) : FnOk P w K mg base CX0 (k + 1) f fd ps (spT3 c) := by
  refine F.ok S (fun vs H Q E hs => ?_) fun cdv A outer s H vs Q E hr hs => ?_
  · obtain ⟨G, ds, Z, _, i, hc, _⟩ := hs
    rw [i.length]
    exact len ds Z hc
  · obtain ⟨G, ds, Z, ex, i, hc, q⟩ := hs
    exact ⟨_, pss_w, h cdv A outer s H E ds Z hr hc ⟨H, G, [], 0⟩ _ G H _ rfl (sta_start ex i) fun v d G' H' z F iv fv => q v d G' H' z ⟨F.bg, fun a o e => F.fr a o e (by simp), F.ex, F.nw⟩ iv fv⟩
theorem Df.ofT3 {k : Nat} {c : List D → (D → Prop) → Prop} (F : Df P w K mg base k x ps (spT3 c)) : Df P w K mg base k x ps (spD c) := by
  obtain ⟨f, fd, F, r⟩ := F.ex
  exact ⟨f, fd, F.imp fun vs H Q E ⟨G, ds, Z, ex, i, hc, q⟩ => ⟨G, ds, Z, ex, i, hc, fun v d G' H' z gr iv _ => q v d G' H' z gr iv⟩, r⟩
/-- a def that hands back its own list, as one whose value is new -/
theorem FnOk.ofO {k : Nat} {f : Addr} {fd : FuncData} {c : List D → (List D → Prop) → Prop} (F : FnOk P w K mg base CX0 k f fd ps (spO c)) : FnOk P w K mg base CX0 k f fd ps (spN fun ds Z => c ds fun es => Z (.lst es)) :=
  F.imp fun vs H Q E ⟨G, ds, Z, ex, i, hc, q⟩ => ⟨G, ds, _, ex, i, hc, fun l es xs G' H' z g1 g2 g3 g4 n1 n2 hl ia => by
    have gx : Ex G' (L2.upd G' l (.lst xs)) := Ex.new n1
    refine q (.ref l) (.lst es) (L2.upd G' l (.lst xs)) H' z ⟨g1.trans gx, g3, fun a o h => ?_, fun a o h => ?_⟩ ⟨l, xs, rfl, upd_same, IsA.mono gx _ _ ia⟩ ⟨l, rfl, n2⟩
    · by_cases e : a = l
      · subst e; rw [upd_same] at h; cases h; exact hl
      · rw [upd_ne e] at h; exact g2 a o h
    · by_cases e : a = l
      · subst e; exact .inr n2
      · rw [upd_ne e] at h; exact g4 a o h⟩
theorem Df.ofO {k : Nat} {c : List D → (List D → Prop) → Prop} (F : Df P w K mg base k x ps (spO c)) : Df P w K mg base k x ps (spN fun ds Z => c ds fun es => Z (.lst es)) := by
  obtain ⟨f, fd, F, r⟩ := F.ex
  exact ⟨f, fd, FnOk.ofO F, r⟩
/-- x, x, z = f(e, ..); return z: a new list of whole numbers -/
theorem wso_unp3 {c : List D → (D → Prop) → Prop} {k : Nat} {f0 : Str} {pf pp pos1 p4 : Pos} {e : Expr} {es : List Expr} {Z : List D → Prop} (i j : Nat) (S0 : FnScope N ps sc) {ps0 : List Str} (F : Df X.prog X.w X.K X.mg X.base k f0 ps0 (spT3 c)) (hr : Room k X.A)
    (h : WA true true X (e :: es) ρ fun ds _ => c ds fun d => ∃ (a b : D) (ns : List Int), d = .tup [a, b, .lst (ns.map D.int)] ∧ Z (ns.map D.int)) (hjρ : j < ρ.length)
    (hg : Gl X f0 := by rfl) (hdb : (f0 == ("__debug__" : Str)) = false := by decide)
    (he : starEach (e :: es) X.env = (false, eval e X.env) :: starEach es X.env := by rfl) (hpl : (backTo pp (starEach es X.env)).any (·.1) = false := by rfl)
    (hXN : X.N = N := by rfl) (hc : X.calm = true := by rfl) (hi : X.N[i]? = some x := by rfl) (hj : X.N[j]? = some z := by rfl)
    (hx : Loc X.env.scope x := by first | exact .inl rfl | exact .inr rfl) (hz : Loc X.env.scope z := by first | exact .inl rfl | exact .inr rfl) (hf : X.fn x = true ∨ X.env.scope.names.lookup x = some .local := by first | exact .inl rfl | exact .inr rfl) (hf3 : X.fn z = true ∨ X.env.scope.names.lookup z = some .local := by first | exact .inl rfl | exact .inr rfl)
    (h1 : (assignEach [.Name x px, .Name x py, .Name z pz] X.env).length = 3 := by rfl) (h2 : (assignEach [.Name x px, .Name x py, .Name z pz] X.env).findIdx? (·.1) = none := by rfl) (h3 : AE X (.Name x px) [.Name x py, .Name z pz] := by rfl) (h4 : AE X (.Name x py) [.Name z pz] := by rfl) (h6 : AE X (.Name z pz) [] := by rfl)
    (hs : swapsWithSole [.Tuple [.Name x px, .Name x py, .Name z pz] kk pt] (.Call (.Name f0 pf) (e :: es) [] pp) pos1.line X.env = pure false := by rfl) (hw : swappedStores [.Tuple [.Name x px, .Name x py, .Name z pz] kk pt] (.Call (.Name f0 pf) (e :: es) [] pp) X.env = pure none := by rfl)
    (h5 : (assignEach [.Tuple [.Name x px, .Name x py, .Name z pz] kk pt] X.env).map (·.2) = [assign (.Tuple [.Name x px, .Name x py, .Name z pz] kk pt) X.env] := by rfl)
    (hv : Vis X.env.scope z := by first | exact .inl rfl | exact .inr (.inl rfl) | exact .inr (.inr rfl)) (hd : (z == ("__debug__" : Str)) = false := by decide) (hcd : (z == ("__classdict__" : Str)) = false := by decide) :
    WSO X [.Assign [.Tuple [.Name x px, .Name x py, .Name z pz] kk pt] (.Call (.Name f0 pf) (e :: es) [] pp) pos1, .Return (some (.Name z p4)) pos] ρ Z := fun B σ G H F2 hW S k0 => by
  obtain ⟨f, fd, F, hm, hk, hb⟩ := F.ex
  refine wSs_of (pss_cons (ps_asg (pe_call F hr hg hm hk hb .nil pass0 pa_w hdb he hpl) (pg_tup hc (pgs_cons (pg_name (hXN ▸ S0.nd) hi hx hf) (pgs_cons (pg_name (hXN ▸ S0.nd) hi hx hf) (pgs_cons (pg_name (hXN ▸ S0.nd) hj hz hf3) pgs_nil h6) h4) h3) h1 h2) hs hw h5) (pss_one (ps_ret (pe_var hj hv hd hcd)))) ?_
  refine h B σ G H S _ fun vs ds ρ' G' H' q S' y0 pu ia => ?_
  obtain ⟨rfl, g0⟩ := pu rfl
  refine ⟨G', ds, _, S'.ex, by rw [List.append_nil]; exact ia, q, fun v d G2 H2 zd gr iz fz => ?_⟩
  obtain ⟨a, b, ns, rfl, q2⟩ := zd
  obtain ⟨T, xs, rfl, f1, f2⟩ := iz
  obtain ⟨w1, r1, rfl, j1, w2, r2, rfl, j2, w3, r3, rfl, j3, e4⟩ := f2
  cases e4
  obtain ⟨T', x', y', c, ys, eT, g1, g2, g3⟩ := fz
  cases eT
  rw [f1] at g1
  cases g1
  have S2 := S'.grow gr
  refine ⟨T, _, rfl, .inl (.inl (S2.ex _ _ f1)), rfl, w1, [w2, .ref c], rfl, w2, [.ref c], rfl, .ref c, [], rfl, rfl, ?_⟩
  have hjσ : j < ((σ.set i (some w1)).set i (some w2)).length := by rw [List.length_set, List.length_set, S.len]; exact hjρ
  refine ⟨.ref c, List.getElem?_set_self hjσ, ?_⟩
  obtain ⟨c', ys', ec, k1, k2⟩ := j3
  cases ec
  rw [g2] at k1
  cases k1
  have Hc : H c = none := by
    cases r : H c with
    | none => rfl
    | some o => rw [g0.h c o r] at g3; cases g3
  have Gc : G c = none := by
    cases r : G c with
    | none => rfl
    | some o => rw [S.ex c o r] at Hc; cases Hc
  have eys : ys = ns.map V.int := k2.ints
  exact k0 c _ ys G H2 q2 ⟨fun a o h => S2.ex a o (gr.g a o (y0 a o h)), S2.fr, S.nw, S.bg, fun l hl => by rw [hW] at hl; cases hl⟩ Gc (S.kn c Hc) (S2.ex _ _ g2) (by rw [eys]; exact IsA.of_ints)
/-! ### f(e, .., k = v) -/
structure DfA (P : Program) (w : World) (K : PySem.W.Frag) (mg : Str → Option Value) (base : Heap) (k : Nat) (x : Str) (ps ks : List Str) (sp : Sp) : Prop where
  ex : ∃ f fd, FnOk P w K mg base CX0 k f fd ps sp ∧ mg x = some (.ref f) ∧ PySem.W.keepIn K (.ref f) = true ∧ KBinds K fd ps ks (fun us ws => us ++ ws) (fun vs zs => vs ++ zs)
theorem callA {p g : Bool} {Q : D → Rho → Prop} {k : Nat} {ks : List Str} {c : List D → (D → Prop) → Prop} {pp : Pos} {e : Expr} {es : List Expr} {kws : List Keyword} (F : DfA X.prog X.w X.K X.mg X.base k x ps ks (spD c)) (hr : Room k X.A)
    (h : WA p true X (e :: es) ρ fun ds ρ1 => WK p true X kws ρ1 fun es ρ' => c (ds ++ es) fun d => Q d ρ') (hg : Gl X x := by rfl) (hdb : (x == ("__debug__" : Str)) = false := by decide)
    (hall : (backToKw pos (keywordEach kws X.env)).all (·.1.isSome) = true := by rfl) (hks : (backToKw pos (keywordEach kws X.env)).filterMap (·.1) = ks := by rfl) (he : starEach (e :: es) X.env = (false, eval e X.env) :: starEach es X.env := by rfl)
    (hpl : ((backTo pos (starEach (e :: es) X.env)).any (·.1) || (backToKw pos (keywordEach kws X.env)).any (·.1.isNone)) = false := by rfl) : W p g X (.Call (.Name x pp) (e :: es) kws pos) ρ Q := fun B σ G H S R r => by
  obtain ⟨f, fd, F, hm, hk, hb⟩ := F.ex
  refine wE_of (pe_callK F hr hg hm hk hb pass0 pa_w pk_w hall hks hdb he hpl) ?_
  refine h B σ G H S _ fun vs ds ρ1 G1 H1 q1 S1 x1 pu1 i1 => ?_
  refine q1 B σ G1 H1 S1 _ fun zs fs ρ' G' H' q S' x2 pu2 i2 => ?_
  refine ⟨G', ds ++ fs, fun d => Q d ρ', S'.ex, (IsA.mono x2 _ _ i1).append i2, q, fun v d G2 H2 z gr iz => ?_⟩
  exact r v d ρ' G2 H2 z (S'.grow gr) ((x1.trans x2).trans gr.g) (fun w => ⟨(pu2 w).1.trans (pu1 w).1, ((pu1 w).2.trans (pu2 w).2).trans gr⟩) (is_h (S'.grow gr) iz)
end
end DD

namespace DD
open PySem PySem.Spec PyProof.Rows L2
section
variable {X : Cx} {ρ : Rho} {E : DE} {pos : Pos} {N ps : List Str} {sc scope : Scope} {x y z u : Str} {px py pz pu pt p2 p3 p4 : Pos} {kk k2 : Nat} {a b c : Expr}
theorem nown {ρ : Rho} {i m : Nat} {d : D} {lc : Bool} {o : Own} (h : (ρ.set i (.val d))[m]? = some (.own lc o)) : i ≠ m ∧ ρ[m]? = some (.own lc o) := by
  by_cases q : i = m
  · subst q
    rw [List.getElem?_set] at h
    simp only [if_true] at h
    split at h <;> cases h
  · rw [List.getElem?_set_ne q] at h
    exact ⟨q, h⟩
/-- x, y, z, u = a, b, [c], []: the last two own lists -/
theorem s_unp4L (i j k l : Nat) (S0 : FnScope N ps sc) (hkl : k ≠ l) (hik : i ≠ k) (hjk : j ≠ k) (hil : i ≠ l) (hjl : j ≠ l)
    (h : W true true X a ρ fun d1 _ => W true true X b ρ fun d2 _ => W true true X c ρ fun d3 _ => E.nx ((((ρ.set i (.val d1)).set j (.val d2)).set k (.own true (.lst [d3]))).set l (.own true (.lst []))))
    (hXN : X.N = N := by rfl) (hc : X.calm = true := by rfl) (hi : X.N[i]? = some x := by rfl) (hj : X.N[j]? = some y := by rfl) (hk : X.N[k]? = some z := by rfl) (hl : X.N[l]? = some u := by rfl)
    (hx : Loc X.env.scope x := by first | exact .inl rfl | exact .inr rfl) (hy : Loc X.env.scope y := by first | exact .inl rfl | exact .inr rfl) (hz : Loc X.env.scope z := by first | exact .inl rfl | exact .inr rfl) (hu : Loc X.env.scope u := by first | exact .inl rfl | exact .inr rfl)
    (hf : X.fn x = true ∨ X.env.scope.names.lookup x = some .local := by first | exact .inl rfl | exact .inr rfl) (hf2 : X.fn y = true ∨ X.env.scope.names.lookup y = some .local := by first | exact .inl rfl | exact .inr rfl) (hf3 : X.fn z = true ∨ X.env.scope.names.lookup z = some .local := by first | exact .inl rfl | exact .inr rfl) (hf4 : X.fn u = true ∨ X.env.scope.names.lookup u = some .local := by first | exact .inl rfl | exact .inr rfl)
    (h1 : (assignEach [.Name x px, .Name y py, .Name z pz, .Name u pu] X.env).length = 4 := by rfl) (h2 : (assignEach [.Name x px, .Name y py, .Name z pz, .Name u pu] X.env).findIdx? (·.1) = none := by rfl)
    (h3 : AE X (.Name x px) [.Name y py, .Name z pz, .Name u pu] := by rfl) (h4 : AE X (.Name y py) [.Name z pz, .Name u pu] := by rfl) (h6 : AE X (.Name z pz) [.Name u pu] := by rfl) (h7 : AE X (.Name u pu) [] := by rfl)
    (hs1 : starEach [a, b, .List [c] p3, .List [] p4] X.env = (false, eval a X.env) :: starEach [b, .List [c] p3, .List [] p4] X.env := by rfl) (hs2 : starEach [b, .List [c] p3, .List [] p4] X.env = (false, eval b X.env) :: starEach [.List [c] p3, .List [] p4] X.env := by rfl)
    (hs3 : starEach [.List [c] p3, .List [] p4] X.env = (false, eval (.List [c] p3) X.env) :: starEach [.List [] p4] X.env := by rfl) (hs4 : starEach [.List [] p4] X.env = (false, eval (.List [] p4) X.env) :: starEach [] X.env := by rfl) (hs5 : starEach [c] X.env = (false, eval c X.env) :: starEach [] X.env := by rfl)
    (hs : swapsWithSole [.Tuple [.Name x px, .Name y py, .Name z pz, .Name u pu] kk pt] (.Tuple [a, b, .List [c] p3, .List [] p4] k2 p2) pos.line X.env = pure false := by rfl) (hw : swappedStores [.Tuple [.Name x px, .Name y py, .Name z pz, .Name u pu] kk pt] (.Tuple [a, b, .List [c] p3, .List [] p4] k2 p2) X.env = pure none := by rfl)
    (h5 : (assignEach [.Tuple [.Name x px, .Name y py, .Name z pz, .Name u pu] kk pt] X.env).map (·.2) = [assign (.Tuple [.Name x px, .Name y py, .Name z pz, .Name u pu] kk pt) X.env] := by rfl) :
    WS X (.Assign [.Tuple [.Name x px, .Name y py, .Name z pz, .Name u pu] kk pt] (.Tuple [a, b, .List [c] p3, .List [] p4] k2 p2) pos) ρ E := fun B σ G H F S L => by
  refine wS_of (ps_asg (pe_tup (pa_cons pe_w (pa_cons pe_w (pa_cons (pe_lst (pa_cons pe_w pa_nil hs5)) (pa_cons (pe_lst pa_nil) pa_nil hs4) hs3) hs2) hs1)) (pg_tup hc (pgs_cons (pg_name (hXN ▸ S0.nd) hi hx hf) (pgs_cons (pg_name (hXN ▸ S0.nd) hj hy hf2) (pgs_cons (pg_name (hXN ▸ S0.nd) hk hz hf3) (pgs_cons (pg_name (hXN ▸ S0.nd) hl hu hf4) pgs_nil h7) h6) h4) h3) h1 h2) hs hw h5) ?_
  refine h B σ G H S _ fun v1 d1 ρ1 G1 H1 q1 S1 x1 pu1 i1 => ?_
  obtain ⟨rfl, _⟩ := pu1 rfl
  refine q1 B σ G1 H1 S1 _ fun v2 d2 ρ2 G2 H2 q2 S2 x2 pu2 i2 => ?_
  obtain ⟨rfl, _⟩ := pu2 rfl
  refine q2 B σ G2 H2 S2 _ fun v3 d3 ρ3 G3 H3 q3 S3 x3 pu3 i3 => ?_
  obtain ⟨rfl, _⟩ := pu3 rfl
  have i1 : Is G1 d1 v1 := i1
  have i2 : Is G2 d2 v2 := i2
  have i3 : Is G3 d3 v3 := i3
  refine ⟨by show 1 ≤ sizeLine; decide, fun l3 hl3 => ⟨Nat.zero_le _, fun l4 hl4 => ⟨by show 4 ≤ sizeLine; decide, fun T hT => ?_⟩⟩⟩
  obtain ⟨a1, a2, a3⟩ := new_own S3 hl3
  have S4 := S3.grow (Grow.own (o := .lst [v3]) S3.ex hl3)
  obtain ⟨b1, b2, b3⟩ := new_own S4 hl4
  have S5 := S4.grow (Grow.own (o := .lst []) S4.ex hl4)
  have S6 := S5.grow (Grow.own (o := .tup [v1, v2, .ref l3, .ref l4]) S5.ex hT)
  have n34 : l3 ≠ l4 := by rintro rfl; rw [upd_same] at hl4; cases hl4
  have nT3 : l3 ≠ T := by rintro rfl; rw [upd_ne n34, upd_same] at hT; cases hT
  have nT4 : l4 ≠ T := by rintro rfl; rw [upd_same] at hT; cases hT
  have g3 : L2.upd (L2.upd (L2.upd H3 l3 (.lst [v3])) l4 (.lst [])) T (.tup [v1, v2, .ref l3, .ref l4]) l3 = some (.lst [v3]) := by rw [upd_ne nT3, upd_ne n34, upd_same]
  have g4 : L2.upd (L2.upd (L2.upd H3 l3 (.lst [v3])) l4 (.lst [])) T (.tup [v1, v2, .ref l3, .ref l4]) l4 = some (.lst []) := by rw [upd_ne nT4, upd_same]
  refine ⟨T, _, rfl, .inl (.inl upd_same), rfl, v1, [v2, .ref l3, .ref l4], rfl, v2, [.ref l3, .ref l4], rfl, .ref l3, [.ref l4], rfl, .ref l4, [], rfl, rfl, ?_⟩
  have S7 := (S6.set (i := i) (Is.mono (x2.trans x3) _ _ i1)).set (i := j) (Is.mono x3 _ _ i2)
  have S8 := S7.setOwn (i := k) (l := l3) (o := .lst [d3]) a1 a2 ⟨[v3], g3, v3, [], rfl, i3, rfl⟩ (fun m lc w hm hs => by
    obtain ⟨q1, hm⟩ := nown hm
    obtain ⟨q2, hm⟩ := nown hm
    rw [List.getElem?_set_ne q1, List.getElem?_set_ne q2] at hs
    exact a3 m hs lc w hm)
  have S9 := S8.setOwn (i := l) (l := l4) (o := .lst []) b1 b2 ⟨[], g4, rfl⟩ (fun m lc w hm hs => by
    by_cases qk : k = m
    · subst qk
      by_cases hσ : k < ((σ.set i (some v1)).set j (some v2)).length
      · rw [List.getElem?_set_self hσ] at hs
        have : l3 = l4 := by injection hs with hs; injection hs with hs; injection hs
        exact n34 this
      · rw [List.getElem?_eq_none (by rw [List.length_set]; omega)] at hs; cases hs
    · rw [List.getElem?_set_ne qk] at hm hs
      obtain ⟨q1, hm⟩ := nown hm
      obtain ⟨q2, hm⟩ := nown hm
      rw [List.getElem?_set_ne q1, List.getElem?_set_ne q2] at hs
      exact b3 m hs lc w hm)
  exact L.nx _ _ G3 _ q3 S9 ((x1.trans x2).trans x3)
/-- x, y = a, b: the first an own list -/
theorem s_unp2O (i j : Nat) (S0 : FnScope N ps sc) (hij : i ≠ j)
    (h : WF X a ρ fun o ρ1 => W true true X b ρ1 fun d _ => E.nx ((ρ1.set j (.val d)).set i (.own true o)))
    (hXN : X.N = N := by rfl) (hc : X.calm = true := by rfl) (hi : X.N[i]? = some x := by rfl) (hj : X.N[j]? = some y := by rfl)
    (hx : Loc X.env.scope x := by first | exact .inl rfl | exact .inr rfl) (hy : Loc X.env.scope y := by first | exact .inl rfl | exact .inr rfl)
    (hf : X.fn x = true ∨ X.env.scope.names.lookup x = some .local := by first | exact .inl rfl | exact .inr rfl) (hf2 : X.fn y = true ∨ X.env.scope.names.lookup y = some .local := by first | exact .inl rfl | exact .inr rfl)
    (h1 : (assignEach [.Name x px, .Name y py] X.env).length = 2 := by rfl) (h2 : (assignEach [.Name x px, .Name y py] X.env).findIdx? (·.1) = none := by rfl) (h3 : AE X (.Name x px) [.Name y py] := by rfl) (h4 : AE X (.Name y py) [] := by rfl)
    (hs1 : starEach [a, b] X.env = (false, eval a X.env) :: starEach [b] X.env := by rfl) (hs2 : starEach [b] X.env = (false, eval b X.env) :: starEach [] X.env := by rfl)
    (hs : swapsWithSole [.Tuple [.Name x px, .Name y py] kk pt] (.Tuple [a, b] k2 p2) pos.line X.env = pure false := by rfl) (hw : swappedStores [.Tuple [.Name x px, .Name y py] kk pt] (.Tuple [a, b] k2 p2) X.env = pure none := by rfl)
    (h5 : (assignEach [.Tuple [.Name x px, .Name y py] kk pt] X.env).map (·.2) = [assign (.Tuple [.Name x px, .Name y py] kk pt) X.env] := by rfl) :
    WS X (.Assign [.Tuple [.Name x px, .Name y py] kk pt] (.Tuple [a, b] k2 p2) pos) ρ E := fun B σ G H F S L => by
  refine wS_of (ps_asg (pe_tup (pa_cons pe_w (pa_cons pe_w pa_nil hs2) hs1)) (pg_tup hc (pgs_cons (pg_name (hXN ▸ S0.nd) hi hx hf) (pgs_cons (pg_name (hXN ▸ S0.nd) hj hy hf2) pgs_nil h4) h3) h1 h2) hs hw h5) ?_
  refine h B σ G H S _ fun l o ρ1 G1 H1 q1 S1 x1 gl bl nw ok => ?_
  refine q1 B σ G1 H1 S1 _ fun v2 d2 ρ2 G2 H2 q2 S2 x2 pu2 i2 => ?_
  obtain ⟨rfl, gr⟩ := pu2 rfl
  have i2 : Is G2 d2 v2 := i2
  refine ⟨by show 2 ≤ sizeLine; decide, fun T hT => ?_⟩
  obtain ⟨w0, hw0⟩ := ok.known
  have gl2 : G2 l = none := by
    cases r : G2 l with
    | none => rfl
    | some o' =>
      rcases gr.n l o' r with q | q
      · rw [gl] at q; cases q
      · rw [hw0] at q; cases q
  have S3 := S2.grow (Grow.own (o := .tup [.ref l, v2]) S2.ex hT)
  have nT : l ≠ T := by rintro rfl; rw [gr.h l w0 hw0] at hT; cases hT
  refine ⟨T, _, rfl, .inl (.inl upd_same), rfl, .ref l, [v2], rfl, v2, [], rfl, rfl, ?_⟩
  have S4 := S3.set (i := j) i2
  have S5 := S4.setOwn (i := i) (l := l) (o := o) gl2 bl (ok.mono gr.g fun u hu => by rw [upd_ne nT]; exact gr.h l u hu) (fun m lc w hm hs => by
    obtain ⟨q1, hm⟩ := nown hm
    rw [List.getElem?_set_ne q1] at hs
    exact nw m hs lc w hm)
  have e : (σ.set i (some (.ref l))).set j (some v2) = (σ.set j (some v2)).set i (some (.ref l)) := List.set_comm _ _ hij
  rw [e]
  exact L.nx _ _ G2 _ q2 S5 (x1.trans x2)
end
end DD

namespace DD
open PySem PySem.Spec PyProof.Rows L2
section
variable {p g : Bool} {X : Cx} {ρ : Rho} {Q : D → Rho → Prop} {pos : Pos}
/-- o.index(e): a list of whole numbers, one that is there -/
theorem w_index {o e : Expr} {apos : Pos} (h : W p true X o ρ fun d ρ1 => ∃ l : List Int, d = .lst (l.map D.int) ∧ W p true X e ρ1 fun k ρ2 => ∃ (i : Int) (j : Nat), k = .int i ∧ l[j]? = some i ∧ (∀ m, m < j → l[m]? ≠ some i) ∧ Q (.int (j : Int)) ρ2)
    (hbase : attributeBase o "index" X.env (eval o X.env) = eval o X.env := by rfl)
    (hfew : ((backTo pos (starEach [e] X.env)).all (fun x => !x.1) && (backToKw pos (keywordEach [] X.env)).all (fun x => x.1.isSome) && decide (([e] : List Expr).length + ([] : List Keyword).length + (if ([] : List Keyword).isEmpty then 0 else 1) < 30)) = true := by rfl)
    (hline : (apos.endLine == pos.line) = true := by rfl) (hst : starEach [e] X.env = (false, eval e X.env) :: starEach [] X.env := by rfl) (hplain : (backTo pos (starEach [] X.env)).any (·.1) = false := by rfl) :
    W p g X (.Call (.Attribute o "index" apos) [e] [] pos) ρ Q := fun B σ G H S R r => by
  refine wE_of (pe_bm PySem.F.plainAttrs_list PySem.F.slot_list_index PySem.F.type_list_index mt_index pe_w (pa_cons pe_w pa_nil hst) hbase hfew hline hst hplain) ?_
  refine h B σ G H S _ fun v d ρ1 G1 H1 q S1 y1 p1 i1 => ?_
  obtain ⟨l, rfl, q⟩ := q
  obtain ⟨a, xs, rfl, e2, e3⟩ := i1
  have ex := e3.ints
  subst ex
  refine ⟨.inl ⟨rfl, _, .inl (.inl (S1.ex _ _ e2))⟩, ?_⟩
  refine q B σ G1 H1 S1 _ fun v k ρ2 G2 H2 q2 S2 y2 p2 i2 => ?_
  obtain ⟨i, j, rfl, h1, h2, q2⟩ := q2
  cases (i2 : v = .int i)
  refine ⟨a, l.map V.int, .int i, j, .int i, rfl, rfl, .inl (.inl (S2.ex _ _ (y2 _ _ e2))), rfl, ?_, ?_, ?_, fun m z' hm hz => ?_, ?_⟩
  · rw [List.all_map]
    exact List.all_eq_true.mpr fun _ _ => rfl
  · rw [List.getElem?_map, h1]; rfl
  · simp [eqV]
  · rw [List.getElem?_map] at hz
    cases e : l[m]? with
    | none => rw [e] at hz; cases hz
    | some t =>
      rw [e] at hz
      cases hz
      have ne : t ≠ i := fun y => h2 m hm (by rw [e, y])
      simp [eqV, ne]
  · exact r _ _ ρ2 G2 H2 q2 S2 (y1.trans y2) (fun w => ⟨(p2 w).1.trans (p1 w).1, ((p1 w).2.trans (p2 w).2)⟩) rfl
end
end DD

namespace DD
open PySem PySem.Spec PyProof.Rows L2
/-! ### what stands in an own dict behind a put -/
theorem lookD_nil (k : Key) : lookD [] k = none := rfl
theorem lookD_cons (k k' : Key) (d : D) (kvs : List (Key × D)) : lookD ((k', d) :: kvs) k = if k' = k then some d else lookD kvs k := by
  unfold lookD
  by_cases h : k' = k
  · rw [List.find?_cons_of_pos (by simpa using h), if_pos h]; rfl
  · rw [List.find?_cons_of_neg (by simpa using h), if_neg h]
theorem any_look (kvs : List (Key × D)) (k : Key) : (kvs.any fun kv => decide (kv.1 = k)) = (lookD kvs k).isSome := by
  induction kvs with
  | nil => rfl
  | cons a kvs ih =>
    obtain ⟨k', d⟩ := a
    rw [lookD_cons, List.any_cons, ih]
    by_cases h : k' = k
    · rw [if_pos h, decide_eq_true h]; rfl
    · rw [if_neg h, decide_eq_false h]; rfl
theorem look_map (kvs : List (Key × D)) (k k' : Key) (d : D) : lookD (kvs.map fun kv => if kv.1 = k then (kv.1, d) else kv) k' = if k' = k then (lookD kvs k').map fun _ => d else lookD kvs k' := by
  induction kvs with
  | nil => rw [List.map_nil, lookD_nil]; split <;> rfl
  | cons a kvs ih =>
    obtain ⟨k0, e⟩ := a
    rw [List.map_cons]
    show lookD ((if k0 = k then (k0, d) else (k0, e)) :: kvs.map fun kv => if kv.1 = k then (kv.1, d) else kv) k' = _
    by_cases h0 : k0 = k
    · rw [if_pos h0, lookD_cons, lookD_cons, ih]
      by_cases h1 : k0 = k'
      · rw [if_pos h1, if_pos h1, if_pos (h1.symm.trans h0)]; rfl
      · rw [if_neg h1, if_neg h1]
    · rw [if_neg h0, lookD_cons, lookD_cons, ih]
      by_cases h1 : k0 = k'
      · rw [if_pos h1, if_pos h1, if_neg (fun z => h0 (h1.trans z))]
      · rw [if_neg h1, if_neg h1]
theorem look_app (kvs : List (Key × D)) (k k' : Key) (d : D) : lookD (kvs ++ [(k, d)]) k' = match lookD kvs k' with | some e => some e | none => if k = k' then some d else none := by
  induction kvs with
  | nil => rw [List.nil_append, lookD_cons, lookD_nil]
  | cons a kvs ih =>
    obtain ⟨k0, e⟩ := a
    rw [List.cons_append, lookD_cons, lookD_cons, ih]
    by_cases h1 : k0 = k'
    · rw [if_pos h1, if_pos h1]
    · rw [if_neg h1, if_neg h1]
theorem lookD_put (kvs : List (Key × D)) (k k' : Key) (d : D) : lookD (putD kvs k d) k' = if k' = k then some d else lookD kvs k' := by
  unfold putD
  rw [any_look]
  cases h : (lookD kvs k).isSome with
  | true =>
    show lookD (kvs.map _) k' = _
    rw [look_map]
    by_cases e : k' = k
    · subst e
      rw [if_pos rfl, if_pos rfl]
      obtain ⟨x, hx⟩ := Option.isSome_iff_exists.mp h
      rw [hx]; rfl
    · rw [if_neg e, if_neg e]
  | false =>
    show lookD (kvs ++ [(k, d)]) k' = _
    rw [look_app]
    by_cases e : k' = k
    · subst e
      have : lookD kvs k' = none := by
        cases q : lookD kvs k' with
        | none => rfl
        | some x => rw [q] at h; cases h
      rw [this, if_pos rfl]
    · rw [if_neg e, if_neg (fun z => e z.symm)]
      cases lookD kvs k' <;> rfl
end DD

namespace DD
open PySem PySem.Spec PyProof.Rows L2
section
variable {p g : Bool} {X : Cx} {ρ : Rho} {Q : D → Rho → Prop} {pos : Pos} {Z : D → Prop}
/-- x is not None -/
theorem o_isnot {x : D} {b : Bool} (h : ∀ H v, Is H x v → (!decide (v = V.non)) = b) (q : Z (.bl b)) : Op2 g X (compareOp .IsNot) x .non Z := by
  intro G H v u R ex i j k
  have e : u = V.non := Is.sc (d := .non) rfl j
  subst e
  refine ⟨_, op_notN, rfl, ?_⟩
  rw [h _ _ i]
  exact k (.bl b) (.bl b) G H q (Grow.refl ex) (Is.of_sc (d := .bl b) rfl)
theorem o_isnI {i : Int} (q : Z (.bl true)) : Op2 g X (compareOp .IsNot) (.int i) .non Z := o_isnot (fun H v h => by cases (Is.sc (d := .int i) rfl h); rfl) q
theorem o_isnN (q : Z (.bl false)) : Op2 g X (compareOp .IsNot) .non .non Z := o_isnot (fun H v h => by cases (Is.sc (d := .non) rfl h); rfl) q
theorem o_isnL {xs : List D} (q : Z (.bl true)) : Op2 g X (compareOp .IsNot) (.lst xs) .non Z := o_isnot (fun H v h => by obtain ⟨a, ys, rfl, _⟩ := h; rfl) q
/-- d[e], d an own dict, a whole number there -/
theorem w_dgi {i : Nat} {x : Str} {e : Expr} {p2 : Pos} {lc : Bool} (hu : X.A.units + 1 < cLine)
    (h : W true true X e ρ fun d _ => ∃ (n : Int) (kvs : List (Key × D)) (z : Int), d = .int n ∧ ρ[i]? = some (.own lc (.dic kvs)) ∧ lookD kvs (.inl n) = some (.int z) ∧ Q (.int z) ρ)
    (hr0 : ∃ kvs, ρ[i]? = some (.own lc (.dic kvs)))
    (hN : X.N[i]? = some x := by rfl) (hv : Vis X.env.scope x := by first | exact .inl rfl | exact .inr (.inl rfl) | exact .inr (.inr rfl)) (hd : (x == ("__debug__" : Str)) = false := by decide) (hcd : (x == ("__classdict__" : Str)) = false := by decide)
    (hs : NoSl e := by exact fun _ _ => rfl) : W p g X (.Subscript (.Name x p2) e pos) ρ Q := fun B σ G H S R r => by
  refine wE_of (pe_dget hu pe_w pe_w hs) ?_
  obtain ⟨kvs0, hr0⟩ := hr0
  refine own_name hN hv hd hcd hr0 S fun l el ok => ?_
  refine h B σ G H S _ fun u k ρ2 G2 H2 q2 S2 y2 pu2 iu => ?_
  obtain ⟨e2, gr2⟩ := pu2 rfl
  subst e2
  obtain ⟨n, kvs, z, rfl, hr, hl, q2⟩ := q2
  obtain ⟨l', el', gl, bl, ks, h1, h2⟩ := S2.ownAt hr
  have : l' = l := by rw [el] at el'; cases el'; rfl
  subst this
  cases (iu : u = .int n)
  refine ⟨l', .int z, rfl, ?_, r _ _ ρ2 G2 H2 q2 S2 y2 (fun _ => ⟨rfl, gr2⟩) (is_h S2 (Is.of_sc (d := .int z) rfl))⟩
  have dg := DGet.k (k := Sum.inl n) h1
  rcases h2.val (k := Sum.inl n) with ⟨d, v, a1, a2, a3⟩ | ⟨a1, a2⟩
  · have a1 : lookD kvs (.inl n) = some d := a1
    rw [hl] at a1
    cases a1
    cases (Is.sc (d := .int z) rfl a3)
    rw [a2] at dg
    exact dg
  · have a1 : lookD kvs (.inl n) = none := a1
    rw [hl] at a1
    cases a1
end
end DD

namespace DD
open PySem PySem.Spec PyProof.Rows L2
/-! ### comprehensions whose elements draw -/
section
variable {p g : Bool} {X : Cx} {ρ : Rho} {Q : D → Rho → Prop} {pos : Pos}
def lkS : Slot → Slot
  | .own true _ => .un
  | s => s
/-- own things of the def left out -/
def lk (ρ : Rho) : Rho := ρ.map lkS
theorem lk_get {ρ : Rho} {j : Nat} {s : Slot} (h : (lk ρ)[j]? = some s) : ∃ t, ρ[j]? = some t ∧ s = lkS t := by
  unfold lk at h
  rw [List.getElem?_map] at h
  cases e : ρ[j]? with
  | none => rw [e] at h; cases h
  | some t => rw [e] at h; cases h; exact ⟨t, rfl, rfl⟩
inductive All2 (P : D → D → Prop) : List D → List D → Prop
  | nil : All2 P [] []
  | snoc {ds zs d z} : All2 P ds zs → P d z → All2 P (ds ++ [d]) (zs ++ [z])
theorem All2.length {P : D → D → Prop} {ds zs : List D} (h : All2 P ds zs) : zs.length = ds.length := by
  induction h with
  | nil => rfl
  | snoc _ _ ih => rw [List.length_append, List.length_append, ih]; rfl
/-- a state within a block that may draw -/
theorem Sta.inner {B : Base} {σ : L2.St} {ρ : Rho} {G H : Hp} {l : Addr} (S : Sta B σ ρ G H) (hp : σ[0]? = some (some (.ref l))) (h0 : ρ[0]? = some (.own false .pot)) (hown : ∀ j o, ρ[j]? = some (.own false o) → j = 0) : Sta ⟨H, G, [l], 0⟩ σ (lk ρ) G H := by
  obtain ⟨l', e1, gl, ll, pl⟩ := S.ownAt h0
  have el : l' = l := by rw [hp] at e1; cases e1; rfl
  subst el
  have one : ∀ {j : Nat} {b : Bool} {o : Own}, (lk ρ)[j]? = some (.own b o) → j = 0 ∧ b = false ∧ o = .pot := fun {j b o} h => by
    obtain ⟨t, ht, e⟩ := lk_get h
    cases t with
    | un => cases e
    | val d => cases e
    | own c u =>
      cases c with
      | true => cases e
      | false =>
        cases e
        have := hown j o ht
        subst this
        rw [h0] at ht
        cases ht
        exact ⟨rfl, rfl, rfl⟩
  refine ⟨by unfold lk; rw [List.length_map]; exact S.len, S.ex, fun a o e _ => e, fun a e => e, fun a o e => .inl e, Ex.refl _, S.ex, fun m hm => ?_, fun j s v h1 h2 => ?_, fun j k l1 l2 o1 o2 jk h1 h2 => ?_⟩
  · have : m = l' := by simpa using hm
    subst this
    obtain ⟨a, b, e, r⟩ := pl
    exact ⟨⟨a, b, e, r⟩, _, e⟩
  · obtain ⟨t, ht, rfl⟩ := lk_get h1
    have k := S.env j t v ht h2
    cases t with
    | un => trivial
    | val d => exact k
    | own b o =>
      cases b with
      | true => trivial
      | false =>
        obtain ⟨rfl, _, rfl⟩ := one h1
        rw [hp] at h2
        cases h2
        exact ⟨l', rfl, gl, List.mem_cons_self, pl⟩
  · exact absurd ((one h1).1.trans (one h2).1.symm) jk
theorem GrowP.seq {l : Addr} {G H G1 H1 G2 H2 : Hp} (hk : ∃ u, H l = some u) (a : GrowP l G H G1 H1) (g : Ex G1 G2) (h : ∀ x o, H1 x = some o → x ≠ l → H2 x = some o) (x : Ex G2 H2) (n : ∀ c o, G2 c = some o → G1 c = some o ∨ H1 c = none) (p : PotAt H2 l) : GrowP l G H G2 H2 := by
  refine ⟨a.g.trans g, fun c o e q => h c o (a.h c o e q) q, x, fun c o e => ?_, p⟩
  rcases n c o e with q | q
  · exact a.n c o q
  · right
    cases r : H c with
    | none => rfl
    | some u =>
      by_cases z : c = l
      · subst z
        obtain ⟨_, _, y, _⟩ := a.p
        rw [y] at q; cases q
      · rw [a.h c u r z] at q; cases q
def LcP (l : Addr) (P : DD.D → DD.D → Prop) (G1 H1 : Hp) (D : Addr) (ds : List DD.D) (Hc : Hp) : Prop := ∃ Gi acc zs, Hc D = some (.lst acc) ∧ Gi D = none ∧ GrowP l G1 H1 Gi Hc ∧ All2 P ds zs ∧ IsA Gi zs acc
theorem x_lcP {elt iter : Expr} {x : Str} {px : Pos} {scope : Scope} {i : Nat} (P : DD.D → DD.D → Prop) (hi0 : i ≠ 0)
    (h : WI false X (.Name x px) iter ρ fun ds ρ1 => ds.length ≤ 40000 ∧ ρ1[0]? = some (.own false .pot) ∧ (∀ j o, ρ1[j]? = some (.own false o) → j = 0) ∧ (∀ d ∈ ds, ∀ s H C cl fp, W false true (Blk X scope s H C cl fp) elt (lk ((ρ1.set i .un).set i (.val d))) fun z _ => P d z) ∧ ∀ zs, All2 P ds zs → Q (.lst zs) ρ1) :
    WX false true (tLc (wI X (.Name x px) iter) ((Tg.one i).g X.K) tYes (cE X scope elt) [i]) ρ Q := fun B σ G H S R r => by
  refine h B σ G H S _ fun J ds ρ1 G1 H1 q S1 xx pu wk D hD => ?_
  obtain ⟨hl, hp0, hown, turn, q⟩ := q
  obtain ⟨l, e1, gl, ll, pl⟩ := S1.ownAt hp0
  have hkl : ∃ u, H1 l = some u := by
    obtain ⟨a, b, e, _⟩ := pl
    exact ⟨_, e⟩
  have hDl : D ≠ l := fun z => by
    subst z
    obtain ⟨u, e⟩ := hkl
    rw [hD] at e; cases e
  refine lc_it wk (fun i Hc => LcP l P G1 H1 D (ds.take i) Hc) ?_ (fun i Hc _ h => ?_) (fun n y Hc H' hi h yy => ?_) (fun Hc h => ?_)
  · refine ⟨G1, [], [], upd_same, ?_, ⟨Ex.refl _, fun a o e _ => ?_, fun a o e => ?_, fun a o e => .inl e, ?_⟩, .nil, rfl⟩
    · cases r : G1 D with
      | none => rfl
      | some u => rw [S1.ex D u r] at hD; cases hD
    · rw [upd_ne (ne_of_none e hD)]; exact e
    · have e := S1.ex a o e
      rw [upd_ne (ne_of_none e hD)]; exact e
    · obtain ⟨a, b, e, rr⟩ := pl
      exact ⟨a, b, by rw [upd_ne (Ne.symm hDl)]; exact e, rr⟩
  · obtain ⟨Gi, acc, zs, _, _, gr, _⟩ := h
    exact gr.g.trans gr.x
  · obtain ⟨Gi, acc, zs, hacc, gD, gr, hzs, ia⟩ := h
    have hget : ds[n]? = some ds[n] := List.getElem?_eq_getElem hi
    obtain ⟨G2, gr2, ix⟩ := yy _ hget Gi gr.g gr.x
    have g2D := g_none gr2 gD hacc
    have hacc2 : H' D = some (.lst acc) := gr2.h _ _ hacc
    have grA : GrowP l G1 H1 G2 H' := gr.seq hkl gr2.g (fun c o e _ => gr2.h c o e) gr2.x gr2.n (by
      obtain ⟨a, b, e, rr⟩ := gr.p
      exact ⟨a, b, gr2.h _ _ e, rr⟩)
    have SA := S1.growP grA hp0 e1
    refine Tg.run (T := .one i) (d := ds[n]) rfl (SA.wipe [i]) ix (fun σ' S' hwp => ?_) (fun τ us j o hj => wipe_set τ us j o hj)
    have hw := (hwp [i] (fun j hj => hj)).trans (wipe_idem _ _)
    refine ⟨hw, ?_⟩
    have etake : ds.take (n + 1) = ds.take n ++ [ds[n]] := by rw [List.take_add_one, hget]; rfl
    have hs0 : σ'[0]? = some (some (.ref l)) := by
      have z := congrArg (fun τ => τ[0]?) hw
      have z : (wipe σ' [i])[0]? = (wipe σ [i])[0]? := z
      rw [wipe_get, wipe_get, if_neg (by simpa using Ne.symm hi0), if_neg (by simpa using Ne.symm hi0)] at z
      rw [z]; exact e1
    have S' : Sta B σ' ((ρ1.set i .un).set i (.val ds[n])) G2 H' := S'
    have h00 : ((ρ1.set i .un).set i (.val ds[n]))[0]? = some (.own false .pot) := by
      rw [List.getElem?_set_ne hi0, List.getElem?_set_ne hi0]; exact hp0
    have hownI : ∀ j o, ((ρ1.set i .un).set i (.val ds[n]))[j]? = some (.own false o) → j = 0 := fun j o e => by
      by_cases z : i = j
      · subst z
        rw [List.getElem?_set] at e
        simp only [if_true] at e
        split at e <;> cases e
      · rw [List.getElem?_set_ne z, List.getElem?_set_ne z] at e
        exact hown j o e
    have S2 := S'.inner hs0 h00 hownI
    show cE X scope elt σ' H' _
    intro s H0 C cl fp
    refine turn ds[n] (List.getElem_mem hi) s H0 C cl fp _ σ' G2 H' S2 _ fun v z ρ4 G4 H4 hz S4 g4 _ iv => ?_
    have f4 : ∀ c o, H' c = some o → c ≠ l → H4 c = some o := fun c o e ne => S4.fr c o e (by simpa using ne)
    have h4 : H4 D = some (.lst acc) := f4 _ _ hacc2 hDl
    have p4 : PotAt H4 l := (S4.pot l List.mem_cons_self).1
    have g4D : G4 D = none := by
      cases r : G4 D with
      | none => rfl
      | some u =>
        rcases S4.nw D u r with y | y
        · have y : G2 D = some u := y
          rw [g2D] at y; cases y
        · have y : H' D = none := y
          rw [hacc2] at y; cases y
    have hsz : acc.length < sizeLine := by
      rw [ia.length, hzs.length, List.length_take]
      exact Nat.lt_of_le_of_lt (m := 40000) (by omega) (by decide)
    refine ⟨acc, h4, hsz, ?_⟩
    refine ⟨G4, acc ++ [v], zs ++ [z], upd_same, g4D, ?_, by rw [etake]; exact .snoc hzs hz, IsA.snoc (IsA.mono (gr2.g.trans g4) _ _ ia) iv⟩
    have grT : GrowP l G1 H1 G4 H4 := grA.seq hkl g4 f4 S4.ex S4.nw p4
    refine ⟨grT.g, fun a o e ne => ?_, fun a o e => ?_, grT.n, ?_⟩
    · have q : a ≠ D := by rintro rfl; rw [hD] at e; cases e
      rw [upd_ne q]; exact grT.h a o e ne
    · have q : a ≠ D := by rintro rfl; rw [g4D] at e; cases e
      rw [upd_ne q]; exact grT.x a o e
    · obtain ⟨a, b, e, rr⟩ := p4
      exact ⟨a, b, by rw [upd_ne (Ne.symm hDl)]; exact e, rr⟩
  · obtain ⟨Gi, acc, zs, hacc, gD, gr, hzs, ia⟩ := h
    rw [List.take_length] at hzs
    have ex := Ex.new (o := HO.lst acc) gD
    have grF : GrowP l G1 H1 (L2.upd Gi D (.lst acc)) Hc := by
      refine ⟨gr.g.trans ex, gr.h, fun a o e => ?_, fun a o e => ?_, gr.p⟩
      · by_cases q : a = D
        · subst q; rw [upd_same] at e; rw [hacc]; exact e
        · rw [upd_ne q] at e; exact gr.x a o e
      · by_cases q : a = D
        · subst q; exact .inr hD
        · rw [upd_ne q] at e; exact gr.n a o e
    exact r _ _ ρ1 _ Hc (q zs hzs) (S1.growP grF hp0 e1) (xx.trans grF.g) (fun z => nomatch z) ⟨D, acc, rfl, upd_same, IsA.mono ex _ _ ia⟩
variable {N ps : List Str} {sc scope : Scope} {x : Str} {elt iter : Expr} {px : Pos}
abbrev P1P (X : Cx) (scope : Scope) (i : Nat) (x : Str) (px : Pos) (iter elt : Expr) (P : D → D → Prop) (ρ : Rho) (Q : D → Rho → Prop) : Prop :=
  WI false X (.Name x px) iter ρ fun ds ρ1 => ds.length ≤ 40000 ∧ ρ1[0]? = some (.own false .pot) ∧ (∀ j o, ρ1[j]? = some (.own false o) → j = 0) ∧ (∀ d ∈ ds, ∀ s H C cl fp, W false true (Blk X scope s H C cl fp) elt (lk ((ρ1.set i .un).set i (.val d))) fun z _ => P d z) ∧ ∀ zs, All2 P ds zs → Q (.lst zs) ρ1
/-- [elt for x in iter], elt draws -/
theorem lcP (i : Nat) (P : D → D → Prop) (S0 : FnScope N ps sc) (h : P1P X scope i x px iter elt P ρ Q) (hi0 : i ≠ 0 := by decide) (hXN : X.N = N := by rfl) (hbk : blkC X.N X.env.scope scope [(x, i)] = true := by kernel_rfl) (hi : X.N[i]? = some x := by rfl)
    (hl : Loc1 X scope x := by intro _ _ _ _ _; first | exact ⟨.inl rfl, .inr rfl⟩ | exact ⟨.inr rfl, .inl rfl⟩) (hc : X.calm = true := by rfl) (hs : ∀ x, foldedSetIterable iter X.env x = pure x := by intro _; rfl) :
    W false true X (.ListComp elt [⟨.Name x px, iter, [], 0⟩] scope pos) ρ Q :=
  WX.w (pe_lc (own := [(x, i)]) hc (hXN ▸ S0.nd) pi_w (blkOk_by hbk) (pg1 S0 hXN hi hl) (fun _ _ _ _ _ => pts_nil) pe_c hs) (x_lcP P hi0 h)
/-- y = [elt for x in iter], elt draws -/
theorem s_lcP (l i : Nat) (P : D → D → Prop) {E : DE} {z : Str} {pz spos : Pos} (S0 : FnScope N ps sc) (h : P1P X scope i x px iter elt P ρ fun d ρ' => E.nx (ρ'.set l (.val d))) (hi0 : i ≠ 0 := by decide) (hXN : X.N = N := by rfl) (hbk : blkC X.N X.env.scope scope [(x, i)] = true := by kernel_rfl) (hi : X.N[i]? = some x := by rfl)
    (hl : Loc1 X scope x := by intro _ _ _ _ _; first | exact ⟨.inl rfl, .inr rfl⟩ | exact ⟨.inr rfl, .inl rfl⟩) (hc : X.calm = true := by rfl) (hs : ∀ x, foldedSetIterable iter X.env x = pure x := by intro _; rfl) (hz : X.N[l]? = some z := by rfl) (hzl : X.env.scope.names.lookup z = some .local := by rfl)
    (hsw : swapsWith (.ListComp elt [⟨.Name x px, iter, [], 0⟩] scope pos) (some (.Name z pz)) spos.line X.env = pure true := by exact sw_true rfl rfl rfl (by decide +kernel)) :
    WS X (.Assign [.Name z pz] (.ListComp elt [⟨.Name x px, iter, [], 0⟩] scope pos) spos) ρ E :=
  s_setX (ps_setLc (own := [(x, i)]) hc (hXN ▸ S0.nd) hz hzl hsw pi_w (blkOk_by hbk) (pg1 S0 hXN hi hl) (fun _ _ _ _ _ => pts_nil) pe_c hs) (x_lcP P hi0 h)
end
end DD

namespace DD
open PySem PySem.Spec PyProof.Rows L2
section
variable {p g : Bool} {X : Cx} {ρ : Rho} {Q : D → Rho → Prop} {pos : Pos}
/-- list(range(a, b)) -/
theorem w_listRg2 {a b : Expr} {p1 p2 p3 : Pos} (hml : X.mg "list" = none) (hmr : X.mg "range" = none) (hc : X.calm = true) (h : W p true X a ρ fun d ρ1 => W p true X b ρ1 fun u ρ2 => ∃ m n : Int, d = .int m ∧ u = .int n ∧ (-1000 ≤ m ∧ m ≤ n ∧ n ≤ 1000000) ∧ Q (.lst (rng m (n - m).toNat)) ρ2)
    (hg1 : Gl X "list" := by rfl) (hg2 : Gl X "range" := by rfl) (n1 : starEach [a, b] X.env = (false, eval a X.env) :: starEach [b] X.env := by rfl) (n00 : starEach [b] X.env = (false, eval b X.env) :: starEach [] X.env := by rfl) (n0 : (backTo p3 (starEach [b] X.env)).any (·.1) = false := by rfl)
    (n2 : starEach [.Call (.Name "range" p2) [a, b] [] p3] X.env = (false, eval (.Call (.Name "range" p2) [a, b] [] p3) X.env) :: starEach [] X.env := by rfl) : W p g X (.Call (.Name "list" p1) [.Call (.Name "range" p2) [a, b] [] p3] [] pos) ρ Q := fun B σ G H S R r => by
  refine wE_of (pe_listRg hc hg1 hml (prg_2 hg2 hmr pe_w pe_w n1 n00 n0) n2) ?_
  refine h B σ G H S _ fun v d ρ1 G1 H1 q S1 x pu i => ?_
  refine q B σ G1 H1 S1 _ fun u e ρ2 G2 H2 q2 S2 x2 pu2 i2 => ?_
  obtain ⟨m, n, rfl, rfl, ⟨b0, b1, b2⟩, q2⟩ := q2
  cases (i : v = .int m)
  cases (i2 : u = .int n)
  refine ⟨m, n, rfl, rfl, ⟨by omega, by omega, by omega, by omega, by omega⟩, fun c hcn => ?_⟩
  have gr := Grow.new (o := .lst (rgV m n)) S2.ex hcn
  refine r _ (.lst (rng m (n - m).toNat)) ρ2 _ _ q2 (S2.grow gr) ((x.trans x2).trans gr.g) (fun z => ⟨(pu2 z).1.trans (pu z).1, ((pu z).2.trans (pu2 z).2).trans gr⟩) (is_h (S2.grow gr) ⟨c, _, rfl, upd_same, ?_⟩)
  have e : rng m (n - m).toNat = ((List.range (n - m).toNat).map fun i : Nat => m + i).map D.int := by unfold rng; rw [List.map_map]; rfl
  have e2 : rgV m n = ((List.range (n - m).toNat).map fun i : Nat => m + i).map V.int := by unfold rgV; rw [List.map_map]; rfl
  rw [e, e2]
  exact IsA.of_ints
end
end DD

namespace DD
open PySem PySem.Spec PyProof.Rows L2
section
variable {p g : Bool} {X : Cx} {ρ : Rho} {Q : D → Rho → Prop} {E : DE} {pos : Pos} {N ps : List Str} {sc : Scope} {x y z : Str} {px py pz pt : Pos}
/-- x, y = a, b * n: both own lists -/
theorem s_par2R (i j : Nat) {a b n : Expr} {pm : Pos} {kt k2 pt2} (S0 : FnScope N ps sc) (hij : i ≠ j)
    (h : WF X a ρ fun o ρ1 => W true true X b ρ1 fun d ρ2 => W true true X n ρ2 fun k ρ3 => ∃ xs n, d = .lst xs ∧ k = .int n ∧ (-(2 ^ 63) ≤ n ∧ n < 2 ^ 63 ∧ xs.length * n.toNat ≤ sizeLine) ∧ E.nx ((ρ1.set i (.own true o)).set j (.own true (.lst (List.replicate n.toNat xs).flatten))))
    (hXN : X.N = N := by rfl) (hc : X.calm = true := by rfl) (hi : X.N[i]? = some x := by rfl) (hj : X.N[j]? = some y := by rfl)
    (hx : X.env.scope.names.lookup x = some .local := by rfl) (hy : X.env.scope.names.lookup y = some .local := by rfl)
    (hs1 : starEach [a, .BinOp b .Mult n pm] X.env = (false, eval a X.env) :: starEach [.BinOp b .Mult n pm] X.env := by rfl) (hs2 : starEach [.BinOp b .Mult n pm] X.env = (false, eval (.BinOp b .Mult n pm) X.env) :: starEach [] X.env := by rfl)
    (hw : swappedStores [.Tuple [.Name x px, .Name y py] kt pt] (.Tuple [a, .BinOp b .Mult n pm] k2 pt2) X.env = pure (some [x, y]) := by rfl)
    (hs : swapsWithSole [.Tuple [.Name x px, .Name y py] kt pt] (.Tuple [a, .BinOp b .Mult n pm] k2 pt2) pos.line X.env = pure false := by rfl) :
    WS X (.Assign [.Tuple [.Name x px, .Name y py] kt pt] (.Tuple [a, .BinOp b .Mult n pm] k2 pt2) pos) ρ E := fun B σ G H F S L => by
  refine wS_of (ps_par hc (hXN ▸ S0.nd) hi hj hij hx hy (pa_cons pe_w (pa_cons (pe_op op_rep pe_w pe_w) pa_nil hs2) hs1) hw hs) ?_
  refine h B σ G H S _ fun l o ρ1 G1 H1 q1 S1 x1 gl bl nw ok => ?_
  refine two (p := true) (p1 := true) (.inl rfl) q1 S1 fun v u d k ρ2 G2 H2 q S2 x2 pu i1 i2 => ?_
  obtain ⟨rfl, gr⟩ := pu rfl
  obtain ⟨xs, n, rfl, rfl, b, q⟩ := q
  obtain ⟨a, as, rfl, e2, e3⟩ := i1
  refine ⟨a, n, as, rfl, i2, S2.ex _ _ e2, b.1, b.2.1, by rw [e3.length]; exact b.2.2, fun l2 hl2 => ⟨.ref l, .ref l2, rfl, ?_⟩⟩
  obtain ⟨w0, hw0⟩ := ok.known
  have gl2 : G2 l = none := by
    cases r : G2 l with
    | none => rfl
    | some o' =>
      rcases gr.n l o' r with q | q
      · rw [gl] at q; cases q
      · rw [hw0] at q; cases q
  obtain ⟨b1, b2, b3⟩ := new_own S2 hl2
  have hw2 : H2 l = some w0 := gr.h l w0 hw0
  have nl : l ≠ l2 := by rintro rfl; rw [hw2] at hl2; cases hl2
  have S3 := S2.grow (Grow.own (o := .lst (List.replicate n.toNat as).flatten) S2.ex hl2)
  have S4 := S3.setOwn (i := i) (l := l) (o := o) gl2 bl (ok.mono gr.g fun u hu => by rw [upd_ne nl]; exact gr.h l u hu) (fun m lc u hm hs => nw m hs lc u hm)
  have S5 := S4.setOwn (i := j) (l := l2) (o := .lst (List.replicate n.toNat xs).flatten) b1 b2 ⟨_, upd_same, e3.rep _⟩ (fun m lc u hm hs => by
    by_cases qi : i = m
    · subst qi
      rw [List.getElem?_set] at hs
      simp only [if_true] at hs
      split at hs
      · have : l = l2 := by injection hs with hs; injection hs with hs; injection hs
        exact nl this
      · cases hs
    · rw [List.getElem?_set_ne qi] at hm hs
      exact b3 m hs lc u hm)
  exact L.nx _ _ G2 _ q S5 (x1.trans x2)
/-- x, y, z = a, b, [c]: the third an own list -/
theorem s_par3L (i j k : Nat) {a b c : Expr} {pl : Pos} {kt k2 pt2} (S0 : FnScope N ps sc) (hij : i ≠ j) (hik : i ≠ k) (hjk : j ≠ k)
    (h : W false true X a ρ fun d ρ1 => W false true X b ρ1 fun e ρ2 => W false true X c ρ2 fun f ρ3 => E.nx (((ρ3.set i (.val d)).set j (.val e)).set k (.own true (.lst [f])))) (hXN : X.N = N := by rfl) (hc : X.calm = true := by rfl) (hi : X.N[i]? = some x := by rfl) (hj : X.N[j]? = some y := by rfl) (hk : X.N[k]? = some z := by rfl)
    (hx : X.env.scope.names.lookup x = some .local := by rfl) (hy : X.env.scope.names.lookup y = some .local := by rfl) (hz : X.env.scope.names.lookup z = some .local := by rfl)
    (hs1 : starEach [a, b, .List [c] pl] X.env = (false, eval a X.env) :: starEach [b, .List [c] pl] X.env := by rfl) (hs2 : starEach [b, .List [c] pl] X.env = (false, eval b X.env) :: starEach [.List [c] pl] X.env := by rfl) (hs3 : starEach [.List [c] pl] X.env = (false, eval (.List [c] pl) X.env) :: starEach [] X.env := by rfl) (hs4 : starEach [c] X.env = (false, eval c X.env) :: starEach [] X.env := by rfl)
    (hw : swappedStores [.Tuple [.Name x px, .Name y py, .Name z pz] kt pt] (.Tuple [a, b, .List [c] pl] k2 pt2) X.env = pure (some [x, y, z]) := by rfl)
    (hs : swapsWithSole [.Tuple [.Name x px, .Name y py, .Name z pz] kt pt] (.Tuple [a, b, .List [c] pl] k2 pt2) pos.line X.env = pure false := by rfl) :
    WS X (.Assign [.Tuple [.Name x px, .Name y py, .Name z pz] kt pt] (.Tuple [a, b, .List [c] pl] k2 pt2) pos) ρ E := fun B σ G H F S L => by
  refine wS_of (ps_par3 hc (hXN ▸ S0.nd) hi hj hk hij hik hjk hx hy hz (pa_cons pe_w (pa_cons pe_w (pa_cons (pe_lst (pa_cons pe_w pa_nil hs4)) pa_nil hs3) hs2) hs1) hw hs) ?_
  refine h B σ G H S _ fun v1 d1 ρ1 G1 H1 q1 S1 x1 pu1 i1 => ?_
  refine q1 B σ G1 H1 S1 _ fun v2 d2 ρ2 G2 H2 q2 S2 x2 pu2 i2 => ?_
  refine q2 B σ G2 H2 S2 _ fun v3 d3 ρ3 G3 H3 q S3 x3 pu3 i3 => ?_
  have i1 : Is G1 d1 v1 := i1
  have i2 : Is G2 d2 v2 := i2
  have i3 : Is G3 d3 v3 := i3
  refine ⟨by show 1 ≤ sizeLine; decide, fun l hl => ⟨v1, v2, .ref l, rfl, ?_⟩⟩
  obtain ⟨h1, h2, h3⟩ := new_own S3 hl
  have S4 := S3.grow (Grow.own (o := .lst [v3]) S3.ex hl)
  have S5 := (S4.set (i := i) (Is.mono (x2.trans x3) _ _ i1)).set (i := j) (Is.mono x3 _ _ i2)
  refine L.nx _ _ G3 _ q (S5.setOwn (i := k) (l := l) h1 h2 ⟨[v3], upd_same, v3, [], rfl, i3, rfl⟩ fun m lc u hm hs => ?_) ((x1.trans x2).trans x3)
  obtain ⟨qj, hm⟩ := nown hm
  obtain ⟨qi, hm⟩ := nown hm
  rw [List.getElem?_set_ne qj, List.getElem?_set_ne qi] at hs
  exact h3 m hs lc u hm
end
end DD

namespace DD
open PySem PySem.Spec PyProof.Rows L2
section
variable {p g : Bool} {X : Cx} {ρ : Rho} {Q : D → Rho → Prop} {E : DE} {pos : Pos} {N ps : List Str} {sc : Scope} {x y z : Str} {px py pz pt : Pos} {Z : D → Prop}
theorem c_boolI {i : Int} (q : Z (.bl (i != 0))) : OpC g X (.type "bool") [.int i] Z := by
  intro G H vs R ex i1 k
  obtain ⟨v, rfl, e1⟩ := isA_one (isA_any ex i1)
  cases (e1 : v = .int i)
  exact ⟨_, call_bool1, .inl ⟨i, rfl, k _ (.bl (i != 0)) G H q (Grow.refl ex) rfl⟩⟩
/-- x, y = e, []: e may draw -/
theorem s_parNI (i j : Nat) {a : Expr} {pl : Pos} {kt k2 pt2} (S0 : FnScope N ps sc) (hij : i ≠ j)
    (h : W false true X a ρ fun d ρ' => E.nx ((ρ'.set i (.val d)).set j (.own true (.lst [])))) (hXN : X.N = N := by rfl) (hc : X.calm = true := by rfl) (hi : X.N[i]? = some x := by rfl) (hj : X.N[j]? = some y := by rfl)
    (hx : X.env.scope.names.lookup x = some .local := by rfl) (hy : X.env.scope.names.lookup y = some .local := by rfl)
    (hs1 : starEach [a, .List [] pl] X.env = (false, eval a X.env) :: starEach [.List [] pl] X.env := by rfl) (hs2 : starEach [.List [] pl] X.env = (false, eval (.List [] pl) X.env) :: starEach [] X.env := by rfl)
    (hw : swappedStores [.Tuple [.Name x px, .Name y py] kt pt] (.Tuple [a, .List [] pl] k2 pt2) X.env = pure (some [x, y]) := by rfl)
    (hs : swapsWithSole [.Tuple [.Name x px, .Name y py] kt pt] (.Tuple [a, .List [] pl] k2 pt2) pos.line X.env = pure false := by rfl) :
    WS X (.Assign [.Tuple [.Name x px, .Name y py] kt pt] (.Tuple [a, .List [] pl] k2 pt2) pos) ρ E := fun B σ G H F S L => by
  refine wS_of (ps_par hc (hXN ▸ S0.nd) hi hj hij hx hy (pa_cons pe_w (pa_cons (pe_lst pa_nil) pa_nil hs2) hs1) hw hs) ?_
  refine h B σ G H S _ fun v d ρ' G' H' q S' z pu iv => ?_
  refine ⟨Nat.zero_le _, fun l hl => ⟨v, .ref l, rfl, ?_⟩⟩
  obtain ⟨h1, h2, h3⟩ := new_own S' hl
  have S2 := S'.grow (Grow.own (o := .lst []) S'.ex hl)
  have S3 := S2.set (i := i) iv
  refine L.nx _ _ G' _ q (S3.setOwn (i := j) (l := l) h1 h2 ⟨[], upd_same, rfl⟩ fun m lc u hm hs => ?_) z
  obtain ⟨qi, hm⟩ := nown hm
  rw [List.getElem?_set_ne qi] at hs
  exact h3 m hs lc u hm
/-- x = a + b: an own list -/
theorem f_cat {a b : Expr} {Q : Own → Rho → Prop} (h : W true true X a ρ fun d ρ1 => W true true X b ρ1 fun u ρ2 => ∃ xs ys, d = .lst xs ∧ u = .lst ys ∧ xs.length + ys.length ≤ sizeLine ∧ Q (.lst (xs ++ ys)) ρ2) : WF X (.BinOp a .Add b pos) ρ Q := fun B σ G H S R r => by
  refine wE_of (pe_op op_cat pe_w pe_w) ?_
  refine two (p := true) (p1 := true) (.inl rfl) h S fun v u x y ρ' G' H' q S' e pu i1 i2 => ?_
  obtain ⟨xs, ys, rfl, rfl, b, q⟩ := q
  obtain ⟨a, as, rfl, e2, e3⟩ := i1
  obtain ⟨a', bs, rfl, f2, f3⟩ := i2
  refine ⟨a, a', as, bs, rfl, rfl, S'.ex _ _ e2, S'.ex _ _ f2, by rw [e3.length, f3.length]; exact b, fun l hl => ?_⟩
  obtain ⟨h1, h2, h3⟩ := new_own S' hl
  exact r l (.lst _) ρ' G' _ q (S'.grow (Grow.own S'.ex hl)) e h1 h2 h3 ⟨_, upd_same, e3.append f3⟩
end
end DD

namespace DD
open PySem PySem.Spec PyProof.Rows L2
/-! ### a def that draws and hands back a pair whose second part is its own new list -/
def spPO (c : List D → (D → List D → Prop) → Prop) : Sp := fun vs H Q _ => ∃ (G : Hp) (l : Addr) (vr : List V) (ds : List D) (Z : D → List D → Prop), vs = .ref l :: vr ∧ Ex G H ∧ G l = none ∧ PotAt H l ∧ IsA G ds vr ∧ c ds Z ∧
  ∀ T x a d es xs G' H', Z d es → GrowP l G H G' H' → H' T = some (.tup [x, .ref a]) → G' a = none → H a = none → H' a = some (.lst xs) → Is G' d x → IsA G' es xs → Q (.ref T) H'
def WSPO (X : Cx) (st : List Stmt) (ρ : Rho) (Z : D → List D → Prop) : Prop := ∀ (B : Base) (σ : L2.St) (G H : Hp) (F : Ends), Sta B σ ρ G H →
  (∀ T x a d es xs G' H', Z d es → Fin B G' H' → H' T = some (.tup [x, .ref a]) → G' a = none → B.H a = none → H' a = some (.lst xs) → Is G' d x → IsA G' es xs → F.rt (.ref T) H') → wSs X st F σ H
section
variable {X : Cx} {ρ : Rho} {E : DE} {pos : Pos} {N ps : List Str} {sc : Scope} {x y : Str} {px py pt : Pos} {kk : Nat}
theorem wspo_cons {st : Stmt} {rest : List Stmt} {Z : D → List D → Prop} (h : WS X st ρ { nx := fun ρ' => WSPO X rest ρ' Z, rt := fun _ => False }) : WSPO X (st :: rest) ρ Z := fun B σ G H F S k =>
  wSs_of (pss_cons ps_w pss_w) (h B σ G H { F with nx := wSs X rest F } S ⟨fun σ' ρ' G' H' q S' _ => q B σ' G' H' F S' k, fun _ _ _ _ z => z.elim, fun _ _ _ _ z => z.elim, fun _ _ _ _ z => z.elim⟩)
theorem wspo_cut {st : Stmt} {rest : List Stmt} {Z : D → List D → Prop} (M : Rho → Prop) (h : WS X st ρ { nx := M, rt := fun _ => False }) (k : ∀ ρ', M ρ' → WSPO X rest ρ' Z) : WSPO X (st :: rest) ρ Z :=
  wspo_cons fun B σ G H F S L => h B σ G H F S ⟨fun σ' ρ' G' H' q S' x => L.nx σ' ρ' G' H' (k ρ' q) S' x, L.rt, L.bk, L.ct⟩
/-- return (e1, y), y an own list -/
theorem wspo_ret (i : Nat) {e1 : Expr} {p2 : Pos} {Z : D → List D → Prop} (h : W true true X e1 ρ fun d _ => ∃ es, ρ[i]? = some (.own true (.lst es)) ∧ Z d es) (hN : X.N[i]? = some y := by rfl) (hv : Vis X.env.scope y := by first | exact .inl rfl | exact .inr (.inl rfl) | exact .inr (.inr rfl))
    (hd : (y == ("__debug__" : Str)) = false := by decide) (hcd : (y == ("__classdict__" : Str)) = false := by decide)
    (hs1 : starEach [e1, .Name y py] X.env = (false, eval e1 X.env) :: starEach [.Name y py] X.env := by rfl) (hs2 : starEach [.Name y py] X.env = (false, eval (.Name y py) X.env) :: starEach [] X.env := by rfl) : WSPO X [.Return (some (.Tuple [e1, .Name y py] kk p2)) pos] ρ Z := fun B σ G H F S k => by
  refine wSs_of (pss_one (ps_ret (pe_tup (pa_cons pe_w (pa_cons (pe_var hN hv hd hcd) pa_nil hs2) hs1)))) ?_
  refine h B σ G H S _ fun v1 d1 ρ1 G1 H1 q1 S1 x1 pu i1 => ?_
  obtain ⟨e0, gr⟩ := pu rfl
  subst e0
  obtain ⟨es, hr, q⟩ := q1
  obtain ⟨l, el, gl, bl, xs, h1, h2⟩ := S1.ownAt hr
  have i1 : Is G1 d1 v1 := i1
  refine ⟨_, el, by show 2 ≤ sizeLine; decide, fun T hT => ?_⟩
  have S3 := S1.grow (Grow.own (o := .tup [v1, .ref l]) S1.ex hT)
  have nT : l ≠ T := by rintro rfl; rw [h1] at hT; cases hT
  exact k T v1 l d1 es xs G1 _ q S3.fin upd_same gl (by simpa using bl) (by rw [upd_ne nT]; exact h1) i1 h2
/-- x, y = f(pot, ..): y an own list -/
theorem s_unpPO (ip i j : Nat) {c : List D → (D → List D → Prop) → Prop} {k : Nat} {ps0 : List Str} {fx z : Str} {pp pz pos1 : Pos} {es : List Expr} {lc : Bool} (S0 : FnScope N ps sc) (hij : i ≠ j) (F : Df X.prog X.w X.K X.mg X.base k fx ps0 (spPO c)) (hr : Room k X.A)
    (h : WA false true X es ρ fun ds ρ' => ρ'[ip]? = some (.own lc .pot) ∧ c ds fun d ls => E.nx ((ρ'.set i (.val d)).set j (.own true (.lst ls)))) (hNp : X.N[ip]? = some z := by rfl) (hrp : ρ[ip]? = some (.own lc .pot) := by rfl)
    (hvp : Vis X.env.scope z := by first | exact .inl rfl | exact .inr (.inl rfl) | exact .inr (.inr rfl)) (hdp : (z == ("__debug__" : Str)) = false := by decide) (hcdp : (z == ("__classdict__" : Str)) = false := by decide) (hg : Gl X fx := by rfl) (hdb : (fx == ("__debug__" : Str)) = false := by decide)
    (he : starEach (.Name z pz :: es) X.env = (false, eval (.Name z pz) X.env) :: starEach es X.env := by rfl) (hpl : (backTo pos1 (starEach es X.env)).any (·.1) = false := by rfl)
    (hXN : X.N = N := by rfl) (hc : X.calm = true := by rfl) (hi : X.N[i]? = some x := by rfl) (hj : X.N[j]? = some y := by rfl)
    (hx : Loc X.env.scope x := by first | exact .inl rfl | exact .inr rfl) (hy : Loc X.env.scope y := by first | exact .inl rfl | exact .inr rfl) (hf : X.fn x = true ∨ X.env.scope.names.lookup x = some .local := by first | exact .inl rfl | exact .inr rfl) (hf2 : X.fn y = true ∨ X.env.scope.names.lookup y = some .local := by first | exact .inl rfl | exact .inr rfl)
    (h1 : (assignEach [.Name x px, .Name y py] X.env).length = 2 := by rfl) (h2 : (assignEach [.Name x px, .Name y py] X.env).findIdx? (·.1) = none := by rfl) (h3 : AE X (.Name x px) [.Name y py] := by rfl) (h4 : AE X (.Name y py) [] := by rfl)
    (hs : swapsWithSole [.Tuple [.Name x px, .Name y py] kk pt] (.Call (.Name fx pp) (.Name z pz :: es) [] pos1) pos.line X.env = pure false := by rfl) (hw : swappedStores [.Tuple [.Name x px, .Name y py] kk pt] (.Call (.Name fx pp) (.Name z pz :: es) [] pos1) X.env = pure none := by rfl)
    (h5 : (assignEach [.Tuple [.Name x px, .Name y py] kk pt] X.env).map (·.2) = [assign (.Tuple [.Name x px, .Name y py] kk pt) X.env] := by rfl) :
    WS X (.Assign [.Tuple [.Name x px, .Name y py] kk pt] (.Call (.Name fx pp) (.Name z pz :: es) [] pos1) pos) ρ E := fun B σ G H FF S L => by
  obtain ⟨f, fd, F, hm, hk, hb⟩ := F.ex
  refine wS_of (ps_asg (pe_call F hr hg hm hk hb .nil pass0 (pa_cons pe_w pa_w he) hdb he hpl) (pg_tup hc (pgs_cons (pg_name (hXN ▸ S0.nd) hi hx hf) (pgs_cons (pg_name (hXN ▸ S0.nd) hj hy hf2) pgs_nil h4) h3) h1 h2) hs hw h5) ?_
  refine own_name hNp hvp hdp hcdp hrp S fun l el ok => ?_
  refine h B σ G H S _ fun vs ds ρ' G' H' q S' yx pu ia => ?_
  obtain ⟨l', el', gl, bl, pt⟩ := S'.ownAt q.1
  have : l' = l := by rw [el] at el'; cases el'; rfl
  subst this
  refine ⟨G', l', vs, ds, fun d ls => E.nx ((ρ'.set i (.val d)).set j (.own true (.lst ls))), by rw [List.append_nil], S'.ex, gl, pt, ia, q.2, fun T v1 a d ls xs G2 H2 z gr hT ga ha hl i1 i2 => ?_⟩
  have S2 := S'.growP gr q.1 el
  obtain ⟨_, b2, b3⟩ := new_own S' ha
  refine ⟨T, _, rfl, .inl (.inl hT), rfl, v1, [.ref a], rfl, .ref a, [], rfl, rfl, ?_⟩
  have S3 := S2.set (i := i) i1
  refine L.nx _ _ G2 _ z (S3.setOwn (i := j) (l := a) ga b2 ⟨xs, hl, i2⟩ fun m lc u hm hs => ?_) (yx.trans gr.g)
  obtain ⟨qi, hm⟩ := nown hm
  rw [List.getElem?_set_ne qi] at hs
  exact b3 m hs lc u hm
variable {P : Program} {w : World} {K : PySem.W.Frag} {mg : Str → Option Value} {base : Heap}
theorem fnPO {x qual : Str} {st : Stmt} {f : Addr} {fd : FuncData} {N ps : List Str} {k : Nat} {c : List D → (D → List D → Prop) → Prop} (F : Fun K x qual st f fd) (S : FnScope N ps (defScope st)) (len : ∀ ds Z, c ds Z → ds.length + 1 = ps.length)
    (h : ∀ (cdv : Value) (A : Around) (outer : List Env) (s : Shared) (H : Hp) (E : XK) (ds : List D) (Z : D → List D → Prop), Room k (A.deeper (envOfC qual (defScope st) s.heap.objs.size f cdv)) → c ds Z →
      WSPO (CxD P w K mg base N qual st f cdv A outer s H E) (defBody st) (rhoP N ds) Z) : FnOk P w K mg base CX0 (k + 1) f fd ps (spPO c) := by
  refine F.ok S (fun vs H Q E hs => ?_) fun cdv A outer s H vs Q E hr hs => ?_
  · obtain ⟨G, l, vr, ds, Z, rfl, ex, gl, pl, i, hc, _⟩ := hs
    have := len ds Z hc
    rw [List.length_cons, i.length]; exact this
  · obtain ⟨G, l, vr, ds, Z, rfl, ex, gl, pl, i, hc, q⟩ := hs
    exact ⟨_, pss_w, h cdv A outer s H E ds Z hr hc ⟨H, G, [l], 0⟩ _ G H _ (sta_startP ex i gl pl) fun T x a d es xs G' H' z F hT ga ha hl i1 i2 => q T x a d es xs G' H' z ⟨F.bg, fun a o e n => F.fr a o e (by simpa using n), F.ex, F.nw, F.pot l (List.mem_singleton.mpr rfl)⟩ hT ga ha hl i1 i2⟩
end
end DD

namespace DD
open PySem PySem.Spec PyProof.Rows L2
section
variable {p g : Bool} {X : Cx} {ρ : Rho} {Q : D → Rho → Prop} {pos : Pos}
/-- o[e], o an own list: what stands there stands in the ghost -/
theorem w_ixO (i : Nat) {y : Str} {p2 : Pos} {e : Expr} {lc : Bool} (hr0 : ∃ ds, ρ[i]? = some (.own lc (.lst ds)))
    (h : W true true X e ρ fun k _ => ∃ n ds d, k = .int n ∧ ρ[i]? = some (.own lc (.lst ds)) ∧ atI ds n = some d ∧ Q d ρ) (hN : X.N[i]? = some y := by rfl) (hv : Vis X.env.scope y := by first | exact .inl rfl | exact .inr (.inl rfl) | exact .inr (.inr rfl))
    (hd : (y == ("__debug__" : Str)) = false := by decide) (hcd : (y == ("__classdict__" : Str)) = false := by decide) (hs : PlainIx e := by exact fun _ _ => rfl) : W p g X (.Subscript (.Name y p2) e pos) ρ Q := fun B σ G H S R r => by
  refine wE_of (pe_ix ix_list pe_w pe_w hs) ?_
  obtain ⟨ds0, hr0⟩ := hr0
  refine own_name hN hv hd hcd hr0 S fun l el ok => ?_
  refine h B σ G H S _ fun u k ρ2 G2 H2 q2 S2 y2 pu2 iu => ?_
  obtain ⟨e2, gr2⟩ := pu2 rfl
  subst e2
  obtain ⟨n, ds, d, rfl, hr, ha, q⟩ := q2
  obtain ⟨l', el', gl, bl, xs, h1, h2⟩ := S2.ownAt hr
  have : l' = l := by rw [el] at el'; cases el'; rfl
  subst this
  cases (iu : u = .int n)
  unfold atI at ha
  cases hj : ixN ds.length n with
  | none => rw [hj] at ha; cases ha
  | some m =>
    rw [hj] at ha
    obtain ⟨x, hx, ix⟩ := h2.get (show ds[m]? = some d from ha)
    refine ⟨l', xs, n, x, rfl, rfl, .inl (.inl h1), ?_, r x d ρ2 G2 H2 q S2 y2 (fun _ => ⟨rfl, gr2⟩) (is_h S2 ix)⟩
    unfold atI
    rw [h2.length, hj]
    exact hx
/-- f(o), o an own list of lists: what comes back is a list of whole numbers, and o stays own -/
theorem w_callKeep (i : Nat) {c : List D → (D → Prop) → Prop} {k : Nat} {x y : Str} {ps : List Str} {pp py : Pos} {lc : Bool} {ds : List D} {r0 : List D} (hr0 : ρ[i]? = some (.own lc (.lst ds))) (h0 : ds[0]? = some (.lst r0)) (F : Df X.prog X.w X.K X.mg X.base k x ps (spD c)) (hr : Room k X.A)
    (h : c [.lst ds] fun d => ∃ L : List Int, d = .lst (L.map D.int) ∧ Q (.lst (L.map D.int)) ρ) (hN : X.N[i]? = some y := by rfl) (hv : Vis X.env.scope y := by first | exact .inl rfl | exact .inr (.inl rfl) | exact .inr (.inr rfl))
    (hd : (y == ("__debug__" : Str)) = false := by decide) (hcd : (y == ("__classdict__" : Str)) = false := by decide) (hg : Gl X x := by rfl) (hdb : (x == ("__debug__" : Str)) = false := by decide)
    (he : starEach [.Name y py] X.env = (false, eval (.Name y py) X.env) :: starEach [] X.env := by rfl) (hpl : (backTo pos (starEach [] X.env)).any (·.1) = false := by rfl) : W p g X (.Call (.Name x pp) [.Name y py] [] pos) ρ Q := fun B σ G H S R r => by
  obtain ⟨f, fd, F, hm, hk, hb⟩ := F.ex
  refine wE_of (pe_call F hr hg hm hk hb .nil pass0 (pa_cons (pe_var hN hv hd hcd) pa_nil he) hdb he hpl) ?_
  obtain ⟨l, el, gl, bl, xs, h1, h2⟩ := S.ownAt hr0
  refine ⟨_, el, ?_⟩
  have ex0 := Ex.new (o := HO.lst xs) gl
  refine ⟨L2.upd G l (.lst xs), [.lst ds], _, fun a o e => ?_, ⟨.ref l, [], rfl, ⟨l, xs, rfl, upd_same, IsA.mono ex0 _ _ h2⟩, rfl⟩, h, fun v d G' H' z gr iv => ?_⟩
  · by_cases q : a = l
    · subst q; rw [upd_same] at e; rw [h1]; exact e
    · rw [upd_ne q] at e; exact S.ex a o e
  · obtain ⟨L, rfl, q⟩ := z
    obtain ⟨b, ys, rfl, e2, e3⟩ := iv
    have ey := e3.ints
    subst ey
    have nb : b ≠ l := by
      rintro rfl
      have a := gr.g b _ (upd_same (o := HO.lst xs))
      rw [e2] at a
      have a : L.map V.int = xs := by injection a with a; injection a
      obtain ⟨x0, hx0, ix0⟩ := h2.get h0
      rw [← a, List.getElem?_map] at hx0
      obtain ⟨a0, _, rfl, _⟩ := ix0
      cases hL : L[0]? with
      | none => rw [hL] at hx0; cases hx0
      | some t => rw [hL] at hx0; cases hx0
    have up : ∀ a o, G a = some o → G' a = some o := fun a o e => gr.g a o (ex0 a o e)
    have gr3 : Grow G H (L2.upd G b (.lst (L.map V.int))) H' := by
      refine ⟨fun a o e => ?_, gr.h, fun a o e => ?_, fun a o e => ?_⟩
      · by_cases z : a = b
        · subst z
          have := up a o e
          rw [e2] at this
          rw [upd_same]; exact this
        · rw [upd_ne z]; exact e
      · by_cases z : a = b
        · subst z
          rw [upd_same] at e
          cases e
          exact gr.x _ _ e2
        · rw [upd_ne z] at e
          exact gr.x _ _ (up a o e)
      · by_cases z : a = b
        · subst z
          rw [upd_same] at e
          cases e
          rcases gr.n a _ e2 with y | y
          · rw [upd_ne nb] at y
            exact .inl y
          · exact .inr y
        · rw [upd_ne z] at e
          exact .inl e
    have S3 := S.grow gr3
    exact r _ _ ρ _ H' q S3 gr3.g (fun _ => ⟨rfl, gr3⟩) (is_h S3 ⟨b, _, rfl, upd_same, IsA.of_ints⟩)
end
end DD

namespace DD
open PySem PySem.Spec PyProof.Rows L2
section
variable {X : Cx} {ρ : Rho} {E : DE} {pos : Pos} {N ps : List Str} {sc : Scope} {x y z u : Str} {px py pz pt pu pp : Pos}
/-- x, y, z = a, b * n, list(u): the second and the third own lists -/
theorem s_par3RL (i j k m : Nat) {a b n : Expr} {pm pl : Pos} {kt k2 pt2} (S0 : FnScope N ps sc) (hij : i ≠ j) (hik : i ≠ k) (hjk : j ≠ k) (hml : X.mg "list" = none)
    (h : W true true X a ρ fun d _ => W true true X b ρ fun e ρ2 => W true true X n ρ2 fun kk _ => ∃ xs n ds, e = .lst xs ∧ kk = .int n ∧ (-(2 ^ 63) ≤ n ∧ n < 2 ^ 63 ∧ xs.length * n.toNat ≤ sizeLine) ∧ ρ[m]? = some (.val (.lst ds)) ∧ E.nx (((ρ.set i (.val d)).set j (.own true (.lst (List.replicate n.toNat xs).flatten))).set k (.own true (.lst ds))))
    (hXN : X.N = N := by rfl) (hc : X.calm = true := by rfl) (hi : X.N[i]? = some x := by rfl) (hj : X.N[j]? = some y := by rfl) (hk : X.N[k]? = some z := by rfl)
    (hx : X.env.scope.names.lookup x = some .local := by rfl) (hy : X.env.scope.names.lookup y = some .local := by rfl) (hz : X.env.scope.names.lookup z = some .local := by rfl)
    (hNu : X.N[m]? = some u := by rfl) (hvu : Vis X.env.scope u := by first | exact .inl rfl | exact .inr (.inl rfl) | exact .inr (.inr rfl)) (hdu : (u == ("__debug__" : Str)) = false := by decide) (hcdu : (u == ("__classdict__" : Str)) = false := by decide)
    (hg : Gl X "list" := by rfl) (he : starEach [.Name u pu] X.env = (false, eval (.Name u pu) X.env) :: starEach [] X.env := by rfl) (hpl : (backTo pl (starEach [] X.env)).any (·.1) = false := by rfl)
    (hs1 : starEach [a, .BinOp b .Mult n pm, .Call (.Name "list" pp) [.Name u pu] [] pl] X.env = (false, eval a X.env) :: starEach [.BinOp b .Mult n pm, .Call (.Name "list" pp) [.Name u pu] [] pl] X.env := by rfl)
    (hs2 : starEach [.BinOp b .Mult n pm, .Call (.Name "list" pp) [.Name u pu] [] pl] X.env = (false, eval (.BinOp b .Mult n pm) X.env) :: starEach [.Call (.Name "list" pp) [.Name u pu] [] pl] X.env := by rfl)
    (hs3 : starEach [.Call (.Name "list" pp) [.Name u pu] [] pl] X.env = (false, eval (.Call (.Name "list" pp) [.Name u pu] [] pl) X.env) :: starEach [] X.env := by rfl)
    (hw : swappedStores [.Tuple [.Name x px, .Name y py, .Name z pz] kt pt] (.Tuple [a, .BinOp b .Mult n pm, .Call (.Name "list" pp) [.Name u pu] [] pl] k2 pt2) X.env = pure (some [x, y, z]) := by rfl)
    (hs : swapsWithSole [.Tuple [.Name x px, .Name y py, .Name z pz] kt pt] (.Tuple [a, .BinOp b .Mult n pm, .Call (.Name "list" pp) [.Name u pu] [] pl] k2 pt2) pos.line X.env = pure false := by rfl) :
    WS X (.Assign [.Tuple [.Name x px, .Name y py, .Name z pz] kt pt] (.Tuple [a, .BinOp b .Mult n pm, .Call (.Name "list" pp) [.Name u pu] [] pl] k2 pt2) pos) ρ E := fun B σ G H F S L => by
  refine wS_of (ps_par3 hc (hXN ▸ S0.nd) hi hj hk hij hik hjk hx hy hz (pa_cons pe_w (pa_cons (pe_op op_rep pe_w pe_w) (pa_cons (pe_callTy call_any hg hml (T := "list") (by decide +kernel) (pa_cons (pe_var hNu hvu hdu hcdu) pa_nil he) (by decide) (by decide) he hpl) pa_nil hs3) hs2) hs1) hw hs) ?_
  refine h B σ G H S _ fun v1 d1 ρ1 G1 H1 q1 S1 x1 pu1 i1 => ?_
  obtain ⟨e1, gr1⟩ := pu1 rfl
  subst e1
  refine two (p := true) (p1 := true) (.inl rfl) q1 S1 fun v w e kk ρ2 G2 H2 q S2 x2 pu2 i2 i3 => ?_
  obtain ⟨e2, gr2⟩ := pu2 rfl
  subst e2
  obtain ⟨xs, n, ds, rfl, rfl, b, hr, q⟩ := q
  have i1 : Is G1 d1 v1 := i1
  obtain ⟨a, as, rfl, e2, e3⟩ := i2
  refine ⟨a, n, as, rfl, i3, S2.ex _ _ e2, b.1, b.2.1, by rw [e3.length]; exact b.2.2, fun l2 hl2 => ?_⟩
  obtain ⟨b1, b2, b3⟩ := new_own S2 hl2
  have S3 := S2.grow (Grow.own (o := .lst (List.replicate n.toNat as).flatten) S2.ex hl2)
  obtain ⟨v3, ev, iv⟩ := S3.valAt hr
  obtain ⟨a3, zs, rfl, f2, f3⟩ := iv
  refine ⟨_, ev, ⟨_, call_list_of, a3, zs, rfl, .inl (.inl (.inl (S3.ex _ _ f2))), fun l3 hl3 => ⟨v1, .ref l2, .ref l3, rfl, ?_⟩⟩⟩
  obtain ⟨c1, c2, c3⟩ := new_own S3 hl3
  have S4 := S3.grow (Grow.own (o := .lst zs) S3.ex hl3)
  have n23 : l2 ≠ l3 := by rintro rfl; rw [upd_same] at hl3; cases hl3
  have S5 := S4.set (i := i) (Is.mono x2 _ _ i1)
  have S6 := S5.setOwn (i := j) (l := l2) (o := .lst (List.replicate n.toNat xs).flatten) b1 b2 ⟨_, by rw [upd_ne n23, upd_same], e3.rep _⟩ (fun m lc u hm hs => by
    obtain ⟨qi, hm⟩ := nown hm
    rw [List.getElem?_set_ne qi] at hs
    exact b3 m hs lc u hm)
  have S7 := S6.setOwn (i := k) (l := l3) (o := .lst ds) c1 c2 ⟨zs, upd_same, f3⟩ (fun m lc u hm hs => by
    by_cases qj : j = m
    · subst qj
      rw [List.getElem?_set] at hs
      simp only [if_true] at hs
      split at hs
      · have : l2 = l3 := by injection hs with hs; injection hs with hs; injection hs
        exact n23 this
      · cases hs
    · rw [List.getElem?_set_ne qj] at hm hs
      obtain ⟨qi, hm⟩ := nown hm
      rw [List.getElem?_set_ne qi] at hs
      exact c3 m hs lc u hm)
  exact L.nx _ _ G2 _ q S7 (x1.trans x2)
end
end DD

namespace DD
open PySem PySem.Spec PyProof.Rows L2
/-! ### o[::-1] -/
theorem pick_rev (its : List Value) : slicePick its.toArray none none (some (-1)) = its.reverse.toArray := by
  unfold slicePick
  congr 1
  have hb : sliceBounds none none (some (-1)) its.toArray.size = ((its.length : Int) - 1, -1, -1) := rfl
  rw [hb]
  show List.filterMap (fun x => its.toArray[x]?) (sliceRange ((its.length : Int) - 1) (-1) (-1)) = its.reverse
  have hr : sliceRange ((its.length : Int) - 1) (-1) (-1) = (List.range its.length).map fun k : Nat => its.length - 1 - k := by
    unfold sliceRange
    have hc : (if (-1 : Int) > 0 then if (its.length : Int) - 1 < -1 then (-1 - ((its.length : Int) - 1) + -1 - 1) / -1 else 0 else if (its.length : Int) - 1 > -1 then ((its.length : Int) - 1 - -1 - -1 - 1) / - -1 else 0).toNat = its.length := by
      rw [if_neg (by decide)]
      by_cases h : (its.length : Int) - 1 > -1
      · rw [if_pos h, show (- -1 : Int) = 1 by decide, Int.ediv_one]; omega
      · rw [if_neg h]
        have : its.length = 0 := by omega
        rw [this]; rfl
    show List.map _ (List.range (if (-1 : Int) > 0 then if (its.length : Int) - 1 < -1 then (-1 - ((its.length : Int) - 1) + -1 - 1) / -1 else 0 else if (its.length : Int) - 1 > -1 then ((its.length : Int) - 1 - -1 - -1 - 1) / - -1 else 0).toNat) = _
    rw [hc]
    refine List.map_congr_left fun k hk => ?_
    have := List.mem_range.mp hk
    omega
  rw [hr, List.filterMap_map]
  apply List.ext_getElem?
  intro i
  have key : ∀ n, n ≤ its.length → List.filterMap ((fun x => its.toArray[x]?) ∘ fun k => its.length - 1 - k) (List.range n) = its.reverse.take n := fun n => by
    induction n with
    | zero => intro _; rfl
    | succ n ih =>
      intro hn
      have e : its.reverse[n]? = some its[its.length - 1 - n] := by
        rw [List.getElem?_reverse (by omega)]
        exact List.getElem?_eq_getElem (by omega)
      rw [List.range_succ, List.filterMap_append, ih (by omega), List.take_add_one, e]
      congr 1
      have e2 : its.toArray[its.length - 1 - n]? = some its[its.length - 1 - n] := by
        rw [List.getElem?_toArray]
        exact List.getElem?_eq_getElem (by omega)
      show List.filterMap _ [n] = _
      rw [List.filterMap_cons]
      have e3 : ((fun x => its.toArray[x]?) ∘ fun k => its.length - 1 - k) n = some its[its.length - 1 - n] := e2
      rw [e3]; rfl
  rw [key its.length (Nat.le_refl _), List.take_of_length_le (by rw [List.length_reverse]; exact Nat.le_refl _)]
section
variable {p g : Bool} {X : Cx} {ρ : Rho} {Q : D → Rho → Prop} {pos : Pos}
def tRev (X : Cx) (te : TE) (tp : TO) : TE := fun σ H Q => te σ H fun x H1 => tp σ H1 fun st H2 => st = some (-1) ∧ ∃ a xs, x = .ref a ∧ SqL X.K H2 a xs ∧ ∀ q, H2 q = none → Q (.ref q) (L2.upd H2 q (.lst xs.reverse))
theorem pe_rev {e : Expr} {stp : Expr} {te : TE} {tp : TO} {p2 : Pos} (he : PE X e te) (hp : PO X (some stp) tp) : PE X (.Subscript e (.Slice none none (some stp) p2) pos) (tRev X te tp) := ⟨fun pins s σ H Q I h => Subscript_ (thn (he.run pins s σ H _ I h) fun v s1 hx => by
  obtain ⟨x, H1, I1, r1, q1⟩ := hx
  refine wpAny_Slice ?_
  rw [evalPart_none]
  refine wpAny_pure ?_
  refine wpAny_pure ?_
  refine thn (hp.run pins s1 σ H1 _ I1 q1) fun vs s2 hy => ?_
  obtain ⟨st, H2, I2, ip, q2⟩ := hy
  obtain ⟨rfl, a, xs, rfl, hx, q⟩ := q2
  have I4 := Inv.kept (t' := s2.toks) I2 (fun b ob q => Heap.get?_push_of_some { cls := .type "slice", data := .fields #[.none, .none, vs] } q)
  cases (r1 : v = .ref a)
  obtain ⟨its, r, ht, hz⟩ := I4.list hx
  refine tail_any (PlainL.isList ht).typeIs slot_list_getitem.lookup ?_ rfl
  have hlen := r.length
  refine wpAny_getItem_list_slice (PlainL.isList ht) (Heap.IsSliceOf.new s2.1 .none .none vs) .none .none ip (by decide) ?_ (by rw [List.size_toArray]; omega)
  rw [pick_rev]
  refine ⟨.ref _, L2.upd H2 _ (.lst xs.reverse), Inv.laid I4 (fun b ob q => Heap.get?_push_of_some _ q) (Nat.le_refl _) ⟨by rw [List.length_reverse]; exact hz, its.reverse, 0, vals_rev r, Heap.get?_push_size _ rfl⟩, rfl, q _ (HOk.fresh I4.hok (Nat.le_refl _))⟩)⟩
theorem IsA.rev {H : Hp} : ∀ {ds : List D} {xs : List V}, IsA H ds xs → IsA H ds.reverse xs.reverse := isA_rev
/-- e[::-1], e a list -/
theorem w_rev {e stp : Expr} {p2 : Pos} (h : W p true X e ρ fun d ρ1 => ∃ xs, d = .lst xs ∧ WO X (some stp) ρ1 fun l => l = some (-1) ∧ Q (.lst xs.reverse) ρ1) : W p g X (.Subscript e (.Slice none none (some stp) p2) pos) ρ Q := fun B σ G H S R r => by
  refine wE_of (pe_rev pe_w po_w) ?_
  refine h B σ G H S _ fun v d ρ1 G1 H1 q S1 y pu i => ?_
  obtain ⟨xs, rfl, q⟩ := q
  refine wo_go q S1 fun l G2 H2 q2 S2 gr2 => ?_
  obtain ⟨rfl, q2⟩ := q2
  have i3 := Is.mono gr2.g _ _ i
  obtain ⟨a, as, rfl, e2, e3⟩ := i3
  refine ⟨rfl, a, as, rfl, .inl (.inl (S2.ex _ _ e2)), fun b hb => ?_⟩
  have gr := Grow.new (o := .lst as.reverse) S2.ex hb
  exact r _ (.lst xs.reverse) ρ1 _ _ q2 (S2.grow gr) ((y.trans gr2.g).trans gr.g) (fun z => ⟨(pu z).1, ((pu z).2.trans gr2).trans gr⟩) (is_h (S2.grow gr) ⟨b, _, rfl, upd_same, IsA.mono gr.g _ _ (isA_rev e3)⟩)
variable {E : DE} {N ps : List Str} {sc : Scope} {x y z : Str} {px py pz pt : Pos}
/-- x, y, z = a, [], c: the second an own list, c may draw -/
theorem s_par3D (i j k : Nat) {a c : Expr} {pl : Pos} {kt k2 pt2} (S0 : FnScope N ps sc) (hij : i ≠ j) (hik : i ≠ k) (hjk : j ≠ k)
    (h : W false true X a ρ fun d ρ1 => ρ1[0]? = some (.own false .pot) ∧ (∀ j o, ρ1[j]? = some (.own false o) → j = 0) ∧ W false true X c (lk ρ1) fun e _ => E.nx (((ρ1.set i (.val d)).set j (.own true (.lst []))).set k (.val e)))
    (hXN : X.N = N := by rfl) (hc : X.calm = true := by rfl) (hi : X.N[i]? = some x := by rfl) (hj : X.N[j]? = some y := by rfl) (hk : X.N[k]? = some z := by rfl)
    (hx : X.env.scope.names.lookup x = some .local := by rfl) (hy : X.env.scope.names.lookup y = some .local := by rfl) (hz : X.env.scope.names.lookup z = some .local := by rfl)
    (hs1 : starEach [a, .List [] pl, c] X.env = (false, eval a X.env) :: starEach [.List [] pl, c] X.env := by rfl) (hs2 : starEach [.List [] pl, c] X.env = (false, eval (.List [] pl) X.env) :: starEach [c] X.env := by rfl) (hs3 : starEach [c] X.env = (false, eval c X.env) :: starEach [] X.env := by rfl)
    (hw : swappedStores [.Tuple [.Name x px, .Name y py, .Name z pz] kt pt] (.Tuple [a, .List [] pl, c] k2 pt2) X.env = pure (some [x, y, z]) := by rfl)
    (hs : swapsWithSole [.Tuple [.Name x px, .Name y py, .Name z pz] kt pt] (.Tuple [a, .List [] pl, c] k2 pt2) pos.line X.env = pure false := by rfl) :
    WS X (.Assign [.Tuple [.Name x px, .Name y py, .Name z pz] kt pt] (.Tuple [a, .List [] pl, c] k2 pt2) pos) ρ E := fun B σ G H F S L => by
  refine wS_of (ps_par3 hc (hXN ▸ S0.nd) hi hj hk hij hik hjk hx hy hz (pa_cons pe_w (pa_cons (pe_lst pa_nil) (pa_cons pe_w pa_nil hs3) hs2) hs1) hw hs) ?_
  refine h B σ G H S _ fun v1 d1 ρ1 G1 H1 q1 S1 x1 pu1 i1 => ?_
  obtain ⟨hp0, hown, q1⟩ := q1
  have i1 : Is G1 d1 v1 := i1
  refine ⟨Nat.zero_le _, fun l hl => ?_⟩
  obtain ⟨b1, b2, b3⟩ := new_own S1 hl
  have S2 := S1.grow (Grow.own (o := .lst []) S1.ex hl)
  obtain ⟨lp, e1, gl, ll, pl⟩ := S2.ownAt hp0
  have S3 := S2.inner e1 hp0 hown
  refine q1 _ σ G1 _ S3 _ fun v3 d3 ρ3 G3 H3 q S4 x3 _ i3 => ⟨v1, .ref l, v3, rfl, ?_⟩
  have i3 : Is G3 d3 v3 := i3
  have nl : l ≠ lp := by
    rintro rfl
    obtain ⟨l', e', _, _, a0, b0, pe, _⟩ := S1.ownAt hp0
    have : l' = l := by rw [e1] at e'; cases e'; rfl
    subst this
    rw [hl] at pe; cases pe
  have gr : GrowP lp G1 (L2.upd H1 l (.lst [])) G3 H3 := ⟨x3, fun a o e ne => S4.fr a o e (by simpa using ne), S4.ex, S4.nw, (S4.pot lp List.mem_cons_self).1⟩
  have S5 := S2.growP gr hp0 e1
  have h3 : H3 l = some (.lst []) := gr.h _ _ upd_same nl
  have g3 : G3 l = none := by
    cases r : G3 l with
    | none => rfl
    | some u =>
      rcases gr.n l u r with y | y
      · rw [b1] at y; cases y
      · rw [upd_same] at y; cases y
  have S6 := S5.set (i := i) (Is.mono x3 _ _ i1)
  have S7 := S6.setOwn (i := j) (l := l) (o := .lst []) g3 b2 ⟨[], h3, rfl⟩ (fun m lc u hm hs => by
    obtain ⟨qi, hm⟩ := nown hm
    rw [List.getElem?_set_ne qi] at hs
    exact b3 m hs lc u hm)
  exact L.nx _ _ G3 _ q (S7.set (i := k) i3) (x1.trans x3)
end
end DD

namespace K37
open PySem PySem.Spec PyProof.Rows L2 DD
def topS (i : Nat) : Stmt := PySem.Challenge.pw_flippedpoints_k37_whole_flows_reduced_an.main.body.getD i (.Pass ⟨0, 0, 0, 0⟩)
abbrev s_is_integer : Stmt := topS 1
abbrev N_is_integer : List Str := ["value"]
theorem c_is_integer : FnScope N_is_integer ["value"] (defScope s_is_integer) := ⟨rfl, rfl, rfl, by decide +kernel, rfl, by decide +kernel, by decide +kernel⟩
abbrev s_is_count : Stmt := topS 2
abbrev N_is_count : List Str := ["value"]
theorem c_is_count : FnScope N_is_count ["value"] (defScope s_is_count) := ⟨rfl, rfl, rfl, by decide +kernel, rfl, by decide +kernel, by decide +kernel⟩
abbrev s_is_number : Stmt := topS 3
abbrev N_is_number : List Str := ["value"]
theorem c_is_number : FnScope N_is_number ["value"] (defScope s_is_number) := ⟨rfl, rfl, rfl, by decide +kernel, rfl, by decide +kernel, by decide +kernel⟩
abbrev s_is_count_below : Stmt := topS 4
abbrev N_is_count_below : List Str := ["value", "bound"]
theorem c_is_count_below : FnScope N_is_count_below ["value", "bound"] (defScope s_is_count_below) := ⟨rfl, rfl, rfl, by decide +kernel, rfl, by decide +kernel, by decide +kernel⟩
abbrev s_is_row : Stmt := topS 5
abbrev N_is_row : List Str := ["value"]
theorem c_is_row : FnScope N_is_row ["value"] (defScope s_is_row) := ⟨rfl, rfl, rfl, by decide +kernel, rfl, by decide +kernel, by decide +kernel⟩
abbrev s_are_numbers : Stmt := topS 6
abbrev N_are_numbers : List Str := ["value", "many", "item"]
theorem c_are_numbers : FnScope N_are_numbers ["value", "many"] (defScope s_are_numbers) := ⟨rfl, rfl, rfl, by decide +kernel, rfl, by decide +kernel, by decide +kernel⟩
abbrev s_InvalidNet_init_ : Stmt := inClass (topS 9) 0
abbrev N_InvalidNet_init_ : List Str := ["self", "value"]
theorem c_InvalidNet_init_ : FnScope N_InvalidNet_init_ ["self", "value"] (defScope s_InvalidNet_init_) := ⟨rfl, rfl, rfl, by decide +kernel, rfl, by decide +kernel, by decide +kernel⟩
abbrev s_InvalidSetting_init_ : Stmt := inClass (topS 10) 0
abbrev N_InvalidSetting_init_ : List Str := ["self", "value"]
theorem c_InvalidSetting_init_ : FnScope N_InvalidSetting_init_ ["self", "value"] (defScope s_InvalidSetting_init_) := ⟨rfl, rfl, rfl, by decide +kernel, rfl, by decide +kernel, by decide +kernel⟩
abbrev s_InvalidStarts_init_ : Stmt := inClass (topS 11) 0
abbrev N_InvalidStarts_init_ : List Str := ["self", "value"]
theorem c_InvalidStarts_init_ : FnScope N_InvalidStarts_init_ ["self", "value"] (defScope s_InvalidStarts_init_) := ⟨rfl, rfl, rfl, by decide +kernel, rfl, by decide +kernel, by decide +kernel⟩
abbrev s_InvalidVisits_init_ : Stmt := inClass (topS 12) 0
abbrev N_InvalidVisits_init_ : List Str := ["self", "value"]
theorem c_InvalidVisits_init_ : FnScope N_InvalidVisits_init_ ["self", "value"] (defScope s_InvalidVisits_init_) := ⟨rfl, rfl, rfl, by decide +kernel, rfl, by decide +kernel, by decide +kernel⟩
abbrev s_InvalidEnds_init_ : Stmt := inClass (topS 13) 0
abbrev N_InvalidEnds_init_ : List Str := ["self", "value"]
theorem c_InvalidEnds_init_ : FnScope N_InvalidEnds_init_ ["self", "value"] (defScope s_InvalidEnds_init_) := ⟨rfl, rfl, rfl, by decide +kernel, rfl, by decide +kernel, by decide +kernel⟩
abbrev s_InvalidExits_init_ : Stmt := inClass (topS 14) 0
abbrev N_InvalidExits_init_ : List Str := ["self", "value"]
theorem c_InvalidExits_init_ : FnScope N_InvalidExits_init_ ["self", "value"] (defScope s_InvalidExits_init_) := ⟨rfl, rfl, rfl, by decide +kernel, rfl, by decide +kernel, by decide +kernel⟩
abbrev s_TooMany_init_ : Stmt := inClass (topS 19) 0
abbrev N_TooMany_init_ : List Str := ["self", "what", "limit"]
theorem c_TooMany_init_ : FnScope N_TooMany_init_ ["self", "what", "limit"] (defScope s_TooMany_init_) := ⟨rfl, rfl, rfl, by decide +kernel, rfl, by decide +kernel, by decide +kernel⟩
abbrev s_Net_init_ : Stmt := inClass (topS 25) 0
abbrev N_Net_init_ : List Str := ["self", "ends", "exits", "targets", "row", "target"]
theorem c_Net_init_ : FnScope N_Net_init_ ["self", "ends", "exits"] (defScope s_Net_init_) := ⟨rfl, rfl, rfl, by decide +kernel, rfl, by decide +kernel, by decide +kernel⟩
abbrev s_Net_ends : Stmt := inClass (topS 25) 1
abbrev N_Net_ends : List Str := ["self"]
theorem c_Net_ends : FnScope N_Net_ends ["self"] (defScope s_Net_ends) := ⟨rfl, rfl, rfl, by decide +kernel, rfl, by decide +kernel, by decide +kernel⟩
abbrev s_Net_points : Stmt := inClass (topS 25) 2
abbrev N_Net_points : List Str := ["self"]
theorem c_Net_points : FnScope N_Net_points ["self"] (defScope s_Net_points) := ⟨rfl, rfl, rfl, by decide +kernel, rfl, by decide +kernel, by decide +kernel⟩
abbrev s_Net_many : Stmt := inClass (topS 25) 3
abbrev N_Net_many : List Str := ["self"]
theorem c_Net_many : FnScope N_Net_many ["self"] (defScope s_Net_many) := ⟨rfl, rfl, rfl, by decide +kernel, rfl, by decide +kernel, by decide +kernel⟩
abbrev s_Net_exits : Stmt := inClass (topS 25) 4
abbrev N_Net_exits : List Str := ["self", "row"]
theorem c_Net_exits : FnScope N_Net_exits ["self"] (defScope s_Net_exits) := ⟨rfl, rfl, rfl, by decide +kernel, rfl, by decide +kernel, by decide +kernel⟩
abbrev s_Net_targets : Stmt := inClass (topS 25) 5
abbrev N_Net_targets : List Str := ["self"]
theorem c_Net_targets : FnScope N_Net_targets ["self"] (defScope s_Net_targets) := ⟨rfl, rfl, rfl, by decide +kernel, rfl, by decide +kernel, by decide +kernel⟩
abbrev s_Net_eq_ : Stmt := inClass (topS 25) 6
abbrev N_Net_eq_ : List Str := ["self", "other"]
theorem c_Net_eq_ : FnScope N_Net_eq_ ["self", "other"] (defScope s_Net_eq_) := ⟨rfl, rfl, rfl, by decide +kernel, rfl, by decide +kernel, by decide +kernel⟩
abbrev s_is_target_of : Stmt := topS 26
abbrev N_is_target_of : List Str := ["value", "ends", "points"]
theorem c_is_target_of : FnScope N_is_target_of ["value", "ends", "points"] (defScope s_is_target_of) := ⟨rfl, rfl, rfl, by decide +kernel, rfl, by decide +kernel, by decide +kernel⟩
abbrev s_are_exits : Stmt := topS 27
abbrev N_are_exits : List Str := ["value", "ends", "row"]
theorem c_are_exits : FnScope N_are_exits ["value", "ends"] (defScope s_are_exits) := ⟨rfl, rfl, rfl, by decide +kernel, rfl, by decide +kernel, by decide +kernel⟩
abbrev s_is_exit_row : Stmt := topS 28
abbrev N_is_exit_row : List Str := ["value", "ends", "points", "target"]
theorem c_is_exit_row : FnScope N_is_exit_row ["value", "ends", "points"] (defScope s_is_exit_row) := ⟨rfl, rfl, rfl, by decide +kernel, rfl, by decide +kernel, by decide +kernel⟩
abbrev s_check_net : Stmt := topS 29
abbrev N_check_net : List Str := ["net"]
theorem c_check_net : FnScope N_check_net ["net"] (defScope s_check_net) := ⟨rfl, rfl, rfl, by decide +kernel, rfl, by decide +kernel, by decide +kernel⟩
abbrev s_check_setting : Stmt := topS 30
abbrev N_check_setting : List Str := ["net", "setting"]
theorem c_check_setting : FnScope N_check_setting ["net", "setting"] (defScope s_check_setting) := ⟨rfl, rfl, rfl, by decide +kernel, rfl, by decide +kernel, by decide +kernel⟩
abbrev s_is_setting : Stmt := topS 31
abbrev N_is_setting : List Str := ["net", "value", "spot", "row"]
theorem c_is_setting : FnScope N_is_setting ["net", "value"] (defScope s_is_setting) := ⟨rfl, rfl, rfl, by decide +kernel, rfl, by decide +kernel, by decide +kernel⟩
abbrev s_points_to : Stmt := topS 32
abbrev N_points_to : List Str := ["net", "goals", "rows", "found", "grown", "further", "point", "row", "target"]
theorem c_points_to : FnScope N_points_to ["net", "goals"] (defScope s_points_to) := ⟨rfl, rfl, rfl, by decide +kernel, rfl, by decide +kernel, by decide +kernel⟩
abbrev s_points_to_ends : Stmt := topS 33
abbrev N_points_to_ends : List Str := ["net", "end"]
theorem c_points_to_ends : FnScope N_points_to_ends ["net"] (defScope s_points_to_ends) := ⟨rfl, rfl, rfl, by decide +kernel, rfl, by decide +kernel, by decide +kernel⟩
abbrev s_is_leading : Stmt := topS 34
abbrev N_is_leading : List Str := ["net"]
theorem c_is_leading : FnScope N_is_leading ["net"] (defScope s_is_leading) := ⟨rfl, rfl, rfl, by decide +kernel, rfl, by decide +kernel, by decide +kernel⟩
abbrev s_check_starts : Stmt := topS 36
abbrev N_check_starts : List Str := ["net", "starts"]
theorem c_check_starts : FnScope N_check_starts ["net", "starts"] (defScope s_check_starts) := ⟨rfl, rfl, rfl, by decide +kernel, rfl, by decide +kernel, by decide +kernel⟩
abbrev s_check_visits : Stmt := topS 37
abbrev N_check_visits : List Str := ["net", "visits"]
theorem c_check_visits : FnScope N_check_visits ["net", "visits"] (defScope s_check_visits) := ⟨rfl, rfl, rfl, by decide +kernel, rfl, by decide +kernel, by decide +kernel⟩
abbrev s_check_trains : Stmt := topS 38
abbrev N_check_trains : List Str := ["net", "setting", "starts"]
theorem c_check_trains : FnScope N_check_trains ["net", "setting", "starts"] (defScope s_check_trains) := ⟨rfl, rfl, rfl, by decide +kernel, rfl, by decide +kernel, by decide +kernel⟩
abbrev s_check_leading : Stmt := topS 39
abbrev N_check_leading : List Str := ["net"]
theorem c_check_leading : FnScope N_check_leading ["net"] (defScope s_check_leading) := ⟨rfl, rfl, rfl, by decide +kernel, rfl, by decide +kernel, by decide +kernel⟩
abbrev s_deals_of : Stmt := topS 41
abbrev N_deals_of : List Str := ["rows", "setting", "deals", "point", "row", "spot", "target", "turns"]
theorem c_deals_of : FnScope N_deals_of ["rows", "setting"] (defScope s_deals_of) := ⟨rfl, rfl, rfl, by decide +kernel, rfl, by decide +kernel, by decide +kernel⟩
abbrev s_arrivals : Stmt := topS 42
abbrev N_arrivals : List Str := ["deals", "starts", "visits", "found", "point", "ahead", "many", "target"]
theorem c_arrivals : FnScope N_arrivals ["deals", "starts", "visits"] (defScope s_arrivals) := ⟨rfl, rfl, rfl, by decide +kernel, rfl, by decide +kernel, by decide +kernel⟩
abbrev s_last_targets : Stmt := topS 43
abbrev N_last_targets : List Str := ["rows", "setting", "visits", "found", "row", "spot", "many"]
theorem c_last_targets : FnScope N_last_targets ["rows", "setting", "visits"] (defScope s_last_targets) := ⟨rfl, rfl, rfl, by decide +kernel, rfl, by decide +kernel, by decide +kernel⟩
abbrev s_found_ring : Stmt := topS 44
abbrev N_found_ring : List Str := ["rows", "setting", "visits", "lasts", "seen", "begin", "way", "point"]
theorem c_found_ring : FnScope N_found_ring ["rows", "setting", "visits"] (defScope s_found_ring) := ⟨rfl, rfl, rfl, by decide +kernel, rfl, by decide +kernel, by decide +kernel⟩
abbrev s_less_once : Stmt := topS 45
abbrev N_less_once : List Str := ["visits", "ring", "point", "many"]
theorem c_less_once : FnScope N_less_once ["visits", "ring"] (defScope s_less_once) := ⟨rfl, rfl, rfl, by decide +kernel, rfl, by decide +kernel, by decide +kernel⟩
abbrev s_is_flow : Stmt := topS 47
abbrev N_is_flow : List Str := ["net", "setting", "starts", "value"]
theorem c_is_flow : FnScope N_is_flow ["net", "setting", "starts", "value"] (defScope s_is_flow) := ⟨rfl, rfl, rfl, by decide +kernel, rfl, by decide +kernel, by decide +kernel⟩
abbrev s_check_flow : Stmt := topS 51
abbrev N_check_flow : List Str := ["net", "setting", "starts", "visits"]
theorem c_check_flow : FnScope N_check_flow ["net", "setting", "starts", "visits"] (defScope s_check_flow) := ⟨rfl, rfl, rfl, by decide +kernel, rfl, by decide +kernel, by decide +kernel⟩
abbrev s_flow_from : Stmt := topS 52
abbrev N_flow_from : List Str := ["net", "setting", "starts", "first", "deals", "now", "later", "rounds"]
theorem c_flow_from : FnScope N_flow_from ["net", "setting", "starts", "first"] (defScope s_flow_from) := ⟨rfl, rfl, rfl, by decide +kernel, rfl, by decide +kernel, by decide +kernel⟩
abbrev s_reduced : Stmt := topS 53
abbrev N_reduced : List Str := ["net", "setting", "starts", "visits", "rows", "left", "taken", "ring"]
theorem c_reduced : FnScope N_reduced ["net", "setting", "starts", "visits"] (defScope s_reduced) := ⟨rfl, rfl, rfl, by decide +kernel, rfl, by decide +kernel, by decide +kernel⟩
abbrev s_check_both : Stmt := topS 54
abbrev N_check_both : List Str := ["net", "setting", "starts", "visits", "others"]
theorem c_check_both : FnScope N_check_both ["net", "setting", "starts", "visits", "others"] (defScope s_check_both) := ⟨rfl, rfl, rfl, by decide +kernel, rfl, by decide +kernel, by decide +kernel⟩
abbrev s_met : Stmt := topS 55
abbrev N_met : List Str := ["net", "setting", "starts", "visits", "others", "lesser", "one", "two"]
theorem c_met : FnScope N_met ["net", "setting", "starts", "visits", "others"] (defScope s_met) := ⟨rfl, rfl, rfl, by decide +kernel, rfl, by decide +kernel, by decide +kernel⟩
abbrev s_joined : Stmt := topS 56
abbrev N_joined : List Str := ["net", "setting", "starts", "visits", "others", "greater", "one", "two"]
theorem c_joined : FnScope N_joined ["net", "setting", "starts", "visits", "others"] (defScope s_joined) := ⟨rfl, rfl, rfl, by decide +kernel, rfl, by decide +kernel, by decide +kernel⟩
abbrev s_Lpot : Stmt := topS 58
abbrev N_Lpot : List Str := ["_law_script", "_law_k", "_law_cell", "_law_mixed"]
theorem c_Lpot : FnScope N_Lpot ["_law_script", "_law_k"] (defScope s_Lpot) := ⟨rfl, rfl, rfl, by decide +kernel, rfl, by decide +kernel, by decide +kernel⟩
abbrev s_Ldraw : Stmt := topS 59
abbrev N_Ldraw : List Str := ["_law_pot_here", "_law_size", "_law_digit"]
theorem c_Ldraw : FnScope N_Ldraw ["_law_pot_here", "_law_size"] (defScope s_Ldraw) := ⟨rfl, rfl, rfl, by decide +kernel, rfl, by decide +kernel, by decide +kernel⟩
abbrev s_Lpick : Stmt := topS 60
abbrev N_Lpick : List Str := ["_law_pot_here", "_law_some"]
theorem c_Lpick : FnScope N_Lpick ["_law_pot_here", "_law_some"] (defScope s_Lpick) := ⟨rfl, rfl, rfl, by decide +kernel, rfl, by decide +kernel, by decide +kernel⟩
abbrev s_Lexits : Stmt := topS 61
abbrev N_Lexits : List Str := ["_law_pot_here", "_law_most", "_law_points", "_law_ends", "_law_targets", "_law_found", "_law_point", "_law_row", "_law_turn", "_law_target"]
theorem c_Lexits : FnScope N_Lexits ["_law_pot_here", "_law_most"] (defScope s_Lexits) := ⟨rfl, rfl, rfl, by decide +kernel, rfl, by decide +kernel, by decide +kernel⟩
abbrev s_Llost : Stmt := topS 62
abbrev N_Llost : List Str := ["_law_exits_here", "_law_good", "_law_grown", "_law_more", "_law_point", "_law_row", "_law_target"]
theorem c_Llost : FnScope N_Llost ["_law_exits_here"] (defScope s_Llost) := ⟨rfl, rfl, rfl, by decide +kernel, rfl, by decide +kernel, by decide +kernel⟩
abbrev s_Lleading : Stmt := topS 63
abbrev N_Lleading : List Str := ["_law_pot_here", "_law_most", "_law_ends", "_law_exits_here", "_law_point"]
theorem c_Lleading : FnScope N_Lleading ["_law_pot_here", "_law_most"] (defScope s_Lleading) := ⟨rfl, rfl, rfl, by decide +kernel, rfl, by decide +kernel, by decide +kernel⟩
abbrev s_Lsetting : Stmt := topS 64
abbrev N_Lsetting : List Str := ["_law_pot_here", "_law_exits_here", "_law_found", "_law_row", "_law_exit_at"]
theorem c_Lsetting : FnScope N_Lsetting ["_law_pot_here", "_law_exits_here"] (defScope s_Lsetting) := ⟨rfl, rfl, rfl, by decide +kernel, rfl, by decide +kernel, by decide +kernel⟩
abbrev s_Ldealt : Stmt := topS 65
abbrev N_Ldealt : List Str := ["_law_row", "_law_exit_at", "_law_many", "_law_found", "_law_position"]
theorem c_Ldealt : FnScope N_Ldealt ["_law_row", "_law_exit_at", "_law_many"] (defScope s_Ldealt) := ⟨rfl, rfl, rfl, by decide +kernel, rfl, by decide +kernel, by decide +kernel⟩
abbrev s_Larrived : Stmt := topS 66
abbrev N_Larrived : List Str := ["_law_ends", "_law_exits_here", "_law_setting_here", "_law_starts", "_law_visits", "_law_found", "_law_come", "_law_point", "_law_row", "_law_target", "_law_many"]
theorem c_Larrived : FnScope N_Larrived ["_law_ends", "_law_exits_here", "_law_setting_here", "_law_starts", "_law_visits"] (defScope s_Larrived) := ⟨rfl, rfl, rfl, by decide +kernel, rfl, by decide +kernel, by decide +kernel⟩
abbrev s_Lleast : Stmt := topS 67
abbrev N_Lleast : List Str := ["_law_ends", "_law_exits_here", "_law_setting_here", "_law_starts", "_law_visits", "_law_later"]
theorem c_Lleast : FnScope N_Lleast ["_law_ends", "_law_exits_here", "_law_setting_here", "_law_starts"] (defScope s_Lleast) := ⟨rfl, rfl, rfl, by decide +kernel, rfl, by decide +kernel, by decide +kernel⟩
abbrev s_Lflows : Stmt := topS 68
abbrev N_Lflows : List Str := ["_law_ends", "_law_exits_here", "_law_setting_here", "_law_starts", "_law_most", "_law_found", "_law_point", "_law_longer", "_law_ahead", "_law_visits", "_law_many"]
theorem c_Lflows : FnScope N_Lflows ["_law_ends", "_law_exits_here", "_law_setting_here", "_law_starts", "_law_most"] (defScope s_Lflows) := ⟨rfl, rfl, rfl, by decide +kernel, rfl, by decide +kernel, by decide +kernel⟩
abbrev s_Lis_below : Stmt := topS 69
abbrev N_Lis_below : List Str := ["_law_near", "_law_far", "_law_one", "_law_other"]
theorem c_Lis_below : FnScope N_Lis_below ["_law_near", "_law_far"] (defScope s_Lis_below) := ⟨rfl, rfl, rfl, by decide +kernel, rfl, by decide +kernel, by decide +kernel⟩
abbrev s_Lright : Stmt := topS 70
abbrev N_Lright : List Str := ["_law_pot_here", "_law_ends", "_law_exits_here", "_law_setting_here", "_law_starts", "_law_point", "_law_many", "_law_net", "_law_least_here", "_law_flows_here", "_law_visits", "_law_near", "_law_far", "_law_below", "_law_tops", "_law_told", "_law_due", "_law_later", "_law_above", "_law_one", "_law_other"]
theorem c_Lright : FnScope N_Lright ["_law_pot_here"] (defScope s_Lright) := ⟨rfl, rfl, rfl, by decide +kernel, rfl, by decide +kernel, by decide +kernel⟩
abbrev s_law : Stmt := topS 71
abbrev N_law : List Str := ["_law_script"]
theorem c_law : FnScope N_law ["_law_script"] (defScope s_law) := ⟨rfl, rfl, rfl, by decide +kernel, rfl, by decide +kernel, by decide +kernel⟩
section
variable {P : Program} {w : World} {K : PySem.W.Frag} {mg : Str → Option Value} {base : Heap} {f : Addr} {fd : FuncData} {k : Nat}
/-! ### whole numbers and rows -/
def isI : D → Bool
  | .int _ => true
  | _ => false
def isIB : D → Bool
  | .int _ => true
  | .bl _ => true
  | _ => false
def isB : D → Bool
  | .bl _ => true
  | _ => false
def isL : D → Bool
  | .lst _ => true
  | _ => false
def isT : D → Bool
  | .tup _ => true
  | _ => false
def isRow (d : D) : Bool := isL d || isT d
def isC : D → Bool
  | .int i => decide (0 ≤ i)
  | _ => false
def isCB (d : D) (b : Int) : Bool := match d with
  | .int i => decide (0 ≤ i) && decide (i < b)
  | _ => false
def isTg (d : D) (e p : Int) : Bool := match d with
  | .int i => decide (-e ≤ i) && decide (i < p)
  | _ => false
/-- a value of a built-in kind -/
def Pl (d : D) : Prop := ∃ n, tyN d = some n
theorem pl_int (i : Int) : Pl (.int i) := ⟨_, rfl⟩
theorem kit_int {d : D} {n : String} (h : tyN d = some n) : kitB n "int" = some (isIB d) := by
  cases d <;> cases h
  · show kitB "NoneType" "int" = some false; decide +kernel
  · show kitB "bool" "int" = some true; decide +kernel
  · show kitB "int" "int" = some true; decide +kernel
  · show kitB "str" "int" = some false; decide +kernel
  · show kitB "list" "int" = some false; decide +kernel
  · show kitB "tuple" "int" = some false; decide +kernel
  · show kitB "dict" "int" = some false; decide +kernel
theorem kit_bool {d : D} {n : String} (h : tyN d = some n) : kitB n "bool" = some (isB d) := by
  cases d <;> cases h
  · show kitB "NoneType" "bool" = some false; decide +kernel
  · show kitB "bool" "bool" = some true; decide +kernel
  · show kitB "int" "bool" = some false; decide +kernel
  · show kitB "str" "bool" = some false; decide +kernel
  · show kitB "list" "bool" = some false; decide +kernel
  · show kitB "tuple" "bool" = some false; decide +kernel
  · show kitB "dict" "bool" = some false; decide +kernel
theorem kit_list {d : D} {n : String} (h : tyN d = some n) : kitB n "list" = some (isL d) := by
  cases d <;> cases h
  · show kitB "NoneType" "list" = some false; decide +kernel
  · show kitB "bool" "list" = some false; decide +kernel
  · show kitB "int" "list" = some false; decide +kernel
  · show kitB "str" "list" = some false; decide +kernel
  · show kitB "list" "list" = some true; decide +kernel
  · show kitB "tuple" "list" = some false; decide +kernel
  · show kitB "dict" "list" = some false; decide +kernel
theorem kit_tuple {d : D} {n : String} (h : tyN d = some n) : kitB n "tuple" = some (isT d) := by
  cases d <;> cases h
  · show kitB "NoneType" "tuple" = some false; decide +kernel
  · show kitB "bool" "tuple" = some false; decide +kernel
  · show kitB "int" "tuple" = some false; decide +kernel
  · show kitB "str" "tuple" = some false; decide +kernel
  · show kitB "list" "tuple" = some false; decide +kernel
  · show kitB "tuple" "tuple" = some true; decide +kernel
  · show kitB "dict" "tuple" = some false; decide +kernel
/-- the built-ins that the module leaves as they are -/
structure Blt (mg : Str → Option Value) : Prop where
  isi : mg "isinstance" = none
  int : mg "int" = none
  bool : mg "bool" = none
  list : mg "list" = none
  tuple : mg "tuple" = none
  len : mg "len" = none
  all : mg "all" = none
  any : mg "any" = none
  sum : mg "sum" = none
  sorted : mg "sorted" = none
  range : mg "range" = none
  enum : mg "enumerate" = none
  zip : mg "zip" = none
def c1 (b : D → Bool) : List D → (D → Prop) → Prop := fun ds Z => ∃ d, ds = [d] ∧ Pl d ∧ Z (.bl (b d))
theorem ok_is_integer (T : Blt mg) (F : Fun K "is_integer" "is_integer" s_is_integer f fd) : FnOk P w K mg base CX0 (k + 1) f fd ["value"] (spD (c1 isI)) := by
  refine fnD F c_is_integer (fun ds Z h => ?_) (fun cdv A outer s H E ds Z hr h => ?_)
  · obtain ⟨d, rfl, _⟩ := h
    rfl
  · obtain ⟨d, rfl, ⟨n, hn⟩, q⟩ := h
    refine ss_one (s_ret (w_and (w_callB true rfl T.isi (by decide +kernel) (aG (nm 0 (a1 (bltin T.int (c_isi hn (kit_int hn) ⟨_, rfl, ?_⟩))))))))
    cases hb : isIB d with
    | true =>
      refine w_one (w_not (w_callB true rfl T.isi (by decide +kernel) (aG (nm 0 (a1 (bltin T.bool (c_isi hn (kit_bool hn) ⟨_, rfl, ?_⟩)))))))
      show Z (.bl (!isB d))
      have e : (!isB d) = isI d := by cases d <;> first | rfl | cases hb
      rw [e]; exact q
    | false =>
      show Z (.bl false)
      have e : isI d = false := by cases d <;> first | rfl | cases hb
      rw [e] at q; exact q
theorem ok_is_count (Fi : Df P w K mg base k "is_integer" ["value"] (spD (c1 isI))) (F : Fun K "is_count" "is_count" s_is_count f fd) : FnOk P w K mg base CX0 (k + 1) f fd ["value"] (spD (c1 isC)) := by
  refine fnD F c_is_count (fun ds Z h => ?_) (fun cdv A outer s H E ds Z hr h => ?_)
  · obtain ⟨d, rfl, _⟩ := h
    rfl
  · obtain ⟨d, rfl, pl, q⟩ := h
    refine ss_one (s_ret (w_and (call Fi hr (a1 (nm 0 ⟨_, rfl, pl, _, rfl, ?_⟩)))))
    cases hb : isI d with
    | true =>
      cases d <;> first | cases hb | skip
      exact w_one (w_cmpG (nm 0 (w_int (o_ge q))))
    | false =>
      have e : isC d = false := by cases d <;> first | rfl | cases hb
      rw [e] at q; exact q
def c2 (b : D → Int → Bool) : List D → (D → Prop) → Prop := fun ds Z => ∃ d i, ds = [d, .int i] ∧ Pl d ∧ Z (.bl (b d i))
theorem ok_is_count_below (Fc : Df P w K mg base k "is_count" ["value"] (spD (c1 isC))) (F : Fun K "is_count_below" "is_count_below" s_is_count_below f fd) : FnOk P w K mg base CX0 (k + 1) f fd ["value", "bound"] (spD (c2 isCB)) := by
  refine fnD F c_is_count_below (fun ds Z h => ?_) (fun cdv A outer s H E ds Z hr h => ?_)
  · obtain ⟨d, i, rfl, _⟩ := h
    rfl
  · obtain ⟨d, i, rfl, pl, q⟩ := h
    refine ss_one (s_ret (w_and (call Fc hr (a1 (nm 0 ⟨_, rfl, pl, _, rfl, ?_⟩)))))
    cases hb : isC d with
    | true =>
      cases d <;> first | cases hb | skip
      rename_i j
      have e : isCB (.int j) i = decide (j < i) := by
        have h0 : decide (0 ≤ j) = true := hb
        show (decide (0 ≤ j) && decide (j < i)) = _
        rw [h0]; rfl
      rw [e] at q
      exact w_one (w_cmpG (nm 0 (nm 1 (o_lt q))))
    | false =>
      have e : isCB d i = false := by
        cases d <;> first | rfl | skip
        rename_i j
        have h0 : decide (0 ≤ j) = false := hb
        show (decide (0 ≤ j) && decide (j < i)) = _
        rw [h0]; rfl
      rw [e] at q; exact q
theorem ok_is_row (T : Blt mg) (F : Fun K "is_row" "is_row" s_is_row f fd) : FnOk P w K mg base CX0 (k + 1) f fd ["value"] (spD (c1 isRow)) := by
  refine fnD F c_is_row (fun ds Z h => ?_) (fun cdv A outer s H E ds Z hr h => ?_)
  · obtain ⟨d, rfl, _⟩ := h
    rfl
  · obtain ⟨d, rfl, ⟨n, hn⟩, q⟩ := h
    exact ss_one (s_ret (w_callB true rfl T.isi (by decide +kernel) (aG (nm 0 (a1 (w_tup (aG (bltin T.list (a1 (bltin T.tuple ⟨by decide, c_isi2 hn (kit_list hn) (kit_tuple hn) q⟩))))))))))
def c3 (b : D → Int → Int → Bool) : List D → (D → Prop) → Prop := fun ds Z => ∃ d i j, ds = [d, .int i, .int j] ∧ Pl d ∧ Z (.bl (b d i j))
theorem ok_is_target_of (Fi : Df P w K mg base k "is_integer" ["value"] (spD (c1 isI))) (F : Fun K "_is_target_of" "_is_target_of" s_is_target_of f fd) : FnOk P w K mg base CX0 (k + 1) f fd ["value", "ends", "points"] (spD (c3 isTg)) := by
  refine fnD F c_is_target_of (fun ds Z h => ?_) (fun cdv A outer s H E ds Z hr h => ?_)
  · obtain ⟨d, i, j, rfl, _⟩ := h
    rfl
  · obtain ⟨d, i, j, rfl, pl, q⟩ := h
    refine ss_one (s_ret (w_and (call Fi hr (a1 (nm 0 ⟨_, rfl, pl, _, rfl, ?_⟩)))))
    cases hb : isI d with
    | true =>
      cases d <;> first | cases hb | skip
      rename_i n
      refine w_one (w_chain (w_un (nm 1 (o_neg (nm 0 (o_le ⟨_, rfl, ?_⟩))))))
      by_cases h1 : -i ≤ n
      · rw [decide_eq_true h1]
        have e : isTg (.int n) i j = decide (n < j) := by
          show (decide (-i ≤ n) && decide (n < j)) = _
          rw [decide_eq_true h1]; rfl
        rw [e] at q
        exact nm 2 (o_lt q)
      · rw [decide_eq_false h1]
        have e : isTg (.int n) i j = false := by
          show (decide (-i ≤ n) && decide (n < j)) = _
          rw [decide_eq_false h1]; rfl
        rw [e] at q
        exact q
    | false =>
      have e : isTg d i j = false := by cases d <;> first | rfl | cases hb
      rw [e] at q; exact q
end
section
variable {P : Program} {w : World} {K : PySem.W.Frag} {mg : Str → Option Value} {base : Heap} {f C : Addr} {fd : FuncData} {k : Nat}
/-! ### rows of exits -/
/-- the items of a list, a tuple -/
def its : D → Option (List D)
  | .lst xs => some xs
  | .tup xs => some xs
  | _ => none
def isXR (d : D) (e p : Int) : Bool := match its d with
  | some xs => decide (1 ≤ (xs.length : Int)) && decide ((xs.length : Int) ≤ 6) && xs.all fun x => isTg x e p
  | none => false
/-- plain, and what is in it -/
def Pl1 (d : D) : Prop := Pl d ∧ ∀ xs, its d = some xs → xs.length ≤ 40000 ∧ ∀ x ∈ xs, Pl x
def Pl2 (d : D) : Prop := Pl d ∧ ∀ xs, its d = some xs → xs.length ≤ 40000 ∧ ∀ x ∈ xs, Pl1 x
theorem row_its {d : D} (h : isRow d = true) : ∃ xs, its d = some xs ∧ (d = .lst xs ∨ d = .tup xs) := by
  cases d with
  | lst xs => exact ⟨xs, rfl, .inl rfl⟩
  | tup xs => exact ⟨xs, rfl, .inr rfl⟩
  | _ => cases h
theorem row_no {d : D} (h : isRow d = false) : its d = none := by
  cases d with
  | lst xs => cases h
  | tup xs => cases h
  | _ => rfl
theorem c_len {g : Bool} {X : Cx} {Z : D → Prop} {d : D} {xs : List D} (h : d = .lst xs ∨ d = .tup xs) (q : Z (.int (xs.length : Int))) : OpC g X (.builtin "len") [d] Z := by
  rcases h with rfl | rfl
  · exact c_lenL q
  · exact c_lenT q
theorem wi_row {X : Cx} {p : Bool} {ρ : Rho} {tg e : Expr} {QI : List D → Rho → Prop} {d : D} {xs : List D} (h : d = .lst xs ∨ d = .tup xs) (hw : ∀ (Q : D → Rho → Prop), Q d ρ → W p true X e ρ Q) (q : QI xs ρ) : WI p X tg e ρ QI := by
  rcases h with rfl | rfl
  · exact wi_lst (hw _ ⟨xs, rfl, q⟩)
  · exact wi_tup (hw _ ⟨xs, rfl, q⟩)
def c3R (b : D → Int → Int → Bool) : List D → (D → Prop) → Prop := fun ds Z => ∃ d i j, ds = [d, .int i, .int j] ∧ Pl1 d ∧ Z (.bl (b d i j))
theorem ok_is_exit_row {t6 : Tok} (T : Blt mg) (m6 : mg "MOST_EXITS" = some (.int 6 t6)) (Fr : Df P w K mg base k "is_row" ["value"] (spD (c1 isRow))) (Ft : Df P w K mg base k "_is_target_of" ["value", "ends", "points"] (spD (c3 isTg)))
    (F : Fun K "_is_exit_row" "_is_exit_row" s_is_exit_row f fd) : FnOk P w K mg base CX0 (k + 1) f fd ["value", "ends", "points"] (spD (c3R isXR)) := by
  refine fnD F c_is_exit_row (fun ds Z h => ?_) (fun cdv A outer s H E ds Z hr h => ?_)
  · obtain ⟨d, i, j, rfl, _⟩ := h
    rfl
  · obtain ⟨d, i, j, rfl, pl, q⟩ := h
    refine ss_cons (s_if (t_bool (tb_or (t_not (t_val (call Fr hr (a1 (nm 0 ⟨_, rfl, pl.1, _, rfl, ?_⟩))))))))
    cases hb : isRow d with
    | false =>
      have e : isXR d i j = false := by
        unfold isXR; rw [row_no hb]
      rw [e] at q
      show WSs _ _ _ _
      exact ss_one (s_ret (w_bl q))
    | true =>
      obtain ⟨xs, hi, hd⟩ := row_its hb
      obtain ⟨hl, hx⟩ := pl.2 xs hi
      show WTB _ _ _ _ _ _ _
      refine tb_or1 (t_not (t_chain (w_int (w_callB true rfl T.len (by decide +kernel) (a1 (nm 0 (c_len hd (o_le ⟨_, rfl, ?_⟩))))))))
      by_cases h1 : (1 : Int) ≤ xs.length
      · rw [decide_eq_true h1]
        show W _ _ _ _ _ _
        refine glb m6 (o_le ⟨_, rfl, ?_⟩)
        by_cases h2 : (xs.length : Int) ≤ 6
        · rw [decide_eq_true h2]
          show WSs _ _ _ _
          refine ss_nil (ss_one (s_ret (w_callB true rfl T.all (by decide +kernel) (a1 (lc1 3 (fun x => .bl (isTg x i j)) c_is_exit_row (wi_row hd (fun Q h => nm 0 h) ⟨hl, fun x hxm _ _ _ _ _ => ?_, c_allD rfl ?_⟩))))))
          · exact call Ft hr (aG (nm 3 (aG (nm 1 (a1 (nm 2 ⟨_, _, _, rfl, hx x hxm, rfl⟩))))))
          · have e : isXR d i j = xs.all fun x => isTg x i j := by
              unfold isXR; rw [hi]
              show (decide _ && decide _ && _) = _
              rw [decide_eq_true h1, decide_eq_true h2]; rfl
            rw [e] at q; exact q
        · rw [decide_eq_false h2]
          have e : isXR d i j = false := by
            unfold isXR; rw [hi]
            show (decide _ && decide _ && _) = _
            rw [decide_eq_false h2, Bool.and_false, Bool.false_and]
          rw [e] at q
          show WSs _ _ _ _
          exact ss_one (s_ret (w_bl q))
      · rw [decide_eq_false h1]
        have e : isXR d i j = false := by
          unfold isXR; rw [hi]
          show (decide _ && decide _ && _) = _
          rw [decide_eq_false h1, Bool.false_and, Bool.false_and]
        rw [e] at q
        show WSs _ _ _ _
        exact ss_one (s_ret (w_bl q))
def isXs (d : D) (e : Int) : Bool := match its d with
  | some xs => decide (1 ≤ (xs.length : Int)) && decide ((xs.length : Int) ≤ 24) && xs.all fun x => isXR x e xs.length
  | none => false
def c2R (b : D → Int → Bool) : List D → (D → Prop) → Prop := fun ds Z => ∃ d i, ds = [d, .int i] ∧ Pl2 d ∧ Z (.bl (b d i))
theorem ok_are_exits {t24 : Tok} (T : Blt mg) (m24 : mg "MOST_POINTS" = some (.int 24 t24)) (Fr : Df P w K mg base k "is_row" ["value"] (spD (c1 isRow))) (Fx : Df P w K mg base k "_is_exit_row" ["value", "ends", "points"] (spD (c3R isXR)))
    (F : Fun K "_are_exits" "_are_exits" s_are_exits f fd) : FnOk P w K mg base CX0 (k + 1) f fd ["value", "ends"] (spD (c2R isXs)) := by
  refine fnD F c_are_exits (fun ds Z h => ?_) (fun cdv A outer s H E ds Z hr h => ?_)
  · obtain ⟨d, i, rfl, _⟩ := h
    rfl
  · obtain ⟨d, i, rfl, pl, q⟩ := h
    refine ss_cons (s_if (t_bool (tb_or (t_not (t_val (call Fr hr (a1 (nm 0 ⟨_, rfl, pl.1, _, rfl, ?_⟩))))))))
    cases hb : isRow d with
    | false =>
      have e : isXs d i = false := by
        unfold isXs; rw [row_no hb]
      rw [e] at q
      show WSs _ _ _ _
      exact ss_one (s_ret (w_bl q))
    | true =>
      obtain ⟨xs, hi, hd⟩ := row_its hb
      obtain ⟨hl, hx⟩ := pl.2 xs hi
      show WTB _ _ _ _ _ _ _
      refine tb_or1 (t_not (t_chain (w_int (w_callB true rfl T.len (by decide +kernel) (a1 (nm 0 (c_len hd (o_le ⟨_, rfl, ?_⟩))))))))
      by_cases h1 : (1 : Int) ≤ xs.length
      · rw [decide_eq_true h1]
        show W _ _ _ _ _ _
        refine glb m24 (o_le ⟨_, rfl, ?_⟩)
        by_cases h2 : (xs.length : Int) ≤ 24
        · rw [decide_eq_true h2]
          show WSs _ _ _ _
          refine ss_nil (ss_one (s_ret (w_callB true rfl T.all (by decide +kernel) (a1 (lc1 2 (fun x => .bl (isXR x i xs.length)) c_are_exits (wi_row hd (fun Q h => nm 0 h) ⟨hl, fun x hxm _ _ _ _ _ => ?_, c_allD rfl ?_⟩))))))
          · exact call Fx hr (aG (nm 2 (aG (nm 1 (a1 (w_callB true rfl T.len (by decide +kernel) (a1 (nm 0 (c_len hd ⟨_, _, _, rfl, hx x hxm, rfl⟩)))))))))
          · have e : isXs d i = xs.all fun x => isXR x i xs.length := by
              unfold isXs; rw [hi]
              show (decide _ && decide _ && _) = _
              rw [decide_eq_true h1, decide_eq_true h2]; rfl
            rw [e] at q; exact q
        · rw [decide_eq_false h2]
          have e : isXs d i = false := by
            unfold isXs; rw [hi]
            show (decide _ && decide _ && _) = _
            rw [decide_eq_false h2, Bool.and_false, Bool.false_and]
          rw [e] at q
          show WSs _ _ _ _
          exact ss_one (s_ret (w_bl q))
      · rw [decide_eq_false h1]
        have e : isXs d i = false := by
          unfold isXs; rw [hi]
          show (decide _ && decide _ && _) = _
          rw [decide_eq_false h1, Bool.false_and, Bool.false_and]
        rw [e] at q
        show WSs _ _ _ _
        exact ss_one (s_ret (w_bl q))
end
section
variable {P : Program} {w : World} {K : PySem.W.Frag} {mg : Str → Option Value} {base : Heap} {f C : Addr} {fd : FuncData} {k : Nat}
/-! ### nets -/
def lI (l : List Int) : List D := l.map D.int
def rowsT (ex : List (List Int)) : List D := ex.map fun l => D.tup (lI l)
def rowsL (ex : List (List Int)) : List D := ex.map fun l => D.lst (lI l)
/-- a net's fields -/
def netF (e : Int) (ex : List (List Int)) : List (Str × D) := [("_ends", .int e), ("_exits", .tup (rowsT ex)), ("_targets", .tup (lI ex.flatten))]
def netD (C : Addr) (e : Int) (ex : List (List Int)) : D := .obj C (netF e ex)
/-- rows of whole numbers, as lists or tuples -/
def rowI (x : D) (l : List Int) : Prop := x = .lst (lI l) ∨ x = .tup (lI l)
inductive RowsA : List D → List (List Int) → Prop
  | nil : RowsA [] []
  | cons {x l xs ls} : rowI x l → RowsA xs ls → RowsA (x :: xs) (l :: ls)
def Rows (d : D) (ex : List (List Int)) : Prop := ∃ xs, (d = .lst xs ∨ d = .tup xs) ∧ RowsA xs ex
theorem rowsA_L : ∀ ex, RowsA (rowsL ex) ex
  | [] => .nil
  | l :: ls => .cons (.inl rfl) (rowsA_L ls)
theorem rowsA_T : ∀ ex, RowsA (rowsT ex) ex
  | [] => .nil
  | l :: ls => .cons (.inr rfl) (rowsA_T ls)
theorem RowsA.length : ∀ {xs ex}, RowsA xs ex → xs.length = ex.length
  | _, _, .nil => rfl
  | _, _, .cons _ t => by simp [RowsA.length t]
theorem RowsA.mem : ∀ {xs ex}, RowsA xs ex → ∀ x ∈ xs, ∃ l ∈ ex, rowI x l
  | _, _, .nil, x, h => by simp at h
  | _, _, .cons r t, x, h => by
    rcases List.mem_cons.mp h with rfl | h
    · exact ⟨_, List.mem_cons_self, r⟩
    · obtain ⟨l, hl, hr⟩ := RowsA.mem t x h
      exact ⟨l, List.mem_cons_of_mem _ hl, hr⟩
def itsD (x : D) : List D := (its x).getD []
theorem rowI.itsE {x : D} {l : List Int} (h : rowI x l) : itsD x = lI l := by
  rcases h with rfl | rfl <;> rfl
theorem RowsA.flat : ∀ {xs ex}, RowsA xs ex → xs.flatMap (fun d => (itsD d).map fun e => e) = lI ex.flatten
  | _, _, .nil => rfl
  | _, _, .cons (l := l) (ls := ls) r t => by
    rw [List.flatMap_cons, RowsA.flat t, r.itsE, List.map_id'', List.flatten_cons]
    · unfold lI; rw [List.map_append]
    · intro a; rfl
theorem RowsA.tup : ∀ {xs ex}, RowsA xs ex → xs.map (fun d => D.tup (itsD d)) = rowsT ex
  | _, _, .nil => rfl
  | _, _, .cons r t => by rw [List.map_cons, RowsA.tup t, r.itsE]; rfl
/-- what makes a net -/
structure Valid (e : Int) (ex : List (List Int)) : Prop where
  e0 : 0 ≤ e
  e6 : e ≤ 6
  n1 : 1 ≤ ex.length
  n24 : ex.length ≤ 24
  r1 : ∀ l ∈ ex, 1 ≤ l.length
  r6 : ∀ l ∈ ex, l.length ≤ 6
  lo : ∀ l ∈ ex, ∀ t ∈ l, -e ≤ t
  hi : ∀ l ∈ ex, ∀ t ∈ l, t < ex.length
  m60 : ex.flatten.length ≤ 60
theorem ints_all {l : List Int} {b : D → Bool} (h : ∀ t ∈ l, b (.int t) = true) : (lI l).all b = true := by
  unfold lI
  rw [List.all_map]
  exact List.all_eq_true.mpr h
theorem Valid.xs {e : Int} {ex : List (List Int)} (v : Valid e ex) {d : D} (h : Rows d ex) : isXs d e = true := by
  obtain ⟨xs, hd, hr⟩ := h
  have hi : its d = some xs := by rcases hd with rfl | rfl <;> rfl
  have hl := hr.length
  unfold isXs
  rw [hi]
  show (decide _ && decide _ && xs.all _) = true
  have n1 := v.n1
  have n24 := v.n24
  rw [decide_eq_true (by omega), decide_eq_true (by omega), Bool.true_and, Bool.true_and]
  refine List.all_eq_true.mpr fun x hx => ?_
  obtain ⟨l, hl2, hri⟩ := hr.mem x hx
  have hi2 : its x = some (lI l) := by rcases hri with rfl | rfl <;> rfl
  unfold isXR
  rw [hi2]
  show (decide _ && decide _ && (lI l).all _) = true
  have h1 := v.r1 l hl2
  have h6 := v.r6 l hl2
  have e2 : (lI l).length = l.length := List.length_map _
  rw [decide_eq_true (by omega), decide_eq_true (by omega), Bool.true_and, Bool.true_and]
  refine ints_all fun t ht => ?_
  have a := v.lo l hl2 t ht
  have b := v.hi l hl2 t ht
  show (decide _ && decide _) = true
  rw [decide_eq_true a, decide_eq_true (by omega)]
  rfl
theorem pl_ints {l : List Int} : ∀ x ∈ lI l, Pl x := fun x hx => by
  obtain ⟨i, _, rfl⟩ := List.mem_map.mp hx
  exact ⟨_, rfl⟩
theorem rowI.pl {x : D} {l : List Int} (h : rowI x l) (hl : l.length ≤ 40000) : Pl1 x := by
  have hi : its x = some (lI l) := by rcases h with rfl | rfl <;> rfl
  refine ⟨by rcases h with rfl | rfl <;> exact ⟨_, rfl⟩, fun xs e => ?_⟩
  rw [hi] at e
  cases e
  exact ⟨by unfold lI; rw [List.length_map]; exact hl, pl_ints⟩
theorem Valid.pl {e : Int} {ex : List (List Int)} (v : Valid e ex) {d : D} (h : Rows d ex) : Pl2 d := by
  obtain ⟨xs, hd, hr⟩ := h
  have hi : its d = some xs := by rcases hd with rfl | rfl <;> rfl
  refine ⟨by rcases hd with rfl | rfl <;> exact ⟨_, rfl⟩, fun ys e => ?_⟩
  rw [hi] at e
  cases e
  refine ⟨by rw [hr.length]; have := v.n24; omega, fun x hx => ?_⟩
  obtain ⟨l, hl, hri⟩ := hr.mem x hx
  exact hri.pl (by have := v.r6 l hl; omega)
def cInit : List D → (List (Str × D) → Prop) → Prop := fun ds Z => ∃ e d ex, ds = [.int e, d] ∧ Rows d ex ∧ Valid e ex ∧ Z (netF e ex)
/-- the class, as the top has left it -/
structure NetT (K : PySem.W.Frag) (mg : Str → Option Value) (C : Addr) : Prop where
  t : ClsT K C
  nE : NoAttr K C "_ends"
  nX : NoAttr K C "_exits"
  nT : NoAttr K C "_targets"
  mgC : mg "Net" = some (.ref C)
  kl : PySem.W.kitOne K (.type "list") (.ref C) = some false
  nf : PySem.W.notFirst K C (.type "list") = true
theorem WSs.nx {X : Cx} {ρ : Rho} {E : DE} {rest : List Stmt} (h : WSs X rest ρ E) : ({ E with nx := fun ρ' => WSs X rest ρ' E } : DE).nx ρ := h
theorem ok_init {t6 t60 : Tok} (T : Blt mg) (N : NetT K mg C) (m6 : mg "MOST_ENDS" = some (.int 6 t6)) (m60 : mg "MOST_TRACKS" = some (.int 60 t60)) (Fc : Df P w K mg base k "is_count_below" ["value", "bound"] (spD (c2 isCB))) (Fx : Df P w K mg base k "_are_exits" ["value", "ends"] (spD (c2R isXs)))
    (F : Fun K "__init__" "Net.__init__" s_Net_init_ f fd) : FnOk P w K mg base CX0 (k + 1) f fd ["self", "ends", "exits"] (spI C cInit) := by
  refine fnI F c_Net_init_ (fun ds Z h => ?_) (fun cdv A outer s H E ds Z hr h => ?_)
  · obtain ⟨e, d, ex, rfl, _⟩ := h
    rfl
  · obtain ⟨e, d, ex, rfl, hrows, v, q⟩ := h
    have hxs := v.xs hrows
    have hpl := v.pl hrows
    -- if not is_count_below(ends, MOST_ENDS + 1): never
    refine ss_cons (s_if (t_not (t_val (call Fc hr (aG (nm 1 (a1 (w_binG (glb m6 (w_int (o_add ⟨_, _, rfl, pl_int e, _, rfl, ?_⟩)))))))))))
    have h1 : isCB (.int e) (6 + 1) = true := by
      show (decide (0 ≤ e) && decide (e < 6 + 1)) = true
      rw [decide_eq_true v.e0, decide_eq_true (by have := v.e6; omega)]; rfl
    rw [h1]
    show WSs _ [] _ _
    refine ss_nil ?_
    show WSs _ _ _ _
    -- if not _are_exits(exits, ends): never
    refine ss_cons (s_if (t_not (t_val (call Fx hr (aG (nm 2 (a1 (nm 1 ⟨_, _, rfl, hpl, _, rfl, ?_⟩))))))))
    rw [hxs]
    show WSs _ [] _ _
    refine ss_nil ?_
    show WSs _ _ _ _
    -- targets
    obtain ⟨xs, hd, hra⟩ := hrows
    have hlen : (xs.flatMap fun d => (itsD d).map fun e => e).length ≤ 60 := by
      rw [hra.flat]; unfold lI; rw [List.length_map]; exact v.m60
    refine ss_cons (s_lc11 3 4 5 itsD (fun _ e => e) c_Net_init_ (wi_row hd (fun Q h => nm 2 h) ⟨Nat.le_trans hlen (by decide), fun x hx => ⟨fun _ _ _ _ _ => ?_, fun y hy _ _ _ _ _ => nm 5 rfl⟩, ?_⟩))
    · obtain ⟨l, hl, hri⟩ := hra.mem x hx
      rw [hri.itsE]
      rcases hri with rfl | rfl
      · exact wi_lst (nm 4 ⟨_, rfl, rfl⟩)
      · exact wi_tup (nm 4 ⟨_, rfl, rfl⟩)
    rw [hra.flat]
    show WSs _ _ _ _
    -- if len(targets) > MOST_TRACKS: never
    refine ss_cons (s_if (t_cmpG (w_callB true rfl T.len (by decide +kernel) (a1 (nm 3 (c_lenL (glb m60 (o_gt ⟨_, rfl, ?_⟩))))))))
    have h2 : decide (60 < ((lI ex.flatten).length : Int)) = false := by
      have e2 : (lI ex.flatten).length = ex.flatten.length := List.length_map _
      have := v.m60
      exact decide_eq_false (by omega)
    rw [h2]
    show WSs _ [] _ _
    refine ss_nil ?_
    show WSs _ _ _ _
    -- self._ends = ends
    refine ss_cons (s_fld (i := 0) rfl (.inl rfl) (by decide) (by decide) (nm 1 ⟨C, [], rfl, N.t.cl, N.nE, by decide, rfl, ?_⟩))
    show WSs _ _ _ _
    -- self._exits = tuple([tuple(row) for row in exits])
    refine ss_cons (s_fld (i := 0) rfl (.inl rfl) (by decide) (by decide) (w_callTy true rfl T.tuple (by decide +kernel) (a1 (lc1 4 (fun x => .tup (itsD x)) c_Net_init_ (wi_row hd (fun Q h => nm 2 h) ⟨by rw [hra.length]; have := v.n24; omega, fun x hx _ _ _ _ _ => ?_, c_tuple ⟨C, _, rfl, N.t.cl, N.nX, by show 1 < 1000; decide, by rfl, ?_⟩⟩)))))
    · obtain ⟨l, hl, hri⟩ := hra.mem x hx
      refine w_callTy (T := "tuple") true rfl T.tuple (by decide +kernel) (a1 (nm 4 ?_))
      rcases hri with rfl | rfl
      · exact c_tuple rfl
      · exact c_tupleT rfl
    rw [hra.tup]
    show WSs _ _ _ _
    -- self._targets = tuple(targets)
    refine ss_one (s_fld (i := 0) rfl (.inl rfl) (by decide) (by decide) (w_callTy true rfl T.tuple (by decide +kernel) (a1 (nm 3 (c_tuple ⟨C, _, rfl, N.t.cl, N.nT, by show 2 < 1000; decide, by rfl, ?_⟩)))))
    exact ⟨_, rfl, q⟩
/-! getters and methods -/
def cNet (C : Addr) (r : Int → List (List Int) → D) : List D → (D → Prop) → Prop := fun ds Z => ∃ e ex, ds = [netD C e ex] ∧ Valid e ex ∧ Z (r e ex)
theorem ok_ends (N : NetT K mg C) (F : Fun K "ends" "Net.ends" s_Net_ends f fd) : FnOk P w K mg base CX0 (k + 1) f fd ["self"] (spD (cNet C fun e _ => .int e)) := by
  refine fnD F c_Net_ends (fun ds Z h => ?_) (fun cdv A outer s H E ds Z hr h => ?_)
  · obtain ⟨e, ex, rfl, _⟩ := h
    rfl
  · obtain ⟨e, ex, rfl, v, q⟩ := h
    exact ss_one (s_ret (w_fld (nm 0 ⟨C, netF e ex, _, rfl, N.t.cl, N.nE, by rfl, q⟩)))
theorem ok_points (T : Blt mg) (N : NetT K mg C) (F : Fun K "points" "Net.points" s_Net_points f fd) : FnOk P w K mg base CX0 (k + 1) f fd ["self"] (spD (cNet C fun _ ex => .int (ex.length : Int))) := by
  refine fnD F c_Net_points (fun ds Z h => ?_) (fun cdv A outer s H E ds Z hr h => ?_)
  · obtain ⟨e, ex, rfl, _⟩ := h
    rfl
  · obtain ⟨e, ex, rfl, v, q⟩ := h
    refine ss_one (s_ret (w_callB true rfl T.len (by decide +kernel) (a1 (w_fld (nm 0 ⟨C, netF e ex, _, rfl, N.t.cl, N.nX, by rfl, c_lenT ?_⟩)))))
    have e2 : (rowsT ex).length = ex.length := List.length_map _
    rw [e2]; exact q
theorem ok_exits (T : Blt mg) (N : NetT K mg C) (F : Fun K "exits" "Net.exits" s_Net_exits f fd) : FnOk P w K mg base CX0 (k + 1) f fd ["self"] (spD (cNet C fun _ ex => .lst (rowsL ex))) := by
  refine fnD F c_Net_exits (fun ds Z h => ?_) (fun cdv A outer s H E ds Z hr h => ?_)
  · obtain ⟨e, ex, rfl, _⟩ := h
    rfl
  · obtain ⟨e, ex, rfl, v, q⟩ := h
    refine ss_one (s_ret (lc1 1 (fun x => .lst (itsD x)) c_Net_exits (wi_tup (w_fld (nm 0 ⟨C, netF e ex, _, rfl, N.t.cl, N.nX, by rfl, _, rfl, ?_, fun x hx _ _ _ _ _ => ?_, ?_⟩)))))
    · have e2 : (rowsT ex).length = ex.length := List.length_map _
      rw [e2]; have := v.n24; omega
    · obtain ⟨l, hl, rfl⟩ := List.mem_map.mp hx
      exact w_callTy true rfl T.list (by decide +kernel) (a1 (nm 1 (c_listT rfl)))
    · have e2 : (rowsT ex).map (fun x => D.lst (itsD x)) = rowsL ex := by
        unfold rowsT rowsL
        rw [List.map_map]
        rfl
      rw [e2]; exact q
theorem ok_targets (T : Blt mg) (N : NetT K mg C) (F : Fun K "targets" "Net.targets" s_Net_targets f fd) : FnOk P w K mg base CX0 (k + 1) f fd ["self"] (spD (cNet C fun _ ex => .lst (lI ex.flatten))) := by
  refine fnD F c_Net_targets (fun ds Z h => ?_) (fun cdv A outer s H E ds Z hr h => ?_)
  · obtain ⟨e, ex, rfl, _⟩ := h
    rfl
  · obtain ⟨e, ex, rfl, v, q⟩ := h
    exact ss_one (s_ret (w_callTy true rfl T.list (by decide +kernel) (a1 (w_fld (nm 0 ⟨C, netF e ex, _, rfl, N.t.cl, N.nT, by rfl, c_listT q⟩)))))
theorem ok_many (T : Blt mg) (N : NetT K mg C) (F : Fun K "many" "Net.many" s_Net_many f fd) : FnOk P w K mg base CX0 (k + 1) f fd ["self"] (spD (cNet C fun _ ex => .int (ex.flatten.length : Int))) := by
  refine fnD F c_Net_many (fun ds Z h => ?_) (fun cdv A outer s H E ds Z hr h => ?_)
  · obtain ⟨e, ex, rfl, _⟩ := h
    rfl
  · obtain ⟨e, ex, rfl, v, q⟩ := h
    refine ss_one (s_ret (w_callB true rfl T.len (by decide +kernel) (a1 (w_fld (nm 0 ⟨C, netF e ex, _, rfl, N.t.cl, N.nT, by rfl, c_lenT ?_⟩)))))
    have e2 : (lI ex.flatten).length = ex.flatten.length := List.length_map _
    rw [e2]; exact q
def cNetEq (C : Addr) : List D → (D → Prop) → Prop := fun ds Z => (∃ e ex e' ex', ds = [netD C e ex, netD C e' ex'] ∧ Z (.bl (decide (e = e') && decide (ex = ex')))) ∨ ∃ e ex xs, ds = [netD C e ex, .lst xs] ∧ Z (.bl false)
theorem dep_ints : ∀ l : List Int, PyData.depthAll (l.map PyData.int) = 0
  | [] => rfl
  | i :: l => by show max 0 (PyData.depthAll (l.map PyData.int)) = 0; rw [dep_ints l]; rfl
theorem dep_tups : ∀ ex : List (List Int), PyData.depthAll (ex.map fun l => PyData.tuple (l.map PyData.int)) ≤ 1
  | [] => Nat.zero_le _
  | l :: ls => by
    show max (PyData.depthAll (l.map PyData.int) + 1) (PyData.depthAll (ls.map _)) ≤ 1
    rw [dep_ints]
    exact Nat.max_le.mpr ⟨Nat.le_refl _, dep_tups ls⟩
theorem dep_lsts : ∀ ex : List (List Int), PyData.depthAll (ex.map fun l => PyData.list (l.map PyData.int)) ≤ 1
  | [] => Nat.zero_le _
  | l :: ls => by
    show max (PyData.depthAll (l.map PyData.int) + 1) (PyData.depthAll (ls.map _)) ≤ 1
    rw [dep_ints]
    exact Nat.max_le.mpr ⟨Nat.le_refl _, dep_lsts ls⟩
theorem shaped_of {d : PyData} (h : d.canLay0 = true) (h2 : d.depth ≤ 64) : SeqAt.shaped d = true := by
  unfold SeqAt.shaped
  rw [h, decide_eq_true h2]
  rfl
theorem shaped_tups (ex : List (List Int)) : SeqAt.shaped (.tuple (ex.map fun l => PyData.tuple (l.map PyData.int))) = true :=
  shaped_of (lay_tups ex) (by show PyData.depthAll _ + 1 ≤ 64; have := dep_tups ex; omega)
theorem shaped_lsts (ex : List (List Int)) : SeqAt.shaped (.list (ex.map fun l => PyData.list (l.map PyData.int))) = true :=
  shaped_of (lay_lsts ex) (by show PyData.depthAll _ + 1 ≤ 64; have := dep_lsts ex; omega)
theorem shaped_ints (l : List Int) : SeqAt.shaped (.list (l.map PyData.int)) = true :=
  shaped_of (lay_ints l) (by show PyData.depthAll _ + 1 ≤ 64; rw [dep_ints]; decide)
theorem ok_eq (T : Blt mg) (N : NetT K mg C) (F : Fun K "__eq__" "Net.__eq__" s_Net_eq_ f fd) : FnOk P w K mg base CX0 (k + 1) f fd ["self", "other"] (spD (cNetEq C)) := by
  refine fnD F c_Net_eq_ (fun ds Z h => ?_) (fun cdv A outer s H E ds Z hr h => ?_)
  · rcases h with ⟨e, ex, e', ex', rfl, _⟩ | ⟨e, ex, xs, rfl, _⟩ <;> rfl
  · rcases h with ⟨e, ex, e', ex', rfl, q⟩ | ⟨e, ex, xs, rfl, q⟩
    rotate_left
    · exact ss_one (s_ret (w_and (w_isiL N.kl N.t.cl T.isi N.mgC (nm 1 ⟨_, rfl, _, rfl, q⟩))))
    refine ss_one (s_ret (w_and (w_isiO N.t T.isi N.mgC (nm 1 ⟨_, rfl, _, rfl, ?_⟩))))
    show W _ _ _ _ _ _
    refine w_and (w_cmpG (w_fld (nm 0 ⟨C, netF e ex, _, rfl, N.t.cl, N.nE, by rfl, w_fld (nm 1 ⟨C, netF e' ex', _, rfl, N.t.cl, N.nE, by rfl, o_eq ⟨_, rfl, ?_⟩⟩)⟩)))
    by_cases h1 : e = e'
    · rw [decide_eq_true h1] at q ⊢
      show W _ _ _ _ _ _
      refine w_one (w_cmpG (w_fld (nm 0 ⟨C, netF e ex, _, rfl, N.t.cl, N.nX, by rfl, w_fld (nm 1 ⟨C, netF e' ex', _, rfl, N.t.cl, N.nX, by rfl, ?_⟩)⟩)))
      have p1 : ∀ z : List (List Int), py (.tup (rowsT z)) = some (.tuple (z.map fun l => PyData.tuple (l.map PyData.int))) := fun z => by
        show (pyA (rowsT z)).map PyData.tuple = _
        rw [show pyA (rowsT z) = some _ from pyA_tups z]
        rfl
      refine o_eqD hr.units (p1 ex) (p1 ex') (shaped_tups ex) (shaped_tups ex') ?_
      show Z (.bl (PyData.eqvAll _ _))
      rw [eqv_tups]
      exact q
    · rw [decide_eq_false h1] at q ⊢
      exact q
end
/-- a net's class with the promises of its own defs, at level k -/
structure NetP (P : Program) (w : World) (K : PySem.W.Frag) (mg : Str → Option Value) (base : Heap) (C : Addr) (k : Nat) : Prop where
  n : NetT K mg C
  ends : ∃ pa ga fd, PropOf K C "ends" pa ga ∧ FnOk P w K mg base CX0 k ga fd ["self"] (spD (cNet C fun e _ => .int e)) ∧ Binds K fd ["self"] []
  points : ∃ pa ga fd, PropOf K C "points" pa ga ∧ FnOk P w K mg base CX0 k ga fd ["self"] (spD (cNet C fun _ ex => .int (ex.length : Int))) ∧ Binds K fd ["self"] []
  many : ∃ pa ga fd, PropOf K C "many" pa ga ∧ FnOk P w K mg base CX0 k ga fd ["self"] (spD (cNet C fun _ ex => .int (ex.flatten.length : Int))) ∧ Binds K fd ["self"] []
  targets : ∃ f fd, Meth K C "targets" f ∧ FnOk P w K mg base CX0 k f fd ["self"] (spD (cNet C fun _ ex => .lst (lI ex.flatten))) ∧ Binds K fd ["self"] []
  exits : ∃ f fd, Meth K C "exits" f ∧ FnOk P w K mg base CX0 k f fd ["self"] (spD (cNet C fun _ ex => .lst (rowsL ex))) ∧ Binds K fd ["self"] []
  eq : ∃ f fd, PySem.W.findIn K (.ref C) "__eq__" = some (some (.ref f)) ∧ PySem.W.isFn K (.ref f) = true ∧ FnOk P w K mg base CX0 k f fd ["self", "other"] (spD (cNetEq C)) ∧ Binds K fd ["self", "other"] []
  ne : PySem.W.findIn K (.ref C) "__ne__" = some (some (.builtin "object.__ne__"))
  sub : PySem.W.subIn K (.ref C) (.type "object") = some true
  maker : ∃ f fd, Mk K C f ∧ FnOk P w K mg base CX0 k f fd ["self", "ends", "exits"] (spI C cInit) ∧ Binds K fd ["self", "ends", "exits"] [] ∧ KBn K fd ["self", "ends", "exits"] 1 ["exits", "ends"] (fun us ws => us ++ sw2 ws) (fun vs zs => vs ++ sw2 zs)
section
variable {p g : Bool} {X : Cx} {ρ : Rho} {Q : D → Rho → Prop} {C : Addr} {k : Nat} {e : Expr} {pos apos : Pos}
theorem w_ends (N : NetP X.prog X.w X.K X.mg X.base C k) (hr : Room (k + 1) X.A) (h : W p true X e ρ fun x ρ1 => ∃ n ex, x = netD C n ex ∧ Valid n ex ∧ Q (.int n) ρ1) (hab : attributeBase e "ends" X.env (eval e X.env) = eval e X.env := by rfl) : W p g X (.Attribute e "ends" pos) ρ Q := by
  obtain ⟨pa, ga, fd, hp, F, hb⟩ := N.ends
  exact w_prop N.n.t.cl hp F hr hb (h.imp fun d ρ' ⟨n, ex, e, v, q⟩ => ⟨_, e, n, ex, rfl, v, q⟩) hab
theorem w_points (N : NetP X.prog X.w X.K X.mg X.base C k) (hr : Room (k + 1) X.A) (h : W p true X e ρ fun x ρ1 => ∃ n ex, x = netD C n ex ∧ Valid n ex ∧ Q (.int (ex.length : Int)) ρ1) (hab : attributeBase e "points" X.env (eval e X.env) = eval e X.env := by rfl) : W p g X (.Attribute e "points" pos) ρ Q := by
  obtain ⟨pa, ga, fd, hp, F, hb⟩ := N.points
  exact w_prop N.n.t.cl hp F hr hb (h.imp fun d ρ' ⟨n, ex, e, v, q⟩ => ⟨_, e, n, ex, rfl, v, q⟩) hab
theorem w_exits {pl : Sem Bool} (N : NetP X.prog X.w X.K X.mg X.base C k) (hr : Room k X.A) (h : W p true X e ρ fun x ρ1 => ∃ n ex, x = netD C n ex ∧ Valid n ex ∧ Q (.lst (rowsL ex)) ρ1)
    (ht : eval (.Call (.Attribute e "exits" apos) [] [] pos) X.env = (do
      let ov ← eval e X.env
      standAt apos.atName
      let (f, first) ← holding [ov] (getMethod ov "exits" pl)
      callWith pos f first (backTo pos (starEach [] X.env)) (backToKw pos (keywordEach [] X.env))) := by rfl) : W p g X (.Call (.Attribute e "exits" apos) [] [] pos) ρ Q := by
  obtain ⟨f, fd, hm, F, hb⟩ := N.exits
  exact w_meth0 (pl := pl) N.n.t.cl hm F hr hb (h.imp fun d ρ' ⟨n, ex, e, v, q⟩ => ⟨_, e, rfl, n, ex, rfl, v, q⟩) ht
theorem w_net {es : List Expr} {pp : Pos} (N : NetP X.prog X.w X.K X.mg X.base C k) (hr : Room (k + 1) X.A) (h : WA p true X (e :: es) ρ fun ds ρ' => ∃ n d ex, ds = [.int n, d] ∧ Rows d ex ∧ Valid n ex ∧ Q (netD C n ex) ρ') (hg : Gl X "Net" := by rfl)
    (he : starEach (e :: es) X.env = (false, eval e X.env) :: starEach es X.env := by rfl) (hpl : (backTo pos (starEach es X.env)).any (·.1) = false := by rfl) : W p g X (.Call (.Name "Net" pp) (e :: es) [] pos) ρ Q := by
  obtain ⟨f, fd, hm, F, hb, _⟩ := N.maker
  exact w_make hm F hr N.n.mgC hb h hg (by decide) he hpl
theorem o_eqN {n n' : Int} {ex ex' : List (List Int)} {Z : D → Prop} (N : NetP X.prog X.w X.K X.mg X.base C k) (hr : Room k X.A) (q : Z (.bl (decide (n = n') && decide (ex = ex')))) : Op2 true X (compareOp .Eq) (netD C n ex) (netD C n' ex') Z := by
  obtain ⟨f, fd, h1, h2, F, hb⟩ := N.eq
  exact o_eqO F hr h1 h2 hb (.inl ⟨n, ex, n', ex', rfl, _, rfl, q⟩)
theorem o_neN {n n' : Int} {ex ex' : List (List Int)} {Z : D → Prop} (N : NetP X.prog X.w X.K X.mg X.base C k) (hr : Room (k + 1) X.A) (q : Z (.bl (!(decide (n = n') && decide (ex = ex'))))) : Op2 true X (compareOp .NotEq) (netD C n ex) (netD C n' ex') Z := by
  obtain ⟨f, fd, h1, h2, F, hb⟩ := N.eq
  exact o_neO F hr h1 N.ne N.sub h2 hb (.inl ⟨n, ex, n', ex', rfl, _, rfl, q⟩)
theorem o_eqNL {n : Int} {ex : List (List Int)} {ds : List D} {Z : D → Prop} (N : NetP X.prog X.w X.K X.mg X.base C k) (hr : Room k X.A) (q : Z (.bl false)) : Op2 true X (compareOp .Eq) (netD C n ex) (.lst ds) Z := by
  obtain ⟨f, fd, h1, h2, F, hb⟩ := N.eq
  exact o_eqL F hr h1 h2 N.n.nf hb (.inr ⟨n, ex, ds, rfl, _, rfl, q⟩)
theorem w_many (N : NetP X.prog X.w X.K X.mg X.base C k) (hr : Room (k + 1) X.A) (h : W p true X e ρ fun x ρ1 => ∃ n ex, x = netD C n ex ∧ Valid n ex ∧ Q (.int (ex.flatten.length : Int)) ρ1) (hab : attributeBase e "many" X.env (eval e X.env) = eval e X.env := by rfl) : W p g X (.Attribute e "many" pos) ρ Q := by
  obtain ⟨pa, ga, fd, hp, F, hb⟩ := N.many
  exact w_prop N.n.t.cl hp F hr hb (h.imp fun d ρ' ⟨n, ex, e, v, q⟩ => ⟨_, e, n, ex, rfl, v, q⟩) hab
theorem w_targets {pl : Sem Bool} (N : NetP X.prog X.w X.K X.mg X.base C k) (hr : Room k X.A) (h : W p true X e ρ fun x ρ1 => ∃ n ex, x = netD C n ex ∧ Valid n ex ∧ Q (.lst (lI ex.flatten)) ρ1)
    (ht : eval (.Call (.Attribute e "targets" apos) [] [] pos) X.env = (do
      let ov ← eval e X.env
      standAt apos.atName
      let (f, first) ← holding [ov] (getMethod ov "targets" pl)
      callWith pos f first (backTo pos (starEach [] X.env)) (backToKw pos (keywordEach [] X.env))) := by rfl) : W p g X (.Call (.Attribute e "targets" apos) [] [] pos) ρ Q := by
  obtain ⟨f, fd, hm, F, hb⟩ := N.targets
  exact w_meth0 (pl := pl) N.n.t.cl hm F hr hb (h.imp fun d ρ' ⟨n, ex, e, v, q⟩ => ⟨_, e, rfl, n, ex, rfl, v, q⟩) ht
theorem noL_ints : ∀ l : List Int, noLA (lI l) = true
  | [] => rfl
  | i :: l => noL_ints l
theorem noL_tups : ∀ ex : List (List Int), noLA (rowsT ex) = true
  | [] => rfl
  | l :: ls => Bool.and_eq_true_iff.mpr ⟨noL_ints l, noL_tups ls⟩
theorem noL_net (n : Int) (ex : List (List Int)) : noLF (netF n ex) = true := by
  show (true && (noLA (rowsT ex) && (noLA (lI ex.flatten) && true))) = true
  rw [noL_tups, noL_ints]; rfl
theorem wfr_exits {pl : Sem Bool} {n : Int} {ex : List (List Int)} (N : NetP X.prog X.w X.K X.mg X.base C k) (hr : Room k X.A) (v : Valid n ex) (h : W true true X e ρ fun x _ => x = netD C n ex)
    (ht : eval (.Call (.Attribute e "exits" apos) [] [] pos) X.env = (do
      let ov ← eval e X.env
      standAt apos.atName
      let (f, first) ← holding [ov] (getMethod ov "exits" pl)
      callWith pos f first (backTo pos (starEach [] X.env)) (backToKw pos (keywordEach [] X.env))) := by rfl) : WFr X (.Call (.Attribute e "exits" apos) [] [] pos) ρ (.lst (rowsL ex)) := by
  obtain ⟨f, fd, hm, F, hb⟩ := N.exits
  exact wfr_meth0 (pl := pl) N.n.t.cl hm F hr hb h rfl (noL_net n ex) ⟨n, ex, rfl, v, rfl⟩ ht
theorem wfr_targets {pl : Sem Bool} {n : Int} {ex : List (List Int)} (N : NetP X.prog X.w X.K X.mg X.base C k) (hr : Room k X.A) (v : Valid n ex) (h : W true true X e ρ fun x _ => x = netD C n ex)
    (ht : eval (.Call (.Attribute e "targets" apos) [] [] pos) X.env = (do
      let ov ← eval e X.env
      standAt apos.atName
      let (f, first) ← holding [ov] (getMethod ov "targets" pl)
      callWith pos f first (backTo pos (starEach [] X.env)) (backToKw pos (keywordEach [] X.env))) := by rfl) : WFr X (.Call (.Attribute e "targets" apos) [] [] pos) ρ (.lst (lI ex.flatten)) := by
  obtain ⟨f, fd, hm, F, hb⟩ := N.targets
  exact wfr_meth0 (pl := pl) N.n.t.cl hm F hr hb h rfl (noL_net n ex) ⟨n, ex, rfl, v, rfl⟩ ht
theorem w_netK {kws : List Keyword} {pp : Pos} (N : NetP X.prog X.w X.K X.mg X.base C k) (hr : Room (k + 1) X.A) (h : WK p true X kws ρ fun ds ρ' => ∃ n d ex, ds = [d, .int n] ∧ Rows d ex ∧ Valid n ex ∧ Q (netD C n ex) ρ') (hg : Gl X "Net" := by rfl)
    (hall : (backToKw pos (keywordEach kws X.env)).all (·.1.isSome) = true := by rfl) (hks : (backToKw pos (keywordEach kws X.env)).filterMap (·.1) = (["exits", "ends"] : List Str) := by rfl)
    (hpl : ((backTo pos (starEach [] X.env)).any (·.1) || (backToKw pos (keywordEach kws X.env)).any (·.1.isNone)) = false := by rfl) : W p g X (.Call (.Name "Net" pp) [] kws pos) ρ Q := by
  obtain ⟨f, fd, hm, F, _, hb⟩ := N.maker
  refine w_makeK hm F hr N.n.mgC hb (fun B σ G H S R r => h B σ G H S R fun vs ds ρ' G' H' q S' y pu i => r vs ds ρ' G' H' ?_ S' y pu i) hg (by decide) hall hks hpl
  obtain ⟨n, d, ex, rfl, q⟩ := q
  exact ⟨rfl, n, d, ex, rfl, q⟩
end
section
variable {P : Program} {w : World} {K : PySem.W.Frag} {mg : Str → Option Value} {base : Heap} {f C : Addr} {fd : FuncData} {k : Nat}
/-! ### points, targets, settings -/
def cNN (C : Addr) (r : Int → List (List Int) → D) : List D → (D → Prop) → Prop := cNet C r
theorem ok_check_net (T : Blt mg) (N : NetT K mg C) (F : Fun K "check_net" "check_net" s_check_net f fd) : FnOk P w K mg base CX0 (k + 1) f fd ["net"] (spD (cNet C fun _ _ => .non)) := by
  refine fnD F c_check_net (fun ds Z h => ?_) (fun cdv A outer s H E ds Z hr h => ?_)
  · obtain ⟨e, ex, rfl, _⟩ := h
    rfl
  · obtain ⟨e, ex, rfl, v, q⟩ := h
    refine ss_one (s_if (t_not (t_val (w_isiO N.t T.isi N.mgC (nm 0 ⟨_, rfl, _, rfl, ?_⟩)))))
    show WSs _ [] _ _
    exact ss_nil q
def cNet1 (C : Addr) (b : D → Int → List (List Int) → Bool) : List D → (D → Prop) → Prop := fun ds Z => ∃ e ex d, ds = [netD C e ex, d] ∧ Valid e ex ∧ Pl d ∧ Z (.bl (b d e ex))
/-- a setting, as a list of whole numbers -/
def ValidS (ex : List (List Int)) (st : List Int) : Prop := st.length = ex.length ∧ ∀ (i : Nat) (s : Int) (l : List Int), st[i]? = some s → ex[i]? = some l → 0 ≤ s ∧ s < l.length
theorem wi_zipR {X : Cx} {p : Bool} {ρ : Rho} {QI : List D → Rho → Prop} {d : D} {xs : List D} {a b : Expr} {elts : List Expr} {kk : Nat} {pp pos tpos : Pos} (hd : d = .lst xs ∨ d = .tup xs) (hg : Gl X "zip") (hm : X.mg "zip" = none) (h : WA p true X [a, b] ρ fun ds ρ' => ∃ ys, ds = [d, .lst ys] ∧ QI ((xs.zip ys).map fun q => D.tup [q.1, q.2]) ρ')
    (hs : starEach [a, b] X.env = (false, eval a X.env) :: starEach [b] X.env := by rfl) (hpl : (backTo pos (starEach [b] X.env)).any (·.1) = false := by rfl) : WI p X (.Tuple elts kk tpos) (.Call (.Name "zip" pp) [a, b] [] pos) ρ QI := by
  rcases hd with rfl | rfl
  · exact wi_zip hg hm (fun B σ G H S R r => h B σ G H S R fun vs ds ρ' G' H' q S' y pu i => r vs ds ρ' G' H' (by
      obtain ⟨ys, e, q⟩ := q
      exact ⟨_, ys, e, q⟩) S' y pu i) hs hpl
  · exact wi_zipTL hg hm (fun B σ G H S R r => h B σ G H S R fun vs ds ρ' G' H' q S' y pu i => r vs ds ρ' G' H' (by
      obtain ⟨ys, e, q⟩ := q
      exact ⟨_, ys, e, q⟩) S' y pu i) hs hpl
def cSet (C : Addr) (r : Int → List (List Int) → List Int → D) : List D → (D → Prop) → Prop := fun ds Z => ∃ e ex d st, ds = [netD C e ex, d] ∧ rowI d st ∧ Valid e ex ∧ ValidS ex st ∧ Z (r e ex st)
theorem zip_mem {st : List Int} {ex : List (List Int)} {d : D} (h : d ∈ ((lI st).zip (rowsL ex)).map fun q => D.tup [q.1, q.2]) : ∃ (i : Nat) (s : Int) (l : List Int), st[i]? = some s ∧ ex[i]? = some l ∧ d = .tup [.int s, .lst (lI l)] := by
  obtain ⟨⟨a, b⟩, hq, rfl⟩ := List.mem_map.mp h
  obtain ⟨i, hi, e⟩ := List.mem_iff_getElem.mp hq
  have e1 : (lI st)[i]? = some a ∧ (rowsL ex)[i]? = some b := List.getElem?_zip_eq_some.mp (by rw [List.getElem?_eq_getElem hi, e])
  obtain ⟨e1, e2⟩ := e1
  unfold lI at e1
  unfold rowsL at e2
  rw [List.getElem?_map] at e1 e2
  cases h1 : st[i]? with
  | none => rw [h1] at e1; cases e1
  | some s =>
    cases h2 : ex[i]? with
    | none => rw [h2] at e2; cases e2
    | some l =>
      rw [h1] at e1; rw [h2] at e2
      cases e1; cases e2
      exact ⟨i, s, l, h1, h2, rfl⟩
def spotB : D → Bool
  | .tup [s, .lst l] => isCB s l.length
  | _ => false
theorem ok_is_setting {j : Nat} (T : Blt mg) (N : NetP P w K mg base C j) (hj : j ≤ k) (Fn : Df P w K mg base k "check_net" ["net"] (spD (cNet C fun _ _ => .non))) (Fr : Df P w K mg base k "is_row" ["value"] (spD (c1 isRow))) (Fc : Df P w K mg base k "is_count_below" ["value", "bound"] (spD (c2 isCB)))
    (F : Fun K "is_setting" "is_setting" s_is_setting f fd) : FnOk P w K mg base CX0 (k + 2) f fd ["net", "value"] (spD (cSet C fun _ _ _ => .bl true)) := by
  refine fnD F c_is_setting (fun ds Z h => ?_) (fun cdv A outer s H E ds Z hr h => ?_)
  · obtain ⟨e, ex, dr, st, rfl, _⟩ := h
    rfl
  · obtain ⟨e, ex, dr, st, rfl, hdr, v, vs, q⟩ := h
    have hdr2 : dr = .lst (lI st) ∨ dr = .tup (lI st) := hdr
    have hpl : Pl dr := by rcases hdr with rfl | rfl <;> exact ⟨_, rfl⟩
    have hrow : isRow dr = true := by rcases hdr with rfl | rfl <;> rfl
    have hrk := hr.mono (Nat.le_succ k)
    refine ss_cons (s_expr (call Fn hrk (a1 (nm 0 ⟨e, ex, rfl, v, ?_⟩))))
    show WSs _ _ _ _
    refine ss_cons (s_if (t_bool (tb_or (t_not (t_val (call Fr hrk (a1 (nm 1 ⟨_, rfl, hpl, _, rfl, ?_⟩))))))))
    rw [hrow]
    show WTB _ _ _ _ _ _ _
    refine tb_or1 (t_cmpG (w_callB true rfl T.len (by decide +kernel) (a1 (nm 1 (c_len hdr2 (w_points N (hr.mono (by omega)) (nm 0 ⟨e, ex, rfl, v, o_ne ⟨_, rfl, ?_⟩⟩)))))))
    have e1 : (!decide (((lI st).length : Int) = (ex.length : Int))) = false := by
      have : (lI st).length = st.length := List.length_map _
      rw [decide_eq_true (by rw [this, vs.1])]; rfl
    rw [e1]
    show WSs _ [] _ _
    refine ss_nil ?_
    show WSs _ _ _ _
    refine ss_one (s_ret (w_callB true rfl T.all (by decide +kernel) (a1 (lc2 2 3 (fun d => .bl (spotB d)) c_is_setting (wi_zipR hdr2 rfl T.zip (aG (nm 1 (a1 (w_exits N (hr.mono (by omega)) (nm 0 ⟨e, ex, rfl, v, _, rfl, ?_, fun d hd => ?_, c_allD rfl ?_⟩))))))))))
    · rw [List.length_map, List.length_zip]
      have : (rowsL ex).length = ex.length := List.length_map _
      have := v.n24
      omega
    · obtain ⟨i, s, l, h1, h2, rfl⟩ := zip_mem hd
      exact ⟨_, _, rfl, fun _ _ _ _ _ => call Fc hrk (aG (nm 2 (a1 (w_callB true rfl T.len (by decide +kernel) (a1 (nm 3 (c_lenL ⟨_, _, rfl, pl_int _, rfl⟩)))))))⟩
    · have e2 : ((((lI st).zip (rowsL ex)).map fun q => D.tup [q.1, q.2]).all spotB) = true := by
        refine List.all_eq_true.mpr fun d hd => ?_
        obtain ⟨i, s, l, h1, h2, rfl⟩ := zip_mem hd
        obtain ⟨a, b⟩ := vs.2 i s l h1 h2
        show (decide (0 ≤ s) && decide (s < ((lI l).length : Int))) = true
        have : (lI l).length = l.length := List.length_map _
        rw [decide_eq_true a, decide_eq_true (by omega)]; rfl
      show Z (.bl _)
      rw [e2]; exact q
theorem ok_check_setting (Fs : Df P w K mg base k "is_setting" ["net", "value"] (spD (cSet C fun _ _ _ => .bl true))) (F : Fun K "check_setting" "check_setting" s_check_setting f fd) : FnOk P w K mg base CX0 (k + 1) f fd ["net", "setting"] (spD (cSet C fun _ _ _ => .non)) := by
  refine fnD F c_check_setting (fun ds Z h => ?_) (fun cdv A outer s H E ds Z hr h => ?_)
  · obtain ⟨e, ex, dr, st, rfl, _⟩ := h
    rfl
  · obtain ⟨e, ex, dr, st, rfl, hdr, v, vs, q⟩ := h
    have hdr2 : dr = .lst (lI st) ∨ dr = .tup (lI st) := hdr
    have hpl : Pl dr := by rcases hdr with rfl | rfl <;> exact ⟨_, rfl⟩
    have hrow : isRow dr = true := by rcases hdr with rfl | rfl <;> rfl
    refine ss_one (s_if (t_not (t_val (call Fs hr (aG (nm 0 (a1 (nm 1 ⟨e, ex, dr, st, rfl, hdr, v, vs, _, rfl, ?_⟩))))))))
    show WSs _ [] _ _
    exact ss_nil q
/-- the targets of the last exits -/
def lastOf : D → D
  | .tup [.int s, .lst l] => (atI l (s - 1)).getD .non
  | _ => .non
def lasts (ex : List (List Int)) (st : List Int) : List Int := (st.zip ex).map fun q => (atI q.2 (q.1 - 1)).getD 0
theorem atI_lI (l : List Int) (i : Int) : atI (lI l) i = (atI l i).map D.int := by
  unfold atI lI
  rw [List.length_map]
  cases ixN l.length i with
  | none => rfl
  | some n => show (l.map D.int)[n]? = _; rw [List.getElem?_map]; rfl
theorem atI_some {l : List Int} {s : Int} (h0 : 0 ≤ s) (h1 : s < l.length) : ∃ t, atI l (s - 1) = some t ∧ t ∈ l := by
  unfold atI ixN
  by_cases hs : s = 0
  · subst hs
    have hl : 0 < l.length := by omega
    rw [if_neg (by omega), if_pos (by omega)]
    have e : ((0 : Int) - 1 + l.length).toNat = l.length - 1 := by omega
    show ∃ t, l[((0 : Int) - 1 + l.length).toNat]? = some t ∧ t ∈ l
    rw [e]
    have : l.length - 1 < l.length := by omega
    exact ⟨l[l.length - 1], List.getElem?_eq_getElem this, List.getElem_mem _⟩
  · rw [if_pos (by omega), if_pos (by omega)]
    have : (s - 1).toNat < l.length := by omega
    exact ⟨l[(s - 1).toNat], List.getElem?_eq_getElem this, List.getElem_mem _⟩
end
end K37

namespace K37
open PySem PySem.Spec PyProof.Rows L2 DD
/-! ### who leads to goals -/
def rowAt (ex : List (List Int)) (p : Nat) : List Int := ex.getD p []
inductive Lead (ex : List (List Int)) (goals : List Int) : Int → Prop
  | goal {p : Nat} {t : Int} : p < ex.length → t ∈ rowAt ex p → t ∈ goals → Lead ex goals (p : Int)
  | via {p : Nat} {t : Int} : p < ex.length → t ∈ rowAt ex p → Lead ex goals t → Lead ex goals (p : Int)
theorem Lead.pt {ex : List (List Int)} {goals : List Int} {i : Int} (h : Lead ex goals i) : ∃ p : Nat, p < ex.length ∧ i = (p : Int) := by
  cases h with
  | goal a b c => exact ⟨_, a, rfl⟩
  | via a b c => exact ⟨_, a, rfl⟩
def nats (n : Nat) : List Int := (List.range n).map fun i : Nat => (i : Int)
theorem mem_nats {n : Nat} {i : Int} : i ∈ nats n ↔ 0 ≤ i ∧ i < n := by
  unfold nats
  rw [List.mem_map]
  constructor
  · rintro ⟨p, hp, rfl⟩
    have := List.mem_range.mp hp
    omega
  · rintro ⟨h0, h1⟩
    exact ⟨i.toNat, List.mem_range.mpr (by omega), by omega⟩
theorem nats_len (n : Nat) : (nats n).length = n := by simp [nats]
theorem nats_get {n i : Nat} (h : i < n) : (nats n)[i]? = some (i : Int) := by unfold nats; rw [List.getElem?_map, List.getElem?_range h]; rfl
theorem nats_pw (n : Nat) : (nats n).Pairwise (· < ·) := by
  unfold nats
  rw [List.pairwise_map]
  exact List.pairwise_lt_range.imp fun h => by omega
open Classical in
noncomputable def ptsTo (ex : List (List Int)) (goals : List Int) : List Int := (nats ex.length).filter fun i => decide (Lead ex goals i)
open Classical in
theorem mem_ptsTo {ex : List (List Int)} {goals : List Int} {i : Int} : i ∈ ptsTo ex goals ↔ Lead ex goals i := by
  unfold ptsTo
  rw [List.mem_filter, decide_eq_true_iff]
  refine ⟨fun h => h.2, fun h => ⟨?_, h⟩⟩
  obtain ⟨p, hp, rfl⟩ := h.pt
  exact mem_nats.mpr ⟨by omega, by omega⟩
theorem ptsTo_pw (ex : List (List Int)) (goals : List Int) : (ptsTo ex goals).Pairwise (· < ·) := (nats_pw _).filter _
theorem nodup_of_lt {l : List Int} (h : l.Pairwise (· < ·)) : l.Nodup := h.imp fun q => by omega
theorem perm_of_mem {a b : List Int} (ha : a.Nodup) (hb : b.Nodup) (h : ∀ i, i ∈ a ↔ i ∈ b) : a.Perm b := (List.perm_ext_iff_of_nodup ha hb).mpr h
/-- what is found so far -/
structure Fnd (ex : List (List Int)) (goals fs : List Int) : Prop where
  nd : fs.Nodup
  ld : ∀ i ∈ fs, Lead ex goals i
def kf (fs : List Int) : List (Key × D) := fs.map fun i => (.inl i, .bl true)
theorem lookD_kf (i : Int) : ∀ fs : List Int, (lookD (kf fs) (.inl i)).isSome = decide (i ∈ fs)
  | [] => rfl
  | j :: fs => by
    unfold lookD kf
    rw [List.map_cons, List.find?_cons]
    by_cases h : j = i
    · subst h; simp
    · have e : decide ((Sum.inl j : Key) = Sum.inl i) = false := decide_eq_false fun z => h (Sum.inl.inj z)
      simp only [e]
      have ih := lookD_kf i fs
      unfold lookD kf at ih
      rw [ih]
      have : (i ∈ j :: fs) = (i ∈ fs) := by
        rw [List.mem_cons, eq_iff_iff]
        exact ⟨fun q => q.resolve_left fun z => h z.symm, .inr⟩
      simp only [this]
theorem putD_kf {fs : List Int} {i : Int} (h : i ∉ fs) : putD (kf fs) (.inl i) (.bl true) = kf (fs ++ [i]) := by
  unfold putD
  have e : ((kf fs).any fun kv => decide (kv.1 = (Sum.inl i : Key))) = false := by
    unfold kf
    rw [List.any_map, List.any_eq_false]
    intro j hj
    have : ¬ (Sum.inl j : Key) = Sum.inl i := fun z => h (Sum.inl.inj z ▸ hj)
    simpa using this
  rw [e]
  show kf fs ++ [(Sum.inl i, D.bl true)] = kf (fs ++ [i])
  unfold kf
  rw [List.map_append]
  rfl
def newP (ex : List (List Int)) (goals fs : List Int) (p : Nat) : Bool := !decide ((p : Int) ∈ fs) && (rowAt ex p).any fun t => decide (t ∈ goals) || decide (t ∈ fs)
def newPs (ex : List (List Int)) (goals fs : List Int) : List Int := ((List.range ex.length).filter (newP ex goals fs)).map fun p : Nat => (p : Int)
theorem mem_newPs {ex : List (List Int)} {goals fs : List Int} {i : Int} : i ∈ newPs ex goals fs ↔ ∃ p : Nat, p < ex.length ∧ newP ex goals fs p = true ∧ i = (p : Int) := by
  unfold newPs
  rw [List.mem_map]
  constructor
  · rintro ⟨p, hp, rfl⟩
    have := List.mem_filter.mp hp
    exact ⟨p, List.mem_range.mp this.1, this.2, rfl⟩
  · rintro ⟨p, hp, h2, rfl⟩
    exact ⟨p, List.mem_filter.mpr ⟨List.mem_range.mpr hp, h2⟩, rfl⟩
theorem Fnd.more {ex : List (List Int)} {goals fs : List Int} (f : Fnd ex goals fs) : Fnd ex goals (fs ++ newPs ex goals fs) := by
  refine ⟨List.nodup_append.mpr ⟨f.nd, ?_, ?_⟩, fun i hi => ?_⟩
  · have h1 : ((List.range ex.length).filter (newP ex goals fs)).Nodup := List.nodup_range.filter _
    have h2 : (newPs ex goals fs).Pairwise (· < ·) := by
      unfold newPs
      rw [List.pairwise_map]
      exact (List.pairwise_lt_range.filter _).imp fun h => by omega
    exact nodup_of_lt h2
  · intro i hi j hj e
    subst e
    obtain ⟨p, _, h2, rfl⟩ := mem_newPs.mp hj
    unfold newP at h2
    rw [decide_eq_true hi] at h2
    cases h2
  · rcases List.mem_append.mp hi with h | h
    · exact f.ld i h
    · obtain ⟨p, hp, h2, rfl⟩ := mem_newPs.mp h
      unfold newP at h2
      obtain ⟨t, ht, h3⟩ := List.any_eq_true.mp (Bool.and_eq_true_iff.mp h2).2
      rcases Bool.or_eq_true_iff.mp h3 with h4 | h4
      · exact .goal hp ht (of_decide_eq_true h4)
      · exact .via hp ht (f.ld t (of_decide_eq_true h4))
theorem Fnd.len {ex : List (List Int)} {goals fs : List Int} (f : Fnd ex goals fs) : fs.length ≤ ex.length := by
  have pm : fs.Perm ((nats ex.length).filter fun i => decide (i ∈ fs)) := perm_of_mem f.nd (nodup_of_lt ((nats_pw _).filter _)) fun i => by
    rw [List.mem_filter, decide_eq_true_iff]
    refine ⟨fun h => ⟨?_, h⟩, fun h => h.2⟩
    obtain ⟨p, hp, rfl⟩ := (f.ld i h).pt
    exact mem_nats.mpr ⟨by omega, by omega⟩
  have h := List.length_filter_le (fun i => decide (i ∈ fs)) (nats ex.length)
  rw [← pm.length_eq, nats_len] at h
  exact h
theorem Fnd.all {ex : List (List Int)} {goals fs : List Int} (f : Fnd ex goals fs) (h : newPs ex goals fs = []) : ∀ i, i ∈ fs ↔ Lead ex goals i := by
  refine fun i => ⟨f.ld i, fun hl => ?_⟩
  have key : ∀ (p : Nat) (t : Int), p < ex.length → t ∈ rowAt ex p → (t ∈ goals ∨ t ∈ fs) → (p : Int) ∈ fs := by
    intro p t hp ht hh
    apply Classical.byContradiction
    intro hn
    have : (p : Int) ∈ newPs ex goals fs := mem_newPs.mpr ⟨p, hp, by
      unfold newP
      rw [decide_eq_false hn]
      refine List.any_eq_true.mpr ⟨t, ht, ?_⟩
      rcases hh with hh | hh
      · rw [decide_eq_true hh]; rfl
      · rw [decide_eq_true hh, Bool.or_true], rfl⟩
    rw [h] at this
    cases this
  induction hl with
  | goal a b c => exact key _ _ a b (.inl c)
  | via a b c ih => exact key _ _ a b (.inr ih)
theorem Fnd.done {ex : List (List Int)} {goals fs ms : List Int} (f : Fnd ex goals fs) (h : ∀ i, i ∈ fs ↔ Lead ex goals i) (pm : ms.Perm fs) (pw : ms.Pairwise (· ≤ ·)) : ms = ptsTo ex goals := by
  refine PySem.W.os_sorted_one (pm.trans (perm_of_mem f.nd (nodup_of_lt (ptsTo_pw _ _)) fun i => ?_)) pw ((ptsTo_pw _ _).imp fun q => by omega)
  rw [mem_ptsTo]; exact h i
/-! the enumerated rows -/
theorem enum_eq (xs : List D) : ((rng 0 xs.length).zip xs).map (fun q => D.tup [q.1, q.2]) = (List.range xs.length).map fun i : Nat => D.tup [.int (i : Int), xs.getD i .non] := by
  apply List.ext_getElem?
  intro i
  rw [List.getElem?_map, List.getElem?_map]
  by_cases h : i < xs.length
  · have e1 : (rng 0 xs.length)[i]? = some (D.int (i : Int)) := by
      unfold rng
      rw [List.getElem?_map, List.getElem?_range h]
      show some (D.int (0 + (i : Int))) = _
      rw [Int.zero_add]
    have e2 : ((rng 0 xs.length).zip xs)[i]? = some (D.int (i : Int), xs[i]) := List.getElem?_zip_eq_some.mpr ⟨e1, List.getElem?_eq_getElem h⟩
    rw [e2, List.getElem?_range h]
    show some (D.tup [D.int (i : Int), xs[i]]) = some (D.tup [.int (i : Int), xs.getD i .non])
    rw [List.getD_eq_getElem?_getD, List.getElem?_eq_getElem h]
    rfl
  · have e2 : ((rng 0 xs.length).zip xs)[i]? = none := List.getElem?_eq_none (by rw [List.length_zip, rng_len]; omega)
    rw [e2, List.getElem?_eq_none (by simpa using h)]
    rfl
theorem rowsL_len (ex : List (List Int)) : (rowsL ex).length = ex.length := List.length_map _
theorem rowsL_at (ex : List (List Int)) {i : Nat} (h : i < ex.length) : (rowsL ex).getD i .non = .lst (lI (rowAt ex i)) := by
  unfold rowsL rowAt
  rw [List.getD_eq_getElem?_getD, List.getD_eq_getElem?_getD, List.getElem?_map, List.getElem?_eq_getElem h]
  rfl
theorem enum_rows (ex : List (List Int)) : ((rng 0 (rowsL ex).length).zip (rowsL ex)).map (fun q => D.tup [q.1, q.2]) = (List.range ex.length).map fun i : Nat => D.tup [.int (i : Int), .lst (lI (rowAt ex i))] := by
  rw [enum_eq, rowsL_len]
  exact List.map_congr_left fun i hi => by rw [rowsL_at ex (List.mem_range.mp hi)]
theorem rowAt_mem {ex : List (List Int)} {p : Nat} (h : p < ex.length) : rowAt ex p ∈ ex := by unfold rowAt; rw [List.getD_eq_getElem?_getD, List.getElem?_eq_getElem h]; exact List.getElem_mem h
theorem rng_nats (n : Nat) : rng 0 n = lI (nats n) := by
  unfold rng nats lI
  rw [List.map_map]
  refine List.map_congr_left fun i _ => ?_
  show D.int (0 + (i : Int)) = .int (i : Int)
  rw [Int.zero_add]
theorem py_lI (l : List Int) : py (.lst (lI l)) = some (.list (l.map PyData.int)) := by
  show (pyA (l.map D.int)).map PyData.list = _
  rw [pyA_ints]; rfl
theorem lI_len (l : List Int) : (lI l).length = l.length := List.length_map _
theorem lI_snoc (l : List Int) (t : Int) : lI l ++ [.int t] = lI (l ++ [t]) := by unfold lI; rw [List.map_append]; rfl
theorem lI_at {l : List Int} {i : Nat} {d : D} (h : (lI l)[i]? = some d) : ∃ t, l[i]? = some t ∧ d = .int t := by
  unfold lI at h
  rw [List.getElem?_map] at h
  cases hl : l[i]? with
  | none => rw [hl] at h; cases h
  | some t => rw [hl] at h; cases h; exact ⟨t, rfl, rfl⟩
theorem rowsL_snoc (ex : List (List Int)) (l : List Int) : rowsL ex ++ [.lst (lI l)] = rowsL (ex ++ [l]) := by unfold rowsL; rw [List.map_append]; rfl
theorem enum_at {sq : List Int} {j : Nat} {d : D} (h : (((rng 0 (lI sq).length).zip (lI sq)).map fun q => D.tup [q.1, q.2])[j]? = some d) : ∃ o, sq[j]? = some o ∧ d = .tup [.int (j : Int), .int o] := by
  rw [enum_eq, List.getElem?_map] at h
  have hll := lI_len sq
  by_cases hj : j < sq.length
  · rw [List.getElem?_range (by omega)] at h
    refine ⟨sq[j], List.getElem?_eq_getElem hj, ?_⟩
    have e1 : (lI sq).getD j .non = .int sq[j] := by
      unfold lI
      rw [List.getD_eq_getElem?_getD, List.getElem?_map, List.getElem?_eq_getElem hj]; rfl
    rw [← e1]
    exact (Option.some.inj h).symm
  · rw [List.getElem?_eq_none (by simp; omega)] at h
    cases h
theorem enum_len (sq : List Int) : (((rng 0 (lI sq).length).zip (lI sq)).map fun q => D.tup [q.1, q.2]).length = sq.length := by
  rw [List.length_map, List.length_zip, rng_len, lI_len, Nat.min_self]
theorem py_rows (ex : List (List Int)) : py (.lst (rowsL ex)) = some (.list (ex.map fun l => PyData.list (l.map PyData.int))) := by
  show (pyA (rowsL ex)).map PyData.list = _
  rw [show pyA (rowsL ex) = some _ from pyA_lsts ex]; rfl
theorem rows_atI {ex : List (List Int)} {o : Int} (h0 : 0 ≤ o) (h1 : o < ex.length) : atI (rowsL ex) o = some (.lst (lI (rowAt ex o.toNat))) := by
  have hlt : o.toNat < ex.length := by omega
  unfold atI ixN
  rw [if_pos h0, if_pos (by rw [rowsL_len]; omega)]
  have z := rowsL_at ex hlt
  rw [List.getD_eq_getElem?_getD] at z
  show (rowsL ex)[o.toNat]? = _
  rw [List.getElem?_eq_getElem (by rw [rowsL_len]; exact hlt)] at z ⊢
  exact congrArg some z
theorem ints_atI {l : List Int} {i : Int} {t : Int} (h0 : 0 ≤ i) (h : l[i.toNat]? = some t) : atI (lI l) i = some (.int t) := by
  have hl := (List.getElem?_eq_some_iff.mp h).1
  rw [atI_lI]
  unfold atI ixN
  rw [if_pos h0, if_pos (by omega)]
  show Option.map D.int (l[i.toNat]?) = _
  rw [h]; rfl
theorem enumR_at {ex : List (List Int)} {j : Nat} {d : D} (h : (((rng 0 (rowsL ex).length).zip (rowsL ex)).map fun q => D.tup [q.1, q.2])[j]? = some d) : j < ex.length ∧ d = .tup [.int (j : Int), .lst (lI (rowAt ex j))] := by
  rw [enum_rows, List.getElem?_map] at h
  cases hr : (List.range ex.length)[j]? with
  | none => rw [hr] at h; cases h
  | some i =>
    rw [hr] at h
    obtain ⟨hl, e⟩ := List.getElem?_eq_some_iff.mp hr
    rw [List.getElem_range] at e
    subst e
    cases h
    exact ⟨by simpa using hl, rfl⟩
theorem enumR_len (ex : List (List Int)) : (((rng 0 (rowsL ex).length).zip (rowsL ex)).map fun q => D.tup [q.1, q.2]).length = ex.length := by
  rw [enum_rows, List.length_map, List.length_range]
theorem flat_get {α : Type} : ∀ (L : List (List α)) (p s : Nat) (r : List α) (x : α), L[p]? = some r → r[s]? = some x → L.flatten[(L.take p).flatten.length + s]? = some x
  | [], _, _, _, _, h, _ => by simp at h
  | l :: L, 0, s, r, x, h, h2 => by
    have e : l = r := by simpa using h
    subst e
    have hs := (List.getElem?_eq_some_iff.mp h2).1
    show (l ++ L.flatten)[0 + s]? = some x
    rw [Nat.zero_add, List.getElem?_append_left hs]
    exact h2
  | l :: L, p + 1, s, r, x, h, h2 => by
    have ih := flat_get L p s r x h h2
    show (l ++ L.flatten)[(l ++ (L.take p).flatten).length + s]? = some x
    rw [List.length_append, Nat.add_assoc, List.getElem?_append_right (Nat.le_add_right _ _), Nat.add_sub_cancel_left]
    exact ih
theorem flat_len2 {α β : Type} (L : List (List α)) (M : List (List β)) (h : L.map List.length = M.map List.length) (p : Nat) : (L.take p).flatten.length = (M.take p).flatten.length := by
  rw [List.length_flatten, List.length_flatten, List.map_take, List.map_take, h]
def off (ex : List (List Int)) (p : Nat) : Nat := (ex.take p).flatten.length
theorem rowAt_get {ex : List (List Int)} {p : Nat} (h : p < ex.length) : ex[p]? = some (rowAt ex p) := by
  unfold rowAt
  rw [List.getD_eq_getElem?_getD, List.getElem?_eq_getElem h]; rfl
theorem off_succ {ex : List (List Int)} {p : Nat} (h : p < ex.length) : off ex (p + 1) = off ex p + (rowAt ex p).length := by
  unfold off
  rw [List.take_add_one, rowAt_get h]
  show (ex.take p ++ [rowAt ex p]).flatten.length = _
  rw [List.flatten_append, List.length_append]
  simp
theorem off_lt {ex : List (List Int)} {p s : Nat} (h : p < ex.length) (hs : s < (rowAt ex p).length) : off ex p + s < ex.flatten.length := by
  have := flat_get ex p s _ _ (rowAt_get h) (List.getElem?_eq_getElem hs)
  exact (List.getElem?_eq_some_iff.mp this).1
theorem rep0 (n : Nat) : (List.replicate ((n : Int)).toNat [D.int 0]).flatten = lI (List.replicate n 0) := by
  rw [Int.toNat_natCast]
  unfold lI
  rw [List.map_replicate]
  induction n with
  | zero => rfl
  | succ n ih => rw [List.replicate_succ, List.replicate_succ, List.flatten_cons, ih]; rfl
theorem ne_self_i (l : List Int) : (!PyData.eqv (.list (l.map PyData.int)) (.list (l.map PyData.int))) = false := by
  show (!PyData.eqvAll _ _) = false
  rw [eqv_ints, decide_eq_true rfl]; rfl
theorem eq_self_i (l : List Int) : PyData.eqv (.list (l.map PyData.int)) (.list (l.map PyData.int)) = true := by
  show PyData.eqvAll _ _ = true
  rw [eqv_ints, decide_eq_true rfl]
theorem ne_self_r (z : List (List Int)) : (!PyData.eqv (.list (z.map fun l => PyData.list (l.map PyData.int))) (.list (z.map fun l => PyData.list (l.map PyData.int)))) = false := by
  show (!PyData.eqvAll _ _) = false
  rw [eqv_lsts, decide_eq_true rfl]; rfl
theorem eq_self_r (z : List (List Int)) : PyData.eqv (.list (z.map fun l => PyData.list (l.map PyData.int))) (.list (z.map fun l => PyData.list (l.map PyData.int))) = true := by
  show PyData.eqvAll _ _ = true
  rw [eqv_lsts, decide_eq_true rfl]
theorem flat_take {ex : List (List Int)} {j : Nat} (h : j < ex.length) : (ex.take (j + 1)).flatten = (ex.take j).flatten ++ rowAt ex j := by
  rw [List.take_add_one, rowAt_get h]
  show (ex.take j ++ [rowAt ex j]).flatten = _
  rw [List.flatten_append]
  simp
/-! ### dealing, by numbers -/
/-- how often the exit e of d is gone by t visits, s next -/
def cnt (d s t e : Int) : Int := (t + (d - 1 - (e - s) % d)) / d
theorem quot {d q r x : Int} (hd : 0 < d) (h : x = r + d * q) (r0 : 0 ≤ r) (r1 : r < d) : x / d = q := by
  rw [h, Int.add_mul_ediv_left r q (by omega), Int.ediv_eq_zero_of_lt r0 r1, Int.zero_add]
theorem cnt_zero {d s e : Int} (hd : 0 < d) : cnt d s 0 e = 0 := by
  unfold cnt
  have h0 := Int.emod_nonneg (e - s) (show d ≠ 0 by omega)
  have h1 := Int.emod_lt_of_pos (e - s) hd
  rw [Int.zero_add]
  exact Int.ediv_eq_zero_of_lt (by omega) (by omega)
theorem cnt_great {d s t e k : Int} (hd : 0 < d) : cnt d s (t + k * d) e = cnt d s t e + k := by
  unfold cnt
  rw [show t + k * d + (d - 1 - (e - s) % d) = (t + (d - 1 - (e - s) % d)) + k * d by omega]
  exact Int.add_mul_ediv_right _ _ (by omega)
/-- one visit more -/
theorem cnt_succ {d s t e : Int} (hd : 0 < d) (e0 : 0 ≤ e) (e1 : e < d) : cnt d s (t + 1) e = cnt d s t e + (if (s + t) % d = e then 1 else 0) := by
  unfold cnt
  have a0 := Int.emod_nonneg (e - s) (show d ≠ 0 by omega)
  have a1 := Int.emod_lt_of_pos (e - s) hd
  have ae := Int.mul_ediv_add_emod (e - s) d
  have m0 := Int.emod_nonneg (s + t) (show d ≠ 0 by omega)
  have me := Int.mul_ediv_add_emod (s + t) d
  generalize (e - s) % d = a at *
  generalize (e - s) / d = k2 at *
  generalize hm : (s + t) % d = m at *
  generalize (s + t) / d = k at *
  by_cases h : m = e
  · rw [if_pos h]
    have z1 : (t + (d - 1 - a)) / d = k + k2 := quot (r := d - 1) hd (by rw [Int.mul_add]; omega) (by omega) (by omega)
    have z2 : (t + 1 + (d - 1 - a)) / d = k + k2 + 1 := quot (r := 0) hd (by rw [Int.mul_add, Int.mul_add, Int.mul_one]; omega) (by omega) (by omega)
    rw [z1, z2]
  · rw [if_neg h]
    have r0 := Int.emod_nonneg (t + (d - 1 - a)) (show d ≠ 0 by omega)
    have r1 := Int.emod_lt_of_pos (t + (d - 1 - a)) hd
    have re := Int.mul_ediv_add_emod (t + (d - 1 - a)) d
    generalize (t + (d - 1 - a)) % d = r at *
    generalize (t + (d - 1 - a)) / d = q at *
    have hr : r ≠ d - 1 := fun z => h (by
      have e2 : s + t = e + d * (q - k2) := by rw [Int.mul_sub]; omega
      rw [e2, Int.add_mul_emod_self_left, Int.emod_eq_of_lt e0 e1] at hm
      exact hm.symm)
    rw [Int.add_zero]
    exact quot (r := r + 1) hd (by omega) (by omega) (by omega)
theorem cnt_nonneg {d s t e : Int} (hd : 0 < d) (ht : 0 ≤ t) : 0 ≤ cnt d s t e := by
  unfold cnt
  have h0 := Int.emod_nonneg (e - s) (show d ≠ 0 by omega)
  have h1 := Int.emod_lt_of_pos (e - s) hd
  exact Int.ediv_nonneg (by omega) (by omega)
theorem cnt_le {d s e : Int} (hd : 0 < d) (e0 : 0 ≤ e) (e1 : e < d) : ∀ t : Nat, cnt d s t e ≤ t
  | 0 => by rw [show ((0 : Nat) : Int) = 0 from rfl, cnt_zero hd]; exact Int.le_refl _
  | t + 1 => by
    have ih := cnt_le (s := s) hd e0 e1 t
    rw [show ((t + 1 : Nat) : Int) = (t : Int) + 1 by omega, cnt_succ hd e0 e1]
    split <;> omega
/-- visits, and then others -/
theorem cnt_add {d s t e : Int} (hd : 0 < d) (e0 : 0 ≤ e) (e1 : e < d) : ∀ u : Nat, cnt d s (t + u) e = cnt d s t e + cnt d ((s + t) % d) u e
  | 0 => by rw [show ((0 : Nat) : Int) = 0 from rfl, cnt_zero hd, Int.add_zero, Int.add_zero]
  | u + 1 => by
    have ih := cnt_add (s := s) (t := t) hd e0 e1 u
    rw [show ((u + 1 : Nat) : Int) = (u : Int) + 1 by omega, show t + ((u : Int) + 1) = (t + u) + 1 by omega, cnt_succ hd e0 e1, cnt_succ hd e0 e1, ih, Int.emod_add_emod, Int.add_assoc s t u]
    omega
theorem cnt_mono {d s t e : Int} (hd : 0 < d) (u : Int) (hu : 0 ≤ u) : cnt d s t e ≤ cnt d s (t + u) e := by
  unfold cnt
  exact Int.ediv_le_ediv hd (by omega)
/-! ### what is gone, where it stands behind -/
def nth (l : List Int) (p : Nat) : Int := l.getD p 0
def cntR (row : List Int) (s t : Int) : List Int := (List.range row.length).map fun e : Nat => cnt row.length s t e
def gon (ex : List (List Int)) (st vs : List Int) : List (List Int) := (List.range ex.length).map fun p => cntR (rowAt ex p) (nth st p) (nth vs p)
def beh (ex : List (List Int)) (st vs : List Int) : List Int := (List.range ex.length).map fun p => (nth st p + nth vs p) % ((rowAt ex p).length : Int)
theorem gon_len (ex : List (List Int)) (st vs : List Int) : (gon ex st vs).length = ex.length := by unfold gon; rw [List.length_map, List.length_range]
theorem beh_len (ex : List (List Int)) (st vs : List Int) : (beh ex st vs).length = ex.length := by unfold beh; rw [List.length_map, List.length_range]
theorem cntR_len (row : List Int) (s t : Int) : (cntR row s t).length = row.length := by unfold cntR; rw [List.length_map, List.length_range]
theorem gon_at {ex : List (List Int)} {st vs : List Int} {p : Nat} (h : p < ex.length) : rowAt (gon ex st vs) p = cntR (rowAt ex p) (nth st p) (nth vs p) := by
  unfold gon
  show ((List.range ex.length).map _).getD p [] = _
  rw [List.getD_eq_getElem?_getD, List.getElem?_map, List.getElem?_range h]; rfl
theorem beh_at {ex : List (List Int)} {st vs : List Int} {p : Nat} (h : p < ex.length) : nth (beh ex st vs) p = (nth st p + nth vs p) % ((rowAt ex p).length : Int) := by
  unfold beh nth
  rw [List.getD_eq_getElem?_getD, List.getElem?_map, List.getElem?_range h]; rfl
/-- numbers, one a point -/
structure Nums (n : Nat) (l : List Int) : Prop where
  len : l.length = n
  num : ∀ v ∈ l, 0 ≤ v ∧ v < 10 ^ 30
theorem Nums.at {n : Nat} {l : List Int} (h : Nums n l) {p : Nat} (hp : p < n) : l[p]? = some (nth l p) ∧ 0 ≤ nth l p ∧ nth l p < 10 ^ 30 := by
  have hl : p < l.length := by rw [h.len]; exact hp
  have e : l[p]? = some (nth l p) := by unfold nth; rw [List.getD_eq_getElem?_getD, List.getElem?_eq_getElem hl]; rfl
  exact ⟨e, h.num _ (List.mem_of_getElem? e)⟩
theorem ValidS.at {ex : List (List Int)} {st : List Int} (h : ValidS ex st) {p : Nat} (hp : p < ex.length) : st[p]? = some (nth st p) ∧ 0 ≤ nth st p ∧ nth st p < (rowAt ex p).length := by
  have hl : p < st.length := by rw [h.1]; exact hp
  have e : st[p]? = some (nth st p) := by unfold nth; rw [List.getD_eq_getElem?_getD, List.getElem?_eq_getElem hl]; rfl
  exact ⟨e, h.2 p _ _ e (rowAt_get hp)⟩
theorem beh_valid {e : Int} {ex : List (List Int)} (v : Valid e ex) (st vs : List Int) : ValidS ex (beh ex st vs) := by
  refine ⟨beh_len _ _ _, fun i s l h1 h2 => ?_⟩
  have hi : i < ex.length := (List.getElem?_eq_some_iff.mp h2).1
  have el : rowAt ex i = l := by have z := rowAt_get hi; rw [h2] at z; exact (Option.some.inj z).symm
  have r1 := v.r1 l (List.mem_of_getElem? h2)
  unfold beh at h1
  rw [List.getElem?_map, List.getElem?_range hi] at h1
  cases h1
  show 0 ≤ (nth st i + nth vs i) % ((rowAt ex i).length : Int) ∧ (nth st i + nth vs i) % ((rowAt ex i).length : Int) < (l.length : Int)
  rw [el]
  exact ⟨Int.emod_nonneg _ (by omega), Int.emod_lt_of_pos _ (by omega)⟩
/-- the deals, as the program lists them -/
def dealR (p : Nat) (s : Int) (row : List Int) : List D := (List.range row.length).map fun e : Nat => D.tup [.int (p : Int), .int ((row.length : Int) - 1 - ((e : Int) - s) % (row.length : Int)), .int (row.length : Int), .int (nth row e)]
def deals (ex : List (List Int)) (st : List Int) : List D := ((List.range ex.length).map fun p => dealR p (nth st p) (rowAt ex p)).flatten
theorem deals_mem {e : Int} {ex : List (List Int)} (v : Valid e ex) {st : List Int} {d : D} (h : d ∈ deals ex st) : ∃ p k, p < ex.length ∧ k < (rowAt ex p).length ∧ d = D.tup [.int (p : Int), .int (((rowAt ex p).length : Int) - 1 - ((k : Int) - nth st p) % ((rowAt ex p).length : Int)), .int ((rowAt ex p).length : Int), .int (nth (rowAt ex p) k)] := by
  unfold deals at h
  obtain ⟨r, hr, hd⟩ := List.mem_flatten.mp h
  obtain ⟨p, hp, rfl⟩ := List.mem_map.mp hr
  obtain ⟨k, hk, rfl⟩ := List.mem_map.mp hd
  exact ⟨p, k, List.mem_range.mp hp, List.mem_range.mp hk, rfl⟩
def goneD (vs : List Int) : D → D
  | .tup [.int p, .int a, .int m, _] => .int ((nth vs p.toNat + a) / m)
  | _ => .non
theorem deals_gone (ex : List (List Int)) (st vs : List Int) : (deals ex st).map (goneD vs) = lI (gon ex st vs).flatten := by
  unfold deals gon lI
  rw [List.map_flatten, List.map_flatten, List.map_map, List.map_map]
  congr 1
  refine List.map_congr_left fun p _ => ?_
  show (dealR p (nth st p) (rowAt ex p)).map (goneD vs) = (cntR (rowAt ex p) (nth st p) (nth vs p)).map D.int
  unfold dealR cntR
  rw [List.map_map, List.map_map]
  refine List.map_congr_left fun k _ => ?_
  show D.int ((nth vs ((p : Int)).toNat + _) / _) = D.int (cnt _ _ _ _)
  rw [Int.toNat_natCast]; rfl
theorem deals_len (ex : List (List Int)) (st : List Int) : (deals ex st).length = ex.flatten.length := by
  unfold deals
  rw [List.length_flatten, List.length_flatten, List.map_map]
  congr 1
  apply List.ext_getElem?
  intro i
  rw [List.getElem?_map, List.getElem?_map]
  by_cases hi : i < ex.length
  · rw [List.getElem?_range hi, rowAt_get hi]
    show some (dealR i (nth st i) (rowAt ex i)).length = some _
    unfold dealR
    rw [List.length_map, List.length_range]
  · rw [List.getElem?_eq_none (l := List.range ex.length) (by simpa using hi), List.getElem?_eq_none (l := ex) (by omega)]; rfl
end K37

namespace K37
open PySem PySem.Spec PyProof.Rows L2 DD
section
variable {P : Program} {w : World} {K : PySem.W.Frag} {mg : Str → Option Value} {base : Heap} {f C : Addr} {fd : FuncData} {k : Nat}
/-! ### numbers -/
def isN : D → Bool
  | .int i => decide (0 ≤ i) && decide (i < 10 ^ 30)
  | _ => false
theorem ok_is_number (Fc : Df P w K mg base k "is_count" ["value"] (spD (c1 isC))) (F : Fun K "is_number" "is_number" s_is_number f fd) : FnOk P w K mg base CX0 (k + 1) f fd ["value"] (spD (c1 isN)) := by
  refine fnD F c_is_number (fun ds Z h => ?_) (fun cdv A outer s H E ds Z hr h => ?_)
  · obtain ⟨d, rfl, _⟩ := h
    rfl
  · obtain ⟨d, rfl, pl, q⟩ := h
    refine ss_one (s_ret (w_and (call Fc hr (a1 (nm 0 ⟨_, rfl, pl, _, rfl, ?_⟩)))))
    cases hb : isC d with
    | true =>
      cases d <;> first | cases hb | skip
      rename_i i
      have h0 : decide (0 ≤ i) = true := hb
      have e : isN (.int i) = decide (i < 10 ^ 30) := by
        show (decide (0 ≤ i) && decide (i < 10 ^ 30)) = _
        rw [h0]; rfl
      rw [e] at q
      exact w_one (w_cmpG (nm 0 (w_binG (w_int (w_int (o_pow ⟨⟨by decide, by decide, by decide⟩, o_lt q⟩))))))
    | false =>
      have e : isN d = false := by
        cases d <;> first | rfl | skip
        rename_i i
        have h0 : decide (0 ≤ i) = false := hb
        show (decide (0 ≤ i) && _) = false
        rw [h0]; rfl
      rw [e] at q
      exact q
def cAreN : List D → (D → Prop) → Prop := fun ds Z => ∃ d l n, ds = [d, .int (n : Nat)] ∧ rowI d l ∧ Nums n l ∧ n ≤ 24 ∧ Z (.bl true)
theorem ok_are_numbers (T : Blt mg) (Fr : Df P w K mg base k "is_row" ["value"] (spD (c1 isRow))) (Fn : Df P w K mg base k "is_number" ["value"] (spD (c1 isN))) (F : Fun K "are_numbers" "are_numbers" s_are_numbers f fd) : FnOk P w K mg base CX0 (k + 1) f fd ["value", "many"] (spD cAreN) := by
  refine fnD F c_are_numbers (fun ds Z h => ?_) (fun cdv A outer s H E ds Z hr h => ?_)
  · obtain ⟨d, l, n, rfl, _⟩ := h
    rfl
  · obtain ⟨d, l, n, rfl, hd, hl, h24, q⟩ := h
    have hd2 : d = .lst (lI l) ∨ d = .tup (lI l) := hd
    have hpl : Pl d := by rcases hd with rfl | rfl <;> exact ⟨_, rfl⟩
    have hrow : isRow d = true := by rcases hd with rfl | rfl <;> rfl
    refine ss_one (s_ret (w_and (call Fr hr (a1 (nm 0 ⟨_, rfl, hpl, _, rfl, ?_⟩)))))
    rw [hrow]
    show W _ _ _ _ _ _
    refine w_and (w_cmpG (w_callB (id := "len") true rfl T.len (by decide +kernel) (a1 (nm 0 (c_len hd2 (nm 1 (o_eq ⟨_, rfl, ?_⟩)))))))
    rw [decide_eq_true (by rw [lI_len, hl.len])]
    show W _ _ _ _ _ _
    refine w_one (w_callB true rfl T.all (by decide +kernel) (a1 (lc1 2 (fun x => .bl (isN x)) c_are_numbers (wi_row hd2 (fun Q h => nm 0 h) ⟨?_, fun x hx _ _ _ _ _ => ?_, c_allD rfl ?_⟩))))
    · rw [lI_len, hl.len]; omega
    · exact call Fn hr (a1 (nm 2 ⟨_, rfl, pl_ints x hx, rfl⟩))
    · have e : (lI l).all isN = true := ints_all fun t ht => by
        obtain ⟨a, b⟩ := hl.num t ht
        show (decide (0 ≤ t) && decide (t < 10 ^ 30)) = true
        rw [decide_eq_true a, decide_eq_true b]; rfl
      rw [e]; exact q
/-! ### checks -/
def cNum (C : Addr) : List D → (D → Prop) → Prop := fun ds Z => ∃ e ex d l, ds = [netD C e ex, d] ∧ rowI d l ∧ Valid e ex ∧ Nums ex.length l ∧ Z .non
theorem ok_check_starts {j : Nat} (N : NetP P w K mg base C j) (hj : j ≤ k) (Fa : Df P w K mg base k "are_numbers" ["value", "many"] (spD cAreN)) (F : Fun K "check_starts" "check_starts" s_check_starts f fd) : FnOk P w K mg base CX0 (k + 2) f fd ["net", "starts"] (spD (cNum C)) := by
  refine fnD F c_check_starts (fun ds Z h => ?_) (fun cdv A outer s H E ds Z hr h => ?_)
  · obtain ⟨e, ex, d, l, rfl, _⟩ := h
    rfl
  · obtain ⟨e, ex, d, l, rfl, hd, v, hl, q⟩ := h
    refine ss_one (s_if (t_not (t_val (call Fa (hr.mono (Nat.le_succ _)) (aG (nm 1 (a1 (w_points N (hr.mono (by omega)) (nm 0 ⟨e, ex, rfl, v, d, l, _, rfl, hd, hl, v.n24, _, rfl, ?_⟩)))))))))
    show WSs _ [] _ _
    exact ss_nil q
theorem ok_check_visits {j : Nat} (N : NetP P w K mg base C j) (hj : j ≤ k) (Fa : Df P w K mg base k "are_numbers" ["value", "many"] (spD cAreN)) (F : Fun K "check_visits" "check_visits" s_check_visits f fd) : FnOk P w K mg base CX0 (k + 2) f fd ["net", "visits"] (spD (cNum C)) := by
  refine fnD F c_check_visits (fun ds Z h => ?_) (fun cdv A outer s H E ds Z hr h => ?_)
  · obtain ⟨e, ex, d, l, rfl, _⟩ := h
    rfl
  · obtain ⟨e, ex, d, l, rfl, hd, v, hl, q⟩ := h
    refine ss_one (s_if (t_not (t_val (call Fa (hr.mono (Nat.le_succ _)) (aG (nm 1 (a1 (w_points N (hr.mono (by omega)) (nm 0 ⟨e, ex, rfl, v, d, l, _, rfl, hd, hl, v.n24, _, rfl, ?_⟩)))))))))
    show WSs _ [] _ _
    exact ss_nil q
def cVis (C : Addr) (r : Int → List (List Int) → List Int → List Int → D) : List D → (D → Prop) → Prop := fun ds Z => ∃ e ex d st d2 vs, ds = [netD C e ex, d, d2] ∧ rowI d st ∧ rowI d2 vs ∧ Valid e ex ∧ ValidS ex st ∧ Nums ex.length vs ∧ Z (r e ex st vs)
/-! ### deals -/
theorem row_ix {X : Cx} {g : Bool} {Z : D → Prop} {d : D} {l : List Int} (hd : rowI d l) {p : Nat} {t : Int} (h : l[p]? = some t) (q : Z (.int t)) : OpI g X d (.int (p : Int)) Z := by
  have a : atI (lI l) (p : Int) = some (.int t) := ints_atI (by omega) (by rw [Int.toNat_natCast]; exact h)
  rcases hd with rfl | rfl
  · exact x_lst a q
  · exact x_tup a q
def cDeals : List D → (D → Prop) → Prop := fun ds Z => ∃ e ex d st, ds = [.lst (rowsL ex), d] ∧ rowI d st ∧ Valid e ex ∧ ValidS ex st ∧ Z (.lst (deals ex st))
def dealsTo (ex : List (List Int)) (st : List Int) (p : Nat) : List D := ((List.range p).map fun p => dealR p (nth st p) (rowAt ex p)).flatten
theorem dealsTo_succ (ex : List (List Int)) (st : List Int) (p : Nat) : dealsTo ex st (p + 1) = dealsTo ex st p ++ dealR p (nth st p) (rowAt ex p) := by
  unfold dealsTo
  rw [List.range_succ, List.map_append, List.flatten_append]
  simp
theorem dealsTo_len {e : Int} {ex : List (List Int)} (v : Valid e ex) (st : List Int) : ∀ p, p ≤ ex.length → (dealsTo ex st p).length ≤ 6 * p
  | 0, _ => Nat.zero_le _
  | p + 1, h => by
    have ih := dealsTo_len v st p (by omega)
    rw [dealsTo_succ, List.length_append]
    have := v.r6 _ (rowAt_mem (show p < ex.length by omega))
    unfold dealR
    rw [List.length_map, List.length_range]
    omega
theorem ok_deals_of (T : Blt mg) (F : Fun K "deals_of" "deals_of" s_deals_of f fd) : FnOk P w K mg base CX0 (k + 1) f fd ["rows", "setting"] (spD cDeals) := by
  refine fnD F c_deals_of (fun ds Z h => ?_) (fun cdv A outer s H E ds Z hr h => ?_)
  · obtain ⟨e, ex, d, st, rfl, _⟩ := h
    rfl
  · obtain ⟨e, ex, d, st, rfl, hd, v, hst, q⟩ := h
    have n24 := v.n24
    refine ss_cons (setO 2 c_deals_of (f_nil ?_))
    show WSs _ _ _ _
    refine ss_cut (fun ρ => ∃ s3 s4 s5 s6 s7, ρ = [.val (.lst (rowsL ex)), .val d, .own true (.lst (deals ex st)), s3, s4, s5, s6, s7])
      (for2 3 4 c_deals_of (wi_enum rfl T.enum (a1 (nm 0 ⟨_, rfl, fun p ρ => ∃ s3 s4 s5 s6 s7, ρ = [.val (.lst (rowsL ex)), .val d, .own true (.lst (dealsTo ex st p)), s3, s4, s5, s6, s7], ⟨.un, .un, .un, .un, .un, rfl⟩, fun p d2 ρi hd2 hI => ?_, fun ρn hI => ?_⟩)))) (fun ρ' hI => ?_)
    · obtain ⟨s3, s4, s5, s6, s7, rfl⟩ := hI
      obtain ⟨hp, rfl⟩ := enumR_at hd2
      have h1 := v.r1 _ (rowAt_mem hp)
      have h6 := v.r6 _ (rowAt_mem hp)
      obtain ⟨es, s0, s1⟩ := hst.at hp
      have hdl := dealsTo_len v st p (by omega)
      refine ⟨_, _, rfl, ss_one (for2 5 6 c_deals_of (wi_enum rfl T.enum (a1 (nm 4 ⟨_, rfl, fun i ρ => ∃ s5 s6 s7, ρ = [.val (.lst (rowsL ex)), .val d, .own true (.lst (dealsTo ex st p ++ (dealR p (nth st p) (rowAt ex p)).take i)), .val (.int (p : Int)), .val (.lst (lI (rowAt ex p))), s5, s6, s7], ⟨s5, s6, s7, ?_⟩, fun i d3 ρi hd3 hI => ?_, fun ρn hI => ?_⟩))))⟩
      · rw [List.take_zero, List.append_nil]; rfl
      · obtain ⟨s5', s6', s7', rfl⟩ := hI
        obtain ⟨t, ht, rfl⟩ := enum_at hd3
        have hi := (List.getElem?_eq_some_iff.mp ht).1
        have etd : nth (rowAt ex p) i = t := by unfold nth; rw [List.getD_eq_getElem?_getD, ht]; rfl
        refine ⟨_, _, rfl, ss_cons (set 7 c_deals_of (w_binG (w_binG (nm 5 (w_ix true true (fun _ _ => rfl) (.inr rfl) (nm 1 (nm 3 (row_ix hd es (o_sub (w_callB (id := "len") true rfl T.len (by decide +kernel) (a1 (nm 4 (c_lenL (o_mod ⟨?_, ?_⟩))))))))))))))⟩
        · rw [lI_len]; omega
        rw [lI_len]
        show WSs _ _ [.val (.lst (rowsL ex)), .val d, .own true (.lst (dealsTo ex st p ++ (dealR p (nth st p) (rowAt ex p)).take i)), .val (.int (p : Int)), .val (.lst (lI (rowAt ex p))), .val (.int (i : Int)), .val (.int t), .val (.int (((i : Int) - nth st p) % ((rowAt ex p).length : Int)))] _
        refine ss_one (app 2 rfl (w_tup (aG (nm 3 (aG (w_binG (w_binG (w_callB (id := "len") true rfl T.len (by decide +kernel) (a1 (nm 4 (c_lenL (w_int (o_sub (nm 7 (o_sub (aG (w_callB (id := "len") true rfl T.len (by decide +kernel) (a1 (nm 4 (c_lenL (a1 (nm 6 ⟨by show 4 ≤ sizeLine; decide, _, rfl, ?_, .val (.int (i : Int)), .val (.int t), .val (.int (((i : Int) - nth st p) % ((rowAt ex p).length : Int))), ?_⟩))))))))))))))))))))))
        · rw [List.length_append, List.length_take]; omega
        · have eR : (dealR p (nth st p) (rowAt ex p))[i]? = some (D.tup [.int (p : Int), .int (((rowAt ex p).length : Int) - 1 - ((i : Int) - nth st p) % ((rowAt ex p).length : Int)), .int ((rowAt ex p).length : Int), .int t]) := by
            unfold dealR
            rw [List.getElem?_map, List.getElem?_range hi, ← etd]; rfl
          rw [List.take_add_one, eR, ← List.append_assoc, lI_len]
          rfl
      · obtain ⟨s5', s6', s7', rfl⟩ := hI
        refine ⟨.val (.int (p : Int)), .val (.lst (lI (rowAt ex p))), s5', s6', s7', ?_⟩
        rw [enum_len, dealsTo_succ]
        rw [List.take_of_length_le (l := dealR p (nth st p) (rowAt ex p)) (by unfold dealR; rw [List.length_map, List.length_range]; exact Nat.le_refl _)]
    · obtain ⟨s3, s4, s5, s6, s7, rfl⟩ := hI
      rw [enumR_len]
      exact ⟨s3, s4, s5, s6, s7, rfl⟩
    · obtain ⟨s3, s4, s5, s6, s7, rfl⟩ := hI
      exact ss_one (s_ret (nmS 2 q))
/-! ### times gone -/
end
end K37

namespace K37
open PySem PySem.Spec PyProof.Rows L2 DD
/-! ### what comes to places -/
def ixA (t : Int) : Option Nat := if 0 ≤ t then some t.toNat else none
def ixC (t : Int) : Option Nat := if t < 0 then some (-1 - t).toNat else none
def step1 (ix : Int → Option Nat) (acc : List Int) (tg : Int × Int) : List Int := match ix tg.1 with
  | some j => acc.set j (nth acc j + tg.2)
  | none => acc
def goF (ix : Int → Option Nat) (ps : List (Int × Int)) (acc : List Int) : List Int := ps.foldl (step1 ix) acc
theorem step1_len (ix : Int → Option Nat) (acc : List Int) (q : Int × Int) : (step1 ix acc q).length = acc.length := by
  unfold step1
  split
  · exact List.length_set ..
  · rfl
theorem goF_len (ix : Int → Option Nat) : ∀ (ps : List (Int × Int)) (acc : List Int), (goF ix ps acc).length = acc.length
  | [], _ => rfl
  | q :: ps, acc => by
    show (goF ix ps (step1 ix acc q)).length = _
    rw [goF_len ix ps, step1_len]
theorem goF_snoc {ix : Int → Option Nat} {ps : List (Int × Int)} {i : Nat} {q : Int × Int} (h : ps[i]? = some q) (acc : List Int) : goF ix (ps.take (i + 1)) acc = step1 ix (goF ix (ps.take i) acc) q := by
  unfold goF
  rw [List.take_add_one, h, List.foldl_append]; rfl
theorem goF_app (ix : Int → Option Nat) (a b : List (Int × Int)) (acc : List Int) : goF ix (a ++ b) acc = goF ix b (goF ix a acc) := List.foldl_append
theorem stA {t g : Int} {acc : List Int} (h : 0 ≤ t) : step1 ixA acc (t, g) = acc.set t.toNat (nth acc t.toNat + g) := by
  unfold step1 ixA
  rw [if_pos h]
theorem stA0 {t g : Int} {acc : List Int} (h : ¬ 0 ≤ t) : step1 ixA acc (t, g) = acc := by
  unfold step1 ixA
  rw [if_neg h]
theorem stC {t g : Int} {acc : List Int} (h : t < 0) : step1 ixC acc (t, g) = acc.set (-1 - t).toNat (nth acc (-1 - t).toNat + g) := by
  unfold step1 ixC
  rw [if_pos h]
theorem stC0 {t g : Int} {acc : List Int} (h : ¬ t < 0) : step1 ixC acc (t, g) = acc := by
  unfold step1 ixC
  rw [if_neg h]
theorem nth_get {l : List Int} {j : Nat} (h : j < l.length) : l[j]? = some (nth l j) := by
  unfold nth; rw [List.getD_eq_getElem?_getD, List.getElem?_eq_getElem h]; rfl
theorem nth_of {l : List Int} {j : Nat} {t : Int} (h : l[j]? = some t) : nth l j = t := by
  unfold nth; rw [List.getD_eq_getElem?_getD, h]; rfl
theorem nth_mem {l : List Int} {j : Nat} (h : j < l.length) : nth l j ∈ l := List.mem_of_getElem? (nth_get h)
theorem ixN_in {n : Nat} {i : Int} (h0 : 0 ≤ i) (h1 : i < n) : ixN n i = some i.toNat := by
  unfold ixN
  rw [if_pos h0, if_pos h1]
/-- the tracks: where they lead, how often they are gone -/
def trk (ex : List (List Int)) (st vs : List Int) : List (Int × Int) := ex.flatten.zip (gon ex st vs).flatten
def tgD : D → D
  | .tup [_, _, _, t] => t
  | _ => .non
theorem deals_tg (ex : List (List Int)) (st : List Int) : (deals ex st).map tgD = lI ex.flatten := by
  unfold deals
  rw [List.map_flatten, List.map_map]
  have e : ∀ p, (List.map tgD ∘ fun p => dealR p (nth st p) (rowAt ex p)) p = lI (rowAt ex p) := fun p => by
    show (dealR p (nth st p) (rowAt ex p)).map tgD = _
    unfold dealR lI
    rw [List.map_map]
    apply List.ext_getElem?
    intro i
    rw [List.getElem?_map, List.getElem?_map]
    by_cases hi : i < (rowAt ex p).length
    · rw [List.getElem?_range hi, nth_get hi]; rfl
    · rw [List.getElem?_eq_none (by simpa using hi), List.getElem?_eq_none (by omega)]; rfl
  rw [List.map_congr_left fun p _ => e p]
  unfold lI
  rw [List.map_flatten]
  congr 1
  apply List.ext_getElem?
  intro i
  rw [List.getElem?_map, List.getElem?_map]
  by_cases hi : i < ex.length
  · rw [List.getElem?_range hi, rowAt_get hi]; rfl
  · rw [List.getElem?_eq_none (by simpa using hi), List.getElem?_eq_none (by omega)]; rfl
theorem trk_len (ex : List (List Int)) (st vs : List Int) : (trk ex st vs).length = (deals ex st).length := by
  have a := congrArg List.length (deals_tg ex st)
  have b := congrArg List.length (deals_gone ex st vs)
  unfold lI at a b
  rw [List.length_map, List.length_map] at a b
  unfold trk
  rw [List.length_zip]
  omega
theorem deals_at {e : Int} {ex : List (List Int)} (v : Valid e ex) {st : List Int} (vs : List Int) {i : Nat} {d : D} (h : (deals ex st)[i]? = some d) : ∃ p k, p < ex.length ∧ k < (rowAt ex p).length ∧ d = D.tup [.int (p : Int), .int (((rowAt ex p).length : Int) - 1 - ((k : Int) - nth st p) % ((rowAt ex p).length : Int)), .int ((rowAt ex p).length : Int), .int (nth (rowAt ex p) k)] ∧
    (trk ex st vs)[i]? = some (nth (rowAt ex p) k, (nth vs p + (((rowAt ex p).length : Int) - 1 - ((k : Int) - nth st p) % ((rowAt ex p).length : Int))) / ((rowAt ex p).length : Int)) := by
  obtain ⟨p, k, hp, hk, rfl⟩ := deals_mem v (List.mem_of_getElem? h)
  refine ⟨p, k, hp, hk, rfl, ?_⟩
  have a := congrArg (fun l => l[i]?) (deals_tg ex st)
  have b := congrArg (fun l => l[i]?) (deals_gone ex st vs)
  simp only [List.getElem?_map, h] at a b
  obtain ⟨t, ht, e1⟩ := lI_at a.symm
  obtain ⟨g, hg, e2⟩ := lI_at b.symm
  have e1 : D.int (nth (rowAt ex p) k) = D.int t := e1
  have e2 : D.int ((nth vs ((p : Int)).toNat + _) / _) = D.int g := e2
  injection e1 with e1
  injection e2 with e2
  unfold trk
  rw [List.getElem?_zip_eq_some]
  rw [Int.toNat_natCast] at e2
  exact ⟨by rw [ht, ← e1], by rw [hg, ← e2]⟩
theorem Valid.tg {e : Int} {ex : List (List Int)} (v : Valid e ex) {p k : Nat} (hp : p < ex.length) (hk : k < (rowAt ex p).length) : -e ≤ nth (rowAt ex p) k ∧ nth (rowAt ex p) k < ex.length :=
  ⟨v.lo _ (rowAt_mem hp) _ (nth_mem hk), v.hi _ (rowAt_mem hp) _ (nth_mem hk)⟩
def arrV (ex : List (List Int)) (st vs ss : List Int) : List Int := goF ixA (trk ex st vs) ss
def comV (e : Int) (ex : List (List Int)) (st vs : List Int) : List Int := goF ixC (trk ex st vs) (List.replicate e.toNat 0)
theorem rowI.b2 {d : D} {l : List Int} (h : rowI d l) : ∃ b, d = isB2 b (lI l) := by
  rcases h with rfl | rfl
  · exact ⟨false, rfl⟩
  · exact ⟨true, rfl⟩
def behD : D → D
  | .tup [.lst r, .int s, .int v] => .int ((s + v) % (r.length : Int))
  | _ => .non
theorem lI_zip3 {ex : List (List Int)} {st vs : List Int} (h1 : st.length = ex.length) (h2 : vs.length = ex.length) : zip3 (rowsL ex) (lI st) (lI vs) = (List.range ex.length).map fun p => D.tup [.lst (lI (rowAt ex p)), .int (nth st p), .int (nth vs p)] := by
  apply List.ext_getElem?
  intro i
  by_cases hi : i < ex.length
  · rw [List.getElem?_map, List.getElem?_range hi]
    unfold zip3
    rw [List.getElem?_map]
    have a : (rowsL ex)[i]? = some (.lst (lI (rowAt ex i))) := by unfold rowsL; rw [List.getElem?_map, rowAt_get hi]; rfl
    have b : (lI st)[i]? = some (.int (nth st i)) := by unfold lI; rw [List.getElem?_map, nth_get (by omega)]; rfl
    have c : (lI vs)[i]? = some (.int (nth vs i)) := by unfold lI; rw [List.getElem?_map, nth_get (by omega)]; rfl
    rw [show ((rowsL ex).zip ((lI st).zip (lI vs)))[i]? = some (.lst (lI (rowAt ex i)), .int (nth st i), .int (nth vs i)) from List.getElem?_zip_eq_some.mpr ⟨a, List.getElem?_zip_eq_some.mpr ⟨b, c⟩⟩]
    rfl
  · rw [List.getElem?_eq_none (by rw [zip3_len, rowsL_len]; omega), List.getElem?_eq_none (by rw [List.length_map, List.length_range]; omega)]
theorem zip3_beh {ex : List (List Int)} {st vs : List Int} (h1 : st.length = ex.length) (h2 : vs.length = ex.length) : (zip3 (rowsL ex) (lI st) (lI vs)).map behD = lI (beh ex st vs) := by
  rw [lI_zip3 h1 h2, List.map_map]
  unfold beh lI
  rw [List.map_map]
  refine List.map_congr_left fun p _ => ?_
  show D.int ((nth st p + nth vs p) % ((lI (rowAt ex p)).length : Int)) = _
  rw [lI_len]; rfl
section
variable {P : Program} {w : World} {K : PySem.W.Frag} {mg : Str → Option Value} {base : Heap} {f C : Addr} {fd : FuncData} {k : Nat}
def cArr : List D → (D → Prop) → Prop := fun ds Z => ∃ e ex st ss d vs, ds = [.lst (deals ex st), .lst (lI ss), d] ∧ rowI d vs ∧ Valid e ex ∧ Nums ex.length vs ∧ ss.length = ex.length ∧ Z (.lst (lI (arrV ex st vs ss)))
theorem ok_arrivals (hml : mg "list" = none) (F : Fun K "arrivals" "arrivals" s_arrivals f fd) : FnOk P w K mg base CX0 (k + 1) f fd ["deals", "starts", "visits"] (spD cArr) := by
  refine fnD F c_arrivals (fun ds Z h => ?_) (fun cdv A outer s H E ds Z hr h => ?_)
  · obtain ⟨e, ex, st, ss, d, vs, rfl, _⟩ := h
    rfl
  · obtain ⟨e, ex, st, ss, d, vs, rfl, hd, v, hvs, hss, q⟩ := h
    refine ss_cons (setO 3 c_arrivals (f_list 1 hml rfl ?_))
    show WSs _ _ _ _
    refine ss_cut (fun ρ => ∃ s4 s5 s6 s7, ρ = [.val (.lst (deals ex st)), .val (.lst (lI ss)), .val d, .own true (.lst (lI (arrV ex st vs ss))), s4, s5, s6, s7])
      (for4 4 5 6 7 c_arrivals (wi_lst (nm 0 ⟨_, rfl, fun i ρ => ∃ s4 s5 s6 s7, ρ = [.val (.lst (deals ex st)), .val (.lst (lI ss)), .val d, .own true (.lst (lI (goF ixA ((trk ex st vs).take i) ss))), s4, s5, s6, s7], ⟨.un, .un, .un, .un, rfl⟩, fun i d2 ρi hd2 hI => ?_, fun ρn hI => ?_⟩))) (fun ρ' hI => ?_)
    · obtain ⟨s4, s5, s6, s7, rfl⟩ := hI
      obtain ⟨p, j, hp, hj, rfl, hz⟩ := deals_at v vs hd2
      obtain ⟨t0, t1⟩ := v.tg hp hj
      obtain ⟨ev, v0, v1⟩ := hvs.at hp
      have h6 := v.r6 _ (rowAt_mem hp)
      refine ⟨_, _, _, _, rfl, ss_one (s_if (t_cmpG (nm 7 (w_int (o_ge ⟨_, rfl, ?_⟩)))))⟩
      by_cases ht : 0 ≤ nth (rowAt ex p) j
      · rw [decide_eq_true ht]
        show WSs _ _ _ _
        have gl := goF_len ixA ((trk ex st vs).take i) ss
        refine ss_one (s_augItem 3 rfl (nm 7 ⟨_, _, _, rfl, ixN_in ht (by rw [gl, hss]; exact t1), nth_get (by rw [gl, hss]; omega), w_binG (w_binG (w_ix true true (fun _ _ => rfl) (.inr rfl) (nm 2 (nm 4 (row_ix hd ev (nm 5 (o_add (nm 6 (o_fdiv ⟨⟨?_, ?_⟩, _, rfl, ?_⟩)))))))))⟩))
        · omega
        · omega
        · refine ⟨.val (.int (p : Int)), .val (.int (((rowAt ex p).length : Int) - 1 - ((j : Int) - nth st p) % ((rowAt ex p).length : Int))), .val (.int ((rowAt ex p).length : Int)), .val (.int (nth (rowAt ex p) j)), ?_⟩
          rw [goF_snoc hz, stA ht]; rfl
      · rw [decide_eq_false ht]
        show WSs _ _ _ _
        refine ss_nil ⟨.val (.int (p : Int)), .val (.int (((rowAt ex p).length : Int) - 1 - ((j : Int) - nth st p) % ((rowAt ex p).length : Int))), .val (.int ((rowAt ex p).length : Int)), .val (.int (nth (rowAt ex p) j)), ?_⟩
        rw [goF_snoc hz, stA0 ht]; rfl
    · obtain ⟨s4, s5, s6, s7, rfl⟩ := hI
      rw [List.take_of_length_le (by rw [trk_len]; exact Nat.le_refl _)]
      exact ⟨s4, s5, s6, s7, rfl⟩
    · obtain ⟨s4, s5, s6, s7, rfl⟩ := hI
      exact ss_one (s_ret (nmS 3 q))
def cTr (C : Addr) : List D → (D → Prop) → Prop := fun ds Z => ∃ e ex d st d2 ss, ds = [netD C e ex, d, d2] ∧ rowI d st ∧ rowI d2 ss ∧ Valid e ex ∧ ValidS ex st ∧ Nums ex.length ss ∧ Z .non
theorem ok_check_trains (Fn : Df P w K mg base k "check_net" ["net"] (spD (cNet C fun _ _ => .non))) (Fs : Df P w K mg base k "check_setting" ["net", "setting"] (spD (cSet C fun _ _ _ => .non))) (Fa : Df P w K mg base k "check_starts" ["net", "starts"] (spD (cNum C)))
    (F : Fun K "check_trains" "check_trains" s_check_trains f fd) : FnOk P w K mg base CX0 (k + 1) f fd ["net", "setting", "starts"] (spD (cTr C)) := by
  refine fnD F c_check_trains (fun ds Z h => ?_) (fun cdv A outer s H E ds Z hr h => ?_)
  · obtain ⟨e, ex, d, st, d2, ss, rfl, _⟩ := h
    rfl
  · obtain ⟨e, ex, d, st, d2, ss, rfl, hd, hd2, v, hst, hss, q⟩ := h
    refine ss_cons (s_expr (call Fn hr (a1 (nm 0 ⟨e, ex, rfl, v, ?_⟩))))
    show WSs _ _ _ _
    refine ss_cons (s_expr (call Fs hr (aG (nm 0 (a1 (nm 1 ⟨e, ex, d, st, rfl, hd, v, hst, ?_⟩))))))
    show WSs _ _ _ _
    refine ss_one (s_expr (call Fa hr (aG (nm 0 (a1 (nm 2 ⟨e, ex, _, ss, rfl, hd2, v, hss, ?_⟩))))))
    exact q
theorem zip_trk (ex : List (List Int)) (st vs : List Int) : ((lI ex.flatten).zip (lI (gon ex st vs).flatten)).map (fun q => D.tup [q.1, q.2]) = (trk ex st vs).map fun q => D.tup [.int q.1, .int q.2] := by
  unfold trk lI
  rw [List.zip_map, List.map_map]; rfl
theorem trk_mem {e : Int} {ex : List (List Int)} (v : Valid e ex) {st vs : List Int} {q : Int × Int} (h : q ∈ trk ex st vs) : -e ≤ q.1 ∧ q.1 < ex.length := by
  have := List.of_mem_zip (show (q.1, q.2) ∈ ex.flatten.zip _ from h)
  obtain ⟨r, hr, hq⟩ := List.mem_flatten.mp this.1
  exact ⟨v.lo r hr _ hq, v.hi r hr _ hq⟩
end
end K37

namespace K37
open PySem PySem.Spec PyProof.Rows L2 DD
section
variable {P : Program} {w : World} {K : PySem.W.Frag} {mg : Str → Option Value} {base : Heap} {f C : Addr} {fd : FuncData} {k : Nat}
/-! ### last targets of visited points -/
def lastD (ex : List (List Int)) (st vs : List Int) (p : Nat) : D := if 0 < nth vs p then .int (nth (rowAt ex p) ((nth st p + nth vs p - 1) % ((rowAt ex p).length : Int)).toNat) else .non
def cLasts : List D → (D → Prop) → Prop := fun ds Z => ∃ e ex d st d2 vs, ds = [.lst (rowsL ex), d, d2] ∧ rowI d st ∧ rowI d2 vs ∧ Valid e ex ∧ st.length = ex.length ∧ vs.length = ex.length ∧ Z (.lst ((List.range ex.length).map (lastD ex st vs)))
theorem ok_last_targets (T : Blt mg) (F : Fun K "last_targets" "last_targets" s_last_targets f fd) : FnOk P w K mg base CX0 (k + 1) f fd ["rows", "setting", "visits"] (spD cLasts) := by
  refine fnD F c_last_targets (fun ds Z h => ?_) (fun cdv A outer s H E ds Z hr h => ?_)
  · obtain ⟨e, ex, d, st, d2, vs, rfl, _⟩ := h
    rfl
  · obtain ⟨e, ex, d, st, d2, vs, rfl, hd, hd2, v, hst, hvs, q⟩ := h
    obtain ⟨b2, rfl⟩ := rowI.b2 hd
    obtain ⟨b3, rfl⟩ := rowI.b2 hd2
    have n24 := v.n24
    refine ss_cons (setO 3 c_last_targets (f_nil ?_))
    show WSs _ _ _ _
    refine ss_cut (fun ρ => ∃ s4 s5 s6, ρ = [.val (.lst (rowsL ex)), .val (isB2 b2 (lI st)), .val (isB2 b3 (lI vs)), .own true (.lst ((List.range ex.length).map (lastD ex st vs))), s4, s5, s6])
      (for3 4 5 6 c_last_targets (wi_zip3 false b2 b3 rfl T.zip (aG (nm 0 (aG (nm 1 (a1 (nm 2 ⟨_, _, _, rfl, fun p ρ => ∃ s4 s5 s6, ρ = [.val (.lst (rowsL ex)), .val (isB2 b2 (lI st)), .val (isB2 b3 (lI vs)), .own true (.lst ((List.range p).map (lastD ex st vs))), s4, s5, s6],
        ⟨.un, .un, .un, rfl⟩, fun p d ρi hd hI => ?_, fun ρn hI => ?_⟩)))))))) (fun ρ' hI => ?_)
    · obtain ⟨s4, s5, s6, rfl⟩ := hI
      rw [lI_zip3 hst hvs] at hd
      have hp : p < ex.length := by have := (List.getElem?_eq_some_iff.mp hd).1; rw [List.length_map, List.length_range] at this; exact this
      rw [List.getElem?_map, List.getElem?_range hp] at hd
      cases hd
      have h1 := v.r1 _ (rowAt_mem hp)
      have m0 := Int.emod_nonneg (nth st p + nth vs p - 1) (show ((rowAt ex p).length : Int) ≠ 0 by omega)
      have m1 := Int.emod_lt_of_pos (nth st p + nth vs p - 1) (show (0 : Int) < (rowAt ex p).length by omega)
      refine ⟨_, _, _, rfl, ?_⟩
      have fin : ∀ x, x = lastD ex st vs p → (List.range p).map (lastD ex st vs) ++ [x] = (List.range (p + 1)).map (lastD ex st vs) := fun x hx => by
        rw [List.range_succ, List.map_append, hx]; rfl
      have hlen : ((List.range p).map (lastD ex st vs)).length < 1000000 := by rw [List.length_map, List.length_range]; omega
      refine ss_one (app 3 rfl (w_if (t_cmpG (nm 6 (w_int (o_gt ⟨_, rfl, ?_⟩))))))
      by_cases h : 0 < nth vs p
      · rw [decide_eq_true h]
        show W _ _ _ _ _ _
        refine w_ix true true (fun _ _ => rfl) (.inr rfl) (nm 4 (w_binG (w_binG (w_binG (nm 5 (nm 6 (o_add (w_int (o_sub (w_callB (id := "len") true rfl T.len (by decide +kernel) (a1 (nm 4 (c_lenL (o_mod ⟨?_, x_lst (ints_atI (t := nth (rowAt ex p) ((nth st p + nth vs p - 1) % ((rowAt ex p).length : Int)).toNat) ?_ ?_) ⟨_, rfl, hlen, .val (.lst (lI (rowAt ex p))), .val (.int (nth st p)), .val (.int (nth vs p)), ?_⟩⟩))))))))))))))
        · rw [lI_len]; omega
        · rw [lI_len]; exact m0
        · rw [lI_len]; exact nth_get (by omega)
        · rw [fin _ (by unfold lastD; rw [if_pos h])]; rfl
      · rw [decide_eq_false h]
        show W _ _ _ _ _ _
        refine w_non ⟨_, rfl, hlen, .val (.lst (lI (rowAt ex p))), .val (.int (nth st p)), .val (.int (nth vs p)), ?_⟩
        rw [fin _ (by unfold lastD; rw [if_neg h])]; rfl
    · obtain ⟨s4, s5, s6, rfl⟩ := hI
      rw [lI_zip3 hst hvs, List.length_map, List.length_range]
      exact ⟨s4, s5, s6, rfl⟩
    · obtain ⟨s4, s5, s6, rfl⟩ := hI
      exact ss_one (s_ret (nmS 3 q))
end
end K37

namespace K37
open PySem PySem.Spec PyProof.Rows L2 DD
section
variable {P : Program} {w : World} {K : PySem.W.Frag} {mg : Str → Option Value} {base : Heap} {f C : Addr} {fd : FuncData} {k : Nat}
/-! ### numbers among any values -/
structure PlR (d : D) : Prop where
  p : Pl d
  i : ∀ xs, its d = some xs → xs.length ≤ 40000 ∧ ∀ x ∈ xs, Pl x
def unI : D → Int
  | .int i => i
  | _ => 0
def areN (d : D) (n : Int) : Bool := match its d with
  | some xs => decide ((xs.length : Int) = n) && xs.all isN
  | none => false
theorem isN_ints : ∀ xs : List D, xs.all isN = true → xs = lI (xs.map unI) ∧ ∀ i ∈ xs.map unI, 0 ≤ i ∧ i < 10 ^ 30
  | [], _ => ⟨rfl, fun i h => absurd h (by simp)⟩
  | x :: xs, h => by
    have h := Bool.and_eq_true_iff.mp (show (isN x && xs.all isN) = true from h)
    obtain ⟨a, b⟩ := isN_ints xs h.2
    obtain ⟨i, rfl⟩ : ∃ i, x = .int i := by
      have := h.1
      cases x <;> first | exact ⟨_, rfl⟩ | cases this
    have hi := Bool.and_eq_true_iff.mp (show (decide (0 ≤ i) && decide (i < 10 ^ 30)) = true from h.1)
    refine ⟨?_, fun j hj => ?_⟩
    · show D.int i :: xs = D.int i :: lI (xs.map unI)
      rw [← a]
    · rcases List.mem_cons.mp hj with rfl | hj
      · exact ⟨of_decide_eq_true hi.1, of_decide_eq_true hi.2⟩
      · exact b j hj
theorem areN_of {d : D} {n : Nat} (h : areN d n = true) : ∃ l, rowI d l ∧ Nums n l := by
  unfold areN at h
  cases e : its d with
  | none => rw [e] at h; cases h
  | some xs =>
    rw [e] at h
    have h := Bool.and_eq_true_iff.mp (show (decide ((xs.length : Int) = n) && xs.all isN) = true from h)
    obtain ⟨a, b⟩ := isN_ints xs h.2
    have hl := of_decide_eq_true h.1
    refine ⟨xs.map unI, ?_, ⟨by rw [List.length_map]; omega, b⟩⟩
    rw [a] at e
    cases d <;> first | (cases e; done) | skip
    · left; cases e; rw [← a]
    · right; cases e; rw [← a]
def cAreG : List D → (D → Prop) → Prop := fun ds Z => ∃ d n, ds = [d, .int (n : Int)] ∧ PlR d ∧ Z (.bl (areN d n))
theorem ok_are_numbersG (T : Blt mg) (Fr : Df P w K mg base k "is_row" ["value"] (spD (c1 isRow))) (Fn : Df P w K mg base k "is_number" ["value"] (spD (c1 isN))) (F : Fun K "are_numbers" "are_numbers" s_are_numbers f fd) : FnOk P w K mg base CX0 (k + 1) f fd ["value", "many"] (spD cAreG) := by
  refine fnD F c_are_numbers (fun ds Z h => ?_) (fun cdv A outer s H E ds Z hr h => ?_)
  · obtain ⟨d, n, rfl, _⟩ := h
    rfl
  · obtain ⟨d, n, rfl, ⟨hp, hit⟩, q⟩ := h
    refine ss_one (s_ret (w_and (call Fr hr (a1 (nm 0 ⟨_, rfl, hp, _, rfl, ?_⟩)))))
    cases e : its d with
    | none =>
      have hr0 : isRow d = false := by cases d <;> first | rfl | cases e
      have hq : areN d n = false := by unfold areN; rw [e]
      rw [hq] at q
      rw [hr0]
      exact q
    | some xs =>
      obtain ⟨hl, hx⟩ := hit xs e
      have hd2 : d = .lst xs ∨ d = .tup xs := by cases d <;> cases e <;> first | exact .inl rfl | exact .inr rfl
      have hr1 : isRow d = true := by rcases hd2 with rfl | rfl <;> rfl
      have hq : areN d n = (decide ((xs.length : Int) = n) && xs.all isN) := by unfold areN; rw [e]
      rw [hq] at q
      rw [hr1]
      show W _ _ _ _ _ _
      refine w_and (w_cmpG (w_callB (id := "len") true rfl T.len (by decide +kernel) (a1 (nm 0 (c_len hd2 (nm 1 (o_eq ⟨_, rfl, ?_⟩)))))))
      by_cases z : (xs.length : Int) = n
      · rw [decide_eq_true z] at q ⊢
        show W _ _ _ _ _ _
        refine w_one (w_callB true rfl T.all (by decide +kernel) (a1 (lc1 2 (fun x => .bl (isN x)) c_are_numbers (wi_row hd2 (fun Q h => nm 0 h) ⟨hl, fun x hx2 _ _ _ _ _ => ?_, c_allD rfl q⟩))))
        exact call Fn hr (a1 (nm 2 ⟨_, rfl, hx x hx2, rfl⟩))
      · rw [decide_eq_false z] at q ⊢
        exact q
end
end K37

namespace K37
open PySem PySem.Spec PyProof.Rows L2 DD
section
variable {P : Program} {w : World} {K : PySem.W.Frag} {mg : Str → Option Value} {base : Heap} {f C : Addr} {fd : FuncData} {k : Nat}
/-! ### flows among any values -/
def valI (d : D) : List Int := (itsD d).map unI
theorem valI_of {d : D} {l : List Int} (h : rowI d l) : valI d = l := by
  unfold valI
  rw [h.itsE]
  unfold lI
  rw [List.map_map, show (unI ∘ D.int) = id from rfl, List.map_id]
def isFlow (d : D) (ex : List (List Int)) (st ss : List Int) : Bool := areN d ex.length && decide (arrV ex st (valI d) ss = valI d)
def cFlow (C : Addr) : List D → (D → Prop) → Prop := fun ds Z => ∃ e ex d st ss u, ds = [netD C e ex, d, .lst (lI ss), u] ∧ rowI d st ∧ Valid e ex ∧ ValidS ex st ∧ Nums ex.length ss ∧ PlR u ∧ Z (.bl (isFlow u ex st ss))
theorem ok_is_flow {j : Nat} (T : Blt mg) (N : NetP P w K mg base C j) (hj : j + 1 ≤ k) (Ft : Df P w K mg base k "check_trains" ["net", "setting", "starts"] (spD (cTr C))) (Fa : Df P w K mg base k "are_numbers" ["value", "many"] (spD cAreG))
    (Fd : Df P w K mg base k "deals_of" ["rows", "setting"] (spD cDeals)) (Fr : Df P w K mg base k "arrivals" ["deals", "starts", "visits"] (spD cArr))
    (F : Fun K "is_flow" "is_flow" s_is_flow f fd) : FnOk P w K mg base CX0 (k + 1) f fd ["net", "setting", "starts", "value"] (spD (cFlow C)) := by
  refine fnD F c_is_flow (fun ds Z h => ?_) (fun cdv A outer s H E ds Z hr h => ?_)
  · obtain ⟨e, ex, d, st, ss, u, rfl, _⟩ := h
    rfl
  · obtain ⟨e, ex, d, st, ss, u, rfl, hd, v, hst, hss, hu, q⟩ := h
    refine ss_cons (s_expr (call Ft hr (aG (nm 0 (aG (nm 1 (a1 (nm 2 ⟨e, ex, d, st, _, ss, rfl, hd, .inl rfl, v, hst, hss, ?_⟩))))))))
    show WSs _ _ _ _
    refine ss_cons (s_if (t_not (t_val (call Fa hr (aG (nm 3 (a1 (w_points N (hr.mono hj) (nm 0 ⟨e, ex, rfl, v, u, _, rfl, hu, _, rfl, ?_⟩))))))))) 
    cases ha : areN u ex.length with
    | false =>
      have hq : isFlow u ex st ss = false := by unfold isFlow; rw [ha]; rfl
      rw [hq] at q
      show WSs _ _ _ _
      exact ss_one (s_ret (w_bl q))
    | true =>
      obtain ⟨l, hl, hn⟩ := areN_of ha
      have hq : isFlow u ex st ss = decide (arrV ex st l ss = l) := by unfold isFlow; rw [ha, valI_of hl]; rfl
      rw [hq] at q
      have fin : PyData.eqv (.list ((arrV ex st l ss).map PyData.int)) (.list (l.map PyData.int)) = decide (arrV ex st l ss = l) := eqv_ints _ _
      show WSs _ [] _ _
      refine ss_nil ?_
      show WSs _ _ _ _
      refine ss_one (s_ret (w_cmpG (call Fr hr (aG (call Fd hr (aG (w_exits N (hr.mono (by omega)) (nm 0 ⟨e, ex, rfl, v, a1 (nm 1 ⟨e, ex, d, st, rfl, hd, v, hst, aG (nm 2 (a1 (nm 3 ⟨e, ex, st, ss, u, l, rfl, hl, v, hn, hss.len, w_callTy (T := "list") true rfl T.list (by decide +kernel) (a1 (nm 3 ?_))⟩)))⟩)⟩))))))))
      have last : Op2 true (CxD P w K mg base N_is_flow "is_flow" s_is_flow f cdv A outer s H E) (compareOp .Eq) (.lst (lI (arrV ex st l ss))) (.lst (lI l)) Z := o_eqD hr.units (py_lI _) (py_lI _) (shaped_ints _) (shaped_ints _) (by rw [fin]; exact q)
      rcases hl with rfl | rfl
      · exact c_list last
      · exact c_listT last
end
end K37

namespace K37
open PySem PySem.Spec PyProof.Rows L2 DD
theorem nth_set (l : List Int) (j i : Nat) (x : Int) : nth (l.set j x) i = if j = i ∧ j < l.length then x else nth l i := by
  unfold nth
  rw [List.getD_eq_getElem?_getD, List.getD_eq_getElem?_getD, List.getElem?_set]
  by_cases h : j = i
  · subst h
    by_cases h2 : j < l.length
    · rw [if_pos rfl, if_pos h2, if_pos ⟨rfl, h2⟩]; rfl
    · rw [if_pos rfl, if_neg h2, if_neg (fun z => h2 z.2), List.getElem?_eq_none (by omega)]
  · rw [if_neg h, if_neg (fun z => h z.1)]
/-! ### what comes, row by row -/
def pr (ex g : List (List Int)) (p : Nat) : List (Int × Int) := (rowAt ex p).zip (rowAt g p)
def upTo (ex g : List (List Int)) (p : Nat) : List (Int × Int) := ((List.range p).map (pr ex g)).flatten
theorem upTo_succ (ex g : List (List Int)) (p : Nat) : upTo ex g (p + 1) = upTo ex g p ++ pr ex g p := by
  unfold upTo
  rw [List.range_succ, List.map_append, List.flatten_append]
  simp
theorem zipFl : ∀ (a b : List (List Int)), a.map List.length = b.map List.length → ((a.zip b).map fun q => q.1.zip q.2).flatten = a.flatten.zip b.flatten
  | [], [], _ => rfl
  | [], _ :: _, h => by cases h
  | _ :: _, [], h => by cases h
  | x :: a, y :: b, h => by
    injection h with h1 h2
    rw [List.zip_cons_cons, List.map_cons, List.flatten_cons, List.flatten_cons, List.flatten_cons, List.zip_append h1, zipFl a b h2]
theorem gon_lens (ex : List (List Int)) (st vs : List Int) : ex.map List.length = (gon ex st vs).map List.length := by
  apply List.ext_getElem?
  intro i
  rw [List.getElem?_map, List.getElem?_map]
  by_cases hi : i < ex.length
  · have a := rowAt_get hi
    have b : (gon ex st vs)[i]? = some (rowAt (gon ex st vs) i) := rowAt_get (by rw [gon_len]; exact hi)
    rw [a, b, gon_at hi]
    show some _ = some _
    rw [cntR_len]
  · rw [List.getElem?_eq_none (by omega), List.getElem?_eq_none (by rw [gon_len]; omega)]
theorem upTo_all (ex : List (List Int)) (st vs : List Int) : upTo ex (gon ex st vs) ex.length = trk ex st vs := by
  unfold trk upTo
  rw [← zipFl _ _ (gon_lens ex st vs)]
  congr 1
  apply List.ext_getElem?
  intro i
  by_cases hi : i < ex.length
  · rw [List.getElem?_map, List.getElem?_range hi, List.getElem?_map, show (ex.zip (gon ex st vs))[i]? = some (rowAt ex i, rowAt (gon ex st vs) i) from List.getElem?_zip_eq_some.mpr ⟨rowAt_get hi, rowAt_get (by rw [gon_len]; exact hi)⟩]; rfl
  · rw [List.getElem?_eq_none (by rw [List.length_map, List.length_range]; omega), List.getElem?_eq_none (by rw [List.length_map, List.length_zip]; omega)]
theorem zipR_eq {ex g : List (List Int)} (h : g.length = ex.length) : ((rowsL ex).zip (rowsL g)).map (fun q => D.tup [q.1, q.2]) = (List.range ex.length).map fun p => D.tup [.lst (lI (rowAt ex p)), .lst (lI (rowAt g p))] := by
  apply List.ext_getElem?
  intro i
  by_cases hi : i < ex.length
  · have a : (rowsL ex)[i]? = some (.lst (lI (rowAt ex i))) := by unfold rowsL; rw [List.getElem?_map, rowAt_get hi]; rfl
    have b : (rowsL g)[i]? = some (.lst (lI (rowAt g i))) := by unfold rowsL; rw [List.getElem?_map, rowAt_get (by omega)]; rfl
    rw [List.getElem?_map, List.getElem?_map, List.getElem?_range hi, show ((rowsL ex).zip (rowsL g))[i]? = some (.lst (lI (rowAt ex i)), .lst (lI (rowAt g i))) from List.getElem?_zip_eq_some.mpr ⟨a, b⟩]; rfl
  · rw [List.getElem?_eq_none (by rw [List.length_map, List.length_zip, rowsL_len, rowsL_len]; omega), List.getElem?_eq_none (by rw [List.length_map, List.length_range]; omega)]
theorem zipI_eq (a b : List Int) : ((lI a).zip (lI b)).map (fun q => D.tup [q.1, q.2]) = (a.zip b).map fun q => D.tup [.int q.1, .int q.2] := by
  unfold lI
  rw [List.zip_map, List.map_map]; rfl
theorem cntR_nth {row : List Int} {s t : Int} {j : Nat} (h : j < row.length) : nth (cntR row s t) j = cnt row.length s t j := by
  unfold nth cntR
  rw [List.getD_eq_getElem?_getD, List.getElem?_map, List.getElem?_range h]; rfl
/-! ### the flow without a ring of last exits is the least one -/
def sumN (f : Nat → Int) : Nat → Int
  | 0 => 0
  | n + 1 => sumN f n + f n
theorem sumN_add (f g : Nat → Int) : ∀ n, sumN (fun i => f i + g i) n = sumN f n + sumN g n
  | 0 => rfl
  | n + 1 => by
    show sumN (fun i => f i + g i) n + (f n + g n) = sumN f n + f n + (sumN g n + g n)
    rw [sumN_add f g n]; omega
theorem sumN_congr {f g : Nat → Int} : ∀ n, (∀ i, i < n → f i = g i) → sumN f n = sumN g n
  | 0, _ => rfl
  | n + 1, h => by
    show sumN f n + f n = sumN g n + g n
    rw [sumN_congr n fun i hi => h i (by omega), h n (by omega)]
theorem sumN_le {f g : Nat → Int} : ∀ n, (∀ i, i < n → f i ≤ g i) → sumN f n ≤ sumN g n
  | 0, _ => Int.le_refl _
  | n + 1, h => by
    have a := sumN_le n fun i hi => h i (by omega)
    have b := h n (by omega)
    show sumN f n + f n ≤ sumN g n + g n
    omega
theorem sumN_zero : ∀ n, sumN (fun _ => 0) n = 0
  | 0 => rfl
  | n + 1 => by
    show sumN (fun _ => 0) n + 0 = 0
    rw [sumN_zero n]; rfl
theorem sumN_sub (f g : Nat → Int) : ∀ n, sumN (fun i => f i - g i) n = sumN f n - sumN g n
  | 0 => rfl
  | n + 1 => by
    show sumN (fun i => f i - g i) n + (f n - g n) = sumN f n + f n - (sumN g n + g n)
    rw [sumN_sub f g n]; omega
theorem sumN_nn {f : Nat → Int} {n : Nat} (h : ∀ i, i < n → 0 ≤ f i) : 0 ≤ sumN f n := by
  have := sumN_le (f := fun _ => 0) n h
  rw [sumN_zero] at this
  exact this
theorem sumN_each {f : Nat → Int} : ∀ n, (∀ i, i < n → 0 ≤ f i) → sumN f n ≤ 0 → ∀ i, i < n → f i = 0
  | 0, _, _, i, hi => by omega
  | n + 1, h, hs, i, hi => by
    have hs : sumN f n + f n ≤ 0 := hs
    have a := sumN_nn (f := f) (n := n) fun i hi => h i (by omega)
    have b := h n (by omega)
    by_cases q : i = n
    · subst q; omega
    · exact sumN_each n (fun i hi => h i (by omega)) (by omega) i (by omega)
theorem sumN_comm (f : Nat → Nat → Int) (m : Nat) : ∀ n, sumN (fun i => sumN (fun j => f i j) m) n = sumN (fun j => sumN (fun i => f i j) n) m
  | 0 => by
    show 0 = sumN (fun _ => 0) m
    rw [sumN_zero]
  | n + 1 => by
    show sumN (fun i => sumN (fun j => f i j) m) n + sumN (fun j => f n j) m = sumN (fun j => sumN (fun i => f i j) n + f n j) m
    rw [sumN_comm f m n, sumN_add]
/-- the one number that is told -/
theorem sumN_one {k : Int} {x : Int} {P : Nat → Prop} [DecidablePred P] : ∀ n, sumN (fun q => if P q then (if k = (q : Int) then x else 0) else 0) n = if 0 ≤ k ∧ k < n ∧ P k.toNat then x else 0
  | 0 => by rw [if_neg (by omega)]; rfl
  | n + 1 => by
    show sumN (fun q => if P q then (if k = (q : Int) then x else 0) else 0) n + (if P n then (if k = (n : Int) then x else 0) else 0) = _
    rw [sumN_one n]
    by_cases q : k = (n : Int)
    · subst q
      rw [if_neg (fun z => by omega), Int.zero_add, if_pos rfl, Int.toNat_natCast]
      by_cases p : P n
      · rw [if_pos p, if_pos ⟨by omega, by omega, p⟩]
      · rw [if_neg p, if_neg (fun z => p z.2.2)]
    · rw [if_neg q, ite_self, Int.add_zero]
      by_cases p : 0 ≤ k ∧ k < (n : Int) ∧ P k.toNat
      · rw [if_pos p, if_pos ⟨p.1, by omega, p.2.2⟩]
      · rw [if_neg p, if_neg (fun z => p ⟨z.1, by omega, z.2.2⟩)]
theorem cnt_up {d s t u e : Int} (hd : 0 < d) (h : t ≤ u) : cnt d s t e ≤ cnt d s u e := by
  unfold cnt
  exact Int.ediv_le_ediv hd (by omega)
theorem cnt_sum {d : Nat} {s : Int} (hd : 0 < d) : ∀ t : Nat, sumN (fun e => cnt d s t e) d = t
  | 0 => by
    rw [sumN_congr (f := fun e : Nat => cnt (d : Int) s ((0 : Nat) : Int) e) (g := fun _ => 0) d fun e _ => cnt_zero (by omega), sumN_zero]; rfl
  | t + 1 => by
    have m0 := Int.emod_nonneg (s + t) (show (d : Int) ≠ 0 by omega)
    have m1 := Int.emod_lt_of_pos (s + t) (show (0 : Int) < d by omega)
    rw [sumN_congr (g := fun e => cnt d s t e + (if (s + t) % d = e then 1 else 0)) d fun e he => by
      have := cnt_succ (d := d) (s := s) (t := t) (e := e) (by omega) (by omega) (by omega)
      rw [← this]; congr 1, sumN_add, cnt_sum hd t]
    have := sumN_one (k := (s + t) % d) (x := 1) (P := fun _ => True) d
    rw [if_pos ⟨m0, m1, trivial⟩] at this
    rw [sumN_congr (g := fun q => if True then (if (s + (t : Int)) % d = (q : Int) then 1 else 0) else 0) d fun q _ => (if_pos trivial).symm, this]
    omega
/-- a net by its numbers: how many exits, where they lead, the next ones, how many begin -/
structure Nt where
  n : Nat
  d : Nat → Nat
  tg : Nat → Nat → Int
  s : Nat → Int
  b : Nat → Int
  hd : ∀ p, p < n → 0 < d p
/-- how often trains come from p to q by these visits -/
def Nt.go (N : Nt) (v : Nat → Int) (p q : Nat) : Int := sumN (fun e => if N.tg p e = (q : Int) then cnt (N.d p) (N.s p) (v p) e else 0) (N.d p)
structure Nt.Flow (N : Nt) (v : Nat → Int) : Prop where
  nn : ∀ p, p < N.n → 0 ≤ v p
  eq : ∀ q, q < N.n → v q = N.b q + sumN (fun p => N.go v p q) N.n
/-- the last exit of a point that was visited -/
def Nt.last (N : Nt) (v : Nat → Int) (p : Nat) : Nat := ((N.s p + (v p - 1)) % (N.d p : Int)).toNat
/-- last exits of visited points make no ring: there is a rank that falls along them -/
def Nt.NoRing (N : Nt) (v : Nat → Int) : Prop := ∃ rk : Nat → Nat, ∀ p, p < N.n → 0 < v p → ∀ q : Nat, q < N.n → 0 < v q → N.tg p (N.last v p) = (q : Int) → rk q < rk p
theorem Nt.least (N : Nt) {v u : Nat → Int} (hv : N.Flow v) (hu : N.Flow u) (hr : N.NoRing v) : ∀ p, p < N.n → v p ≤ u p := by
  let D : Nat → Nat → Int := fun p e => cnt (N.d p) (N.s p) (v p) e - cnt (N.d p) (N.s p) (u p) e
  let A : Nat → Prop := fun p => u p < v p
  have dA : ∀ p, p < N.n → A p → ∀ e, 0 ≤ D p e := fun p hp h e => by
    have := cnt_up (d := N.d p) (s := N.s p) (e := e) (by have := N.hd p hp; omega) (show u p ≤ v p from Int.le_of_lt h)
    show 0 ≤ cnt _ _ _ _ - cnt _ _ _ _
    omega
  have dN : ∀ p, p < N.n → ¬ A p → ∀ e, D p e ≤ 0 := fun p hp h e => by
    have h : ¬ u p < v p := h
    have := cnt_up (d := N.d p) (s := N.s p) (e := e) (by have := N.hd p hp; omega) (show v p ≤ u p by omega)
    show cnt _ _ _ _ - cnt _ _ _ _ ≤ 0
    omega
  have dS : ∀ p, p < N.n → sumN (D p) (N.d p) = v p - u p := fun p hp => by
    have a := cnt_sum (s := N.s p) (N.hd p hp) (v p).toNat
    have b := cnt_sum (s := N.s p) (N.hd p hp) (u p).toNat
    rw [Int.toNat_of_nonneg (hv.nn p hp)] at a
    rw [Int.toNat_of_nonneg (hu.nn p hp)] at b
    show sumN (fun e => cnt _ _ _ _ - cnt _ _ _ _) _ = _
    rw [sumN_sub, a, b]
  -- into A
  have key : sumN (fun q => if A q then v q - u q else 0) N.n = sumN (fun p => sumN (fun e => if 0 ≤ N.tg p e ∧ N.tg p e < (N.n : Int) ∧ A (N.tg p e).toNat then D p e else 0) (N.d p)) N.n := by
    have e1 : ∀ q, q < N.n → (if A q then v q - u q else 0) = sumN (fun p => sumN (fun e => if A q then (if N.tg p e = (q : Int) then D p e else 0) else 0) (N.d p)) N.n := fun q hq => by
      by_cases h : A q
      · have e0 : v q - u q = sumN (fun p => N.go v p q) N.n - sumN (fun p => N.go u p q) N.n := by
          have := hv.eq q hq
          have := hu.eq q hq
          omega
        rw [if_pos h, e0, ← sumN_sub]
        refine sumN_congr _ fun p _ => ?_
        show sumN _ _ - sumN _ _ = _
        rw [← sumN_sub]
        refine sumN_congr _ fun e _ => ?_
        show (if N.tg p e = (q : Int) then _ else 0) - (if N.tg p e = (q : Int) then _ else 0) = _
        rw [if_pos h]
        by_cases z : N.tg p e = (q : Int)
        · rw [if_pos z, if_pos z, if_pos z]
        · rw [if_neg z, if_neg z, if_neg z]; rfl
      · rw [if_neg h]
        symm
        rw [sumN_congr (g := fun _ => 0) N.n fun p _ => by
          rw [sumN_congr (g := fun _ => 0) (N.d p) fun e _ => if_neg h, sumN_zero], sumN_zero]
    rw [sumN_congr N.n e1, sumN_comm]
    refine sumN_congr _ fun p _ => ?_
    rw [sumN_comm]
    refine sumN_congr _ fun e _ => ?_
    exact sumN_one N.n
  -- out of A nothing more goes
  let O : Nat → Nat → Int := fun p e => if 0 ≤ N.tg p e ∧ N.tg p e < (N.n : Int) ∧ A (N.tg p e).toNat then 0 else D p e
  have up : ∀ p, p < N.n → sumN (fun e => if 0 ≤ N.tg p e ∧ N.tg p e < (N.n : Int) ∧ A (N.tg p e).toNat then D p e else 0) (N.d p) ≤ (if A p then v p - u p else 0) - (if A p then sumN (O p) (N.d p) else 0) := fun p hp => by
    by_cases h : A p
    · rw [if_pos h, if_pos h, ← dS p hp, ← sumN_sub]
      refine sumN_le _ fun e _ => ?_
      show _ ≤ D p e - (if _ then 0 else D p e)
      split <;> omega
    · rw [if_neg h, if_neg h]
      have := sumN_le (f := fun e => if 0 ≤ N.tg p e ∧ N.tg p e < (N.n : Int) ∧ A (N.tg p e).toNat then D p e else 0) (g := fun _ => 0) (N.d p) fun e _ => by
        have := dN p hp h e
        show (if _ then D p e else 0) ≤ 0
        split <;> omega
      rw [sumN_zero] at this
      omega
  have tot := sumN_le N.n up
  rw [← key, sumN_sub] at tot
  have z1 : sumN (fun p => if A p then sumN (O p) (N.d p) else 0) N.n ≤ 0 := by omega
  have oN : ∀ p, p < N.n → A p → ∀ e, 0 ≤ O p e := fun p hp h e => by
    have := dA p hp h e
    show 0 ≤ (if _ then 0 else D p e)
    split <;> omega
  have z2 := sumN_each N.n (f := fun p => if A p then sumN (O p) (N.d p) else 0) (fun p hp => by
    show 0 ≤ (if A p then sumN (O p) (N.d p) else 0)
    by_cases h : A p
    · rw [if_pos h]; exact sumN_nn fun e _ => oN p hp h e
    · rw [if_neg h]; exact Int.le_refl _) z1
  have z3 : ∀ p, p < N.n → A p → ∀ e, e < N.d p → O p e = 0 := fun p hp h e he => by
    have := z2 p hp
    rw [if_pos h] at this
    exact sumN_each (N.d p) (fun e _ => oN p hp h e) (by rw [this]; exact Int.le_refl _) e he
  -- last exits lead on in A
  have on : ∀ p, p < N.n → A p → ∃ q : Nat, q < N.n ∧ A q ∧ N.tg p (N.last v p) = (q : Int) := fun p hp h => by
    have h' : u p < v p := h
    have h0 := hu.nn p hp
    have hd := N.hd p hp
    have m0 := Int.emod_nonneg (N.s p + (v p - 1)) (show (N.d p : Int) ≠ 0 by omega)
    have m1 := Int.emod_lt_of_pos (N.s p + (v p - 1)) (show (0 : Int) < N.d p by omega)
    have hl : ((N.last v p : Nat) : Int) = (N.s p + (v p - 1)) % (N.d p : Int) := Int.toNat_of_nonneg m0
    have c1 := cnt_succ (d := N.d p) (s := N.s p) (t := v p - 1) (e := ((N.last v p : Nat) : Int)) (by omega) (by omega) (by omega)
    rw [if_pos hl.symm, show v p - 1 + 1 = v p by omega] at c1
    have c2 := cnt_up (d := N.d p) (s := N.s p) (e := ((N.last v p : Nat) : Int)) (by omega) (show u p ≤ v p - 1 by omega)
    have hD : 0 < D p (N.last v p) := by
      show 0 < cnt _ _ _ _ - cnt _ _ _ _
      omega
    have hO := z3 p hp h (N.last v p) (by omega)
    have hO : (if 0 ≤ N.tg p (N.last v p) ∧ N.tg p (N.last v p) < (N.n : Int) ∧ A (N.tg p (N.last v p)).toNat then 0 else D p (N.last v p)) = 0 := hO
    by_cases z : 0 ≤ N.tg p (N.last v p) ∧ N.tg p (N.last v p) < (N.n : Int) ∧ A (N.tg p (N.last v p)).toNat
    · exact ⟨(N.tg p (N.last v p)).toNat, by omega, z.2.2, (Int.toNat_of_nonneg z.1).symm⟩
    · rw [if_neg z] at hO; omega
  obtain ⟨rk, hrk⟩ := hr
  have no : ∀ r p, p < N.n → A p → rk p = r → False := fun r => by
    induction r using Nat.strongRecOn with
    | _ r ih =>
      intro p hp h e
      obtain ⟨q, hq, hA, ht⟩ := on p hp h
      have h' : u p < v p := h
      have hA' : u q < v q := hA
      have a := hu.nn p hp
      have b := hu.nn q hq
      have := hrk p hp (by omega) q hq (by omega) ht
      exact ih (rk q) (by omega) q hq hA rfl
  intro p hp
  by_cases h : u p < v p
  · exact (no _ p hp h rfl).elim
  · omega
theorem Nt.uniq (N : Nt) {v u : Nat → Int} (hv : N.Flow v) (hu : N.Flow u) (rv : N.NoRing v) (ru : N.NoRing u) : ∀ p, p < N.n → v p = u p := fun p hp => by
  have a := N.least hv hu rv p hp
  have b := N.least hu hv ru p hp
  omega
/-! ### trains moved in any sequence -/
structure Cr where
  w : Nat → Int
  v : Nat → Int
  lt : Nat → Nat
  t : Nat
def upN {α : Type} (f : Nat → α) (p : Nat) (x : α) : Nat → α := fun i => if i = p then x else f i
theorem upN_self {α : Type} {f : Nat → α} {p : Nat} {x : α} : upN f p x p = x := if_pos rfl
theorem upN_ne {α : Type} {f : Nat → α} {p i : Nat} {x : α} (h : i ≠ p) : upN f p x i = f i := if_neg h
/-- where the next train from p goes -/
def Nt.to (N : Nt) (v : Nat → Int) (p : Nat) : Int := N.tg p ((N.s p + v p) % (N.d p : Int)).toNat
/-- one train moved from p -/
def Nt.mv (N : Nt) (c : Cr) (p : Nat) : Cr where
  w := fun q => c.w q - (if q = p then 1 else 0) + (if N.to c.v p = (q : Int) then 1 else 0)
  v := upN c.v p (c.v p + 1)
  lt := upN c.lt p (c.t + 1)
  t := c.t + 1
def Nt.new (N : Nt) : Cr := ⟨N.b, fun _ => 0, fun _ => 0, 0⟩
/-- a sequence of points that can be moved, one behind the other -/
def Nt.Can (N : Nt) : Cr → List Nat → Prop
  | _, [] => True
  | c, p :: ps => (p < N.n ∧ 0 < c.w p) ∧ N.Can (N.mv c p) ps
structure Nt.Inv (N : Nt) (c : Cr) : Prop where
  w0 : ∀ q, q < N.n → 0 ≤ c.w q
  v0 : ∀ q, q < N.n → 0 ≤ c.v q
  eq : ∀ q, q < N.n → c.w q = N.b q + sumN (fun p => N.go c.v p q) N.n - c.v q
  lt : ∀ q, q < N.n → c.lt q ≤ c.t
  on : ∀ p, p < N.n → 0 < c.v p → ∀ q : Nat, q < N.n → N.tg p (N.last c.v p) = (q : Int) → c.lt p < c.lt q ∨ 0 < c.w q
theorem Nt.inv_new (N : Nt) (hb : ∀ p, p < N.n → 0 ≤ N.b p) : N.Inv N.new := by
  refine ⟨hb, fun _ _ => Int.le_refl _, fun q hq => ?_, fun _ _ => Nat.le_refl _, fun p _ h => absurd (show (0 : Int) < 0 from h) (by omega)⟩
  show N.b q = N.b q + sumN (fun p => N.go (fun _ => 0) p q) N.n - 0
  rw [sumN_congr (g := fun _ => 0) N.n fun p hp => by
    show sumN _ _ = 0
    have hd := N.hd p hp
    rw [sumN_congr (g := fun _ => 0) (N.d p) fun e _ => (by
      show (if N.tg p e = (q : Int) then cnt (N.d p) (N.s p) 0 e else 0) = 0
      rw [cnt_zero (by omega)]
      exact ite_self _), sumN_zero]]
  rw [sumN_zero]; omega
theorem sumN_at {f g : Nat → Int} {k : Nat} {x : Int} : ∀ n, k < n → (∀ i, i < n → i ≠ k → f i = g i) → f k = g k + x → sumN f n = sumN g n + x
  | 0, h, _, _ => by omega
  | n + 1, h, h1, h2 => by
    show sumN f n + f n = sumN g n + g n + x
    by_cases q : k = n
    · subst q
      rw [sumN_congr k fun i hi => h1 i (by omega) (by omega), h2]; omega
    · rw [sumN_at n (by omega) (fun i hi => h1 i (by omega)) h2, h1 n (by omega) (fun z => q z.symm)]; omega
theorem Nt.inv_mv (N : Nt) {c : Cr} {p : Nat} (I : N.Inv c) (hp : p < N.n) (hw : 0 < c.w p) : N.Inv (N.mv c p) := by
  have hd := N.hd p hp
  have m0 := Int.emod_nonneg (N.s p + c.v p) (show (N.d p : Int) ≠ 0 by omega)
  have m1 := Int.emod_lt_of_pos (N.s p + c.v p) (show (0 : Int) < N.d p by omega)
  have el : N.last (upN c.v p (c.v p + 1)) p = ((N.s p + c.v p) % (N.d p : Int)).toNat := by
    unfold Nt.last
    rw [upN_self, show c.v p + 1 - 1 = c.v p by omega]
  refine ⟨fun q hq => ?_, fun q hq => ?_, fun q hq => ?_, fun q hq => ?_, fun p' hp' hv q hq ht => ?_⟩
  · show 0 ≤ c.w q - (if q = p then 1 else 0) + (if N.to c.v p = (q : Int) then 1 else 0)
    have := I.w0 q hq
    by_cases e : q = p
    · subst e
      rw [if_pos rfl]
      split <;> omega
    · rw [if_neg e]
      split <;> omega
  · show 0 ≤ upN c.v p (c.v p + 1) q
    have := I.v0 q hq
    by_cases e : q = p
    · subst e
      rw [upN_self]; omega
    · rw [upN_ne e]; exact this
  · show c.w q - (if q = p then 1 else 0) + (if N.to c.v p = (q : Int) then 1 else 0) = N.b q + sumN (fun p' => N.go (upN c.v p (c.v p + 1)) p' q) N.n - upN c.v p (c.v p + 1) q
    have hs := sumN_at (f := fun p' => N.go (upN c.v p (c.v p + 1)) p' q) (g := fun p' => N.go c.v p' q) (k := p) (x := if N.to c.v p = (q : Int) then 1 else 0) N.n hp (fun i _ hi => by
      show sumN _ _ = sumN _ _
      refine sumN_congr _ fun e _ => ?_
      rw [upN_ne hi]) (by
      show sumN (fun e => if N.tg p e = (q : Int) then cnt (N.d p) (N.s p) (upN c.v p (c.v p + 1) p) e else 0) (N.d p) = sumN (fun e => if N.tg p e = (q : Int) then cnt (N.d p) (N.s p) (c.v p) e else 0) (N.d p) + _
      rw [upN_self]
      refine sumN_at (k := ((N.s p + c.v p) % (N.d p : Int)).toNat) (N.d p) (by omega) (fun e he hne => ?_) ?_
      · have c1 := cnt_succ (d := (N.d p : Int)) (s := N.s p) (t := c.v p) (e := (e : Int)) (by omega) (by omega) (by omega)
        rw [if_neg (show ¬ (N.s p + c.v p) % (N.d p : Int) = (e : Int) from fun z => hne (by omega)), Int.add_zero] at c1
        rw [c1]
      · have c1 := cnt_succ (d := (N.d p : Int)) (s := N.s p) (t := c.v p) (e := ((((N.s p + c.v p) % (N.d p : Int)).toNat : Nat) : Int)) (by omega) (by omega) (by omega)
        rw [if_pos (show (N.s p + c.v p) % (N.d p : Int) = ((((N.s p + c.v p) % (N.d p : Int)).toNat : Nat) : Int) by omega)] at c1
        rw [c1]
        show (if N.tg p _ = (q : Int) then _ else 0) = (if N.tg p _ = (q : Int) then _ else 0) + (if N.tg p _ = (q : Int) then 1 else 0)
        split <;> omega)
    have h1 := I.eq q hq
    by_cases e : q = p
    · subst e
      rw [if_pos rfl, upN_self, hs, h1]; omega
    · rw [if_neg e, upN_ne e, hs, h1]; omega
  · show upN c.lt p (c.t + 1) q ≤ c.t + 1
    have := I.lt q hq
    by_cases e : q = p
    · subst e
      rw [upN_self]; exact Nat.le_refl _
    · rw [upN_ne e]; omega
  · have ht : N.tg p' (N.last (upN c.v p (c.v p + 1)) p') = (q : Int) := ht
    have hv : 0 < upN c.v p (c.v p + 1) p' := hv
    show upN c.lt p (c.t + 1) p' < upN c.lt p (c.t + 1) q ∨ 0 < c.w q - (if q = p then 1 else 0) + (if N.to c.v p = (q : Int) then 1 else 0)
    have hwq := I.w0 q hq
    by_cases e : p' = p
    · subst e
      rw [el] at ht
      right
      have ht : N.to c.v p' = (q : Int) := ht
      rw [if_pos ht]
      by_cases e2 : q = p'
      · subst e2
        rw [if_pos rfl]; omega
      · rw [if_neg e2]; omega
    · have hl : N.last (upN c.v p (c.v p + 1)) p' = N.last c.v p' := by
        unfold Nt.last
        rw [upN_ne e]
      rw [hl] at ht
      rw [upN_ne e] at hv ⊢
      have hlt := I.lt p' hp'
      by_cases e2 : q = p
      · subst e2
        left
        rw [upN_self]; omega
      · rw [upN_ne e2, if_neg e2]
        rcases I.on p' hp' hv q hq ht with z | z
        · exact .inl z
        · right
          split <;> omega
theorem Nt.inv_run (N : Nt) : ∀ (ps : List Nat) (c : Cr), N.Inv c → N.Can c ps → N.Inv (ps.foldl N.mv c)
  | [], c, I, _ => I
  | p :: ps, c, I, ⟨⟨hp, hw⟩, k⟩ => Nt.inv_run N ps (N.mv c p) (N.inv_mv I hp hw) k
theorem Nt.Inv.flow {N : Nt} {c : Cr} (I : N.Inv c) (h : ∀ q, q < N.n → c.w q = 0) : N.Flow c.v ∧ N.NoRing c.v := by
  refine ⟨⟨I.v0, fun q hq => ?_⟩, fun p => c.t - c.lt p, fun p hp hv q hq _ ht => ?_⟩
  · have a := I.eq q hq
    have b := h q hq
    omega
  · have a := I.lt q hq
    have b := h q hq
    rcases I.on p hp hv q hq ht with z | z
    · show c.t - c.lt q < c.t - c.lt p
      omega
    · omega
/-- any two sequences until none waits visit alike -/
theorem Nt.abel (N : Nt) (hb : ∀ p, p < N.n → 0 ≤ N.b p) {ps qs : List Nat} (hp : N.Can N.new ps) (hq : N.Can N.new qs) (ep : ∀ q, q < N.n → (ps.foldl N.mv N.new).w q = 0) (eq : ∀ q, q < N.n → (qs.foldl N.mv N.new).w q = 0) : ∀ p, p < N.n → (ps.foldl N.mv N.new).v p = (qs.foldl N.mv N.new).v p := by
  obtain ⟨a, b⟩ := (N.inv_run ps _ (N.inv_new hb) hp).flow ep
  obtain ⟨c, d⟩ := (N.inv_run qs _ (N.inv_new hb) hq).flow eq
  exact N.uniq a c b d
/-! ### in a leading net every sequence ends -/
theorem cnt_floor {d s t e : Int} (hd : 0 < d) : t / d ≤ cnt d s t e := by
  unfold cnt
  have a1 := Int.emod_lt_of_pos (e - s) hd
  exact Int.ediv_le_ediv hd (by omega)
theorem sumN_one_le {f : Nat → Int} {k : Nat} : ∀ n, k < n → (∀ i, i < n → 0 ≤ f i) → f k ≤ sumN f n
  | 0, h, _ => by omega
  | n + 1, h, h0 => by
    show f k ≤ sumN f n + f n
    by_cases q : k = n
    · subst q
      have := sumN_nn (f := f) (n := k) fun i hi => h0 i (by omega)
      omega
    · have := sumN_one_le n (show k < n by omega) fun i hi => h0 i (by omega)
      have := h0 n (by omega)
      omega
theorem cnt_nn {d s t e : Int} (hd : 0 < d) (ht : 0 ≤ t) : 0 ≤ cnt d s t e := by
  have := cnt_up (d := d) (s := s) (e := e) hd ht
  rw [cnt_zero hd] at this
  exact this
theorem Nt.go_nn (N : Nt) {v : Nat → Int} {p q : Nat} (hp : p < N.n) (h : 0 ≤ v p) : 0 ≤ N.go v p q := sumN_nn fun e _ => by
  have := N.hd p hp
  have := cnt_nn (d := N.d p) (s := N.s p) (e := (e : Int)) (by omega) h
  split <;> omega
/-- all that wait, and all that have gone out -/
theorem Nt.Inv.all {N : Nt} {c : Cr} (I : N.Inv c) : sumN c.w N.n + sumN (fun p => sumN (fun e => if 0 ≤ N.tg p e ∧ N.tg p e < (N.n : Int) then 0 else cnt (N.d p) (N.s p) (c.v p) e) (N.d p)) N.n = sumN N.b N.n := by
  have e1 : sumN c.w N.n = sumN N.b N.n + sumN (fun q => sumN (fun p => N.go c.v p q) N.n) N.n - sumN c.v N.n := by
    rw [← sumN_add, ← sumN_sub]
    exact sumN_congr _ fun q hq => I.eq q hq
  have e2 : ∀ p, p < N.n → sumN (fun q => N.go c.v p q) N.n + sumN (fun e => if 0 ≤ N.tg p e ∧ N.tg p e < (N.n : Int) then 0 else cnt (N.d p) (N.s p) (c.v p) e) (N.d p) = c.v p := fun p hp => by
    have a : sumN (fun q => N.go c.v p q) N.n = sumN (fun e => if 0 ≤ N.tg p e ∧ N.tg p e < (N.n : Int) then cnt (N.d p) (N.s p) (c.v p) e else 0) (N.d p) := by
      show sumN (fun q => sumN (fun e => if N.tg p e = (q : Int) then cnt (N.d p) (N.s p) (c.v p) e else 0) (N.d p)) N.n = _
      rw [sumN_comm]
      refine sumN_congr _ fun e _ => ?_
      have z := sumN_one (k := N.tg p e) (x := cnt (N.d p) (N.s p) (c.v p) e) (P := fun _ => True) N.n
      rw [sumN_congr (g := fun q => if True then (if N.tg p e = (q : Int) then cnt (N.d p) (N.s p) (c.v p) e else 0) else 0) N.n fun q _ => (if_pos trivial).symm, z]
      by_cases h : 0 ≤ N.tg p e ∧ N.tg p e < (N.n : Int)
      · rw [if_pos h, if_pos ⟨h.1, h.2, trivial⟩]
      · rw [if_neg h, if_neg (fun y => h ⟨y.1, y.2.1⟩)]
    rw [a, ← sumN_add]
    have b := cnt_sum (s := N.s p) (N.hd p hp) (c.v p).toNat
    rw [Int.toNat_of_nonneg (I.v0 p hp)] at b
    refine Eq.trans ?_ b
    refine sumN_congr _ fun e _ => ?_
    split <;> omega
  have e3 : sumN (fun q => sumN (fun p => N.go c.v p q) N.n) N.n = sumN (fun p => sumN (fun q => N.go c.v p q) N.n) N.n := sumN_comm _ _ _
  have e4 : sumN (fun p => sumN (fun q => N.go c.v p q) N.n) N.n + sumN (fun p => sumN (fun e => if 0 ≤ N.tg p e ∧ N.tg p e < (N.n : Int) then 0 else cnt (N.d p) (N.s p) (c.v p) e) (N.d p)) N.n = sumN c.v N.n := by
    rw [← sumN_add]
    exact sumN_congr _ e2
  omega
def Nt.Leads (N : Nt) (ds : Nat → Nat) : Prop := ∀ p, p < N.n → ∃ e, e < N.d p ∧ ((∃ q : Nat, q < N.n ∧ N.tg p e = (q : Int) ∧ ds q < ds p) ∨ ¬ (0 ≤ N.tg p e ∧ N.tg p e < (N.n : Int)))
def bdN (m B : Int) : Nat → Int
  | 0 => m * (B + 1)
  | k + 1 => m * (bdN m B k + B + 1)
theorem bdN_nn {m B : Int} (hm : 1 ≤ m) (hB : 0 ≤ B) : ∀ k, 0 ≤ bdN m B k
  | 0 => Int.mul_nonneg (by omega) (by omega)
  | k + 1 => Int.mul_nonneg (by omega) (by have := bdN_nn hm hB k; omega)
theorem Nt.Inv.bound {N : Nt} {c : Cr} (I : N.Inv c) (hb : ∀ p, p < N.n → 0 ≤ N.b p) {ds : Nat → Nat} (L : N.Leads ds) {m : Int} (hm1 : 1 ≤ m) (hm : ∀ p, p < N.n → (N.d p : Int) ≤ m) : ∀ k p, p < N.n → ds p ≤ k → c.v p ≤ bdN m (sumN N.b N.n) k := by
  have hB : 0 ≤ sumN N.b N.n := sumN_nn hb
  have hall := I.all
  have hout : ∀ p, p < N.n → 0 ≤ sumN (fun e => if 0 ≤ N.tg p e ∧ N.tg p e < (N.n : Int) then 0 else cnt (N.d p) (N.s p) (c.v p) e) (N.d p) := fun p hp => sumN_nn fun e _ => by
    have := N.hd p hp
    have := cnt_nn (d := N.d p) (s := N.s p) (e := (e : Int)) (by omega) (I.v0 p hp)
    split <;> omega
  have hwB : ∀ q, q < N.n → c.w q ≤ sumN N.b N.n := fun q hq => by
    have a := sumN_one_le (f := c.w) N.n hq I.w0
    have b := sumN_nn hout
    omega
  have low : ∀ p, p < N.n → ∀ e : Nat, ∀ x : Int, cnt (N.d p) (N.s p) (c.v p) e ≤ x → 0 ≤ x → c.v p ≤ m * (x + 1) := fun p hp e x h hx => by
    have hd := N.hd p hp
    have f := cnt_floor (d := N.d p) (s := N.s p) (t := c.v p) (e := (e : Int)) (by omega)
    have r := Int.emod_lt_of_pos (c.v p) (show (0 : Int) < N.d p by omega)
    have q := Int.mul_ediv_add_emod (c.v p) (N.d p)
    have g1 : (N.d p : Int) * (c.v p / (N.d p : Int)) ≤ (N.d p : Int) * x := Int.mul_le_mul_of_nonneg_left (by omega) (by omega)
    have g2 : (N.d p : Int) * (x + 1) ≤ m * (x + 1) := Int.mul_le_mul_of_nonneg_right (hm p hp) (by omega)
    rw [Int.mul_add] at g2
    omega
  have step : ∀ k, (∀ q, q < N.n → ds q < k → c.v q ≤ bdN m (sumN N.b N.n) (k - 1)) → ∀ p, p < N.n → ds p ≤ k → c.v p ≤ bdN m (sumN N.b N.n) k := fun k ih p hp hk => by
    obtain ⟨e, he, h⟩ := L p hp
    have hd := N.hd p hp
    rcases h with ⟨q, hq, ht, hds⟩ | ht
    · obtain ⟨k, rfl⟩ : ∃ j, k = j + 1 := ⟨k - 1, by omega⟩
      have hv := ih q hq (by omega)
      have hv : c.v q ≤ bdN m (sumN N.b N.n) k := hv
      have g0 : cnt (N.d p) (N.s p) (c.v p) e ≤ N.go c.v p q := by
        have := sumN_one_le (f := fun e => if N.tg p e = (q : Int) then cnt (N.d p) (N.s p) (c.v p) e else 0) (N.d p) he fun i _ => by
          have := cnt_nn (d := N.d p) (s := N.s p) (e := (i : Int)) (by omega) (I.v0 p hp)
          show (0 : Int) ≤ (if N.tg p i = (q : Int) then cnt (N.d p) (N.s p) (c.v p) i else 0)
          split <;> omega
        have this : (if N.tg p e = (q : Int) then cnt (N.d p) (N.s p) (c.v p) e else 0) ≤ N.go c.v p q := this
        rw [if_pos ht] at this
        exact this
      have g1 := sumN_one_le (f := fun p => N.go c.v p q) N.n hp fun i hi => N.go_nn hi (I.v0 i hi)
      have g1 : N.go c.v p q ≤ sumN (fun p => N.go c.v p q) N.n := g1
      have g2 := I.eq q hq
      have g3 := hb q hq
      have g4 := hwB q hq
      have nn := bdN_nn hm1 hB k
      exact low p hp e (bdN m (sumN N.b N.n) k + sumN N.b N.n) (by omega) (by omega)
    · have g0 := sumN_one_le (f := fun e => if 0 ≤ N.tg p e ∧ N.tg p e < (N.n : Int) then 0 else cnt (N.d p) (N.s p) (c.v p) e) (N.d p) he fun i _ => by
        have := cnt_nn (d := N.d p) (s := N.s p) (e := (i : Int)) (by omega) (I.v0 p hp)
        show (0 : Int) ≤ (if 0 ≤ N.tg p i ∧ N.tg p i < (N.n : Int) then 0 else cnt (N.d p) (N.s p) (c.v p) i)
        split <;> omega
      have g0 : (if 0 ≤ N.tg p e ∧ N.tg p e < (N.n : Int) then 0 else cnt (N.d p) (N.s p) (c.v p) e) ≤ sumN (fun e => if 0 ≤ N.tg p e ∧ N.tg p e < (N.n : Int) then 0 else cnt (N.d p) (N.s p) (c.v p) e) (N.d p) := g0
      rw [if_neg ht] at g0
      have g1 := sumN_one_le (f := fun p => sumN (fun e => if 0 ≤ N.tg p e ∧ N.tg p e < (N.n : Int) then 0 else cnt (N.d p) (N.s p) (c.v p) e) (N.d p)) N.n hp hout
      have g1 : sumN (fun e => if 0 ≤ N.tg p e ∧ N.tg p e < (N.n : Int) then 0 else cnt (N.d p) (N.s p) (c.v p) e) (N.d p) ≤ _ := g1
      have g2 := sumN_nn (f := c.w) (n := N.n) I.w0
      have z := low p hp e (sumN N.b N.n) (by omega) hB
      cases k with
      | zero => exact z
      | succ k =>
        have nn := bdN_nn hm1 hB k
        have g3 : m * (sumN N.b N.n + 1) ≤ m * (bdN m (sumN N.b N.n) k + sumN N.b N.n + 1) := Int.mul_le_mul_of_nonneg_left (by omega) (by omega)
        exact Int.le_trans z g3
  intro k
  induction k with
  | zero => exact step 0 fun q _ h => by omega
  | succ k ih => exact step (k + 1) fun q hq h => ih q hq (by omega)
/-- each move is one visit more -/
theorem Nt.mv_sum (N : Nt) {c : Cr} {p : Nat} (hp : p < N.n) : sumN (N.mv c p).v N.n = sumN c.v N.n + 1 :=
  sumN_at N.n hp (fun i _ hi => upN_ne hi) upN_self
theorem Nt.run_sum (N : Nt) : ∀ (ps : List Nat) (c : Cr), N.Can c ps → sumN (ps.foldl N.mv c).v N.n = sumN c.v N.n + ps.length
  | [], c, _ => (Int.add_zero _).symm
  | p :: ps, c, ⟨⟨hp, _⟩, k⟩ => by
    rw [List.foldl_cons, Nt.run_sum N ps _ k, N.mv_sum hp, List.length_cons]; omega
/-- so many moves at most -/
theorem Nt.ends (N : Nt) (hb : ∀ p, p < N.n → 0 ≤ N.b p) {ds : Nat → Nat} (L : N.Leads ds) {m : Int} (hm1 : 1 ≤ m) (hm : ∀ p, p < N.n → (N.d p : Int) ≤ m) {k : Nat} (hk : ∀ p, p < N.n → ds p ≤ k) {ps : List Nat} (hc : N.Can N.new ps) : (ps.length : Int) ≤ sumN (fun _ => bdN m (sumN N.b N.n) k) N.n := by
  have I := N.inv_run ps _ (N.inv_new hb) hc
  have a := N.run_sum ps _ hc
  have b := sumN_le N.n fun p hp => I.bound hb L hm1 hm k p hp (hk p hp)
  have z : sumN N.new.v N.n = 0 := sumN_zero N.n
  omega
/-! ### nets as rows, and by their numbers -/
def ntOf (ex : List (List Int)) (st ss : List Int) (h1 : ∀ l ∈ ex, 1 ≤ l.length) : Nt := ⟨ex.length, fun p => (rowAt ex p).length, fun p e => nth (rowAt ex p) e, nth st, nth ss, fun p hp => h1 _ (rowAt_mem hp)⟩
theorem row_arr {row gr acc : List Int} (hl : gr.length = row.length) {q : Nat} (hq : q < acc.length) : ∀ i, i ≤ row.length → nth (goF ixA ((row.zip gr).take i) acc) q = nth acc q + sumN (fun e => if nth row e = (q : Int) then nth gr e else 0) i
  | 0, _ => by rw [List.take_zero]; exact (Int.add_zero _).symm
  | i + 1, h => by
    have hz : (row.zip gr)[i]? = some (nth row i, nth gr i) := List.getElem?_zip_eq_some.mpr ⟨nth_get (by omega), nth_get (by omega)⟩
    rw [goF_snoc hz]
    have ih := row_arr hl hq i (by omega)
    have ln : (goF ixA ((row.zip gr).take i) acc).length = acc.length := goF_len _ _ _
    show _ = nth acc q + (sumN (fun e => if nth row e = (q : Int) then nth gr e else 0) i + (if nth row i = (q : Int) then nth gr i else 0))
    by_cases h0 : 0 ≤ nth row i
    · rw [stA h0, nth_set]
      by_cases z : nth row i = (q : Int)
      · rw [if_pos ⟨by omega, by omega⟩, if_pos z, show (nth row i).toNat = q by omega, ih]; omega
      · rw [if_neg (fun y => z (by omega)), if_neg z, ih]; omega
    · rw [stA0 h0, if_neg (by omega), ih]; omega
theorem arr_upTo {ex : List (List Int)} {st vs ss : List Int} (h1 : ∀ l ∈ ex, 1 ≤ l.length) (hs : ss.length = ex.length) {q : Nat} (hq : q < ex.length) : ∀ k, k ≤ ex.length → nth (goF ixA (upTo ex (gon ex st vs) k) ss) q = nth ss q + sumN (fun p => (ntOf ex st ss h1).go (nth vs) p q) k
  | 0, _ => (Int.add_zero _).symm
  | k + 1, h => by
    rw [upTo_succ, goF_app]
    have hg : rowAt (gon ex st vs) k = cntR (rowAt ex k) (nth st k) (nth vs k) := gon_at (by omega)
    have hl : (rowAt (gon ex st vs) k).length = (rowAt ex k).length := by rw [hg, cntR_len]
    have ln : (goF ixA (upTo ex (gon ex st vs) k) ss).length = ss.length := goF_len _ _ _
    have z := row_arr (row := rowAt ex k) (gr := rowAt (gon ex st vs) k) (acc := goF ixA (upTo ex (gon ex st vs) k) ss) hl (q := q) (by omega) (rowAt ex k).length (Nat.le_refl _)
    rw [List.take_of_length_le (by rw [List.length_zip]; omega)] at z
    have e : pr ex (gon ex st vs) k = (rowAt ex k).zip (rowAt (gon ex st vs) k) := rfl
    rw [e, z, arr_upTo h1 hs hq k (by omega)]
    show _ = nth ss q + (sumN (fun p => (ntOf ex st ss h1).go (nth vs) p q) k + (ntOf ex st ss h1).go (nth vs) k q)
    have g : sumN (fun e => if nth (rowAt ex k) e = (q : Int) then nth (rowAt (gon ex st vs) k) e else 0) (rowAt ex k).length = (ntOf ex st ss h1).go (nth vs) k q := by
      show _ = sumN (fun e => if nth (rowAt ex k) e = (q : Int) then cnt ((rowAt ex k).length : Int) (nth st k) (nth vs k) e else 0) (rowAt ex k).length
      refine sumN_congr _ fun e he => ?_
      rw [hg, cntR_nth he]
    rw [g]; omega
theorem arr_at {ex : List (List Int)} {st vs ss : List Int} (h1 : ∀ l ∈ ex, 1 ≤ l.length) (hs : ss.length = ex.length) {q : Nat} (hq : q < ex.length) : nth (arrV ex st vs ss) q = nth ss q + sumN (fun p => (ntOf ex st ss h1).go (nth vs) p q) ex.length := by
  unfold arrV
  rw [← upTo_all]
  exact arr_upTo h1 hs hq _ (Nat.le_refl _)
/-- a flow as lists: what comes is what leaves -/
theorem flow_iff {ex : List (List Int)} {st vs ss : List Int} (h1 : ∀ l ∈ ex, 1 ≤ l.length) (hs : ss.length = ex.length) (hv : vs.length = ex.length) (hn : ∀ x ∈ vs, 0 ≤ x) : (ntOf ex st ss h1).Flow (nth vs) ↔ arrV ex st vs ss = vs := by
  have hl : (arrV ex st vs ss).length = ss.length := goF_len _ _ _
  constructor
  · intro h
    apply List.ext_getElem?
    intro i
    by_cases hi : i < ex.length
    · have e := h.eq i hi
      rw [nth_get (by omega), nth_get (by omega), arr_at h1 hs hi]
      exact congrArg some e.symm
    · rw [List.getElem?_eq_none (by omega), List.getElem?_eq_none (by omega)]
  · intro h
    refine ⟨fun p hp => hn _ (nth_mem (by rw [hv]; exact hp)), fun q hq => ?_⟩
    have e := arr_at (st := st) (vs := vs) h1 hs hq
    rw [h] at e
    exact e
/-! ### no train passes a flow -/
theorem Nt.Inv.below {N : Nt} {c : Cr} (I : N.Inv c) {u : Nat → Int} (hu : N.Flow u) (hc : ∀ p, p < N.n → c.v p ≤ u p) {p : Nat} (hp : p < N.n) (hw : 0 < c.w p) : c.v p < u p := by
  have a := I.eq p hp
  have b := hu.eq p hp
  have m : sumN (fun i => N.go c.v i p) N.n ≤ sumN (fun i => N.go u i p) N.n := sumN_le _ fun i hi => sumN_le _ fun e _ => by
    have := N.hd i hi
    have := cnt_up (d := N.d i) (s := N.s i) (e := (e : Int)) (by omega) (hc i hi)
    split <;> omega
  omega
theorem Nt.run_below (N : Nt) {u : Nat → Int} (hu : N.Flow u) : ∀ (ps : List Nat) (c : Cr), N.Inv c → N.Can c ps → (∀ p, p < N.n → c.v p ≤ u p) → ∀ p, p < N.n → (ps.foldl N.mv c).v p ≤ u p
  | [], _, _, _, h => h
  | p :: ps, c, I, ⟨⟨hp, hw⟩, k⟩, h => Nt.run_below N hu ps (N.mv c p) (N.inv_mv I hp hw) k fun q hq => by
    show upN c.v p (c.v p + 1) q ≤ u q
    by_cases e : q = p
    · subst e
      rw [upN_self]
      have := I.below hu h hq hw
      omega
    · rw [upN_ne e]; exact h q hq
/-- where there is a flow, moves can be gone until none waits -/
theorem Nt.done (N : Nt) {u : Nat → Int} (hu : N.Flow u) : ∀ (k : Nat) (c : Cr), N.Inv c → (∀ p, p < N.n → c.v p ≤ u p) → (sumN u N.n - sumN c.v N.n).toNat = k → ∃ ps, N.Can c ps ∧ ∀ q, q < N.n → (ps.foldl N.mv c).w q = 0 := fun k => by
  induction k using Nat.strongRecOn with
  | _ k ih =>
    intro c I hc hk
    by_cases h : ∃ p, p < N.n ∧ 0 < c.w p
    · obtain ⟨p, hp, hw⟩ := h
      have hlt := I.below hu hc hp hw
      have hs := N.mv_sum (c := c) hp
      have hc' : ∀ q, q < N.n → (N.mv c p).v q ≤ u q := N.run_below hu [p] c I ⟨⟨hp, hw⟩, trivial⟩ hc
      have hle := sumN_le N.n hc'
      have hle : sumN (N.mv c p).v N.n ≤ sumN u N.n := hle
      obtain ⟨ps, a, b⟩ := ih (sumN u N.n - sumN (N.mv c p).v N.n).toNat (by omega) (N.mv c p) (N.inv_mv I hp hw) hc' rfl
      exact ⟨p :: ps, ⟨⟨hp, hw⟩, a⟩, b⟩
    · refine ⟨[], trivial, fun q hq => ?_⟩
      have := I.w0 q hq
      show c.w q = 0
      by_cases z : 0 < c.w q
      · exact (h ⟨q, hq, z⟩).elim
      · omega
theorem Nt.NoRing.congr {N : Nt} {v u : Nat → Int} (h : ∀ p, p < N.n → v p = u p) (r : N.NoRing v) : N.NoRing u := by
  obtain ⟨rk, hr⟩ := r
  refine ⟨rk, fun p hp hv q hq hu ht => hr p hp (by rw [h p hp]; exact hv) q hq (by rw [h q hq]; exact hu) ?_⟩
  unfold Nt.last at ht ⊢
  rw [h p hp]; exact ht
/-- the least flow has no ring of last exits -/
theorem Nt.noring_of_least (N : Nt) (hb : ∀ p, p < N.n → 0 ≤ N.b p) {v : Nat → Int} (hv : N.Flow v) (hl : ∀ u, N.Flow u → ∀ p, p < N.n → v p ≤ u p) : N.NoRing v := by
  obtain ⟨ps, a, b⟩ := N.done hv _ N.new (N.inv_new hb) (fun p hp => hv.nn p hp) rfl
  obtain ⟨f, r⟩ := (N.inv_run ps _ (N.inv_new hb) a).flow b
  refine r.congr fun p hp => ?_
  have := hl _ f p hp
  have := N.least f hv r p hp
  omega
/-! ### to follow last exits -/
def Nt.nx (N : Nt) (v : Nat → Int) (p : Nat) : Option Nat := if 0 < v p ∧ 0 ≤ N.tg p (N.last v p) ∧ N.tg p (N.last v p) < (N.n : Int) then some (N.tg p (N.last v p)).toNat else none
/-- so many points behind one another are visited -/
def Nt.al (N : Nt) (v : Nat → Int) : Nat → Nat → Bool
  | 0, p => decide (0 < v p)
  | k + 1, p => match N.nx v p with
    | some q => N.al v k q
    | none => false
theorem Nt.nx_some {N : Nt} {v : Nat → Int} {p q : Nat} (h : N.nx v p = some q) : 0 < v p ∧ q < N.n ∧ N.tg p (N.last v p) = (q : Int) := by
  unfold Nt.nx at h
  by_cases z : 0 < v p ∧ 0 ≤ N.tg p (N.last v p) ∧ N.tg p (N.last v p) < (N.n : Int)
  · rw [if_pos z] at h
    injection h with h
    obtain ⟨a, b, c⟩ := z
    exact ⟨a, by omega, by omega⟩
  · rw [if_neg z] at h; cases h
theorem Nt.al_vis {N : Nt} {v : Nat → Int} {k p : Nat} (h : N.al v k p = true) : 0 < v p := by
  cases k with
  | zero => exact of_decide_eq_true h
  | succ k =>
    unfold Nt.al at h
    cases e : N.nx v p with
    | some q => exact (Nt.nx_some e).1
    | none => rw [e] at h; cases h
theorem Nt.walk (N : Nt) {v : Nat → Int} (h : ∀ p, p < N.n → N.al v N.n p = false) : N.NoRing v := by
  refine ⟨fun p => (sumN (fun k => if N.al v k p = true then 1 else 0) (N.n + 1)).toNat, fun p hp hv q hq hvq ht => ?_⟩
  have nn : ∀ p, 0 ≤ sumN (fun k => if N.al v k p = true then 1 else 0) (N.n + 1) := fun p => sumN_nn fun i _ => by split <;> omega
  have e : N.nx v p = some q := by
    unfold Nt.nx
    rw [ht, if_pos ⟨hv, by omega, by omega⟩, Int.toNat_natCast]
  have sh : ∀ m, sumN (fun k => if N.al v k p = true then 1 else 0) (m + 1) = 1 + sumN (fun k => if N.al v k q = true then 1 else 0) m := fun m => by
    induction m with
    | zero =>
      show (0 : Int) + (if decide (0 < v p) = true then 1 else 0) = 1 + 0
      rw [if_pos (decide_eq_true hv)]; rfl
    | succ m ih =>
      show sumN (fun k => if N.al v k p = true then 1 else 0) (m + 1) + (if N.al v (m + 1) p = true then 1 else 0) = 1 + (sumN (fun k => if N.al v k q = true then 1 else 0) m + (if N.al v m q = true then 1 else 0))
      have : N.al v (m + 1) p = N.al v m q := by
        show (match N.nx v p with | some q => N.al v m q | none => false) = _
        rw [e]
      rw [ih, this]; omega
  have a := sh N.n
  have b : sumN (fun k => if N.al v k q = true then 1 else 0) (N.n + 1) = sumN (fun k => if N.al v k q = true then 1 else 0) N.n + (if N.al v N.n q = true then 1 else 0) := rfl
  rw [h q hq, if_neg (by decide)] at b
  have c := nn p
  have d := nn q
  show (sumN _ _).toNat < (sumN _ _).toNat
  omega
theorem Nt.walk_of (N : Nt) {v : Nat → Int} (r : N.NoRing v) : ∀ p, p < N.n → N.al v N.n p = false := by
  obtain ⟨rk, hr⟩ := r
  let ct : Nat → Int := fun p => sumN (fun q => if 0 < v q ∧ rk q < rk p then 1 else 0) N.n
  have lt : ∀ p q, p < N.n → N.nx v p = some q → 0 < v q → ct q + 1 ≤ ct p := fun p q hp e hq => by
    obtain ⟨a, b, c⟩ := Nt.nx_some e
    have h := hr p hp a q b hq c
    have z := sumN_one_le (f := fun i => (if 0 < v i ∧ rk i < rk p then 1 else 0) - (if 0 < v i ∧ rk i < rk q then 1 else 0)) N.n b fun i _ => by
      by_cases y : 0 < v i ∧ rk i < rk q
      · rw [if_pos y, if_pos ⟨y.1, by omega⟩]; omega
      · rw [if_neg y]
        split <;> omega
    rw [sumN_sub] at z
    have z : (if 0 < v q ∧ rk q < rk p then (1 : Int) else 0) - (if 0 < v q ∧ rk q < rk q then 1 else 0) ≤ ct p - ct q := z
    rw [if_pos ⟨hq, h⟩, if_neg (by omega)] at z
    omega
  have top : ∀ p, p < N.n → ct p + 1 ≤ N.n := fun p hp => by
    have z := sumN_one_le (f := fun i => 1 - (if 0 < v i ∧ rk i < rk p then 1 else 0)) N.n hp fun i _ => by split <;> omega
    rw [sumN_sub] at z
    have one : ∀ n : Nat, sumN (fun _ => (1 : Int)) n = n := fun n => by
      induction n with
      | zero => rfl
      | succ n ih =>
        show sumN (fun _ => (1 : Int)) n + 1 = _
        rw [ih]; omega
    rw [one] at z
    have z : 1 - (if 0 < v p ∧ rk p < rk p then (1 : Int) else 0) ≤ N.n - ct p := z
    rw [if_neg (by omega)] at z
    omega
  have low : ∀ k p, p < N.n → N.al v k p = true → (k : Int) ≤ ct p := fun k => by
    induction k with
    | zero => exact fun p _ _ => sumN_nn fun i _ => by split <;> omega
    | succ k ih =>
      intro p hp h
      have h : (match N.nx v p with | some q => N.al v k q | none => false) = true := h
      cases e : N.nx v p with
      | none => rw [e] at h; cases h
      | some q =>
        rw [e] at h
        have := lt p q hp e (Nt.al_vis h)
        have := ih q (Nt.nx_some e).2.1 h
        omega
  intro p hp
  cases h : N.al v N.n p with
  | false => rfl
  | true =>
    have := low N.n p hp h
    have := top p hp
    omega
/-! ### round after round from the starts -/
def Nt.rd (N : Nt) (v : Nat → Int) : Nat → Int := fun q => N.b q + sumN (fun p => N.go v p q) N.n
def Nt.its (N : Nt) : Nat → Nat → Int
  | 0 => N.b
  | k + 1 => N.rd (N.its k)
theorem Nt.go_up (N : Nt) {v u : Nat → Int} (h : ∀ p, p < N.n → v p ≤ u p) (q : Nat) : sumN (fun i => N.go v i q) N.n ≤ sumN (fun i => N.go u i q) N.n := sumN_le _ fun i hi => sumN_le _ fun e _ => by
  have := N.hd i hi
  have := cnt_up (d := N.d i) (s := N.s i) (e := (e : Int)) (by omega) (h i hi)
  split <;> omega
theorem Nt.its_nn (N : Nt) (hb : ∀ p, p < N.n → 0 ≤ N.b p) : ∀ k p, p < N.n → 0 ≤ N.its k p
  | 0, p, hp => hb p hp
  | k + 1, p, hp => by
    have := sumN_nn (f := fun i => N.go (N.its k) i p) (n := N.n) fun i hi => N.go_nn hi (N.its_nn hb k i hi)
    have := hb p hp
    show 0 ≤ N.b p + sumN (fun i => N.go (N.its k) i p) N.n
    omega
/-- no round passes a flow -/
theorem Nt.its_below (N : Nt) {u : Nat → Int} (hu : N.Flow u) : ∀ k p, p < N.n → N.its k p ≤ u p
  | 0, p, hp => by
    have a := hu.eq p hp
    have := sumN_nn (f := fun i => N.go u i p) (n := N.n) fun i hi => N.go_nn hi (hu.nn i hi)
    show N.b p ≤ u p
    omega
  | k + 1, p, hp => by
    have a := hu.eq p hp
    have := N.go_up (fun i hi => N.its_below hu k i hi) p
    show N.b p + sumN (fun i => N.go (N.its k) i p) N.n ≤ u p
    omega
/-- where a round changes nothing, the least flow stands, and it has no ring -/
theorem Nt.its_fix (N : Nt) (hb : ∀ p, p < N.n → 0 ≤ N.b p) {k : Nat} (h : ∀ p, p < N.n → N.its (k + 1) p = N.its k p) : N.Flow (N.its k) ∧ N.NoRing (N.its k) ∧ (∀ u, N.Flow u → ∀ p, p < N.n → N.its k p ≤ u p) ∧ ∀ u, N.Flow u → N.NoRing u → ∀ p, p < N.n → u p = N.its k p := by
  have F : N.Flow (N.its k) := ⟨N.its_nn hb k, fun q hq => (h q hq).symm⟩
  have L : ∀ u, N.Flow u → ∀ p, p < N.n → N.its k p ≤ u p := fun u hu => N.its_below hu k
  have R := N.noring_of_least hb F L
  exact ⟨F, R, L, fun u hu r => N.uniq hu F r R⟩
/-- a flow that stays below: rounds rise -/
theorem Nt.its_rise (N : Nt) (hb : ∀ p, p < N.n → 0 ≤ N.b p) : ∀ k p, p < N.n → N.its k p ≤ N.its (k + 1) p
  | 0, p, hp => by
    have := sumN_nn (f := fun i => N.go N.b i p) (n := N.n) fun i hi => N.go_nn hi (hb i hi)
    show N.b p ≤ N.b p + sumN (fun i => N.go N.b i p) N.n
    omega
  | k + 1, p, hp => by
    have := N.go_up (fun i hi => N.its_rise hb k i hi) p
    show N.b p + sumN (fun i => N.go (N.its k) i p) N.n ≤ N.b p + sumN (fun i => N.go (N.its (k + 1)) i p) N.n
    omega
/-- the same, as lists -/
def itsL (ex : List (List Int)) (st ss : List Int) : Nat → List Int
  | 0 => ss
  | k + 1 => arrV ex st (itsL ex st ss k) ss
theorem itsL_len {ex : List (List Int)} {st ss : List Int} : ∀ k, (itsL ex st ss k).length = ss.length
  | 0 => rfl
  | _ + 1 => goF_len _ _ _
theorem Nt.go_eq (N : Nt) {v u : Nat → Int} (h : ∀ p, p < N.n → v p = u p) {p : Nat} (hp : p < N.n) (q : Nat) : N.go v p q = N.go u p q := by
  unfold Nt.go
  rw [h p hp]
theorem itsL_at {ex : List (List Int)} {st ss : List Int} (h1 : ∀ l ∈ ex, 1 ≤ l.length) (hs : ss.length = ex.length) : ∀ k q, q < ex.length → nth (itsL ex st ss k) q = (ntOf ex st ss h1).its k q
  | 0, _, _ => rfl
  | k + 1, q, hq => by
    have a := arr_at (st := st) (vs := itsL ex st ss k) h1 hs hq
    have e : sumN (fun p => (ntOf ex st ss h1).go (nth (itsL ex st ss k)) p q) ex.length = sumN (fun p => (ntOf ex st ss h1).go ((ntOf ex st ss h1).its k) p q) ex.length :=
      sumN_congr _ fun p hp => (ntOf ex st ss h1).go_eq (fun i hi => itsL_at h1 hs k i hi) hp q
    rw [e] at a
    exact a
/-! ### points seen on the way along last exits -/
def Nt.Good (N : Nt) (v : Nat → Int) (S : Nat → Prop) : Prop := ∃ rk : Nat → Nat, ∀ p, S p → ∀ q, N.nx v p = some q → S q ∧ rk q < rk p
theorem Nt.good_none (N : Nt) (v : Nat → Int) : N.Good v fun _ => False := ⟨fun _ => 0, fun _ h => h.elim⟩
theorem Nt.Good.iff {N : Nt} {v : Nat → Int} {S T : Nat → Prop} (g : N.Good v S) (h : ∀ p, S p ↔ T p) : N.Good v T := by
  obtain ⟨rk, hr⟩ := g
  exact ⟨rk, fun p hp q e => by
    obtain ⟨a, b⟩ := hr p ((h p).mpr hp) q e
    exact ⟨(h q).mp a, b⟩⟩
theorem Nt.Good.add {N : Nt} {v : Nat → Int} {S : Nat → Prop} (g : N.Good v S) {p : Nat} (h : ∀ q, N.nx v p = some q → S q) : N.Good v fun x => S x ∨ x = p := by
  by_cases hp : S p
  · exact g.iff fun x => ⟨.inl, fun z => by rcases z with z | rfl <;> assumption⟩
  · obtain ⟨rk, hr⟩ := g
    refine ⟨upN rk p (match N.nx v p with | some q => rk q + 1 | none => 0), fun r h2 q e => ?_⟩
    have ne : ∀ {x}, S x → x ≠ p := fun hx z => hp (z ▸ hx)
    rcases h2 with h2 | rfl
    · obtain ⟨a, b⟩ := hr r h2 q e
      exact ⟨.inl a, by rw [upN_ne (ne a), upN_ne (ne h2)]; exact b⟩
    · have a := h q e
      refine ⟨.inl a, ?_⟩
      rw [upN_ne (ne a), upN_self, e]
      exact Nat.lt_succ_self _
/-- a way: each leads to the next one, the last one to T or to none -/
def Nt.Way (N : Nt) (v : Nat → Int) (T : Nat → Prop) : List Nat → Prop
  | [] => True
  | [p] => ∀ q, N.nx v p = some q → T q
  | p :: q :: r => N.nx v p = some q ∧ N.Way v T (q :: r)
theorem Nt.Way.add {N : Nt} {v : Nat → Int} {S : Nat → Prop} (g : N.Good v S) : ∀ w : List Nat, N.Way v S w → N.Good v fun x => S x ∨ x ∈ w
  | [], _ => g.iff fun x => ⟨.inl, fun z => by rcases z with z | z; exact z; cases z⟩
  | [p], h => (g.add h).iff fun x => by rw [List.mem_singleton]
  | p :: q :: r, ⟨e, h⟩ => by
    have ih := Nt.Way.add g (q :: r) h
    refine (ih.add (p := p) fun x ex => ?_).iff fun x => ?_
    · rw [e] at ex
      cases ex
      exact .inr List.mem_cons_self
    · rw [List.mem_cons (a := x) (b := p)]
      constructor
      · rintro ((a | a) | a)
        · exact .inl a
        · exact .inr (.inr a)
        · exact .inr (.inl a)
      · rintro (a | a | a)
        · exact .inl (.inl a)
        · exact .inr a
        · exact .inl (.inr a)
/-- one more on the way -/
theorem Nt.Way.snoc {N : Nt} {v : Nat → Int} {T : Nat → Prop} {x : Nat} (hx : ∀ q, N.nx v x = some q → T q) : ∀ w : List Nat, N.Way v (fun y => y = x) w → (∀ p, w.getLast? = some p → N.nx v p = some x) → N.Way v T (w ++ [x])
  | [], _, _ => hx
  | [p], _, h2 => ⟨h2 p rfl, hx⟩
  | p :: q :: r, ⟨e, h⟩, h2 => ⟨e, Nt.Way.snoc hx (q :: r) h (fun y hy => h2 y (by rw [List.getLast?_cons_cons]; exact hy))⟩
theorem Nt.Way.imp {N : Nt} {v : Nat → Int} {S T : Nat → Prop} (k : ∀ x, S x → T x) : ∀ w : List Nat, N.Way v S w → N.Way v T w
  | [], h => h
  | [_], h => fun q e => k q (h q e)
  | _ :: q :: r, ⟨e, h⟩ => ⟨e, Nt.Way.imp k (q :: r) h⟩
/-- back to the way: a ring -/
theorem Nt.Way.ring {N : Nt} {v : Nat → Int} {x : Nat} {w : List Nat} (h : N.Way v (fun y => y = x) w) (hl : ∀ p, w.getLast? = some p → N.nx v p = some x) (hx : x ∈ w) (r : N.NoRing v) (hn : ∀ p ∈ w, p < N.n) : False := by
  obtain ⟨rk, hr⟩ := r
  have vis : ∀ w : List Nat, N.Way v (fun y => y = x) w → (∀ p, w.getLast? = some p → N.nx v p = some x) → ∀ p ∈ w, 0 < v p := fun w => by
    induction w with
    | nil => intro _ _ p hp; cases hp
    | cons a w ih =>
      cases w with
      | nil =>
        intro _ h2 p hp
        have : p = a := by simpa using hp
        subst this
        exact (Nt.nx_some (h2 p rfl)).1
      | cons c w =>
        intro h1 h2 p hp
        rcases List.mem_cons.mp hp with rfl | hp
        · exact (Nt.nx_some h1.1).1
        · exact ih h1.2 (fun y hy => h2 y (by rw [List.getLast?_cons_cons]; exact hy)) p hp
  have hv := vis w h hl
  have fall : ∀ w : List Nat, N.Way v (fun y => y = x) w → (∀ p ∈ w, p < N.n) → (∀ p ∈ w, 0 < v p) → ∀ y ∈ w, ∀ z, w.getLast? = some z → rk z ≤ rk y := fun w => by
    induction w with
    | nil => intro _ _ _ y hy; cases hy
    | cons a w ih =>
      cases w with
      | nil =>
        intro _ _ _ y hy z hz
        have : y = a := by simpa using hy
        subst this
        cases hz
        exact Nat.le_refl _
      | cons c w =>
        intro h1 h2 h3 y hy z hz
        rw [List.getLast?_cons_cons] at hz
        have st := ih h1.2 (fun p hp => h2 p (List.mem_cons_of_mem _ hp)) (fun p hp => h3 p (List.mem_cons_of_mem _ hp))
        rcases List.mem_cons.mp hy with rfl | hy
        · have a1 := st c List.mem_cons_self z hz
          obtain ⟨b1, b2, b3⟩ := Nt.nx_some h1.1
          have := hr y (h2 y List.mem_cons_self) b1 c b2 (h3 c (List.mem_cons_of_mem _ List.mem_cons_self)) b3
          omega
        · exact st y hy z hz
  cases e : w.getLast? with
  | none =>
    rw [List.getLast?_eq_none_iff] at e
    subst e
    cases hx
  | some z =>
    have hz := List.mem_of_getLast? e
    have a := fall w h hn hv x hx z e
    obtain ⟨b1, b2, b3⟩ := Nt.nx_some (hl z e)
    have := hr z (hn z hz) b1 x b2 (hv x hx) b3
    omega
/-- all visited points seen, and no ring met -/
theorem Nt.Good.noring {N : Nt} {v : Nat → Int} {S : Nat → Prop} (g : N.Good v S) (h : ∀ p, p < N.n → 0 < v p → S p) : N.NoRing v := by
  obtain ⟨rk, hr⟩ := g
  refine ⟨rk, fun p hp hv q hq _ ht => ?_⟩
  refine (hr p (h p hp hv) q ?_).2
  unfold Nt.nx
  rw [ht, if_pos ⟨hv, by omega, by omega⟩, Int.toNat_natCast]
end K37

namespace K37
open PySem PySem.Spec PyProof.Rows L2 DD
/-! ### the search for a ring -/
def sn (kvs : List (Key × D)) (p : Nat) : Prop := (lookD kvs (.inl (p : Int))).isSome = true
def unS (kvs : List (Key × D)) (n : Nat) : Int := sumN (fun p => if (lookD kvs (.inl (p : Int))).isSome = true then 0 else 1) n
theorem unS_nn (kvs : List (Key × D)) (n : Nat) : 0 ≤ unS kvs n := sumN_nn fun i _ => by split <;> omega
theorem sn_put {kvs : List (Key × D)} {x p : Nat} {d : D} : sn (putD kvs (.inl (x : Int)) d) p ↔ sn kvs p ∨ p = x := by
  unfold sn
  rw [lookD_put]
  by_cases e : p = x
  · subst e
    rw [if_pos rfl]
    exact ⟨fun _ => .inr rfl, fun _ => rfl⟩
  · rw [if_neg (fun z => e (by have := Sum.inl.inj z; omega))]
    exact ⟨.inl, fun z => z.resolve_right e⟩
theorem look_ne {kvs : List (Key × D)} {x p : Nat} {d : D} (h : p ≠ x) : lookD (putD kvs (.inl (x : Int)) d) (.inl (p : Int)) = lookD kvs (.inl (p : Int)) := by
  rw [lookD_put, if_neg (fun z => h (by have := Sum.inl.inj z; omega))]
theorem look_eq {kvs : List (Key × D)} {x : Nat} {d : D} : lookD (putD kvs (.inl (x : Int)) d) (.inl (x : Int)) = some d := by
  rw [lookD_put, if_pos rfl]
theorem unS_put {kvs : List (Key × D)} {x n : Nat} {d : D} (hx : x < n) (h : ¬ sn kvs x) : unS kvs n = unS (putD kvs (.inl (x : Int)) d) n + 1 := by
  refine sumN_at n hx (fun i _ e => ?_) ?_
  · rw [look_ne e]
  · rw [look_eq, if_neg (show ¬ (lookD kvs (.inl (x : Int))).isSome = true from h)]; rfl
def tP (n : Nat) (d : D) : Option Nat → Prop
  | some q => d = .int (q : Int) ∧ q < n
  | none => d = .non ∨ ∃ j : Int, j < 0 ∧ d = .int j
structure FR (N : Nt) (v : Nat → Int) (i : Nat) (kvs : List (Key × D)) (w : List Nat) (t : Option Nat) (S : Nat → Prop) : Prop where
  good : N.Good v S
  sS : ∀ p, S p → ∃ b : Nat, lookD kvs (.inl (p : Int)) = some (.int (b : Int)) ∧ b < i
  sW : ∀ p ∈ w, p < N.n ∧ lookD kvs (.inl (p : Int)) = some (.int (i : Int))
  al : ∀ p, sn kvs p → S p ∨ p ∈ w
  way : N.Way v (fun y => t = some y) w
  lst : ∀ p, w.getLast? = some p → N.nx v p = t
  be : (w = [] ∧ t = some i) ∨ i ∈ w
  dn : ∀ p, p < i → S p
  ln : (kvs.length : Int) + unS kvs N.n ≤ N.n
  wl : (w.length : Int) + unS kvs N.n ≤ N.n
  nd : w.Nodup
structure FO (N : Nt) (v : Nat → Int) (i : Nat) (kvs : List (Key × D)) : Prop where
  good : N.Good v (sn kvs)
  sS : ∀ p, sn kvs p → ∃ b : Nat, lookD kvs (.inl (p : Int)) = some (.int (b : Int)) ∧ b < i
  dn : ∀ p, p < i → sn kvs p
  ln : (kvs.length : Int) + unS kvs N.n ≤ N.n
theorem unS_le (kvs : List (Key × D)) (n : Nat) : unS kvs n ≤ n := by
  induction n with
  | zero => exact Int.le_refl 0
  | succ n ih =>
    have : unS kvs (n + 1) = unS kvs n + (if (lookD kvs (.inl (n : Int))).isSome = true then 0 else 1) := rfl
    rw [this]
    split <;> omega
theorem FO.start (N : Nt) (v : Nat → Int) : FO N v 0 [] := by
  refine ⟨(N.good_none v).iff (fun p => ⟨fun h => h.elim, (fun h => by cases h)⟩), (fun p h => by cases h), fun p h => absurd h (Nat.not_lt_zero p), ?_⟩
  have := unS_le [] N.n
  show ((0 : Nat) : Int) + _ ≤ _
  omega
theorem FO.go {N : Nt} {v : Nat → Int} {i : Nat} {kvs : List (Key × D)} (h : FO N v i kvs) : FR N v i kvs [] (some i) (sn kvs) := by
  refine ⟨h.good, h.sS, (fun p hp => by cases hp), fun p hp => .inl hp, trivial, (fun p hp => by cases hp), .inl ⟨rfl, rfl⟩, h.dn, h.ln, ?_, List.nodup_nil⟩
  have := unS_le kvs N.n
  show ((0 : Nat) : Int) + _ ≤ _
  omega
theorem FR.step {N : Nt} {v : Nat → Int} {i x : Nat} {kvs : List (Key × D)} {w : List Nat} {S : Nat → Prop} (h : FR N v i kvs w (some x) S) (hx : x < N.n) (hn : ¬ sn kvs x) :
    FR N v i (putD kvs (.inl (x : Int)) (.int (i : Int))) (w ++ [x]) (N.nx v x) S ∧ unS kvs N.n = unS (putD kvs (.inl (x : Int)) (.int (i : Int))) N.n + 1 := by
  have hu := unS_put (d := .int (i : Int)) hx hn
  have hp := putD_len kvs (.inl (x : Int)) (.int (i : Int))
  have a := h.ln
  have b := h.wl
  refine ⟨⟨h.good, fun p hp => ?_, fun p hp => ?_, fun p hp => ?_, ?_, fun p hp => ?_, ?_, h.dn, by omega, by rw [List.length_append, List.length_singleton]; omega, List.nodup_append.mpr ⟨h.nd, by simp, fun a ha b hb => by
    have : b = x := by simpa using hb
    subst this
    exact fun z => hn (by subst z; unfold sn; rw [(h.sW a ha).2]; rfl)⟩⟩, hu⟩
  · obtain ⟨b, h1, h2⟩ := h.sS p hp
    exact ⟨b, by rw [look_ne (fun z => hn (by subst z; unfold sn; rw [h1]; rfl)), h1], h2⟩
  · rcases List.mem_append.mp hp with hp | hp
    · obtain ⟨h1, h2⟩ := h.sW p hp
      exact ⟨h1, by rw [look_ne (fun z => hn (by subst z; unfold sn; rw [h2]; rfl)), h2]⟩
    · have : p = x := by simpa using hp
      subst this
      exact ⟨hx, look_eq⟩
  · rcases sn_put.mp hp with hp | rfl
    · rcases h.al p hp with h1 | h1
      · exact .inl h1
      · exact .inr (List.mem_append_left _ h1)
    · exact .inr (List.mem_append_right _ List.mem_cons_self)
  · refine Nt.Way.snoc (fun q hq => hq) w (Nt.Way.imp (fun y hy => ?_) w h.way) h.lst
    exact (Option.some.inj hy).symm
  · rw [List.getLast?_concat] at hp
    cases hp; rfl
  · rcases h.be with ⟨h1, h2⟩ | h1
    · cases h2
      exact .inr (List.mem_append_right _ List.mem_cons_self)
    · exact .inr (List.mem_append_left _ h1)
theorem FR.ring {N : Nt} {v : Nat → Int} {i x : Nat} {kvs : List (Key × D)} {w : List Nat} {S : Nat → Prop} (h : FR N v i kvs w (some x) S) (hl : lookD kvs (.inl (x : Int)) = some (.int (i : Int))) : x ∈ w ∧ ¬ N.NoRing v := by
  have hx : x ∈ w := by
    rcases h.al x (by unfold sn; rw [hl]; rfl) with h1 | h1
    · obtain ⟨b, h2, h3⟩ := h.sS x h1
      rw [hl] at h2
      have : (i : Int) = b := by cases h2; rfl
      omega
    · exact h1
  exact ⟨hx, fun r => Nt.Way.ring (Nt.Way.imp (fun y hy => (Option.some.inj hy).symm) w h.way) h.lst hx r fun p hp => (h.sW p hp).1⟩
theorem FR.out {N : Nt} {v : Nat → Int} {i : Nat} {kvs : List (Key × D)} {w : List Nat} {t : Option Nat} {S : Nat → Prop} (h : FR N v i kvs w t S) (ht : ∀ x, t = some x → sn kvs x ∧ lookD kvs (.inl (x : Int)) ≠ some (.int (i : Int))) : FO N v (i + 1) kvs := by
  have hS : ∀ x, t = some x → S x := fun x e => by
    obtain ⟨h1, h2⟩ := ht x e
    rcases h.al x h1 with h3 | h3
    · exact h3
    · exact absurd (h.sW x h3).2 h2
  have hsn : ∀ p, (S p ∨ p ∈ w) ↔ sn kvs p := fun p => ⟨fun z => by
    rcases z with z | z
    · obtain ⟨b, h1, _⟩ := h.sS p z
      unfold sn; rw [h1]; rfl
    · unfold sn; rw [(h.sW p z).2]; rfl, h.al p⟩
  refine ⟨(Nt.Way.add h.good w (Nt.Way.imp hS w h.way)).iff hsn, fun p hp => ?_, fun p hp => ?_, h.ln⟩
  · rcases h.al p hp with h1 | h1
    · obtain ⟨b, h2, h3⟩ := h.sS p h1
      exact ⟨b, h2, by omega⟩
    · exact ⟨i, (h.sW p h1).2, by omega⟩
  · by_cases e : p = i
    · subst e
      rcases h.be with ⟨_, h1⟩ | h1
      · exact (ht _ h1).1
      · exact (hsn p).mp (.inr h1)
    · exact (hsn p).mp (.inl (h.dn p (by omega)))
theorem FO.fin {N : Nt} {v : Nat → Int} {kvs : List (Key × D)} (h : FO N v N.n kvs) : N.NoRing v := h.good.noring fun p hp _ => h.dn p hp
theorem first_at : ∀ (l : List Int) (x : Int), x ∈ l → ∃ j : Nat, l[j]? = some x ∧ ∀ m, m < j → l[m]? ≠ some x
  | [], _, h => by cases h
  | a :: l, x, h => by
    by_cases e : a = x
    · exact ⟨0, by rw [e]; rfl, fun m hm => absurd hm (Nat.not_lt_zero m)⟩
    · rcases List.mem_cons.mp h with h | h
      · exact absurd h.symm e
      · obtain ⟨j, h1, h2⟩ := first_at l x h
        refine ⟨j + 1, h1, fun m hm => ?_⟩
        cases m with
        | zero => exact fun z => e (Option.some.inj z)
        | succ m => exact h2 m (by omega)
theorem last_nx {e : Int} {ex : List (List Int)} {st vs : List Int} (v : Valid e ex) {p : Nat} (hp : p < ex.length) : tP ex.length (lastD ex st vs p) ((ntOf ex st [] v.r1).nx (nth vs) p) := by
  have h1 := v.r1 _ (rowAt_mem hp)
  have m0 := Int.emod_nonneg (nth st p + nth vs p - 1) (show ((rowAt ex p).length : Int) ≠ 0 by omega)
  have m1 := Int.emod_lt_of_pos (nth st p + nth vs p - 1) (show (0 : Int) < (rowAt ex p).length by omega)
  have hm : nth (rowAt ex p) ((nth st p + nth vs p - 1) % ((rowAt ex p).length : Int)).toNat ∈ rowAt ex p := nth_mem (by omega)
  have hhi := v.hi _ (rowAt_mem hp) _ hm
  have e : (ntOf ex st [] v.r1).nx (nth vs) p = if 0 < nth vs p ∧ 0 ≤ nth (rowAt ex p) ((nth st p + (nth vs p - 1)) % ((rowAt ex p).length : Int)).toNat ∧ nth (rowAt ex p) ((nth st p + (nth vs p - 1)) % ((rowAt ex p).length : Int)).toNat < (ex.length : Int) then some (nth (rowAt ex p) ((nth st p + (nth vs p - 1)) % ((rowAt ex p).length : Int)).toNat).toNat else none := rfl
  rw [e, show nth st p + (nth vs p - 1) = nth st p + nth vs p - 1 by omega]
  unfold lastD
  by_cases h : 0 < nth vs p
  · rw [if_pos h]
    by_cases z : 0 ≤ nth (rowAt ex p) ((nth st p + nth vs p - 1) % ((rowAt ex p).length : Int)).toNat
    · rw [if_pos ⟨h, z, hhi⟩]
      exact ⟨by rw [Int.toNat_of_nonneg z], by omega⟩
    · rw [if_neg (fun y => z y.2.1)]
      exact .inr ⟨_, by omega, rfl⟩
  · rw [if_neg h, if_neg (fun y => h y.1)]
    exact .inl rfl
theorem range_atI {n : Nat} {f : Nat → D} {p : Nat} (h : p < n) : atI ((List.range n).map f) (p : Int) = some (f p) := by
  unfold atI ixN
  rw [if_pos (by omega), if_pos (by rw [List.length_map, List.length_range]; omega)]
  show ((List.range n).map f)[(p : Int).toNat]? = _
  rw [Int.toNat_natCast, List.getElem?_map, List.getElem?_range h]; rfl
end K37

namespace K37
open PySem PySem.Spec PyProof.Rows L2 DD
section
variable {P : Program} {w : World} {K : PySem.W.Frag} {mg : Str → Option Value} {base : Heap} {f C : Addr} {fd : FuncData} {k : Nat}
/-! ### rings, told -/
def nxL (ex : List (List Int)) (st vs : List Int) (p : Nat) : Option Nat := if 0 < nth vs p ∧ 0 ≤ nth (rowAt ex p) ((nth st p + (nth vs p - 1)) % ((rowAt ex p).length : Int)).toNat ∧ nth (rowAt ex p) ((nth st p + (nth vs p - 1)) % ((rowAt ex p).length : Int)).toNat < (ex.length : Int) then some (nth (rowAt ex p) ((nth st p + (nth vs p - 1)) % ((rowAt ex p).length : Int)).toNat).toNat else none
def alL (ex : List (List Int)) (st vs : List Int) : Nat → Nat → Bool
  | 0, p => decide (0 < nth vs p)
  | k + 1, p => match nxL ex st vs p with
    | some q => alL ex st vs k q
    | none => false
theorem alL_eq {ex : List (List Int)} {st ss vs : List Int} (h1 : ∀ l ∈ ex, 1 ≤ l.length) : ∀ k p, alL ex st vs k p = (ntOf ex st ss h1).al (nth vs) k p
  | 0, _ => rfl
  | k + 1, p => by
    show (match nxL ex st vs p with | some q => alL ex st vs k q | none => false) = (match (ntOf ex st ss h1).nx (nth vs) p with | some q => (ntOf ex st ss h1).al (nth vs) k q | none => false)
    rw [show (ntOf ex st ss h1).nx (nth vs) p = nxL ex st vs p from rfl]
    cases nxL ex st vs p with
    | none => rfl
    | some q => exact alL_eq h1 k q
def hasR (ex : List (List Int)) (st vs : List Int) : Bool := (List.range ex.length).any fun p => alL ex st vs ex.length p
theorem hasR_iff {ex : List (List Int)} {st ss vs : List Int} (h1 : ∀ l ∈ ex, 1 ≤ l.length) : hasR ex st vs = false ↔ (ntOf ex st ss h1).NoRing (nth vs) := by
  constructor
  · intro h
    refine (ntOf ex st ss h1).walk fun p hp => ?_
    have z := List.any_eq_false.mp h p (List.mem_range.mpr hp)
    rw [alL_eq (ss := ss) h1] at z
    exact Bool.eq_false_iff.mpr z
  · intro r
    refine List.any_eq_false.mpr fun p hp => ?_
    have z := (ntOf ex st ss h1).walk_of r p (List.mem_range.mp hp)
    rw [alL_eq (ss := ss) h1]
    exact Bool.eq_false_iff.mp z
theorem FR.val {N : Nt} {v : Nat → Int} {i x : Nat} {kvs : List (Key × D)} {w : List Nat} {t : Option Nat} {S : Nat → Prop} (h : FR N v i kvs w t S) (hs : sn kvs x) : ∃ b : Nat, lookD kvs (.inl (x : Int)) = some (.int (b : Int)) := by
  rcases h.al x hs with h1 | h1
  · obtain ⟨b, h2, _⟩ := h.sS x h1
    exact ⟨b, h2⟩
  · exact ⟨i, (h.sW x h1).2⟩
def lN (w : List Nat) : List Int := w.map fun p : Nat => (p : Int)
/-- a ring of visited points: each leads by its last exit to the next one, round -/
structure RingL (nx : Nat → Option Nat) (n : Nat) (l : List Nat) : Prop where
  ne : l ≠ []
  nd : l.Nodup
  lt : ∀ p ∈ l, p < n
  st : ∀ i p, l[i]? = some p → nx p = some (l.getD ((i + 1) % l.length) 0)
theorem way_at {N : Nt} {v : Nat → Int} {T : Nat → Prop} : ∀ {w : List Nat} {i p q : Nat}, N.Way v T w → w[i]? = some p → w[i + 1]? = some q → N.nx v p = some q
  | [], _, _, _, _, h, _ => by simp at h
  | [a], i, p, q, _, _, h => by simp at h
  | a :: b :: r, 0, p, q, ⟨e, _⟩, h1, h2 => by
    have h1 : a = p := by simpa using h1
    have h2 : b = q := by simpa using h2
    subst h1; subst h2; exact e
  | a :: b :: r, i + 1, p, q, ⟨_, h⟩, h1, h2 => way_at h (by simpa using h1) (by simpa using h2)
theorem FR.ringL {N : Nt} {v : Nat → Int} {i x j : Nat} {kvs : List (Key × D)} {w : List Nat} {S : Nat → Prop} (h : FR N v i kvs w (some x) S) (hj : w[j]? = some x) : RingL (N.nx v) N.n (w.drop j) := by
  have hjl := (List.getElem?_eq_some_iff.mp hj).1
  have hw : (w.drop j).length = w.length - j := List.length_drop
  refine ⟨fun z => ?_, h.nd.sublist (List.drop_sublist _ _), fun p hp => (h.sW p (List.mem_of_mem_drop hp)).1, fun m p hm => ?_⟩
  · rw [z] at hw
    have hw : 0 = w.length - j := hw
    omega
  · have hm1 := (List.getElem?_eq_some_iff.mp hm).1
    rw [List.getElem?_drop] at hm
    by_cases z : m + 1 < (w.drop j).length
    · rw [Nat.mod_eq_of_lt z]
      have e : (w.drop j)[m + 1]? = some ((w.drop j).getD (m + 1) 0) := by rw [List.getD_eq_getElem?_getD, List.getElem?_eq_getElem z]; rfl
      have e2 := e
      rw [List.getElem?_drop] at e2
      exact way_at h.way hm (by rw [show j + m + 1 = j + (m + 1) by omega]; exact e2)
    · have e : m + 1 = (w.drop j).length := by omega
      rw [e, Nat.mod_self]
      have e0 : (w.drop j).getD 0 0 = x := by
        rw [List.getD_eq_getElem?_getD, List.getElem?_drop, Nat.add_zero, hj]; rfl
      rw [e0]
      refine h.lst p ?_
      rw [List.getLast?_eq_getElem?, ← hm]
      congr 1; omega
def cFR : List D → (D → Prop) → Prop := fun ds Z => ∃ e ex d st d2 vs, ds = [.lst (rowsL ex), d, d2] ∧ rowI d st ∧ rowI d2 vs ∧ Valid e ex ∧ st.length = ex.length ∧ vs.length = ex.length ∧ ∀ z, (z = .non ∧ hasR ex st vs = false) ∨ ((∃ l : List Nat, z = .lst (lI (lN l)) ∧ RingL (nxL ex st vs) ex.length l) ∧ hasR ex st vs = true) → Z z
theorem ok_found_ring (T : Blt mg) (Fl : Df P w K mg base k "last_targets" ["rows", "setting", "visits"] (spD cLasts)) (F : Fun K "found_ring" "found_ring" s_found_ring f fd) : FnOk P w K mg base CX0 (k + 1) f fd ["rows", "setting", "visits"] (spD cFR) := by
  refine fnD F c_found_ring (fun ds Z h => ?_) (fun cdv A outer s H E ds Z hr h => ?_)
  · obtain ⟨e, ex, d, st, d2, vs, rfl, _⟩ := h
    rfl
  · obtain ⟨e, ex, d, st, d2, vs, rfl, hd, hd2, v, hst, hvs, q⟩ := h
    have n24 := v.n24
    obtain ⟨N, hN⟩ : ∃ N, N = ntOf ex st [] v.r1 := ⟨_, rfl⟩
    have hn : N.n = ex.length := by rw [hN]; rfl
    have q0 : N.NoRing (nth vs) → Z .non := fun r => q _ (.inl ⟨rfl, (hasR_iff (ss := []) v.r1).mpr (hN ▸ r)⟩)
    have q1 : ∀ l, RingL (N.nx (nth vs)) N.n l → ¬ N.NoRing (nth vs) → Z (.lst (lI (lN l))) := fun l hl r => q _ (.inr ⟨⟨_, rfl, by rw [hN] at hl; exact hl⟩, by
      cases e : hasR ex st vs with
      | true => rfl
      | false => exact absurd (hN ▸ (hasR_iff (ss := []) v.r1).mp e) r⟩)
    have hnx : ∀ p, p < ex.length → tP ex.length (lastD ex st vs p) (N.nx (nth vs) p) := fun p hp => hN ▸ last_nx v hp
    obtain ⟨dd2, hdd2⟩ : ∃ x, x = d2 := ⟨_, rfl⟩
    refine ss_cons (set 3 c_found_ring (call Fl hr (aG (nm 0 (aG (nm 1 (a1 (nm 2 ⟨e, ex, d, st, d2, vs, rfl, hd, hd2, v, hst, hvs, ?_⟩))))))))
    show WSs _ _ _ _
    refine ss_cons (setO 4 c_found_ring (f_dic ?_))
    show WSs _ _ _ _
    refine ss_cut (fun ρ => N.NoRing (nth vs))
      (for1 5 c_found_ring (wi_rng1 rfl T.range (a1 (w_callB (id := "len") true rfl T.len (by decide +kernel) (a1 (nm 0 (c_lenL ⟨_, rfl, ⟨?_, ?_⟩, fun i ρ => ∃ kvs s5 s6 s7, FO N (nth vs) i kvs ∧ ρ = [.val (.lst (rowsL ex)), .val d, .val d2, .val (.lst ((List.range ex.length).map (lastD ex st vs))), .own true (.dic kvs), s5, s6, s7], ⟨[], .un, .un, .un, FO.start _ _, rfl⟩, fun i dd ρi hd hI => ?_, fun ρn hI => ?_⟩))))))) (fun ρ' hI => ?_)
    · rw [rowsL_len]; omega
    · rw [rowsL_len]; omega
    · obtain ⟨kvs, s5, s6, s7, hF, rfl⟩ := hI
      obtain ⟨hi, rfl⟩ := rng_get hd
      rw [rowsL_len, Int.toNat_natCast] at hi
      rw [Int.zero_add]
      show WSs _ _ [.val (.lst (rowsL ex)), .val d, .val d2, .val (.lst ((List.range ex.length).map (lastD ex st vs))), .own true (.dic kvs), .val (.int (i : Int)), s6, s7] _
      refine ss_cons (setO 6 c_found_ring (f_nil ?_))
      show WSs _ _ _ _
      refine ss_cons (set 7 c_found_ring (nm 5 ?_))
      show WSs _ _ [.val (.lst (rowsL ex)), .val d, .val d2, .val (.lst ((List.range ex.length).map (lastD ex st vs))), .own true (.dic kvs), .val (.int (i : Int)), .own true (.lst (lI (lN []))), .val (.int (i : Int))] _
      refine ss_cut (fun ρ => ∃ kvs w t pt S, FR N (nth vs) i kvs w t S ∧ tP ex.length pt t ∧ (∀ x, t = some x → sn kvs x) ∧ ρ = [.val (.lst (rowsL ex)), .val d, .val d2, .val (.lst ((List.range ex.length).map (lastD ex st vs))), .own true (.dic kvs), .val (.int (i : Int)), .own true (.lst (lI (lN w))), .val pt])
        (s_while PassesOwn.never (fun m ρ => ∃ kvs w t pt S, FR N (nth vs) i kvs w t S ∧ tP ex.length pt t ∧ m = (unS kvs N.n).toNat ∧ ρ = [.val (.lst (rowsL ex)), .val d, .val d2, .val (.lst ((List.range ex.length).map (lastD ex st vs))), .own true (.dic kvs), .val (.int (i : Int)), .own true (.lst (lI (lN w))), .val pt])
          (unS kvs N.n).toNat ⟨kvs, [], some i, .int i, sn kvs, hF.go, ⟨rfl, hi⟩, rfl, rfl⟩ (fun m ρ' hI => ?_)) (fun ρ' hI => ?_)
      · obtain ⟨kvs, w, t, pt, S, hR, hT, rfl, rfl⟩ := hI
        refine t_bool (tb_and (t_cmpG (nm 7 (w_non ?_))))
        cases t with
        | none =>
          rcases hT with rfl | ⟨j, hj, rfl⟩
          · exact o_isnN ⟨false, rfl, kvs, w, none, _, S, hR, .inl rfl, (fun x e => by cases e), rfl⟩
          · refine o_isnI ⟨true, rfl, ?_⟩
            show WTB _ _ _ _ _ _ _
            refine tb_and (t_cmpG (nm 7 (w_int (o_ge ⟨_, rfl, ?_⟩))))
            rw [decide_eq_false (by omega)]
            exact ⟨kvs, w, none, _, S, hR, .inr ⟨j, hj, rfl⟩, (fun x e => by cases e), rfl⟩
        | some x =>
          obtain ⟨rfl, hx⟩ := hT
          refine o_isnI ⟨true, rfl, ?_⟩
          show WTB _ _ _ _ _ _ _
          refine tb_and (t_cmpG (nm 7 (w_int (o_ge ⟨_, rfl, ?_⟩))))
          rw [decide_eq_true (by omega)]
          show WTB _ _ _ _ _ _ _
          refine tb_and1 (t_ninDic (i := 4) (hu_of hr) (nm 7 ⟨_, _, rfl, rfl, ?_⟩))
          by_cases hs : (lookD kvs (.inl (x : Int))).isSome = true
          · rw [hs]
            exact ⟨kvs, w, some x, _, S, hR, ⟨rfl, hx⟩, (fun y e => by cases e; exact hs), rfl⟩
          · rw [Bool.eq_false_iff.mpr hs]
            show WSs _ _ _ _
            obtain ⟨hstep, hun⟩ := hR.step (by rw [hn]; exact hx) hs
            have hkl := hR.ln
            have hwl := hR.wl
            have hnn := unS_nn kvs N.n
            have hnn2 := unS_nn (putD kvs (.inl (x : Int)) (.int (i : Int))) N.n
            refine ss_cons (s_dput (i := 4) (hu_of hr) (nm 5 (nm 7 ⟨_, _, rfl, rfl, ?_, ?_⟩)) (hr0 := ⟨_, rfl⟩))
            · omega
            show WSs _ _ _ _
            refine ss_cons (app 6 rfl (nm 7 ⟨_, rfl, ?_, ?_⟩))
            · rw [lI_len]; unfold lN; rw [List.length_map]; omega
            show WSs _ _ _ _
            refine ss_one (set 7 c_found_ring (w_ix true true (fun _ _ => rfl) (.inr rfl) (nm 3 (nm 7 (x_lst (range_atI hx) ?_)))))
            refine ⟨_, ?_, putD kvs (.inl (x : Int)) (.int (i : Int)), w ++ [x], _, _, S, hstep, hnx x hx, rfl, ?_⟩
            · omega
            · have e : lI (lN w) ++ [.int (x : Int)] = lI (lN (w ++ [x])) := by
                rw [lI_snoc]; unfold lN; rw [List.map_append]; rfl
              rw [← e]; rfl
      · obtain ⟨kvs, w, t, pt, S, hR, hT, hs, rfl⟩ := hI
        refine ss_one (s_if (t_bool (tb_and (t_cmpG (nm 7 (w_non ?_))))))
        cases t with
        | none =>
          have ho := hR.out (fun x e => by cases e)
          rcases hT with rfl | ⟨j, hj, rfl⟩
          · exact o_isnN ⟨false, rfl, ss_nil ⟨kvs, _, _, _, ho, rfl⟩⟩
          · refine o_isnI ⟨true, rfl, ?_⟩
            show WTB _ _ _ _ _ _ _
            refine tb_and (t_cmpG (nm 7 (w_int (o_ge ⟨_, rfl, ?_⟩))))
            rw [decide_eq_false (by omega)]
            exact ss_nil ⟨kvs, _, _, _, ho, rfl⟩
        | some x =>
          obtain ⟨rfl, hx⟩ := hT
          obtain ⟨b, hb⟩ := hR.val (hs x rfl)
          refine o_isnI ⟨true, rfl, ?_⟩
          show WTB _ _ _ _ _ _ _
          refine tb_and (t_cmpG (nm 7 (w_int (o_ge ⟨_, rfl, ?_⟩))))
          rw [decide_eq_true (by omega)]
          show WTB _ _ _ _ _ _ _
          refine tb_and1 (t_cmpG (w_dgi (i := 4) (hu_of hr) (nm 7 ⟨_, _, _, rfl, rfl, hb, nm 5 (o_eq ⟨_, rfl, ?_⟩)⟩) ⟨_, rfl⟩))
          by_cases hbi : (b : Int) = (i : Int)
          · rw [decide_eq_true hbi]
            rw [hbi] at hb
            obtain ⟨hxw, hno⟩ := hR.ring hb
            show WSs _ _ _ _
            obtain ⟨j, hj1, hj2⟩ := first_at (lN w) (x : Int) (List.mem_map.mpr ⟨x, hxw, rfl⟩)
            have hj3 : w[j]? = some x := by
              unfold lN at hj1
              rw [List.getElem?_map] at hj1
              cases hw : w[j]? with
              | none => rw [hw] at hj1; cases hj1
              | some y => rw [hw] at hj1; have : (y : Int) = x := by injection hj1
                          exact congrArg some (by omega)
            have hjl := (List.getElem?_eq_some_iff.mp hj3).1
            have ecut : DD.cutD (lI (lN w)) (some (j : Int)) none = lI (lN (w.drop j)) := by
              rw [cut_from (by rw [lI_len]; unfold lN; rw [List.length_map]; omega)]
              unfold lI lN
              rw [List.map_drop, List.map_drop]
            exact ss_one (s_ret (w_slL (nmS 6 ⟨_, rfl, w_index (nm 6 ⟨lN w, rfl, nm 7 ⟨_, j, rfl, hj1, hj2, _, rfl, by
              have z := q1 _ (hR.ringL hj3) hno
              rw [← ecut] at z
              exact z⟩⟩)⟩)))
          · rw [decide_eq_false hbi]
            show WSs _ _ _ _
            exact ss_nil ⟨kvs, _, _, _, hR.out (fun y e => by cases e; exact ⟨hs x rfl, fun z => hbi (by rw [hb] at z; cases z; rfl)⟩), rfl⟩
    · obtain ⟨kvs, s5, s6, s7, hF, rfl⟩ := hI
      rw [rng_len, rowsL_len, Int.toNat_natCast, ← hn] at hF
      exact hF.fin
    · exact ss_one (s_ret (w_non (q0 hI)))
end
end K37

namespace K37
open PySem PySem.Spec PyProof.Rows L2 DD
section
variable {P : Program} {w : World} {K : PySem.W.Frag} {mg : Str → Option Value} {base : Heap} {f C : Addr} {fd : FuncData} {k : Nat}
/-! ### the law's own defs: the pot, draws -/
structure Blt2 (mg : Str → Option Value) : Prop where
  t : Blt mg
  abs : mg "abs" = none
  max : mg "max" = none
  divmod : mg "divmod" = none
  repr : mg "repr" = none
def cPot (K : PySem.W.Frag) : List D → Prop := fun ds => ∃ (ns : List Int), ds = [.scr K ns, .int 0] ∧ ns.length < 1000
theorem ok_pot (T : Blt2 mg) (F : Fun K "_law_pot" "_law_pot" s_Lpot f fd) : FnOk P w K mg base CX0 (k + 1) f fd ["_law_script", "_law_k"] (spF (cPot K)) := by
  refine fnF F c_Lpot (fun ds h => ?_) (fun cdv A outer s H E ds hr h => ?_)
  · obtain ⟨ns, rfl, _⟩ := h
    rfl
  · obtain ⟨ns, rfl, hl⟩ := h
    have rest : ∀ c : Int, 0 ≤ c → WSF (CxD P w K mg base N_Lpot "_law_pot" s_Lpot f cdv A outer s H E) ((defBody s_Lpot).drop 1) [.val (.scr K ns), .val (.int 0), .val (.int c), .un] := fun c h0 => by
      refine wsf_cons (set 3 c_Lpot (w_binG (w_binG (w_callTy (T := "int") true rfl T.t.int (by decide +kernel) (a1 (w_binG (w_binG (w_binG (w_binG (w_callTy (T := "int") true rfl T.t.int (by decide +kernel) (a1 (nm 2 (c_int (w_int (o_mod ⟨by decide, w_int (o_mul ⟨.inr (by decide), w_binG (w_int (nm 1 (o_mul ⟨.inl (by decide), o_add (w_int (o_add (c_int (w_int (o_mod ⟨by decide, w_int (o_add ?_)⟩)))))⟩)))⟩)⟩)))))))))))))))
      show WSF _ _ _
      refine wsf_ret (aG (w_callB (id := "max") true rfl T.max (by decide +kernel) (aG (w_int (a1 (w_binG (nm 2 (w_binG (w_int (w_int (o_pow ⟨by decide, o_sub (c_max2 rfl (a1 (nm 3 ⟨_, _, rfl, ?_, ?_, ?_⟩)))⟩)))))))))))
      · split <;> omega
      · have := Int.emod_nonneg (c % 2147483543 * 40471 + 7561 * 0 + 229) (show (2147483549 : Int) ≠ 0 by decide)
        omega
      · have := Int.emod_lt_of_pos (c % 2147483543 * 40471 + 7561 * 0 + 229) (show (0 : Int) < 2147483549 by decide)
        omega
    refine wsf_cons (set 2 c_Lpot (w_if (t_cmpG (nm 1 (w_callB (id := "len") true rfl T.t.len (by decide +kernel) (a1 (nm 0 (c_lenScr (o_lt ⟨_, rfl, ?_⟩)))))))))
    by_cases hn : (0 : Int) < (ns.length : Int)
    · rw [if_pos (decide_eq_true hn)]
      have h0 : 0 < ns.length := by omega
      refine w_callB (id := "abs") true rfl T.abs (by decide +kernel) (a1 (w_ix true true (fun _ _ => rfl) (.inr rfl) (nm 0 (nm 1 (x_scr (n := ns[0]) ?_ (c_abs ?_))))))
      · unfold atI ixN
        rw [if_pos (by decide), if_pos (by rw [List.length_map]; omega)]
        show (ns.map V.int)[0]? = _
        rw [List.getElem?_map, List.getElem?_eq_getElem h0]; rfl
      · exact rest _ (by split <;> omega)
    · rw [if_neg (by rw [decide_eq_false hn]; decide)]
      exact w_binG (w_binG (w_int (nm 1 (o_mul ⟨.inl (by decide), w_int (o_add (rest (919 * 0 + 1091) (by decide)))⟩))))
def cDraw : List D → (D → Prop) → Prop := fun ds Z => ∃ n : Int, ds = [.int n] ∧ (0 < n ∧ n < 1000000) ∧ ∀ r, 0 ≤ r → r < n → Z (.int r)
theorem ok_draw (T : Blt2 mg) (F : Fun K "_law_draw" "_law_draw" s_Ldraw f fd) : FnOk P w K mg base CX0 (k + 1) f fd ["_law_pot_here", "_law_size"] (spP cDraw) := by
  refine fnP F c_Ldraw (fun ds Z h => ?_) (fun cdv A outer s H E ds Z hr h => ?_)
  · obtain ⟨n, rfl, _⟩ := h
    rfl
  · obtain ⟨n, rfl, ⟨n0, n1⟩, q⟩ := h
    refine ss_cons (s_if (t_cmpG (w_pot0 0 rfl fun a a0 => w_int (o_gt ⟨_, rfl, ?_⟩))))
    by_cases ha : (0 : Int) < a
    · rw [if_pos (decide_eq_true ha)]
      show WSs _ _ _ _
      refine ss_cons (s_pot0 0 2 c_Ldraw.nd rfl rfl (w_callB (id := "divmod") true rfl T.divmod (by decide +kernel) (aG (w_pot0 0 rfl fun a2 a20 => a1 (nm 1 (c_divmod ⟨⟨n0, by omega⟩, _, _, rfl, Int.ediv_nonneg a20 (by omega), ?_⟩))))))
      show WSs _ _ _ _
      exact ss_one (s_ret (nm 2 (q _ (Int.emod_nonneg _ (by omega)) (Int.emod_lt_of_pos _ n0))))
    · rw [if_neg (by rw [decide_eq_false ha]; decide)]
      show WSs _ _ _ _
      refine ss_nil ?_
      show WSs _ _ _ _
      refine ss_cons (s_pot1 0 rfl (w_binG (w_callTy (T := "int") true rfl T.t.int (by decide +kernel) (a1 (w_binG (w_binG (w_pot1 0 rfl fun b b0 b1 => w_int (o_mul ⟨.inr (by decide), w_int (o_add (c_int (w_int (o_mod ⟨by decide, _, rfl, ⟨?_, ?_⟩, ?_⟩))))⟩))))))))
      · exact Int.emod_nonneg _ (by decide)
      · have := Int.emod_lt_of_pos (b * 39541 + 7561) (show (0 : Int) < 2147483549 by decide)
        omega
      · show WSs _ _ _ _
        refine ss_one (s_ret (w_binG (w_callTy (T := "int") true rfl T.t.int (by decide +kernel) (a1 (w_binG (w_binG (w_callTy (T := "int") true rfl T.t.int (by decide +kernel) (a1 (w_binG (w_pot1 0 rfl fun c c0 c1 => w_pot1 0 rfl fun d d0 d1 => o_mul ⟨.inl ⟨by omega, by omega⟩, c_int (w_int (o_mod ⟨by decide, w_int (o_fdiv ⟨⟨by decide, by decide⟩, c_int (nm 1 (o_mod ⟨n0, q _ ?_ ?_⟩))⟩)⟩))⟩))))))))))
        · exact Int.emod_nonneg _ (by omega)
        · exact Int.emod_lt_of_pos _ n0
def cPick : List D → (D → Prop) → Prop := fun ds Z => ∃ xs : List D, ds = [.lst xs] ∧ (0 < xs.length ∧ xs.length < 1000000) ∧ ∀ x ∈ xs, Z x
theorem ok_Lpick (T : Blt2 mg) (Fd : Df P w K mg base k "_law_draw" ["_law_pot_here", "_law_size"] (spP cDraw)) (F : Fun K "_law_pick" "_law_pick" s_Lpick f fd) : FnOk P w K mg base CX0 (k + 1) f fd ["_law_pot_here", "_law_some"] (spP cPick) := by
  refine fnP F c_Lpick (fun ds Z h => ?_) (fun cdv A outer s H E ds Z hr h => ?_)
  · obtain ⟨xs, rfl, _⟩ := h
    rfl
  · obtain ⟨xs, rfl, ⟨x0, x1⟩, q⟩ := h
    refine ss_one (s_ret (w_ix true true (fun _ _ => rfl) (.inr rfl) (nm 1 (callP 0 Fd hr (a1 (w_callB (id := "len") true rfl T.t.len (by decide +kernel) (a1 (nm 1 (c_lenL ⟨rfl, _, rfl, ⟨?_, ?_⟩, fun r r0 r1 => x_lst (d := xs.getD r.toNat .non) ?_ (q _ ?_)⟩)))))))))
    · omega
    · omega
    · unfold atI ixN
      rw [if_pos r0, if_pos r1]
      show xs[r.toNat]? = _
      rw [List.getD_eq_getElem?_getD, List.getElem?_eq_getElem (show r.toNat < xs.length by omega)]; rfl
    · rw [List.getD_eq_getElem?_getD, List.getElem?_eq_getElem (show r.toNat < xs.length by omega)]
      exact List.getElem_mem _
/-! ### a drawn net -/
structure ExOk (e n : Int) (ex : List (List Int)) : Prop where
  r1 : ∀ l ∈ ex, 1 ≤ l.length ∧ l.length ≤ 3
  b : ∀ l ∈ ex, ∀ t ∈ l, -e ≤ t ∧ t < n
theorem sum_le {ex : List (List Int)} : (∀ l ∈ ex, l.length ≤ 5) → ex.flatten.length ≤ 5 * ex.length := by
  induction ex with
  | nil => intro _; exact Nat.le_refl _
  | cons l ls ih =>
    intro h
    rw [List.flatten_cons, List.length_append, List.length_cons]
    have := h l List.mem_cons_self
    have := ih fun x hx => h x (List.mem_cons_of_mem _ hx)
    omega
theorem ExOk.valid {e : Int} {n : Nat} {ex : List (List Int)} (h : ExOk e n ex) (hl : ex.length = n) (e0 : 0 ≤ e) (e6 : e ≤ 6) (n1 : 1 ≤ n) (n6 : n ≤ 12) : Valid e ex := by
  refine ⟨e0, e6, by omega, by omega, fun l hm => (h.r1 l hm).1, fun l hm => by have := (h.r1 l hm).2; omega, fun l hm t ht => (h.b l hm t ht).1, fun l hm t ht => by have := (h.b l hm t ht).2; omega, ?_⟩
  have := sum_le fun l hm => Nat.le_trans (h.r1 l hm).2 (by decide)
  omega
theorem ExOk.snoc {e n : Int} {ex : List (List Int)} {l : List Int} (h : ExOk e n ex) (l1 : 1 ≤ l.length ∧ l.length ≤ 3) (hb : ∀ t ∈ l, -e ≤ t ∧ t < n) : ExOk e n (ex ++ [l]) := by
  refine ⟨fun x hx => ?_, fun x hx => ?_⟩
  · rcases List.mem_append.mp hx with z | z
    · exact h.r1 x z
    · have : x = l := by simpa using z
      subst this; exact l1
  · rcases List.mem_append.mp hx with z | z
    · exact h.b x z
    · have : x = l := by simpa using z
      subst this; exact hb
theorem rng_mem {lo : Int} {n : Nat} {x : D} (h : x ∈ rng lo n) : ∃ t : Int, x = .int t ∧ lo ≤ t ∧ t < lo + n := by
  obtain ⟨i, hi⟩ := List.mem_iff_getElem?.mp h
  obtain ⟨a, rfl⟩ := rng_get hi
  exact ⟨_, rfl, by omega, by omega⟩
def cLex : List D → (D → List D → Prop) → Prop := fun ds Z => ∃ m : Int, ds = [.int m] ∧ (1 ≤ m ∧ m ≤ 12) ∧ ∀ e ex, (ex.length : Int) ≤ m → 1 ≤ e → Valid e ex → (∀ l ∈ ex, l.length ≤ 3) → Z (.int e) (rowsL ex)
theorem ok_Lexits (T : Blt2 mg) (Fd : Df P w K mg base k "_law_draw" ["_law_pot_here", "_law_size"] (spP cDraw)) (Fk : Df P w K mg base k "_law_pick" ["_law_pot_here", "_law_some"] (spP cPick)) (F : Fun K "_law_exits" "_law_exits" s_Lexits f fd) : FnOk P w K mg base CX0 (k + 1) f fd ["_law_pot_here", "_law_most"] (spPO cLex) := by
  refine fnPO F c_Lexits (fun ds Z h => ?_) (fun cdv A outer s H E ds Z hr h => ?_)
  · obtain ⟨m, rfl, _⟩ := h
    rfl
  · obtain ⟨mm, rfl, ⟨m1, m12⟩, q⟩ := h
    refine wspo_cons (s_par (i := 2) (j := 3) rfl c_Lexits.nd rfl rfl (by decide) rfl rfl (aG (w_binG (w_int (callP 0 Fd hr (a1 (nm 1 ⟨rfl, mm, rfl, ⟨by omega, by omega⟩, fun r r0 r1 => o_add (a1 (w_binG (w_int (callP 0 Fd hr (a1 (w_int ⟨rfl, 2, rfl, ⟨by decide, by decide⟩, fun u u0 u1 => o_add ⟨_, _, rfl, ?_⟩⟩))))))⟩)))))))
    obtain ⟨n, hn⟩ : ∃ n : Nat, (n : Int) = 1 + r := ⟨(1 + r).toNat, by omega⟩
    obtain ⟨e, he⟩ : ∃ e : Int, e = 1 + u := ⟨_, rfl⟩
    rw [← hn, ← he]
    show WSPO _ _ [.own false .pot, .val (.int mm), .val (.int (n : Int)), .val (.int e), .un, .un, .un, .un, .un, .un] _
    refine wspo_cons (s_parN 4 5 c_Lexits (by decide) (w_listRg2 T.t.list T.t.range rfl (w_un (nm 3 (o_neg (nm 2 ⟨_, _, rfl, rfl, ⟨?_, ?_, ?_⟩, ?_⟩))))))
    · omega
    · omega
    · omega
    obtain ⟨tg, htg⟩ : ∃ tg, tg = rng (-e) ((n : Int) - -e).toNat := ⟨_, rfl⟩
    have tgl : tg.length = n + e.toNat := by rw [htg, rng_len]; omega
    rw [← htg]
    show WSPO _ _ [.own false .pot, .val (.int mm), .val (.int (n : Int)), .val (.int e), .val (.lst tg), .own true (.lst []), .un, .un, .un, .un] _
    refine wspo_cut (fun ρ => ∃ ex s6 s7 s8 s9, (ExOk e n ex ∧ ex.flatten.length ≤ 3 * ex.length) ∧ ex.length = n ∧ ρ = [.own false .pot, .val (.int mm), .val (.int (n : Int)), .val (.int e), .val (.lst tg), .own true (.lst (rowsL ex)), s6, s7, s8, s9])
      (for1 6 c_Lexits (wi_rng1 rfl T.t.range (a1 (nm 2 ⟨(n : Int), rfl, ⟨by omega, by omega⟩, fun j ρ => ∃ ex s6 s7 s8 s9, (ExOk e n ex ∧ ex.flatten.length ≤ 3 * ex.length) ∧ ex.length = j ∧ ρ = [.own false .pot, .val (.int mm), .val (.int (n : Int)), .val (.int e), .val (.lst tg), .own true (.lst (rowsL ex)), s6, s7, s8, s9],
        ⟨[], .un, .un, .un, .un, ⟨⟨fun l hl => absurd hl (by simp), fun l hl => absurd hl (by simp)⟩, Nat.le_refl _⟩, rfl, rfl⟩, fun j d ρi hd hI => ?_, fun ρn hI => ?_⟩)))) (fun ρ' hI => ?_)
    · obtain ⟨ex, s6, s7, s8, s9, ⟨hex, hfl⟩, hlen, rfl⟩ := hI
      have hj := (List.getElem?_eq_some_iff.mp hd).1
      rw [rng_len] at hj
      refine ss_cons (setO 7 c_Lexits (f_nil ?_))
      show WSs _ _ _ _
      refine ss_cut (fun ρ => ∃ l s8 s9, (1 ≤ l.length ∧ l.length ≤ 3) ∧ (∀ t ∈ l, -e ≤ t ∧ t < n) ∧ ρ = [.own false .pot, .val (.int mm), .val (.int (n : Int)), .val (.int e), .val (.lst tg), .own true (.lst (rowsL ex)), .val d, .own true (.lst (lI l)), s8, s9])
        (for1 8 c_Lexits (wi_rng1 rfl T.t.range (a1 (w_binG (w_int (callP 0 Fd hr (a1 (w_int ⟨rfl, 3, rfl, ⟨by decide, by decide⟩, fun r r0 r1 => o_add ⟨_, rfl, ⟨by omega, by omega⟩, fun i ρ => ∃ l s8 s9, l.length = i ∧ (∀ t ∈ l, -e ≤ t ∧ t < n) ∧ ρ = [.own false .pot, .val (.int mm), .val (.int (n : Int)), .val (.int e), .val (.lst tg), .own true (.lst (rowsL ex)), .val d, .own true (.lst (lI l)), s8, s9],
          ⟨[], s8, s9, rfl, fun t ht => absurd ht (by simp), rfl⟩, fun i d2 ρi hd2 hI => ?_, fun ρn hI => ?_⟩⟩)))))))) (fun ρ' hI => ?_)
      · obtain ⟨l, s8', s9', hl, hb, rfl⟩ := hI
        have hi := (List.getElem?_eq_some_iff.mp hd2).1
        rw [rng_len] at hi
        refine ss_cons (set 9 c_Lexits (callP 0 Fk hr (a1 (nm 4 ⟨rfl, _, rfl, ⟨?_, ?_⟩, fun x hx => ?_⟩))))
        · omega
        · omega
        rw [htg] at hx
        obtain ⟨t, rfl, t0, t1⟩ := rng_mem hx
        show WSs _ _ _ _
        refine ss_one (app 7 (ds := lI l) rfl (nm 9 ⟨lI l, rfl, ?_, l ++ [t], .val d2, .val (.int t), ?_, fun x hx => ?_, ?_⟩))
        · rw [lI_len]; omega
        · rw [List.length_append]; simp [hl]
        · rcases List.mem_append.mp hx with h | h
          · exact hb x h
          · have : x = t := by simpa using h
            omega
        · rw [lI_snoc]; rfl
      · obtain ⟨l, s8', s9', hl, hb, rfl⟩ := hI
        rw [rng_len] at hl
        exact ⟨l, s8', s9', ⟨by omega, by omega⟩, hb, rfl⟩
      · obtain ⟨l, s8', s9', hl, hb, rfl⟩ := hI
        refine ss_one (app 5 (ds := rowsL ex) rfl (nmS 7 ⟨rowsL ex, rfl, ?_, ex ++ [l], .val d, .val (.lst (lI l)), s8', s9', ⟨hex.snoc ⟨hl.1, by omega⟩ hb, ?_⟩, ?_, ?_⟩))
        · rw [rowsL_len]; omega
        · rw [List.flatten_append, List.length_append, List.length_append, List.flatten_singleton]
          show _ ≤ 3 * (_ + 1)
          omega
        · rw [List.length_append, hlen]; rfl
        · rw [rowsL_snoc]; rfl
    · obtain ⟨ex, s6, s7, s8, s9, hex, hlen, rfl⟩ := hI
      rw [rng_len] at hlen
      exact ⟨ex, s6, s7, s8, s9, hex, by omega, rfl⟩
    · obtain ⟨ex, s6, s7, s8, s9, ⟨hex, hfl⟩, hlen, rfl⟩ := hI
      exact wspo_ret 5 (nm 3 ⟨rowsL ex, rfl, q e ex (by omega) (by omega) (hex.valid hlen (by omega) (by omega) (by omega) (by omega)) fun l hm => (hex.r1 l hm).2⟩)
/-! ### a drawn setting -/
def cLset : List D → (D → Prop) → Prop := fun ds Z => ∃ e ex, ds = [.lst (rowsL ex)] ∧ Valid e ex ∧ ∀ st, ValidS ex st → Z (.lst (lI st))
theorem ok_Lsetting (T : Blt2 mg) (Fd : Df P w K mg base k "_law_draw" ["_law_pot_here", "_law_size"] (spP cDraw)) (F : Fun K "_law_setting" "_law_setting" s_Lsetting f fd) : FnOk P w K mg base CX0 (k + 1) f fd ["_law_pot_here", "_law_exits_here"] (spP cLset) := by
  refine fnP F c_Lsetting (fun ds Z h => ?_) (fun cdv A outer s H E ds Z hr h => ?_)
  · obtain ⟨e, ex, rfl, _⟩ := h
    rfl
  · obtain ⟨e, ex, rfl, v, q⟩ := h
    refine ss_cons (setO 2 c_Lsetting (f_nil ?_))
    show WSs _ _ _ _
    refine ss_cut (fun ρ => ∃ st s3 s4, ValidS ex st ∧ ρ = [.own false .pot, .val (.lst (rowsL ex)), .own true (.lst (lI st)), s3, s4])
      (for1 3 c_Lsetting (wi_lst (nm 1 ⟨_, rfl, fun j ρ => ∃ st s3 s4, ValidS (ex.take j) st ∧ ρ = [.own false .pot, .val (.lst (rowsL ex)), .own true (.lst (lI st)), s3, s4],
        ⟨[], .un, .un, ⟨rfl, fun i s l h _ => by cases h⟩, rfl⟩, fun j d ρi hd hI => ?_, fun ρn hI => ?_⟩))) (fun ρ' hI => ?_)
    · obtain ⟨st, s3, s4, hst, rfl⟩ := hI
      have hj : j < ex.length := by have := (List.getElem?_eq_some_iff.mp hd).1; rw [rowsL_len] at this; exact this
      have ed : d = .lst (lI (rowAt ex j)) := by
        have z := rowsL_at ex hj
        rw [List.getD_eq_getElem?_getD, hd] at z
        exact z
      subst ed
      have hr1 := v.r1 _ (rowAt_mem hj)
      have hr6 := v.r6 _ (rowAt_mem hj)
      have hlj : (ex.take j).length = j := by rw [List.length_take]; omega
      have hls := hst.1
      have e24 := v.n24
      refine ss_cons (set 4 c_Lsetting (callP 0 Fd hr (a1 (w_callB (id := "len") true rfl T.t.len (by decide +kernel) (a1 (nm 3 (c_lenL ⟨rfl, _, rfl, ⟨?_, ?_⟩, fun r r0 r1 => ?_⟩)))))))
      · rw [lI_len]; omega
      · rw [lI_len]; omega
      show WSs _ _ _ _
      refine ss_one (app 2 (ds := lI st) rfl (nm 4 ⟨lI st, rfl, ?_, st ++ [r], .val (.lst (lI (rowAt ex j))), .val (.int r), ⟨?_, ?_⟩, ?_⟩))
      · rw [lI_len]; omega
      · rw [List.length_append, List.length_take]; simp; omega
      · intro i s l h1 h2
        rw [List.getElem?_take] at h2
        split at h2
        · rename_i hij
          by_cases hi : i < st.length
          · rw [List.getElem?_append_left hi] at h1
            exact hst.2 i s l h1 (by rw [List.getElem?_take, if_pos (by omega)]; exact h2)
          · have hij2 : i = j := by omega
            subst hij2
            rw [List.getElem?_append_right (by omega), show i - st.length = 0 by omega] at h1
            have es : s = r := by simpa using h1.symm
            have el : l = rowAt ex i := by unfold rowAt; rw [List.getD_eq_getElem?_getD, h2]; rfl
            rw [lI_len] at r1
            subst es el
            exact ⟨r0, r1⟩
        · cases h2
      · rw [lI_snoc]; rfl
    · obtain ⟨st, s3, s4, hst, rfl⟩ := hI
      rw [rowsL_len, List.take_length] at hst
      exact ⟨st, s3, s4, hst, rfl⟩
    · obtain ⟨st, s3, s4, hst, rfl⟩ := hI
      exact ss_one (s_ret (nmS 2 (q st hst)))
end
end K37

namespace K37
open PySem PySem.Spec PyProof.Rows L2 DD
section
variable {P : Program} {w : World} {K : PySem.W.Frag} {mg : Str → Option Value} {base : Heap} {f C : Addr} {fd : FuncData} {k : Nat}
/-! ### the law's own dealing -/
def cDealt : List D → (D → Prop) → Prop := fun ds Z => ∃ (row : List Int) (s t : Int), ds = [.lst (lI row), .int s, .int t] ∧ (1 ≤ row.length ∧ row.length ≤ 6) ∧ Z (.lst (lI (cntR row s t)))
theorem ok_Ldealt (T : Blt2 mg) (F : Fun K "_law_dealt" "_law_dealt" s_Ldealt f fd) : FnOk P w K mg base CX0 (k + 1) f fd ["_law_row", "_law_exit_at", "_law_many"] (spD cDealt) := by
  refine fnD F c_Ldealt (fun ds Z h => ?_) (fun cdv A outer s H E ds Z hr h => ?_)
  · obtain ⟨row, s, t, rfl, _⟩ := h
    rfl
  · obtain ⟨row, s, t, rfl, ⟨h1, h6⟩, q⟩ := h
    refine ss_cons (setO 3 c_Ldealt (f_nil ?_))
    show WSs _ _ _ _
    refine ss_cut (fun ρ => ∃ s4, ρ = [.val (.lst (lI row)), .val (.int s), .val (.int t), .own true (.lst (lI (cntR row s t))), s4])
      (for1 4 c_Ldealt (wi_rng1 rfl T.t.range (a1 (w_callB (id := "len") true rfl T.t.len (by decide +kernel) (a1 (nm 0 (c_lenL ⟨_, rfl, ⟨?_, ?_⟩, fun p ρ => ∃ s4, ρ = [.val (.lst (lI row)), .val (.int s), .val (.int t), .own true (.lst (lI ((List.range p).map fun e : Nat => cnt row.length s t e))), s4], ⟨.un, rfl⟩, fun p d ρi hd hI => ?_, fun ρn hI => ?_⟩))))))) (fun ρ' hI => ?_)
    · rw [lI_len]; omega
    · rw [lI_len]; omega
    · obtain ⟨s4, rfl⟩ := hI
      obtain ⟨hp, rfl⟩ := rng_get hd
      rw [lI_len, Int.toNat_natCast] at hp
      rw [Int.zero_add]
      refine ss_one (app 3 rfl (w_binG (w_binG (w_binG (w_binG (nm 2 (w_callB (id := "len") true rfl T.t.len (by decide +kernel) (a1 (nm 0 (c_lenL (o_add (w_int (o_sub (w_binG (w_binG (nm 4 (nm 1 (o_sub (w_callB (id := "len") true rfl T.t.len (by decide +kernel) (a1 (nm 0 (c_lenL (o_mod ⟨?_, o_sub (w_callB (id := "len") true rfl T.t.len (by decide +kernel) (a1 (nm 0 (c_lenL (o_fdiv ⟨⟨?_, ?_⟩, ⟨_, rfl, ?_, .val (.int (p : Int)), ?_⟩⟩)))))⟩)))))))))))))))))))))))
      · rw [lI_len]; omega
      · rw [lI_len]; omega
      · rw [lI_len]; omega
      · rw [lI_len, List.length_map, List.length_range]; omega
      · rw [lI_len]
        have e : lI ((List.range p).map fun e : Nat => cnt row.length s t e) ++ [.int ((t + (row.length : Int) - 1 - ((p : Int) - s) % (row.length : Int)) / (row.length : Int))] = lI ((List.range (p + 1)).map fun e : Nat => cnt row.length s t e) := by
          rw [lI_snoc, List.range_succ, List.map_append, show t + (row.length : Int) - 1 - ((p : Int) - s) % (row.length : Int) = t + ((row.length : Int) - 1 - ((p : Int) - s) % (row.length : Int)) by omega]; rfl
        rw [← e]; rfl
    · obtain ⟨s4, rfl⟩ := hI
      rw [rng_len, lI_len, Int.toNat_natCast]
      exact ⟨s4, rfl⟩
    · obtain ⟨s4, rfl⟩ := hI
      exact ss_one (s_ret (nmS 3 q))
/-! ### what arrives, by the law -/
def cArvd : List D → (D → Prop) → Prop := fun ds Z => ∃ e ex st ss vs, ds = [.int e, .lst (rowsL ex), .lst (lI st), .lst (lI ss), .lst (lI vs)] ∧ Valid e ex ∧ ValidS ex st ∧ ss.length = ex.length ∧ vs.length = ex.length ∧ ∀ c, Z (.tup [.lst (lI (arrV ex st vs ss)), c])
theorem ok_Larrived (T : Blt2 mg) (Fg : Df P w K mg base k "_law_dealt" ["_law_row", "_law_exit_at", "_law_many"] (spD cDealt)) (F : Fun K "_law_arrived" "_law_arrived" s_Larrived f fd) : FnOk P w K mg base CX0 (k + 1) f fd ["_law_ends", "_law_exits_here", "_law_setting_here", "_law_starts", "_law_visits"] (spD cArvd) := by
  refine fnD F c_Larrived (fun ds Z h => ?_) (fun cdv A outer s H E ds Z hr h => ?_)
  · obtain ⟨e, ex, st, ss, vs, rfl, _⟩ := h
    rfl
  · obtain ⟨e, ex, st, ss, vs, rfl, v, hst, hss, hvs, q⟩ := h
    have e0 := v.e0
    have e6 := v.e6
    have n24 := v.n24
    obtain ⟨g, hg⟩ : ∃ g, g = gon ex st vs := ⟨_, rfl⟩
    refine ss_cons (s_par2R 5 6 c_Larrived (by decide) (f_list 3 T.t.list rfl (w_lst (a1 (w_int ⟨(by show 1 ≤ sizeLine; decide), nm 0 ⟨[.int 0], _, rfl, rfl, ⟨?_, ?_, ?_⟩, ?_⟩⟩)))))
    · omega
    · omega
    · show 1 * e.toNat ≤ sizeLine
      exact Nat.le_trans (show 1 * e.toNat ≤ 6 by omega) (by decide)
    rw [show (List.replicate e.toNat [D.int 0]).flatten = lI (List.replicate e.toNat 0) by have z := rep0 e.toNat; rw [Int.toNat_natCast] at z; exact z]
    have hc0 : (List.replicate e.toNat (0 : Int)).length = e.toNat := List.length_replicate
    generalize List.replicate e.toNat (0 : Int) = cm0 at hc0
    show WSs _ _ [.val (.int e), .val (.lst (rowsL ex)), .val (.lst (lI st)), .val (.lst (lI ss)), .val (.lst (lI vs)), .own true (.lst (lI ss)), .own true (.lst (lI cm0)), .un, .un, .un, .un] _
    refine ss_cut (fun ρ => ∃ cm s7 s8 s9 s10, ρ = [.val (.int e), .val (.lst (rowsL ex)), .val (.lst (lI st)), .val (.lst (lI ss)), .val (.lst (lI vs)), .own true (.lst (lI (arrV ex st vs ss))), .own true (.lst (lI cm)), s7, s8, s9, s10])
      (for2 7 8 c_Larrived (wi_enum rfl T.t.enum (a1 (nm 1 ⟨_, rfl, fun p ρ => ∃ cm s7 s8 s9 s10, cm.length = e.toNat ∧ ρ = [.val (.int e), .val (.lst (rowsL ex)), .val (.lst (lI st)), .val (.lst (lI ss)), .val (.lst (lI vs)), .own true (.lst (lI (goF ixA (upTo ex g p) ss))), .own true (.lst (lI cm)), s7, s8, s9, s10],
        ⟨cm0, .un, .un, .un, .un, hc0, rfl⟩, fun p d ρi hd hI => ?_, fun ρn hI => ?_⟩)))) (fun ρ' hI => ?_)
    · obtain ⟨cm, s7, s8, s9, s10, hcm, rfl⟩ := hI
      obtain ⟨hp, rfl⟩ := enumR_at hd
      have h1 := v.r1 _ (rowAt_mem hp)
      have h6 := v.r6 _ (rowAt_mem hp)
      have hgp : rowAt g p = cntR (rowAt ex p) (nth st p) (nth vs p) := by rw [hg, gon_at hp]
      refine ⟨_, _, rfl, ss_one (for2 9 10 c_Larrived (wi_zip rfl T.t.zip (aG (nm 8 (a1 (call Fg hr (aG (nm 8 (aG (w_ix true true (fun _ _ => rfl) (.inr rfl) (nm 2 (nm 7 (x_lst (ints_atI (t := nth st p) ?_ ?_) (a1 (w_ix true true (fun _ _ => rfl) (.inr rfl) (nm 4 (nm 7 (x_lst (ints_atI (t := nth vs p) ?_ ?_) ⟨rowAt ex p, nth st p, nth vs p, rfl, ⟨h1, h6⟩, _, _, rfl, fun i ρ => ∃ cm s9 s10, cm.length = e.toNat ∧ ρ = [.val (.int e), .val (.lst (rowsL ex)), .val (.lst (lI st)), .val (.lst (lI ss)), .val (.lst (lI vs)), .own true (.lst (lI (goF ixA (upTo ex g p ++ (pr ex g p).take i) ss))), .own true (.lst (lI cm)), .val (.int (p : Int)), .val (.lst (lI (rowAt ex p))), s9, s10], ⟨cm, s9, s10, hcm, ?_⟩, fun i d ρi hd hI => ?_, fun ρn hI => ?_⟩))))))))))))))))))⟩
      · omega
      · rw [Int.toNat_natCast]; exact (hst.at hp).1
      · omega
      · rw [Int.toNat_natCast]; exact nth_get (by omega)
      · rw [List.take_zero, List.append_nil]; rfl
      · obtain ⟨cm, s9', s10', hcm, rfl⟩ := hI
        rw [← hgp, zipI_eq, List.getElem?_map] at hd
        cases hz : (pr ex g p)[i]? with
        | none => rw [show ((rowAt ex p).zip (rowAt g p))[i]? = none from hz] at hd; cases hd
        | some tg =>
          rw [show ((rowAt ex p).zip (rowAt g p))[i]? = some tg from hz] at hd
          cases hd
          obtain ⟨t, n⟩ := tg
          have hm := (List.of_mem_zip (show (t, n) ∈ (rowAt ex p).zip (rowAt g p) from List.mem_of_getElem? hz)).1
          have t0 := v.lo _ (rowAt_mem hp) _ hm
          have t1 := v.hi _ (rowAt_mem hp) _ hm
          have gsn : goF ixA (upTo ex g p ++ (pr ex g p).take (i + 1)) ss = step1 ixA (goF ixA (upTo ex g p ++ (pr ex g p).take i) ss) (t, n) := by
            rw [goF_app, goF_snoc hz, ← goF_app]
          have cl : (goF ixA (upTo ex g p ++ (pr ex g p).take i) ss).length = ex.length := by rw [goF_len]; exact hss
          generalize goF ixA (upTo ex g p ++ (pr ex g p).take i) ss = acc at gsn cl
          refine ⟨_, _, rfl, ss_one (s_if (t_cmpG (nm 9 (w_int (o_ge ⟨_, rfl, ?_⟩)))))⟩
          by_cases ht : 0 ≤ t
          · rw [decide_eq_true ht]
            show WSs _ _ _ _
            refine ss_one (item 5 (w_bin false true (.inl rfl) (w_ix false true (fun _ _ => rfl) (.inl rfl) (nmO 5 (nm 9 (x_lst (d := .int (nth acc t.toNat)) ?_ (nm 10 (o_add ⟨_, rfl, nm 9 ⟨_, t.toNat, rfl, ?_, ?_⟩⟩))))))))
            · exact ints_atI (by omega) (nth_get (by rw [cl]; omega))
            · rw [lI_len]
              exact ixN_in (by omega) (by rw [cl]; omega)
            · refine ⟨cm, .val (.int t), .val (.int n), hcm, ?_⟩
              rw [gsn, stA ht]
              unfold lI
              rw [List.map_set]; rfl
          · rw [decide_eq_false ht]
            show WSs _ _ _ _
            refine ss_one (item 6 (w_bin false true (.inl rfl) (w_ix false true (fun _ _ => rfl) (.inl rfl) (nmO 6 (w_binG (w_un (w_int (o_neg (nm 9 (o_sub (x_lst (d := .int (nth cm (-1 - t).toNat)) ?_ (nm 10 (o_add ⟨_, rfl, w_binG (w_un (w_int (o_neg (nm 9 (o_sub ⟨_, (-1 - t).toNat, rfl, ?_, ?_⟩)))))⟩)))))))))))))
            · exact ints_atI (by omega) (nth_get (by rw [hcm]; omega))
            · rw [lI_len]
              exact ixN_in (by omega) (by rw [hcm]; omega)
            · refine ⟨cm.set (-1 - t).toNat (nth cm (-1 - t).toNat + n), .val (.int t), .val (.int n), by rw [List.length_set]; exact hcm, ?_⟩
              rw [gsn, stA0 ht]
              unfold lI
              rw [List.map_set]; rfl
      · obtain ⟨cm, s9', s10', hcm, rfl⟩ := hI
        refine ⟨cm, .val (.int (p : Int)), .val (.lst (lI (rowAt ex p))), s9', s10', hcm, ?_⟩
        rw [← hgp, upTo_succ, List.take_of_length_le (by rw [zipI_eq, List.length_map]; exact Nat.le_refl _)]
    · obtain ⟨cm, s7, s8, s9, s10, hcm, rfl⟩ := hI
      rw [enumR_len, hg, upTo_all]
      exact ⟨cm, s7, s8, s9, s10, rfl⟩
    · obtain ⟨cm, s7, s8, s9, s10, rfl⟩ := hI
      exact ss_share (i := 5) rfl (ss_share (i := 6) rfl (ss_one (s_ret (w_tup (aG (nm 5 (a1 (nm 6 ⟨by show 2 ≤ sizeLine; decide, q _⟩))))))))
end
end K37

namespace K37
open PySem PySem.Spec PyProof.Rows L2 DD
def endsL (e : Int) : List Int := (List.range e.toNat).map fun i : Nat => -1 - (i : Int)
def endD : D → D
  | .int i => .int (-1 - i)
  | _ => .non
section
variable {P : Program} {w : World} {K : PySem.W.Frag} {mg : Str → Option Value} {base : Heap} {f C : Addr} {fd : FuncData} {k : Nat}
/-! ### _points_to -/
def cPts (C : Addr) : List D → (D → Prop) → Prop := fun ds Z => ∃ e ex goals, ds = [netD C e ex, .lst (lI goals)] ∧ Valid e ex ∧ Z (.lst (lI (ptsTo ex goals)))
def testD (goals fs : List Int) : D → Bool
  | .tup [.int i, .lst l] => !decide (i ∈ fs) && l.any fun d => match d with | .int t => decide (t ∈ goals) || decide (t ∈ fs) | _ => false
  | _ => false
def inD (goals fs : List Int) : D → Bool
  | .int t => decide (t ∈ goals) || decide (t ∈ fs)
  | _ => false
def fstD : D → D
  | .tup [a, _] => a
  | _ => .non
theorem newPs_D (ex : List (List Int)) (goals fs : List Int) : (((List.range ex.length).map fun i : Nat => D.tup [.int (i : Int), .lst (lI (rowAt ex i))]).filter (testD goals fs)).map fstD = lI (newPs ex goals fs) := by
  have e0 : lI (newPs ex goals fs) = ((List.range ex.length).filter (newP ex goals fs)).map fun p : Nat => D.int (p : Int) := by unfold newPs lI; rw [List.map_map]; rfl
  rw [List.filter_map, List.map_map, e0]
  have e : (testD goals fs ∘ fun i : Nat => D.tup [.int (i : Int), .lst (lI (rowAt ex i))]) = newP ex goals fs := by
    funext i
    show (!decide ((i : Int) ∈ fs) && (lI (rowAt ex i)).any _) = _
    unfold newP lI
    rw [List.any_map]
    rfl
  rw [show (List.range ex.length).filter (testD goals fs ∘ fun i : Nat => D.tup [.int (i : Int), .lst (lI (rowAt ex i))]) = (List.range ex.length).filter (newP ex goals fs) by rw [e]]
  rfl
theorem ok_points_to {j : Nat} (T : Blt mg) (N : NetP P w K mg base C j) (hj : j ≤ k)
    (F : Fun K "_points_to" "_points_to" s_points_to f fd) : FnOk P w K mg base CX0 (k + 2) f fd ["net", "goals"] (spD (cPts C)) := by
  refine fnD F c_points_to (fun ds Z h => ?_) (fun cdv A outer s H E ds Z hr h => ?_)
  · obtain ⟨e, ex, goals, rfl, _⟩ := h
    rfl
  · obtain ⟨e, ex, goals, rfl, v, q⟩ := h
    have hrk := hr.mono (Nat.le_succ k)
    refine ss_cons (set 2 c_points_to (w_exits N (hr.mono (by omega)) (nm 0 ⟨e, ex, rfl, v, ?_⟩)))
    show WSs _ _ _ _
    refine ss_cons (setO 3 c_points_to (f_dic ?_))
    show WSs _ _ _ _
    refine ss_cons (set 4 c_points_to (w_bl ?_))
    show WSs _ _ _ _
    refine ss_cut (fun ρ => ∃ fs s4 s5 s6, Fnd ex goals fs ∧ (∀ i, i ∈ fs ↔ Lead ex goals i) ∧ ρ = [.val (netD C e ex), .val (.lst (lI goals)), .val (.lst (rowsL ex)), .own true (.dic (kf fs)), s4, s5, s6, .un, .un])
      (s_while PassesOwn.never (fun m ρ => ∃ fs b s5 s6, Fnd ex goals fs ∧ (b = false → ∀ i, i ∈ fs ↔ Lead ex goals i) ∧ m = 2 * (ex.length - fs.length) + (if b = true then 1 else 0) ∧ ρ = [.val (netD C e ex), .val (.lst (lI goals)), .val (.lst (rowsL ex)), .own true (.dic (kf fs)), .val (.bl b), s5, s6, .un, .un])
        (2 * ex.length + 1) ⟨[], true, .un, .un, ⟨List.nodup_nil, fun i hi => absurd hi (by simp)⟩, (fun z => nomatch z), rfl, rfl⟩ (fun m ρ' hI => ?_)) (fun ρ' hI => ?_)
    · obtain ⟨fs, b, s5, s6, hf, hb, hm, rfl⟩ := hI
      refine t_val (nm (d := .bl b) 4 ⟨b, rfl, ?_⟩)
      cases b with
      | false => exact ⟨fs, _, s5, s6, hf, hb rfl, rfl⟩
      | true =>
        show WSs _ _ _ _
        refine ss_cons (s_lc2If 5 6 7 (testD goals fs) fstD c_points_to (wi_enum rfl T.enum (a1 (nm 2 ⟨_, rfl, ?_⟩))))
        rw [enum_rows]
        refine ⟨?_, fun d hd => ?_, ?_⟩
        · rw [List.length_map, List.length_range]; have := v.n24; omega
        · obtain ⟨i, hi, rfl⟩ := List.mem_map.mp hd
          have hi := List.mem_range.mp hi
          refine ⟨_, _, rfl, fun s1 H1 C1 cl fp => ⟨?_, fun _ => nm 6 rfl⟩⟩
          refine t_bool (tb_and (t_ninDic (i := 3) (hu_of hr) (nm 6 ⟨_, _, rfl, rfl, ?_⟩)))
          rw [lookD_kf]
          show if (!decide ((i : Int) ∈ fs)) = true then _ else _
          by_cases hin : (i : Int) ∈ fs
          · rw [if_neg (by rw [decide_eq_true hin]; decide)]
            show false = (!decide ((i : Int) ∈ fs) && _)
            rw [decide_eq_true hin]; rfl
          · rw [if_pos (by rw [decide_eq_false hin]; rfl)]
            show WTB _ _ _ _ _ _ _
            refine tb_and1 (t_val (w_callB true rfl T.any (by decide +kernel) (a1 (lc1 8 (fun d => .bl (inD goals fs d)) c_points_to (wi_lst (nm 7 ⟨_, rfl, ?_, fun d hd s2 H2 C2 cl2 fp2 => ?_, c_anyD rfl ⟨_, rfl, ?_⟩⟩))))))
            · have : (lI (rowAt ex i)).length = (rowAt ex i).length := List.length_map _
              have hm : rowAt ex i ∈ ex := by unfold rowAt; rw [List.getD_eq_getElem?_getD, List.getElem?_eq_getElem hi]; exact List.getElem_mem hi
              have := v.r6 _ hm
              omega
            · obtain ⟨t, _, rfl⟩ := List.mem_map.mp hd
              refine w_or (w_cmpG (nm 8 (nm 1 (o_in ⟨_, rfl, ?_⟩))))
              show if decide (t ∈ goals) = true then _ else _
              by_cases hg : t ∈ goals
              · rw [if_pos (decide_eq_true hg)]
                show D.bl true = .bl (decide (t ∈ goals) || _)
                rw [decide_eq_true hg]; rfl
              · rw [if_neg (by rw [decide_eq_false hg]; decide)]
                show W _ _ _ _ _ _
                refine w_one (w_inDic (i := 3) (hu_of hr) (nm 8 ⟨_, _, rfl, rfl, ?_⟩))
                rw [lookD_kf]
                show D.bl (decide (t ∈ fs)) = .bl (decide (t ∈ goals) || decide (t ∈ fs))
                rw [decide_eq_false hg]; rfl
            · show (lI (rowAt ex i)).any (inD goals fs) = (!decide ((i : Int) ∈ fs) && (lI (rowAt ex i)).any _)
              rw [decide_eq_false hin]
              rfl
        · rw [newPs_D]
          show WSs _ _ _ _
          refine ss_cons (set 4 c_points_to (w_cmpG (w_callB true rfl T.len (by decide +kernel) (a1 (nm 5 (c_lenL (w_int (o_gt ?_))))))))
          show WSs _ _ _ _
          have eln : (lI (newPs ex goals fs)).length = (newPs ex goals fs).length := List.length_map _
          have hmore := hf.more
          have hlen := hmore.len
          rw [List.length_append] at hlen
          have hlt : kf fs = kf (fs ++ (newPs ex goals fs).take 0) := by rw [List.take_zero, List.append_nil]
          refine ss_one (for1 6 c_points_to (wi_lst (nm 5 ⟨_, rfl, fun i ρ => ∃ s6, ρ = [.val (netD C e ex), .val (.lst (lI goals)), .val (.lst (rowsL ex)), .own true (.dic (kf (fs ++ (newPs ex goals fs).take i))), .val (.bl (decide ((0 : Int) < ((lI (newPs ex goals fs)).length : Int)))), .val (.lst (lI (newPs ex goals fs))), s6, .un, .un], ⟨s6, ?_⟩, fun i d ρi hd hI => ?_, fun ρn hI => ?_⟩)))
          · rw [← hlt]; rfl
          · obtain ⟨s6', rfl⟩ := hI
            have hi : i < (newPs ex goals fs).length := by have := (List.getElem?_eq_some_iff.mp hd).1; rw [eln] at this; exact this
            have ed : d = .int (newPs ex goals fs)[i] := by
              unfold lI at hd
              rw [List.getElem?_map, List.getElem?_eq_getElem hi] at hd
              cases hd; rfl
            subst ed
            have etk : (newPs ex goals fs).take (i + 1) = (newPs ex goals fs).take i ++ [(newPs ex goals fs)[i]] := by rw [List.take_add_one, List.getElem?_eq_getElem hi]; rfl
            have hnot : (newPs ex goals fs)[i] ∉ fs ++ (newPs ex goals fs).take i := by
              have nd := hmore.nd
              have e2 : fs ++ newPs ex goals fs = (fs ++ (newPs ex goals fs).take i) ++ ((newPs ex goals fs)[i] :: (newPs ex goals fs).drop (i + 1)) := by
                rw [List.append_assoc, ← List.drop_eq_getElem_cons hi, List.take_append_drop]
              rw [e2] at nd
              intro hin
              exact (List.nodup_append.mp nd).2.2 _ hin _ List.mem_cons_self rfl
            refine ss_one (s_dput (i := 3) (hu_of hr) (w_bl (nm 6 ⟨_, _, rfl, rfl, ?_, .val (.int (newPs ex goals fs)[i]), ?_⟩)) (hr0 := ⟨_, rfl⟩))
            · unfold kf; rw [List.length_map, List.length_append, List.length_take]; have := v.n24; omega
            · rw [putD_kf hnot, etk, ← List.append_assoc]
              rfl
          · obtain ⟨s6', rfl⟩ := hI
            rw [eln, List.take_length]
            subst hm
            refine ⟨_, ?_, fs ++ newPs ex goals fs, _, _, s6', hmore, fun z => ?_, rfl, rfl⟩
            · rw [List.length_append]
              by_cases h0 : (newPs ex goals fs).length = 0
              · rw [h0, if_neg (by decide)]
                show _ < _ + 1
                omega
              · show _ < _ + 1
                split <;> omega
            · have z := of_decide_eq_false z
              have e0 : newPs ex goals fs = [] := List.length_eq_zero_iff.mp (by omega)
              rw [e0, List.append_nil]
              exact hf.all e0
    · obtain ⟨fs, s4, s5, s6, hf, hall, rfl⟩ := hI
      refine ss_one (s_ret (w_sortedDic (y := "found") (i := 3) (ns := fs) rfl T.sorted rfl ?_ ?_ fun ms pm pw => ?_))
      · unfold kf; rw [List.map_map]; rfl
      · have := hf.len; have := v.n24; omega
      · rw [hf.done hall pm pw]; exact q
end
section
variable {P : Program} {w : World} {K : PySem.W.Frag} {mg : Str → Option Value} {base : Heap} {f C : Addr} {fd : FuncData} {k : Nat}
theorem ok_points_to_ends {j : Nat} (T : Blt mg) (N : NetP P w K mg base C j) (hj : j + 1 ≤ k) (Fp : Df P w K mg base k "_points_to" ["net", "goals"] (spD (cPts C)))
    (F : Fun K "points_to_ends" "points_to_ends" s_points_to_ends f fd) : FnOk P w K mg base CX0 (k + 1) f fd ["net"] (spD (cNet C fun e ex => .lst (lI (ptsTo ex (endsL e))))) := by
  refine fnD F c_points_to_ends (fun ds Z h => ?_) (fun cdv A outer s H E ds Z hr h => ?_)
  · obtain ⟨e, ex, rfl, _⟩ := h
    rfl
  · obtain ⟨e, ex, rfl, v, q⟩ := h
    refine ss_one (s_ret (call Fp hr (aG (nm 0 (a1 (lc1 1 endD c_points_to_ends (wi_rng1 rfl T.range (a1 (w_ends N (hr.mono hj) (nm 0 ⟨e, ex, rfl, v, e, rfl, ?_, ?_, fun d hd _ _ _ _ _ => ?_, ?_⟩))))))))))
    · have := v.e0; have := v.e6; omega
    · rw [rng_len]; have := v.e6; omega
    · obtain ⟨i, _, rfl⟩ := List.mem_map.mp hd
      exact w_binG (w_un (w_int (o_neg (nm 1 (o_sub rfl)))))
    · have e1 : (rng 0 e.toNat).map endD = lI (endsL e) := by
        unfold rng endsL lI
        rw [List.map_map, List.map_map]
        refine List.map_congr_left fun i _ => ?_
        show D.int (-1 - (0 + (i : Int))) = .int (-1 - (i : Int))
        rw [Int.zero_add]
      rw [e1]
      exact ⟨e, ex, endsL e, rfl, v, q⟩
theorem ok_is_leading {j : Nat} (T : Blt mg) (N : NetP P w K mg base C j) (hj : j + 1 ≤ k) (Fn : Df P w K mg base k "check_net" ["net"] (spD (cNet C fun _ _ => .non))) (Fe : Df P w K mg base k "points_to_ends" ["net"] (spD (cNet C fun e ex => .lst (lI (ptsTo ex (endsL e))))))
    (F : Fun K "is_leading" "is_leading" s_is_leading f fd) : FnOk P w K mg base CX0 (k + 1) f fd ["net"] (spD (cNet C fun e ex => .bl (decide ((ptsTo ex (endsL e)).length = ex.length)))) := by
  refine fnD F c_is_leading (fun ds Z h => ?_) (fun cdv A outer s H E ds Z hr h => ?_)
  · obtain ⟨e, ex, rfl, _⟩ := h
    rfl
  · obtain ⟨e, ex, rfl, v, q⟩ := h
    refine ss_cons (s_expr (call Fn hr (a1 (nm 0 ⟨e, ex, rfl, v, ?_⟩))))
    show WSs _ _ _ _
    refine ss_one (s_ret (w_cmpG (w_callB true rfl T.len (by decide +kernel) (a1 (call Fe hr (a1 (nm 0 ⟨e, ex, rfl, v, c_lenL (w_points N (hr.mono hj) (nm 0 ⟨e, ex, rfl, v, o_eq ?_⟩))⟩)))))))
    have e2 : (lI (ptsTo ex (endsL e))).length = (ptsTo ex (endsL e)).length := List.length_map _
    rw [e2, show decide (((ptsTo ex (endsL e)).length : Int) = (ex.length : Int)) = decide ((ptsTo ex (endsL e)).length = ex.length) from decide_eq_decide.mpr (by omega)]
    exact q
end
end K37

namespace K37
open PySem PySem.Spec PyProof.Rows L2 DD
section
variable {P : Program} {w : World} {K : PySem.W.Frag} {mg : Str → Option Value} {base : Heap} {f C : Addr} {fd : FuncData} {k : Nat}
def cArrR : List D → (D → Prop) → Prop := fun ds Z => ∃ e ex st d0 ss d vs, ds = [.lst (deals ex st), d0, d] ∧ rowI d0 ss ∧ rowI d vs ∧ Valid e ex ∧ Nums ex.length vs ∧ ss.length = ex.length ∧ Z (.lst (lI (arrV ex st vs ss)))
theorem ok_arrivalsR (hml : mg "list" = none) (F : Fun K "arrivals" "arrivals" s_arrivals f fd) : FnOk P w K mg base CX0 (k + 1) f fd ["deals", "starts", "visits"] (spD cArrR) := by
  refine fnD F c_arrivals (fun ds Z h => ?_) (fun cdv A outer s H E ds Z hr h => ?_)
  · obtain ⟨e, ex, st, d0, ss, d, vs, rfl, _⟩ := h
    rfl
  · obtain ⟨e, ex, st, d0, ss, d, vs, rfl, hd0, hd, v, hvs, hss, q⟩ := h
    refine ss_cons (setO 3 c_arrivals (f_listR 1 hd0 hml rfl ?_))
    show WSs _ _ _ _
    refine ss_cut (fun ρ => ∃ s4 s5 s6 s7, ρ = [.val (.lst (deals ex st)), .val d0, .val d, .own true (.lst (lI (arrV ex st vs ss))), s4, s5, s6, s7])
      (for4 4 5 6 7 c_arrivals (wi_lst (nm 0 ⟨_, rfl, fun i ρ => ∃ s4 s5 s6 s7, ρ = [.val (.lst (deals ex st)), .val d0, .val d, .own true (.lst (lI (goF ixA ((trk ex st vs).take i) ss))), s4, s5, s6, s7], ⟨.un, .un, .un, .un, rfl⟩, fun i d2 ρi hd2 hI => ?_, fun ρn hI => ?_⟩))) (fun ρ' hI => ?_)
    · obtain ⟨s4, s5, s6, s7, rfl⟩ := hI
      obtain ⟨p, j, hp, hj, rfl, hz⟩ := deals_at v vs hd2
      obtain ⟨t0, t1⟩ := v.tg hp hj
      obtain ⟨ev, v0, v1⟩ := hvs.at hp
      have h6 := v.r6 _ (rowAt_mem hp)
      refine ⟨_, _, _, _, rfl, ss_one (s_if (t_cmpG (nm 7 (w_int (o_ge ⟨_, rfl, ?_⟩)))))⟩
      by_cases ht : 0 ≤ nth (rowAt ex p) j
      · rw [decide_eq_true ht]
        show WSs _ _ _ _
        have gl := goF_len ixA ((trk ex st vs).take i) ss
        refine ss_one (s_augItem 3 rfl (nm 7 ⟨_, _, _, rfl, ixN_in ht (by rw [gl, hss]; exact t1), nth_get (by rw [gl, hss]; omega), w_binG (w_binG (w_ix true true (fun _ _ => rfl) (.inr rfl) (nm 2 (nm 4 (row_ix hd ev (nm 5 (o_add (nm 6 (o_fdiv ⟨⟨?_, ?_⟩, _, rfl, ?_⟩)))))))))⟩))
        · omega
        · omega
        · refine ⟨.val (.int (p : Int)), .val (.int (((rowAt ex p).length : Int) - 1 - ((j : Int) - nth st p) % ((rowAt ex p).length : Int))), .val (.int ((rowAt ex p).length : Int)), .val (.int (nth (rowAt ex p) j)), ?_⟩
          rw [goF_snoc hz, stA ht]; rfl
      · rw [decide_eq_false ht]
        show WSs _ _ _ _
        refine ss_nil ⟨.val (.int (p : Int)), .val (.int (((rowAt ex p).length : Int) - 1 - ((j : Int) - nth st p) % ((rowAt ex p).length : Int))), .val (.int ((rowAt ex p).length : Int)), .val (.int (nth (rowAt ex p) j)), ?_⟩
        rw [goF_snoc hz, stA0 ht]; rfl
    · obtain ⟨s4, s5, s6, s7, rfl⟩ := hI
      rw [List.take_of_length_le (by rw [trk_len]; exact Nat.le_refl _)]
      exact ⟨s4, s5, s6, s7, rfl⟩
    · obtain ⟨s4, s5, s6, s7, rfl⟩ := hI
      exact ss_one (s_ret (nmS 3 q))
/-! ### rounds from nothing -/
def zL (ex : List (List Int)) (st ss : List Int) : Nat → List Int
  | 0 => List.replicate ex.length 0
  | k + 1 => arrV ex st (zL ex st ss k) ss
theorem nth_rep0 (n i : Nat) : nth (List.replicate n 0) i = 0 := by
  unfold nth
  rw [List.getD_eq_getElem?_getD, List.getElem?_replicate]
  split <;> rfl
theorem arr_zero {ex : List (List Int)} {st ss : List Int} (h1 : ∀ l ∈ ex, 1 ≤ l.length) (hs : ss.length = ex.length) (hb : ∀ x ∈ ss, 0 ≤ x) : arrV ex st (List.replicate ex.length 0) ss = ss := by
  have hl : (arrV ex st (List.replicate ex.length 0) ss).length = ss.length := goF_len _ _ _
  have hbn : ∀ p, p < (ntOf ex st ss h1).n → 0 ≤ (ntOf ex st ss h1).b p := fun p hp => hb _ (nth_mem (l := ss) (j := p) (by rw [hs]; exact hp))
  apply List.ext_getElem?
  intro i
  by_cases hi : i < ex.length
  · rw [nth_get (by omega), nth_get (by omega), arr_at h1 hs hi]
    have z := ((ntOf ex st ss h1).inv_new hbn).eq i hi
    have z : nth ss i = nth ss i + sumN (fun p => (ntOf ex st ss h1).go (fun _ => 0) p i) ex.length - 0 := z
    have e : (nth (List.replicate ex.length 0) : Nat → Int) = fun _ => 0 := funext fun i => nth_rep0 _ i
    rw [e]
    exact congrArg some (by omega)
  · rw [List.getElem?_eq_none (by omega), List.getElem?_eq_none (by omega)]
theorem zL_its {ex : List (List Int)} {st ss : List Int} (h1 : ∀ l ∈ ex, 1 ≤ l.length) (hs : ss.length = ex.length) (hb : ∀ x ∈ ss, 0 ≤ x) : ∀ k, zL ex st ss (k + 1) = itsL ex st ss k
  | 0 => arr_zero h1 hs hb
  | k + 1 => by
    show arrV ex st (zL ex st ss (k + 1)) ss = arrV ex st (itsL ex st ss k) ss
    rw [zL_its h1 hs hb k]
theorem zL_len {ex : List (List Int)} {st ss : List Int} (hs : ss.length = ex.length) : ∀ k, (zL ex st ss k).length = ex.length
  | 0 => List.length_replicate
  | _ + 1 => (goF_len _ _ _).trans hs
/-- a least flow: what comes is what leaves, last exits without a ring -/
structure LF (ex : List (List Int)) (st ss u : List Int) : Prop where
  len : u.length = ex.length
  nn : ∀ x ∈ u, 0 ≤ x
  eq : arrV ex st u ss = u
  nr : hasR ex st u = false
  le : sumN (nth u) ex.length ≤ 10000
theorem LF.flow {ex : List (List Int)} {st ss u : List Int} (h : LF ex st ss u) (h1 : ∀ l ∈ ex, 1 ≤ l.length) (hs : ss.length = ex.length) : (ntOf ex st ss h1).Flow (nth u) := (flow_iff h1 hs h.len h.nn).mpr h.eq
theorem LF.noring {ex : List (List Int)} {st ss u : List Int} (h : LF ex st ss u) (h1 : ∀ l ∈ ex, 1 ≤ l.length) : (ntOf ex st ss h1).NoRing (nth u) := (hasR_iff h1).mp h.nr
theorem list_ext {n : Nat} {a b : List Int} (ha : a.length = n) (hb : b.length = n) (h : ∀ i, i < n → nth a i = nth b i) : a = b := by
  apply List.ext_getElem?
  intro i
  by_cases hi : i < n
  · rw [nth_get (by omega), nth_get (by omega), h i hi]
  · rw [List.getElem?_eq_none (by omega), List.getElem?_eq_none (by omega)]
theorem zL_facts {ex : List (List Int)} {st ss u : List Int} (h : LF ex st ss u) (h1 : ∀ l ∈ ex, 1 ≤ l.length) (hs : ss.length = ex.length) (hb : ∀ x ∈ ss, 0 ≤ x) (k : Nat) :
    (∀ i, i < ex.length → 0 ≤ nth (zL ex st ss k) i ∧ nth (zL ex st ss k) i ≤ nth u i) ∧ (∀ i, i < ex.length → nth (zL ex st ss k) i ≤ nth (zL ex st ss (k + 1)) i) ∧ (zL ex st ss (k + 1) = zL ex st ss k → zL ex st ss k = u) := by
  have hbn : ∀ p, p < (ntOf ex st ss h1).n → 0 ≤ (ntOf ex st ss h1).b p := fun p hp => hb _ (nth_mem (l := ss) (j := p) (by rw [hs]; exact hp))
  have hf := h.flow h1 hs
  have hr := h.noring (ss := ss) h1
  cases k with
  | zero =>
    refine ⟨fun i hi => ?_, fun i hi => ?_, fun e => ?_⟩
    · show 0 ≤ nth (List.replicate ex.length 0) i ∧ nth (List.replicate ex.length 0) i ≤ nth u i
      rw [nth_rep0]
      exact ⟨Int.le_refl _, h.nn _ (nth_mem (by rw [h.len]; exact hi))⟩
    · show nth (List.replicate ex.length 0) i ≤ nth (zL ex st ss (0 + 1)) i
      rw [nth_rep0, zL_its h1 hs hb 0]
      exact hb _ (nth_mem (l := ss) (j := i) (by omega))
    · have ez : arrV ex st (zL ex st ss 0) ss = zL ex st ss 0 := e
      have nz : ∀ x ∈ zL ex st ss 0, 0 ≤ x := fun x hx => by rw [List.eq_of_mem_replicate (show x ∈ List.replicate ex.length 0 from hx)]; decide
      have fz := (flow_iff h1 hs (zL_len hs 0) nz).mpr ez
      refine list_ext (zL_len hs 0) h.len fun i hi => ?_
      have a := (ntOf ex st ss h1).least hf fz hr i hi
      have b := h.nn _ (nth_mem (l := u) (j := i) (by rw [h.len]; exact hi))
      have c : nth (zL ex st ss 0) i = 0 := nth_rep0 _ i
      omega
  | succ k =>
    rw [zL_its h1 hs hb k, zL_its h1 hs hb (k + 1)]
    refine ⟨fun i hi => ?_, fun i hi => ?_, fun e => ?_⟩
    · rw [itsL_at h1 hs k i hi]
      exact ⟨(ntOf ex st ss h1).its_nn hbn k i hi, (ntOf ex st ss h1).its_below hf k i hi⟩
    · rw [itsL_at h1 hs k i hi, itsL_at h1 hs (k + 1) i hi]
      exact (ntOf ex st ss h1).its_rise hbn k i hi
    · have fx := (ntOf ex st ss h1).its_fix hbn (k := k) fun p hp => by
        rw [← itsL_at h1 hs (k + 1) p hp, ← itsL_at h1 hs k p hp, e]
      refine list_ext (by rw [itsL_len, hs]) h.len fun i hi => ?_
      rw [itsL_at h1 hs k i hi]
      exact (fx.2.2.2 (nth u) hf hr i hi).symm
theorem zL_sum {ex : List (List Int)} {st ss u : List Int} (h : LF ex st ss u) (h1 : ∀ l ∈ ex, 1 ≤ l.length) (hs : ss.length = ex.length) (hb : ∀ x ∈ ss, 0 ≤ x) (k : Nat) (hne : zL ex st ss (k + 1) ≠ zL ex st ss k) : sumN (nth (zL ex st ss k)) ex.length + 1 ≤ sumN (nth (zL ex st ss (k + 1))) ex.length := by
  obtain ⟨_, b, _⟩ := zL_facts h h1 hs hb k
  apply Classical.byContradiction
  intro z
  refine hne (list_ext (zL_len hs _) (zL_len hs _) fun i hi => ?_)
  have s := sumN_sub (nth (zL ex st ss (k + 1))) (nth (zL ex st ss k)) ex.length
  have e := sumN_each (f := fun i => nth (zL ex st ss (k + 1)) i - nth (zL ex st ss k) i) ex.length (fun i hi => by have := b i hi; omega) (by omega) i hi
  have e : nth (zL ex st ss (k + 1)) i - nth (zL ex st ss k) i = 0 := e
  omega
theorem zL_low {ex : List (List Int)} {st ss u : List Int} (h : LF ex st ss u) (h1 : ∀ l ∈ ex, 1 ≤ l.length) (hs : ss.length = ex.length) (hb : ∀ x ∈ ss, 0 ≤ x) (k : Nat) : sumN (nth (zL ex st ss k)) ex.length ≤ sumN (nth u) ex.length := sumN_le _ fun i hi => ((zL_facts h h1 hs hb k).1 i hi).2
theorem zL_nums {ex : List (List Int)} {st ss u : List Int} (h : LF ex st ss u) (h1 : ∀ l ∈ ex, 1 ≤ l.length) (hs : ss.length = ex.length) (hb : ∀ x ∈ ss, 0 ≤ x) (k : Nat) : Nums ex.length (zL ex st ss k) := ⟨zL_len hs k, fun x hx => by
  obtain ⟨i, hi, rfl⟩ := List.mem_iff_getElem.mp hx
  have hl := zL_len (ex := ex) (st := st) hs k
  have e : (zL ex st ss k)[i] = nth (zL ex st ss k) i := by
    have := nth_get hi
    rw [List.getElem?_eq_getElem hi] at this
    injection this
  have a := (zL_facts h h1 hs hb k).1
  have b := zL_low h h1 hs hb k
  have c := sumN_one_le (f := nth (zL ex st ss k)) ex.length (show i < ex.length by omega) fun j hj => (a j hj).1
  have d := h.le
  rw [e]
  exact ⟨(a i (by omega)).1, Int.lt_of_le_of_lt (show nth (zL ex st ss k) i ≤ 10000 by omega) (by decide)⟩⟩
/-! ### the program's rounds -/
def cCL (C : Addr) : List D → (D → Prop) → Prop := fun ds Z => ∃ e ex, ds = [netD C e ex] ∧ Valid e ex ∧ (ptsTo ex (endsL e)).length = ex.length ∧ Z .non
theorem ok_check_leading (Fl : Df P w K mg base k "is_leading" ["net"] (spD (cNet C fun e ex => .bl (decide ((ptsTo ex (endsL e)).length = ex.length))))) (F : Fun K "check_leading" "check_leading" s_check_leading f fd) : FnOk P w K mg base CX0 (k + 1) f fd ["net"] (spD (cCL C)) := by
  refine fnD F c_check_leading (fun ds Z h => ?_) (fun cdv A outer s H E ds Z hr h => ?_)
  · obtain ⟨e, ex, rfl, _⟩ := h
    rfl
  · obtain ⟨e, ex, rfl, v, hl, q⟩ := h
    refine ss_one (s_if (t_not (t_val (call Fl hr (a1 (nm 0 ⟨e, ex, rfl, v, _, rfl, ?_⟩))))))
    rw [decide_eq_true hl]
    show WSs _ [] _ _
    exact ss_nil q
/-! ### all rows of small numbers -/
def prodL (m : Nat) : Nat → List (List Int)
  | 0 => [[]]
  | k + 1 => (prodL m k).flatMap fun r => (List.range (m + 1)).map fun i : Nat => r ++ [(i : Int)]
theorem prodL_mem {m : Nat} : ∀ {k : Nat} {r : List Int}, r ∈ prodL m k → r.length = k ∧ ∀ x ∈ r, 0 ≤ x ∧ x ≤ m
  | 0, r, h => by
    have : r = [] := by simpa [prodL] using h
    subst this
    exact ⟨rfl, fun x hx => by cases hx⟩
  | k + 1, r, h => by
    obtain ⟨a, ha, h⟩ := List.mem_flatMap.mp (show r ∈ (prodL m k).flatMap fun r => (List.range (m + 1)).map fun i : Nat => r ++ [(i : Int)] from h)
    obtain ⟨i, hi, rfl⟩ := List.mem_map.mp h
    obtain ⟨b, c⟩ := prodL_mem ha
    have := List.mem_range.mp hi
    refine ⟨by rw [List.length_append, b]; rfl, fun x hx => ?_⟩
    rcases List.mem_append.mp hx with hx | hx
    · exact c x hx
    · have : x = (i : Int) := by simpa using hx
      omega
theorem prodL_len (m : Nat) : ∀ k, (prodL m k).length = (m + 1) ^ k
  | 0 => rfl
  | k + 1 => by
    show ((prodL m k).flatMap fun r => (List.range (m + 1)).map fun i : Nat => r ++ [(i : Int)]).length = _
    rw [List.length_flatMap, List.map_congr_left (g := fun _ => m + 1) (fun r _ => by rw [List.length_map, List.length_range])]
    rw [List.map_const', List.sum_replicate_nat, prodL_len m k, Nat.pow_succ]
end
end K37

namespace K37
open PySem PySem.Spec PyProof.Rows L2 DD
theorem sumN_bd {f : Nat → Int} {c : Int} : ∀ n, (∀ i, i < n → f i ≤ c) → sumN f n ≤ c * n
  | 0, _ => by show (0 : Int) ≤ c * ((0 : Nat) : Int); simp
  | n + 1, h => by
    have a := sumN_bd (f := f) (c := c) n fun i hi => h i (by omega)
    have b := h n (by omega)
    show sumN f n + f n ≤ _
    have e : c * ((n + 1 : Nat) : Int) = c * n + c := by rw [Int.natCast_add, Int.mul_add]; simp
    rw [e]; omega
/-! ### points found one behind the other -/
structure OrdF (ex : List (List Int)) (fs : List Nat) : Prop where
  nd : fs.Nodup
  lt : ∀ p ∈ fs, p < ex.length
  st : ∀ (i p : Nat), fs[i]? = some p → ∃ t ∈ rowAt ex p, t < 0 ∨ ∃ j q : Nat, j < i ∧ fs[j]? = some q ∧ t = (q : Int)
theorem nodup_len {fs : List Nat} {n : Nat} (nd : fs.Nodup) (lt : ∀ p ∈ fs, p < n) : fs.length ≤ n := by
  have pm : fs.Perm ((List.range n).filter fun i => decide (i ∈ fs)) := (List.perm_ext_iff_of_nodup nd (List.nodup_range.filter _)).mpr fun i => by
    rw [List.mem_filter, decide_eq_true_iff, List.mem_range]
    exact ⟨fun h => ⟨lt i h, h⟩, fun h => h.2⟩
  have h := List.length_filter_le (fun i => decide (i ∈ fs)) (List.range n)
  rw [← pm.length_eq, List.length_range] at h
  exact h
theorem ord_more {e : Int} {ex : List (List Int)} (v : Valid e ex) {fs : List Nat} : ∀ i, Lead ex (endsL e) i → ∀ p : Nat, i = (p : Int) → p ∉ fs → ∃ p', p' < ex.length ∧ p' ∉ fs ∧ ∃ t ∈ rowAt ex p', t < 0 ∨ ∃ q ∈ fs, t = (q : Int) := fun i h => by
  induction h with
  | goal hp ht hg =>
    intro p e2 hn
    have e3 : _ = p := Int.ofNat.inj e2
    subst e3
    have hg := List.mem_map.mp hg
    obtain ⟨a, _, rfl⟩ := hg
    exact ⟨_, hp, hn, _, ht, .inl (by omega)⟩
  | via hp ht hl ih =>
    intro p e2 hn
    have e3 : _ = p := Int.ofNat.inj e2
    subst e3
    obtain ⟨q, hq, rfl⟩ := hl.pt
    by_cases hqf : q ∈ fs
    · exact ⟨_, hp, hn, _, ht, .inr ⟨q, hqf, rfl⟩⟩
    · exact ih q rfl hqf
theorem ord_all {e : Int} {ex : List (List Int)} (v : Valid e ex) (hl : ∀ p : Nat, p < ex.length → Lead ex (endsL e) (p : Int)) : ∃ fs, OrdF ex fs ∧ ∀ p, p < ex.length → p ∈ fs := by
  have key : ∀ k, ∃ fs, OrdF ex fs ∧ (k ≤ fs.length ∨ ∀ p, p < ex.length → p ∈ fs) := fun k => by
    induction k with
    | zero => exact ⟨[], ⟨List.nodup_nil, (fun p hp => by cases hp), (fun i p h => by simp at h)⟩, .inl (Nat.zero_le _)⟩
    | succ k ih =>
      obtain ⟨fs, o, h⟩ := ih
      by_cases ha : ∀ p, p < ex.length → p ∈ fs
      · exact ⟨fs, o, .inr ha⟩
      · have h := h.resolve_right ha
        obtain ⟨p, hp⟩ := Classical.not_forall.mp ha
        obtain ⟨hp, hn⟩ := Classical.not_imp.mp hp
        obtain ⟨p', h1, h2, t, ht, h3⟩ := ord_more v _ (hl p hp) p rfl hn
        refine ⟨fs ++ [p'], ⟨List.nodup_append.mpr ⟨o.nd, by simp, fun a ha b hb => ?_⟩, fun q hq => ?_, fun i q hq => ?_⟩, .inl (by rw [List.length_append]; show k + 1 ≤ _ + 1; omega)⟩
        · have : b = p' := by simpa using hb
          subst this
          exact fun z => h2 (z ▸ ha)
        · rcases List.mem_append.mp hq with hq | hq
          · exact o.lt q hq
          · have : q = p' := by simpa using hq
            rw [this]; exact h1
        · by_cases hi : i < fs.length
          · rw [List.getElem?_append_left hi] at hq
            obtain ⟨t, ht, h4⟩ := o.st i q hq
            refine ⟨t, ht, h4.imp id fun ⟨j, r, hj, hr, e⟩ => ⟨j, r, hj, ?_, e⟩⟩
            rw [List.getElem?_append_left (by omega)]; exact hr
          · have hi2 : i = fs.length := by
              have := (List.getElem?_eq_some_iff.mp hq).1
              rw [List.length_append] at this
              have : i < fs.length + 1 := this
              omega
            subst hi2
            rw [List.getElem?_append_right (Nat.le_refl _), Nat.sub_self] at hq
            have : q = p' := by simpa using hq.symm
            subst this
            refine ⟨t, ht, h3.imp id fun ⟨r, hr, e⟩ => ?_⟩
            obtain ⟨j, hj⟩ := List.mem_iff_getElem?.mp hr
            have hj2 := (List.getElem?_eq_some_iff.mp hj).1
            exact ⟨j, r, hj2, by rw [List.getElem?_append_left hj2]; exact hj, e⟩
  obtain ⟨fs, o, h⟩ := key (ex.length + 1)
  refine ⟨fs, o, h.resolve_left fun z => ?_⟩
  have := nodup_len o.nd o.lt
  omega
def posN : List Nat → Nat → Nat
  | [], _ => 0
  | a :: r, p => if a = p then 0 else posN r p + 1
theorem posN_le : ∀ {fs : List Nat} {j q : Nat}, fs[j]? = some q → posN fs q ≤ j
  | [], j, q, h => by simp at h
  | a :: r, 0, q, h => by
    have : a = q := by simpa using h
    show (if a = q then 0 else posN r q + 1) ≤ 0
    rw [if_pos this]; exact Nat.le_refl _
  | a :: r, j + 1, q, h => by
    have ih := posN_le (fs := r) (j := j) (q := q) (by simpa using h)
    show (if a = q then 0 else posN r q + 1) ≤ j + 1
    split <;> omega
theorem posN_at : ∀ {fs : List Nat} {p : Nat}, p ∈ fs → fs[posN fs p]? = some p
  | a :: r, p, h => by
    show (a :: r)[if a = p then 0 else posN r p + 1]? = some p
    by_cases e : a = p
    · rw [if_pos e, e]; rfl
    · rw [if_neg e]
      exact posN_at ((List.mem_cons.mp h).resolve_left fun z => e z.symm)
theorem leads_of {e : Int} {ex : List (List Int)} {st ss : List Int} (v : Valid e ex) (hl : ∀ p : Nat, p < ex.length → Lead ex (endsL e) (p : Int)) : ∃ ds : Nat → Nat, (ntOf ex st ss v.r1).Leads ds ∧ ∀ p, p < ex.length → ds p + 1 ≤ ex.length := by
  obtain ⟨fs, o, ha⟩ := ord_all v hl
  have ln := nodup_len o.nd o.lt
  refine ⟨posN fs, fun p hp => ?_, fun p hp => ?_⟩
  · have hp : p < ex.length := hp
    have hat := posN_at (ha p hp)
    obtain ⟨t, ht, h⟩ := o.st _ p hat
    obtain ⟨i, hi⟩ := List.mem_iff_getElem?.mp ht
    have hi2 := (List.getElem?_eq_some_iff.mp hi).1
    have et : (ntOf ex st ss v.r1).tg p i = t := by
      show nth (rowAt ex p) i = t
      unfold nth
      rw [List.getD_eq_getElem?_getD, hi]; rfl
    refine ⟨i, hi2, ?_⟩
    rcases h with h | ⟨j, q, hj, hq, rfl⟩
    · right
      rw [et]
      exact fun z => by omega
    · left
      exact ⟨q, o.lt q (List.mem_of_getElem? hq), et, Nat.lt_of_le_of_lt (posN_le hq) hj⟩
  · have := (List.getElem?_eq_some_iff.mp (posN_at (ha p hp))).1
    omega
open Classical in
theorem ptsTo_full {e : Int} {ex : List (List Int)} (hl : ∀ p : Nat, p < ex.length → Lead ex (endsL e) (p : Int)) : (ptsTo ex (endsL e)).length = ex.length := by
  unfold ptsTo
  rw [List.filter_eq_self.mpr fun i hi => ?_, nats_len]
  obtain ⟨h0, h1⟩ := mem_nats.mp hi
  have := hl i.toNat (by omega)
  rw [Int.toNat_of_nonneg h0] at this
  exact decide_eq_true this
/-! ### a bound of all visits -/
theorem inv_small {e : Int} {ex : List (List Int)} {st ss : List Int} (v : Valid e ex) (h3 : ex.length ≤ 3) (hr3 : ∀ l ∈ ex, l.length ≤ 3) (hs : ss.length = ex.length) (hb : ∀ x ∈ ss, 0 ≤ x ∧ x ≤ 4) (hl : ∀ p : Nat, p < ex.length → Lead ex (endsL e) (p : Int)) {c : Cr} (I : (ntOf ex st ss v.r1).Inv c) : sumN c.v ex.length ≤ 1600 := by
  obtain ⟨ds, L, hd⟩ := leads_of (st := st) (ss := ss) v hl
  have hbn : ∀ p, p < (ntOf ex st ss v.r1).n → 0 ≤ (ntOf ex st ss v.r1).b p := fun p hp => (hb _ (nth_mem (l := ss) (j := p) (by rw [hs]; exact hp))).1
  have hB : sumN (ntOf ex st ss v.r1).b (ntOf ex st ss v.r1).n ≤ 12 := by
    have a := sumN_bd (f := (ntOf ex st ss v.r1).b) (c := 4) (ntOf ex st ss v.r1).n fun p hp => (hb _ (nth_mem (l := ss) (j := p) (by rw [hs]; exact hp))).2
    have n3 : (((ntOf ex st ss v.r1).n : Nat) : Int) ≤ 3 := by show ((ex.length : Nat) : Int) ≤ 3; omega
    omega
  have hB0 : 0 ≤ sumN (ntOf ex st ss v.r1).b (ntOf ex st ss v.r1).n := sumN_nn hbn
  have one : ∀ p, p < ex.length → c.v p ≤ 507 := fun p hp => by
    have z := I.bound hbn L (m := 3) (by decide) (fun p hp => by
      have := hr3 _ (rowAt_mem (show p < ex.length from hp))
      show ((rowAt ex p).length : Int) ≤ 3
      omega) 2 p hp (by have := hd p hp; omega)
    have e : bdN 3 (sumN (ntOf ex st ss v.r1).b (ntOf ex st ss v.r1).n) 2 = 3 * (3 * (3 * (sumN (ntOf ex st ss v.r1).b (ntOf ex st ss v.r1).n + 1) + sumN (ntOf ex st ss v.r1).b (ntOf ex st ss v.r1).n + 1) + sumN (ntOf ex st ss v.r1).b (ntOf ex st ss v.r1).n + 1) := rfl
    rw [e] at z
    omega
  have a := sumN_bd (f := c.v) (c := 507) ex.length one
  omega
/-! ### one train's run -/
def rn (ex : List (List Int)) (s : Int × List Int × List Int) : Int × List Int × List Int :=
  if 0 ≤ s.1 then (nth (rowAt ex s.1.toNat) (nth s.2.2 s.1.toNat).toNat, s.2.1.set s.1.toNat (nth s.2.1 s.1.toNat + 1), s.2.2.set s.1.toNat ((nth s.2.2 s.1.toNat + 1) % ((rowAt ex s.1.toNat).length : Int))) else s
def rnk (ex : List (List Int)) : Nat → Int × List Int × List Int → Int × List Int × List Int
  | 0, s => s
  | k + 1, s => rn ex (rnk ex k s)
structure RK {e : Int} {ex : List (List Int)} (v : Valid e ex) (st ss F : List Int) (wr : Nat → Int) (s : Int × List Int × List Int) (c : Cr) : Prop where
  I : (ntOf ex st ss v.r1).Inv c
  cv : ∀ q, q < ex.length → c.v q = nth F q + nth s.2.1 q
  cw : ∀ q, q < ex.length → c.w q = wr q + (if s.1 = (q : Int) then 1 else 0)
  lv : s.2.1.length = ex.length
  ll : s.2.2.length = ex.length
  at_ : ∀ q, q < ex.length → nth s.2.2 q = (nth st q + c.v q) % ((rowAt ex q).length : Int)
  hi : -e ≤ s.1 ∧ s.1 < ex.length
theorem RK.step {e : Int} {ex : List (List Int)} {v : Valid e ex} {st ss F : List Int} {wr : Nat → Int} (hw : ∀ q, q < ex.length → 0 ≤ wr q) {s : Int × List Int × List Int} {c : Cr} (h : RK v st ss F wr s c) (h0 : 0 ≤ s.1) : RK v st ss F wr (rn ex s) ((ntOf ex st ss v.r1).mv c s.1.toNat) := by
  obtain ⟨wh, vis, lat⟩ := s
  obtain ⟨I, cv, cw, lv, ll, at_, hi⟩ := h
  have h0 : 0 ≤ wh := h0
  have lv : vis.length = ex.length := lv
  have ll : lat.length = ex.length := ll
  have hi : -e ≤ wh ∧ wh < ex.length := hi
  obtain ⟨p, rfl⟩ : ∃ p : Nat, wh = (p : Int) := ⟨wh.toNat, by omega⟩
  have hp : p < ex.length := by omega
  show RK v st ss F wr (if 0 ≤ ((p : Nat) : Int) then _ else _) ((ntOf ex st ss v.r1).mv c ((p : Nat) : Int).toNat)
  rw [if_pos h0]
  show RK v st ss F wr (nth (rowAt ex ((p : Nat) : Int).toNat) (nth lat ((p : Nat) : Int).toNat).toNat, vis.set ((p : Nat) : Int).toNat (nth vis ((p : Nat) : Int).toNat + 1), lat.set ((p : Nat) : Int).toNat ((nth lat ((p : Nat) : Int).toNat + 1) % ((rowAt ex ((p : Nat) : Int).toNat).length : Int))) ((ntOf ex st ss v.r1).mv c ((p : Nat) : Int).toNat)
  rw [Int.toNat_natCast]
  have h1 := v.r1 _ (rowAt_mem hp)
  have m0 := Int.emod_nonneg (nth st p + c.v p) (show ((rowAt ex p).length : Int) ≠ 0 by omega)
  have m1 := Int.emod_lt_of_pos (nth st p + c.v p) (show (0 : Int) < (rowAt ex p).length by omega)
  have ep := at_ p hp
  have ep : nth lat p = (nth st p + c.v p) % ((rowAt ex p).length : Int) := ep
  have hm : nth (rowAt ex p) (nth lat p).toNat ∈ rowAt ex p := nth_mem (by rw [ep]; omega)
  have eto : (ntOf ex st ss v.r1).to c.v p = nth (rowAt ex p) (nth lat p).toNat := by rw [ep]; rfl
  have cwp := cw p hp
  have cwp : c.w p = wr p + (if (p : Int) = (p : Int) then 1 else 0) := cwp
  rw [if_pos rfl] at cwp
  have wp := hw p hp
  refine ⟨(ntOf ex st ss v.r1).inv_mv I hp (by omega), fun q hq => ?_, fun q hq => ?_, by show (vis.set p _).length = _; rw [List.length_set]; exact lv, by show (lat.set p _).length = _; rw [List.length_set]; exact ll, fun q hq => ?_, ⟨v.lo _ (rowAt_mem hp) _ hm, v.hi _ (rowAt_mem hp) _ hm⟩⟩
  · show upN c.v p (c.v p + 1) q = nth F q + nth (vis.set p (nth vis p + 1)) q
    have a := cv q hq
    have a : c.v q = nth F q + nth vis q := a
    rw [nth_set]
    by_cases z : q = p
    · subst z
      rw [upN_self, if_pos ⟨rfl, by omega⟩]; omega
    · rw [upN_ne z, if_neg (fun y => z y.1.symm)]; exact a
  · show c.w q - (if q = p then 1 else 0) + (if (ntOf ex st ss v.r1).to c.v p = (q : Int) then 1 else 0) = wr q + (if nth (rowAt ex p) (nth lat p).toNat = (q : Int) then 1 else 0)
    rw [eto]
    have a := cw q hq
    have a : c.w q = wr q + (if (p : Int) = (q : Int) then 1 else 0) := a
    by_cases z : q = p
    · subst z
      rw [if_pos rfl] at a ⊢; omega
    · rw [if_neg (fun y => z (by omega))] at a
      rw [if_neg z]; omega
  · show nth (lat.set p ((nth lat p + 1) % ((rowAt ex p).length : Int))) q = (nth st q + upN c.v p (c.v p + 1) q) % ((rowAt ex q).length : Int)
    rw [nth_set]
    by_cases z : q = p
    · subst z
      rw [upN_self, if_pos ⟨rfl, by omega⟩, ep, Int.emod_add_emod]
      congr 1; omega
    · rw [upN_ne z, if_neg (fun y => z y.1.symm)]
      exact at_ q hq
theorem run_one {e : Int} {ex : List (List Int)} {st ss F : List Int} (v : Valid e ex) (h3 : ex.length ≤ 3) (hr3 : ∀ l ∈ ex, l.length ≤ 3) (hs : ss.length = ex.length) (hb : ∀ x ∈ ss, 0 ≤ x ∧ x ≤ 4) (hl : ∀ p : Nat, p < ex.length → Lead ex (endsL e) (p : Int))
    {wr : Nat → Int} (hw : ∀ q, q < ex.length → 0 ≤ wr q) {s : Int × List Int × List Int} {c : Cr} (h : RK v st ss F wr s c) : ∀ k : Nat, ∃ c', RK v st ss F wr (rnk ex k s) c' ∧ ((rnk ex k s).1 < 0 ∨ sumN c.v ex.length + k ≤ sumN c'.v ex.length)
  | 0 => ⟨c, h, .inr (by show _ + ((0 : Nat) : Int) ≤ _; omega)⟩
  | k + 1 => by
    obtain ⟨c', h', hk⟩ := run_one v h3 hr3 hs hb hl hw h k
    by_cases h0 : 0 ≤ (rnk ex k s).1
    · refine ⟨_, h'.step hw h0, .inr ?_⟩
      have hp : (rnk ex k s).1.toNat < ex.length := by have := h'.hi.2; omega
      have a := (ntOf ex st ss v.r1).mv_sum (c := c') (p := (rnk ex k s).1.toNat) hp
      have a : sumN ((ntOf ex st ss v.r1).mv c' (rnk ex k s).1.toNat).v ex.length = sumN c'.v ex.length + 1 := a
      rcases hk with hk | hk
      · omega
      · rw [a]; omega
    · have e : rnk ex (k + 1) s = rnk ex k s := if_neg h0
      rw [e]
      exact ⟨c', h', .inl (by omega)⟩
theorem run_end {e : Int} {ex : List (List Int)} {st ss F : List Int} (v : Valid e ex) (h3 : ex.length ≤ 3) (hr3 : ∀ l ∈ ex, l.length ≤ 3) (hs : ss.length = ex.length) (hb : ∀ x ∈ ss, 0 ≤ x ∧ x ≤ 4) (hl : ∀ p : Nat, p < ex.length → Lead ex (endsL e) (p : Int))
    {wr : Nat → Int} (hw : ∀ q, q < ex.length → 0 ≤ wr q) {s : Int × List Int × List Int} {c : Cr} (h : RK v st ss F wr s c) : ∃ c', RK v st ss F wr (rnk ex 4000 s) c' ∧ (rnk ex 4000 s).1 < 0 := by
  obtain ⟨K, hK⟩ : ∃ K, K = 4000 := ⟨_, rfl⟩
  rw [← hK]
  obtain ⟨c', h', hk⟩ := run_one v h3 hr3 hs hb hl hw h K
  refine ⟨c', h', hk.resolve_right fun z => ?_⟩
  have a := inv_small v h3 hr3 hs hb hl h'.I
  have b := sumN_nn (f := c.v) (n := ex.length) h.I.v0
  omega
theorem LF.uniq {ex : List (List Int)} {st ss a b : List Int} (ha : LF ex st ss a) (hb : LF ex st ss b) (h1 : ∀ l ∈ ex, 1 ≤ l.length) (hs : ss.length = ex.length) : a = b :=
  list_ext ha.len hb.len ((ntOf ex st ss h1).uniq (ha.flow h1 hs) (hb.flow h1 hs) (ha.noring h1) (hb.noring h1))
end K37

namespace K37
open PySem PySem.Spec PyProof.Rows L2 DD
theorem mem_endsL {e t : Int} (e0 : 0 ≤ e) : t ∈ endsL e ↔ -e ≤ t ∧ t < 0 := by
  unfold endsL
  rw [List.mem_map]
  constructor
  · rintro ⟨i, hi, rfl⟩
    have := List.mem_range.mp hi
    omega
  · rintro ⟨h0, h1⟩
    exact ⟨(-1 - t).toNat, List.mem_range.mpr (by omega), by omega⟩
section
variable {P : Program} {w : World} {K : PySem.W.Frag} {mg : Str → Option Value} {base : Heap} {f C : Addr} {fd : FuncData} {k : Nat}
/-! ### lost points, by the law -/
def notB (fs : List Int) : D → Bool
  | .int i => !decide (i ∈ fs)
  | _ => false
def cLost : List D → (D → Prop) → Prop := fun ds Z => ∃ e ex, ds = [.lst (rowsL ex)] ∧ Valid e ex ∧ ∀ L : List Int, (∀ i ∈ L, (0 ≤ i ∧ i < ex.length) ∧ ¬ Lead ex (endsL e) i) → (∀ p : Nat, p < ex.length → ¬ Lead ex (endsL e) (p : Int) → (p : Int) ∈ L) → L.Nodup → Z (.lst (lI L))
theorem ok_Llost (T : Blt2 mg) (F : Fun K "_law_lost" "_law_lost" s_Llost f fd) : FnOk P w K mg base CX0 (k + 1) f fd ["_law_exits_here"] (spD cLost) := by
  refine fnD F c_Llost (fun ds Z h => ?_) (fun cdv A outer s H E ds Z hr h => ?_)
  · obtain ⟨e, ex, rfl, _⟩ := h
    rfl
  · obtain ⟨e, ex, rfl, v, q⟩ := h
    have n24 := v.n24
    refine ss_cons (s_unp2 1 2 c_Llost (w_tup (aG (w_lst (a_nil ⟨Nat.zero_le _, a1 (w_bl ⟨by show 2 ≤ sizeLine; decide, _, _, rfl, ?_⟩)⟩)))))
    show WSs _ _ [.val (.lst (rowsL ex)), .val (.lst (lI [])), .val (.bl true), .un, .un, .un, .un] _
    refine ss_cut (fun ρ => ∃ fs s2 s3, (∀ i, i ∈ fs ↔ Lead ex (endsL e) i) ∧ ρ = [.val (.lst (rowsL ex)), .val (.lst (lI fs)), s2, s3, .un, .un, .un])
      (s_while PassesOwn.never (fun m ρ => ∃ fs b s3, Fnd ex (endsL e) fs ∧ (b = false → ∀ i, i ∈ fs ↔ Lead ex (endsL e) i) ∧ m = 2 * (ex.length - fs.length) + (if b = true then 1 else 0) ∧ ρ = [.val (.lst (rowsL ex)), .val (.lst (lI fs)), .val (.bl b), s3, .un, .un, .un])
        (2 * (ex.length - 0) + 1) ⟨[], true, .un, ⟨List.nodup_nil, fun i hi => absurd hi (by simp)⟩, (fun z => nomatch z), rfl, rfl⟩ (fun m ρ' hI => ?_)) (fun ρ' hI => ?_)
    · obtain ⟨fs, b, s3, hf, hb, hm, rfl⟩ := hI
      refine t_val (nm (d := .bl b) 2 ⟨b, rfl, ?_⟩)
      cases b with
      | false => exact ⟨fs, _, s3, hb rfl, rfl⟩
      | true =>
        show WSs _ _ _ _
        refine ss_cons (s_lc2If 3 4 5 (testD (endsL e) fs) fstD c_Llost (wi_enum rfl T.t.enum (a1 (nm 0 ⟨_, rfl, ?_⟩))))
        rw [enum_rows]
        refine ⟨?_, fun d hd => ?_, ?_⟩
        · rw [List.length_map, List.length_range]; omega
        · obtain ⟨i, hi, rfl⟩ := List.mem_map.mp hd
          have hi := List.mem_range.mp hi
          refine ⟨_, _, rfl, fun s1 H1 C1 cl fp => ⟨?_, fun _ => nm 4 rfl⟩⟩
          refine t_bool (tb_and (t_cmpG (nm 4 (nm 1 (o_nin ⟨_, rfl, ?_⟩)))))
          by_cases hin : (i : Int) ∈ fs
          · rw [if_neg (by rw [decide_eq_true hin]; decide)]
            show false = (!decide ((i : Int) ∈ fs) && _)
            rw [decide_eq_true hin]; rfl
          · rw [if_pos (by rw [decide_eq_false hin]; rfl)]
            show WTB _ _ _ _ _ _ _
            refine tb_and1 (t_val (w_callB true rfl T.t.any (by decide +kernel) (a1 (lc1 6 (fun d => .bl (inD (endsL e) fs d)) c_Llost (wi_lst (nm 5 ⟨_, rfl, ?_, fun d hd s2 H2 C2 cl2 fp2 => ?_, c_anyD rfl ⟨_, rfl, ?_⟩⟩))))))
            · have : (lI (rowAt ex i)).length = (rowAt ex i).length := List.length_map _
              have := v.r6 _ (rowAt_mem hi)
              omega
            · obtain ⟨t, ht, rfl⟩ := List.mem_map.mp hd
              have lo := v.lo _ (rowAt_mem hi) t ht
              have eg : decide (t < 0) = decide (t ∈ endsL e) := decide_eq_decide.mpr ⟨fun z => (mem_endsL v.e0).mpr ⟨lo, z⟩, fun z => ((mem_endsL v.e0).mp z).2⟩
              refine w_or (w_cmpG (nm 6 (w_int (o_lt ⟨_, rfl, ?_⟩))))
              rw [eg]
              show if decide (t ∈ endsL e) = true then _ else _
              by_cases hg : t ∈ endsL e
              · rw [if_pos (decide_eq_true hg)]
                show D.bl true = .bl (decide (t ∈ endsL e) || _)
                rw [decide_eq_true hg]; rfl
              · rw [if_neg (by rw [decide_eq_false hg]; decide)]
                show W _ _ _ _ _ _
                refine w_one (w_cmpG (nm 6 (nm 1 (o_in ?_))))
                show D.bl (decide (t ∈ fs)) = .bl (decide (t ∈ endsL e) || decide (t ∈ fs))
                rw [decide_eq_false hg]; rfl
            · show (lI (rowAt ex i)).any (inD (endsL e) fs) = (!decide ((i : Int) ∈ fs) && (lI (rowAt ex i)).any _)
              rw [decide_eq_false hin]
              rfl
        · rw [newPs_D]
          show WSs _ _ [.val (.lst (rowsL ex)), .val (.lst (lI fs)), .val (.bl true), .val (.lst (lI (newPs ex (endsL e) fs))), .un, .un, .un] _
          have fin : PyData.eqv (.list ((newPs ex (endsL e) fs).map PyData.int)) (.list (([] : List Int).map PyData.int)) = decide (newPs ex (endsL e) fs = []) := eqv_ints _ _
          refine ss_cons (set 2 c_Llost (w_cmpG (nm 3 (w_lst (a_nil ⟨Nat.zero_le _, o_neD hr.units (py_lI _) (py_lI []) (shaped_ints _) (shaped_ints []) ?_⟩)))))
          rw [fin]
          show WSs _ _ _ _
          have hmore := hf.more
          have hlen := hmore.len
          rw [List.length_append] at hlen
          refine ss_one (set 1 c_Llost (w_binG (nm 1 (nm 3 (o_cat ⟨?_, ?_⟩)))))
          · rw [lI_len, lI_len]; exact Nat.le_trans (show _ ≤ 24 by omega) (by decide)
          · subst hm
            refine ⟨_, ?_, fs ++ newPs ex (endsL e) fs, !decide (newPs ex (endsL e) fs = []), .val (.lst (lI (newPs ex (endsL e) fs))), hmore, fun z => ?_, rfl, ?_⟩
            · rw [List.length_append]
              by_cases h0 : newPs ex (endsL e) fs = []
              · rw [h0, decide_eq_true rfl]
                show 2 * _ + 0 < _ + 1
                rw [List.length_nil]
                omega
              · have : 0 < (newPs ex (endsL e) fs).length := List.length_pos_iff.mpr h0
                rw [decide_eq_false h0]
                show 2 * _ + 1 < _ + 1
                omega
            · have e0 : newPs ex (endsL e) fs = [] := by
                apply Classical.byContradiction
                intro h0
                rw [decide_eq_false h0] at z
                cases z
              rw [e0, List.append_nil]
              exact hf.all e0
            · have ea : lI fs ++ lI (newPs ex (endsL e) fs) = lI (fs ++ newPs ex (endsL e) fs) := by unfold lI; rw [List.map_append]
              rw [← ea]; rfl
    · obtain ⟨fs, s2, s3, hall, rfl⟩ := hI
      refine ss_one (s_ret (lc1If 4 (notB fs) (fun d => d) c_Llost (wi_rng1 rfl T.t.range (a1 (w_callB (id := "len") true rfl T.t.len (by decide +kernel) (a1 (nm 0 (c_lenL ⟨_, rfl, ⟨?_, ?_⟩, ?_, fun d hd s H C cl fp => ⟨?_, fun _ => nm 4 rfl⟩, ?_⟩))))))))
      · rw [rowsL_len]; omega
      · rw [rowsL_len]; omega
      · rw [rng_len, rowsL_len]; omega
      · obtain ⟨t, rfl, _⟩ := rng_mem hd
        exact t_cmpG (nm 4 (nm 1 (o_nin ⟨_, rfl, rfl⟩)))
      · have er : ((rng 0 ((rowsL ex).length : Int).toNat).filter (notB fs)).map (fun d => d) = lI ((nats ex.length).filter fun i => !decide (i ∈ fs)) := by
          rw [List.map_id', rowsL_len, Int.toNat_natCast, rng_nats]
          unfold lI
          rw [List.filter_map]; rfl
        rw [er]
        refine q _ (fun i hi => ?_) (fun p hp hn => ?_) (nodup_of_lt ((nats_pw _).filter _))
        · obtain ⟨h1, h2⟩ := List.mem_filter.mp hi
          refine ⟨mem_nats.mp h1, fun z => ?_⟩
          rw [decide_eq_true ((hall i).mpr z)] at h2
          cases h2
        · refine List.mem_filter.mpr ⟨mem_nats.mpr ⟨by omega, by omega⟩, ?_⟩
          rw [decide_eq_false fun z => hn ((hall _).mp z)]; rfl
/-! ### a leading net -/
def mendR (r : List Int) : List Int := r.take (r.length - 1) ++ [-1]
structure MendI (e : Int) (ex : List (List Int)) (L : List Int) (j : Nat) (ex2 : List (List Int)) : Prop where
  len : ex2.length = ex.length
  dn : ∀ i ∈ L.take j, rowAt ex2 i.toNat = mendR (rowAt ex i.toNat)
  un : ∀ p : Nat, (p : Int) ∉ L.take j → rowAt ex2 p = rowAt ex p
theorem mend_all {e : Int} {ex ex2 : List (List Int)} {L : List Int} (v : Valid e ex) (h1 : 1 ≤ e) (hr3 : ∀ l ∈ ex, l.length ≤ 3) (hL : ∀ i ∈ L, (0 ≤ i ∧ i < ex.length) ∧ ¬ Lead ex (endsL e) i) (hL2 : ∀ p : Nat, p < ex.length → ¬ Lead ex (endsL e) (p : Int) → (p : Int) ∈ L) (M : MendI e ex L L.length ex2) :
    Valid e ex2 ∧ (∀ l ∈ ex2, l.length ≤ 3) ∧ ∀ p : Nat, p < ex2.length → Lead ex2 (endsL e) (p : Int) := by
  have hlen := M.len
  have dn : ∀ i ∈ L, rowAt ex2 i.toNat = mendR (rowAt ex i.toNat) := fun i hi => M.dn i (by rw [List.take_length]; exact hi)
  have un : ∀ p : Nat, (p : Int) ∉ L → rowAt ex2 p = rowAt ex p := fun p hp => M.un p (by rw [List.take_length]; exact hp)
  have row : ∀ p, p < ex.length → (rowAt ex2 p = rowAt ex p) ∨ rowAt ex2 p = mendR (rowAt ex p) := fun p hp => by
    by_cases h : (p : Int) ∈ L
    · right
      have := dn _ h
      rw [Int.toNat_natCast] at this
      exact this
    · exact .inl (un p h)
  have mlen : ∀ p, p < ex.length → (mendR (rowAt ex p)).length = (rowAt ex p).length := fun p hp => by
    have := v.r1 _ (rowAt_mem hp)
    unfold mendR
    rw [List.length_append, List.length_take]
    show _ + 1 = _
    omega
  have rlen : ∀ p, p < ex.length → (rowAt ex2 p).length = (rowAt ex p).length := fun p hp => by
    rcases row p hp with h | h
    · rw [h]
    · rw [h, mlen p hp]
  have rmem : ∀ p, p < ex.length → ∀ t ∈ rowAt ex2 p, t ∈ rowAt ex p ∨ t = -1 := fun p hp t ht => by
    rcases row p hp with h | h
    · rw [h] at ht; exact .inl ht
    · rw [h] at ht
      rcases List.mem_append.mp ht with ht | ht
      · exact .inl (List.mem_of_mem_take ht)
      · exact .inr (by simpa using ht)
  have each : ∀ l ∈ ex2, ∃ p, p < ex.length ∧ l = rowAt ex2 p := fun l hl => by
    obtain ⟨p, hp, rfl⟩ := List.mem_iff_getElem.mp hl
    refine ⟨p, by omega, ?_⟩
    have := rowAt_get (ex := ex2) hp
    rw [List.getElem?_eq_getElem hp] at this
    injection this
  have sums : ∀ n, n ≤ ex.length → (ex2.take n).flatten.length = (ex.take n).flatten.length := fun n => by
    induction n with
    | zero => intro _; rfl
    | succ n ih =>
      intro hn
      have a : ex2[n]? = some (rowAt ex2 n) := rowAt_get (by omega)
      have b : ex[n]? = some (rowAt ex n) := rowAt_get (by omega)
      rw [List.take_add_one, List.take_add_one, a, b, List.flatten_append, List.flatten_append, List.length_append, List.length_append, ih (by omega)]
      show _ + [rowAt ex2 n].flatten.length = _ + [rowAt ex n].flatten.length
      rw [List.flatten_singleton, List.flatten_singleton, rlen n (by omega)]
  refine ⟨⟨v.e0, v.e6, by have := v.n1; omega, by have := v.n24; omega, fun l hl => ?_, fun l hl => ?_, fun l hl t ht => ?_, fun l hl t ht => ?_, ?_⟩, fun l hl => ?_, fun p hp => ?_⟩
  · obtain ⟨p, hp, rfl⟩ := each l hl
    rw [rlen p hp]; exact v.r1 _ (rowAt_mem hp)
  · obtain ⟨p, hp, rfl⟩ := each l hl
    rw [rlen p hp]; exact v.r6 _ (rowAt_mem hp)
  · obtain ⟨p, hp, rfl⟩ := each l hl
    rcases rmem p hp t ht with h | rfl
    · exact v.lo _ (rowAt_mem hp) t h
    · omega
  · obtain ⟨p, hp, rfl⟩ := each l hl
    rcases rmem p hp t ht with h | rfl
    · have := v.hi _ (rowAt_mem hp) t h; omega
    · omega
  · have a := sums ex.length (Nat.le_refl _)
    rw [← hlen, List.take_length, hlen, List.take_length] at a
    have b := v.m60
    omega
  · obtain ⟨p, hp, rfl⟩ := each l hl
    rw [rlen p hp]; exact hr3 _ (rowAt_mem hp)
  · have good : ∀ i, Lead ex (endsL e) i → Lead ex2 (endsL e) i := fun i h => by
      induction h with
      | goal hp ht hg =>
        refine .goal (by omega) ?_ hg
        rw [un _ fun z => (hL _ z).2 (.goal hp ht hg)]; exact ht
      | via hp ht hl ih =>
        refine .via (by omega) ?_ ih
        rw [un _ fun z => (hL _ z).2 (.via hp ht hl)]; exact ht
    by_cases hg : Lead ex (endsL e) (p : Int)
    · exact good _ hg
    · have hin := hL2 p (by omega) hg
      have := dn _ hin
      rw [Int.toNat_natCast] at this
      refine .goal (t := -1) hp ?_ ((mem_endsL v.e0).mpr ⟨by omega, by decide⟩)
      rw [this]
      exact List.mem_append_right _ List.mem_cons_self
end
end K37

namespace K37
open PySem PySem.Spec PyProof.Rows L2 DD
theorem cutD_init (xs : List D) : DD.cutD xs none (some (-1)) = xs.take (xs.length - 1) := by
  have e : HT.sIx xs.length xs.length (some (-1)) = xs.length - 1 := by
    unfold HT.sIx
    simp only []
    rw [if_pos (by decide)]
    omega
  unfold DD.cutD
  rw [HT.sIx_none, e, List.drop_zero, Nat.sub_zero]
theorem rowAt_set (ex : List (List Int)) (k p : Nat) (r : List Int) : rowAt (ex.set k r) p = if k = p ∧ k < ex.length then r else rowAt ex p := by
  unfold rowAt
  rw [List.getD_eq_getElem?_getD, List.getD_eq_getElem?_getD, List.getElem?_set]
  by_cases h : k = p
  · subst h
    by_cases h2 : k < ex.length
    · rw [if_pos rfl, if_pos h2, if_pos ⟨rfl, h2⟩]; rfl
    · rw [if_pos rfl, if_neg h2, if_neg (fun z => h2 z.2), List.getElem?_eq_none (by omega)]
  · rw [if_neg h, if_neg (fun z => h z.1)]
section
variable {P : Program} {w : World} {K : PySem.W.Frag} {mg : Str → Option Value} {base : Heap} {f C : Addr} {fd : FuncData} {k : Nat}
def cLlead : List D → (D → List D → Prop) → Prop := fun ds Z => ∃ m : Int, ds = [.int m] ∧ (1 ≤ m ∧ m ≤ 3) ∧ ∀ e ex, ex.length ≤ 3 → Valid e ex → (∀ l ∈ ex, l.length ≤ 3) → (∀ p : Nat, p < ex.length → Lead ex (endsL e) (p : Int)) → Z (.int e) (rowsL ex)
theorem ok_Lleading (T : Blt2 mg) (Fe : Df P w K mg base k "_law_exits" ["_law_pot_here", "_law_most"] (spPO cLex)) (Fl : Df P w K mg base k "_law_lost" ["_law_exits_here"] (spD cLost)) (F : Fun K "_law_leading" "_law_leading" s_Lleading f fd) : FnOk P w K mg base CX0 (k + 1) f fd ["_law_pot_here", "_law_most"] (spPO cLlead) := by
  refine fnPO F c_Lleading (fun ds Z h => ?_) (fun cdv A outer s H E ds Z hr h => ?_)
  · obtain ⟨m, rfl, _⟩ := h
    rfl
  · obtain ⟨m, rfl, ⟨m1, m3⟩, q⟩ := h
    refine wspo_cons (s_unpPO 0 2 3 c_Lleading (by decide) Fe hr (a1 (nm 1 ⟨rfl, m, rfl, ⟨by omega, by omega⟩, fun e ex hn he1 v hr3 => ?_⟩)))
    have n1 := v.n1
    show WSPO _ _ [.own false .pot, .val (.int m), .val (.int e), .own true (.lst (rowsL ex)), .un] _
    have first : (rowsL ex)[0]? = some (.lst (lI (rowAt ex 0))) := by unfold rowsL; rw [List.getElem?_map, rowAt_get (by omega)]; rfl
    refine wspo_cut (fun ρ => ∃ (L : List Int) (ex2 : List (List Int)) (s4 : Slot), (∀ i ∈ L, (0 ≤ i ∧ i < ex.length) ∧ ¬ Lead ex (endsL e) i) ∧ (∀ p : Nat, p < ex.length → ¬ Lead ex (endsL e) (p : Int) → (p : Int) ∈ L) ∧ MendI e ex L L.length ex2 ∧ ρ = [.own false .pot, .val (.int m), .val (.int e), .own true (.lst (rowsL ex2)), s4])
      (for1 4 c_Lleading (wi_lst (w_callKeep 3 rfl first Fl hr ⟨e, ex, rfl, v, fun L hL hL2 nd => ⟨L, rfl, _, rfl, fun j ρ => ∃ ex2 s4, MendI e ex L j ex2 ∧ ρ = [.own false .pot, .val (.int m), .val (.int e), .own true (.lst (rowsL ex2)), s4], ⟨ex, .un, ⟨rfl, (fun i hi => by cases hi), fun p _ => rfl⟩, rfl⟩, fun j d ρi hd hI => ?_, fun ρn hI => ?_⟩⟩))) (fun ρ' hI => ?_)
    · obtain ⟨ex2, s4, M, rfl⟩ := hI
      obtain ⟨i, hi, rfl⟩ := lI_at (show (lI L)[j]? = some d from hd)
      have him := List.mem_of_getElem? hi
      obtain ⟨⟨i0, i1⟩, _⟩ := hL i him
      have hj := (List.getElem?_eq_some_iff.mp hi).1
      have etk : L.take (j + 1) = L.take j ++ [i] := by rw [List.take_add_one, hi]; rfl
      have hnt : i ∉ L.take j := by
        have e2 : L = L.take j ++ (i :: L.drop (j + 1)) := by
          have : L[j] = i := (List.getElem?_eq_some_iff.mp hi).2
          rw [← this, ← List.drop_eq_getElem_cons hj, List.take_append_drop]
        rw [e2] at nd
        exact fun z => (List.nodup_append.mp nd).2.2 _ z _ List.mem_cons_self rfl
      have hrow : rowAt ex2 i.toNat = rowAt ex i.toNat := M.un i.toNat (by rw [Int.toNat_of_nonneg i0]; exact hnt)
      have hlen := M.len
      have h6 := v.r6 _ (rowAt_mem (show i.toNat < ex.length by omega))
      refine ss_one (item 3 (w_binG (w_slL (w_ixO 3 ⟨_, rfl⟩ (nm 4 ⟨i, _, .lst (lI (rowAt ex2 i.toNat)), rfl, rfl, rows_atI i0 (by omega), _, rfl, ?_⟩)))))
      show W _ _ _ _ _ _
      refine w_un (w_int (o_neg ⟨-1, rfl, ?_⟩))
      show W _ _ _ _ _ _
      rw [cutD_init]
      refine w_lst (a1 (w_un (w_int (o_neg ⟨by show 1 ≤ sizeLine; decide, o_cat ⟨?_, _, rfl, nm 4 ⟨i, i.toNat, rfl, ixN_in i0 (by rw [rowsL_len]; omega), ex2.set i.toNat (mendR (rowAt ex i.toNat)), .val (.int i), ⟨?_, fun a ha => ?_, fun p hp => ?_⟩, ?_⟩⟩⟩))))
      · rw [List.length_take, lI_len, hrow]; exact Nat.le_trans (show _ ≤ 10 by show _ + 1 ≤ 10; omega) (by decide)
      · rw [List.length_set]; exact hlen
      · rw [rowAt_set]
        rw [etk] at ha
        rcases List.mem_append.mp ha with ha | ha
        · have hab := hL a (List.mem_of_mem_take ha)
          have ne : a ≠ i := fun z => hnt (z ▸ ha)
          rw [if_neg (fun z => ne (by omega))]
          exact M.dn a ha
        · have : a = i := by simpa using ha
          subst this
          rw [if_pos ⟨rfl, by omega⟩]
      · rw [rowAt_set]
        rw [etk] at hp
        have h1 : (p : Int) ∉ L.take j := fun z => hp (List.mem_append_left _ z)
        have h2 : (p : Int) ≠ i := fun z => hp (List.mem_append_right _ (by rw [z]; exact List.mem_cons_self))
        rw [if_neg (fun z => h2 (by omega))]
        exact M.un p h1
      · have er : (lI (rowAt ex2 i.toNat)).take ((lI (rowAt ex2 i.toNat)).length - 1) ++ [D.int (-1)] = lI (mendR (rowAt ex i.toNat)) := by
          rw [hrow, lI_len]
          unfold mendR lI
          rw [List.map_append, List.map_take]; rfl
        rw [er]
        unfold rowsL
        rw [List.map_set]; rfl
    · obtain ⟨ex2, s4, M, rfl⟩ := hI
      exact ⟨L, ex2, s4, hL, hL2, by have z : (L.map D.int).length = L.length := List.length_map _; rw [z] at M; exact M, rfl⟩
    · obtain ⟨L, ex2, s4, hL, hL2, M, rfl⟩ := hI
      obtain ⟨v2, r2, l2⟩ := mend_all v he1 hr3 hL hL2 M
      have := M.len
      exact wspo_ret 3 (nm 2 ⟨rowsL ex2, rfl, q e ex2 (by omega) v2 r2 l2⟩)
/-! ### the law's own rounds -/
def cLl : List D → (D → Prop) → Prop := fun ds Z => ∃ e ex st ss u, ds = [.int e, .lst (rowsL ex), .lst (lI st), .lst (lI ss)] ∧ Valid e ex ∧ ValidS ex st ∧ ss.length = ex.length ∧ (∀ x ∈ ss, 0 ≤ x) ∧ LF ex st ss u ∧ Z (.lst (lI u))
theorem ok_Lleast (T : Blt2 mg) (Fa : Df P w K mg base k "_law_arrived" ["_law_ends", "_law_exits_here", "_law_setting_here", "_law_starts", "_law_visits"] (spD cArvd)) (F : Fun K "_law_least" "_law_least" s_Lleast f fd) : FnOk P w K mg base CX0 (k + 1) f fd ["_law_ends", "_law_exits_here", "_law_setting_here", "_law_starts"] (spD cLl) := by
  refine fnD F c_Lleast (fun ds Z h => ?_) (fun cdv A outer s H E ds Z hr h => ?_)
  · obtain ⟨e, ex, st, ss, u, rfl, _⟩ := h
    rfl
  · obtain ⟨e, ex, st, ss, u, rfl, v, hst, hss, hb, hu, q⟩ := h
    have n24 := v.n24
    have fac := fun k => zL_facts hu v.r1 hss hb k
    have low := fun k => zL_low hu v.r1 hss hb k
    refine ss_cons (set 4 c_Lleast (w_binG (w_lst (a1 (w_int ⟨by show 1 ≤ sizeLine; decide, w_callB (id := "len") true rfl T.t.len (by decide +kernel) (a1 (nm 1 (c_lenL (o_rep ⟨⟨?_, ?_, ?_⟩, ?_⟩))))⟩)))))
    · omega
    · rw [rowsL_len]; omega
    · rw [rowsL_len]; exact Nat.le_trans (show 1 * ((ex.length : Int)).toNat ≤ 24 by omega) (by decide)
    rw [rowsL_len, Int.toNat_natCast, show (List.replicate ex.length [D.int 0]).flatten = lI (List.replicate ex.length 0) by have z := rep0 ex.length; exact z]
    show WSs _ _ [.val (.int e), .val (.lst (rowsL ex)), .val (.lst (lI st)), .val (.lst (lI ss)), .val (.lst (lI (zL ex st ss 0))), .un] _
    refine ss_cons (set 5 c_Lleast (w_callTy (T := "list") true rfl T.t.list (by decide +kernel) (a1 (nm 3 (c_list ?_)))))
    rw [show D.lst (lI ss) = .lst (lI (zL ex st ss 1)) by rw [zL_its v.r1 hss hb 0]; rfl]
    refine ss_cut (fun ρ => ∃ s5, ρ = [.val (.int e), .val (.lst (rowsL ex)), .val (.lst (lI st)), .val (.lst (lI ss)), .val (.lst (lI u)), s5])
      (s_while PassesOwn.never (fun m ρ => ∃ i : Nat, m = (sumN (nth u) ex.length - sumN (nth (zL ex st ss i)) ex.length).toNat ∧ ρ = [.val (.int e), .val (.lst (rowsL ex)), .val (.lst (lI st)), .val (.lst (lI ss)), .val (.lst (lI (zL ex st ss i))), .val (.lst (lI (zL ex st ss (i + 1))))]) _
        ⟨0, rfl, ?_⟩ (fun m ρ' hI => ?_)) (fun ρ' hI => ?_)
    · rw [show D.lst (lI ss) = .lst (lI (zL ex st ss 1)) by rw [zL_its v.r1 hss hb 0]; rfl]; rfl
    · obtain ⟨i, rfl, rfl⟩ := hI
      have fin : PyData.eqv (.list ((zL ex st ss (i + 1)).map PyData.int)) (.list ((zL ex st ss i).map PyData.int)) = decide (zL ex st ss (i + 1) = zL ex st ss i) := eqv_ints _ _
      refine t_cmpG (nm 5 (nm 4 (o_neD hr.units (py_lI _) (py_lI _) (shaped_ints _) (shaped_ints _) ⟨_, rfl, ?_⟩)))
      rw [fin]
      by_cases h : zL ex st ss (i + 1) = zL ex st ss i
      · rw [decide_eq_true h]
        have e1 := (fac i).2.2 h
        refine ⟨.val (.lst (lI (zL ex st ss (i + 1)))), ?_⟩
        rw [e1]
      · rw [decide_eq_false h]
        show WSs _ _ _ _
        have st1 := zL_sum hu v.r1 hss hb i h
        have l1 := low (i + 1)
        refine ss_cons (set 4 c_Lleast (nm 5 ?_))
        show WSs _ _ _ _
        refine ss_one (set 5 c_Lleast (w_ix true true (fun _ _ => rfl) (.inr rfl) (call Fa hr (aG (nm 0 (aG (nm 1 (aG (nm 2 (aG (nm 3 (a1 (nm 4 ⟨e, ex, st, ss, zL ex st ss (i + 1), rfl, v, hst, hss, zL_len hss _, fun c => w_int (x_tup (d := .lst (lI (zL ex st ss (i + 2)))) rfl ⟨_, ?_, i + 1, rfl, rfl⟩)⟩)))))))))))))
        omega
    · obtain ⟨s5, rfl⟩ := hI
      exact ss_one (s_ret (nm 4 q))
end
end K37

namespace K37
open PySem PySem.Spec PyProof.Rows L2 DD
/-! ### visits that are nowhere above what comes by them -/
structure Nt.WI (N : Nt) (c : Cr) : Prop where
  w0 : ∀ q, q < N.n → 0 ≤ c.w q
  v0 : ∀ q, q < N.n → 0 ≤ c.v q
  eq : ∀ q, q < N.n → c.w q = N.b q + sumN (fun p => N.go c.v p q) N.n - c.v q
/-- all that wait, and all that have gone out -/
theorem Nt.WI.all {N : Nt} {c : Cr} (I : N.WI c) : sumN c.w N.n + sumN (fun p => sumN (fun e => if 0 ≤ N.tg p e ∧ N.tg p e < (N.n : Int) then 0 else cnt (N.d p) (N.s p) (c.v p) e) (N.d p)) N.n = sumN N.b N.n := by
  have e1 : sumN c.w N.n = sumN N.b N.n + sumN (fun q => sumN (fun p => N.go c.v p q) N.n) N.n - sumN c.v N.n := by
    rw [← sumN_add, ← sumN_sub]
    exact sumN_congr _ fun q hq => I.eq q hq
  have e2 : ∀ p, p < N.n → sumN (fun q => N.go c.v p q) N.n + sumN (fun e => if 0 ≤ N.tg p e ∧ N.tg p e < (N.n : Int) then 0 else cnt (N.d p) (N.s p) (c.v p) e) (N.d p) = c.v p := fun p hp => by
    have a : sumN (fun q => N.go c.v p q) N.n = sumN (fun e => if 0 ≤ N.tg p e ∧ N.tg p e < (N.n : Int) then cnt (N.d p) (N.s p) (c.v p) e else 0) (N.d p) := by
      show sumN (fun q => sumN (fun e => if N.tg p e = (q : Int) then cnt (N.d p) (N.s p) (c.v p) e else 0) (N.d p)) N.n = _
      rw [sumN_comm]
      refine sumN_congr _ fun e _ => ?_
      have z := sumN_one (k := N.tg p e) (x := cnt (N.d p) (N.s p) (c.v p) e) (P := fun _ => True) N.n
      rw [sumN_congr (g := fun q => if True then (if N.tg p e = (q : Int) then cnt (N.d p) (N.s p) (c.v p) e else 0) else 0) N.n fun q _ => (if_pos trivial).symm, z]
      by_cases h : 0 ≤ N.tg p e ∧ N.tg p e < (N.n : Int)
      · rw [if_pos h, if_pos ⟨h.1, h.2, trivial⟩]
      · rw [if_neg h, if_neg (fun y => h ⟨y.1, y.2.1⟩)]
    rw [a, ← sumN_add]
    have b := cnt_sum (s := N.s p) (N.hd p hp) (c.v p).toNat
    rw [Int.toNat_of_nonneg (I.v0 p hp)] at b
    refine Eq.trans ?_ b
    refine sumN_congr _ fun e _ => ?_
    split <;> omega
  have e3 : sumN (fun q => sumN (fun p => N.go c.v p q) N.n) N.n = sumN (fun p => sumN (fun q => N.go c.v p q) N.n) N.n := sumN_comm _ _ _
  have e4 : sumN (fun p => sumN (fun q => N.go c.v p q) N.n) N.n + sumN (fun p => sumN (fun e => if 0 ≤ N.tg p e ∧ N.tg p e < (N.n : Int) then 0 else cnt (N.d p) (N.s p) (c.v p) e) (N.d p)) N.n = sumN c.v N.n := by
    rw [← sumN_add]
    exact sumN_congr _ e2
  omega
theorem Nt.WI.bound {N : Nt} {c : Cr} (I : N.WI c) (hb : ∀ p, p < N.n → 0 ≤ N.b p) {ds : Nat → Nat} (L : N.Leads ds) {m : Int} (hm1 : 1 ≤ m) (hm : ∀ p, p < N.n → (N.d p : Int) ≤ m) : ∀ k p, p < N.n → ds p ≤ k → c.v p ≤ bdN m (sumN N.b N.n) k := by
  have hB : 0 ≤ sumN N.b N.n := sumN_nn hb
  have hall := I.all
  have hout : ∀ p, p < N.n → 0 ≤ sumN (fun e => if 0 ≤ N.tg p e ∧ N.tg p e < (N.n : Int) then 0 else cnt (N.d p) (N.s p) (c.v p) e) (N.d p) := fun p hp => sumN_nn fun e _ => by
    have := N.hd p hp
    have := cnt_nn (d := N.d p) (s := N.s p) (e := (e : Int)) (by omega) (I.v0 p hp)
    split <;> omega
  have hwB : ∀ q, q < N.n → c.w q ≤ sumN N.b N.n := fun q hq => by
    have a := sumN_one_le (f := c.w) N.n hq I.w0
    have b := sumN_nn hout
    omega
  have low : ∀ p, p < N.n → ∀ e : Nat, ∀ x : Int, cnt (N.d p) (N.s p) (c.v p) e ≤ x → 0 ≤ x → c.v p ≤ m * (x + 1) := fun p hp e x h hx => by
    have hd := N.hd p hp
    have f := cnt_floor (d := N.d p) (s := N.s p) (t := c.v p) (e := (e : Int)) (by omega)
    have r := Int.emod_lt_of_pos (c.v p) (show (0 : Int) < N.d p by omega)
    have q := Int.mul_ediv_add_emod (c.v p) (N.d p)
    have g1 : (N.d p : Int) * (c.v p / (N.d p : Int)) ≤ (N.d p : Int) * x := Int.mul_le_mul_of_nonneg_left (by omega) (by omega)
    have g2 : (N.d p : Int) * (x + 1) ≤ m * (x + 1) := Int.mul_le_mul_of_nonneg_right (hm p hp) (by omega)
    rw [Int.mul_add] at g2
    omega
  have step : ∀ k, (∀ q, q < N.n → ds q < k → c.v q ≤ bdN m (sumN N.b N.n) (k - 1)) → ∀ p, p < N.n → ds p ≤ k → c.v p ≤ bdN m (sumN N.b N.n) k := fun k ih p hp hk => by
    obtain ⟨e, he, h⟩ := L p hp
    have hd := N.hd p hp
    rcases h with ⟨q, hq, ht, hds⟩ | ht
    · obtain ⟨k, rfl⟩ : ∃ j, k = j + 1 := ⟨k - 1, by omega⟩
      have hv := ih q hq (by omega)
      have hv : c.v q ≤ bdN m (sumN N.b N.n) k := hv
      have g0 : cnt (N.d p) (N.s p) (c.v p) e ≤ N.go c.v p q := by
        have := sumN_one_le (f := fun e => if N.tg p e = (q : Int) then cnt (N.d p) (N.s p) (c.v p) e else 0) (N.d p) he fun i _ => by
          have := cnt_nn (d := N.d p) (s := N.s p) (e := (i : Int)) (by omega) (I.v0 p hp)
          show (0 : Int) ≤ (if N.tg p i = (q : Int) then cnt (N.d p) (N.s p) (c.v p) i else 0)
          split <;> omega
        have this : (if N.tg p e = (q : Int) then cnt (N.d p) (N.s p) (c.v p) e else 0) ≤ N.go c.v p q := this
        rw [if_pos ht] at this
        exact this
      have g1 := sumN_one_le (f := fun p => N.go c.v p q) N.n hp fun i hi => N.go_nn hi (I.v0 i hi)
      have g1 : N.go c.v p q ≤ sumN (fun p => N.go c.v p q) N.n := g1
      have g2 := I.eq q hq
      have g3 := hb q hq
      have g4 := hwB q hq
      have nn := bdN_nn hm1 hB k
      exact low p hp e (bdN m (sumN N.b N.n) k + sumN N.b N.n) (by omega) (by omega)
    · have g0 := sumN_one_le (f := fun e => if 0 ≤ N.tg p e ∧ N.tg p e < (N.n : Int) then 0 else cnt (N.d p) (N.s p) (c.v p) e) (N.d p) he fun i _ => by
        have := cnt_nn (d := N.d p) (s := N.s p) (e := (i : Int)) (by omega) (I.v0 p hp)
        show (0 : Int) ≤ (if 0 ≤ N.tg p i ∧ N.tg p i < (N.n : Int) then 0 else cnt (N.d p) (N.s p) (c.v p) i)
        split <;> omega
      have g0 : (if 0 ≤ N.tg p e ∧ N.tg p e < (N.n : Int) then 0 else cnt (N.d p) (N.s p) (c.v p) e) ≤ sumN (fun e => if 0 ≤ N.tg p e ∧ N.tg p e < (N.n : Int) then 0 else cnt (N.d p) (N.s p) (c.v p) e) (N.d p) := g0
      rw [if_neg ht] at g0
      have g1 := sumN_one_le (f := fun p => sumN (fun e => if 0 ≤ N.tg p e ∧ N.tg p e < (N.n : Int) then 0 else cnt (N.d p) (N.s p) (c.v p) e) (N.d p)) N.n hp hout
      have g1 : sumN (fun e => if 0 ≤ N.tg p e ∧ N.tg p e < (N.n : Int) then 0 else cnt (N.d p) (N.s p) (c.v p) e) (N.d p) ≤ _ := g1
      have g2 := sumN_nn (f := c.w) (n := N.n) I.w0
      have z := low p hp e (sumN N.b N.n) (by omega) hB
      cases k with
      | zero => exact z
      | succ k =>
        have nn := bdN_nn hm1 hB k
        have g3 : m * (sumN N.b N.n + 1) ≤ m * (bdN m (sumN N.b N.n) k + sumN N.b N.n + 1) := Int.mul_le_mul_of_nonneg_left (by omega) (by omega)
        exact Int.le_trans z g3
  intro k
  induction k with
  | zero => exact step 0 fun q _ h => by omega
  | succ k ih => exact step (k + 1) fun q hq h => ih q hq (by omega)
theorem wi_small {e : Int} {ex : List (List Int)} {st ss : List Int} (v : Valid e ex) (h3 : ex.length ≤ 3) (hr3 : ∀ l ∈ ex, l.length ≤ 3) (hs : ss.length = ex.length) (hb : ∀ x ∈ ss, 0 ≤ x ∧ x ≤ 4) (hl : ∀ p : Nat, p < ex.length → Lead ex (endsL e) (p : Int)) {c : Cr} (I : (ntOf ex st ss v.r1).WI c) : sumN c.v ex.length ≤ 1600 := by
  obtain ⟨ds, L, hd⟩ := leads_of (st := st) (ss := ss) v hl
  have hbn : ∀ p, p < (ntOf ex st ss v.r1).n → 0 ≤ (ntOf ex st ss v.r1).b p := fun p hp => (hb _ (nth_mem (l := ss) (j := p) (by rw [hs]; exact hp))).1
  have hB : sumN (ntOf ex st ss v.r1).b (ntOf ex st ss v.r1).n ≤ 12 := by
    have a := sumN_bd (f := (ntOf ex st ss v.r1).b) (c := 4) (ntOf ex st ss v.r1).n fun p hp => (hb _ (nth_mem (l := ss) (j := p) (by rw [hs]; exact hp))).2
    have n3 : (((ntOf ex st ss v.r1).n : Nat) : Int) ≤ 3 := by show ((ex.length : Nat) : Int) ≤ 3; omega
    omega
  have hB0 : 0 ≤ sumN (ntOf ex st ss v.r1).b (ntOf ex st ss v.r1).n := sumN_nn hbn
  have one : ∀ p, p < ex.length → c.v p ≤ 507 := fun p hp => by
    have z := I.bound hbn L (m := 3) (by decide) (fun p hp => by
      have := hr3 _ (rowAt_mem (show p < ex.length from hp))
      show ((rowAt ex p).length : Int) ≤ 3
      omega) 2 p hp (by have := hd p hp; omega)
    have e : bdN 3 (sumN (ntOf ex st ss v.r1).b (ntOf ex st ss v.r1).n) 2 = 3 * (3 * (3 * (sumN (ntOf ex st ss v.r1).b (ntOf ex st ss v.r1).n + 1) + sumN (ntOf ex st ss v.r1).b (ntOf ex st ss v.r1).n + 1) + sumN (ntOf ex st ss v.r1).b (ntOf ex st ss v.r1).n + 1) := rfl
    rw [e] at z
    omega
  have a := sumN_bd (f := c.v) (c := 507) ex.length one
  omega
structure Okk (e : Int) (ex : List (List Int)) (ss : List Int) : Prop where
  n3 : ex.length ≤ 3
  r3 : ∀ l ∈ ex, l.length ≤ 3
  sl : ss.length = ex.length
  sb : ∀ x ∈ ss, 0 ≤ x ∧ x ≤ 4
  ld : ∀ p : Nat, p < ex.length → Lead ex (endsL e) (p : Int)
theorem WI.of {N : Nt} {v : Nat → Int} (h0 : ∀ q, q < N.n → 0 ≤ v q) (hl : ∀ q, q < N.n → v q ≤ N.rd v q) : N.WI ⟨fun q => N.rd v q - v q, v, fun _ => 0, 0⟩ :=
  ⟨fun q hq => by have := hl q hq; show 0 ≤ N.rd v q - v q; omega, h0, fun _ _ => rfl⟩
theorem up_small {e : Int} {ex : List (List Int)} {st ss : List Int} (v : Valid e ex) (O : Okk e ex ss) {f : Nat → Int} (h0 : ∀ q, q < ex.length → 0 ≤ f q) (hl : ∀ q, q < ex.length → f q ≤ (ntOf ex st ss v.r1).rd f q) : sumN f ex.length ≤ 1600 :=
  wi_small v O.n3 O.r3 O.sl O.sb O.ld (WI.of (N := ntOf ex st ss v.r1) h0 hl)
/-! ### rounds from any visits -/
def gL (ex : List (List Int)) (st ss f : List Int) : Nat → List Int
  | 0 => f
  | k + 1 => arrV ex st (gL ex st ss f k) ss
theorem gL_len {ex : List (List Int)} {st ss f : List Int} (hs : ss.length = ex.length) (hf : f.length = ex.length) : ∀ k, (gL ex st ss f k).length = ex.length
  | 0 => hf
  | _ + 1 => (goF_len _ _ _).trans hs
theorem gL_rd {ex : List (List Int)} {st ss f : List Int} (h1 : ∀ l ∈ ex, 1 ≤ l.length) (hs : ss.length = ex.length) (k : Nat) {q : Nat} (hq : q < ex.length) : nth (gL ex st ss f (k + 1)) q = (ntOf ex st ss h1).rd (nth (gL ex st ss f k)) q := arr_at h1 hs hq
theorem rd_up (N : Nt) {v u : Nat → Int} (h : ∀ p, p < N.n → v p ≤ u p) (q : Nat) : N.rd v q ≤ N.rd u q := by
  have := N.go_up h q
  show N.b q + _ ≤ N.b q + _
  omega
theorem gL_nn {ex : List (List Int)} {st ss f : List Int} (h1 : ∀ l ∈ ex, 1 ≤ l.length) (hs : ss.length = ex.length) (hb : ∀ x ∈ ss, 0 ≤ x) (hf : ∀ q, q < ex.length → 0 ≤ nth f q) : ∀ k q, q < ex.length → 0 ≤ nth (gL ex st ss f k) q
  | 0, q, hq => hf q hq
  | k + 1, q, hq => by
    rw [gL_rd h1 hs k hq]
    have a := sumN_nn (f := fun p => (ntOf ex st ss h1).go (nth (gL ex st ss f k)) p q) (n := (ntOf ex st ss h1).n) fun p hp => (ntOf ex st ss h1).go_nn hp (gL_nn h1 hs hb hf k p hp)
    have b := hb _ (nth_mem (l := ss) (j := q) (by omega))
    show 0 ≤ nth ss q + _
    omega
theorem gL_up {ex : List (List Int)} {st ss f : List Int} (h1 : ∀ l ∈ ex, 1 ≤ l.length) (hs : ss.length = ex.length) (hu : ∀ q, q < ex.length → nth f q ≤ nth (arrV ex st f ss) q) : ∀ k q, q < ex.length → nth (gL ex st ss f k) q ≤ nth (gL ex st ss f (k + 1)) q
  | 0, q, hq => hu q hq
  | k + 1, q, hq => by
    rw [gL_rd h1 hs k hq, gL_rd h1 hs (k + 1) hq]
    exact rd_up _ (fun p hp => gL_up h1 hs hu k p hp) q
theorem gL_dn {ex : List (List Int)} {st ss f : List Int} (h1 : ∀ l ∈ ex, 1 ≤ l.length) (hs : ss.length = ex.length) (hu : ∀ q, q < ex.length → nth (arrV ex st f ss) q ≤ nth f q) : ∀ k q, q < ex.length → nth (gL ex st ss f (k + 1)) q ≤ nth (gL ex st ss f k) q
  | 0, q, hq => hu q hq
  | k + 1, q, hq => by
    rw [gL_rd h1 hs k hq, gL_rd h1 hs (k + 1) hq]
    exact rd_up _ (fun p hp => gL_dn h1 hs hu k p hp) q
/-- below a flow above the first, above a flow below it -/
theorem gL_le {ex : List (List Int)} {st ss f u : List Int} (h1 : ∀ l ∈ ex, 1 ≤ l.length) (hs : ss.length = ex.length) (hu : arrV ex st u ss = u) (h : ∀ q, q < ex.length → nth f q ≤ nth u q) : ∀ k q, q < ex.length → nth (gL ex st ss f k) q ≤ nth u q
  | 0, q, hq => h q hq
  | k + 1, q, hq => by
    rw [gL_rd h1 hs k hq]
    have a := rd_up (ntOf ex st ss h1) (fun p hp => gL_le h1 hs hu h k p hp) q
    have b : nth u q = (ntOf ex st ss h1).rd (nth u) q := by
      have z := arr_at (st := st) (vs := u) h1 hs hq
      rw [hu] at z; exact z
    omega
theorem gL_ge {ex : List (List Int)} {st ss f u : List Int} (h1 : ∀ l ∈ ex, 1 ≤ l.length) (hs : ss.length = ex.length) (hu : arrV ex st u ss = u) (h : ∀ q, q < ex.length → nth u q ≤ nth f q) : ∀ k q, q < ex.length → nth u q ≤ nth (gL ex st ss f k) q
  | 0, q, hq => h q hq
  | k + 1, q, hq => by
    rw [gL_rd h1 hs k hq]
    have a := rd_up (ntOf ex st ss h1) (fun p hp => gL_ge h1 hs hu h k p hp) q
    have b : nth u q = (ntOf ex st ss h1).rd (nth u) q := by
      have z := arr_at (st := st) (vs := u) h1 hs hq
      rw [hu] at z; exact z
    omega
theorem gL_fix {ex : List (List Int)} {st ss f : List Int} {k : Nat} (h : gL ex st ss f (k + 1) = gL ex st ss f k) : ∀ j, gL ex st ss f (k + j) = gL ex st ss f k
  | 0 => rfl
  | j + 1 => by
    have ih := gL_fix h j
    show arrV ex st (gL ex st ss f (k + j)) ss = _
    rw [ih]; exact h
theorem gL_one {ex : List (List Int)} {st ss f : List Int} {k j : Nat} (h : gL ex st ss f (k + 1) = gL ex st ss f k) (h2 : gL ex st ss f (j + 1) = gL ex st ss f j) : gL ex st ss f k = gL ex st ss f j := by
  rcases Nat.le_total k j with z | z
  · obtain ⟨m, rfl⟩ := Nat.exists_eq_add_of_le z
    exact (gL_fix h m).symm
  · obtain ⟨m, rfl⟩ := Nat.exists_eq_add_of_le z
    exact gL_fix h2 m
theorem ne_sum {n : Nat} {a b : List Int} (ha : a.length = n) (hb : b.length = n) (h : ∀ q, q < n → nth a q ≤ nth b q) (hne : b ≠ a) : sumN (nth a) n + 1 ≤ sumN (nth b) n := by
  apply Classical.byContradiction
  intro z
  refine hne (list_ext hb ha fun i hi => ?_)
  have s := sumN_sub (nth b) (nth a) n
  have e := sumN_each (f := fun i => nth b i - nth a i) n (fun i hi => by have := h i hi; omega) (by omega) i hi
  have e : nth b i - nth a i = 0 := e
  omega
/-- in such a net there is a least flow -/
theorem lf_is {e : Int} {ex : List (List Int)} {st ss : List Int} (v : Valid e ex) (O : Okk e ex ss) : ∃ u, LF ex st ss u := by
  have sl := O.sl
  have hb : ∀ x ∈ ss, 0 ≤ x := fun x hx => (O.sb x hx).1
  have hbn : ∀ p, p < (ntOf ex st ss v.r1).n → 0 ≤ (ntOf ex st ss v.r1).b p := fun p hp => hb _ (nth_mem (l := ss) (j := p) (by rw [sl]; exact hp))
  have len : ∀ k, (itsL ex st ss k).length = ex.length := fun k => by rw [itsL_len, sl]
  have rise : ∀ k q, q < ex.length → nth (itsL ex st ss k) q ≤ nth (itsL ex st ss (k + 1)) q := fun k q hq => by
    rw [itsL_at v.r1 sl k q hq, itsL_at v.r1 sl (k + 1) q hq]
    exact (ntOf ex st ss v.r1).its_rise hbn k q hq
  have nn : ∀ k q, q < ex.length → 0 ≤ nth (itsL ex st ss k) q := fun k q hq => by
    rw [itsL_at v.r1 sl k q hq]
    exact (ntOf ex st ss v.r1).its_nn hbn k q hq
  have small : ∀ k, sumN (nth (itsL ex st ss k)) ex.length ≤ 1600 := fun k => up_small (st := st) v O (nn k) fun q hq => by
    have a := rise k q hq
    have b : nth (itsL ex st ss (k + 1)) q = (ntOf ex st ss v.r1).rd (nth (itsL ex st ss k)) q := arr_at v.r1 sl hq
    omega
  have key : ∀ k : Nat, (∃ j, itsL ex st ss (j + 1) = itsL ex st ss j) ∨ (k : Int) ≤ sumN (nth (itsL ex st ss k)) ex.length := fun k => by
    induction k with
    | zero => exact .inr (sumN_nn fun i hi => nn 0 i hi)
    | succ k ih =>
      rcases ih with ih | ih
      · exact .inl ih
      · by_cases h : itsL ex st ss (k + 1) = itsL ex st ss k
        · exact .inl ⟨k, h⟩
        · right
          have := ne_sum (len k) (len (k + 1)) (rise k) h
          omega
  have : ∃ j, itsL ex st ss (j + 1) = itsL ex st ss j := (key 1700).resolve_right fun z => by have := small 1700; omega
  obtain ⟨j, hj⟩ := this
  have fx := (ntOf ex st ss v.r1).its_fix hbn (k := j) fun p hp => by
    rw [← itsL_at v.r1 sl (j + 1) p hp, ← itsL_at v.r1 sl j p hp, hj]
  have nr : (ntOf ex st ss v.r1).NoRing (nth (itsL ex st ss j)) := fx.2.1.congr fun p hp => (itsL_at v.r1 sl j p hp).symm
  refine ⟨itsL ex st ss j, len j, fun x hx => ?_, hj, (hasR_iff (ss := ss) v.r1).mpr nr, by have := small j; omega⟩
  obtain ⟨i, hi, rfl⟩ := List.mem_iff_getElem.mp hx
  have hl := len j
  have e1 : (itsL ex st ss j)[i] = nth (itsL ex st ss j) i := by
    have := nth_get hi
    rw [List.getElem?_eq_getElem hi] at this
    injection this
  rw [e1]
  exact nn j i (by omega)
end K37

namespace K37
open PySem PySem.Spec PyProof.Rows L2 DD
section
variable {P : Program} {w : World} {K : PySem.W.Frag} {mg : Str → Option Value} {base : Heap} {f C : Addr} {fd : FuncData} {k : Nat}
/-! ### the program's checks and rounds -/
def cCF (C : Addr) : List D → (D → Prop) → Prop := fun ds Z => ∃ e ex d st ss u, ds = [netD C e ex, d, .lst (lI ss), u] ∧ rowI d st ∧ Valid e ex ∧ ValidS ex st ∧ Nums ex.length ss ∧ PlR u ∧ isFlow u ex st ss = true ∧ Z .non
theorem ok_check_flow (Fl : Df P w K mg base k "is_flow" ["net", "setting", "starts", "value"] (spD (cFlow C))) (F : Fun K "_check_flow" "_check_flow" s_check_flow f fd) : FnOk P w K mg base CX0 (k + 1) f fd ["net", "setting", "starts", "visits"] (spD (cCF C)) := by
  refine fnD F c_check_flow (fun ds Z h => ?_) (fun cdv A outer s H E ds Z hr h => ?_)
  · obtain ⟨e, ex, d, st, ss, u, rfl, _⟩ := h
    rfl
  · obtain ⟨e, ex, d, st, ss, u, rfl, hd, v, hst, hss, hu, hf, q⟩ := h
    refine ss_one (s_if (t_not (t_val (call Fl hr (aG (nm 0 (aG (nm 1 (aG (nm 2 (a1 (nm 3 ⟨e, ex, d, st, ss, u, rfl, hd, v, hst, hss, hu, _, rfl, ?_⟩))))))))))))
    rw [hf]
    show WSs _ [] _ _
    exact ss_nil q
/-- rounds from any visits, to where they stop -/
structure GR (ex : List (List Int)) (st ss f0 : List Int) (n : Nat) : Prop where
  le : n ≤ 20000
  fx : gL ex st ss f0 (n + 1) = gL ex st ss f0 n
  ne : ∀ i, i < n → gL ex st ss f0 (i + 1) ≠ gL ex st ss f0 i
  nu : ∀ i, i ≤ n → Nums ex.length (gL ex st ss f0 i)
def cFF (C : Addr) : List D → (D → Prop) → Prop := fun ds Z => ∃ e ex d st d0 ss f0 n, ds = [netD C e ex, d, d0, .lst (lI f0)] ∧ rowI d st ∧ rowI d0 ss ∧ Valid e ex ∧ ValidS ex st ∧ Nums ex.length ss ∧ GR ex st ss f0 n ∧ Z (.lst (lI (gL ex st ss f0 n)))
theorem ok_flow_from {j : Nat} {tR : Tok} (N : NetP P w K mg base C j) (hj : j + 1 ≤ k) (mR : mg "MOST_ROUNDS" = some (.int 20000 tR)) (Fd : Df P w K mg base k "deals_of" ["rows", "setting"] (spD cDeals)) (Fr : Df P w K mg base k "arrivals" ["deals", "starts", "visits"] (spD cArrR))
    (F : Fun K "_flow_from" "_flow_from" s_flow_from f fd) : FnOk P w K mg base CX0 (k + 1) f fd ["net", "setting", "starts", "first"] (spD (cFF C)) := by
  refine fnD F c_flow_from (fun ds Z h => ?_) (fun cdv A outer s H E ds Z hr h => ?_)
  · obtain ⟨e, ex, d, st, d0, ss, f0, n, rfl, _⟩ := h
    rfl
  · obtain ⟨e, ex, d, st, d0, ss, f0, n, rfl, hd, hd0, v, hst, hss, G, q⟩ := h
    have num := G.nu
    have hn := G.le
    refine ss_cons (set 4 c_flow_from (call Fd hr (aG (w_exits N (hr.mono (by omega)) (nm 0 ⟨e, ex, rfl, v, a1 (nm 1 ⟨e, ex, d, st, rfl, hd, v, hst, ?_⟩)⟩)))))
    show WSs _ _ _ _
    refine ss_cons (set 5 c_flow_from (nm 3 ?_))
    show WSs _ _ [.val (netD C e ex), .val d, .val d0, .val (.lst (lI f0)), .val (.lst (deals ex st)), .val (.lst (lI (gL ex st ss f0 0))), .un, .un] _
    refine ss_cons (set 6 c_flow_from (call Fr hr (aG (nm 4 (aG (nm 2 (a1 (nm 5 ⟨e, ex, st, d0, ss, _, gL ex st ss f0 0, rfl, hd0, .inl rfl, v, num 0 (Nat.zero_le _), hss.len, ?_⟩))))))))
    show WSs _ _ [.val (netD C e ex), .val d, .val d0, .val (.lst (lI f0)), .val (.lst (deals ex st)), .val (.lst (lI (gL ex st ss f0 0))), .val (.lst (lI (gL ex st ss f0 1))), .un] _
    refine ss_cons (set 7 c_flow_from (w_int ?_))
    show WSs _ _ [.val (netD C e ex), .val d, .val d0, .val (.lst (lI f0)), .val (.lst (deals ex st)), .val (.lst (lI (gL ex st ss f0 0))), .val (.lst (lI (gL ex st ss f0 1))), .val (.int ((0 : Nat) : Int))] _
    refine ss_cut (fun ρ => ∃ s6 s7, ρ = [.val (netD C e ex), .val d, .val d0, .val (.lst (lI f0)), .val (.lst (deals ex st)), .val (.lst (lI (gL ex st ss f0 n))), s6, s7])
      (s_while PassesOwn.never (fun m ρ => ∃ i : Nat, i ≤ n ∧ m = n - i ∧ ρ = [.val (netD C e ex), .val d, .val d0, .val (.lst (lI f0)), .val (.lst (deals ex st)), .val (.lst (lI (gL ex st ss f0 i))), .val (.lst (lI (gL ex st ss f0 (i + 1)))), .val (.int (i : Int))]) _
        ⟨0, Nat.zero_le _, rfl, rfl⟩ (fun m ρ' hI => ?_)) (fun ρ' hI => ?_)
    · obtain ⟨i, hi, rfl, rfl⟩ := hI
      have fin : PyData.eqv (.list ((gL ex st ss f0 (i + 1)).map PyData.int)) (.list ((gL ex st ss f0 i).map PyData.int)) = decide (gL ex st ss f0 (i + 1) = gL ex st ss f0 i) := eqv_ints _ _
      refine t_cmpG (nm 6 (nm 5 (o_neD hr.units (py_lI _) (py_lI _) (shaped_ints _) (shaped_ints _) ⟨_, rfl, ?_⟩)))
      rw [fin]
      by_cases h : gL ex st ss f0 (i + 1) = gL ex st ss f0 i
      · rw [decide_eq_true h]
        have e1 : i = n := by
          apply Classical.byContradiction
          intro z
          exact G.ne i (by omega) h
        subst e1
        exact ⟨.val (.lst (lI (gL ex st ss f0 (i + 1)))), .val (.int (i : Int)), rfl⟩
      · rw [decide_eq_false h]
        have hin : i ≠ n := fun z => h (by rw [z]; exact G.fx)
        show WSs _ _ _ _
        refine ss_cons (s_if (t_cmpG (nm 7 (glb mR (o_eq ⟨_, rfl, ?_⟩)))))
        rw [decide_eq_false (by omega)]
        show WSs _ [] _ _
        refine ss_nil ?_
        show WSs _ _ _ _
        refine ss_cons (s_aug (i := 7) c_flow_from.nd rfl (.inl rfl) ⟨(i : Int), rfl, w_int ⟨1, rfl, ?_⟩⟩)
        show WSs _ _ _ _
        refine ss_cons (set 5 c_flow_from (nm 6 ?_))
        show WSs _ _ _ _
        refine ss_one (set 6 c_flow_from (call Fr hr (aG (nm 4 (aG (nm 2 (a1 (nm 5 ⟨e, ex, st, d0, ss, _, gL ex st ss f0 (i + 1), rfl, hd0, .inl rfl, v, num (i + 1) (by omega), hss.len, _, ?_, i + 1, ?_, rfl, rfl⟩))))))))
        · omega
        · omega
    · obtain ⟨s6, s7, rfl⟩ := hI
      exact ss_one (s_ret (nm 5 q))
/-! ### one visit less for each point of a ring -/
def lessL (vs : List Int) (l : List Nat) : List Int := (List.range vs.length).map fun i : Nat => if (i : Int) ∈ lN l then nth vs i - 1 else nth vs i
theorem lessL_len (vs : List Int) (l : List Nat) : (lessL vs l).length = vs.length := by unfold lessL; rw [List.length_map, List.length_range]
theorem mem_lN {l : List Nat} {i : Nat} : (i : Int) ∈ lN l ↔ i ∈ l := by
  unfold lN
  constructor
  · intro h
    obtain ⟨p, hp, e⟩ := List.mem_map.mp h
    have : p = i := by omega
    exact this ▸ hp
  · exact fun h => List.mem_map.mpr ⟨i, h, rfl⟩
theorem lessL_at (vs : List Int) (l : List Nat) {i : Nat} (h : i < vs.length) : nth (lessL vs l) i = nth vs i - (if i ∈ l then 1 else 0) := by
  have a : (lessL vs l)[i]? = some (if (i : Int) ∈ lN l then nth vs i - 1 else nth vs i) := by
    unfold lessL
    rw [List.getElem?_map, List.getElem?_range h]; rfl
  conv => lhs; unfold nth
  rw [List.getD_eq_getElem?_getD, a]
  show (if (i : Int) ∈ lN l then nth vs i - 1 else nth vs i) = _
  by_cases z : i ∈ l
  · rw [if_pos (mem_lN.mpr z), if_pos z]
  · rw [if_neg (fun y => z (mem_lN.mp y)), if_neg z]; omega
def lessD (l : List Nat) : D → D
  | .tup [.int p, .int m] => .int (if p ∈ lN l then m - 1 else m)
  | _ => .non
theorem lessD_eq (vs : List Int) (l : List Nat) : (((rng 0 (lI vs).length).zip (lI vs)).map fun q => D.tup [q.1, q.2]).map (lessD l) = lI (lessL vs l) := by
  rw [enum_eq, List.map_map]
  unfold lessL lI
  rw [List.map_map, List.length_map]
  refine List.map_congr_left fun i hi => ?_
  have hi := List.mem_range.mp hi
  show lessD l (.tup [.int (i : Int), (vs.map D.int).getD i .non]) = .int _
  have e : (vs.map D.int).getD i .non = .int (nth vs i) := by
    rw [List.getD_eq_getElem?_getD, List.getElem?_map, nth_get hi]; rfl
  rw [e]; rfl
def cLO : List D → (D → Prop) → Prop := fun ds Z => ∃ vs l, ds = [.lst (lI vs), .lst (lI (lN l))] ∧ vs.length ≤ 24 ∧ Z (.lst (lI (lessL vs l)))
theorem ok_less_once (T : Blt mg) (F : Fun K "less_once" "less_once" s_less_once f fd) : FnOk P w K mg base CX0 (k + 1) f fd ["visits", "ring"] (spD cLO) := by
  refine fnD F c_less_once (fun ds Z h => ?_) (fun cdv A outer s H E ds Z hr h => ?_)
  · obtain ⟨vs, l, rfl, _⟩ := h
    rfl
  · obtain ⟨vs, l, rfl, hl, q⟩ := h
    refine ss_one (s_ret (lc2 2 3 (lessD l) c_less_once (wi_enum rfl T.enum (a1 (nm 0 ⟨_, rfl, ?_, fun x hx => ?_, ?_⟩)))))
    · rw [List.length_map, List.length_zip, rng_len, lI_len]; omega
    · rw [enum_eq] at hx
      obtain ⟨i, hi, rfl⟩ := List.mem_map.mp hx
      have hi : i < vs.length := by have := List.mem_range.mp hi; rw [lI_len] at this; exact this
      have e : (lI vs).getD i .non = .int (nth vs i) := by
        unfold lI
        rw [List.getD_eq_getElem?_getD, List.getElem?_map, nth_get hi]; rfl
      rw [e]
      refine ⟨_, _, rfl, fun _ _ _ _ _ => w_if (t_cmpG (nm 2 (nm 1 (o_in ⟨_, rfl, ?_⟩))))⟩
      by_cases z : (i : Int) ∈ lN l
      · rw [decide_eq_true z]
        show W _ _ _ _ _ _
        refine w_binG (nm 3 (w_int (o_sub ?_)))
        show D.int (nth vs i - 1) = D.int (if (i : Int) ∈ lN l then nth vs i - 1 else nth vs i)
        rw [if_pos z]
      · rw [decide_eq_false z]
        show W _ _ _ _ _ _
        refine nm 3 ?_
        show D.int (nth vs i) = D.int (if (i : Int) ∈ lN l then nth vs i - 1 else nth vs i)
        rw [if_neg z]
    · rw [lessD_eq]; exact q
end
end K37

namespace K37
open PySem PySem.Spec PyProof.Rows L2 DD
/-! ### a ring taken back -/
theorem Nt.last_lt (N : Nt) {v : Nat → Int} {p : Nat} (hp : p < N.n) : N.last v p < N.d p := by
  have hd := N.hd p hp
  have a := Int.emod_nonneg (N.s p + (v p - 1)) (show (N.d p : Int) ≠ 0 by omega)
  have b := Int.emod_lt_of_pos (N.s p + (v p - 1)) (show (0 : Int) < N.d p by omega)
  unfold Nt.last
  omega
theorem Nt.go_less (N : Nt) {v u : Nat → Int} {p r q : Nat} (hp : p < N.n) (hx : N.nx v p = some r) (hu : u p = v p - 1) : N.go v p q = N.go u p q + (if r = q then 1 else 0) := by
  obtain ⟨v0, hr, ht⟩ := N.nx_some hx
  have hd := N.hd p hp
  have he := N.last_lt (v := v) hp
  have hl : ((N.last v p : Nat) : Int) = (N.s p + u p) % (N.d p : Int) := by
    have a := Int.emod_nonneg (N.s p + (v p - 1)) (show (N.d p : Int) ≠ 0 by omega)
    unfold Nt.last
    rw [hu]; omega
  have hc : ∀ i : Nat, i < N.d p → cnt (N.d p) (N.s p) (v p) i = cnt (N.d p) (N.s p) (u p) i + (if N.last v p = i then 1 else 0) := fun i hi => by
    have z := cnt_succ (d := N.d p) (s := N.s p) (t := u p) (e := (i : Int)) (by omega) (by omega) (by omega)
    rw [show u p + 1 = v p by omega, ← hl] at z
    rw [z]
    by_cases y : N.last v p = i
    · rw [if_pos y, if_pos (by omega)]
    · rw [if_neg y, if_neg (by omega)]
  show sumN _ _ = sumN _ _ + _
  refine sumN_at (k := N.last v p) _ he (fun i hi hne => ?_) ?_
  · show (if N.tg p i = (q : Int) then cnt _ _ (v p) i else 0) = (if N.tg p i = (q : Int) then cnt _ _ (u p) i else 0)
    rw [hc i hi, if_neg (show ¬ N.last v p = i from fun y => hne y.symm), Int.add_zero]
  · show (if N.tg p (N.last v p) = (q : Int) then cnt _ _ (v p) (N.last v p : Nat) else 0) = (if N.tg p (N.last v p) = (q : Int) then cnt _ _ (u p) (N.last v p : Nat) else 0) + _
    rw [hc _ he, if_pos rfl, ht]
    by_cases y : r = q
    · rw [if_pos (by omega), if_pos (by omega), if_pos y]
    · rw [if_neg (by omega), if_neg (by omega), if_neg y]; rfl
theorem nd_inj {l : List Nat} (nd : l.Nodup) {i j : Nat} {x : Nat} (hi : l[i]? = some x) (hj : l[j]? = some x) : i = j :=
  (List.getElem?_inj (List.getElem?_eq_some_iff.mp hi).1 nd).mp (hi.trans hj.symm)
theorem ind_len {n : Nat} : ∀ {l : List Nat}, l.Nodup → (∀ p ∈ l, p < n) → sumN (fun p => if p ∈ l then 1 else 0) n = l.length
  | [], _, _ => by
    rw [sumN_congr (g := fun _ => 0) n fun i _ => if_neg (by simp), sumN_zero]; rfl
  | a :: l, nd, lt => by
    have na := (List.nodup_cons.mp nd)
    have ih := ind_len (n := n) na.2 fun p hp => lt p (List.mem_cons_of_mem _ hp)
    have s : sumN (fun p => if p ∈ a :: l then (1 : Int) else 0) n = sumN (fun p => if p ∈ l then 1 else 0) n + 1 := by
      refine sumN_at (k := a) n (lt a List.mem_cons_self) (fun i hi hne => ?_) ?_
      · show (if i ∈ a :: l then (1 : Int) else 0) = (if i ∈ l then 1 else 0)
        by_cases z : i ∈ l
        · rw [if_pos (List.mem_cons_of_mem _ z), if_pos z]
        · rw [if_neg (fun y => (List.mem_cons.mp y).elim hne z), if_neg z]
      · show (if a ∈ a :: l then (1 : Int) else 0) = (if a ∈ l then 1 else 0) + 1
        rw [if_pos List.mem_cons_self, if_neg na.1]; rfl
    rw [s, ih, List.length_cons]; omega
/-- into each point of a ring leads one of it, into no other point -/
theorem RingL.into {nx : Nat → Option Nat} {n : Nat} {l : List Nat} (h : RingL nx n l) (q : Nat) : sumN (fun p => if p ∈ l ∧ nx p = some q then 1 else 0) n = if q ∈ l then 1 else 0 := by
  have l0 : 0 < l.length := List.length_pos_iff.mpr h.ne
  have gd : ∀ i, i < l.length → l[i]? = some (l.getD i 0) := fun i hi => by rw [List.getD_eq_getElem?_getD, List.getElem?_eq_getElem hi]; rfl
  by_cases hq : q ∈ l
  · rw [if_pos hq]
    obtain ⟨j, hj⟩ := List.mem_iff_getElem?.mp hq
    have hjl := (List.getElem?_eq_some_iff.mp hj).1
    obtain ⟨i, hi, hij⟩ : ∃ i, i < l.length ∧ (i + 1) % l.length = j := by
      by_cases z : j = 0
      · exact ⟨l.length - 1, by omega, by rw [show l.length - 1 + 1 = l.length by omega, Nat.mod_self, z]⟩
      · exact ⟨j - 1, by omega, by rw [show j - 1 + 1 = j by omega, Nat.mod_eq_of_lt hjl]⟩
    have hp := gd i hi
    have hn := h.st i _ hp
    have hjq : l.getD j 0 = q := by
      have := gd j hjl
      rw [hj] at this
      injection this with this
      exact this.symm
    rw [hij, hjq] at hn
    have hpl := h.lt _ (List.mem_of_getElem? hp)
    have s : sumN (fun p => if p ∈ l ∧ nx p = some q then (1 : Int) else 0) n = sumN (fun _ => 0) n + 1 := by
     refine sumN_at (k := l.getD i 0) n hpl (fun p hp2 hne => if_neg fun y => ?_) ?_
     · obtain ⟨i', hi'⟩ := List.mem_iff_getElem?.mp y.1
       have hil := (List.getElem?_eq_some_iff.mp hi').1
       have a := h.st i' p hi'
       rw [y.2] at a
       injection a with a
       have ml := Nat.mod_lt (i' + 1) l0
       have b := gd _ ml
       rw [← a] at b
       have c := nd_inj h.nd b hj
       have d : i' = i := by
         by_cases z1 : i' + 1 < l.length
         · rw [Nat.mod_eq_of_lt z1] at c
           by_cases z2 : i + 1 < l.length
           · rw [Nat.mod_eq_of_lt z2] at hij; omega
           · rw [show i + 1 = l.length by omega, Nat.mod_self] at hij; omega
         · rw [show i' + 1 = l.length by omega, Nat.mod_self] at c
           by_cases z2 : i + 1 < l.length
           · rw [Nat.mod_eq_of_lt z2] at hij; omega
           · omega
       rw [d, hp] at hi'
       injection hi' with hi'
       exact hne hi'.symm
     · show (if l.getD i 0 ∈ l ∧ nx (l.getD i 0) = some q then (1 : Int) else 0) = 0 + 1
       rw [if_pos ⟨List.mem_of_getElem? hp, hn⟩]; rfl
    rw [s, sumN_zero]; rfl
  · rw [if_neg hq]
    refine (sumN_congr n fun p _ => if_neg fun y => ?_).trans (sumN_zero n)
    obtain ⟨i, hi⟩ := List.mem_iff_getElem?.mp y.1
    have a := h.st i p hi
    rw [y.2] at a
    injection a with a
    exact hq (a ▸ List.mem_of_getElem? (gd _ (Nat.mod_lt (i + 1) l0)))
theorem Nt.less_flow (N : Nt) {v : Nat → Int} {l : List Nat} (hf : N.Flow v) (hl : RingL (N.nx v) N.n l) : N.Flow fun p => v p - (if p ∈ l then 1 else 0) := by
  have pos : ∀ p ∈ l, ∃ r, N.nx v p = some r := fun p hp => by
    obtain ⟨i, hi⟩ := List.mem_iff_getElem?.mp hp
    exact ⟨_, hl.st i p hi⟩
  refine ⟨fun p hp => ?_, fun q hq => ?_⟩
  · by_cases z : p ∈ l
    · obtain ⟨r, hr⟩ := pos p z
      have := (N.nx_some hr).1
      rw [if_pos z]; omega
    · have := hf.nn p hp
      rw [if_neg z]; omega
  · have a := hf.eq q hq
    have b : ∀ p, p < N.n → N.go v p q = N.go (fun p => v p - (if p ∈ l then 1 else 0)) p q + (if p ∈ l ∧ N.nx v p = some q then 1 else 0) := fun p hp => by
      by_cases z : p ∈ l
      · obtain ⟨r, hr⟩ := pos p z
        rw [N.go_less (u := fun p => v p - (if p ∈ l then 1 else 0)) (q := q) hp hr (by show v p - (if p ∈ l then 1 else 0) = _; rw [if_pos z])]
        by_cases y : r = q
        · rw [if_pos y, if_pos ⟨z, by rw [hr, y]⟩]
        · rw [if_neg y, if_neg (fun x => y (by have := x.2; rw [hr] at this; injection this))]
      · rw [if_neg (fun x => z x.1), Int.add_zero]
        show sumN _ _ = sumN _ _
        refine sumN_congr _ fun e _ => ?_
        show (if N.tg p e = (q : Int) then cnt _ _ (v p) e else 0) = (if N.tg p e = (q : Int) then cnt _ _ (v p - (if p ∈ l then 1 else 0)) e else 0)
        rw [if_neg z, Int.sub_zero]
    rw [sumN_congr N.n b, sumN_add, hl.into q] at a
    show v q - (if q ∈ l then 1 else 0) = _
    omega
theorem less_is {e : Int} {ex : List (List Int)} {st ss vs : List Int} (v : Valid e ex) (hs : ss.length = ex.length) {l : List Nat} (hl : RingL (nxL ex st vs) ex.length l) (hv : vs.length = ex.length) (hn : ∀ x ∈ vs, 0 ≤ x) (hf : arrV ex st vs ss = vs) :
    (∀ x ∈ lessL vs l, 0 ≤ x) ∧ arrV ex st (lessL vs l) ss = lessL vs l ∧ sumN (nth (lessL vs l)) ex.length = sumN (nth vs) ex.length - l.length := by
  have F := (flow_iff (ss := ss) v.r1 hs hv hn).mpr hf
  have F2 := (ntOf ex st ss v.r1).less_flow F hl
  have at_ : ∀ i, i < ex.length → nth (lessL vs l) i = nth vs i - (if i ∈ l then 1 else 0) := fun i hi => lessL_at vs l (by omega)
  have ll := lessL_len vs l
  have nn : ∀ x ∈ lessL vs l, 0 ≤ x := fun x hx => by
    obtain ⟨i, hi, rfl⟩ := List.mem_iff_getElem.mp hx
    have e1 : (lessL vs l)[i] = nth (lessL vs l) i := by
      have := nth_get hi
      rw [List.getElem?_eq_getElem hi] at this
      injection this
    rw [e1, at_ i (by omega)]
    exact F2.nn i (show i < ex.length by omega)
  refine ⟨nn, (flow_iff v.r1 hs (by omega) nn).mp ⟨fun p hp => ?_, fun q hq => ?_⟩, ?_⟩
  · rw [at_ p hp]; exact F2.nn p hp
  · have a := F2.eq q hq
    rw [at_ q hq]
    refine a.trans (congrArg _ (sumN_congr _ fun p hp => (ntOf ex st ss v.r1).go_eq (fun i hi => (at_ i hi).symm) hp q))
  · rw [sumN_congr _ at_, sumN_sub, ind_len hl.nd hl.lt]
end K37

namespace K37
open PySem PySem.Spec PyProof.Rows L2 DD
section
variable {P : Program} {w : World} {K : PySem.W.Frag} {mg : Str → Option Value} {base : Heap} {f C : Addr} {fd : FuncData} {k : Nat}
/-! ### rings taken back to the least flow -/
theorem c_listJ {X : Cx} {Z : D → Prop} {u : D} {l : List Int} (h : rowI u l) (q : Z (.lst (lI l))) : OpC true X (.type "list") [u] Z := by
  rcases h with rfl | rfl
  · exact c_list q
  · exact c_listT q
theorem rowI.plR {x : D} {l : List Int} (h : rowI x l) (hl : l.length ≤ 40000) : PlR x := ⟨(h.pl hl).1, (h.pl hl).2⟩
theorem isFlow_of {ex : List (List Int)} {st ss vs : List Int} {d : D} (h : rowI d vs) (hn : Nums ex.length vs) (hf : arrV ex st vs ss = vs) : isFlow d ex st ss = true := by
  have e1 : areN d ex.length = true := by
    unfold areN
    have e : its d = some (lI vs) := by rcases h with rfl | rfl <;> rfl
    rw [e]
    have z : (lI vs).all isN = true := List.all_eq_true.mpr fun x hx => by
      obtain ⟨i, hi, rfl⟩ := List.mem_map.mp hx
      have := hn.num i hi
      show (decide (0 ≤ i) && decide (i < 10 ^ 30)) = true
      rw [decide_eq_true this.1, decide_eq_true this.2]; rfl
    show (decide (((lI vs).length : Int) = ex.length) && (lI vs).all isN) = true
    rw [z, lI_len, hn.len, decide_eq_true rfl]; rfl
  unfold isFlow
  rw [e1, valI_of h, hf, decide_eq_true rfl]; rfl
def cRed (C : Addr) : List D → (D → Prop) → Prop := fun ds Z => ∃ e ex d st ss du vs u, ds = [netD C e ex, d, .lst (lI ss), du] ∧ rowI d st ∧ rowI du vs ∧ Valid e ex ∧ ValidS ex st ∧ Nums ex.length ss ∧ Nums ex.length vs ∧ arrV ex st vs ss = vs ∧ sumN (nth vs) ex.length ≤ 10000 ∧ LF ex st ss u ∧ Z (.lst (lI u))
def st8 (C : Addr) (e : Int) (ex : List (List Int)) (d du : D) (ss l : List Int) (t : Int) (r : D) : Rho := [.val (netD C e ex), .val d, .val (.lst (lI ss)), .val du, .val (.lst (rowsL ex)), .val (.lst (lI l)), .val (.int t), .val r]
theorem ok_reduced {j : Nat} {tV : Tok} (T : Blt mg) (N : NetP P w K mg base C j) (hj : j + 1 ≤ k) (mV : mg "MOST_VISITS" = some (.int 20000 tV)) (Ft : Df P w K mg base k "check_trains" ["net", "setting", "starts"] (spD (cTr C))) (Fv : Df P w K mg base k "check_visits" ["net", "visits"] (spD (cNum C)))
    (Fc : Df P w K mg base k "_check_flow" ["net", "setting", "starts", "visits"] (spD (cCF C))) (Fr : Df P w K mg base k "found_ring" ["rows", "setting", "visits"] (spD cFR)) (Fl : Df P w K mg base k "less_once" ["visits", "ring"] (spD cLO))
    (F : Fun K "reduced" "reduced" s_reduced f fd) : FnOk P w K mg base CX0 (k + 1) f fd ["net", "setting", "starts", "visits"] (spD (cRed C)) := by
  refine fnD F c_reduced (fun ds Z h => ?_) (fun cdv A outer s H E ds Z hr h => ?_)
  · obtain ⟨e, ex, d, st, ss, du, vs, u, rfl, _⟩ := h
    rfl
  · obtain ⟨e, ex, d, st, ss, du, vs, u, rfl, hd, hdu, v, hst, hss, hvs, hf, hle, hu, q⟩ := h
    have n24 := v.n24
    have vl := hvs.len
    refine ss_cons (s_expr (call Ft hr (aG (nm 0 (aG (nm 1 (a1 (nm 2 ⟨e, ex, d, st, _, ss, rfl, hd, .inl rfl, v, hst, hss, ?_⟩))))))))
    show WSs _ _ _ _
    refine ss_cons (s_expr (call Fv hr (aG (nm 0 (a1 (nm 3 ⟨e, ex, du, vs, rfl, hdu, v, hvs, ?_⟩))))))
    show WSs _ _ _ _
    refine ss_cons (s_expr (call Fc hr (aG (nm 0 (aG (nm 1 (aG (nm 2 (a1 (nm 3 ⟨e, ex, d, st, ss, du, rfl, hd, v, hst, hss, hdu.plR (by omega), isFlow_of hdu hvs hf, ?_⟩))))))))))
    show WSs _ _ _ _
    refine ss_cons (set 4 c_reduced (w_exits N (hr.mono (by omega)) (nm 0 ⟨e, ex, rfl, v, ?_⟩)))
    show WSs _ _ _ _
    refine ss_cons (set 5 c_reduced (w_callTy (T := "list") true rfl T.list (by decide +kernel) (a1 (nm 3 (c_listJ hdu ?_)))))
    show WSs _ _ [.val (netD C e ex), .val d, .val (.lst (lI ss)), .val du, .val (.lst (rowsL ex)), .val (.lst (lI vs)), .un, .un] _
    refine ss_cons (set 6 c_reduced (w_int ?_))
    show WSs _ _ _ _
    have S0 := sumN_nn (f := nth vs) (n := ex.length) fun i hi => (hvs.num _ (nth_mem (by omega))).1
    refine ss_cons (set 7 c_reduced (call Fr hr (aG (nm 4 (aG (nm 1 (a1 (nm 5 ⟨e, ex, d, st, _, vs, rfl, hd, .inl rfl, v, hst.1, vl, fun z hz => ?_⟩))))))))
    show WSs _ _ (st8 C e ex d du ss vs 0 z) _
    refine ss_cut (fun ρ => ∃ t r, ρ = st8 C e ex d du ss u t r)
      (s_while PassesOwn.never (fun m ρ => ∃ (l : List Int) (t : Int) (r : D), l.length = ex.length ∧ (∀ x ∈ l, 0 ≤ x) ∧ arrV ex st l ss = l ∧ 0 ≤ t ∧ t + sumN (nth l) ex.length ≤ 10000 ∧ m = (sumN (nth l) ex.length).toNat ∧ ((r = .non ∧ hasR ex st l = false) ∨ ((∃ ring : List Nat, r = .lst (lI (lN ring)) ∧ RingL (nxL ex st l) ex.length ring) ∧ hasR ex st l = true)) ∧ ρ = st8 C e ex d du ss l t r) _
        ⟨vs, 0, z, vl, fun x hx => (hvs.num x hx).1, hf, Int.le_refl _, by omega, rfl, hz, rfl⟩ (fun m ρ' hI => ?_)) (fun ρ' hI => ?_)
    · obtain ⟨l, t, r, ll, ln, lf, t0, ht, rfl, hr', rfl⟩ := hI
      rcases hr' with ⟨rfl, hn⟩ | ⟨⟨ring, rfl, R⟩, _⟩
      · refine t_cmpG (nm 7 (w_non (o_isnN ⟨_, rfl, ?_⟩)))
        have e1 : l = u := LF.uniq ⟨ll, ln, lf, hn, by omega⟩ hu v.r1 hss.len
        exact ⟨t, .non, by rw [e1]⟩
      · refine t_cmpG (nm 7 (w_non (o_isnL ⟨_, rfl, ?_⟩)))
        obtain ⟨a, b, c⟩ := less_is v hss.len R ll ln lf
        have sn := sumN_nn (f := nth (lessL l ring)) (n := ex.length) fun i hi => a _ (nth_mem (by rw [lessL_len]; omega))
        have r0 : 0 < ring.length := List.length_pos_iff.mpr R.ne
        show WSs _ _ (st8 C e ex d du ss l t (.lst (lI (lN ring)))) _
        refine ss_cons (s_aug (i := 6) c_reduced.nd rfl (.inl rfl) ⟨t, rfl, w_callB (id := "len") true rfl T.len (by decide +kernel) (a1 (nm 7 (c_lenL ⟨_, rfl, ?_⟩)))⟩)
        rw [lI_len, show (lN ring).length = ring.length from List.length_map _]
        show WSs _ _ (st8 C e ex d du ss l (t + (ring.length : Int)) (.lst (lI (lN ring)))) _
        refine ss_cons (s_if (t_cmpG (nm 6 (glb mV (o_gt ⟨_, rfl, ?_⟩)))))
        rw [decide_eq_false (by omega)]
        show WSs _ [] _ _
        refine ss_nil ?_
        show WSs _ _ (st8 C e ex d du ss l (t + (ring.length : Int)) (.lst (lI (lN ring)))) _
        refine ss_cons (set 5 c_reduced (call Fl hr (aG (nm 5 (a1 (nm 7 ⟨l, ring, rfl, by omega, ?_⟩))))))
        show WSs _ _ (st8 C e ex d du ss (lessL l ring) (t + (ring.length : Int)) (.lst (lI (lN ring)))) _
        refine ss_one (set 7 c_reduced (call Fr hr (aG (nm 4 (aG (nm 1 (a1 (nm 5 ⟨e, ex, d, st, _, lessL l ring, rfl, hd, .inl rfl, v, hst.1, by rw [lessL_len]; omega, fun z hz => ?_⟩))))))))
        exact ⟨_, by omega, lessL l ring, t + ring.length, z, by rw [lessL_len]; omega, a, b, by omega, by omega, rfl, hz, rfl⟩
    · obtain ⟨t, r, rfl⟩ := hI
      exact ss_one (s_ret (nm 5 q))
end
end K37

namespace K37
open PySem PySem.Spec PyProof.Rows L2 DD
section
variable {P : Program} {w : World} {K : PySem.W.Frag} {mg : Str → Option Value} {base : Heap} {f C : Addr} {fd : FuncData} {k : Nat}
/-! ### between two flows -/
structure Fw (ex : List (List Int)) (st ss : List Int) (d : D) (vs : List Int) : Prop where
  r : rowI d vs
  n : Nums ex.length vs
  e : arrV ex st vs ss = vs
def cBo (C : Addr) : List D → (D → Prop) → Prop := fun ds Z => ∃ e ex d st ss d1 vs d2 us, ds = [netD C e ex, d, .lst (lI ss), d1, d2] ∧ rowI d st ∧ Valid e ex ∧ ValidS ex st ∧ Nums ex.length ss ∧ (ptsTo ex (endsL e)).length = ex.length ∧ Fw ex st ss d1 vs ∧ Fw ex st ss d2 us ∧ Z .non
theorem ok_check_both (Ft : Df P w K mg base k "check_trains" ["net", "setting", "starts"] (spD (cTr C))) (Fv : Df P w K mg base k "check_visits" ["net", "visits"] (spD (cNum C))) (Fl : Df P w K mg base k "check_leading" ["net"] (spD (cCL C)))
    (Fc : Df P w K mg base k "_check_flow" ["net", "setting", "starts", "visits"] (spD (cCF C))) (F : Fun K "_check_both" "_check_both" s_check_both f fd) : FnOk P w K mg base CX0 (k + 1) f fd ["net", "setting", "starts", "visits", "others"] (spD (cBo C)) := by
  refine fnD F c_check_both (fun ds Z h => ?_) (fun cdv A outer s H E ds Z hr h => ?_)
  · obtain ⟨e, ex, d, st, ss, d1, vs, d2, us, rfl, _⟩ := h
    rfl
  · obtain ⟨e, ex, d, st, ss, d1, vs, d2, us, rfl, hd, v, hst, hss, hl, h1, h2, q⟩ := h
    have n24 := v.n24
    have l1 := h1.n.len
    have l2 := h2.n.len
    refine ss_cons (s_expr (call Ft hr (aG (nm 0 (aG (nm 1 (a1 (nm 2 ⟨e, ex, d, st, _, ss, rfl, hd, .inl rfl, v, hst, hss, ?_⟩))))))))
    show WSs _ _ _ _
    refine ss_cons (s_expr (call Fv hr (aG (nm 0 (a1 (nm 3 ⟨e, ex, d1, vs, rfl, h1.r, v, h1.n, ?_⟩))))))
    show WSs _ _ _ _
    refine ss_cons (s_expr (call Fv hr (aG (nm 0 (a1 (nm 4 ⟨e, ex, d2, us, rfl, h2.r, v, h2.n, ?_⟩))))))
    show WSs _ _ _ _
    refine ss_cons (s_expr (call Fl hr (a1 (nm 0 ⟨e, ex, rfl, v, hl, ?_⟩))))
    show WSs _ _ _ _
    refine ss_cons (s_expr (call Fc hr (aG (nm 0 (aG (nm 1 (aG (nm 2 (a1 (nm 3 ⟨e, ex, d, st, ss, d1, rfl, hd, v, hst, hss, h1.r.plR (by omega), isFlow_of h1.r h1.n h1.e, ?_⟩))))))))))
    show WSs _ _ _ _
    exact ss_one (s_expr (call Fc hr (aG (nm 0 (aG (nm 1 (aG (nm 2 (a1 (nm 4 ⟨e, ex, d, st, ss, d2, rfl, hd, v, hst, hss, h2.r.plR (by omega), isFlow_of h2.r h2.n h2.e, q⟩))))))))))
def zipG (g : Int → Int → Int) (a b : List Int) : List Int := (a.zip b).map fun q => g q.1 q.2
theorem zipG_len {g : Int → Int → Int} {a b : List Int} (h : b.length = a.length) : (zipG g a b).length = a.length := by
  unfold zipG
  rw [List.length_map, List.length_zip]; omega
theorem zipG_at {g : Int → Int → Int} {a b : List Int} {i : Nat} (h1 : i < a.length) (h2 : i < b.length) : nth (zipG g a b) i = g (nth a i) (nth b i) := by
  unfold zipG
  have z : (a.zip b)[i]? = some (nth a i, nth b i) := List.getElem?_zip_eq_some.mpr ⟨nth_get h1, nth_get h2⟩
  conv => lhs; unfold nth
  rw [List.getD_eq_getElem?_getD, List.getElem?_map, z]; rfl
def gP (g : Int → Int → Int) : D → D
  | .tup [.int a, .int b] => .int (g a b)
  | _ => .non
theorem zip_gP (g : Int → Int → Int) (a b : List Int) : (((lI a).zip (lI b)).map fun q => D.tup [q.1, q.2]).map (gP g) = lI (zipG g a b) := by
  rw [zipI_eq, List.map_map]
  unfold zipG lI
  rw [List.map_map]; rfl
def mnI (i j : Int) : Int := if j < i then j else i
def mxI (i j : Int) : Int := if j > i then j else i
theorem rowI.isB {d : D} {l : List Int} (h : rowI d l) : ∃ b, d = isB2 b (lI l) := by
  rcases h with rfl | rfl
  · exact ⟨false, rfl⟩
  · exact ⟨true, rfl⟩
def cMJ (C : Addr) (g : Int → Int → Int) : List D → (D → Prop) → Prop := fun ds Z => ∃ e ex d st ss d1 vs d2 us n, ds = [netD C e ex, d, .lst (lI ss), d1, d2] ∧ rowI d st ∧ Valid e ex ∧ ValidS ex st ∧ Nums ex.length ss ∧ (ptsTo ex (endsL e)).length = ex.length ∧ Fw ex st ss d1 vs ∧ Fw ex st ss d2 us ∧ GR ex st ss (zipG g vs us) n ∧ Z (.lst (lI (gL ex st ss (zipG g vs us) n)))
theorem ok_met (hz : mg "zip" = none) (hm : mg "min" = none) (Fb : Df P w K mg base k "_check_both" ["net", "setting", "starts", "visits", "others"] (spD (cBo C))) (Ff : Df P w K mg base k "_flow_from" ["net", "setting", "starts", "first"] (spD (cFF C)))
    (F : Fun K "met" "met" s_met f fd) : FnOk P w K mg base CX0 (k + 1) f fd ["net", "setting", "starts", "visits", "others"] (spD (cMJ C mnI)) := by
  refine fnD F c_met (fun ds Z h => ?_) (fun cdv A outer s H E ds Z hr h => ?_)
  · obtain ⟨e, ex, d, st, ss, d1, vs, d2, us, n, rfl, _⟩ := h
    rfl
  · obtain ⟨e, ex, d, st, ss, d1, vs, d2, us, n, rfl, hd, v, hst, hss, hl, h1, h2, G, q⟩ := h
    have n24 := v.n24
    have l1 := h1.n.len
    have l2 := h2.n.len
    refine ss_cons (s_expr (call Fb hr (aG (nm 0 (aG (nm 1 (aG (nm 2 (aG (nm 3 (a1 (nm 4 ⟨e, ex, d, st, ss, d1, vs, d2, us, rfl, hd, v, hst, hss, hl, h1, h2, ?_⟩))))))))))))
    obtain ⟨b1, e1⟩ := h1.r.isB
    obtain ⟨b2, e2⟩ := h2.r.isB
    subst e1 e2
    show WSs _ _ _ _
    refine ss_cons (s_lc2 5 6 7 (gP mnI) c_met (wi_zipB b1 b2 rfl hz (aG (nm 3 (a1 (nm 4 ⟨lI vs, lI us, rfl, ?_, fun x hx => ?_, ?_⟩))))))
    · rw [List.length_map, List.length_zip, lI_len, lI_len]; omega
    · rw [zipI_eq] at hx
      obtain ⟨⟨a, b⟩, _, rfl⟩ := List.mem_map.mp hx
      exact ⟨_, _, rfl, fun _ _ _ _ _ => w_callB (id := "min") true rfl hm (by decide +kernel) (aG (nm 6 (a1 (nm 7 (c_min2 rfl rfl)))))⟩
    · rw [zip_gP]
      show WSs _ _ [.val (netD C e ex), .val d, .val (.lst (lI ss)), .val (isB2 b1 (lI vs)), .val (isB2 b2 (lI us)), .val (.lst (lI (zipG mnI vs us))), .un, .un] _
      exact ss_one (s_ret (call Ff hr (aG (nm 0 (aG (nm 1 (aG (nm 2 (a1 (nm 5 ⟨e, ex, d, st, _, ss, _, n, rfl, hd, .inl rfl, v, hst, hss, G, q⟩))))))))))
theorem ok_joined (hz : mg "zip" = none) (hm : mg "max" = none) (Fb : Df P w K mg base k "_check_both" ["net", "setting", "starts", "visits", "others"] (spD (cBo C))) (Ff : Df P w K mg base k "_flow_from" ["net", "setting", "starts", "first"] (spD (cFF C)))
    (F : Fun K "joined" "joined" s_joined f fd) : FnOk P w K mg base CX0 (k + 1) f fd ["net", "setting", "starts", "visits", "others"] (spD (cMJ C mxI)) := by
  refine fnD F c_joined (fun ds Z h => ?_) (fun cdv A outer s H E ds Z hr h => ?_)
  · obtain ⟨e, ex, d, st, ss, d1, vs, d2, us, n, rfl, _⟩ := h
    rfl
  · obtain ⟨e, ex, d, st, ss, d1, vs, d2, us, n, rfl, hd, v, hst, hss, hl, h1, h2, G, q⟩ := h
    have n24 := v.n24
    have l1 := h1.n.len
    have l2 := h2.n.len
    refine ss_cons (s_expr (call Fb hr (aG (nm 0 (aG (nm 1 (aG (nm 2 (aG (nm 3 (a1 (nm 4 ⟨e, ex, d, st, ss, d1, vs, d2, us, rfl, hd, v, hst, hss, hl, h1, h2, ?_⟩))))))))))))
    obtain ⟨b1, e1⟩ := h1.r.isB
    obtain ⟨b2, e2⟩ := h2.r.isB
    subst e1 e2
    show WSs _ _ _ _
    refine ss_cons (s_lc2 5 6 7 (gP mxI) c_joined (wi_zipB b1 b2 rfl hz (aG (nm 3 (a1 (nm 4 ⟨lI vs, lI us, rfl, ?_, fun x hx => ?_, ?_⟩))))))
    · rw [List.length_map, List.length_zip, lI_len, lI_len]; omega
    · rw [zipI_eq] at hx
      obtain ⟨⟨a, b⟩, _, rfl⟩ := List.mem_map.mp hx
      exact ⟨_, _, rfl, fun _ _ _ _ _ => w_callB (id := "max") true rfl hm (by decide +kernel) (aG (nm 6 (a1 (nm 7 (c_max2 rfl rfl)))))⟩
    · rw [zip_gP]
      show WSs _ _ [.val (netD C e ex), .val d, .val (.lst (lI ss)), .val (isB2 b1 (lI vs)), .val (isB2 b2 (lI us)), .val (.lst (lI (zipG mxI vs us))), .un, .un] _
      exact ss_one (s_ret (call Ff hr (aG (nm 0 (aG (nm 1 (aG (nm 2 (a1 (nm 5 ⟨e, ex, d, st, _, ss, _, n, rfl, hd, .inl rfl, v, hst, hss, G, q⟩))))))))))
end
end K37

namespace K37
open PySem PySem.Spec PyProof.Rows L2 DD
section
variable {P : Program} {w : World} {K : PySem.W.Frag} {mg : Str → Option Value} {base : Heap} {f C : Addr} {fd : FuncData} {k : Nat}
/-! ### all flows with small numbers, by the law -/
def flB (ex : List (List Int)) (st ss r : List Int) : Bool := decide (arrV ex st r ss = r)
def flQ (ex : List (List Int)) (st ss : List Int) : D → Bool
  | .lst xs => flB ex st ss (xs.map unI)
  | _ => false
theorem unI_lI (l : List Int) : (lI l).map unI = l := by
  unfold lI
  rw [List.map_map, show (unI ∘ D.int) = id from rfl, List.map_id]
theorem rowsL_flt (q : D → Bool) (b : List Int → Bool) (h : ∀ l, q (.lst (lI l)) = b l) (L : List (List Int)) : ((rowsL L).filter q).map (fun d => d) = rowsL (L.filter b) := by
  rw [List.map_id']
  unfold rowsL
  rw [List.filter_map]
  congr 1
  exact List.filter_congr fun r _ => h r
def addQ : D → D → D
  | .lst xs, e => .lst (xs ++ [e])
  | d, _ => d
theorem pow_le7 {m n : Nat} (hm : m ≤ 6) (hn : n ≤ 3) : (m + 1) ^ n ≤ 343 := Nat.le_trans (Nat.pow_le_pow_left (show m + 1 ≤ 7 by omega) n) (Nat.le_trans (Nat.pow_le_pow_right (show 0 < 7 by decide) hn) (by decide))
def extV (m : Nat) (r : List Int) : List (List Int) := (List.range (m + 1)).map fun i : Nat => r ++ [(i : Int)]
def cLfl : List D → (D → Prop) → Prop := fun ds Z => ∃ e ex st ss, ∃ m : Nat, ds = [.int e, .lst (rowsL ex), .lst (lI st), .lst (lI ss), .int (m : Int)] ∧ Valid e ex ∧ ValidS ex st ∧ ss.length = ex.length ∧ ex.length ≤ 3 ∧ m ≤ 6 ∧ Z (.lst (rowsL ((prodL m ex.length).filter (flB ex st ss))))
theorem ok_Lflows (T : Blt2 mg) (Fa : Df P w K mg base k "_law_arrived" ["_law_ends", "_law_exits_here", "_law_setting_here", "_law_starts", "_law_visits"] (spD cArvd)) (F : Fun K "_law_flows" "_law_flows" s_Lflows f fd) : FnOk P w K mg base CX0 (k + 1) f fd ["_law_ends", "_law_exits_here", "_law_setting_here", "_law_starts", "_law_most"] (spD cLfl) := by
  refine fnD F c_Lflows (fun ds Z h => ?_) (fun cdv A outer s H E ds Z hr h => ?_)
  · obtain ⟨e, ex, st, ss, m, rfl, _⟩ := h
    rfl
  · obtain ⟨e, ex, st, ss, m, rfl, v, hst, hsl, hn, hm, q⟩ := h
    have one : (1 : Nat) ≤ sizeLine := by decide
    obtain ⟨n, hnn⟩ : ∃ n, n = ex.length := ⟨_, rfl⟩
    refine ss_cons (set 5 c_Lflows (w_lst (a1 (w_lst (a_nil ⟨Nat.zero_le _, one, ?_⟩)))))
    show WSs _ _ [.val (.int e), .val (.lst (rowsL ex)), .val (.lst (lI st)), .val (.lst (lI ss)), .val (.int (m : Int)), .val (.lst (rowsL (prodL m 0))), .un, .un, .un, .un, .un] _
    refine ss_cut (fun ρ => ∃ s6 s7 s8 s9 s10, ρ = [.val (.int e), .val (.lst (rowsL ex)), .val (.lst (lI st)), .val (.lst (lI ss)), .val (.int (m : Int)), .val (.lst (rowsL (prodL m ex.length))), s6, s7, s8, s9, s10])
      (for1 6 c_Lflows (wi_rng1 rfl T.t.range (a1 (w_callB (id := "len") true rfl T.t.len (by decide +kernel) (a1 (nm 1 (c_lenL ⟨_, rfl, ⟨?_, ?_⟩, fun i ρ => ∃ s6 s7 s8 s9 s10, ρ = [.val (.int e), .val (.lst (rowsL ex)), .val (.lst (lI st)), .val (.lst (lI ss)), .val (.int (m : Int)), .val (.lst (rowsL (prodL m i))), s6, s7, s8, s9, s10], ⟨.un, .un, .un, .un, .un, rfl⟩, fun i d ρi hd hI => ?_, fun ρn hI => ?_⟩)))))))
      (fun ρ' hI => ?_)
    · rw [rowsL_len]; omega
    · rw [rowsL_len]; omega
    · obtain ⟨s6, s7, s8, s9, s10, rfl⟩ := hI
      have hi := (rng_get hd).1
      rw [Int.toNat_natCast, rowsL_len] at hi
      have pi := pow_le7 hm (show i + 1 ≤ 3 by omega)
      have ple := prodL_len m (i + 1)
      refine ss_cons (setO 7 c_Lflows (f_nil ?_))
      show WSs _ _ [.val (.int e), .val (.lst (rowsL ex)), .val (.lst (lI st)), .val (.lst (lI ss)), .val (.int (m : Int)), .val (.lst (rowsL (prodL m i))), .val d, .own true (.lst (rowsL (((prodL m i).take 0).flatMap (extV m)))), s8, s9, s10] _
      have full : (prodL m i).flatMap (extV m) = prodL m (i + 1) := rfl
      have part : ∀ j, (((prodL m i).take j).flatMap (extV m)).length ≤ 343 := fun j => by
        have e : ((prodL m i).flatMap (extV m)).length = (((prodL m i).take j).flatMap (extV m)).length + (((prodL m i).drop j).flatMap (extV m)).length := by
          rw [← List.length_append, ← List.flatMap_append, List.take_append_drop]
        rw [full] at e
        omega
      refine ss_cut (fun ρ => ∃ s8 s9 s10, ρ = [.val (.int e), .val (.lst (rowsL ex)), .val (.lst (lI st)), .val (.lst (lI ss)), .val (.int (m : Int)), .val (.lst (rowsL (prodL m i))), .val d, .own true (.lst (rowsL (prodL m (i + 1)))), s8, s9, s10])
        (for1 8 c_Lflows (wi_lst (nm 5 ⟨_, rfl, fun j ρ => ∃ s8 s9 s10, ρ = [.val (.int e), .val (.lst (rowsL ex)), .val (.lst (lI st)), .val (.lst (lI ss)), .val (.int (m : Int)), .val (.lst (rowsL (prodL m i))), .val d, .own true (.lst (rowsL (((prodL m i).take j).flatMap (extV m)))), s8, s9, s10], ⟨s8, s9, s10, rfl⟩, fun j d2 ρi hd2 hI => ?_, fun ρn hI => ?_⟩))) (fun ρ' hI => ?_)
      · obtain ⟨s8', s9', s10', rfl⟩ := hI
        have hj : j < (prodL m i).length := by have := (List.getElem?_eq_some_iff.mp hd2).1; rw [rowsL_len] at this; exact this
        obtain ⟨r, hr2, rfl⟩ : ∃ r, (prodL m i)[j]? = some r ∧ d2 = .lst (lI r) := by
          unfold rowsL at hd2
          rw [List.getElem?_map, List.getElem?_eq_getElem hj] at hd2
          cases hd2
          exact ⟨_, List.getElem?_eq_getElem hj, rfl⟩
        have hrl := (prodL_mem (List.mem_of_getElem? hr2)).1
        have etk : ((prodL m i).take (j + 1)).flatMap (extV m) = ((prodL m i).take j).flatMap (extV m) ++ extV m r := by
          rw [List.take_add_one, hr2, List.flatMap_append]
          show _ ++ [r].flatMap (extV m) = _
          rw [List.flatMap_singleton]
        have pj := part (j + 1)
        refine ss_one (s_extend 7 (ds := rowsL (((prodL m i).take j).flatMap (extV m))) rfl (lc1 10 (addQ (.lst (lI r))) c_Lflows (wi_rng1 rfl T.t.range (a1 (w_binG (nm 4 (w_int (o_add ⟨(m : Int) + 1, rfl, ⟨by omega, by omega⟩, ?_, fun x hx _ _ _ _ _ => ?_, _, rfl, ?_, ?_⟩))))))))
        · rw [rng_len]; omega
        · exact w_binG (nm 8 (w_lst (a1 (nm 10 ⟨one, o_cat ⟨by rw [lI_len, hrl]; exact Nat.le_trans (show i + 1 ≤ 4 by omega) (by decide), rfl⟩⟩))))
        · rw [rowsL_len, List.length_map, rng_len]
          have := part j
          omega
        · have ee : (rng 0 ((m : Int) + 1).toNat).map (addQ (.lst (lI r))) = rowsL (extV m r) := by
            unfold extV rowsL rng
            rw [List.map_map, List.map_map, show ((m : Int) + 1).toNat = m + 1 by omega]
            refine List.map_congr_left fun a _ => ?_
            show D.lst (lI r ++ [.int (0 + (a : Int))]) = .lst (lI (r ++ [(a : Int)]))
            rw [lI_snoc, Int.zero_add]
          refine ⟨.val (.lst (lI r)), s9', s10', ?_⟩
          rw [etk, ee]
          have ea : rowsL (((prodL m i).take j).flatMap (extV m)) ++ rowsL (extV m r) = rowsL (((prodL m i).take j).flatMap (extV m) ++ extV m r) := by unfold rowsL; rw [List.map_append]
          rw [← ea]; rfl
      · obtain ⟨s8', s9', s10', rfl⟩ := hI
        rw [rowsL_len, List.take_length, full]
        exact ⟨s8', s9', s10', rfl⟩
      · obtain ⟨s8', s9', s10', rfl⟩ := hI
        exact ss_one (set 5 c_Lflows (nmS 7 ⟨_, _, _, _, _, rfl⟩))
    · obtain ⟨s6, s7, s8, s9, s10, rfl⟩ := hI
      rw [rng_len, Int.toNat_natCast, rowsL_len]
      exact ⟨s6, s7, s8, s9, s10, rfl⟩
    · obtain ⟨s6, s7, s8, s9, s10, rfl⟩ := hI
      refine ss_one (s_ret (lc1If 9 (flQ ex st ss) (fun d => d) c_Lflows (wi_lst (nm 5 ⟨_, rfl, ?_, fun r hr2 s H C cl fp => ⟨?_, fun _ => nm 9 rfl⟩, ?_⟩))))
      · rw [rowsL_len, prodL_len]
        have := pow_le7 hm hn
        omega
      · obtain ⟨l, hl, rfl⟩ := List.mem_map.mp hr2
        obtain ⟨hl2, hl3⟩ := prodL_mem hl
        refine t_cmpG (w_ix true true (fun _ _ => rfl) (.inr rfl) (call Fa hr (aG (nm 0 (aG (nm 1 (aG (nm 2 (aG (nm 3 (a1 (nm 9 ⟨e, ex, st, ss, l, rfl, v, hst, hsl, hl2, fun c => w_int (x_tup (d := .lst (lI (arrV ex st l ss))) rfl (nm 9 (o_eqD hr.units (py_lI _) (py_lI _) (shaped_ints _) (shaped_ints _) ⟨_, rfl, ?_⟩)))⟩))))))))))))
        show PyData.eqv (.list ((arrV ex st l ss).map PyData.int)) (.list (l.map PyData.int)) = flB ex st ss ((lI l).map unI)
        rw [unI_lI]
        exact eqv_ints _ _
      · rw [rowsL_flt _ _ (fun l => by show flB ex st ss ((lI l).map unI) = _; rw [unI_lI])]
        exact q
/-! ### nowhere above -/
def leB (a b : List Int) : Bool := (a.zip b).all fun q => decide (q.1 ≤ q.2)
theorem leB_iff {a b : List Int} (h : b.length = a.length) : leB a b = true ↔ ∀ i, i < a.length → nth a i ≤ nth b i := by
  unfold leB
  rw [List.all_eq_true]
  constructor
  · intro z i hi
    have e : (a.zip b)[i]? = some (nth a i, nth b i) := List.getElem?_zip_eq_some.mpr ⟨nth_get hi, nth_get (by omega)⟩
    exact of_decide_eq_true (z _ (List.mem_of_getElem? e))
  · intro z x hx
    obtain ⟨i, hi⟩ := List.mem_iff_getElem?.mp hx
    have g := List.getElem?_zip_eq_some.mp hi
    have hl := (List.getElem?_eq_some_iff.mp g.1).1
    have ea := nth_get (l := a) (j := i) hl
    have eb := nth_get (l := b) (j := i) (by omega)
    rw [g.1] at ea
    rw [g.2] at eb
    injection ea with ea
    injection eb with eb
    have := z i hl
    exact decide_eq_true (by omega)
def leQ : D → Bool
  | .tup [.int a, .int b] => decide (a ≤ b)
  | _ => false
def cIB : List D → (D → Prop) → Prop := fun ds Z => ∃ a b, ds = [.lst (lI a), .lst (lI b)] ∧ a.length ≤ 24 ∧ Z (.bl (leB a b))
theorem ok_Lis_below (T : Blt2 mg) (F : Fun K "_law_is_below" "_law_is_below" s_Lis_below f fd) : FnOk P w K mg base CX0 (k + 1) f fd ["_law_near", "_law_far"] (spD cIB) := by
  refine fnD F c_Lis_below (fun ds Z h => ?_) (fun cdv A outer s H E ds Z hr h => ?_)
  · obtain ⟨a, b, rfl, _⟩ := h
    rfl
  · obtain ⟨a, b, rfl, hl, q⟩ := h
    refine ss_one (s_ret (w_callB true rfl T.t.all (by decide +kernel) (a1 (lc2 2 3 (fun d => .bl (leQ d)) c_Lis_below (wi_zip rfl T.t.zip (aG (nm 0 (a1 (nm 1 ⟨_, _, rfl, ?_, fun x hx => ?_, c_allD rfl ?_⟩)))))))))
    · rw [List.length_map, List.length_zip, lI_len, lI_len]; omega
    · rw [zipI_eq] at hx
      obtain ⟨⟨a, b⟩, _, rfl⟩ := List.mem_map.mp hx
      exact ⟨_, _, rfl, fun _ _ _ _ _ => w_cmpG (nm 2 (nm 3 (o_le rfl)))⟩
    · rw [zipI_eq, List.all_map]
      exact q
end
end K37

namespace K37
open PySem PySem.Spec PyProof.Rows L2 DD
/-! ### rounds stop -/
theorem gr_is {ex : List (List Int)} {st ss f0 : List Int} (mu : Nat → Nat) (h0 : mu 0 ≤ 20000) (hmu : ∀ k, gL ex st ss f0 (k + 1) ≠ gL ex st ss f0 k → mu (k + 1) < mu k) (hn : ∀ k, Nums ex.length (gL ex st ss f0 k)) : ∃ n, GR ex st ss f0 n := by
  have key : ∀ m k, mu k ≤ m → k + mu k ≤ mu 0 → (∀ i, i < k → gL ex st ss f0 (i + 1) ≠ gL ex st ss f0 i) → ∃ n, n ≤ mu 0 ∧ gL ex st ss f0 (n + 1) = gL ex st ss f0 n ∧ ∀ i, i < n → gL ex st ss f0 (i + 1) ≠ gL ex st ss f0 i := fun m => by
    induction m with
    | zero =>
      intro k h1 h2 h3
      refine ⟨k, by omega, Classical.byContradiction fun z => ?_, h3⟩
      have := hmu k z
      omega
    | succ m ih =>
      intro k h1 h2 h3
      by_cases z : gL ex st ss f0 (k + 1) = gL ex st ss f0 k
      · exact ⟨k, by omega, z, h3⟩
      · have := hmu k z
        refine ih (k + 1) (by omega) (by omega) fun i hi => ?_
        by_cases y : i = k
        · rw [y]; exact z
        · exact h3 i (by omega)
  obtain ⟨n, h1, h2, h3⟩ := key (mu 0) 0 (Nat.le_refl _) (by omega) fun i hi => absurd hi (by omega)
  exact ⟨n, by omega, h2, h3, fun i _ => hn i⟩
theorem el_of {n : Nat} {l : List Int} {p : Int → Prop} (hl : l.length = n) (h : ∀ q, q < n → p (nth l q)) : ∀ x ∈ l, p x := fun x hx => by
  obtain ⟨i, hi, rfl⟩ := List.mem_iff_getElem.mp hx
  have e1 : l[i] = nth l i := by
    have := nth_get hi
    rw [List.getElem?_eq_getElem hi] at this
    injection this
  rw [e1]
  exact h i (by omega)
theorem nums_of {n : Nat} {l : List Int} (hl : l.length = n) (h : ∀ q, q < n → 0 ≤ nth l q) (hs : sumN (nth l) n ≤ 10000) : Nums n l :=
  ⟨hl, el_of hl fun q hq => ⟨h q hq, Int.lt_of_le_of_lt (Int.le_trans (sumN_one_le n hq h) hs) (by decide)⟩⟩
theorem gr_dn {ex : List (List Int)} {st ss f : List Int} (h1 : ∀ l ∈ ex, 1 ≤ l.length) (hs : ss.length = ex.length) (hb : ∀ x ∈ ss, 0 ≤ x) (hf : f.length = ex.length) (h0 : ∀ q, q < ex.length → 0 ≤ nth f q) (hu : ∀ q, q < ex.length → nth (arrV ex st f ss) q ≤ nth f q) (hS : sumN (nth f) ex.length ≤ 10000) : ∃ n, GR ex st ss f n := by
  have len := gL_len (st := st) hs hf
  have nn := gL_nn (st := st) h1 hs hb h0
  have dn := gL_dn (st := st) h1 hs hu
  have lo : ∀ k, sumN (nth (gL ex st ss f k)) ex.length ≤ 10000 := fun k => by
    induction k with
    | zero => exact hS
    | succ k ih => exact Int.le_trans (sumN_le _ (dn k)) ih
  refine gr_is (fun k => (sumN (nth (gL ex st ss f k)) ex.length).toNat) ?_ (fun k hne => ?_) fun k => nums_of (len k) (nn k) (lo k)
  · have := lo 0
    show (sumN (nth (gL ex st ss f 0)) ex.length).toNat ≤ 20000
    omega
  · have a := ne_sum (len (k + 1)) (len k) (dn k) fun y => hne y.symm
    have b := sumN_nn (nn (k + 1))
    show (sumN (nth (gL ex st ss f (k + 1))) ex.length).toNat < (sumN (nth (gL ex st ss f k)) ex.length).toNat
    omega
theorem gr_up {e : Int} {ex : List (List Int)} {st ss f : List Int} (v : Valid e ex) (O : Okk e ex ss) (hf : f.length = ex.length) (h0 : ∀ q, q < ex.length → 0 ≤ nth f q) (hu : ∀ q, q < ex.length → nth f q ≤ nth (arrV ex st f ss) q) : (∃ n, GR ex st ss f n) ∧ ∀ k, sumN (nth (gL ex st ss f k)) ex.length ≤ 1600 := by
  have hb : ∀ x ∈ ss, 0 ≤ x := fun x hx => (O.sb x hx).1
  have len := gL_len (st := st) O.sl hf
  have nn := gL_nn (st := st) v.r1 O.sl hb h0
  have up := gL_up (st := st) v.r1 O.sl hu
  have lo : ∀ k, sumN (nth (gL ex st ss f k)) ex.length ≤ 1600 := fun k => up_small (st := st) v O (nn k) fun q hq => by
    have a := up k q hq
    rw [gL_rd v.r1 O.sl k hq] at a
    exact a
  refine ⟨gr_is (fun k => (1600 - sumN (nth (gL ex st ss f k)) ex.length).toNat) ?_ (fun k hne => ?_) fun k => nums_of (len k) (nn k) (by have := lo k; omega), lo⟩
  · have := sumN_nn (nn 0)
    show (1600 - sumN (nth (gL ex st ss f 0)) ex.length).toNat ≤ 20000
    omega
  · have a := ne_sum (len k) (len (k + 1)) (up k) hne
    have b := lo (k + 1)
    show (1600 - sumN (nth (gL ex st ss f (k + 1))) ex.length).toNat < (1600 - sumN (nth (gL ex st ss f k)) ex.length).toNat
    omega
/-! ### the meeting flow and the joined one -/
theorem flow_rd {ex : List (List Int)} {st ss u : List Int} (h1 : ∀ l ∈ ex, 1 ≤ l.length) (hs : ss.length = ex.length) (hu : arrV ex st u ss = u) {q : Nat} (hq : q < ex.length) : nth u q = (ntOf ex st ss h1).rd (nth u) q := by
  have z := arr_at (st := st) (vs := u) h1 hs hq
  rw [hu] at z; exact z
structure Meet (ex : List (List Int)) (st ss vs us m : List Int) : Prop where
  len : m.length = ex.length
  nn : ∀ q, q < ex.length → 0 ≤ nth m q
  eq : arrV ex st m ss = m
  l1 : ∀ q, q < ex.length → nth m q ≤ nth vs q
  l2 : ∀ q, q < ex.length → nth m q ≤ nth us q
  gr : ∀ u, arrV ex st u ss = u → (∀ q, q < ex.length → nth u q ≤ nth vs q) → (∀ q, q < ex.length → nth u q ≤ nth us q) → ∀ q, q < ex.length → nth u q ≤ nth m q
theorem mnI_le (a b : Int) : mnI a b ≤ a ∧ mnI a b ≤ b ∧ (mnI a b = a ∨ mnI a b = b) := by
  unfold mnI
  split <;> refine ⟨?_, ?_, ?_⟩ <;> omega
theorem mxI_ge (a b : Int) : a ≤ mxI a b ∧ b ≤ mxI a b ∧ (mxI a b = a ∨ mxI a b = b) := by
  unfold mxI
  split <;> refine ⟨?_, ?_, ?_⟩ <;> omega
theorem meet_is {ex : List (List Int)} {st ss vs us : List Int} (h1 : ∀ l ∈ ex, 1 ≤ l.length) (hs : ss.length = ex.length) (hb : ∀ x ∈ ss, 0 ≤ x) (lv : vs.length = ex.length) (lu : us.length = ex.length) (nv : ∀ q, q < ex.length → 0 ≤ nth vs q) (nu : ∀ q, q < ex.length → 0 ≤ nth us q) (ev : arrV ex st vs ss = vs) (eu : arrV ex st us ss = us) (hS : sumN (nth vs) ex.length ≤ 10000) :
    ∃ n, GR ex st ss (zipG mnI vs us) n ∧ Meet ex st ss vs us (gL ex st ss (zipG mnI vs us) n) := by
  have lz : (zipG mnI vs us).length = ex.length := by rw [zipG_len (by omega), lv]
  have at_ : ∀ q, q < ex.length → nth (zipG mnI vs us) q = mnI (nth vs q) (nth us q) := fun q hq => zipG_at (by omega) (by omega)
  have z0 : ∀ q, q < ex.length → 0 ≤ nth (zipG mnI vs us) q := fun q hq => by
    rw [at_ q hq]
    have := mnI_le (nth vs q) (nth us q)
    have := nv q hq
    have := nu q hq
    omega
  have z1 : ∀ q, q < ex.length → nth (zipG mnI vs us) q ≤ nth vs q := fun q hq => by rw [at_ q hq]; exact (mnI_le _ _).1
  have z2 : ∀ q, q < ex.length → nth (zipG mnI vs us) q ≤ nth us q := fun q hq => by rw [at_ q hq]; exact (mnI_le _ _).2.1
  have hu : ∀ q, q < ex.length → nth (arrV ex st (zipG mnI vs us) ss) q ≤ nth (zipG mnI vs us) q := fun q hq => by
    have a : nth (arrV ex st (zipG mnI vs us) ss) q = (ntOf ex st ss h1).rd (nth (zipG mnI vs us)) q := arr_at h1 hs hq
    have b := rd_up (ntOf ex st ss h1) z1 q
    have c := rd_up (ntOf ex st ss h1) z2 q
    have d := flow_rd h1 hs ev hq
    have e := flow_rd h1 hs eu hq
    rw [a]
    have y := (mnI_le (nth vs q) (nth us q)).2.2
    rw [← at_ q hq] at y
    omega
  obtain ⟨n, G⟩ := gr_dn h1 hs hb lz z0 hu (Int.le_trans (sumN_le _ z1) hS)
  have low : ∀ k q, q < ex.length → nth (gL ex st ss (zipG mnI vs us) k) q ≤ nth (zipG mnI vs us) q := fun k => by
    induction k with
    | zero => exact fun q _ => Int.le_refl _
    | succ k ih => exact fun q hq => Int.le_trans (gL_dn h1 hs hu k q hq) (ih q hq)
  refine ⟨n, G, gL_len hs lz n, gL_nn h1 hs hb z0 n, G.fx, fun q hq => Int.le_trans (low n q hq) (z1 q hq), fun q hq => Int.le_trans (low n q hq) (z2 q hq), fun u hu u1 u2 q hq => gL_ge h1 hs hu (fun q hq => ?_) n q hq⟩
  rw [at_ q hq]
  have := (mnI_le (nth vs q) (nth us q)).2.2
  have := u1 q hq
  have := u2 q hq
  omega
structure Join (ex : List (List Int)) (st ss vs us m : List Int) : Prop where
  len : m.length = ex.length
  nn : ∀ q, q < ex.length → 0 ≤ nth m q
  eq : arrV ex st m ss = m
  l1 : ∀ q, q < ex.length → nth vs q ≤ nth m q
  l2 : ∀ q, q < ex.length → nth us q ≤ nth m q
  gr : ∀ u, arrV ex st u ss = u → (∀ q, q < ex.length → nth vs q ≤ nth u q) → (∀ q, q < ex.length → nth us q ≤ nth u q) → ∀ q, q < ex.length → nth m q ≤ nth u q
theorem join_is {e : Int} {ex : List (List Int)} {st ss vs us : List Int} (v : Valid e ex) (O : Okk e ex ss) (lv : vs.length = ex.length) (lu : us.length = ex.length) (nv : ∀ q, q < ex.length → 0 ≤ nth vs q) (nu : ∀ q, q < ex.length → 0 ≤ nth us q) (ev : arrV ex st vs ss = vs) (eu : arrV ex st us ss = us) :
    ∃ n, GR ex st ss (zipG mxI vs us) n ∧ Join ex st ss vs us (gL ex st ss (zipG mxI vs us) n) := by
  have h1 := v.r1
  have hs := O.sl
  have hb : ∀ x ∈ ss, 0 ≤ x := fun x hx => (O.sb x hx).1
  have lz : (zipG mxI vs us).length = ex.length := by rw [zipG_len (by omega), lv]
  have at_ : ∀ q, q < ex.length → nth (zipG mxI vs us) q = mxI (nth vs q) (nth us q) := fun q hq => zipG_at (by omega) (by omega)
  have z1 : ∀ q, q < ex.length → nth vs q ≤ nth (zipG mxI vs us) q := fun q hq => by rw [at_ q hq]; exact (mxI_ge _ _).1
  have z2 : ∀ q, q < ex.length → nth us q ≤ nth (zipG mxI vs us) q := fun q hq => by rw [at_ q hq]; exact (mxI_ge _ _).2.1
  have z0 : ∀ q, q < ex.length → 0 ≤ nth (zipG mxI vs us) q := fun q hq => Int.le_trans (nv q hq) (z1 q hq)
  have hu : ∀ q, q < ex.length → nth (zipG mxI vs us) q ≤ nth (arrV ex st (zipG mxI vs us) ss) q := fun q hq => by
    have a : nth (arrV ex st (zipG mxI vs us) ss) q = (ntOf ex st ss h1).rd (nth (zipG mxI vs us)) q := arr_at h1 hs hq
    have b := rd_up (ntOf ex st ss h1) z1 q
    have c := rd_up (ntOf ex st ss h1) z2 q
    have d := flow_rd h1 hs ev hq
    have e := flow_rd h1 hs eu hq
    rw [a]
    have y := (mxI_ge (nth vs q) (nth us q)).2.2
    rw [← at_ q hq] at y
    omega
  obtain ⟨⟨n, G⟩, _⟩ := gr_up v O lz z0 hu
  have low : ∀ k q, q < ex.length → nth (zipG mxI vs us) q ≤ nth (gL ex st ss (zipG mxI vs us) k) q := fun k => by
    induction k with
    | zero => exact fun q _ => Int.le_refl _
    | succ k ih => exact fun q hq => Int.le_trans (ih q hq) (gL_up h1 hs hu k q hq)
  refine ⟨n, G, gL_len hs lz n, gL_nn h1 hs hb z0 n, G.fx, fun q hq => Int.le_trans (z1 q hq) (low n q hq), fun q hq => Int.le_trans (z2 q hq) (low n q hq), fun u hu u1 u2 q hq => gL_le h1 hs hu (fun q hq => ?_) n q hq⟩
  rw [at_ q hq]
  have := (mxI_ge (nth vs q) (nth us q)).2.2
  have := u1 q hq
  have := u2 q hq
  omega
end K37

namespace K37
open PySem PySem.Spec PyProof.Rows L2 DD
section
variable {P : Program} {w : World} {K : PySem.W.Frag} {mg : Str → Option Value} {base : Heap} {f C : Addr} {fd : FuncData} {k : Nat}
theorem mem_cutD {xs : List D} {lo hi : Option Int} {d : D} (h : d ∈ DD.cutD xs lo hi) : d ∈ xs := by
  unfold DD.cutD at h
  exact List.mem_of_mem_drop (List.mem_of_mem_take h)
theorem len_cutD {xs : List D} {lo hi : Option Int} : (DD.cutD xs lo hi).length ≤ xs.length := by
  unfold DD.cutD
  rw [List.length_take, List.length_drop]; omega
theorem ne_self_I (l : List Int) : (!PyData.eqv (.list (l.map PyData.int)) (.list (l.map PyData.int))) = false := by
  rw [show PyData.eqv (.list (l.map PyData.int)) (.list (l.map PyData.int)) = decide (l = l) from eqv_ints _ _, decide_eq_true rfl]; rfl
def ltB : D → Bool
  | .tup [.int a, .int b] => decide (a < b)
  | _ => false
theorem prodL_nodup (m : Nat) : ∀ k, (prodL m k).Nodup
  | 0 => List.nodup_cons.mpr ⟨by simp, List.nodup_nil⟩
  | k + 1 => by
    show List.Pairwise _ ((prodL m k).flatMap fun r => (List.range (m + 1)).map fun i : Nat => r ++ [(i : Int)])
    rw [List.pairwise_flatMap]
    refine ⟨fun r hr => ?_, (prodL_nodup m k).imp fun {a b} hab x hx y hy e => ?_⟩
    · rw [List.pairwise_map]
      refine (List.nodup_range (n := m + 1)).imp fun {a b} hab e => hab ?_
      have e := List.append_cancel_left e
      injection e with e
      omega
    · obtain ⟨i, _, rfl⟩ := List.mem_map.mp hx
      obtain ⟨j, _, rfl⟩ := List.mem_map.mp hy
      exact hab (List.append_inj_left' e rfl)
theorem filter_one {l : List (List Int)} {p : List Int → Bool} {M : List Int} (nd : l.Nodup) (hm : M ∈ l) (h : ∀ r ∈ l, p r = true ↔ r = M) : l.filter p = [M] := by
  induction l with
  | nil => cases hm
  | cons a l ih =>
    obtain ⟨n1, n2⟩ := List.nodup_cons.mp nd
    by_cases z : a = M
    · rw [List.filter_cons_of_pos ((h a List.mem_cons_self).mpr z), z]
      congr 1
      refine List.filter_eq_nil_iff.mpr fun r hr hp => ?_
      have := (h r (List.mem_cons_of_mem _ hr)).mp hp
      rw [this, ← z] at hr
      exact n1 hr
    · rw [List.filter_cons_of_neg fun hp => z ((h a List.mem_cons_self).mp hp)]
      refine ih n2 ?_ fun r hr => h r (List.mem_cons_of_mem _ hr)
      rcases List.mem_cons.mp hm with y | y
      · exact absurd y.symm z
      · exact y
def lsQ (b : List Int → Bool) : D → Bool
  | .lst xs => b (xs.map unI)
  | _ => false
theorem lsQ_eq (b : List Int → Bool) (l : List Int) : lsQ b (.lst (lI l)) = b l := by
  show b ((lI l).map unI) = _
  rw [unI_lI]
theorem all_lsQ (b : List Int → Bool) (L : List (List Int)) : (rowsL L).all (lsQ b) = L.all b := by
  unfold rowsL
  rw [List.all_map]
  congr 1
  funext r
  exact lsQ_eq b r
theorem prodL_in {m : Nat} : ∀ {k : Nat} {r : List Int}, r.length = k → (∀ q, q < k → 0 ≤ nth r q ∧ nth r q ≤ m) → r ∈ prodL m k := fun {k} => by
  induction k with
  | zero =>
    intro r h _
    have : r = [] := List.length_eq_zero_iff.mp h
    rw [this]
    exact List.mem_cons_self
  | succ k ih =>
    intro r h hb
    have e : r = r.take k ++ [nth r k] := by
      have z := nth_get (l := r) (j := k) (by omega)
      have y : r.take (k + 1) = r.take k ++ [nth r k] := by rw [List.take_add_one, z]; rfl
      rw [List.take_of_length_le (by omega)] at y
      exact y
    rw [e]
    refine List.mem_flatMap.mpr ⟨r.take k, ih (by rw [List.length_take]; omega) fun q hq => ?_, List.mem_map.mpr ⟨(nth r k).toNat, List.mem_range.mpr ?_, ?_⟩⟩
    · have z : nth (r.take k) q = nth r q := by
        unfold nth
        rw [List.getD_eq_getElem?_getD, List.getD_eq_getElem?_getD, List.getElem?_take, if_pos hq]
      rw [z]
      exact hb q (by omega)
    · have := hb k (by omega); omega
    · have := hb k (by omega)
      rw [Int.toNat_of_nonneg this.1]
def stR (C : Addr) (e : Int) (ex : List (List Int)) (st ss : List Int) (s5 s6 : DD.Slot) (u : List Int) (FL : List (List Int)) (s10 s11 s12 s13 s14 s15 s16 s17 s18 : DD.Slot) : Rho := [.own false .pot, .val (.int e), .val (.lst (rowsL ex)), .val (.lst (lI st)), .val (.lst (lI ss)), s5, s6, .val (netD C e ex), .val (.lst (lI u)), .val (.lst (rowsL FL)), s10, s11, s12, s13, s14, s15, s16, s17, s18, .un, .un]
def cR : List D → (D → Prop) → Prop := fun ds Z => ds = [] ∧ Z (.bl true)
theorem ok_Lright {j : Nat} (T : Blt2 mg) (N : NetP P w K mg base C j) (hj : j + 1 ≤ k) (hmax : mg "max" = none) (Fk : Df P w K mg base k "_law_pick" ["_law_pot_here", "_law_some"] (spP cPick))
    (Fl : Df P w K mg base k "_law_leading" ["_law_pot_here", "_law_most"] (spPO cLlead)) (Fs : Df P w K mg base k "_law_setting" ["_law_pot_here", "_law_exits_here"] (spP cLset))
    (Fa : Df P w K mg base k "_law_arrived" ["_law_ends", "_law_exits_here", "_law_setting_here", "_law_starts", "_law_visits"] (spD cArvd)) (Ft : Df P w K mg base k "_law_least" ["_law_ends", "_law_exits_here", "_law_setting_here", "_law_starts"] (spD cLl))
    (Ff : Df P w K mg base k "_law_flows" ["_law_ends", "_law_exits_here", "_law_setting_here", "_law_starts", "_law_most"] (spD cLfl)) (Fb : Df P w K mg base k "_law_is_below" ["_law_near", "_law_far"] (spD cIB))
    (Gr : Df P w K mg base k "reduced" ["net", "setting", "starts", "visits"] (spD (cRed C))) (GrR : DfR P w K mg base k "reduced" ["net", "setting", "starts", "visits"] (spD (cRed C)))
    (Gm : Df P w K mg base k "met" ["net", "setting", "starts", "visits", "others"] (spD (cMJ C mnI))) (GmR : DfR P w K mg base k "met" ["net", "setting", "starts", "visits", "others"] (spD (cMJ C mnI)))
    (Gj : Df P w K mg base k "joined" ["net", "setting", "starts", "visits", "others"] (spD (cMJ C mxI)))
    (F : Fun K "_law_right" "_law_right" s_Lright f fd) : FnG P w K mg base (k + 1) f fd ["_law_pot_here"] (spP cR) := by
  refine fnPG F c_Lright (fun ds Z h => ?_) (fun cdv A outer s H E ds Z hG hr h => ?_)
  · obtain ⟨rfl, _⟩ := h
    rfl
  · obtain ⟨rfl, q⟩ := h
    have one : (1 : Nat) ≤ sizeLine := by decide
    have fs : ∀ n : Nat, n ≤ 1000 → n ≤ sizeLine := fun n h => Nat.le_trans h (by decide)
    refine ss_cons (s_unpPO 0 1 2 c_Lright (by decide) Fl hr (a1 (w_int ⟨rfl, 3, rfl, ⟨by decide, by decide⟩, fun e ex hn3 v hr3 hld => ?_⟩)))
    show WSs _ _ [.own false .pot, .val (.int e), .own true (.lst (rowsL ex)), .un, .un, .un, .un, .un, .un, .un, .un, .un, .un, .un, .un, .un, .un, .un, .un, .un, .un] _
    refine ss_share (i := 2) rfl ?_
    show WSs _ _ [.own false .pot, .val (.int e), .val (.lst (rowsL ex)), .un, .un, .un, .un, .un, .un, .un, .un, .un, .un, .un, .un, .un, .un, .un, .un, .un, .un] _
    have n1 := v.n1
    have e0 := v.e0
    have e6 := v.e6
    refine ss_cons (s_parNI 3 4 c_Lright (by decide) (callP 0 Fs hr (a1 (nm 2 ⟨rfl, e, ex, rfl, v, fun st hst => ?_⟩))))
    show WSs _ _ [.own false .pot, .val (.int e), .val (.lst (rowsL ex)), .val (.lst (lI st)), .own true (.lst (lI [])), .un, .un, .un, .un, .un, .un, .un, .un, .un, .un, .un, .un, .un, .un, .un, .un] _
    refine ss_cut (fun ρ => ∃ ss s5 s6, (ss.length = ex.length ∧ ∀ x ∈ ss, 0 ≤ x ∧ x ≤ 2) ∧ ρ = [.own false .pot, .val (.int e), .val (.lst (rowsL ex)), .val (.lst (lI st)), .own true (.lst (lI ss)), s5, s6, .un, .un, .un, .un, .un, .un, .un, .un, .un, .un, .un, .un, .un, .un])
      (for1 5 c_Lright (wi_rng1 rfl T.t.range (a1 (w_callB (id := "len") true rfl T.t.len (by decide +kernel) (a1 (nm 2 (c_lenL ⟨_, rfl, ⟨?_, ?_⟩, fun p ρ => ∃ ss s5 s6, (ss.length = p ∧ ∀ x ∈ ss, 0 ≤ x ∧ x ≤ 2) ∧ ρ = [.own false .pot, .val (.int e), .val (.lst (rowsL ex)), .val (.lst (lI st)), .own true (.lst (lI ss)), s5, s6, .un, .un, .un, .un, .un, .un, .un, .un, .un, .un, .un, .un, .un, .un], ⟨[], .un, .un, ⟨rfl, fun x hx => by cases hx⟩, rfl⟩, fun p d ρi hd hI => ?_, fun ρn hI => ?_⟩)))))))
      (fun ρ' hI => ?_)
    · rw [rowsL_len]; omega
    · rw [rowsL_len]; omega
    · obtain ⟨ss, s5, s6, ⟨hsl, hss⟩, rfl⟩ := hI
      obtain ⟨hp, rfl⟩ := rng_get hd
      rw [rowsL_len, Int.toNat_natCast] at hp
      refine ss_cons (set 6 c_Lright (callP 0 Fk hr (a1 (w_lst (aG (w_int (aG (w_int (aG (w_int (a1 (w_int ⟨?_, rfl, _, rfl, ⟨by decide, by decide⟩, fun x hx => ?_⟩))))))))))))
      · exact fs _ (by decide)
      have hx3 : ∃ t : Int, x = .int t ∧ 0 ≤ t ∧ t ≤ 2 := by
        rcases List.mem_cons.mp hx with rfl | hx
        · exact ⟨0, rfl, by decide, by decide⟩
        rcases List.mem_cons.mp hx with rfl | hx
        · exact ⟨0, rfl, by decide, by decide⟩
        rcases List.mem_cons.mp hx with rfl | hx
        · exact ⟨1, rfl, by decide, by decide⟩
        rcases List.mem_cons.mp hx with rfl | hx
        · exact ⟨2, rfl, by decide, by decide⟩
        cases hx
      obtain ⟨t, rfl, t0, t1⟩ := hx3
      show WSs _ _ _ _
      refine ss_one (app 4 (ds := lI ss) rfl (nm 6 ⟨lI ss, rfl, ?_, ss ++ [t], .val (.int (0 + (p : Int))), .val (.int t), ⟨?_, fun x hx => ?_⟩, ?_⟩))
      · rw [lI_len]; omega
      · rw [List.length_append, hsl]; rfl
      · rcases List.mem_append.mp hx with h | h
        · exact hss x h
        · have : x = t := by simpa using h
          omega
      · rw [lI_snoc]; rfl
    · obtain ⟨ss, s5, s6, hs, rfl⟩ := hI
      rw [rng_len, rowsL_len, Int.toNat_natCast] at hs
      exact ⟨ss, s5, s6, hs, rfl⟩
    obtain ⟨ss, s5, s6, ⟨hsl, hss⟩, rfl⟩ := hI
    have O : Okk e ex ss := ⟨hn3, hr3, hsl, fun x hx => by have := hss x hx; omega, hld⟩
    have hs0 : ∀ x ∈ ss, 0 ≤ x := fun x hx => (hss x hx).1
    have hnum : Nums ex.length ss := ⟨hsl, fun x hx => by have := hss x hx; exact ⟨this.1, Int.lt_of_le_of_lt this.2 (by decide)⟩⟩
    obtain ⟨u, hu⟩ := lf_is (st := st) v O
    refine ss_share (i := 4) rfl ?_
    refine ss_cons (s_par (i := 7) (j := 8) rfl c_Lright.nd rfl rfl (by decide) rfl rfl (aG (w_net N (hr.mono hj) (aG (nm 1 (a1 (nm 2 ⟨e, _, ex, rfl, ⟨_, .inl rfl, rowsA_L ex⟩, v, a1 (call Ft hr (aG (nm 1 (aG (nm 2 (aG (nm 3 (a1 (nm 4 ⟨e, ex, st, ss, u, rfl, v, hst, hsl, hs0, hu, _, _, rfl, ?_⟩)))))))))⟩)))))))
    obtain ⟨FL, hFL⟩ : ∃ FL, FL = (prodL 6 ex.length).filter (flB ex st ss) := ⟨_, rfl⟩
    show WSs _ _ [.own false .pot, .val (.int e), .val (.lst (rowsL ex)), .val (.lst (lI st)), .val (.lst (lI ss)), s5, s6, .val (netD C e ex), .val (.lst (lI u)), .un, .un, .un, .un, .un, .un, .un, .un, .un, .un, .un, .un] _
    refine ss_cons (set 9 c_Lright (call Ff hr (aG (nm 1 (aG (nm 2 (aG (nm 3 (aG (nm 4 (a1 (w_int ⟨e, ex, st, ss, 6, rfl, v, hst, hsl, hn3, by decide, ?_⟩))))))))))))
    rw [← hFL]
    show WSs _ _ (stR C e ex st ss s5 s6 u FL .un .un .un .un .un .un .un .un .un) _
    have fl : ∀ r ∈ FL, r.length = ex.length ∧ (∀ x ∈ r, 0 ≤ x ∧ x ≤ 6) ∧ arrV ex st r ss = r := fun r hr => by
      rw [hFL] at hr
      obtain ⟨a, b⟩ := List.mem_filter.mp hr
      obtain ⟨c, d⟩ := prodL_mem a
      exact ⟨c, d, of_decide_eq_true b⟩
    have fsum : ∀ r ∈ FL, sumN (nth r) ex.length ≤ 18 := fun r hr => by
      obtain ⟨a, b, _⟩ := fl r hr
      have := sumN_bd (f := nth r) (c := 6) ex.length fun i hi => (b _ (nth_mem (by omega))).2
      omega
    have fn : ∀ r ∈ FL, Nums ex.length r := fun r hr => ⟨(fl r hr).1, fun x hx => by have := (fl r hr).2.1 x hx; exact ⟨this.1, Int.lt_of_le_of_lt this.2 (by decide)⟩⟩
    have fle : FL.length ≤ 343 := by
      rw [hFL]
      have a := List.length_filter_le (flB ex st ss) (prodL 6 ex.length)
      have b := prodL_len 6 ex.length
      have c := pow_le7 (Nat.le_refl 6) hn3
      omega
    refine ss_cut (fun ρ => ∃ s10, ρ = stR C e ex st ss s5 s6 u FL s10 .un .un .un .un .un .un .un .un)
      (for1 10 c_Lright (wi_lst (w_binG (w_slL (nm 9 ⟨_, rfl, ?_⟩)))))
      (fun ρ' hI => ?_)
    · show W _ _ _ _ _ _
      refine w_int ⟨3, rfl, w_slL (nm 9 ⟨_, rfl, ?_⟩)⟩
      show W _ _ _ _ _ _
      refine w_un (w_int (o_neg ⟨-4, rfl, o_cat ⟨?_, _, rfl, fun p ρ => ∃ s10, ρ = stR C e ex st ss s5 s6 u FL s10 .un .un .un .un .un .un .un .un, ⟨.un, rfl⟩, fun p d ρi hd hI => ?_, fun ρn hI => hI⟩⟩))
      · refine fs _ ?_
        have a := len_cutD (xs := rowsL FL) (lo := none) (hi := some 3)
        have b := len_cutD (xs := rowsL FL) (lo := some (-4)) (hi := none)
        rw [rowsL_len] at a b
        omega
      · obtain ⟨s10, rfl⟩ := hI
        obtain ⟨r, hr2, rfl⟩ : ∃ r ∈ FL, d = .lst (lI r) := by
          have hm : d ∈ rowsL FL := (List.mem_append.mp (List.mem_of_getElem? hd)).elim mem_cutD mem_cutD
          obtain ⟨r, h1, h2⟩ := List.mem_map.mp hm
          exact ⟨r, h1, h2.symm⟩
        show WSs _ _ (stR C e ex st ss s5 s6 u FL (.val (.lst (lI r))) .un .un .un .un .un .un .un .un) _
        have sr := fsum r hr2
        refine ss_one (s_if (t_cmpG (call Gr hr (aG (nm 7 (aG (nm 3 (aG (nm 4 (a1 (nm 10 ⟨e, ex, _, st, ss, _, r, u, rfl, .inl rfl, .inl rfl, v, hst, hnum, fn r hr2, (fl r hr2).2.2, by omega, hu, nm 8 (o_neD hr.units (py_lI _) (py_lI _) (shaped_ints _) (shaped_ints _) ⟨_, rfl, ?_⟩)⟩)))))))))))
        rw [ne_self_I]
        show WSs _ [] _ _
        exact ss_nil ⟨_, rfl⟩
    obtain ⟨s10, rfl⟩ := hI
    have e9 : PyData.eqv (.list (FL.map fun l => PyData.list (l.map PyData.int))) (.list []) = decide (FL = []) := by
      cases FL with
      | nil => rfl
      | cons a l => rfl
    refine ss_cons (s_if (t_cmpG (nm 9 (w_lst (a_nil ⟨Nat.zero_le _, o_eqD hr.units (py_rows _) rfl (shaped_lsts _) rfl ⟨_, rfl, ?_⟩⟩)))))
    rw [e9]
    have un := hu.nn
    have ul := hu.len
    by_cases h0 : FL = []
    · rw [decide_eq_true h0]
      show WSs _ _ _ _
      have nu : Nums ex.length u := nums_of ul (fun q hq => un _ (nth_mem (by omega))) hu.le
      refine ss_one (s_ret (w_cmpG (callRv GrR hr (k_cons (nm 8 (k_cons (nm 4 (k_cons (nm 3 (k_cons (nm 7 (k_nil ⟨e, ex, _, st, ss, _, u, u, rfl, .inl rfl, .inl rfl, v, hst, hnum, nu, hu.eq, hu.le, hu, nm 8 (o_eqD hr.units (py_lI _) (py_lI _) (shaped_ints _) (shaped_ints _) ?_)⟩))))))))))))
      rw [show PyData.eqv (.list (u.map PyData.int)) (.list (u.map PyData.int)) = decide (u = u) from eqv_ints _ _, decide_eq_true rfl]
      exact q
    rw [decide_eq_false h0]
    show WSs _ [] _ _
    refine ss_nil ?_
    have f0 : 0 < FL.length := List.length_pos_iff.mpr h0
    show WSs _ _ (stR C e ex st ss s5 s6 u FL s10 .un .un .un .un .un .un .un .un) _
    refine ss_cons (s_unp2 11 12 c_Lright (w_tup (aG (callP 0 Fk hr (a1 (nm 9 ⟨rfl, _, rfl, ⟨?_, ?_⟩, fun x hx => a1 (callP 0 Fk hr (a1 (nm 9 ⟨rfl, _, rfl, ⟨?_, ?_⟩, fun y hy => ⟨fs _ (by show 2 ≤ 1000; decide), _, _, rfl, ?_⟩⟩)))⟩))))))
    · rw [rowsL_len]; exact f0
    · rw [rowsL_len]; omega
    · rw [rowsL_len]; exact f0
    · rw [rowsL_len]; omega
    obtain ⟨a, ha, rfl⟩ := List.mem_map.mp hx
    obtain ⟨b, hb, rfl⟩ := List.mem_map.mp hy
    show WSs _ _ (stR C e ex st ss s5 s6 u FL s10 (.val (.lst (lI a))) (.val (.lst (lI b))) .un .un .un .un .un .un) _
    obtain ⟨la, ba, ea⟩ := fl a ha
    obtain ⟨lb, bb, eb⟩ := fl b hb
    obtain ⟨FB, hFB⟩ : ∃ FB, FB = FL.filter fun r => leB r a && leB r b := ⟨_, rfl⟩
    refine ss_cons (set 13 c_Lright (lc1If 19 (lsQ fun r => leB r a && leB r b) (fun d => d) c_Lright (wi_lst (nm 9 ⟨_, rfl, ?_, fun d hd s H C cl fp => ⟨?_, fun _ => nm 19 rfl⟩, ?_⟩))))
    · rw [rowsL_len]; omega
    · obtain ⟨r, hr2, rfl⟩ := List.mem_map.mp hd
      have lr := (fl r hr2).1
      refine t_bool (tb_and (t_val (call Fb hr (aG (nm 19 (a1 (nm 11 ⟨r, a, rfl, by omega, _, rfl, ?_⟩)))))))
      rw [lsQ_eq]
      cases h1 : leB r a with
      | true =>
        show WTB _ _ _ _ _ _ _
        exact tb_and1 (t_val (call Fb hr (aG (nm 19 (a1 (nm 12 ⟨r, b, rfl, by omega, _, rfl, rfl⟩))))))
      | false => rfl
    rw [rowsL_flt _ _ (lsQ_eq _), ← hFB]
    show WSs _ _ (stR C e ex st ss s5 s6 u FL s10 (.val (.lst (lI a))) (.val (.lst (lI b))) (.val (.lst (rowsL FB))) .un .un .un .un .un) _
    have fb : ∀ r ∈ FB, r ∈ FL ∧ leB r a = true ∧ leB r b = true := fun r hr => by
      rw [hFB] at hr
      obtain ⟨x, y⟩ := List.mem_filter.mp hr
      exact ⟨x, Bool.and_eq_true_iff.mp y⟩
    have fbl : FB.length ≤ 343 := by
      rw [hFB]
      exact Nat.le_trans (List.length_filter_le _ _) fle
    refine ss_cons (s_lc1If 14 19 (lsQ fun r => FB.all fun t => leB t r) (fun d => d) c_Lright (wi_lst (nm 13 ⟨_, rfl, ?_, fun d hd s H C cl fp => ⟨?_, fun _ => nm 19 rfl⟩, ?_⟩)))
    · rw [rowsL_len]; omega
    · obtain ⟨r, hr2, rfl⟩ := List.mem_map.mp hd
      have lr := (fl r (fb r hr2).1).1
      rw [lsQ_eq]
      refine t_val (w_callB true rfl T.t.all (by decide +kernel) (a1 (lc1 20 (fun d => .bl (lsQ (fun t => leB t r) d)) c_Lright (wi_lst (nm 13 ⟨_, rfl, ?_, fun d2 hd2 s2 H2 C2 cl2 fp2 => ?_, c_allD rfl ⟨_, rfl, ?_⟩⟩)))))
      · rw [rowsL_len]; omega
      · obtain ⟨t, ht, rfl⟩ := List.mem_map.mp hd2
        have lt := (fl t (fb t ht).1).1
        exact call Fb hr (aG (nm 20 (a1 (nm 19 ⟨t, r, rfl, by omega, by show D.bl (leB t r) = D.bl (lsQ (fun t => leB t r) (D.lst (lI t))); rw [lsQ_eq (fun t => leB t r)]⟩))))
      · exact all_lsQ _ _
    rw [rowsL_flt _ _ (lsQ_eq _)]
    have na := fun q (hq : q < ex.length) => (ba _ (nth_mem (l := a) (j := q) (by omega))).1
    have nb := fun q (hq : q < ex.length) => (bb _ (nth_mem (l := b) (j := q) (by omega))).1
    have sa := fsum a ha
    have sb := fsum b hb
    obtain ⟨n1m, G1, M1⟩ := meet_is (st := st) v.r1 hsl hs0 la lb na nb ea eb (by omega)
    obtain ⟨n2m, G2, M2⟩ := meet_is (st := st) v.r1 hsl hs0 lb la nb na eb ea (by omega)
    obtain ⟨M, hM⟩ : ∃ M, M = gL ex st ss (zipG mnI a b) n1m := ⟨_, rfl⟩
    rw [← hM] at M1
    have eM : gL ex st ss (zipG mnI b a) n2m = M := list_ext M2.len M1.len fun q hq => by
      have x := M1.gr _ M2.eq M2.l2 M2.l1 q hq
      have y := M2.gr _ M1.eq M1.l2 M1.l1 q hq
      omega
    have hMF : M ∈ FL := by
      rw [hFL]
      refine List.mem_filter.mpr ⟨prodL_in M1.len fun q hq => ⟨M1.nn q hq, Int.le_trans (M1.l1 q hq) (ba _ (nth_mem (by omega))).2⟩, decide_eq_true M1.eq⟩
    have hMB : M ∈ FB := by
      rw [hFB]
      refine List.mem_filter.mpr ⟨hMF, Bool.and_eq_true_iff.mpr ⟨(leB_iff (by rw [la, M1.len])).mpr fun q hq => M1.l1 q (by rw [M1.len] at hq; exact hq), (leB_iff (by rw [lb, M1.len])).mpr fun q hq => M1.l2 q (by rw [M1.len] at hq; exact hq)⟩⟩
    have top : (FB.filter fun r => FB.all fun t => leB t r) = [M] := by
      refine filter_one ?_ hMB fun r hr => ⟨fun h => ?_, fun h => ?_⟩
      · rw [hFB, hFL]
        exact ((prodL_nodup 6 ex.length).filter _).filter _
      · obtain ⟨x, y1, y2⟩ := fb r hr
        have lr := (fl r x).1
        have z := List.all_eq_true.mp h M hMB
        have z := (leB_iff (by rw [lr, M1.len])).mp z
        refine list_ext lr M1.len fun q hq => ?_
        have w1 := z q (by rw [M1.len]; exact hq)
        have w2 := M1.gr r (fl r x).2.2 (fun q hq => (leB_iff (by rw [lr, la])).mp y1 q (by omega)) (fun q hq => (leB_iff (by rw [lr, lb])).mp y2 q (by omega)) q hq
        omega
      · refine List.all_eq_true.mpr fun t ht => ?_
        obtain ⟨x, y1, y2⟩ := fb t ht
        have lt := (fl t x).1
        rw [h]
        refine (leB_iff (by rw [lt, M1.len])).mpr fun q hq => ?_
        exact M1.gr t (fl t x).2.2 (fun q hq => (leB_iff (by rw [lt, la])).mp y1 q (by omega)) (fun q hq => (leB_iff (by rw [lt, lb])).mp y2 q (by omega)) q (by omega)
    rw [top]
    show WSs _ _ (stR C e ex st ss s5 s6 u FL s10 (.val (.lst (lI a))) (.val (.lst (lI b))) (.val (.lst (rowsL FB))) (.val (.lst (rowsL [M]))) .un .un .un .un) _
    have fa : Fw ex st ss (.lst (lI a)) a := ⟨.inl rfl, fn a ha, ea⟩
    have fw : Fw ex st ss (.lst (lI b)) b := ⟨.inl rfl, fn b hb, eb⟩
    have full := ptsTo_full hld
    refine ss_cons (set 15 c_Lright (call Gm hr (aG (nm 7 (aG (nm 3 (aG (nm 4 (aG (nm 11 (a1 (nm 12 ⟨e, ex, _, st, ss, _, a, _, b, n1m, rfl, .inl rfl, v, hst, hnum, full, fa, fw, G1, ?_⟩))))))))))))
    rw [← hM]
    show WSs _ _ (stR C e ex st ss s5 s6 u FL s10 (.val (.lst (lI a))) (.val (.lst (lI b))) (.val (.lst (rowsL FB))) (.val (.lst (rowsL [M]))) (.val (.lst (lI M))) .un .un .un) _
    refine ss_cons (s_if (t_bool (tb_or (t_cmpG (w_lst (a1 (nm 15 ⟨one, nm 14 (o_neD hr.units (py_rows [M]) (py_rows [M]) (shaped_lsts [M]) (shaped_lsts [M]) ⟨_, rfl, ?_⟩)⟩)))))))
    rw [ne_self_r]
    show WTB _ _ _ _ _ _ _
    refine tb_or1 (t_cmpG (callRv GmR hr (k_cons (nm 11 (k_cons (nm 12 (k_cons (nm 4 (k_cons (nm 3 (k_cons (nm 7 (k_nil ⟨e, ex, _, st, ss, _, b, _, a, n2m, rfl, .inl rfl, v, hst, hnum, full, fw, fa, G2, nm 15 (o_neD hr.units (py_lI _) (py_lI _) (shaped_ints _) (shaped_ints _) ⟨_, rfl, ?_⟩)⟩)))))))))))))
    rw [eM, ne_self_I]
    show WSs _ [] _ _
    refine ss_nil ?_
    show WSs _ _ (stR C e ex st ss s5 s6 u FL s10 (.val (.lst (lI a))) (.val (.lst (lI b))) (.val (.lst (rowsL FB))) (.val (.lst (rowsL [M]))) (.val (.lst (lI M))) .un .un .un) _
    obtain ⟨n3m, G3, J1⟩ := join_is (st := st) v O la lb na nb ea eb
    obtain ⟨n4m, G4, J2⟩ := join_is (st := st) v O lb la nb na eb ea
    obtain ⟨J, hJ⟩ : ∃ J, J = gL ex st ss (zipG mxI a b) n3m := ⟨_, rfl⟩
    rw [← hJ] at J1
    have eJ : gL ex st ss (zipG mxI b a) n4m = J := list_ext J2.len J1.len fun q hq => by
      have x := J1.gr _ J2.eq J2.l2 J2.l1 q hq
      have y := J2.gr _ J1.eq J1.l2 J1.l1 q hq
      omega
    have lz : (zipG mxI a b).length = ex.length := by rw [zipG_len (by omega), la]
    have gl := gL_len (ex := ex) (st := st) hsl lz
    refine ss_cons (set 16 c_Lright (lc2 19 20 (gP mxI) c_Lright (wi_zip rfl T.t.zip (aG (nm 11 (a1 (nm 12 ⟨_, _, rfl, ?_, fun x hx => ?_, ?_⟩)))))))
    · rw [List.length_map, List.length_zip, lI_len, lI_len]; omega
    · rw [zipI_eq] at hx
      obtain ⟨⟨x1, x2⟩, _, rfl⟩ := List.mem_map.mp hx
      exact ⟨_, _, rfl, fun _ _ _ _ _ => w_callB (id := "max") true rfl hmax (by decide +kernel) (aG (nm 19 (a1 (nm 20 (c_max2 rfl rfl)))))⟩
    rw [zip_gP]
    show WSs _ _ (stR C e ex st ss s5 s6 u FL s10 (.val (.lst (lI a))) (.val (.lst (lI b))) (.val (.lst (rowsL FB))) (.val (.lst (rowsL [M]))) (.val (.lst (lI M))) (.val (.lst (lI (gL ex st ss (zipG mxI a b) 0)))) .un .un) _
    refine ss_cons (set 17 c_Lright (w_ix true true (fun _ _ => rfl) (.inr rfl) (call Fa hr (aG (nm 1 (aG (nm 2 (aG (nm 3 (aG (nm 4 (a1 (nm 16 ⟨e, ex, st, ss, _, rfl, v, hst, hsl, gl 0, fun c => w_int (x_tup (d := .lst (lI (gL ex st ss (zipG mxI a b) 1))) rfl ?_)⟩)))))))))))))
    refine ss_cut (fun ρ => ∃ s17, ρ = stR C e ex st ss s5 s6 u FL s10 (.val (.lst (lI a))) (.val (.lst (lI b))) (.val (.lst (rowsL FB))) (.val (.lst (rowsL [M]))) (.val (.lst (lI M))) (.val (.lst (lI J))) s17 .un)
      (s_while PassesOwn.never (fun m ρ => ∃ i : Nat, i ≤ n3m ∧ m = n3m - i ∧ ρ = stR C e ex st ss s5 s6 u FL s10 (.val (.lst (lI a))) (.val (.lst (lI b))) (.val (.lst (rowsL FB))) (.val (.lst (rowsL [M]))) (.val (.lst (lI M))) (.val (.lst (lI (gL ex st ss (zipG mxI a b) i)))) (.val (.lst (lI (gL ex st ss (zipG mxI a b) (i + 1))))) .un) _
        ⟨0, Nat.zero_le _, rfl, rfl⟩ (fun m ρ' hI => ?_)) (fun ρ' hI => ?_)
    · obtain ⟨i, hi, rfl, rfl⟩ := hI
      have fin : PyData.eqv (.list ((gL ex st ss (zipG mxI a b) (i + 1)).map PyData.int)) (.list ((gL ex st ss (zipG mxI a b) i).map PyData.int)) = decide (gL ex st ss (zipG mxI a b) (i + 1) = gL ex st ss (zipG mxI a b) i) := eqv_ints _ _
      refine t_cmpG (nm 17 (nm 16 (o_neD hr.units (py_lI _) (py_lI _) (shaped_ints _) (shaped_ints _) ⟨_, rfl, ?_⟩)))
      rw [fin]
      by_cases h : gL ex st ss (zipG mxI a b) (i + 1) = gL ex st ss (zipG mxI a b) i
      · rw [decide_eq_true h]
        have e1 : i = n3m := by
          apply Classical.byContradiction
          intro z
          exact G3.ne i (by omega) h
        subst e1
        rw [hJ]
        exact ⟨_, rfl⟩
      · rw [decide_eq_false h]
        have hin : i ≠ n3m := fun z => h (by rw [z]; exact G3.fx)
        show WSs _ _ (stR C e ex st ss s5 s6 u FL s10 (.val (.lst (lI a))) (.val (.lst (lI b))) (.val (.lst (rowsL FB))) (.val (.lst (rowsL [M]))) (.val (.lst (lI M))) (.val (.lst (lI (gL ex st ss (zipG mxI a b) i)))) (.val (.lst (lI (gL ex st ss (zipG mxI a b) (i + 1))))) .un) _
        refine ss_cons (set 16 c_Lright (nm 17 ?_))
        show WSs _ _ (stR C e ex st ss s5 s6 u FL s10 (.val (.lst (lI a))) (.val (.lst (lI b))) (.val (.lst (rowsL FB))) (.val (.lst (rowsL [M]))) (.val (.lst (lI M))) (.val (.lst (lI (gL ex st ss (zipG mxI a b) (i + 1))))) (.val (.lst (lI (gL ex st ss (zipG mxI a b) (i + 1))))) .un) _
        refine ss_one (set 17 c_Lright (w_ix true true (fun _ _ => rfl) (.inr rfl) (call Fa hr (aG (nm 1 (aG (nm 2 (aG (nm 3 (aG (nm 4 (a1 (nm 16 ⟨e, ex, st, ss, _, rfl, v, hst, hsl, gl (i + 1), fun c => w_int (x_tup (d := .lst (lI (gL ex st ss (zipG mxI a b) (i + 1 + 1)))) rfl ⟨_, ?_, i + 1, by omega, rfl, rfl⟩)⟩)))))))))))))
        omega
    obtain ⟨s17, rfl⟩ := hI
    refine ss_cons (s_if (t_bool (tb_or (t_cmpG (call Gj hr (aG (nm 7 (aG (nm 3 (aG (nm 4 (aG (nm 11 (a1 (nm 12 ⟨e, ex, _, st, ss, _, a, _, b, n3m, rfl, .inl rfl, v, hst, hnum, full, fa, fw, G3, nm 16 (o_neD hr.units (py_lI _) (py_lI _) (shaped_ints _) (shaped_ints _) ⟨_, rfl, ?_⟩)⟩)))))))))))))))
    rw [← hJ, ne_self_I]
    show WTB _ _ _ _ _ _ _
    refine tb_or1 (t_cmpG (call Gj hr (aG (nm 7 (aG (nm 3 (aG (nm 4 (aG (w_callTy (T := "tuple") true rfl T.t.tuple (by decide +kernel) (a1 (nm 12 (c_tuple (a1 (nm 11 ⟨e, ex, _, st, ss, _, b, _, a, n4m, rfl, .inl rfl, v, hst, hnum, full, ⟨.inr rfl, fn b hb, eb⟩, fa, G4, nm 16 (o_neD hr.units (py_lI _) (py_lI _) (shaped_ints _) (shaped_ints _) ⟨_, rfl, ?_⟩)⟩)))))))))))))))
    rw [eJ, ne_self_I]
    show WSs _ [] _ _
    refine ss_nil ?_
    show WSs _ _ (stR C e ex st ss s5 s6 u FL s10 (.val (.lst (lI a))) (.val (.lst (lI b))) (.val (.lst (rowsL FB))) (.val (.lst (rowsL [M]))) (.val (.lst (lI M))) (.val (.lst (lI J))) s17 .un) _
    obtain ⟨FA, hFA⟩ : ∃ FA, FA = FL.filter fun r => leB a r && leB b r := ⟨_, rfl⟩
    refine ss_cons (s_lc1If 18 19 (lsQ fun r => leB a r && leB b r) (fun d => d) c_Lright (wi_lst (nm 9 ⟨_, rfl, ?_, fun d hd s H C cl fp => ⟨?_, fun _ => nm 19 rfl⟩, ?_⟩)))
    · rw [rowsL_len]; omega
    · obtain ⟨r, hr2, rfl⟩ := List.mem_map.mp hd
      have lr := (fl r hr2).1
      refine t_bool (tb_and (t_val (call Fb hr (aG (nm 11 (a1 (nm 19 ⟨a, r, rfl, by omega, _, rfl, ?_⟩)))))))
      rw [lsQ_eq]
      cases h1 : leB a r with
      | true =>
        show WTB _ _ _ _ _ _ _
        exact tb_and1 (t_val (call Fb hr (aG (nm 12 (a1 (nm 19 ⟨b, r, rfl, by omega, _, rfl, rfl⟩))))))
      | false => rfl
    rw [rowsL_flt _ _ (lsQ_eq _), ← hFA]
    show WSs _ _ (stR C e ex st ss s5 s6 u FL s10 (.val (.lst (lI a))) (.val (.lst (lI b))) (.val (.lst (rowsL FB))) (.val (.lst (rowsL [M]))) (.val (.lst (lI M))) (.val (.lst (lI J))) s17 (.val (.lst (rowsL FA)))) _
    have fA : ∀ r ∈ FA, r ∈ FL ∧ leB a r = true ∧ leB b r = true := fun r hr => by
      rw [hFA] at hr
      obtain ⟨x, y⟩ := List.mem_filter.mp hr
      exact ⟨x, Bool.and_eq_true_iff.mp y⟩
    have fAl : FA.length ≤ 343 := by
      rw [hFA]
      exact Nat.le_trans (List.length_filter_le _ _) fle
    refine ss_cons (s_if (t_not (t_val (w_callB true rfl T.t.all (by decide +kernel) (a1 (lc1 19 (fun d => .bl (lsQ (fun t => leB J t) d)) c_Lright (wi_lst (nm 18 ⟨_, rfl, ?_, fun d2 hd2 s2 H2 C2 cl2 fp2 => ?_, c_allD rfl ⟨_, rfl, ?_⟩⟩))))))))
    · rw [rowsL_len]; omega
    · obtain ⟨t, ht, rfl⟩ := List.mem_map.mp hd2
      have lt := (fl t (fA t ht).1).1
      have lj := J1.len
      exact call Fb hr (aG (nm 16 (a1 (nm 19 ⟨J, t, rfl, by omega, by show D.bl (leB J t) = D.bl (lsQ (fun t => leB J t) (D.lst (lI t))); rw [lsQ_eq (fun t => leB J t)]⟩))))
    have allJ : (rowsL FA).all (lsQ fun t => leB J t) = true := by
      rw [all_lsQ]
      refine List.all_eq_true.mpr fun t ht => ?_
      obtain ⟨x, y1, y2⟩ := fA t ht
      have lt := (fl t x).1
      have lj := J1.len
      refine (leB_iff (by rw [lt, lj])).mpr fun q hq => ?_
      exact J1.gr t (fl t x).2.2 (fun q hq => (leB_iff (by rw [lt, la])).mp y1 q (by omega)) (fun q hq => (leB_iff (by rw [lt, lb])).mp y2 q (by omega)) q (by omega)
    rw [allJ]
    show WSs _ [] _ _
    refine ss_nil ?_
    show WSs _ _ (stR C e ex st ss s5 s6 u FL s10 (.val (.lst (lI a))) (.val (.lst (lI b))) (.val (.lst (rowsL FB))) (.val (.lst (rowsL [M]))) (.val (.lst (lI M))) (.val (.lst (lI J))) s17 (.val (.lst (rowsL FA)))) _
    obtain ⟨n5m, G5, M5⟩ := meet_is (st := st) v.r1 hsl hs0 la la na na ea ea (by omega)
    obtain ⟨n6m, G6, J6⟩ := join_is (st := st) v O lb lb nb nb eb eb
    have e5 : gL ex st ss (zipG mnI a a) n5m = a := list_ext M5.len la fun q hq => by
      have x := M5.l1 q hq
      have y := M5.gr a ea (fun _ _ => Int.le_refl _) (fun _ _ => Int.le_refl _) q hq
      omega
    have e6b : gL ex st ss (zipG mxI b b) n6m = b := list_ext J6.len lb fun q hq => by
      have x := J6.l1 q hq
      have y := J6.gr b eb (fun _ _ => Int.le_refl _) (fun _ _ => Int.le_refl _) q hq
      omega
    refine ss_one (s_ret (w_and (w_cmpG (call Gm hr (aG (nm 7 (aG (nm 3 (aG (nm 4 (aG (nm 11 (a1 (nm 11 ⟨e, ex, _, st, ss, _, a, _, a, n5m, rfl, .inl rfl, v, hst, hnum, full, fa, fa, G5, nm 11 (o_eqD hr.units (py_lI _) (py_lI _) (shaped_ints _) (shaped_ints _) ⟨_, rfl, ?_⟩)⟩))))))))))))))
    rw [e5, show PyData.eqv (.list (a.map PyData.int)) (.list (a.map PyData.int)) = decide (a = a) from eqv_ints _ _, decide_eq_true rfl]
    show W _ _ _ _ _ _
    refine w_one (w_cmpG (call Gj hr (aG (nm 7 (aG (nm 3 (aG (nm 4 (aG (nm 12 (a1 (nm 12 ⟨e, ex, _, st, ss, _, b, _, b, n6m, rfl, .inl rfl, v, hst, hnum, full, fw, fw, G6, nm 12 (o_eqD hr.units (py_lI _) (py_lI _) (shaped_ints _) (shaped_ints _) ?_)⟩))))))))))))
    rw [e6b, show PyData.eqv (.list (b.map PyData.int)) (.list (b.map PyData.int)) = decide (b = b) from eqv_ints _ _, decide_eq_true rfl]
    exact q
def cLaw (K : PySem.W.Frag) : List D → (D → Prop) → Prop := fun ds Z => ∃ ns : List Int, ds = [.scr K ns] ∧ ns.length < 1000 ∧ Z (.bl true)
theorem ok_law (Fp : Df P w K mg base k "_law_pot" ["_law_script", "_law_k"] (spF (cPot K))) (Fr : DfG P w K mg base k "_law_right" ["_law_pot_here"] (spP cR)) (F : Fun K "law" "law" s_law f fd) : FnG P w K mg base (k + 1) f fd ["_law_script"] (spD (cLaw K)) := by
  refine fnDG F c_law (fun ds Z h => ?_) (fun cdv A outer s H E ds Z hG hr h => ?_)
  · obtain ⟨ns, rfl, _⟩ := h
    rfl
  · obtain ⟨ns, rfl, hl, q⟩ := h
    exact ss_one (s_ret (callNewP Fp Fr hG hr hr (aG (nm 0 (a1 (w_int ⟨⟨ns, rfl, hl⟩, rfl, q⟩))))))
end
end K37

namespace K37
open PySem PySem.Spec PyProof.Rows L2 DD
section
variable {P : Program} {w : World} {K : PySem.W.Frag} {mg : Str → Option Value} {base : Heap}
theorem Df.mono {j k : Nat} {x : Str} {ps : List Str} {sp : Sp} (F : Df P w K mg base j x ps sp) (h : j ≤ k) : Df P w K mg base k x ps sp := by
  obtain ⟨f, fd, F, r⟩ := F.ex
  exact ⟨f, fd, F.mono h, r⟩
theorem sw2_len {α : Type} (l : List α) : (sw2 l).length = l.length := by
  rcases l with _ | ⟨a, _ | ⟨b, _ | ⟨c, r⟩⟩⟩ <;> rfl
/-- a def's cell -/
def Fa (K : PySem.W.Frag) (x qual : Str) (st : Stmt) (f : Addr) : Prop := ∃ (oc : Value) (od : Option Addr) (kV doc pm : Value) (an : Option Addr) (cdv ct : Value) (osl : Array (Option Value)),
  K.lookup f = some ⟨oc, od, .func (PySem.W.fnOf x qual (defArgs st) (defBody st) (defScope st) .none kV doc pm an cdv ct), osl⟩ ∧ PySem.W.codeIn K cdv qual = true ∧ PySem.W.keepIn K (.ref f) = true
theorem Fa.fn {x qual : Str} {st : Stmt} {f : Addr} (h : Fa K x qual st f) : ∃ fd, Fun K x qual st f fd := by
  obtain ⟨oc, od, kV, doc, pm, an, cdv, ct, osl, l, c, k⟩ := h
  exact ⟨_, fun_mk l c k⟩
/-- how a def's arguments bind -/
def Bd (x qual : Str) (st : Stmt) (ps : List Str) : Prop := ∀ (kV doc pm : Value) (an : Option Addr) (cdv ct : Value) (us : List Value), us.length = ps.length → bindArgs (PySem.W.fnOf x qual (defArgs st) (defBody st) (defScope st) .none kV doc pm an cdv ct) ⟨us, []⟩ = pure (ps.zip us)
/-- a def of the top -/
def Tp (K : PySem.W.Frag) (x : Str) (st : Stmt) : Prop := ∃ f, PySem.W.nsIn K mainGlobals x = some (some (.ref f)) ∧ Fa K x x st f
theorem Tp.df {h : Heap} {x : Str} {st : Stmt} {ps : List Str} {sp : Sp} {k : Nat} (T : Tp K x st) (X : K.In h) (G : h.Ns mainGlobals mg) (hb : Bd x x st ps) (F : ∀ f fd, Fun K x x st f fd → FnOk P w K mg base CX0 k f fd ps sp) : Df P w K mg base k x ps sp := by
  obtain ⟨f, a, fa⟩ := T
  obtain ⟨fd, fn⟩ := fa.fn
  obtain ⟨_, _, _, _, _, _, _, _, _, _, _, k⟩ := fa
  exact ⟨f, fd, F f fd fn, PySem.W.mg_of X G a, k, fn.binds hb⟩
theorem Tp.dfK {h : Heap} {x : Str} {st : Stmt} {ps ks : List Str} {sp : Sp} {k : Nat} (T : Tp K x st) (X : K.In h) (G : h.Ns mainGlobals mg)
    (hb : ∀ (kV doc pm : Value) (an : Option Addr) (cdv ct : Value) (us ws : List Value), (us ++ sw2 ws).length = ps.length → bindArgs (PySem.W.fnOf x x (defArgs st) (defBody st) (defScope st) .none kV doc pm an cdv ct) ⟨us, ks.zip ws⟩ = pure (ps.zip (us ++ sw2 ws)))
    (F : ∀ f fd, Fun K x x st f fd → FnOk P w K mg base CX0 k f fd ps sp) : DfK P w K mg base k x ps ks sp := by
  obtain ⟨f, a, fa⟩ := T
  obtain ⟨oc, od, kV, doc, pm, an, cdv, ct, osl, l, c, k⟩ := fa
  exact ⟨f, _, F f _ (fun_mk l c k), PySem.W.mg_of X G a, k, ⟨fun s us ws _ hl => .of_eq (hb kV doc pm an cdv ct us ws hl), fun r1 r2 => r1.append (vals_sw r2)⟩⟩
theorem Tp.dfI {h : Heap} {x : Str} {st : Stmt} {ps : List Str} {sp : Sp} {k : Nat} (T : Tp K x st) (X : K.In h) (G : h.Ns mainGlobals mg)
    (hb : ∀ (kV doc pm : Value) (an : Option Addr) (cdv ct : Value) (ws : List Value), ws.length = ps.length → bindArgs (PySem.W.fnOf x x (defArgs st) (defBody st) (defScope st) .none kV doc pm an cdv ct) ⟨[], ps.zip ws⟩ = pure (ps.zip ws))
    (F : ∀ f fd, Fun K x x st f fd → FnOk P w K mg base CX0 k f fd ps sp) : DfI P w K mg base k x ps sp := by
  obtain ⟨f, a, fa⟩ := T
  obtain ⟨oc, od, kV, doc, pm, an, cdv, ct, osl, l, c, k⟩ := fa
  exact ⟨f, _, F f _ (fun_mk l c k), PySem.W.mg_of X G a, k, ⟨fun s us ws _ hl => by
    cases us with
    | nil => exact .of_eq (hb kV doc pm an cdv ct ws hl)
    | cons u r =>
      have hl : (List.replicate (ps.length + 1) u).length = ps.length := hl
      rw [List.length_replicate] at hl
      omega, fun r1 r2 => vals_onlyK r1 r2⟩⟩
theorem Tp.dfR {h : Heap} {x : Str} {st : Stmt} {ps : List Str} {sp : Sp} {k : Nat} (T : Tp K x st) (X : K.In h) (G : h.Ns mainGlobals mg)
    (hb : ∀ (kV doc pm : Value) (an : Option Addr) (cdv ct : Value) (ws : List Value), ws.length = ps.length → bindArgs (PySem.W.fnOf x x (defArgs st) (defBody st) (defScope st) .none kV doc pm an cdv ct) ⟨[], ps.reverse.zip ws⟩ = pure (ps.zip ws.reverse))
    (F : ∀ f fd, Fun K x x st f fd → FnOk P w K mg base CX0 k f fd ps sp) : DfR P w K mg base k x ps sp := by
  obtain ⟨f, a, fa⟩ := T
  obtain ⟨oc, od, kV, doc, pm, an, cdv, ct, osl, l, c, k⟩ := fa
  exact ⟨f, _, F f _ (fun_mk l c k), PySem.W.mg_of X G a, k, ⟨fun s us ws _ hl => by
    cases us with
    | nil =>
      have hl : ws.reverse.length = ps.length := hl
      rw [List.length_reverse] at hl
      exact .of_eq (hb kV doc pm an cdv ct ws hl)
    | cons u r =>
      have hl : (List.replicate (ps.length + 1) u).length = ps.length := hl
      rw [List.length_replicate] at hl
      omega, fun r1 r2 => vals_revK r1 r2⟩⟩
theorem Tp.dfG {h : Heap} {x : Str} {st : Stmt} {ps : List Str} {sp : Sp} {k : Nat} (T : Tp K x st) (X : K.In h) (G : h.Ns mainGlobals mg) (hb : Bd x x st ps) (F : ∀ f fd, Fun K x x st f fd → FnG P w K mg base k f fd ps sp) : DfG P w K mg base k x ps sp := by
  obtain ⟨f, a, fa⟩ := T
  obtain ⟨fd, fn⟩ := fa.fn
  obtain ⟨_, _, _, _, _, _, _, _, _, _, _, k⟩ := fa
  exact ⟨f, fd, F f fd fn, PySem.W.mg_of X G a, k, fn.binds hb⟩
/-- a method -/
def Mt (K : PySem.W.Frag) (C : Addr) (m qual : Str) (st : Stmt) : Prop := ∃ f, PySem.W.findIn K (.ref C) m = some (some (.ref f)) ∧ PySem.W.isFn K (.ref f) = true ∧ Fa K m qual st f
/-- a property -/
def Pp (K : PySem.W.Frag) (C : Addr) (m qual : Str) (st : Stmt) : Prop := ∃ p g rest, PySem.W.findIn K (.ref C) m = some (some (.ref p)) ∧ PySem.W.specialIn K (.ref p) "__get__" = some (some (.builtin "property.__get__")) ∧ PySem.W.takesIn K (.ref p) = some true ∧
  PySem.W.recIn K p "property" = some (.ref g :: rest) ∧ Fa K m qual st g
section
variable {x qual m : Str} {st : Stmt} {f C p g : Addr} {oc kV doc pm cdv ct : Value} {od an : Option Addr} {osl : Array (Option Value)} {rest : List Value}
theorem tp_mk (a : PySem.W.nsIn K mainGlobals x = some (some (.ref f))) (l : K.lookup f = some ⟨oc, od, .func (PySem.W.fnOf x x (defArgs st) (defBody st) (defScope st) .none kV doc pm an cdv ct), osl⟩) (c : PySem.W.codeIn K cdv x = true) (k : PySem.W.keepIn K (.ref f) = true) : Tp K x st :=
  ⟨f, a, oc, od, kV, doc, pm, an, cdv, ct, osl, l, c, k⟩
theorem mt_mk (a : PySem.W.findIn K (.ref C) m = some (some (.ref f))) (i : PySem.W.isFn K (.ref f) = true) (l : K.lookup f = some ⟨oc, od, .func (PySem.W.fnOf m qual (defArgs st) (defBody st) (defScope st) .none kV doc pm an cdv ct), osl⟩) (c : PySem.W.codeIn K cdv qual = true) (k : PySem.W.keepIn K (.ref f) = true) : Mt K C m qual st :=
  ⟨f, a, i, oc, od, kV, doc, pm, an, cdv, ct, osl, l, c, k⟩
theorem pp_mk (a : PySem.W.findIn K (.ref C) m = some (some (.ref p))) (b : PySem.W.specialIn K (.ref p) "__get__" = some (some (.builtin "property.__get__"))) (t : PySem.W.takesIn K (.ref p) = some true) (r : PySem.W.recIn K p "property" = some (.ref g :: rest))
    (l : K.lookup g = some ⟨oc, od, .func (PySem.W.fnOf m qual (defArgs st) (defBody st) (defScope st) .none kV doc pm an cdv ct), osl⟩) (c : PySem.W.codeIn K cdv qual = true) (k : PySem.W.keepIn K (.ref g) = true) : Pp K C m qual st :=
  ⟨p, g, rest, a, b, t, r, oc, od, kV, doc, pm, an, cdv, ct, osl, l, c, k⟩
end
structure NetX (K : PySem.W.Frag) (C : Addr) : Prop where
  pg : PySem.W.plainGet K C Str.empty = true
  hd : PySem.W.hasDictIn K C = true
  po : PySem.W.plainOver K C = true
  sa : PySem.W.findIn K (.ref C) "__setattr__" = some (some (.builtin "object.__setattr__"))
  ha : PySem.W.findIn K (.ref C) "__class__" = some (some (.builtin "object.__class__"))
  hn : PySem.W.specialIn K (.builtin "object.__class__") "__get__" = some (some (.builtin "getset_descriptor.__get__"))
  ht : PySem.W.takesIn K (.builtin "object.__class__") = some true
  hm : PySem.W.mroIn K C (.type "object") = some true
  nE : PySem.W.findIn K (.ref C) "_ends" = some none
  nX : PySem.W.findIn K (.ref C) "_exits" = some none
  nT : PySem.W.findIn K (.ref C) "_targets" = some none
  ne : PySem.W.findIn K (.ref C) "__ne__" = some (some (.builtin "object.__ne__"))
  sub : PySem.W.subIn K (.ref C) (.type "object") = some true
  mkI : PySem.W.makesIn K C = true
  kC : PySem.W.keepIn K (.ref C) = true
  ini : Mt K C "__init__" "Net.__init__" s_Net_init_
  eq : Mt K C "__eq__" "Net.__eq__" s_Net_eq_
  exits : Mt K C "exits" "Net.exits" s_Net_exits
  ends : Pp K C "ends" "Net.ends" s_Net_ends
  points : Pp K C "points" "Net.points" s_Net_points
  many : Pp K C "many" "Net.many" s_Net_many
  targets : Mt K C "targets" "Net.targets" s_Net_targets
  ka : PySem.W.isClsIn K C = true
  kb : PySem.W.typeIn K (.ref C) = some (.type "type")
  kc : PySem.W.subIn K (.type "list") (.ref C) = some false
  nf : PySem.W.notFirst K C (.type "list") = true
theorem kit_no {C : Addr} (a : PySem.W.isClsIn K C = true) (b : PySem.W.typeIn K (.ref C) = some (.type "type")) (c : PySem.W.subIn K (.type "list") (.ref C) = some false) : PySem.W.kitOne K (.type "list") (.ref C) = some false := by
  unfold PySem.W.kitOne PySem.W.kitCls
  have a : (PySem.W.clsIn K C).isSome = true := a
  rw [if_neg (show ¬ (Value.type "list" == Value.ref C) = true from Bool.false_ne_true)]
  show (if ((PySem.W.clsIn K C).isSome && PySem.W.typeIn K (.ref C) == some (.type "type")) = true then PySem.W.subIn K (.type "list") (.ref C) else none) = some false
  rw [a, b, c]
  rfl
structure TopX (K : PySem.W.Frag) : Prop where
  net : ∃ C, PySem.W.nsIn K mainGlobals "Net" = some (some (.ref C)) ∧ NetX K C
  c6 : ∃ t, PySem.W.nsIn K mainGlobals "MOST_ENDS" = some (some (.int 6 t))
  c60 : ∃ t, PySem.W.nsIn K mainGlobals "MOST_TRACKS" = some (some (.int 60 t))
  c24 : ∃ t, PySem.W.nsIn K mainGlobals "MOST_POINTS" = some (some (.int 24 t))
  cx6 : ∃ t, PySem.W.nsIn K mainGlobals "MOST_EXITS" = some (some (.int 6 t))
  kR : ∃ t, PySem.W.nsIn K mainGlobals "MOST_ROUNDS" = some (some (.int 20000 t))
  kV : ∃ t, PySem.W.nsIn K mainGlobals "MOST_VISITS" = some (some (.int 20000 t))
  bs : ∀ x ∈ (["isinstance", "int", "bool", "list", "tuple", "len", "all", "any", "sum", "sorted", "range", "enumerate", "zip", "isinstance", "int", "bool", "list", "tuple", "len", "all", "any", "sum", "sorted", "range", "enumerate", "zip", "abs", "max", "divmod", "repr", "min"] : List Str), PySem.W.nsIn K mainGlobals x = some none
  t1 : Tp K "is_integer" s_is_integer
  t2 : Tp K "is_count" s_is_count
  t3 : Tp K "is_count_below" s_is_count_below
  t4 : Tp K "is_row" s_is_row
  t5 : Tp K "_is_target_of" s_is_target_of
  t6 : Tp K "_is_exit_row" s_is_exit_row
  t7 : Tp K "_are_exits" s_are_exits
  t8 : Tp K "check_net" s_check_net
  t11 : Tp K "is_setting" s_is_setting
  t12 : Tp K "check_setting" s_check_setting
  t13 : Tp K "is_number" s_is_number
  t14 : Tp K "are_numbers" s_are_numbers
  t15 : Tp K "check_starts" s_check_starts
  t16 : Tp K "check_visits" s_check_visits
  tct : Tp K "check_trains" s_check_trains
  tpt : Tp K "_points_to" s_points_to
  tpe : Tp K "points_to_ends" s_points_to_ends
  til : Tp K "is_leading" s_is_leading
  tcl : Tp K "check_leading" s_check_leading
  t18 : Tp K "deals_of" s_deals_of
  t20 : Tp K "arrivals" s_arrivals
  t21 : Tp K "last_targets" s_last_targets
  t22 : Tp K "found_ring" s_found_ring
  tlo : Tp K "less_once" s_less_once
  t23 : Tp K "is_flow" s_is_flow
  tcf : Tp K "_check_flow" s_check_flow
  tff : Tp K "_flow_from" s_flow_from
  trd : Tp K "reduced" s_reduced
  tcb : Tp K "_check_both" s_check_both
  tmt : Tp K "met" s_met
  tjn : Tp K "joined" s_joined
  l1 : Tp K "_law_pot" s_Lpot
  l2 : Tp K "_law_draw" s_Ldraw
  l3 : Tp K "_law_pick" s_Lpick
  l4 : Tp K "_law_exits" s_Lexits
  l5 : Tp K "_law_lost" s_Llost
  l6 : Tp K "_law_leading" s_Lleading
  l8 : Tp K "_law_setting" s_Lsetting
  l9 : Tp K "_law_dealt" s_Ldealt
  l10 : Tp K "_law_arrived" s_Larrived
  l11 : Tp K "_law_least" s_Lleast
  l12 : Tp K "_law_flows" s_Lflows
  l13 : Tp K "_law_is_below" s_Lis_below
  l15 : Tp K "_law_right" s_Lright
  l7 : Tp K "law" s_law
theorem net_mk {C : Addr} (aC : PySem.W.nsIn K mainGlobals "Net" = some (some (.ref C))) (N : NetX K C) : ∃ C, PySem.W.nsIn K mainGlobals "Net" = some (some (.ref C)) ∧ NetX K C := ⟨C, aC, N⟩
theorem con_mk {x : Str} {n : Int} {t : Tok} (a : PySem.W.nsIn K mainGlobals x = some (some (.int n t))) : ∃ t, PySem.W.nsIn K mainGlobals x = some (some (.int n t)) := ⟨t, a⟩
theorem all_mk {h : Heap} {fa : Addr} (X : K.In h) (G : h.Ns mainGlobals mg) (hfa : mg "law" = some (.ref fa)) (T : TopX K) :
    ∃ fd : FuncData, (∀ (s : Shared) (v : Value), BindsTo s fd ⟨[v], []⟩ [("_law_script", v)]) ∧ ∀ base : Heap, K.In base → base.Ns mainGlobals mg → FnG P w K mg base 15 fa fd ["_law_script"] (spD (cLaw K)) := by
  have z : ∀ x ∈ (["isinstance", "int", "bool", "list", "tuple", "len", "all", "any", "sum", "sorted", "range", "enumerate", "zip", "isinstance", "int", "bool", "list", "tuple", "len", "all", "any", "sum", "sorted", "range", "enumerate", "zip", "abs", "max", "divmod", "repr", "min"] : List Str), mg x = none := fun x hx => PySem.W.mg_none_of X G (T.bs x hx)
  have B : Blt mg := ⟨z _ (by simp), z _ (by simp), z _ (by simp), z _ (by simp), z _ (by simp), z _ (by simp), z _ (by simp), z _ (by simp), z _ (by simp), z _ (by simp), z _ (by simp), z _ (by simp), z _ (by simp)⟩
  have B2 : Blt2 mg := ⟨B, z _ (by simp), z _ (by simp), z _ (by simp), z _ (by simp)⟩
  have mr : mg "repr" = none := z _ (by simp)
  obtain ⟨C, aC, N⟩ := T.net
  obtain ⟨_, c6⟩ := T.c6
  obtain ⟨_, c60⟩ := T.c60
  obtain ⟨_, c24⟩ := T.c24
  obtain ⟨_, cx6⟩ := T.cx6
  have m6 := PySem.W.mg_of X G c6
  have m60 := PySem.W.mg_of X G c60
  have m24 := PySem.W.mg_of X G c24
  have mx6 := PySem.W.mg_of X G cx6
  have NT : NetT K mg C := ⟨⟨⟨N.pg, N.hd, N.po, N.sa⟩, N.ha, N.hn, N.ht, N.hm, if_pos (beq_self_eq_true _)⟩, N.nE, N.nX, N.nT, PySem.W.mg_of X G aC, kit_no N.ka N.kb N.kc, N.nf⟩
  obtain ⟨fl, al, fal⟩ := T.l7
  have e := hfa.symm.trans (PySem.W.mg_of X G al)
  cases e
  obtain ⟨oc, od, kV, doc, pm, an, cdv, ct, osl, ll, lc, lk⟩ := fal
  refine ⟨PySem.W.fnOf "law" "law" (defArgs s_law) (defBody s_law) (defScope s_law) .none kV doc pm an cdv ct, fun s v => .of_eq rfl, fun base _ _ => ?_⟩
  have d1 : Df P w K mg base 1 "is_integer" ["value"] (spD (c1 isI)) := T.t1.df X G (fun _ _ _ _ _ _ us hl => match us, hl with | [_], _ => rfl) fun f fd F => ok_is_integer B F
  have d2 : Df P w K mg base 2 "is_count" ["value"] (spD (c1 isC)) := T.t2.df X G (fun _ _ _ _ _ _ us hl => match us, hl with | [_], _ => rfl) fun f fd F => ok_is_count d1 F
  have d3 : Df P w K mg base 3 "is_count_below" ["value", "bound"] (spD (c2 isCB)) := T.t3.df X G (fun _ _ _ _ _ _ us hl => match us, hl with | [_, _], _ => rfl) fun f fd F => ok_is_count_below d2 F
  have d4 : Df P w K mg base 1 "is_row" ["value"] (spD (c1 isRow)) := T.t4.df X G (fun _ _ _ _ _ _ us hl => match us, hl with | [_], _ => rfl) fun f fd F => ok_is_row B F
  have d5 : Df P w K mg base 2 "_is_target_of" ["value", "ends", "points"] (spD (c3 isTg)) := T.t5.df X G (fun _ _ _ _ _ _ us hl => match us, hl with | [_, _, _], _ => rfl) fun f fd F => ok_is_target_of d1 F
  have d6 : Df P w K mg base 3 "_is_exit_row" ["value", "ends", "points"] (spD (c3R isXR)) := T.t6.df X G (fun _ _ _ _ _ _ us hl => match us, hl with | [_, _, _], _ => rfl) fun f fd F => ok_is_exit_row B mx6 (Df.mono d4 (by decide)) d5 F
  have d7 : Df P w K mg base 4 "_are_exits" ["value", "ends"] (spD (c2R isXs)) := T.t7.df X G (fun _ _ _ _ _ _ us hl => match us, hl with | [_, _], _ => rfl) fun f fd F => ok_are_exits B m24 (Df.mono d4 (by decide)) d6 F
  have NP : NetP P w K mg base C 5 := by
    obtain ⟨f1, a1, i1, fa1⟩ := N.ini
    obtain ⟨f6, a6, i6, fa6⟩ := N.targets
    obtain ⟨p7, g7, r7, a7, b7, c7, e7, fa7⟩ := N.many
    have k6 : PySem.W.keepIn K (.ref f6) = true := by
      obtain ⟨_, _, _, _, _, _, _, _, _, _, _, k⟩ := fa6
      exact k
    obtain ⟨d6', F6⟩ := fa6.fn
    obtain ⟨d7', F7⟩ := fa7.fn
    obtain ⟨f2, a2, i2, fa2⟩ := N.eq
    obtain ⟨f3, a3, i3, fa3⟩ := N.exits
    obtain ⟨p4, g4, r4, a4, b4, c4, e4, fa4⟩ := N.ends
    obtain ⟨p5, g5, r5, a5, b5, c5, e5, fa5⟩ := N.points
    have k3 : PySem.W.keepIn K (.ref f3) = true := by
      obtain ⟨_, _, _, _, _, _, _, _, _, _, _, k⟩ := fa3
      exact k
    obtain ⟨oc1, od1, kV1, doc1, pm1, an1, cdv1, ct1, osl1, l1, cc1, kk1⟩ := fa1
    have F1 := fun_mk (st := s_Net_init_) l1 cc1 kk1
    obtain ⟨d2, F2⟩ := fa2.fn
    obtain ⟨d3', F3⟩ := fa3.fn
    obtain ⟨d4, F4⟩ := fa4.fn
    obtain ⟨d5, F5⟩ := fa5.fn
    exact ⟨NT, ⟨p4, g4, d4, ⟨a4, b4, c4, _, e4⟩, (ok_ends NT F4 (k := 0)).mono (by decide), F4.binds fun _ _ _ _ _ _ us hl => match us, hl with | [_], _ => rfl⟩,
      ⟨p5, g5, d5, ⟨a5, b5, c5, _, e5⟩, (ok_points B NT F5 (k := 0)).mono (by decide), F5.binds fun _ _ _ _ _ _ us hl => match us, hl with | [_], _ => rfl⟩,
      ⟨p7, g7, d7', ⟨a7, b7, c7, _, e7⟩, (ok_many B NT F7 (k := 0)).mono (by decide), F7.binds fun _ _ _ _ _ _ us hl => match us, hl with | [_], _ => rfl⟩,
      ⟨f6, d6', ⟨a6, i6, k6⟩, (ok_targets B NT F6 (k := 0)).mono (by decide), F6.binds fun _ _ _ _ _ _ us hl => match us, hl with | [_], _ => rfl⟩,
      ⟨f3, d3', ⟨a3, i3, k3⟩, (ok_exits B NT F3 (k := 0)).mono (by decide), F3.binds fun _ _ _ _ _ _ us hl => match us, hl with | [_], _ => rfl⟩,
      ⟨f2, d2, a2, i2, (ok_eq B NT F2 (k := 0)).mono (by decide), F2.binds fun _ _ _ _ _ _ us hl => match us, hl with | [_, _], _ => rfl⟩, N.ne, N.sub,
      ⟨f1, _, ⟨N.mkI, a1, i1, N.kC⟩, ok_init B NT m6 m60 (Df.mono d3 (by decide)) d7 F1, F1.binds fun _ _ _ _ _ _ us hl => match us, hl with | [_, _, _], _ => rfl,
        ⟨fun s us ws _ h1 h2 => by
          rcases us with _ | ⟨a, _ | ⟨b, r⟩⟩ <;> rcases ws with _ | ⟨x, _ | ⟨y, _ | ⟨z, r2⟩⟩⟩ <;> first | exact .of_eq rfl | (simp at h1; done) | (simp at h2; done) | (simp at h1 h2; done), fun r1 r2 => r1.append (vals_sw r2)⟩⟩⟩
  have d8 : Df P w K mg base 1 "check_net" ["net"] (spD (cNet C fun _ _ => .non)) := T.t8.df X G (fun _ _ _ _ _ _ us hl => match us, hl with | [_], _ => rfl) fun f fd F => ok_check_net B NT F
  obtain ⟨_, kR⟩ := T.kR
  obtain ⟨_, kV⟩ := T.kV
  have mR := PySem.W.mg_of X G kR
  have mV := PySem.W.mg_of X G kV
  have zmin : mg "min" = none := z _ (by simp)
  have zmax : mg "max" = none := z _ (by simp)
  have d11 : Df P w K mg base 7 "is_setting" ["net", "value"] (spD (cSet C fun _ _ _ => .bl true)) := T.t11.df X G (fun _ _ _ _ _ _ us hl => match us, hl with | [_, _], _ => rfl) fun f fd F => ok_is_setting B NP (Nat.le_refl 5) (Df.mono d8 (by decide)) (Df.mono d4 (by decide)) (Df.mono d3 (by decide)) F
  have d12 : Df P w K mg base 8 "check_setting" ["net", "setting"] (spD (cSet C fun _ _ _ => .non)) := T.t12.df X G (fun _ _ _ _ _ _ us hl => match us, hl with | [_, _], _ => rfl) fun f fd F => ok_check_setting d11 F
  have d13 : Df P w K mg base 3 "is_number" ["value"] (spD (c1 isN)) := T.t13.df X G (fun _ _ _ _ _ _ us hl => match us, hl with | [_], _ => rfl) fun f fd F => ok_is_number d2 F
  have d14 : Df P w K mg base 4 "are_numbers" ["value", "many"] (spD cAreN) := T.t14.df X G (fun _ _ _ _ _ _ us hl => match us, hl with | [_, _], _ => rfl) fun f fd F => ok_are_numbers B (Df.mono d4 (by decide)) d13 F
  have d14G : Df P w K mg base 4 "are_numbers" ["value", "many"] (spD cAreG) := T.t14.df X G (fun _ _ _ _ _ _ us hl => match us, hl with | [_, _], _ => rfl) fun f fd F => ok_are_numbersG B (Df.mono d4 (by decide)) d13 F
  have d15 : Df P w K mg base 7 "check_starts" ["net", "starts"] (spD (cNum C)) := T.t15.df X G (fun _ _ _ _ _ _ us hl => match us, hl with | [_, _], _ => rfl) fun f fd F => ok_check_starts NP (Nat.le_refl 5) (Df.mono d14 (by decide)) F
  have d16 : Df P w K mg base 7 "check_visits" ["net", "visits"] (spD (cNum C)) := T.t16.df X G (fun _ _ _ _ _ _ us hl => match us, hl with | [_, _], _ => rfl) fun f fd F => ok_check_visits NP (Nat.le_refl 5) (Df.mono d14 (by decide)) F
  have dct : Df P w K mg base 9 "check_trains" ["net", "setting", "starts"] (spD (cTr C)) := T.tct.df X G (fun _ _ _ _ _ _ us hl => match us, hl with | [_, _, _], _ => rfl) fun f fd F => ok_check_trains (Df.mono d8 (by decide)) d12 (Df.mono d15 (by decide)) F
  have dpt : Df P w K mg base 7 "_points_to" ["net", "goals"] (spD (cPts C)) := T.tpt.df X G (fun _ _ _ _ _ _ us hl => match us, hl with | [_, _], _ => rfl) fun f fd F => ok_points_to B NP (Nat.le_refl 5) F
  have dpe : Df P w K mg base 8 "points_to_ends" ["net"] (spD (cNet C fun e ex => .lst (lI (ptsTo ex (endsL e))))) := T.tpe.df X G (fun _ _ _ _ _ _ us hl => match us, hl with | [_], _ => rfl) fun f fd F => ok_points_to_ends B NP (by decide : 5 + 1 ≤ 7) dpt F
  have dil : Df P w K mg base 9 "is_leading" ["net"] (spD (cNet C fun e ex => .bl (decide ((ptsTo ex (endsL e)).length = ex.length)))) := T.til.df X G (fun _ _ _ _ _ _ us hl => match us, hl with | [_], _ => rfl) fun f fd F => ok_is_leading B NP (by decide : 5 + 1 ≤ 8) (Df.mono d8 (by decide)) dpe F
  have dcl : Df P w K mg base 10 "check_leading" ["net"] (spD (cCL C)) := T.tcl.df X G (fun _ _ _ _ _ _ us hl => match us, hl with | [_], _ => rfl) fun f fd F => ok_check_leading dil F
  have d18 : Df P w K mg base 6 "deals_of" ["rows", "setting"] (spD cDeals) := T.t18.df X G (fun _ _ _ _ _ _ us hl => match us, hl with | [_, _], _ => rfl) fun f fd F => ok_deals_of B F
  have d20 : Df P w K mg base 1 "arrivals" ["deals", "starts", "visits"] (spD cArr) := T.t20.df X G (fun _ _ _ _ _ _ us hl => match us, hl with | [_, _, _], _ => rfl) fun f fd F => ok_arrivals B.list F
  have d20R : Df P w K mg base 1 "arrivals" ["deals", "starts", "visits"] (spD cArrR) := T.t20.df X G (fun _ _ _ _ _ _ us hl => match us, hl with | [_, _, _], _ => rfl) fun f fd F => ok_arrivalsR B.list F
  have d21 : Df P w K mg base 1 "last_targets" ["rows", "setting", "visits"] (spD cLasts) := T.t21.df X G (fun _ _ _ _ _ _ us hl => match us, hl with | [_, _, _], _ => rfl) fun f fd F => ok_last_targets B F
  have d22 : Df P w K mg base 2 "found_ring" ["rows", "setting", "visits"] (spD cFR) := T.t22.df X G (fun _ _ _ _ _ _ us hl => match us, hl with | [_, _, _], _ => rfl) fun f fd F => ok_found_ring B d21 F
  have dlo : Df P w K mg base 1 "less_once" ["visits", "ring"] (spD cLO) := T.tlo.df X G (fun _ _ _ _ _ _ us hl => match us, hl with | [_, _], _ => rfl) fun f fd F => ok_less_once B F
  have d23 : Df P w K mg base 10 "is_flow" ["net", "setting", "starts", "value"] (spD (cFlow C)) := T.t23.df X G (fun _ _ _ _ _ _ us hl => match us, hl with | [_, _, _, _], _ => rfl) fun f fd F => ok_is_flow B NP (by decide : 5 + 1 ≤ 9) dct (Df.mono d14G (by decide)) (Df.mono d18 (by decide)) (Df.mono d20 (by decide)) F
  have dcf : Df P w K mg base 11 "_check_flow" ["net", "setting", "starts", "visits"] (spD (cCF C)) := T.tcf.df X G (fun _ _ _ _ _ _ us hl => match us, hl with | [_, _, _, _], _ => rfl) fun f fd F => ok_check_flow d23 F
  have dff : Df P w K mg base 7 "_flow_from" ["net", "setting", "starts", "first"] (spD (cFF C)) := T.tff.df X G (fun _ _ _ _ _ _ us hl => match us, hl with | [_, _, _, _], _ => rfl) fun f fd F => ok_flow_from NP (by decide : 5 + 1 ≤ 6) mR d18 (Df.mono d20R (by decide)) F
  have drd : Df P w K mg base 12 "reduced" ["net", "setting", "starts", "visits"] (spD (cRed C)) := T.trd.df X G (fun _ _ _ _ _ _ us hl => match us, hl with | [_, _, _, _], _ => rfl) fun f fd F => ok_reduced B NP (by decide : 5 + 1 ≤ 11) mV (Df.mono dct (by decide)) (Df.mono d16 (by decide)) dcf (Df.mono d22 (by decide)) (Df.mono dlo (by decide)) F
  have drdR : DfR P w K mg base 13 "reduced" ["net", "setting", "starts", "visits"] (spD (cRed C)) := T.trd.dfR X G (fun _ _ _ _ _ _ ws hl => match ws, hl with | [_, _, _, _], _ => rfl) fun f fd F => (ok_reduced B NP (by decide : 5 + 1 ≤ 11) mV (Df.mono dct (by decide)) (Df.mono d16 (by decide)) dcf (Df.mono d22 (by decide)) (Df.mono dlo (by decide)) F).mono (by decide)
  have dcb : Df P w K mg base 12 "_check_both" ["net", "setting", "starts", "visits", "others"] (spD (cBo C)) := T.tcb.df X G (fun _ _ _ _ _ _ us hl => match us, hl with | [_, _, _, _, _], _ => rfl) fun f fd F => ok_check_both (Df.mono dct (by decide)) (Df.mono d16 (by decide)) (Df.mono dcl (by decide)) dcf F
  have dmt : Df P w K mg base 13 "met" ["net", "setting", "starts", "visits", "others"] (spD (cMJ C mnI)) := T.tmt.df X G (fun _ _ _ _ _ _ us hl => match us, hl with | [_, _, _, _, _], _ => rfl) fun f fd F => ok_met B.zip zmin dcb (Df.mono dff (by decide)) F
  have dmtR : DfR P w K mg base 13 "met" ["net", "setting", "starts", "visits", "others"] (spD (cMJ C mnI)) := T.tmt.dfR X G (fun _ _ _ _ _ _ ws hl => match ws, hl with | [_, _, _, _, _], _ => rfl) fun f fd F => ok_met B.zip zmin dcb (Df.mono dff (by decide)) F
  have djn : Df P w K mg base 13 "joined" ["net", "setting", "starts", "visits", "others"] (spD (cMJ C mxI)) := T.tjn.df X G (fun _ _ _ _ _ _ us hl => match us, hl with | [_, _, _, _, _], _ => rfl) fun f fd F => ok_joined B.zip zmax dcb (Df.mono dff (by decide)) F
  have e1 : Df P w K mg base 1 "_law_pot" ["_law_script", "_law_k"] (spF (cPot K)) := T.l1.df X G (fun _ _ _ _ _ _ us hl => match us, hl with | [_, _], _ => rfl) fun f fd F => ok_pot B2 F
  have e2 : Df P w K mg base 1 "_law_draw" ["_law_pot_here", "_law_size"] (spP cDraw) := T.l2.df X G (fun _ _ _ _ _ _ us hl => match us, hl with | [_, _], _ => rfl) fun f fd F => ok_draw B2 F
  have e3 : Df P w K mg base 2 "_law_pick" ["_law_pot_here", "_law_some"] (spP cPick) := T.l3.df X G (fun _ _ _ _ _ _ us hl => match us, hl with | [_, _], _ => rfl) fun f fd F => ok_Lpick B2 e2 F
  have e4 : Df P w K mg base 3 "_law_exits" ["_law_pot_here", "_law_most"] (spPO cLex) := T.l4.df X G (fun _ _ _ _ _ _ us hl => match us, hl with | [_, _], _ => rfl) fun f fd F => ok_Lexits B2 (Df.mono e2 (by decide)) e3 F
  have e5 : Df P w K mg base 1 "_law_lost" ["_law_exits_here"] (spD cLost) := T.l5.df X G (fun _ _ _ _ _ _ us hl => match us, hl with | [_], _ => rfl) fun f fd F => ok_Llost B2 F
  have e6 : Df P w K mg base 4 "_law_leading" ["_law_pot_here", "_law_most"] (spPO cLlead) := T.l6.df X G (fun _ _ _ _ _ _ us hl => match us, hl with | [_, _], _ => rfl) fun f fd F => ok_Lleading B2 e4 (Df.mono e5 (by decide)) F
  have e7 : Df P w K mg base 2 "_law_setting" ["_law_pot_here", "_law_exits_here"] (spP cLset) := T.l8.df X G (fun _ _ _ _ _ _ us hl => match us, hl with | [_, _], _ => rfl) fun f fd F => ok_Lsetting B2 e2 F
  have e8 : Df P w K mg base 1 "_law_dealt" ["_law_row", "_law_exit_at", "_law_many"] (spD cDealt) := T.l9.df X G (fun _ _ _ _ _ _ us hl => match us, hl with | [_, _, _], _ => rfl) fun f fd F => ok_Ldealt B2 F
  have e9 : Df P w K mg base 2 "_law_arrived" ["_law_ends", "_law_exits_here", "_law_setting_here", "_law_starts", "_law_visits"] (spD cArvd) := T.l10.df X G (fun _ _ _ _ _ _ us hl => match us, hl with | [_, _, _, _, _], _ => rfl) fun f fd F => ok_Larrived B2 e8 F
  have e10 : Df P w K mg base 3 "_law_least" ["_law_ends", "_law_exits_here", "_law_setting_here", "_law_starts"] (spD cLl) := T.l11.df X G (fun _ _ _ _ _ _ us hl => match us, hl with | [_, _, _, _], _ => rfl) fun f fd F => ok_Lleast B2 e9 F
  have e11 : Df P w K mg base 3 "_law_flows" ["_law_ends", "_law_exits_here", "_law_setting_here", "_law_starts", "_law_most"] (spD cLfl) := T.l12.df X G (fun _ _ _ _ _ _ us hl => match us, hl with | [_, _, _, _, _], _ => rfl) fun f fd F => ok_Lflows B2 e9 F
  have e12 : Df P w K mg base 1 "_law_is_below" ["_law_near", "_law_far"] (spD cIB) := T.l13.df X G (fun _ _ _ _ _ _ us hl => match us, hl with | [_, _], _ => rfl) fun f fd F => ok_Lis_below B2 F
  have e14 : DfG P w K mg base 14 "_law_right" ["_law_pot_here"] (spP cR) := T.l15.dfG X G (fun _ _ _ _ _ _ us hl => match us, hl with | [_], _ => rfl) fun f fd F => ok_Lright B2 NP (by decide : 5 + 1 ≤ 13) zmax (Df.mono e3 (by decide)) (Df.mono e6 (by decide)) (Df.mono e7 (by decide)) (Df.mono e9 (by decide)) (Df.mono e10 (by decide)) (Df.mono e11 (by decide)) (Df.mono e12 (by decide)) (Df.mono drd (by decide)) drdR dmt dmtR djn F
  exact ok_law (Df.mono e1 (by decide)) e14 (fun_mk (st := s_law) ll lc lk)
end
theorem walk {l : PySem.W.OpenLaw} {q : Program} {loose : List Str} {XP : (Str → Option Value) → Heap → Prop} {YP : World → Heap → Prop} {d : DefRec} {K : Params → PySem.W.Frag} (hn : l.most = some 63) (hdf : d.params.defaults = [])
    (hY : ∀ (w : World) (h : Heap), YP w h → (K w.params).In h) (hd : d.name = "law") (T : ∀ w : World, TopX (K w.params)) : PySem.W.WalkO q loose XP YP l.row.toRowW d [] (fun f vs => PySem.call f vs) := by
  refine walkG (n := 63) (k := 15) (x := "_law_script") (sp := fun w => spD (cLaw (K w.params))) hn (by decide) hdf ⟨rfl, by decide, by decide⟩ hY (fun w mg fa h X G hmg => all_mk X G (by rw [← hd]; exact hmg) (T w)) (fun w H a ns hl hS => ?_)
  refine ⟨H, [.scr (K w.params) ns], fun d => d = .bl true, Ex.refl H, ⟨.ref a, [], rfl, ⟨a, rfl, hS⟩, rfl⟩, ⟨ns, rfl, by omega, rfl⟩, fun v d G' H' hz _ i => ?_⟩
  subst hz
  exact i
end K37

open PySem PySem.W PyProof.Rows K37
set_option maxHeartbeats 0 in
theorem PySem.Challenge.cw_flippedpoints_k37_whole_flows_reduced_an_holds : PySem.Challenge.rw_flippedpoints_k37_whole_flows_reduced_an.Holds := by
  w_on; o_law; k_head; (case hw => w_witness2)
  k_fill
  refine K37.walk (l := PySem.Challenge.rw_flippedpoints_k37_whole_flows_reduced_an) rfl rfl (fun w h Y => PySem.W.kIn_of Y) rfl fun w => ?T
  case T =>
    refine' { net := ?net, c6 := con_mk ?c6, c60 := con_mk ?c60, c24 := con_mk ?c24, cx6 := con_mk ?cx6, kR := con_mk ?kR, kV := con_mk ?kV, bs := ?bs, t1 := ?t1, t2 := ?t2, t3 := ?t3, t4 := ?t4, t5 := ?t5, t6 := ?t6, t7 := ?t7, t8 := ?t8, t11 := ?t11, t12 := ?t12, t13 := ?t13, t14 := ?t14, t15 := ?t15, t16 := ?t16, tct := ?tct, tpt := ?tpt, tpe := ?tpe, til := ?til, tcl := ?tcl, t18 := ?t18, t20 := ?t20, t21 := ?t21, t22 := ?t22, tlo := ?tlo, t23 := ?t23, tcf := ?tcf, tff := ?tff, trd := ?trd, tcb := ?tcb, tmt := ?tmt, tjn := ?tjn, l1 := ?l1, l2 := ?l2, l3 := ?l3, l4 := ?l4, l5 := ?l5, l6 := ?l6, l8 := ?l8, l9 := ?l9, l10 := ?l10, l11 := ?l11, l12 := ?l12, l13 := ?l13, l15 := ?l15, l7 := ?l7 }
    case net =>
      refine' net_mk ?zaC ?zNet
      (case zaC => k_is)
      case zNet =>
        refine' { pg := ?pg, hd := ?hd, po := ?po, sa := ?sa, ha := ?ha, hn := ?hn, ht := ?ht, hm := ?hm, nE := ?nE, nX := ?nX, nT := ?nT, ne := ?ne, sub := ?sub, mkI := ?mkI, kC := ?kC, ini := mt_mk ?i1 ?i2 ?i3 ?i4 ?i5, eq := mt_mk ?q1 ?q2 ?q3 ?q4 ?q5, exits := mt_mk ?x1 ?x2 ?x3 ?x4 ?x5, ends := pp_mk ?e1 ?e2 ?e3 ?e4 ?e5 ?e6 ?e7, points := pp_mk ?p1 ?p2 ?p3 ?p4 ?p5 ?p6 ?p7, many := pp_mk ?m1 ?m2 ?m3 ?m4 ?m5 ?m6 ?m7, targets := mt_mk ?y1 ?y2 ?y3 ?y4 ?y5, ka := ?ka, kb := ?kb, kc := ?kc, nf := ?nf }
        (case pg => k_is)
        (case hd => k_is)
        (case po => k_is)
        (case sa => k_is)
        (case ha => k_is)
        (case hn => k_is)
        (case ht => k_is)
        (case hm => k_is)
        (case nE => k_is)
        (case nX => k_is)
        (case nT => k_is)
        (case ne => k_is)
        (case sub => k_is)
        (case mkI => k_is)
        (case kC => k_is)
        (case i1 => k_is)
        (case i2 => k_is)
        (case i3 => k_is)
        (case i4 => k_is)
        (case i5 => k_is)
        (case q1 => k_is)
        (case q2 => k_is)
        (case q3 => k_is)
        (case q4 => k_is)
        (case q5 => k_is)
        (case x1 => k_is)
        (case x2 => k_is)
        (case x3 => k_is)
        (case x4 => k_is)
        (case x5 => k_is)
        (case e1 => k_is)
        (case e2 => k_is)
        (case e3 => k_is)
        (case e4 => k_is)
        (case e5 => k_is)
        (case e6 => k_is)
        (case e7 => k_is)
        (case p1 => k_is)
        (case p2 => k_is)
        (case p3 => k_is)
        (case p4 => k_is)
        (case p5 => k_is)
        (case p6 => k_is)
        (case p7 => k_is)
        (case m1 => k_is)
        (case m2 => k_is)
        (case m3 => k_is)
        (case m4 => k_is)
        (case m5 => k_is)
        (case m6 => k_is)
        (case m7 => k_is)
        (case y1 => k_is)
        (case y2 => k_is)
        (case y3 => k_is)
        (case y4 => k_is)
        (case y5 => k_is)
        (case ka => k_is)
        (case kb => k_is)
        (case kc => k_is)
        (case nf => k_is)
    (case c6 => k_is)
    (case c60 => k_is)
    (case c24 => k_is)
    (case cx6 => k_is)
    (case kR => k_is)
    (case kV => k_is)
    case bs =>
      intro x hx
      rcases List.mem_cons.mp hx with rfl | hx
      · k_is
      rcases List.mem_cons.mp hx with rfl | hx
      · k_is
      rcases List.mem_cons.mp hx with rfl | hx
      · k_is
      rcases List.mem_cons.mp hx with rfl | hx
      · k_is
      rcases List.mem_cons.mp hx with rfl | hx
      · k_is
      rcases List.mem_cons.mp hx with rfl | hx
      · k_is
      rcases List.mem_cons.mp hx with rfl | hx
      · k_is
      rcases List.mem_cons.mp hx with rfl | hx
      · k_is
      rcases List.mem_cons.mp hx with rfl | hx
      · k_is
      rcases List.mem_cons.mp hx with rfl | hx
      · k_is
      rcases List.mem_cons.mp hx with rfl | hx
      · k_is
      rcases List.mem_cons.mp hx with rfl | hx
      · k_is
      rcases List.mem_cons.mp hx with rfl | hx
      · k_is
      rcases List.mem_cons.mp hx with rfl | hx
      · k_is
      rcases List.mem_cons.mp hx with rfl | hx
      · k_is
      rcases List.mem_cons.mp hx with rfl | hx
      · k_is
      rcases List.mem_cons.mp hx with rfl | hx
      · k_is
      rcases List.mem_cons.mp hx with rfl | hx
      · k_is
      rcases List.mem_cons.mp hx with rfl | hx
      · k_is
      rcases List.mem_cons.mp hx with rfl | hx
      · k_is
      rcases List.mem_cons.mp hx with rfl | hx
      · k_is
      rcases List.mem_cons.mp hx with rfl | hx
      · k_is
      rcases List.mem_cons.mp hx with rfl | hx
      · k_is
      rcases List.mem_cons.mp hx with rfl | hx
      · k_is
      rcases List.mem_cons.mp hx with rfl | hx
      · k_is
      rcases List.mem_cons.mp hx with rfl | hx
      · k_is
      rcases List.mem_cons.mp hx with rfl | hx
      · k_is
      rcases List.mem_cons.mp hx with rfl | hx
      · k_is
      rcases List.mem_cons.mp hx with rfl | hx
      · k_is
      rcases List.mem_cons.mp hx with rfl | hx
      · k_is
      rcases List.mem_cons.mp hx with rfl | hx
      · k_is
      cases hx
    case t1 =>
      refine' tp_mk ?a ?l ?c ?k
      (case a => k_is)
      (case l => k_is)
      (case c => k_is)
      (case k => k_is)
    case t2 =>
      refine' tp_mk ?a ?l ?c ?k
      (case a => k_is)
      (case l => k_is)
      (case c => k_is)
      (case k => k_is)
    case t3 =>
      refine' tp_mk ?a ?l ?c ?k
      (case a => k_is)
      (case l => k_is)
      (case c => k_is)
      (case k => k_is)
    case t4 =>
      refine' tp_mk ?a ?l ?c ?k
      (case a => k_is)
      (case l => k_is)
      (case c => k_is)
      (case k => k_is)
    case t5 =>
      refine' tp_mk ?a ?l ?c ?k
      (case a => k_is)
      (case l => k_is)
      (case c => k_is)
      (case k => k_is)
    case t6 =>
      refine' tp_mk ?a ?l ?c ?k
      (case a => k_is)
      (case l => k_is)
      (case c => k_is)
      (case k => k_is)
    case t7 =>
      refine' tp_mk ?a ?l ?c ?k
      (case a => k_is)
      (case l => k_is)
      (case c => k_is)
      (case k => k_is)
    case t8 =>
      refine' tp_mk ?a ?l ?c ?k
      (case a => k_is)
      (case l => k_is)
      (case c => k_is)
      (case k => k_is)
    case t11 =>
      refine' tp_mk ?a ?l ?c ?k
      (case a => k_is)
      (case l => k_is)
      (case c => k_is)
      (case k => k_is)
    case t12 =>
      refine' tp_mk ?a ?l ?c ?k
      (case a => k_is)
      (case l => k_is)
      (case c => k_is)
      (case k => k_is)
    case t13 =>
      refine' tp_mk ?a ?l ?c ?k
      (case a => k_is)
      (case l => k_is)
      (case c => k_is)
      (case k => k_is)
    case t14 =>
      refine' tp_mk ?a ?l ?c ?k
      (case a => k_is)
      (case l => k_is)
      (case c => k_is)
      (case k => k_is)
    case t15 =>
      refine' tp_mk ?a ?l ?c ?k
      (case a => k_is)
      (case l => k_is)
      (case c => k_is)
      (case k => k_is)
    case t16 =>
      refine' tp_mk ?a ?l ?c ?k
      (case a => k_is)
      (case l => k_is)
      (case c => k_is)
      (case k => k_is)
    case tct =>
      refine' tp_mk ?a ?l ?c ?k
      (case a => k_is)
      (case l => k_is)
      (case c => k_is)
      (case k => k_is)
    case tpt =>
      refine' tp_mk ?a ?l ?c ?k
      (case a => k_is)
      (case l => k_is)
      (case c => k_is)
      (case k => k_is)
    case tpe =>
      refine' tp_mk ?a ?l ?c ?k
      (case a => k_is)
      (case l => k_is)
      (case c => k_is)
      (case k => k_is)
    case til =>
      refine' tp_mk ?a ?l ?c ?k
      (case a => k_is)
      (case l => k_is)
      (case c => k_is)
      (case k => k_is)
    case tcl =>
      refine' tp_mk ?a ?l ?c ?k
      (case a => k_is)
      (case l => k_is)
      (case c => k_is)
      (case k => k_is)
    case t18 =>
      refine' tp_mk ?a ?l ?c ?k
      (case a => k_is)
      (case l => k_is)
      (case c => k_is)
      (case k => k_is)
    case t20 =>
      refine' tp_mk ?a ?l ?c ?k
      (case a => k_is)
      (case l => k_is)
      (case c => k_is)
      (case k => k_is)
    case t21 =>
      refine' tp_mk ?a ?l ?c ?k
      (case a => k_is)
      (case l => k_is)
      (case c => k_is)
      (case k => k_is)
    case t22 =>
      refine' tp_mk ?a ?l ?c ?k
      (case a => k_is)
      (case l => k_is)
      (case c => k_is)
      (case k => k_is)
    case tlo =>
      refine' tp_mk ?a ?l ?c ?k
      (case a => k_is)
      (case l => k_is)
      (case c => k_is)
      (case k => k_is)
    case t23 =>
      refine' tp_mk ?a ?l ?c ?k
      (case a => k_is)
      (case l => k_is)
      (case c => k_is)
      (case k => k_is)
    case tcf =>
      refine' tp_mk ?a ?l ?c ?k
      (case a => k_is)
      (case l => k_is)
      (case c => k_is)
      (case k => k_is)
    case tff =>
      refine' tp_mk ?a ?l ?c ?k
      (case a => k_is)
      (case l => k_is)
      (case c => k_is)
      (case k => k_is)
    case trd =>
      refine' tp_mk ?a ?l ?c ?k
      (case a => k_is)
      (case l => k_is)
      (case c => k_is)
      (case k => k_is)
    case tcb =>
      refine' tp_mk ?a ?l ?c ?k
      (case a => k_is)
      (case l => k_is)
      (case c => k_is)
      (case k => k_is)
    case tmt =>
      refine' tp_mk ?a ?l ?c ?k
      (case a => k_is)
      (case l => k_is)
      (case c => k_is)
      (case k => k_is)
    case tjn =>
      refine' tp_mk ?a ?l ?c ?k
      (case a => k_is)
      (case l => k_is)
      (case c => k_is)
      (case k => k_is)
    case l1 =>
      refine' tp_mk ?a ?l ?c ?k
      (case a => k_is)
      (case l => k_is)
      (case c => k_is)
      (case k => k_is)
    case l2 =>
      refine' tp_mk ?a ?l ?c ?k
      (case a => k_is)
      (case l => k_is)
      (case c => k_is)
      (case k => k_is)
    case l3 =>
      refine' tp_mk ?a ?l ?c ?k
      (case a => k_is)
      (case l => k_is)
      (case c => k_is)
      (case k => k_is)
    case l4 =>
      refine' tp_mk ?a ?l ?c ?k
      (case a => k_is)
      (case l => k_is)
      (case c => k_is)
      (case k => k_is)
    case l5 =>
      refine' tp_mk ?a ?l ?c ?k
      (case a => k_is)
      (case l => k_is)
      (case c => k_is)
      (case k => k_is)
    case l6 =>
      refine' tp_mk ?a ?l ?c ?k
      (case a => k_is)
      (case l => k_is)
      (case c => k_is)
      (case k => k_is)
    case l8 =>
      refine' tp_mk ?a ?l ?c ?k
      (case a => k_is)
      (case l => k_is)
      (case c => k_is)
      (case k => k_is)
    case l9 =>
      refine' tp_mk ?a ?l ?c ?k
      (case a => k_is)
      (case l => k_is)
      (case c => k_is)
      (case k => k_is)
    case l10 =>
      refine' tp_mk ?a ?l ?c ?k
      (case a => k_is)
      (case l => k_is)
      (case c => k_is)
      (case k => k_is)
    case l11 =>
      refine' tp_mk ?a ?l ?c ?k
      (case a => k_is)
      (case l => k_is)
      (case c => k_is)
      (case k => k_is)
    case l12 =>
      refine' tp_mk ?a ?l ?c ?k
      (case a => k_is)
      (case l => k_is)
      (case c => k_is)
      (case k => k_is)
    case l13 =>
      refine' tp_mk ?a ?l ?c ?k
      (case a => k_is)
      (case l => k_is)
      (case c => k_is)
      (case k => k_is)
    case l15 =>
      refine' tp_mk ?a ?l ?c ?k
      (case a => k_is)
      (case l => k_is)
      (case c => k_is)
      (case k => k_is)
    case l7 =>
      refine' tp_mk ?a ?l ?c ?k
      (case a => k_is)
      (case l => k_is)
      (case c => k_is)
      (case k => k_is)

