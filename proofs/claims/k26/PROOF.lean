import PyProof.Rows.All
import Wide.All
import OpenK.AllK
import Wide.FinOn
import HandS.ForMost
import HandS.Evl
import HandS.IsInst
import HandS.Walk
import HandS.Property
import HandS.MakeKwOnly
import HandS.SortInts
import HandS.DictComp
import HandS.OwnEq
import PyProof.InstNe
import HandS.Conv
import HandS.Zip
import KE.GoesEnum
import KE.GoesZip
import KE.OsSort
import HandS.Style
import HandS.Deep
import HandS.RaiseMore
import HandS.TupAny
import HandS.NoneIn
import HandS.TupMul
import HandS.Flow
import PySem.Challenge.RW_flippedpoints_k26_whole_trains_in_any_se
set_option Elab.async false
set_option linter.all false
set_option maxRecDepth 100000
set_option maxHeartbeats 4000000
/-! Data: what a Python value is worth, without addresses; readings over data alone -/
namespace DD
open PySem PySem.Spec PyProof.Rows L2

inductive D where
  | non | bl (b : Bool) | int (i : Int) | str (s : Str) | ty (n : String)
  | lst (xs : List D) | tup (xs : List D)
  | obj (C : Addr) (fs : List (Str × D))
  | dic (kvs : List (Key × D))
  | scr (K : PySem.W.Frag) (ns : List Int)
  | adr (a : Addr)

def Ex (H H' : Hp) : Prop := ∀ a o, H a = some o → H' a = some o
theorem Ex.refl (H : Hp) : Ex H H := fun _ _ h => h
theorem Ex.trans {H H1 H2 : Hp} (a : Ex H H1) (b : Ex H1 H2) : Ex H H2 := fun x o h => b x o (a x o h)
theorem Ex.new {H : Hp} {p : Addr} {o : HO} (h : H p = none) : Ex H (upd H p o) := fun a u e => by
  rw [upd_ne (ne_of_none e h)]
  exact e

mutual
def Is (H : Hp) : D → V → Prop
  | .non, v => v = .non
  | .bl b, v => v = .bl b
  | .int i, v => v = .int i
  | .str s, v => v = .str s
  | .ty n, v => v = .ty n
  | .lst ds, v => ∃ a xs, v = .ref a ∧ H a = some (.lst xs) ∧ IsA H ds xs
  | .tup ds, v => ∃ a xs, v = .ref a ∧ H a = some (.tup xs) ∧ IsA H ds xs
  | .obj C fs, v => ∃ a dx gs, v = .ref a ∧ H a = some (.ins C dx gs) ∧ IsF H fs gs
  | .dic kvs, v => ∃ a ks, v = .ref a ∧ H a = some (.dK ks) ∧ IsK H kvs ks
  | .scr K ns, v => ∃ a, v = .ref a ∧ SqL K H a (ns.map V.int)
  | .adr a, v => v = .ref a
def IsA (H : Hp) : List D → List V → Prop
  | [], xs => xs = []
  | d :: ds, xs => ∃ x r, xs = x :: r ∧ Is H d x ∧ IsA H ds r
def IsF (H : Hp) : List (Str × D) → List (Str × V) → Prop
  | [], xs => xs = []
  | (k, d) :: ds, xs => ∃ x r, xs = (k, x) :: r ∧ Is H d x ∧ IsF H ds r
def IsK (H : Hp) : List (Key × D) → List (Key × V) → Prop
  | [], xs => xs = []
  | (k, d) :: ds, xs => ∃ x r, xs = (k, x) :: r ∧ Is H d x ∧ IsK H ds r
end

theorem Ex.seq {K : PySem.W.Frag} {H H' : Hp} (e : Ex H H') {a : Addr} {xs : List V} (h : SqL K H a xs) : SqL K H' a xs := by
  rcases h with (h | ⟨o, h⟩) | h
  · exact .inl (.inl (e _ _ h))
  · exact .inl (.inr ⟨o, e _ _ h⟩)
  · exact .inr h
mutual
theorem Is.mono {H H' : Hp} (e : Ex H H') : ∀ (d : D) (v : V), Is H d v → Is H' d v
  | .non, _, h => h
  | .bl _, _, h => h
  | .int _, _, h => h
  | .str _, _, h => h
  | .ty _, _, h => h
  | .lst ds, _, ⟨a, xs, e1, e2, e3⟩ => ⟨a, xs, e1, e _ _ e2, IsA.mono e ds xs e3⟩
  | .tup ds, _, ⟨a, xs, e1, e2, e3⟩ => ⟨a, xs, e1, e _ _ e2, IsA.mono e ds xs e3⟩
  | .obj C fs, _, ⟨a, dx, gs, e1, e2, e3⟩ => ⟨a, dx, gs, e1, e _ _ e2, IsF.mono e fs gs e3⟩
  | .dic kvs, _, ⟨a, ks, e1, e2, e3⟩ => ⟨a, ks, e1, e _ _ e2, IsK.mono e kvs ks e3⟩
  | .scr K ns, _, ⟨a, e1, e2⟩ => ⟨a, e1, e.seq e2⟩
  | .adr _, _, h => h
theorem IsA.mono {H H' : Hp} (e : Ex H H') : ∀ (ds : List D) (xs : List V), IsA H ds xs → IsA H' ds xs
  | [], _, h => h
  | d :: ds, _, ⟨x, r, e1, e2, e3⟩ => ⟨x, r, e1, Is.mono e d x e2, IsA.mono e ds r e3⟩
theorem IsF.mono {H H' : Hp} (e : Ex H H') : ∀ (ds : List (Str × D)) (xs : List (Str × V)), IsF H ds xs → IsF H' ds xs
  | [], _, h => h
  | (k, d) :: ds, _, ⟨x, r, e1, e2, e3⟩ => ⟨x, r, e1, Is.mono e d x e2, IsF.mono e ds r e3⟩
theorem IsK.mono {H H' : Hp} (e : Ex H H') : ∀ (ds : List (Key × D)) (xs : List (Key × V)), IsK H ds xs → IsK H' ds xs
  | [], _, h => h
  | (k, d) :: ds, _, ⟨x, r, e1, e2, e3⟩ => ⟨x, r, e1, Is.mono e d x e2, IsK.mono e ds r e3⟩
end

theorem IsA.length {H : Hp} : ∀ {ds : List D} {xs : List V}, IsA H ds xs → xs.length = ds.length
  | [], _, h => by cases h; rfl
  | d :: ds, _, ⟨x, r, e1, e2, e3⟩ => by subst e1; simp [IsA.length e3]
theorem IsA.get {H : Hp} : ∀ {ds : List D} {xs : List V} {i : Nat} {d : D}, IsA H ds xs → ds[i]? = some d → ∃ x, xs[i]? = some x ∧ Is H d x
  | [], _, _, _, _, h => by simp at h
  | d :: ds, _, 0, _, ⟨x, r, e1, e2, e3⟩, h => by subst e1; simp at h; subst h; exact ⟨x, rfl, e2⟩
  | d :: ds, _, i + 1, _, ⟨x, r, e1, e2, e3⟩, h => by subst e1; simp at h ⊢; exact IsA.get e3 h
theorem IsA.at {H : Hp} : ∀ {ds : List D} {xs : List V} {i : Nat} {x : V}, IsA H ds xs → xs[i]? = some x → ∃ d, ds[i]? = some d ∧ Is H d x
  | [], _, _, _, h, h2 => by cases h; simp at h2
  | d :: ds, _, 0, _, ⟨x, r, e1, e2, e3⟩, h => by subst e1; simp at h; subst h; exact ⟨d, rfl, e2⟩
  | d :: ds, _, i + 1, _, ⟨x, r, e1, e2, e3⟩, h => by subst e1; simp at h ⊢; exact IsA.at e3 h
theorem IsA.append {H : Hp} : ∀ {ds es : List D} {xs ys : List V}, IsA H ds xs → IsA H es ys → IsA H (ds ++ es) (xs ++ ys)
  | [], _, _, _, h, h2 => by cases h; exact h2
  | d :: ds, _, _, _, ⟨x, r, e1, e2, e3⟩, h2 => by subst e1; exact ⟨x, _, rfl, e2, IsA.append e3 h2⟩
theorem IsA.one {H : Hp} {d : D} {v : V} (h : Is H d v) : IsA H [d] [v] := ⟨v, [], rfl, h, rfl⟩
theorem IsA.set {H : Hp} : ∀ {ds : List D} {xs : List V} {i : Nat} {d : D} {x : V}, IsA H ds xs → Is H d x → IsA H (ds.set i d) (xs.set i x)
  | [], _, _, _, _, h, h2 => by cases h; exact rfl
  | d :: ds, _, 0, _, _, ⟨x, r, e1, e2, e3⟩, h => by subst e1; exact ⟨_, _, rfl, h, e3⟩
  | d :: ds, _, i + 1, _, _, ⟨x, r, e1, e2, e3⟩, h => by subst e1; exact ⟨_, _, rfl, e2, IsA.set e3 h⟩
theorem IsA.take {H : Hp} : ∀ {ds : List D} {xs : List V} (n : Nat), IsA H ds xs → IsA H (ds.take n) (xs.take n)
  | [], _, n, h => by cases h; cases n <;> exact rfl
  | d :: ds, _, 0, _ => rfl
  | d :: ds, _, n + 1, ⟨x, r, e1, e2, e3⟩ => by subst e1; exact ⟨_, _, rfl, e2, IsA.take n e3⟩
theorem IsA.drop {H : Hp} : ∀ {ds : List D} {xs : List V} (n : Nat), IsA H ds xs → IsA H (ds.drop n) (xs.drop n)
  | [], _, n, h => by cases h; cases n <;> exact rfl
  | d :: ds, _, 0, h => h
  | d :: ds, _, n + 1, ⟨x, r, e1, e2, e3⟩ => by subst e1; exact IsA.drop n e3
theorem IsA.ints {H : Hp} : ∀ {ns : List Int} {xs : List V}, IsA H (ns.map D.int) xs → xs = ns.map V.int
  | [], _, h => h
  | n :: ns, _, ⟨x, r, e1, e2, e3⟩ => by subst e1; rw [show x = .int n from e2, IsA.ints e3]; rfl
theorem IsA.bls {H : Hp} : ∀ {ns : List Bool} {xs : List V}, IsA H (ns.map D.bl) xs → xs = ns.map V.bl
  | [], _, h => h
  | n :: ns, _, ⟨x, r, e1, e2, e3⟩ => by subst e1; rw [show x = .bl n from e2, IsA.bls e3]; rfl
theorem IsA.of_ints {H : Hp} : ∀ {ns : List Int}, IsA H (ns.map D.int) (ns.map V.int)
  | [] => rfl
  | n :: ns => ⟨_, _, rfl, rfl, IsA.of_ints⟩

/-- flat data -/
def sc : D → Option V
  | .non => some .non
  | .bl b => some (.bl b)
  | .int i => some (.int i)
  | .str s => some (.str s)
  | .ty n => some (.ty n)
  | _ => none
theorem Is.sc {H : Hp} : ∀ {d : D} {v u : V}, DD.sc d = some u → Is H d v → v = u
  | .non, _, _, h, e => by cases h; exact e
  | .bl _, _, _, h, e => by cases h; exact e
  | .int _, _, _, h, e => by cases h; exact e
  | .str _, _, _, h, e => by cases h; exact e
  | .ty _, _, _, h, e => by cases h; exact e
theorem Is.of_sc {H : Hp} : ∀ {d : D} {u : V}, DD.sc d = some u → Is H d u
  | .non, _, h => by cases h; exact rfl
  | .bl _, _, h => by cases h; exact rfl
  | .int _, _, h => by cases h; exact rfl
  | .str _, _, h => by cases h; exact rfl
  | .ty _, _, h => by cases h; exact rfl

/-! ### slots -/
inductive Own where
  | lst (ds : List D)
  | dic (kvs : List (Key × D))
  | ins (C : Addr) (fs : List (Str × D))
  | pot
inductive Slot where
  | un
  | val (d : D)
  | own (loc : Bool) (o : Own)
abbrev Rho := List Slot
def Slot.isOwn : Slot → Bool
  | .own _ _ => true
  | _ => false
structure Base where
  H : Hp
  G : Hp
  W : List Addr
  X : Addr := 0
/-- two numbers to draw from -/
def PotAt (H : Hp) (l : Addr) : Prop := ∃ a b : Int, H l = some (.lst [.int a, .int b]) ∧ 0 ≤ a ∧ 0 ≤ b ∧ b < 4294967296
def OwnOk (B : Base) (G H : Hp) (l : Addr) : Own → Prop
  | .pot => PotAt H l
  | .lst ds => ∃ xs, H l = some (.lst xs) ∧ IsA G ds xs
  | .dic kvs => ∃ ks, H l = some (.dK ks) ∧ IsK G kvs ks
  | .ins C fs => l = B.X ∧ ∃ dx gs, H l = some (.ins C dx gs) ∧ IsF G fs gs
def SlotOk (B : Base) (G H : Hp) (s : Slot) (v : Option V) : Prop :=
  match s with
  | .un => True
  | .val d => ∃ x, v = some x ∧ Is G d x
  | .own loc o => ∃ l, v = some (.ref l) ∧ G l = none ∧ (if loc = true then B.H l = none else l ∈ B.W) ∧ OwnOk B G H l o
/-- the state: the slots' data, the ghost G of what stands still -/
structure Sta (B : Base) (σ : L2.St) (ρ : Rho) (G H : Hp) : Prop where
  len : σ.length = ρ.length
  ex : Ex G H
  fr : ∀ a o, B.H a = some o → a ∉ B.W → H a = some o
  kn : ∀ a, H a = none → B.H a = none
  nw : ∀ a o, G a = some o → B.G a = some o ∨ B.H a = none
  bg : Ex B.G G
  bx : Ex B.G B.H
  pot : ∀ l ∈ B.W, PotAt H l ∧ ∃ u, B.H l = some u
  env : ∀ (i : Nat) (s : Slot) (v : Option V), ρ[i]? = some s → σ[i]? = some v → SlotOk B G H s v
  dist : ∀ (i j : Nat) (l1 l2 : Bool) (o1 o2 : Own), i ≠ j → ρ[i]? = some (.own l1 o1) → ρ[j]? = some (.own l2 o2) → σ[i]? ≠ σ[j]?

theorem OwnOk.known {B : Base} {G H : Hp} {l : Addr} : ∀ {o : Own}, OwnOk B G H l o → ∃ u, H l = some u
  | .pot, ⟨_, _, e, _⟩ => ⟨_, e⟩
  | .lst _, ⟨_, e, _⟩ => ⟨_, e⟩
  | .dic _, ⟨_, e, _⟩ => ⟨_, e⟩
  | .ins _ _, ⟨_, _, _, e, _⟩ => ⟨_, e⟩
theorem OwnOk.mono {B : Base} {G H G' H' : Hp} {l : Addr} (e : Ex G G') (k : ∀ o, H l = some o → H' l = some o) : ∀ {o : Own}, OwnOk B G H l o → OwnOk B G' H' l o
  | .pot, ⟨_, _, e, r⟩ => ⟨_, _, k _ e, r⟩
  | .lst _, ⟨_, e1, e2⟩ => ⟨_, k _ e1, IsA.mono e _ _ e2⟩
  | .dic _, ⟨_, e1, e2⟩ => ⟨_, k _ e1, IsK.mono e _ _ e2⟩
  | .ins _ _, ⟨z, _, _, e1, e2⟩ => ⟨z, _, _, k _ e1, IsF.mono e _ _ e2⟩

/-- the slots of an own thing aren't in the ghost -/
theorem Sta.ownAt {B : Base} {σ : L2.St} {ρ : Rho} {G H : Hp} (S : Sta B σ ρ G H) {i : Nat} {loc : Bool} {o : Own} (h : ρ[i]? = some (.own loc o)) :
    ∃ l, σ[i]? = some (some (.ref l)) ∧ G l = none ∧ (if loc = true then B.H l = none else l ∈ B.W) ∧ OwnOk B G H l o := by
  have hi : i < ρ.length := (List.getElem?_eq_some_iff.mp h).1
  have hs : i < σ.length := S.len ▸ hi
  have e : σ[i]? = some (σ[i]'hs) := List.getElem?_eq_getElem hs
  obtain ⟨l, e1, e2⟩ := S.env i _ _ h e
  exact ⟨l, by rw [e, e1], e2⟩
theorem Sta.valAt {B : Base} {σ : L2.St} {ρ : Rho} {G H : Hp} (S : Sta B σ ρ G H) {i : Nat} {d : D} (h : ρ[i]? = some (.val d)) : ∃ x, σ[i]? = some (some x) ∧ Is G d x := by
  have hi : i < ρ.length := (List.getElem?_eq_some_iff.mp h).1
  have hs : i < σ.length := S.len ▸ hi
  have e : σ[i]? = some (σ[i]'hs) := List.getElem?_eq_getElem hs
  obtain ⟨x, e1, e2⟩ := S.env i _ _ h e
  exact ⟨x, by rw [e, e1], e2⟩

/-- the heap grows by new objects, the ghost by some of them -/
structure Grow (G H G' H' : Hp) : Prop where
  g : Ex G G'
  h : Ex H H'
  x : Ex G' H'
  n : ∀ a o, G' a = some o → G a = some o ∨ H a = none
theorem Grow.refl {G H : Hp} (x : Ex G H) : Grow G H G H := ⟨Ex.refl _, Ex.refl _, x, fun _ _ h => .inl h⟩
theorem Grow.trans {G H G1 H1 G2 H2 : Hp} (a : Grow G H G1 H1) (b : Grow G1 H1 G2 H2) : Grow G H G2 H2 :=
  ⟨a.g.trans b.g, a.h.trans b.h, b.x, fun c o e => by
    rcases b.n c o e with q | q
    · exact a.n c o q
    · right
      cases r : H c with
      | none => rfl
      | some u => rw [a.h c u r] at q; cases q⟩
/-- a new object, put into the ghost too -/
theorem Grow.new {G H : Hp} {p : Addr} {o : HO} (x : Ex G H) (hp : H p = none) : Grow G H (upd G p o) (upd H p o) := by
  have gp : G p = none := by
    cases r : G p with
    | none => rfl
    | some u => rw [x p u r] at hp; cases hp
  refine ⟨Ex.new gp, Ex.new hp, fun a u e => ?_, fun a u e => ?_⟩
  · by_cases q : a = p
    · subst q; rw [upd_same] at e ⊢; exact e
    · rw [upd_ne q] at e ⊢; exact x a u e
  · by_cases q : a = p
    · subst q; exact .inr hp
    · rw [upd_ne q] at e; exact .inl e
/-- a new object, not in the ghost -/
theorem Grow.own {G H : Hp} {p : Addr} {o : HO} (x : Ex G H) (hp : H p = none) : Grow G H G (upd H p o) :=
  ⟨Ex.refl _, Ex.new hp, x.trans (Ex.new hp), fun a u e => .inl e⟩
theorem Sta.grow {B : Base} {σ : L2.St} {ρ : Rho} {G H G' H' : Hp} (S : Sta B σ ρ G H) (g : Grow G H G' H') : Sta B σ ρ G' H' := by
  refine ⟨S.len, g.x, fun a o e n => g.h a o (S.fr a o e n), fun a e => S.kn a ?_, fun a o e => ?_, S.bg.trans g.g, S.bx, fun l hl => ?_, fun i s v h1 h2 => ?_, S.dist⟩
  · cases r : H a with
    | none => rfl
    | some u => rw [g.h a u r] at e; cases e
  · rcases g.n a o e with q | q
    · exact S.nw a o q
    · exact .inr (S.kn a q)
  · obtain ⟨⟨a, b, e, r⟩, z⟩ := S.pot l hl
    exact ⟨⟨a, b, g.h _ _ e, r⟩, z⟩
  · have k := S.env i s v h1 h2
    cases s with
    | un => trivial
    | val d =>
      obtain ⟨x, e1, e2⟩ := k
      exact ⟨x, e1, Is.mono g.g _ _ e2⟩
    | own loc o =>
      obtain ⟨l, e1, e2, e3, e4⟩ := k
      refine ⟨l, e1, ?_, e3, e4.mono g.g fun o q => g.h l o q⟩
      cases r : G' l with
      | none => rfl
      | some u =>
        rcases g.n l u r with q | q
        · rw [e2] at q; cases q
        · obtain ⟨w, hw⟩ := e4.known
          rw [hw] at q; cases q
/-- what a body leaves: seen from its entry -/
structure Fin (B : Base) (G H : Hp) : Prop where
  ex : Ex G H
  fr : ∀ a o, B.H a = some o → a ∉ B.W → H a = some o
  nw : ∀ a o, G a = some o → B.G a = some o ∨ B.H a = none
  bg : Ex B.G G
  pot : ∀ l ∈ B.W, PotAt H l
theorem Sta.fin {B : Base} {σ : L2.St} {ρ : Rho} {G H : Hp} (S : Sta B σ ρ G H) : Fin B G H := ⟨S.ex, S.fr, S.nw, S.bg, fun l hl => (S.pot l hl).1⟩
/-- the heap behind a call that draws from the pot at l -/
structure GrowP (l : Addr) (G H G' H' : Hp) : Prop where
  g : Ex G G'
  h : ∀ a o, H a = some o → a ≠ l → H' a = some o
  x : Ex G' H'
  n : ∀ a o, G' a = some o → G a = some o ∨ H a = none
  p : PotAt H' l
theorem Sta.growP {B : Base} {σ : L2.St} {ρ : Rho} {G H G' H' : Hp} {l : Addr} (S : Sta B σ ρ G H) (g : GrowP l G H G' H') {i : Nat} {loc : Bool} (hi : ρ[i]? = some (.own loc .pot)) (hl : σ[i]? = some (some (.ref l))) : Sta B σ ρ G' H' := by
  obtain ⟨l', e1, gl, ll, pl⟩ := S.ownAt hi
  have el : l' = l := by rw [hl] at e1; cases e1; rfl
  subst el
  have hw : loc = true ∧ B.H l' = none ∨ l' ∈ B.W := by
    cases loc with
    | true => exact .inl ⟨rfl, ll⟩
    | false => exact .inr ll
  refine ⟨S.len, g.x, fun a o e n => g.h a o (S.fr a o e n) ?_, fun a e => S.kn a ?_, fun a o e => ?_, S.bg.trans g.g, S.bx, fun m hm => ?_, fun j s v h1 h2 => ?_, S.dist⟩
  · rintro rfl
    rcases hw with ⟨_, z⟩ | z
    · rw [z] at e; cases e
    · exact n z
  · cases r : H a with
    | none => rfl
    | some u =>
      by_cases q : a = l'
      · subst q
        obtain ⟨x, y, z, _⟩ := g.p
        rw [z] at e; cases e
      · rw [g.h a u r q] at e; cases e
  · rcases g.n a o e with q | q
    · exact S.nw a o q
    · exact .inr (S.kn a q)
  · refine ⟨?_, (S.pot m hm).2⟩
    by_cases q : m = l'
    · subst q; exact g.p
    · obtain ⟨⟨a, b, e, r⟩, _⟩ := S.pot m hm
      exact ⟨a, b, g.h _ _ e q, r⟩
  · have k := S.env j s v h1 h2
    cases s with
    | un => trivial
    | val d =>
      obtain ⟨x, e1, e2⟩ := k
      exact ⟨x, e1, Is.mono g.g _ _ e2⟩
    | own lc o =>
      obtain ⟨m, f1, f2, f3, f4⟩ := k
      refine ⟨m, f1, ?_, f3, ?_⟩
      · cases r : G' m with
        | none => rfl
        | some u =>
          rcases g.n m u r with q | q
          · rw [f2] at q; cases q
          · obtain ⟨w, hw⟩ := f4.known
            rw [hw] at q; cases q
      · by_cases q : m = l'
        · have ji : j = i := by
            by_cases z : j = i
            · exact z
            · exact absurd (by rw [h2, f1, hl, q]) (S.dist j i _ _ _ _ z h1 hi)
          subst ji
          rw [hi] at h1
          cases h1
          rw [q]; exact g.p
        · exact f4.mono g.g fun o z => g.h m o z q
/-- a slot gets a value -/
theorem Sta.set {B : Base} {σ : L2.St} {ρ : Rho} {G H : Hp} (S : Sta B σ ρ G H) {i : Nat} {d : D} {v : V} (h : Is G d v) : Sta B (σ.set i (some v)) (ρ.set i (.val d)) G H := by
  refine ⟨by rw [List.length_set, List.length_set]; exact S.len, S.ex, S.fr, S.kn, S.nw, S.bg, S.bx, S.pot, fun j s w h1 h2 => ?_, fun j k l1 l2 o1 o2 jk h1 h2 => ?_⟩
  · by_cases q : i = j
    · subst q
      rw [List.getElem?_set] at h1 h2
      simp only [if_true] at h1 h2
      split at h1
      · cases h1
        split at h2
        · cases h2; exact ⟨v, rfl, h⟩
        · cases h2
      · cases h1
    · rw [List.getElem?_set_ne q] at h1 h2
      exact S.env j s w h1 h2
  · have nj : i ≠ j := fun q => by
      subst q
      rw [List.getElem?_set] at h1
      simp only [if_true] at h1
      split at h1 <;> cases h1
    have nk : i ≠ k := fun q => by
      subst q
      rw [List.getElem?_set] at h2
      simp only [if_true] at h2
      split at h2 <;> cases h2
    rw [List.getElem?_set_ne nj] at h1
    rw [List.getElem?_set_ne nk] at h2
    rw [List.getElem?_set_ne nj, List.getElem?_set_ne nk]
    exact S.dist j k l1 l2 o1 o2 jk h1 h2
/-- a slot gets an own thing that is new -/
theorem Sta.setOwn {B : Base} {σ : L2.St} {ρ : Rho} {G H : Hp} (S : Sta B σ ρ G H) {i : Nat} {l : Addr} {o : Own} (gl : G l = none) (bl : B.H l = none) (ho : OwnOk B G H l o)
    (nw : ∀ (j : Nat) (lc : Bool) (u : Own), ρ[j]? = some (.own lc u) → σ[j]? ≠ some (some (.ref l))) : Sta B (σ.set i (some (.ref l))) (ρ.set i (.own true o)) G H := by
  refine ⟨by rw [List.length_set, List.length_set]; exact S.len, S.ex, S.fr, S.kn, S.nw, S.bg, S.bx, S.pot, fun j s w h1 h2 => ?_, fun j k l1 l2 o1 o2 jk h1 h2 => ?_⟩
  · by_cases q : i = j
    · subst q
      rw [List.getElem?_set] at h1 h2
      simp only [if_true] at h1 h2
      split at h1
      · cases h1
        split at h2
        · cases h2; exact ⟨l, rfl, gl, bl, ho⟩
        · cases h2
      · cases h1
    · rw [List.getElem?_set_ne q] at h1 h2
      exact S.env j s w h1 h2
  · by_cases qj : i = j
    · have qk : i ≠ k := fun q => jk (qj.symm.trans q)
      subst qj
      rw [List.getElem?_set_ne qk] at h2
      rw [List.getElem?_set_ne qk]
      have hi : i < σ.length := by
        rw [S.len]
        rw [List.getElem?_set] at h1
        simp only [if_true] at h1
        split at h1
        · assumption
        · cases h1
      rw [List.getElem?_set_self hi]
      exact fun z => nw k l2 o2 h2 z.symm
    · by_cases qk : i = k
      · subst qk
        rw [List.getElem?_set_ne qj] at h1
        rw [List.getElem?_set_ne qj]
        have hi : i < σ.length := by
          rw [S.len]
          rw [List.getElem?_set] at h2
          simp only [if_true] at h2
          split at h2
          · assumption
          · cases h2
        rw [List.getElem?_set_self hi]
        exact nw j l1 o1 h1
      · rw [List.getElem?_set_ne qj] at h1
        rw [List.getElem?_set_ne qk] at h2
        rw [List.getElem?_set_ne qj, List.getElem?_set_ne qk]
        exact S.dist j k l1 l2 o1 o2 jk h1 h2
/-- an own thing changes -/
theorem Sta.upd {B : Base} {σ : L2.St} {ρ : Rho} {G H : Hp} (S : Sta B σ ρ G H) {i : Nat} {l : Addr} {o o' : Own} {u : HO} (hi : ρ[i]? = some (.own true o)) (hl : σ[i]? = some (some (.ref l))) (ho : OwnOk B G (L2.upd H l u) l o') :
    Sta B σ (ρ.set i (.own true o')) G (L2.upd H l u) := by
  obtain ⟨l', e1, gl, ll, pl⟩ := S.ownAt hi
  have el : l' = l := by rw [hl] at e1; cases e1; rfl
  subst el
  have bl : B.H l' = none := ll
  refine ⟨by rw [List.length_set]; exact S.len, fun a o e => ?_, fun a o e n => ?_, fun a e => S.kn a ?_, S.nw, S.bg, S.bx, fun m hm => ?_, fun j s w h1 h2 => ?_, fun j k l1 l2 o1 o2 jk h1 h2 => ?_⟩
  · have q : a ≠ l' := by rintro rfl; rw [gl] at e; cases e
    rw [upd_ne q]; exact S.ex a o e
  · have q : a ≠ l' := by rintro rfl; rw [bl] at e; cases e
    rw [upd_ne q]; exact S.fr a o e n
  · by_cases q : a = l'
    · subst q; rw [upd_same] at e; cases e
    · rw [upd_ne q] at e; exact e
  · obtain ⟨⟨a, b, e, r⟩, z, hz⟩ := S.pot m hm
    have q : m ≠ l' := by
      rintro rfl
      rw [bl] at hz
      cases hz
    exact ⟨⟨a, b, by rw [upd_ne q]; exact e, r⟩, z, hz⟩
  · by_cases q : i = j
    · subst q
      rw [List.getElem?_set] at h1
      simp only [if_true] at h1
      split at h1
      · cases h1
        rw [hl] at h2
        cases h2
        exact ⟨l', rfl, gl, bl, ho⟩
      · cases h1
    · rw [List.getElem?_set_ne q] at h1
      have k := S.env j s w h1 h2
      cases s with
      | un => trivial
      | val d => exact k
      | own lc o2 =>
        obtain ⟨m, f1, f2, f3, f4⟩ := k
        have nm : m ≠ l' := by
          rintro rfl
          exact S.dist i j _ _ _ _ q hi h1 (by rw [hl, h2, f1])
        exact ⟨m, f1, f2, f3, f4.mono (Ex.refl G) fun o z => by rw [upd_ne nm]; exact z⟩
  · have c1 : ∃ la oa, ρ[j]? = some (.own la oa) := by
      by_cases q : i = j
      · subst q; exact ⟨_, _, hi⟩
      · rw [List.getElem?_set_ne q] at h1; exact ⟨_, _, h1⟩
    have c2 : ∃ la oa, ρ[k]? = some (.own la oa) := by
      by_cases q : i = k
      · subst q; exact ⟨_, _, hi⟩
      · rw [List.getElem?_set_ne q] at h2; exact ⟨_, _, h2⟩
    obtain ⟨_, _, c1⟩ := c1
    obtain ⟨_, _, c2⟩ := c2
    exact S.dist j k _ _ _ _ jk c1 c2
/-- an own list is shared from here on -/
theorem Sta.share {B : Base} {σ : L2.St} {ρ : Rho} {G H : Hp} (S : Sta B σ ρ G H) {i : Nat} {ds : List D} (hi : ρ[i]? = some (.own true (.lst ds))) :
    ∃ l G', σ[i]? = some (some (.ref l)) ∧ Ex G G' ∧ Is G' (.lst ds) (.ref l) ∧ Sta B σ (ρ.set i (.val (.lst ds))) G' H := by
  obtain ⟨l, e1, gl, bl, xs, hl, hx⟩ := S.ownAt hi
  have bl : B.H l = none := bl
  have ex : Ex G (L2.upd G l (.lst xs)) := Ex.new gl
  have iv : Is (L2.upd G l (.lst xs)) (.lst ds) (.ref l) := ⟨l, xs, rfl, upd_same, IsA.mono ex _ _ hx⟩
  refine ⟨l, _, e1, ex, iv, by rw [List.length_set]; exact S.len, fun a o e => ?_, S.fr, S.kn, fun a o e => ?_, S.bg.trans ex, S.bx, S.pot, fun j s w h1 h2 => ?_, fun j k l1 l2 o1 o2 jk h1 h2 => ?_⟩
  · by_cases q : a = l
    · subst q; rw [upd_same] at e; rw [hl]; exact e
    · rw [upd_ne q] at e; exact S.ex a o e
  · by_cases q : a = l
    · subst q; exact .inr bl
    · rw [upd_ne q] at e; exact S.nw a o e
  · by_cases q : i = j
    · subst q
      rw [List.getElem?_set] at h1
      simp only [if_true] at h1
      split at h1
      · cases h1
        rw [e1] at h2
        cases h2
        exact ⟨_, rfl, iv⟩
      · cases h1
    · rw [List.getElem?_set_ne q] at h1
      have k := S.env j s w h1 h2
      cases s with
      | un => trivial
      | val d =>
        obtain ⟨x, f1, f2⟩ := k
        exact ⟨x, f1, Is.mono ex _ _ f2⟩
      | own lc o2 =>
        obtain ⟨m, f1, f2, f3, f4⟩ := k
        have nm : m ≠ l := by
          rintro rfl
          exact S.dist i j _ _ _ _ q hi h1 (by rw [e1, h2, f1])
        exact ⟨m, f1, by rw [upd_ne nm]; exact f2, f3, f4.mono ex fun o z => z⟩
  · have nj : i ≠ j := fun q => by
      subst q
      rw [List.getElem?_set] at h1
      simp only [if_true] at h1
      split at h1 <;> cases h1
    have nk : i ≠ k := fun q => by
      subst q
      rw [List.getElem?_set] at h2
      simp only [if_true] at h2
      split at h2 <;> cases h2
    rw [List.getElem?_set_ne nj] at h1
    rw [List.getElem?_set_ne nk] at h2
    exact S.dist j k l1 l2 o1 o2 jk h1 h2
end DD

namespace DD
open PySem PySem.Spec PyProof.Rows L2

/-! ### the least reading of an expression -/
def wE (X : Cx) (e : Expr) : TE := fun σ H R => ∀ pins s, Inv X pins σ H s → wpAny (model X.prog X.w) X.A (eval e X.env) (EP X pins σ R) X.xe s
theorem pe_w {X : Cx} {e : Expr} : PE X e (wE X e) := ⟨fun pins s σ H R I h => h pins s I⟩
theorem wE_of {X : Cx} {e : Expr} {t : TE} {σ : L2.St} {H : Hp} {R : VK} (p : PE X e t) (h : t σ H R) : wE X e σ H R := fun pins s I => p.run pins s σ H R I h
def wT (X : Cx) (e : Expr) : TT := fun σ H R => ∀ pins s, Inv X pins σ H s → wpAny (model X.prog X.w) X.A (isTrue e X.env (eval e X.env)) (TP X pins σ R) X.xe s
theorem pt_w {X : Cx} {e : Expr} : PT X e (wT X e) := ⟨fun pins s σ H R I h => h pins s I⟩
theorem wT_of {X : Cx} {e : Expr} {t : TT} {σ : L2.St} {H : Hp} {R : Bool → Hp → Prop} (p : PT X e t) (h : t σ H R) : wT X e σ H R := fun pins s I => p.run pins s σ H R I h
def wA (X : Cx) (es : List Expr) : TA := fun σ H R => ∀ pos pins s, Inv X pins σ H s → wpAny (model X.prog X.w) X.A (spliced (backTo pos (starEach es X.env))) (AP X pins σ R) X.xe s
theorem pa_w {X : Cx} {es : List Expr} : PA X es (wA X es) := ⟨fun pos pins s σ H R I h => h pos pins s I⟩
theorem wA_of {X : Cx} {e : List Expr} {t : TA} {σ : L2.St} {H : Hp} {R : List V → Hp → Prop} (p : PA X e t) (h : t σ H R) : wA X e σ H R := fun pos pins s I => p.run pos pins s σ H R I h
/-- whatever rule serves -/
def rAny (X : Cx) (f : Value → Value → Sem Value) : R2 := fun x y H Q => ∃ r, OpR X f r ∧ r x y H Q
theorem op_any {X : Cx} {f : Value → Value → Sem Value} : OpR X f (rAny X f) := fun pins s σ H x y v u Q I rx ry ⟨r, hr, h⟩ => hr pins s σ H x y v u Q I rx ry h
def rAnyU (X : Cx) (f : Value → Sem Value) : V → Hp → VK → Prop := fun x H Q => ∃ r, UnR X f r ∧ r x H Q
theorem un_any {X : Cx} {f : Value → Sem Value} : UnR X f (rAnyU X f) := fun pins s σ H x v Q I rx ⟨r, hr, h⟩ => hr pins s σ H x v Q I rx h
def rAnyC (X : Cx) (f : Value) : List V → Hp → VK → Prop := fun x H Q => ∃ r, CallR X f r ∧ r x H Q
theorem call_any {X : Cx} {f : Value} : CallR X f (rAnyC X f) := fun pins s σ H x v Q I rx ⟨r, hr, h⟩ => hr pins s σ H x v Q I rx h
def rAnyI (X : Cx) : R2 := fun x y H Q => ∃ r, IxR X r ∧ r x y H Q
theorem ix_any {X : Cx} : IxR X (rAnyI X) := fun va sl pins s σ H x y v u Q I rx ry ⟨r, hr, h⟩ => hr va sl pins s σ H x y v u Q I rx ry h
def rAnyS (X : Cx) : V → Option Int → Option Int → Hp → VK → Prop := fun x lo hi H Q => ∃ r, SlR X r ∧ r x lo hi H Q
theorem sl_any {X : Cx} : SlR X (rAnyS X) := fun pins s σ H x v vl vu lo hi sl Q I rx hs pl pu ⟨r, hr, h⟩ => hr pins s σ H x v vl vu lo hi sl Q I rx hs pl pu h

/-! ### readings over data. p: pure (no own thing changes), g: the value stands in the ghost -/
def W (p g : Bool) (X : Cx) (e : Expr) (ρ : Rho) (Q : D → Rho → Prop) : Prop :=
  ∀ (B : Base) (σ : L2.St) (G H : Hp), Sta B σ ρ G H → ∀ R : VK,
    (∀ v d ρ' G' H', Q d ρ' → Sta B σ ρ' G' H' → Ex G G' → (p = true → ρ' = ρ ∧ Grow G H G' H') → Is (if g = true then G' else H') d v → R v H') → wE X e σ H R
/-- the same of any reading -/
def WX (p g : Bool) (t : TE) (ρ : Rho) (Q : D → Rho → Prop) : Prop :=
  ∀ (B : Base) (σ : L2.St) (G H : Hp), Sta B σ ρ G H → ∀ R : VK,
    (∀ v d ρ' G' H', Q d ρ' → Sta B σ ρ' G' H' → Ex G G' → (p = true → ρ' = ρ ∧ Grow G H G' H') → Is (if g = true then G' else H') d v → R v H') → t σ H R
theorem WX.w {p g : Bool} {X : Cx} {e : Expr} {t : TE} {ρ : Rho} {Q : D → Rho → Prop} (pe : PE X e t) (h : WX p g t ρ Q) : W p g X e ρ Q := fun B σ G H S R r => wE_of pe (h B σ G H S R r)
def WT (p : Bool) (X : Cx) (e : Expr) (ρ : Rho) (Q : Bool → Rho → Prop) : Prop :=
  ∀ (B : Base) (σ : L2.St) (G H : Hp), Sta B σ ρ G H → ∀ R : Bool → Hp → Prop,
    (∀ b ρ' G' H', Q b ρ' → Sta B σ ρ' G' H' → Ex G G' → (p = true → ρ' = ρ ∧ Grow G H G' H') → R b H') → wT X e σ H R
def WA (p g : Bool) (X : Cx) (es : List Expr) (ρ : Rho) (Q : List D → Rho → Prop) : Prop :=
  ∀ (B : Base) (σ : L2.St) (G H : Hp), Sta B σ ρ G H → ∀ R : List V → Hp → Prop,
    (∀ vs ds ρ' G' H', Q ds ρ' → Sta B σ ρ' G' H' → Ex G G' → (p = true → ρ' = ρ ∧ Grow G H G' H') → IsA (if g = true then G' else H') ds vs → R vs H') → wA X es σ H R

section
variable {p g : Bool} {X : Cx} {ρ : Rho} {Q : D → Rho → Prop} {QT : Bool → Rho → Prop} {QA : List D → Rho → Prop}
theorem is_h {B : Base} {σ : L2.St} {G H : Hp} {d : D} {v : V} (S : Sta B σ ρ G H) (h : Is G d v) : Is (if g = true then G else H) d v := by
  cases g with
  | true => exact h
  | false => exact Is.mono S.ex d v h
theorem is_g {B : Base} {σ : L2.St} {G H : Hp} {d : D} {v : V} (S : Sta B σ ρ G H) (h : Is (if g = true then G else H) d v) : Is H d v := by
  cases g with
  | true => exact Is.mono S.ex d v h
  | false => exact h
/-- pure is as good as any; what stands in the ghost stands -/
theorem W.imp {e : Expr} {Q' : D → Rho → Prop} (h : W p g X e ρ Q) (k : ∀ d ρ', Q d ρ' → Q' d ρ') : W p g X e ρ Q' := fun B σ G H S R r =>
  h B σ G H S R fun v d ρ' G' H' q S' x pu i => r v d ρ' G' H' (k d ρ' q) S' x pu i
theorem W.un {e : Expr} (h : W true g X e ρ Q) : W p g X e ρ Q := fun B σ G H S R r =>
  h B σ G H S R fun v d ρ' G' H' q S' x pu i => r v d ρ' G' H' q S' x (fun _ => pu rfl) i
theorem W.rd {e : Expr} (h : W p true X e ρ Q) : W p g X e ρ Q := fun B σ G H S R r =>
  h B σ G H S R fun v d ρ' G' H' q S' x pu i => r v d ρ' G' H' q S' x pu (is_h S' i)
/-- flat values stand in the ghost -/
theorem W.sc {e : Expr} (h : W p false X e ρ fun d ρ' => (DD.sc d).isSome = true ∧ Q d ρ') : W p g X e ρ Q := fun B σ G H S R r =>
  h B σ G H S R fun v d ρ' G' H' q S' x pu i => r v d ρ' G' H' q.2 S' x pu (by
    obtain ⟨u, hu⟩ := Option.isSome_iff_exists.mp q.1
    have e : v = u := Is.sc hu i
    subst e
    exact Is.of_sc hu)
theorem w_name {i : Nat} {x : Str} {pos : Pos} {d : D} (hN : X.N[i]? = some x) (hv : Vis X.env.scope x) (hd : (x == ("__debug__" : Str)) = false) (hcd : (x == ("__classdict__" : Str)) = false)
    (hr : ρ[i]? = some (.val d)) (q : Q d ρ) : W p g X (.Name x pos) ρ Q := fun B σ G H S R r => by
  obtain ⟨v, e, h⟩ := S.valAt hr
  exact wE_of (pe_var hN hv hd hcd) ⟨v, e, r v d ρ G H q S (Ex.refl G) (fun _ => ⟨rfl, Grow.refl S.ex⟩) (is_h S h)⟩
/-- an own list, read -/
theorem w_own {i : Nat} {x : Str} {pos : Pos} {loc : Bool} {ds : List D} (hN : X.N[i]? = some x) (hv : Vis X.env.scope x) (hd : (x == ("__debug__" : Str)) = false) (hcd : (x == ("__classdict__" : Str)) = false)
    (hr : ρ[i]? = some (.own loc (.lst ds))) (q : Q (.lst ds) ρ) : W p false X (.Name x pos) ρ Q := fun B σ G H S R r => by
  obtain ⟨l, e, h1, h2, xs, h3, h4⟩ := S.ownAt hr
  exact wE_of (pe_var hN hv hd hcd) ⟨_, e, r _ (.lst ds) ρ G H q S (Ex.refl G) (fun _ => ⟨rfl, Grow.refl S.ex⟩) ⟨l, xs, rfl, h3, IsA.mono S.ex _ _ h4⟩⟩
theorem w_const {e : Expr} {v : V} {d : D} (hp : PE X e (tC v)) (hs : DD.sc d = some v) (q : Q d ρ) : W p g X e ρ Q := fun B σ G H S R r =>
  wE_of hp (r v d ρ G H q S (Ex.refl G) (fun _ => ⟨rfl, Grow.refl S.ex⟩) (Is.of_sc hs))
theorem w_int {i : Int} {j pos} (q : Q (.int i) ρ) : W p g X (.Constant (.int i) j pos) ρ Q := w_const pe_int rfl q
theorem w_bl {b : Bool} {j pos} (q : Q (.bl b) ρ) : W p g X (.Constant (.bool b) j pos) ρ Q := w_const pe_bl rfl q
theorem w_non {j pos} (q : Q .non ρ) : W p g X (.Constant .none j pos) ρ Q := w_const pe_non rfl q
theorem w_str {s : Str} {j pos} (q : Q (.str s) ρ) : W p g X (.Constant (.str s) j pos) ρ Q := w_const pe_str rfl q
/-- a constant of the module: a number, a text, a built-in type, a class -/
theorem w_glob {x : Str} {v : V} {u : Value} {d : D} {pos : Pos} (hg : Gl X x) (hm : X.mg x = some u) (r : RelV v u) (hd : (x == ("__debug__" : Str)) = false) (hs : DD.sc d = some v) (q : Q d ρ) : W p g X (.Name x pos) ρ Q := w_const (pe_glob hg hm r hd) hs q

/-! ### operations on data -/
/-- the operation f on x and y gives some z of Z; g: x and y stand in the ghost -/
def Op2 (g : Bool) (X : Cx) (f : Value → Value → Sem Value) (x y : D) (Z : D → Prop) : Prop :=
  ∀ (G H : Hp) (v u : V) (R : VK), Ex G H → Is (if g = true then G else H) x v → Is (if g = true then G else H) y u → (∀ w z G' H', Z z → Grow G H G' H' → Is G' z w → R w H') → rAny X f v u H R
def Op1 (g : Bool) (X : Cx) (f : Value → Sem Value) (x : D) (Z : D → Prop) : Prop :=
  ∀ (G H : Hp) (v : V) (R : VK), Ex G H → Is (if g = true then G else H) x v → (∀ w z G' H', Z z → Grow G H G' H' → Is G' z w → R w H') → rAnyU X f v H R
def OpC (g : Bool) (X : Cx) (f : Value) (xs : List D) (Z : D → Prop) : Prop :=
  ∀ (G H : Hp) (vs : List V) (R : VK), Ex G H → IsA (if g = true then G else H) xs vs → (∀ w z G' H', Z z → Grow G H G' H' → Is G' z w → R w H') → rAnyC X f vs H R
def OpI (g : Bool) (X : Cx) (x y : D) (Z : D → Prop) : Prop :=
  ∀ (G H : Hp) (v u : V) (R : VK), Ex G H → Is (if g = true then G else H) x v → Is (if g = true then G else H) y u → (∀ w z, Z z → Is (if g = true then G else H) z w → R w H) → rAnyI X v u H R

/-- two parts from the left, then what is done with both -/
theorem two {p1 g1 g2 : Bool} {a b : Expr} {K2 : D → D → Rho → Prop} (hp : p = true ∨ g1 = true) (h : W p g1 X a ρ fun x ρ1 => W p g2 X b ρ1 fun y ρ2 => K2 x y ρ2)
    {B : Base} {σ : L2.St} {G H : Hp} (S : Sta B σ ρ G H) {R : V → V → Hp → Prop}
    (k : ∀ v u x y ρ' G' H', K2 x y ρ' → Sta B σ ρ' G' H' → Ex G G' → (p = true → ρ' = ρ ∧ Grow G H G' H') → Is (if g1 = true then G' else H') x v → Is (if g2 = true then G' else H') y u → R v u H') :
    wE X a σ H fun v H1 => wE X b σ H1 fun u H2 => R v u H2 := by
  refine h B σ G H S _ fun v x ρ1 G1 H1 q1 S1 e1 pu1 i1 => ?_
  refine q1 B σ G1 H1 S1 _ fun u y ρ2 G2 H2 q2 S2 e2 pu2 i2 => ?_
  refine k v u x y ρ2 G2 H2 q2 S2 (e1.trans e2) (fun z => ⟨(pu2 z).1.trans (pu1 z).1, (pu1 z).2.trans (pu2 z).2⟩) ?_ i2
  cases g1 with
  | true => exact Is.mono e2 _ _ i1
  | false =>
    rcases hp with z | z
    · exact Is.mono (pu2 z).2.h _ _ i1
    · cases z
theorem is_and {g1 g2 : Bool} {G H : Hp} (x : Ex G H) {d : D} {v : V} (h : Is (if g1 = true then G else H) d v) : Is (if (g1 && g2) = true then G else H) d v := by
  cases g1 with
  | true =>
    cases g2 with
    | true => exact h
    | false => exact Is.mono x _ _ h
  | false => exact h
theorem is_and' {g1 g2 : Bool} {G H : Hp} (x : Ex G H) {d : D} {v : V} (h : Is (if g2 = true then G else H) d v) : Is (if (g1 && g2) = true then G else H) d v := by
  cases g2 with
  | true =>
    cases g1 with
    | true => exact h
    | false => exact Is.mono x _ _ h
  | false =>
    cases g1 with
    | true => exact h
    | false => exact h
theorem w_bin (g1 g2 : Bool) {a b : Expr} {op : Operator} {pos : Pos} (hp : p = true ∨ g1 = true)
    (h : W p g1 X a ρ fun x ρ1 => W p g2 X b ρ1 fun y ρ2 => Op2 (g1 && g2) X (binaryOp op) x y fun z => Q z ρ2) : W p g X (.BinOp a op b pos) ρ Q := fun B σ G H S R r => by
  refine wE_of (pe_op op_any pe_w pe_w) ?_
  refine two (p1 := p) hp h S fun v u x y ρ' G' H' q S' e pu i1 i2 => ?_
  exact q G' H' v u R S'.ex (is_and S'.ex i1) (is_and' S'.ex i2) fun w z G2 H2 hz gr iz => r w z ρ' G2 H2 hz (S'.grow gr) (e.trans gr.g) (fun z => ⟨(pu z).1, (pu z).2.trans gr⟩) (is_h (S'.grow gr) iz)
theorem w_cmp (g1 g2 : Bool) {a b : Expr} {op : CmpOp} {pos : Pos} (hm : behindInMarks op b = false) (hp : p = true ∨ g1 = true)
    (h : W p g1 X a ρ fun x ρ1 => W p g2 X b ρ1 fun y ρ2 => Op2 (g1 && g2) X (compareOp op) x y fun z => Q z ρ2) : W p g X (.Compare a [op] [b] pos) ρ Q := fun B σ G H S R r => by
  refine wE_of (pe_cmpR op_any pe_w pe_w hm) ?_
  refine two (p1 := p) hp h S fun v u x y ρ' G' H' q S' e pu i1 i2 => ?_
  exact q G' H' v u R S'.ex (is_and S'.ex i1) (is_and' S'.ex i2) fun w z G2 H2 hz gr iz => r w z ρ' G2 H2 hz (S'.grow gr) (e.trans gr.g) (fun z => ⟨(pu z).1, (pu z).2.trans gr⟩) (is_h (S'.grow gr) iz)
theorem w_un {a : Expr} {op : UnaryOp} {pos : Pos} (h : W p true X a ρ fun x ρ1 => Op1 true X (unaryOp op) x fun z => Q z ρ1) : W p g X (.UnaryOp op a pos) ρ Q := fun B σ G H S R r => by
  refine wE_of (pe_un un_any pe_w) ?_
  refine h B σ G H S _ fun v x ρ1 G1 H1 q1 S1 e1 pu1 i1 => ?_
  exact q1 G1 H1 v R S1.ex i1 fun w z G2 H2 hz gr iz => r w z ρ1 G2 H2 hz (S1.grow gr) (e1.trans gr.g) (fun z => ⟨(pu1 z).1, (pu1 z).2.trans gr⟩) (is_h (S1.grow gr) iz)
theorem w_ix (g1 g2 : Bool) {a b : Expr} {pos : Pos} (hs : PlainIx b) (hp : p = true ∨ g1 = true)
    (h : W p g1 X a ρ fun x ρ1 => W p true X b ρ1 fun y ρ2 => OpI g1 X x y fun z => Q z ρ2) : W p g1 X (.Subscript a b pos) ρ Q := fun B σ G H S R r => by
  refine wE_of (pe_ix ix_any pe_w pe_w hs) ?_
  refine two (p1 := p) (g2 := true) hp h S fun v u x y ρ' G' H' q S' e pu i1 i2 => ?_
  refine q G' H' v u R S'.ex i1 ?_ fun w z hz iz => r w z ρ' G' H' hz S' e pu iz
  cases g1 with
  | true => exact i2
  | false => exact Is.mono S'.ex _ _ i2

/-! ### truth -/
def TruD (g : Bool) (d : D) (b : Bool) : Prop := match d with
  | .non => b = false
  | .bl k => b = k
  | .int i => b = (i != 0)
  | .str y => y.length ≤ sizeLine ∧ b = ((y.length : Int) != 0)
  | .lst xs => b = !xs.isEmpty
  | .tup xs => b = !xs.isEmpty
  | .dic xs => b = !xs.isEmpty
  | _ => False
theorem IsA.isEmpty {H : Hp} {ds : List D} {xs : List V} (h : IsA H ds xs) : xs.isEmpty = ds.isEmpty := by
  have e := h.length
  cases ds <;> cases xs <;> simp_all
theorem IsK.isEmpty {H : Hp} : ∀ {ds : List (Key × D)} {xs : List (Key × V)}, IsK H ds xs → xs.isEmpty = ds.isEmpty
  | [], _, h => by cases h; rfl
  | (k, d) :: ds, _, ⟨x, r, e1, e2, e3⟩ => by subst e1; rfl
theorem tru_of {K : PySem.W.Frag} {H : Hp} {d : D} {v : V} {b : Bool} (h : Is H d v) (t : TruD g d b) : TruV K v H b := by
  cases d with
  | non => cases h; exact t
  | bl k => cases h; exact t
  | int i => cases h; exact t
  | str y => cases h; exact t
  | ty n => exact t.elim
  | lst ds =>
    obtain ⟨a, xs, rfl, e, i⟩ := h
    exact .inl ⟨xs, .inl (.inl e), by rw [i.isEmpty]; exact t⟩
  | tup ds =>
    obtain ⟨a, xs, rfl, e, i⟩ := h
    exact .inr (.inl ⟨xs, .inl (.inl e), by rw [i.isEmpty]; exact t⟩)
  | obj C fs => exact t.elim
  | dic ds =>
    obtain ⟨a, xs, rfl, e, i⟩ := h
    exact .inr (.inr ⟨xs, e, by rw [i.isEmpty]; exact t⟩)
  | scr K ns => exact t.elim
  | adr a => exact t.elim
/-- an expression's value as a test -/
theorem t_val {e : Expr} (h : W p false X e ρ fun d ρ' => ∃ b, TruD false d b ∧ QT b ρ') (he : ∀ whole, isTrue e X.env whole = (do let v ← whole; standAt e.pos; holding [v] (truthy v)) := by intro _; rfl) : WT p X e ρ QT := fun B σ G H S R r => by
  refine wT_of (pt_truth pe_w he) ?_
  refine h B σ G H S _ fun v d ρ' G' H' ⟨b, tb, q⟩ S' x pu i => ⟨b, tru_of (g := false) i tb, r b ρ' G' H' q S' x pu⟩
theorem t_cmp (g1 g2 : Bool) {a b : Expr} {op : CmpOp} {pos : Pos} (hm : behindInMarks op b = false) (hp : p = true ∨ g1 = true)
    (h : W p g1 X a ρ fun x ρ1 => W p g2 X b ρ1 fun y ρ2 => Op2 (g1 && g2) X (compareOp op) x y fun z => ∃ k, z = .bl k ∧ QT k ρ2) : WT p X (.Compare a [op] [b] pos) ρ QT := fun B σ G H S R r => by
  refine wT_of (pt_cmpR op_any pe_w pe_w hm) ?_
  refine two (p1 := p) hp h S fun v u x y ρ' G' H' q S' e pu i1 i2 => ?_
  refine q G' H' v u _ S'.ex (is_and S'.ex i1) (is_and' S'.ex i2) fun w z G2 H2 hz gr iz => ?_
  obtain ⟨k, rfl, hk⟩ := hz
  exact ⟨k, iz, r k ρ' G2 H2 hk (S'.grow gr) (e.trans gr.g) fun z => ⟨(pu z).1, (pu z).2.trans gr⟩⟩
theorem t_not {a : Expr} {pos : Pos} (h : WT p X a ρ fun b ρ' => QT (!b) ρ') : WT p X (.UnaryOp .Not a pos) ρ QT := fun B σ G H S R r => by
  refine wT_of (pt_not pt_w) ?_
  exact h B σ G H S _ fun b ρ' G' H' q S' x pu => r (!b) ρ' G' H' q S' x pu
/-- and, or: the list of the parts -/
def WB (X : Cx) (op : BoolOp) (es : List Expr) (pos : Pos) : TT := fun σ H R => ∀ whole pins s, Inv X pins σ H s → wpAny (model X.prog X.w) X.A (isTrue (.BoolOp op es pos) X.env whole) (TP X pins σ R) X.xe s
theorem pw_w {X : Cx} {op : BoolOp} {es : List Expr} {pos : Pos} : PW X (.BoolOp op es pos) (WB X op es pos) := ⟨fun wh pins s σ H R I h => h wh pins s I⟩
def WTB (p : Bool) (X : Cx) (op : BoolOp) (es : List Expr) (pos : Pos) (ρ : Rho) (Q : Bool → Rho → Prop) : Prop :=
  ∀ (B : Base) (σ : L2.St) (G H : Hp), Sta B σ ρ G H → ∀ R : Bool → Hp → Prop,
    (∀ b ρ' G' H', Q b ρ' → Sta B σ ρ' G' H' → Ex G G' → (p = true → ρ' = ρ ∧ Grow G H G' H') → R b H') → WB X op es pos σ H R
theorem t_bool {op : BoolOp} {es : List Expr} {pos : Pos} (h : WTB p X op es pos ρ QT) : WT p X (.BoolOp op es pos) ρ QT := fun B σ G H S R r =>
  wT_of (PW.pt pw_w) (h B σ G H S R r)
theorem tb_and1 {a : Expr} {pos : Pos} (h : WT p X a ρ QT) : WTB p X .And [a] pos ρ QT := fun B σ G H S R r wh pins s I =>
  (pw_and1 pt_w).run wh pins s σ H R I (h B σ G H S R r)
theorem tb_or1 {a : Expr} {pos : Pos} (h : WT p X a ρ QT) : WTB p X .Or [a] pos ρ QT := fun B σ G H S R r wh pins s I =>
  (pw_or1 pt_w).run wh pins s σ H R I (h B σ G H S R r)
theorem tb_and {a b : Expr} {rest : List Expr} {pos : Pos} (h : WT p X a ρ fun c ρ1 => if c = true then WTB p X .And (b :: rest) pos ρ1 QT else QT false ρ1) : WTB p X .And (a :: b :: rest) pos ρ QT := fun B σ G H S R r wh pins s I => by
  refine (pw_and pt_w pw_w).run wh pins s σ H R I ?_
  refine h B σ G H S _ fun c ρ' G' H' q S' x pu => ?_
  cases c with
  | true => exact q B σ G' H' S' R fun b ρ2 G2 H2 q2 S2 x2 pu2 => r b ρ2 G2 H2 q2 S2 (x.trans x2) fun z => ⟨(pu2 z).1.trans (pu z).1, (pu z).2.trans (pu2 z).2⟩
  | false => exact r false ρ' G' H' q S' x pu
theorem tb_or {a b : Expr} {rest : List Expr} {pos : Pos} (h : WT p X a ρ fun c ρ1 => if c = true then QT true ρ1 else WTB p X .Or (b :: rest) pos ρ1 QT) : WTB p X .Or (a :: b :: rest) pos ρ QT := fun B σ G H S R r wh pins s I => by
  refine (pw_or pt_w pw_w).run wh pins s σ H R I ?_
  refine h B σ G H S _ fun c ρ' G' H' q S' x pu => ?_
  cases c with
  | false => exact q B σ G' H' S' R fun b ρ2 G2 H2 q2 S2 x2 pu2 => r b ρ2 G2 H2 q2 S2 (x.trans x2) fun z => ⟨(pu2 z).1.trans (pu z).1, (pu z).2.trans (pu2 z).2⟩
  | true => exact r true ρ' G' H' q S' x pu
/-- a if t else b -/
theorem w_if {c a b : Expr} {pos : Pos} (h : WT p X c ρ fun k ρ1 => if k = true then W p g X a ρ1 Q else W p g X b ρ1 Q) : W p g X (.IfExp c a b pos) ρ Q := fun B σ G H S R r => by
  refine wE_of (pe_ifExp pt_w pe_w pe_w) ?_
  refine h B σ G H S _ fun k ρ' G' H' q S' x pu => ?_
  cases k with
  | true => exact q B σ G' H' S' R fun v d ρ2 G2 H2 q2 S2 x2 pu2 i => r v d ρ2 G2 H2 q2 S2 (x.trans x2) (fun z => ⟨(pu2 z).1.trans (pu z).1, (pu z).2.trans (pu2 z).2⟩) i
  | false => exact q B σ G' H' S' R fun v d ρ2 G2 H2 q2 S2 x2 pu2 i => r v d ρ2 G2 H2 q2 S2 (x.trans x2) (fun z => ⟨(pu2 z).1.trans (pu z).1, (pu z).2.trans (pu2 z).2⟩) i
/-- and, or, as values: bools -/
theorem w_one {a : Expr} {op : BoolOp} {pos : Pos} (h : W p g X a ρ Q) : W p g X (.BoolOp op [a] pos) ρ Q := fun B σ G H S R r => wE_of (pe_one pe_w) (h B σ G H S R r)
theorem w_and {a b : Expr} {rest : List Expr} {pos : Pos} (h : W p true X a ρ fun x ρ1 => ∃ c, x = .bl c ∧ if c = true then W p g X (.BoolOp .And (b :: rest) pos) ρ1 Q else Q (.bl false) ρ1) : W p g X (.BoolOp .And (a :: b :: rest) pos) ρ Q := fun B σ G H S R r => by
  refine wE_of (pe_and pe_w pe_w) ?_
  refine h B σ G H S _ fun v d ρ' G' H' q S' x pu i => ?_
  obtain ⟨c, rfl, q⟩ := q
  refine ⟨c, i, ?_⟩
  cases c with
  | true => exact q B σ G' H' S' R fun v d ρ2 G2 H2 q2 S2 x2 pu2 i => r v d ρ2 G2 H2 q2 S2 (x.trans x2) (fun z => ⟨(pu2 z).1.trans (pu z).1, (pu z).2.trans (pu2 z).2⟩) i
  | false => exact r _ _ ρ' G' H' q S' x pu (is_h S' rfl)
theorem w_or {a b : Expr} {rest : List Expr} {pos : Pos} (h : W p true X a ρ fun x ρ1 => ∃ c, x = .bl c ∧ if c = true then Q (.bl true) ρ1 else W p g X (.BoolOp .Or (b :: rest) pos) ρ1 Q) : W p g X (.BoolOp .Or (a :: b :: rest) pos) ρ Q := fun B σ G H S R r => by
  refine wE_of (pe_or pe_w pe_w) ?_
  refine h B σ G H S _ fun v d ρ' G' H' q S' x pu i => ?_
  obtain ⟨c, rfl, q⟩ := q
  refine ⟨c, i, ?_⟩
  cases c with
  | false => exact q B σ G' H' S' R fun v d ρ2 G2 H2 q2 S2 x2 pu2 i => r v d ρ2 G2 H2 q2 S2 (x.trans x2) (fun z => ⟨(pu2 z).1.trans (pu z).1, (pu z).2.trans (pu2 z).2⟩) i
  | true => exact r _ _ ρ' G' H' q S' x pu (is_h S' rfl)
theorem w_not {a : Expr} {pos : Pos} (h : W p true X a ρ fun x ρ1 => ∃ c, x = .bl c ∧ Q (.bl (!c)) ρ1) : W p g X (.UnaryOp .Not a pos) ρ Q := fun B σ G H S R r => by
  refine wE_of (pe_not pe_w) ?_
  refine h B σ G H S _ fun v d ρ' G' H' q S' x pu i => ?_
  obtain ⟨c, rfl, q⟩ := q
  exact ⟨c, i, r _ _ ρ' G' H' q S' x pu (is_h S' rfl)⟩

/-! ### arguments, displays, calls -/
theorem a_nil (q : QA [] ρ) : WA p g X [] ρ QA := fun B σ G H S R r => wA_of pa_nil (r [] [] ρ G H q S (Ex.refl G) (fun _ => ⟨rfl, Grow.refl S.ex⟩) rfl)
theorem a_cons {e : Expr} {es : List Expr} (hp : p = true ∨ g = true) (h : W p g X e ρ fun d ρ1 => WA p g X es ρ1 fun ds ρ2 => QA (d :: ds) ρ2) (hs : starEach (e :: es) X.env = (false, eval e X.env) :: starEach es X.env := by rfl) : WA p g X (e :: es) ρ QA := fun B σ G H S R r => by
  refine wA_of (pa_cons pe_w pa_w hs) ?_
  refine h B σ G H S _ fun v d ρ1 G1 H1 q1 S1 e1 pu1 i1 => ?_
  refine q1 B σ G1 H1 S1 _ fun vs ds ρ2 G2 H2 q2 S2 e2 pu2 i2 => ?_
  refine r (v :: vs) (d :: ds) ρ2 G2 H2 q2 S2 (e1.trans e2) (fun z => ⟨(pu2 z).1.trans (pu1 z).1, (pu1 z).2.trans (pu2 z).2⟩) ⟨v, vs, rfl, ?_, i2⟩
  cases g with
  | true => exact Is.mono e2 _ _ i1
  | false =>
    rcases hp with z | z
    · exact Is.mono (pu2 z).2.h _ _ i1
    · cases z
theorem w_lst {es : List Expr} {pos : Pos} (h : WA p true X es ρ fun ds ρ' => ds.length ≤ sizeLine ∧ Q (.lst ds) ρ') : W p g X (.List es pos) ρ Q := fun B σ G H S R r => by
  refine wE_of (pe_lst pa_w) ?_
  refine h B σ G H S _ fun vs ds ρ' G' H' q S' x pu i => ⟨by rw [i.length]; exact q.1, fun a ha => ?_⟩
  have gr := Grow.new (o := .lst vs) S'.ex ha
  exact r _ (.lst ds) ρ' _ _ q.2 (S'.grow gr) (x.trans gr.g) (fun z => ⟨(pu z).1, (pu z).2.trans gr⟩) (is_h (S'.grow gr) ⟨a, vs, rfl, upd_same, IsA.mono gr.g _ _ i⟩)
theorem w_tup {es : List Expr} {k} {pos : Pos} (h : WA p true X es ρ fun ds ρ' => ds.length ≤ sizeLine ∧ Q (.tup ds) ρ') : W p g X (.Tuple es k pos) ρ Q := fun B σ G H S R r => by
  refine wE_of (pe_tup pa_w) ?_
  refine h B σ G H S _ fun vs ds ρ' G' H' q S' x pu i => ⟨by rw [i.length]; exact q.1, fun a ha => ?_⟩
  have gr := Grow.new (o := .tup vs) S'.ex ha
  exact r _ (.tup ds) ρ' _ _ q.2 (S'.grow gr) (x.trans gr.g) (fun z => ⟨(pu z).1, (pu z).2.trans gr⟩) (is_h (S'.grow gr) ⟨a, vs, rfl, upd_same, IsA.mono gr.g _ _ i⟩)
/-- f(e, ..), f a built-in -/
theorem w_callB (g1 : Bool) {x : Str} {id : String} {e : Expr} {es : List Expr} {pp pos : Pos} (hg : Gl X x) (hm : X.mg x = none) (hv : bootBuiltins x = some (.builtin id))
    (h : WA p g1 X (e :: es) ρ fun ds ρ' => OpC g1 X (.builtin id) ds fun z => Q z ρ') (hn : x ≠ "__name__" := by decide) (hdb : (x == ("__debug__" : Str)) = false := by decide)
    (he : starEach (e :: es) X.env = (false, eval e X.env) :: starEach es X.env := by rfl) (hpl : (backTo pos (starEach es X.env)).any (·.1) = false := by rfl) : W p g X (.Call (.Name x pp) (e :: es) [] pos) ρ Q := fun B σ G H S R r => by
  refine wE_of (pe_callB call_any hg hm hv pa_w hn hdb he hpl) ?_
  refine h B σ G H S _ fun vs ds ρ' G' H' q S' x pu i => ?_
  exact q G' H' vs R S'.ex i fun w z G2 H2 hz gr iz => r w z ρ' G2 H2 hz (S'.grow gr) (x.trans gr.g) (fun z => ⟨(pu z).1, (pu z).2.trans gr⟩) (is_h (S'.grow gr) iz)
theorem w_callTy (g1 : Bool) {x : Str} {T : String} {e : Expr} {es : List Expr} {pp pos : Pos} (hg : Gl X x) (hm : X.mg x = none) (hv : bootBuiltins x = some (.type T))
    (h : WA p g1 X (e :: es) ρ fun ds ρ' => OpC g1 X (.type T) ds fun z => Q z ρ') (hn : x ≠ "__name__" := by decide) (hdb : (x == ("__debug__" : Str)) = false := by decide)
    (he : starEach (e :: es) X.env = (false, eval e X.env) :: starEach es X.env := by rfl) (hpl : (backTo pos (starEach es X.env)).any (·.1) = false := by rfl) : W p g X (.Call (.Name x pp) (e :: es) [] pos) ρ Q := fun B σ G H S R r => by
  refine wE_of (pe_callTy call_any hg hm hv pa_w hn hdb he hpl) ?_
  refine h B σ G H S _ fun vs ds ρ' G' H' q S' x pu i => ?_
  exact q G' H' vs R S'.ex i fun w z G2 H2 hz gr iz => r w z ρ' G2 H2 hz (S'.grow gr) (x.trans gr.g) (fun z => ⟨(pu z).1, (pu z).2.trans gr⟩) (is_h (S'.grow gr) iz)
end
end DD

namespace DD
open PySem PySem.Spec PyProof.Rows L2

/-! ### data as PyData -/
mutual
def py : D → Option PyData
  | .non => some .none
  | .bl b => some (.bool b)
  | .int i => some (.int i)
  | .str s => some (.str s)
  | .ty _ => none
  | .lst xs => (pyA xs).map .list
  | .tup xs => (pyA xs).map .tuple
  | .obj _ _ => none
  | .dic _ => none
  | .scr _ _ => none
  | .adr _ => none
def pyA : List D → Option (List PyData)
  | [] => some []
  | d :: ds => (py d).bind fun p => (pyA ds).map (p :: ·)
end
mutual
theorem dp_of {K : PySem.W.Frag} {H : Hp} : ∀ (d : D) (v : V) (q : PyData), Is H d v → py d = some q → Dp K H v q
  | .non, _, _, h, e => by cases h; cases e; exact .non
  | .bl b, _, _, h, e => by cases h; cases e; exact .bl b
  | .int i, _, _, h, e => by cases h; cases e; exact .int i
  | .str s, _, _, h, e => by cases h; cases e; exact .str s
  | .ty n, _, _, h, e => by cases e
  | .lst ds, _, _, ⟨a, xs, e1, e2, e3⟩, e => by
    subst e1
    cases hq : pyA ds with
    | none => rw [py, hq] at e; cases e
    | some qs => rw [py, hq] at e; cases e; exact .lst (.inl (.inl e2)) (dpA_of ds xs qs e3 hq)
  | .tup ds, _, _, ⟨a, xs, e1, e2, e3⟩, e => by
    subst e1
    cases hq : pyA ds with
    | none => rw [py, hq] at e; cases e
    | some qs => rw [py, hq] at e; cases e; exact .tup (.inl (.inl e2)) (dpA_of ds xs qs e3 hq)
  | .obj C fs, _, _, h, e => by cases e
  | .dic _, _, _, h, e => by cases e
  | .scr _ _, _, _, h, e => by cases e
  | .adr _, _, _, h, e => by cases e
theorem dpA_of {K : PySem.W.Frag} {H : Hp} : ∀ (ds : List D) (vs : List V) (qs : List PyData), IsA H ds vs → pyA ds = some qs → DpAll K H vs qs
  | [], _, _, h, e => by cases h; cases e; exact .nil
  | d :: ds, _, qs, ⟨x, r, e1, e2, e3⟩, e => by
    subst e1
    cases h1 : py d with
    | none => rw [pyA, h1] at e; cases e
    | some p =>
      cases h2 : pyA ds with
      | none => rw [pyA, h1, h2] at e; cases e
      | some ps => rw [pyA, h1, h2] at e; cases e; exact .cons (dp_of d x p e2 h1) (dpA_of ds r ps e3 h2)
end
theorem pyA_ints : ∀ ns : List Int, pyA (ns.map D.int) = some (ns.map PyData.int)
  | [] => rfl
  | n :: ns => by show (py (.int n)).bind _ = _; rw [pyA_ints ns]; rfl
theorem pyA_lsts : ∀ ls : List (List Int), pyA (ls.map fun l => D.lst (l.map D.int)) = some (ls.map fun l => PyData.list (l.map PyData.int))
  | [] => rfl
  | l :: ls => by
    show (py (.lst (l.map D.int))).bind _ = _
    rw [pyA_lsts ls]
    show ((pyA (l.map D.int)).map PyData.list).bind _ = _
    rw [pyA_ints]
    rfl
theorem pyA_tups : ∀ ls : List (List Int), pyA (ls.map fun l => D.tup (l.map D.int)) = some (ls.map fun l => PyData.tuple (l.map PyData.int))
  | [] => rfl
  | l :: ls => by
    show (py (.tup (l.map D.int))).bind _ = _
    rw [pyA_tups ls]
    show ((pyA (l.map D.int)).map PyData.tuple).bind _ = _
    rw [pyA_ints]
    rfl
theorem lay_ints : ∀ ns : List Int, PyData.canLayAll0 (ns.map PyData.int) = true
  | [] => rfl
  | n :: ns => by show (true && PyData.canLayAll0 (ns.map PyData.int)) = true; rw [lay_ints ns]; rfl
theorem lay_lsts : ∀ ls : List (List Int), PyData.canLayAll0 (ls.map fun l => PyData.list (l.map PyData.int)) = true
  | [] => rfl
  | l :: ls => by show (PyData.canLayAll0 (l.map PyData.int) && PyData.canLayAll0 (ls.map _)) = true; rw [lay_lsts ls, lay_ints]; rfl
theorem lay_tups : ∀ ls : List (List Int), PyData.canLayAll0 (ls.map fun l => PyData.tuple (l.map PyData.int)) = true
  | [] => rfl
  | l :: ls => by show (PyData.canLayAll0 (l.map PyData.int) && PyData.canLayAll0 (ls.map _)) = true; rw [lay_tups ls, lay_ints]; rfl
theorem eqv_ints : ∀ ns ms : List Int, PyData.eqvAll (ns.map PyData.int) (ms.map PyData.int) = decide (ns = ms)
  | [], [] => rfl
  | [], m :: ms => by simp [PyData.eqvAll]
  | n :: ns, [] => by simp [PyData.eqvAll]
  | n :: ns, m :: ms => by
    show (n == m && PyData.eqvAll (ns.map PyData.int) (ms.map PyData.int)) = _
    rw [eqv_ints ns ms]
    by_cases h : n = m <;> by_cases h2 : ns = ms <;> simp [h, h2]
theorem eqv_lsts : ∀ ns ms : List (List Int), PyData.eqvAll (ns.map fun l => PyData.list (l.map PyData.int)) (ms.map fun l => PyData.list (l.map PyData.int)) = decide (ns = ms)
  | [], [] => rfl
  | [], m :: ms => by simp [PyData.eqvAll]
  | n :: ns, [] => by simp [PyData.eqvAll]
  | n :: ns, m :: ms => by
    show (PyData.eqvAll (n.map PyData.int) (m.map PyData.int) && PyData.eqvAll (ns.map _) (ms.map _)) = _
    rw [eqv_lsts ns ms, eqv_ints]
    by_cases h : n = m <;> by_cases h2 : ns = ms <;> simp [h, h2]
theorem eqv_tups : ∀ ns ms : List (List Int), PyData.eqvAll (ns.map fun l => PyData.tuple (l.map PyData.int)) (ms.map fun l => PyData.tuple (l.map PyData.int)) = decide (ns = ms)
  | [], [] => rfl
  | [], m :: ms => by simp [PyData.eqvAll]
  | n :: ns, [] => by simp [PyData.eqvAll]
  | n :: ns, m :: ms => by
    show (PyData.eqvAll (n.map PyData.int) (m.map PyData.int) && PyData.eqvAll (ns.map _) (ms.map _)) = _
    rw [eqv_tups ns ms, eqv_ints]
    by_cases h : n = m <;> by_cases h2 : ns = ms <;> simp [h, h2]

section
variable {g : Bool} {X : Cx} {Z : D → Prop}
/-! ### operations -/
theorem is_any {G H : Hp} (x : Ex G H) {d : D} {v : V} (h : Is (if g = true then G else H) d v) : Is H d v := by
  cases g with
  | true => exact Is.mono x _ _ h
  | false => exact h
theorem isA_any {G H : Hp} (x : Ex G H) {d : List D} {v : List V} (h : IsA (if g = true then G else H) d v) : IsA H d v := by
  cases g with
  | true => exact IsA.mono x _ _ h
  | false => exact h
theorem op2_sc {f : Value → Value → Sem Value} {r : R2} {x y z : D} {vx vy vz : V} (ho : OpR X f r) (hx : sc x = some vx) (hy : sc y = some vy) (hz : sc z = some vz) (h : ∀ (H : Hp) (R : VK), R vz H → r vx vy H R) (q : Z z) : Op2 g X f x y Z := by
  intro G H v u R ex i j k
  have e1 : v = vx := Is.sc hx i
  have e2 : u = vy := Is.sc hy j
  subst e1; subst e2
  exact ⟨r, ho, h H R (k vz z G H q (Grow.refl ex) (Is.of_sc hz))⟩
theorem o_add {i j : Int} (q : Z (.int (i + j))) : Op2 g X (binaryOp .Add) (.int i) (.int j) Z := op2_sc (z := .int (i + j)) op_add rfl rfl rfl (fun _ _ h => ⟨i, j, rfl, rfl, h⟩) q
theorem o_sub {i j : Int} (q : Z (.int (i - j))) : Op2 g X (binaryOp .Sub) (.int i) (.int j) Z := op2_sc (z := .int (i - j)) op_sub rfl rfl rfl (fun _ _ h => ⟨i, j, rfl, rfl, h⟩) q
theorem o_mul {i j : Int} (q : (-(2 ^ 64) < i ∧ i < 2 ^ 64 ∨ -(2 ^ 64) < j ∧ j < 2 ^ 64) ∧ Z (.int (i * j))) : Op2 g X (binaryOp .Mult) (.int i) (.int j) Z := op2_sc (z := .int (i * j)) op_mul rfl rfl rfl (fun _ _ h => ⟨i, j, rfl, rfl, q.1, h⟩) q.2
theorem o_mod {i j : Int} (q : 0 < j ∧ Z (.int (i % j))) : Op2 g X (binaryOp .Mod) (.int i) (.int j) Z := op2_sc (z := .int (i % j)) op_mod rfl rfl rfl (fun _ _ h => ⟨i, j, rfl, rfl, q.1, h⟩) q.2
theorem o_fdiv {i j : Int} (q : (0 < j ∧ j < 1073741824) ∧ Z (.int (i / j))) : Op2 g X (binaryOp .FloorDiv) (.int i) (.int j) Z := op2_sc (z := .int (i / j)) op_fdiv rfl rfl rfl (fun _ _ h => ⟨i, j, rfl, rfl, q.1, h⟩) q.2
theorem o_pow {i j : Int} (q : (0 ≤ j ∧ j ≤ 1000000 ∧ i.natAbs < 2 ^ 64) ∧ Z (.int (i ^ j.toNat))) : Op2 g X (binaryOp .Pow) (.int i) (.int j) Z := op2_sc (z := .int (i ^ j.toNat)) op_pow rfl rfl rfl (fun _ _ h => ⟨i, j, rfl, rfl, q.1, h⟩) q.2
theorem o_adds {i j : Str} (q : i.length + j.length ≤ sizeLine ∧ Z (.str (i ++ j))) : Op2 g X (binaryOp .Add) (.str i) (.str j) Z := op2_sc (z := .str (i ++ j)) op_add_str rfl rfl rfl (fun _ _ h => ⟨i, j, rfl, rfl, q.1, h⟩) q.2
theorem o_cat {xs ys : List D} (q : xs.length + ys.length ≤ sizeLine ∧ Z (.lst (xs ++ ys))) : Op2 true X (binaryOp .Add) (.lst xs) (.lst ys) Z := by
  intro G H v u R ex ⟨a, as, e1, e2, e3⟩ ⟨b, bs, f1, f2, f3⟩ k
  refine ⟨_, op_cat, a, b, as, bs, e1, f1, ex _ _ e2, ex _ _ f2, by rw [e3.length, f3.length]; exact q.1, fun p hp => ?_⟩
  have gr := Grow.new (o := .lst (as ++ bs)) ex hp
  exact k _ (.lst (xs ++ ys)) _ _ q.2 gr ⟨p, _, rfl, upd_same, IsA.mono gr.g _ _ (e3.append f3)⟩
theorem IsA.rep {H : Hp} {ds : List D} {xs : List V} (h : IsA H ds xs) : ∀ n : Nat, IsA H (List.replicate n ds).flatten (List.replicate n xs).flatten
  | 0 => rfl
  | n + 1 => by
    rw [List.replicate_succ, List.replicate_succ, List.flatten_cons, List.flatten_cons]
    exact h.append (IsA.rep h n)
theorem o_rep {xs : List D} {n : Int} (q : (-(2 ^ 63) ≤ n ∧ n < 2 ^ 63 ∧ xs.length * n.toNat ≤ sizeLine) ∧ Z (.lst (List.replicate n.toNat xs).flatten)) : Op2 true X (binaryOp .Mult) (.lst xs) (.int n) Z := by
  intro G H v u R ex ⟨a, as, e1, e2, e3⟩ f1 k
  refine ⟨_, op_rep, a, n, as, e1, f1, ex _ _ e2, q.1.1, q.1.2.1, by rw [e3.length]; exact q.1.2.2, fun p hp => ?_⟩
  have gr := Grow.new (o := .lst (List.replicate n.toNat as).flatten) ex hp
  exact k _ (.lst (List.replicate n.toNat xs).flatten) _ _ q.2 gr ⟨p, _, rfl, upd_same, IsA.mono gr.g _ _ (e3.rep _)⟩
theorem o_lt {i j : Int} (q : Z (.bl (decide (i < j)))) : Op2 g X (compareOp .Lt) (.int i) (.int j) Z := op2_sc (z := .bl (decide (i < j))) op_lt rfl rfl rfl (fun _ _ h => ⟨i, j, rfl, rfl, h⟩) q
theorem o_le {i j : Int} (q : Z (.bl (decide (i ≤ j)))) : Op2 g X (compareOp .LtE) (.int i) (.int j) Z := op2_sc (z := .bl (decide (i ≤ j))) op_le rfl rfl rfl (fun _ _ h => ⟨i, j, rfl, rfl, h⟩) q
theorem o_gt {i j : Int} (q : Z (.bl (decide (j < i)))) : Op2 g X (compareOp .Gt) (.int i) (.int j) Z := op2_sc (z := .bl (decide (j < i))) op_gt rfl rfl rfl (fun _ _ h => ⟨i, j, rfl, rfl, h⟩) q
theorem o_ge {i j : Int} (q : Z (.bl (decide (j ≤ i)))) : Op2 g X (compareOp .GtE) (.int i) (.int j) Z := op2_sc (z := .bl (decide (j ≤ i))) op_ge rfl rfl rfl (fun _ _ h => ⟨i, j, rfl, rfl, h⟩) q
theorem o_eq {i j : Int} (q : Z (.bl (decide (i = j)))) : Op2 g X (compareOp .Eq) (.int i) (.int j) Z := op2_sc (z := .bl (decide (i = j))) op_eq rfl rfl rfl (fun _ _ h => ⟨rfl, by rw [show decide (V.int i = V.int j) = decide (i = j) by by_cases e : i = j <;> simp [e]]; exact h⟩) q
theorem o_ne {i j : Int} (q : Z (.bl (!decide (i = j)))) : Op2 g X (compareOp .NotEq) (.int i) (.int j) Z := op2_sc (z := .bl (!decide (i = j))) op_ne rfl rfl rfl (fun _ _ h => ⟨rfl, by rw [show decide (V.int i = V.int j) = decide (i = j) by by_cases e : i = j <;> simp [e]]; exact h⟩) q
theorem o_eqs {i j : Str} (q : Z (.bl (decide (i = j)))) : Op2 g X (compareOp .Eq) (.str i) (.str j) Z := op2_sc (z := .bl (decide (i = j))) op_eq rfl rfl rfl (fun _ _ h => ⟨rfl, by rw [show decide (V.str i = V.str j) = decide (i = j) by by_cases e : i = j <;> simp [e]]; exact h⟩) q
theorem o_nes {i j : Str} (q : Z (.bl (!decide (i = j)))) : Op2 g X (compareOp .NotEq) (.str i) (.str j) Z := op2_sc (z := .bl (!decide (i = j))) op_ne rfl rfl rfl (fun _ _ h => ⟨rfl, by rw [show decide (V.str i = V.str j) = decide (i = j) by by_cases e : i = j <;> simp [e]]; exact h⟩) q
/-- == and != of data -/
theorem o_eqD {x y : D} {a b : PyData} (hu : X.A.units + 64 < cLine) (hx : py x = some a) (hy : py y = some b) (sx : SeqAt.shaped a = true) (sy : SeqAt.shaped b = true) (q : Z (.bl (PyData.eqv a b))) : Op2 g X (compareOp .Eq) x y Z := by
  intro G H v u R ex i j k
  exact ⟨_, op_eqD hu, a, b, dp_of _ _ _ (is_any ex i) hx, dp_of _ _ _ (is_any ex j) hy, sx, sy, k _ (.bl (PyData.eqv a b)) G H q (Grow.refl ex) rfl⟩
theorem o_neD {x y : D} {a b : PyData} (hu : X.A.units + 64 < cLine) (hx : py x = some a) (hy : py y = some b) (sx : SeqAt.shaped a = true) (sy : SeqAt.shaped b = true) (q : Z (.bl (!PyData.eqv a b))) : Op2 g X (compareOp .NotEq) x y Z := by
  intro G H v u R ex i j k
  exact ⟨_, op_neD hu, a, b, dp_of _ _ _ (is_any ex i) hx, dp_of _ _ _ (is_any ex j) hy, sx, sy, k _ (.bl (!PyData.eqv a b)) G H q (Grow.refl ex) rfl⟩
theorem o_isN {x : D} {v : V} (hx : sc x = some v) (q : Z (.bl (decide (v = .non)))) : Op2 g X (compareOp .Is) x .non Z := op2_sc (z := .bl (decide (v = .non))) op_isN hx rfl rfl (fun _ _ h => ⟨rfl, h⟩) q
/-- in, not in, over ints -/
theorem all_flat : ∀ ns : List Int, (ns.map V.int).all flatV = true
  | [] => rfl
  | n :: ns => by show (true && (ns.map V.int).all flatV) = true; rw [all_flat ns]; rfl
theorem inV_int (i : Int) : ∀ ns : List Int, inV (.int i) (ns.map V.int) = decide (i ∈ ns)
  | [] => rfl
  | n :: ns => by
    show (n == i || inV (.int i) (ns.map V.int)) = _
    rw [inV_int i ns]
    have e : (n == i) = decide (i = n) := by
      by_cases h : i = n
      · subst h; simp
      · rw [decide_eq_false h]; exact beq_eq_false_iff_ne.mpr fun q => h q.symm
    rw [e, Bool.eq_iff_iff]
    simp
theorem o_in {i : Int} {ns : List Int} (q : Z (.bl (decide (i ∈ ns)))) : Op2 g X (compareOp .In) (.int i) (.lst (ns.map D.int)) Z := by
  intro G H v u R ex i1 j k
  obtain ⟨a, xs, rfl, e2, e3⟩ := is_any ex j
  have e4 := e3.ints
  subst e4
  cases (is_any ex i1 : v = .int i)
  refine ⟨_, op_in_seq, a, _, rfl, .inl (.inl (.inl e2)), rfl, all_flat ns, ?_⟩
  show R (.bl (inV (.int i) (ns.map V.int))) H
  rw [inV_int]
  exact k _ (.bl (decide (i ∈ ns))) G H q (Grow.refl ex) rfl
theorem o_nin {i : Int} {ns : List Int} (q : Z (.bl (!decide (i ∈ ns)))) : Op2 g X (compareOp .NotIn) (.int i) (.lst (ns.map D.int)) Z := by
  intro G H v u R ex i1 j k
  obtain ⟨a, xs, rfl, e2, e3⟩ := is_any ex j
  have e4 := e3.ints
  subst e4
  cases (is_any ex i1 : v = .int i)
  refine ⟨_, op_notIn_seq, a, _, rfl, .inl (.inl (.inl e2)), rfl, all_flat ns, ?_⟩
  show R (.bl (!inV (.int i) (ns.map V.int))) H
  rw [inV_int]
  exact k _ (.bl (!decide (i ∈ ns))) G H q (Grow.refl ex) rfl
theorem o_neg {i : Int} (q : Z (.int (-i))) : Op1 g X (unaryOp .USub) (.int i) Z := by
  intro G H v R ex i1 k
  cases (is_any ex i1 : v = .int i)
  exact ⟨_, un_neg, i, rfl, k _ (.int (-i)) G H q (Grow.refl ex) rfl⟩
/-! ### subscripts -/
theorem x_lst {ds : List D} {i : Int} {d : D} (h : atI ds i = some d) (q : Z d) : OpI g X (.lst ds) (.int i) Z := by
  intro G H v u R ex i1 j k
  have j' : u = .int i := is_any ex j
  subst j'
  have i2 : Is (if g = true then G else H) (.lst ds) v := i1
  obtain ⟨a, xs, rfl, e2, e3⟩ := i1
  have hh : H a = some (.lst xs) := by
    cases g with
    | true => exact ex _ _ e2
    | false => exact e2
  unfold atI at h
  cases hj : ixN ds.length i with
  | none => rw [hj] at h; cases h
  | some n =>
    rw [hj] at h
    obtain ⟨x, hx, ix⟩ := e3.get (show ds[n]? = some d from h)
    refine ⟨_, ix_list, a, xs, i, x, rfl, rfl, .inl (.inl hh), ?_, k x d q ix⟩
    unfold atI
    rw [e3.length, hj]
    exact hx
theorem x_tup {ds : List D} {i : Int} {d : D} (h : atI ds i = some d) (q : Z d) : OpI g X (.tup ds) (.int i) Z := by
  intro G H v u R ex i1 j k
  have j' : u = .int i := is_any ex j
  subst j'
  obtain ⟨a, xs, rfl, e2, e3⟩ := i1
  have hh : H a = some (.tup xs) := by
    cases g with
    | true => exact ex _ _ e2
    | false => exact e2
  unfold atI at h
  cases hj : ixN ds.length i with
  | none => rw [hj] at h; cases h
  | some n =>
    rw [hj] at h
    obtain ⟨x, hx, ix⟩ := e3.get (show ds[n]? = some d from h)
    refine ⟨_, ix_tup, a, xs, i, x, rfl, rfl, .inl (.inl hh), ?_, k x d q ix⟩
    unfold atI
    rw [e3.length, hj]
    exact hx
/-! ### built-ins -/
theorem isA_one {H : Hp} {d : D} {vs : List V} (h : IsA H [d] vs) : ∃ v, vs = [v] ∧ Is H d v := by
  obtain ⟨x, r, rfl, e, e2⟩ := h
  cases e2
  exact ⟨x, rfl, e⟩
theorem isA_two {H : Hp} {d e : D} {vs : List V} (h : IsA H [d, e] vs) : ∃ v u, vs = [v, u] ∧ Is H d v ∧ Is H e u := by
  obtain ⟨x, r, rfl, e, e2⟩ := h
  obtain ⟨y, rfl, e3⟩ := isA_one e2
  exact ⟨x, y, rfl, e, e3⟩
theorem c_lenL {ds : List D} (q : Z (.int (ds.length : Int))) : OpC g X (.builtin "len") [.lst ds] Z := by
  intro G H vs R ex i k
  obtain ⟨v, rfl, a, xs, rfl, e2, e3⟩ := isA_one (isA_any ex i)
  exact ⟨_, call_len_seq, a, xs, rfl, .inl (.inl (.inl e2)), by rw [e3.length]; exact k _ (.int (ds.length : Int)) G H q (Grow.refl ex) rfl⟩
theorem c_lenT {ds : List D} (q : Z (.int (ds.length : Int))) : OpC g X (.builtin "len") [.tup ds] Z := by
  intro G H vs R ex i k
  obtain ⟨v, rfl, a, xs, rfl, e2, e3⟩ := isA_one (isA_any ex i)
  exact ⟨_, call_len_seq, a, xs, rfl, .inr (.inl (.inl e2)), by rw [e3.length]; exact k _ (.int (ds.length : Int)) G H q (Grow.refl ex) rfl⟩
theorem c_lenS {s : Str} (hl : s.length ≤ sizeLine) (q : Z (.int (s.length : Int))) : OpC g X (.builtin "len") [.str s] Z := by
  intro G H vs R ex i k
  obtain ⟨v, rfl, e⟩ := isA_one (isA_any ex i)
  cases (e : v = .str s)
  exact ⟨_, call_len_str, s, rfl, hl, k _ (.int (s.length : Int)) G H q (Grow.refl ex) rfl⟩
theorem c_sum {ns : List Int} (hc : X.calm = true) (q : Z (.int ns.sum)) : OpC g X (.builtin "sum") [.lst (ns.map D.int)] Z := by
  intro G H vs R ex i k
  obtain ⟨v, rfl, a, xs, rfl, e2, e3⟩ := isA_one (isA_any ex i)
  have e4 := e3.ints
  subst e4
  exact ⟨_, cr_sum hc, a, ns, rfl, .inl (.inl e2), k _ (.int ns.sum) G H q (Grow.refl ex) rfl⟩
theorem c_all {bs : List Bool} (hc : X.calm = true) (q : Z (.bl (bs.all id))) : OpC g X (.builtin "all") [.lst (bs.map D.bl)] Z := by
  intro G H vs R ex i k
  obtain ⟨v, rfl, a, xs, rfl, e2, e3⟩ := isA_one (isA_any ex i)
  have e4 := e3.bls
  subst e4
  exact ⟨_, cr_all hc, a, bs, rfl, .inl (.inl e2), k _ (.bl (bs.all id)) G H q (Grow.refl ex) rfl⟩
theorem c_any {bs : List Bool} (hc : X.calm = true) (q : Z (.bl (bs.any id))) : OpC g X (.builtin "any") [.lst (bs.map D.bl)] Z := by
  intro G H vs R ex i k
  obtain ⟨v, rfl, a, xs, rfl, e2, e3⟩ := isA_one (isA_any ex i)
  have e4 := e3.bls
  subst e4
  exact ⟨_, cr_any hc, a, bs, rfl, .inl (.inl e2), k _ (.bl (bs.any id)) G H q (Grow.refl ex) rfl⟩
theorem c_max2 {i j : Int} (hc : X.calm = true) (q : Z (.int (if j > i then j else i))) : OpC g X (.builtin "max") [.int i, .int j] Z := by
  intro G H vs R ex i1 k
  obtain ⟨v, u, rfl, e1, e2⟩ := isA_two (isA_any ex i1)
  cases (e1 : v = .int i); cases (e2 : u = .int j)
  exact ⟨_, call_max2 hc, i, j, rfl, k _ (.int (if j > i then j else i)) G H q (Grow.refl ex) rfl⟩
theorem c_abs {i : Int} (q : Z (.int (if i < 0 then -i else i))) : OpC g X (.builtin "abs") [.int i] Z := by
  intro G H vs R ex i1 k
  obtain ⟨v, rfl, e1⟩ := isA_one (isA_any ex i1)
  cases (e1 : v = .int i)
  exact ⟨_, call_abs, i, rfl, k _ (.int (if i < 0 then -i else i)) G H q (Grow.refl ex) rfl⟩
theorem c_int {i : Int} (q : Z (.int i)) : OpC g X (.type "int") [.int i] Z := by
  intro G H vs R ex i1 k
  obtain ⟨v, rfl, e1⟩ := isA_one (isA_any ex i1)
  cases (e1 : v = .int i)
  exact ⟨_, call_int1, .inl ⟨i, rfl, k _ (.int i) G H q (Grow.refl ex) rfl⟩⟩
theorem c_intB {b : Bool} (q : Z (.int (if b then 1 else 0))) : OpC g X (.type "int") [.bl b] Z := by
  intro G H vs R ex i1 k
  obtain ⟨v, rfl, e1⟩ := isA_one (isA_any ex i1)
  cases (e1 : v = .bl b)
  exact ⟨_, call_int1, .inr ⟨b, rfl, k _ (.int (if b then 1 else 0)) G H q (Grow.refl ex) rfl⟩⟩
theorem c_list {ds : List D} (q : Z (.lst ds)) : OpC true X (.type "list") [.lst ds] Z := by
  intro G H vs R ex i k
  obtain ⟨v, rfl, a, xs, rfl, e2, e3⟩ := isA_one i
  refine ⟨_, call_list_of, a, xs, rfl, .inl (.inl (.inl (ex _ _ e2))), fun p hp => ?_⟩
  have gr := Grow.new (o := .lst xs) ex hp
  exact k _ (.lst ds) _ _ q gr ⟨p, xs, rfl, upd_same, IsA.mono gr.g _ _ e3⟩
theorem c_listT {ds : List D} (q : Z (.lst ds)) : OpC true X (.type "list") [.tup ds] Z := by
  intro G H vs R ex i k
  obtain ⟨v, rfl, a, xs, rfl, e2, e3⟩ := isA_one i
  refine ⟨_, call_list_of, a, xs, rfl, .inr (.inl (.inl (ex _ _ e2))), fun p hp => ?_⟩
  have gr := Grow.new (o := .lst xs) ex hp
  exact k _ (.lst ds) _ _ q gr ⟨p, xs, rfl, upd_same, IsA.mono gr.g _ _ e3⟩
theorem c_tuple {ds : List D} (q : Z (.tup ds)) : OpC true X (.type "tuple") [.lst ds] Z := by
  intro G H vs R ex i k
  obtain ⟨v, rfl, a, xs, rfl, e2, e3⟩ := isA_one i
  refine ⟨_, call_tuple_of, a, xs, rfl, .inl ⟨.inl (.inl (ex _ _ e2)), fun p hp => ?_⟩⟩
  have gr := Grow.new (o := .tup xs) ex hp
  exact k _ (.tup ds) _ _ q gr ⟨p, xs, rfl, upd_same, IsA.mono gr.g _ _ e3⟩
theorem c_tupleT {ds : List D} (q : Z (.tup ds)) : OpC true X (.type "tuple") [.tup ds] Z := by
  intro G H vs R ex i k
  obtain ⟨v, rfl, a, xs, rfl, e2, e3⟩ := isA_one i
  exact ⟨_, call_tuple_of, a, xs, rfl, .inr ⟨.inl (.inl (ex _ _ e2)), k _ (.tup ds) G H q (Grow.refl ex) ⟨a, xs, rfl, e2, e3⟩⟩⟩
/-- isinstance: the name of a value's class -/
def tyN : D → Option String
  | .non => some "NoneType"
  | .bl _ => some "bool"
  | .int _ => some "int"
  | .str _ => some "str"
  | .lst _ => some "list"
  | .tup _ => some "tuple"
  | .dic _ => some "dict"
  | _ => none
theorem tyX_of {K : PySem.W.Frag} {H : Hp} {d : D} {v : V} {n : String} (h : Is H d v) (e : tyN d = some n) : TyX K H v (.type n) := by
  cases d with
  | non => cases h; cases e; exact .base .non
  | bl b => cases h; cases e; exact .base (.bl b)
  | int i => cases h; cases e; exact .base (.int i)
  | str s => cases h; cases e; exact .base (.str s)
  | ty n => cases e
  | lst ds => obtain ⟨a, xs, rfl, e2, _⟩ := h; cases e; exact .base (.lst e2)
  | tup ds => obtain ⟨a, xs, rfl, e2, _⟩ := h; cases e; exact .base (.tup e2)
  | obj C fs => cases e
  | dic ds => obtain ⟨a, xs, rfl, e2, _⟩ := h; cases e; exact .base (.dK e2)
  | scr K ns => cases e
  | adr a => cases e
theorem c_isi {x : D} {n c : String} {b : Bool} (hx : tyN x = some n) (hk : kitB n c = some b) (q : Z (.bl b)) : OpC g X (.builtin "isinstance") [x, .ty c] Z := by
  intro G H vs R ex i k
  obtain ⟨v, u, rfl, e1, e2⟩ := isA_two (isA_any ex i)
  cases (e2 : u = .ty c)
  exact ⟨_, call_isi, v, .ty c, .type n, .type c, b, rfl, .ty c, tyX_of e1 hx, kit_ty hk, k _ (.bl b) G H q (Grow.refl ex) rfl⟩
theorem c_isi2 {x : D} {n c c2 : String} {b b2 : Bool} (hx : tyN x = some n) (hk : kitB n c = some b) (hk2 : kitB n c2 = some b2) (q : Z (.bl (b || b2))) : OpC g X (.builtin "isinstance") [x, .tup [.ty c, .ty c2]] Z := by
  intro G H vs R ex i k
  obtain ⟨v, u, rfl, e1, a, xs, rfl, e2, e3⟩ := isA_two (isA_any ex i)
  obtain ⟨y, z, rfl, f1, f2⟩ := isA_two e3
  cases (f1 : y = .ty c); cases (f2 : z = .ty c2)
  refine ⟨_, call_isiT, v, a, _, .type n, [.type c, .type c2], b || b2, rfl, e2, .cons (.ty c) (.cons (.ty c2) .nil), tyX_of e1 hx, ?_, k _ (.bl (b || b2)) G H q (Grow.refl ex) rfl⟩
  refine kitAny_cons (kit_ty hk) (fun e => ?_) (fun e => by rw [e]; rfl)
  subst e
  refine kitAny_cons (kit_ty hk2) (fun e => ?_) (fun e => by rw [e]; rfl)
  subst e
  rfl
end
end DD

namespace DD
open PySem PySem.Spec PyProof.Rows L2

/-! ### what is walked -/
def wI (X : Cx) (tg iter : Expr) : TI := fun σ H R => ∀ pins s, Inv X pins σ H s → wpAny (model X.prog X.w) X.A (eval iter X.env) (fun v s1 => wpAny (model X.prog X.w) X.A (pyIter v) (PIE X pins σ tg R) X.xe s1) X.xe s
theorem pi_w {X : Cx} {tg iter : Expr} : PI X tg iter (wI X tg iter) := ⟨fun pins s σ H R I h => h pins s I⟩
theorem wI_of {X : Cx} {tg iter : Expr} {t : TI} {σ : L2.St} {H : Hp} {R : It → Hp → Prop} (p : PI X tg iter t) (h : t σ H R) : wI X tg iter σ H R := fun pins s I => p.run pins s σ H R I h
/-- the items are the data ds, while the ghost G0 stands -/
def WalkD (G0 : Hp) (J : It) (ds : List D) : Prop :=
  Walk J ds.length (fun H => Ex G0 H) (fun i H x H'' => ∀ d, ds[i]? = some d → ∀ G, Ex G0 G → Ex G H → ∃ G'', Grow G H G'' H'' ∧ Is G'' d x)
def WI (p : Bool) (X : Cx) (tg iter : Expr) (ρ : Rho) (Q : List D → Rho → Prop) : Prop :=
  ∀ (B : Base) (σ : L2.St) (G H : Hp), Sta B σ ρ G H → ∀ R : It → Hp → Prop,
    (∀ J ds ρ' G' H', Q ds ρ' → Sta B σ ρ' G' H' → Ex G G' → (p = true → ρ' = ρ ∧ Grow G H G' H') → WalkD G' J ds → R J H') → wI X tg iter σ H R
section
variable {p g : Bool} {X : Cx} {ρ : Rho} {QI : List D → Rho → Prop} {tg : Expr}
theorem wi_lst {e : Expr} (h : W p true X e ρ fun d ρ' => ∃ ds, d = .lst ds ∧ QI ds ρ') : WI p X tg e ρ QI := fun B σ G H S R r => by
  refine wI_of (pi_list pe_w) ?_
  refine h B σ G H S _ fun v d ρ' G' H' q S' x pu i => ?_
  obtain ⟨ds, rfl, q⟩ := q
  obtain ⟨a, xs, rfl, e2, e3⟩ := i
  refine ⟨a, rfl, ⟨xs, .inl (.inl (S'.ex _ _ e2))⟩, r _ ds ρ' G' H' q S' x pu ?_⟩
  unfold WalkD
  rw [← e3.length]
  refine walk_list.mono (fun H h => .inl (.inl (h _ _ e2))) fun i Hc y H'' hi hx ya d hd Gc g1 g2 => ?_
  obtain ⟨rfl, hy⟩ := ya
  obtain ⟨z, hz, iz⟩ := e3.get hd
  rw [hz] at hy
  cases hy
  exact ⟨Gc, Grow.refl g2, Is.mono g1 _ _ iz⟩
theorem wi_tup {e : Expr} (h : W p true X e ρ fun d ρ' => ∃ ds, d = .tup ds ∧ QI ds ρ') : WI p X tg e ρ QI := fun B σ G H S R r => by
  refine wI_of (pi_tup pe_w) ?_
  refine h B σ G H S _ fun v d ρ' G' H' q S' x pu i => ?_
  obtain ⟨ds, rfl, q⟩ := q
  obtain ⟨a, xs, rfl, e2, e3⟩ := i
  refine ⟨a, rfl, ⟨xs, .inl (.inl (S'.ex _ _ e2))⟩, r _ ds ρ' G' H' q S' x pu ?_⟩
  unfold WalkD
  rw [← e3.length]
  refine walk_tup.mono (fun H h => .inl (.inl (h _ _ e2))) fun i Hc y H'' hi hx ya d hd Gc g1 g2 => ?_
  obtain ⟨rfl, hy⟩ := ya
  obtain ⟨z, hz, iz⟩ := e3.get hd
  rw [hz] at hy
  cases hy
  exact ⟨Gc, Grow.refl g2, Is.mono g1 _ _ iz⟩
/-- lo, lo + 1, .. -/
def rng (lo : Int) (n : Nat) : List D := (List.range n).map fun i : Nat => D.int (lo + i)
theorem rng_len (lo : Int) (n : Nat) : (rng lo n).length = n := by simp [rng]
theorem rng_get {lo : Int} {n i : Nat} {d : D} (h : (rng lo n)[i]? = some d) : i < n ∧ d = .int (lo + i) := by
  unfold rng at h
  rw [List.getElem?_map] at h
  by_cases hi : i < n
  · rw [List.getElem?_range hi] at h
    cases h
    exact ⟨hi, rfl⟩
  · rw [List.getElem?_eq_none (by simpa using hi)] at h
    cases h
theorem walkD_rng {G : Hp} {lo : Int} {n : Nat} : WalkD G (Itr lo n) (rng lo n) := by
  unfold WalkD
  rw [rng_len]
  refine walk_range.mono (fun _ _ => trivial) fun i Hc y H'' hi hx ya d hd Gc g1 g2 => ?_
  obtain ⟨rfl, rfl⟩ := ya
  obtain ⟨_, rfl⟩ := rng_get hd
  exact ⟨Gc, Grow.refl g2, rfl⟩
theorem wi_rng1 {a : Expr} {pp pos : Pos} (hg : Gl X "range") (hm : X.mg "range" = none) (h : WA p false X [a] ρ fun ds ρ' => ∃ j : Int, ds = [.int j] ∧ (-(2 ^ 62) ≤ j ∧ j < 2 ^ 62) ∧ QI (rng 0 j.toNat) ρ')
    (hs : starEach [a] X.env = [(false, eval a X.env)] := by rfl) : WI p X tg (.Call (.Name "range" pp) [a] [] pos) ρ QI := fun B σ G H S R r => by
  refine wI_of (pi_range1 hg hm pa_w hs) ?_
  refine h B σ G H S _ fun vs ds ρ' G' H' q S' x pu i => ?_
  obtain ⟨j, rfl, b, q⟩ := q
  obtain ⟨v, rfl, e⟩ := isA_one i
  cases (e : v = .int j)
  exact ⟨j, rfl, b.1, b.2, r _ _ ρ' G' H' q S' x pu walkD_rng⟩
theorem wi_rng2 {a b : Expr} {pp pos : Pos} (hg : Gl X "range") (hm : X.mg "range" = none) (h : WA p false X [a, b] ρ fun ds ρ' => ∃ i j : Int, ds = [.int i, .int j] ∧ (-(2 ^ 62) ≤ i ∧ i < 2 ^ 62 ∧ -(2 ^ 62) ≤ j ∧ j < 2 ^ 62) ∧ QI (rng i (j - i).toNat) ρ')
    (hs : starEach [a, b] X.env = [(false, eval a X.env), (false, eval b X.env)] := by rfl) (hs2 : starEach [b] X.env = [(false, eval b X.env)] := by rfl) : WI p X tg (.Call (.Name "range" pp) [a, b] [] pos) ρ QI := fun B σ G H S R r => by
  refine wI_of (pi_range2 hg hm pa_w hs hs2) ?_
  refine h B σ G H S _ fun vs ds ρ' G' H' q S' x pu i => ?_
  obtain ⟨k, j, rfl, b, q⟩ := q
  obtain ⟨v, u, rfl, e, e2⟩ := isA_two i
  cases (e : v = .int k); cases (e2 : u = .int j)
  exact ⟨k, j, rfl, b, r _ _ ρ' G' H' q S' x pu walkD_rng⟩
/-- pairs -/
theorem walkD_pair {G : Hp} {J : It} {xs ys : List D} {vx vy : Nat → Option V} {n : Nat} (hn : n = min xs.length ys.length) {C : Hp → Prop} (w : Walk J n C (YPair vx vy)) (hC : ∀ H, Ex G H → C H)
    (hx : ∀ i d, xs[i]? = some d → ∃ v, vx i = some v ∧ Is G d v) (hy : ∀ i d, ys[i]? = some d → ∃ v, vy i = some v ∧ Is G d v) : WalkD G J ((xs.zip ys).map fun q => D.tup [q.1, q.2]) := by
  unfold WalkD
  rw [List.length_map, List.length_zip, ← hn]
  refine w.mono hC fun i Hc y H'' hi hC ya d hd Gc g1 g2 => ?_
  obtain ⟨T, x, z, rfl, hT, rfl, e1, e2⟩ := ya
  rw [List.getElem?_map] at hd
  cases hz : (xs.zip ys)[i]? with
  | none => rw [hz] at hd; cases hd
  | some q =>
    rw [hz] at hd
    cases hd
    rw [List.getElem?_zip_eq_some] at hz
    obtain ⟨v, f1, f2⟩ := hx i _ hz.1
    obtain ⟨u, f3, f4⟩ := hy i _ hz.2
    rw [e1] at f1; cases f1
    rw [e2] at f3; cases f3
    have gr := Grow.new (o := .tup [x, z]) g2 hT
    exact ⟨_, gr, T, [x, z], rfl, upd_same, x, [z], rfl, Is.mono (g1.trans gr.g) _ _ f2, z, [], rfl, Is.mono (g1.trans gr.g) _ _ f4, rfl⟩
theorem wi_zip {a b : Expr} {elts : List Expr} {kk : Nat} {pp pos tpos : Pos} (hg : Gl X "zip") (hm : X.mg "zip" = none) (h : WA p true X [a, b] ρ fun ds ρ' => ∃ xs ys, ds = [.lst xs, .lst ys] ∧ QI ((xs.zip ys).map fun q => D.tup [q.1, q.2]) ρ')
    (hs : starEach [a, b] X.env = (false, eval a X.env) :: starEach [b] X.env := by rfl) (hpl : (backTo pos (starEach [b] X.env)).any (·.1) = false := by rfl) : WI p X (.Tuple elts kk tpos) (.Call (.Name "zip" pp) [a, b] [] pos) ρ QI := fun B σ G H S R r => by
  refine wI_of (pi_zip hg hm pa_w hs hpl) ?_
  refine h B σ G H S _ fun vs ds ρ' G' H' q S' x pu i => ?_
  obtain ⟨xs, ys, rfl, q⟩ := q
  obtain ⟨v, u, rfl, ⟨l1, as, rfl, e2, e3⟩, l2, bs, rfl, f2, f3⟩ := isA_two i
  refine ⟨l1, l2, as, bs, rfl, .inl (.inl (S'.ex _ _ e2)), .inl (.inl (S'.ex _ _ f2)), r _ _ ρ' G' H' q S' x pu ?_⟩
  exact walkD_pair (n := min xs.length ys.length) rfl (walk_zip (xs := as) (ys := bs) (by rw [e3.length, f3.length])) (fun H h => ⟨.inl (.inl (h _ _ e2)), .inl (.inl (h _ _ f2))⟩) (fun i d hd => e3.get hd) (fun i d hd => f3.get hd)
theorem wi_enum {a : Expr} {elts : List Expr} {kk : Nat} {pp pos tpos : Pos} (hg : Gl X "enumerate") (hm : X.mg "enumerate" = none) (h : WA p true X [a] ρ fun ds ρ' => ∃ xs, ds = [.lst xs] ∧ QI (((rng 0 xs.length).zip xs).map fun q => D.tup [q.1, q.2]) ρ')
    (hs : starEach [a] X.env = [(false, eval a X.env)] := by rfl) : WI p X (.Tuple elts kk tpos) (.Call (.Name "enumerate" pp) [a] [] pos) ρ QI := fun B σ G H S R r => by
  refine wI_of (pi_enum hg hm pa_w hs) ?_
  refine h B σ G H S _ fun vs ds ρ' G' H' q S' x pu i => ?_
  obtain ⟨xs, rfl, q⟩ := q
  obtain ⟨v, rfl, l1, as, rfl, e2, e3⟩ := isA_one i
  refine ⟨l1, as, rfl, .inl (.inl (S'.ex _ _ e2)), r _ _ ρ' G' H' q S' x pu ?_⟩
  refine walkD_pair (n := as.length) (by rw [rng_len, e3.length, Nat.min_self]) walk_enum (fun H h => .inl (.inl (h _ _ e2))) (fun i d hd => ?_) (fun i d hd => e3.get hd)
  obtain ⟨_, rfl⟩ := rng_get hd
  exact ⟨_, rfl, by show V.int _ = V.int _; rw [Int.zero_add]⟩
end

/-! ### targets -/
def gMany : List Nat → TGs
  | [] => gNil
  | i :: is => gCons (gName i) (gMany is)
def setAll : Rho → List Nat → List D → Rho
  | ρ, i :: is, d :: ds => setAll (ρ.set i (.val d)) is ds
  | ρ, _, _ => ρ
inductive Tg where
  | one (i : Nat)
  | two (i j : Nat)
  | many (is : List Nat)
def Tg.g (K : PySem.W.Frag) : Tg → TG
  | .one i => gName i
  | .two i j => gTup K 2 (gCons (gName i) (gCons (gName j) gNil))
  | .many is => gTup K is.length (gMany is)
def Tg.eff : Tg → D → Rho → Option Rho
  | .one i, d, ρ => some (ρ.set i (.val d))
  | .two i j, .tup [a, b], ρ => some ((ρ.set i (.val a)).set j (.val b))
  | .two _ _, _, _ => none
  | .many is, .tup ds, ρ => if ds.length = is.length then some (setAll ρ is ds) else none
  | .many _, _, _ => none
def Tg.slots : Tg → List Nat
  | .one i => [i]
  | .two i j => [i, j]
  | .many is => is
theorem run_many {B : Base} {G H0 H : Hp} {R : L2.St → Hp → Prop} : ∀ (is : List Nat) (ds : List D) (xs : List V) (σ : L2.St) (ρ : Rho), Sta B σ ρ G H0 → IsA G ds xs → ds.length = is.length →
    (∀ σ', Sta B σ' (setAll ρ is ds) G H0 → (∀ vs : List Nat, (∀ i ∈ is, i ∈ vs) → (∀ (τ : L2.St) (i : Nat) (o : Option V), i ∈ vs → wipe (τ.set i o) vs = wipe τ vs) → wipe σ' vs = wipe σ vs) → R σ' H) → gMany is xs σ H R
  | [], [], xs, σ, ρ, S, h, _, r => by
    cases h
    exact ⟨rfl, r σ S fun _ _ _ => rfl⟩
  | [], d :: ds, _, _, _, _, _, l, _ => by cases l
  | i :: is, [], _, _, _, _, _, l, _ => by cases l
  | i :: is, d :: ds, xs, σ, ρ, S, ⟨x, xr, e1, e2, e3⟩, l, r => by
    subst e1
    refine ⟨x, xr, rfl, ?_⟩
    show gMany is xr (σ.set i (some x)) H R
    refine run_many is ds xr _ _ (S.set e2) e3 (by simpa using l) fun σ' S' hw => r σ' S' fun vs hv hs => ?_
    rw [hw vs (fun j hj => hv j (List.mem_cons_of_mem _ hj)) hs, hs _ _ _ (hv i List.mem_cons_self)]
theorem Tg.run {K : PySem.W.Frag} {T : Tg} {d : D} {ρ ρ' : Rho} (he : T.eff d ρ = some ρ') {B : Base} {σ : L2.St} {G H : Hp} {v : V} (S : Sta B σ ρ G H) (h : Is G d v) {R : L2.St → Hp → Prop}
    (r : ∀ σ', Sta B σ' ρ' G H → (∀ vs, (∀ i ∈ T.slots, i ∈ vs) → wipe σ' vs = wipe σ vs) → R σ' H) (hw : ∀ (τ : L2.St) (vs : List Nat) (i : Nat) (o : Option V), i ∈ vs → wipe (τ.set i o) vs = wipe τ vs) : T.g K v σ H R := by
  cases T with
  | one i =>
    cases he
    exact r _ (S.set h) fun vs hv => hw _ _ _ _ (hv i (by simp [Tg.slots]))
  | two i j =>
    have hd : ∃ a b, d = .tup [a, b] := by
      cases d with
      | tup ds =>
        match ds, he with
        | [a, b], _ => exact ⟨a, b, rfl⟩
      | _ => cases he
    obtain ⟨a, b, rfl⟩ := hd
    cases he
    obtain ⟨l, xs, rfl, e2, e3⟩ := h
    obtain ⟨x, y, rfl, f1, f2⟩ := isA_two e3
    refine ⟨l, _, rfl, .inl (.inl (S.ex _ _ e2)), rfl, x, [y], rfl, y, [], rfl, rfl, ?_⟩
    refine r _ ((S.set f1).set f2) fun vs hv => ?_
    rw [hw _ _ _ _ (hv j (by simp [Tg.slots])), hw _ _ _ _ (hv i (by simp [Tg.slots]))]
  | many is =>
    have hd : ∃ ds, d = .tup ds ∧ ds.length = is.length ∧ ρ' = setAll ρ is ds := by
      cases d with
      | tup ds =>
        by_cases hl : ds.length = is.length
        · have he : (if ds.length = is.length then some (setAll ρ is ds) else none) = some ρ' := he
          rw [if_pos hl] at he
          cases he
          exact ⟨ds, rfl, hl, rfl⟩
        · have he : (if ds.length = is.length then some (setAll ρ is ds) else none) = some ρ' := he
          rw [if_neg hl] at he
          cases he
      | _ => cases he
    obtain ⟨ds, rfl, hl, rfl⟩ := hd
    obtain ⟨l, xs, rfl, e2, e3⟩ := h
    exact ⟨l, xs, rfl, .inl (.inl (S.ex _ _ e2)), by rw [e3.length, hl], run_many is ds xs σ ρ S e3 hl fun σ' S' z => r σ' S' fun vs hv => z vs hv fun τ i o hi => hw τ vs i o hi⟩
theorem Tg.run' {K : PySem.W.Frag} {T : Tg} {d : D} {ρ ρ' : Rho} (he : T.eff d ρ = some ρ') {B : Base} {σ : L2.St} {G H0 H : Hp} {v : V} (S : Sta B σ ρ G H0) (ex : Ex G H) (h : Is G d v) {R : L2.St → Hp → Prop}
    (r : ∀ σ', Sta B σ' ρ' G H0 → (∀ vs, (∀ i ∈ T.slots, i ∈ vs) → wipe σ' vs = wipe σ vs) → R σ' H) (hw : ∀ (τ : L2.St) (vs : List Nat) (i : Nat) (o : Option V), i ∈ vs → wipe (τ.set i o) vs = wipe τ vs) : T.g K v σ H R := by
  cases T with
  | one i =>
    cases he
    exact r _ (S.set h) fun vs hv => hw _ _ _ _ (hv i (by simp [Tg.slots]))
  | two i j =>
    have hd : ∃ a b, d = .tup [a, b] := by
      cases d with
      | tup ds =>
        match ds, he with
        | [a, b], _ => exact ⟨a, b, rfl⟩
      | _ => cases he
    obtain ⟨a, b, rfl⟩ := hd
    cases he
    obtain ⟨l, xs, rfl, e2, e3⟩ := h
    obtain ⟨x, y, rfl, f1, f2⟩ := isA_two e3
    refine ⟨l, _, rfl, .inl (.inl (ex _ _ e2)), rfl, x, [y], rfl, y, [], rfl, rfl, ?_⟩
    refine r _ ((S.set f1).set f2) fun vs hv => ?_
    rw [hw _ _ _ _ (hv j (by simp [Tg.slots])), hw _ _ _ _ (hv i (by simp [Tg.slots]))]
  | many is =>
    have hd : ∃ ds, d = .tup ds ∧ ds.length = is.length ∧ ρ' = setAll ρ is ds := by
      cases d with
      | tup ds =>
        by_cases hl : ds.length = is.length
        · have he : (if ds.length = is.length then some (setAll ρ is ds) else none) = some ρ' := he
          rw [if_pos hl] at he
          cases he
          exact ⟨ds, rfl, hl, rfl⟩
        · have he : (if ds.length = is.length then some (setAll ρ is ds) else none) = some ρ' := he
          rw [if_neg hl] at he
          cases he
      | _ => cases he
    obtain ⟨ds, rfl, hl, rfl⟩ := hd
    obtain ⟨l, xs, rfl, e2, e3⟩ := h
    exact ⟨l, xs, rfl, .inl (.inl (ex _ _ e2)), by rw [e3.length, hl], run_many is ds xs σ ρ S e3 hl fun σ' S' z => r σ' S' fun vs hv => z vs hv fun τ i o hi => hw τ vs i o hi⟩
theorem wipe_get : ∀ (σ : L2.St) (vs : List Nat) (i : Nat), (wipe σ vs)[i]? = if i ∈ vs then (if i < σ.length then some none else none) else σ[i]?
  | σ, [], i => by simp [wipe]
  | σ, v :: vs, i => by
    show ((wipe σ vs).set v none)[i]? = _
    rw [List.getElem?_set, wipe_length, wipe_get σ vs i]
    by_cases h : v = i
    · subst h
      simp
    · rw [if_neg h]
      have : (i ∈ v :: vs) = (i ∈ vs) := by
        rw [List.mem_cons, eq_iff_iff]
        exact ⟨fun q => q.resolve_left fun z => h z.symm, .inr⟩
      simp only [this]
theorem wipe_set (σ : L2.St) (vs : List Nat) (i : Nat) (o : Option V) (h : i ∈ vs) : wipe (σ.set i o) vs = wipe σ vs := by
  apply List.ext_getElem?
  intro j
  rw [wipe_get, wipe_get, List.length_set]
  by_cases hj : j ∈ vs
  · rw [if_pos hj, if_pos hj]
  · rw [if_neg hj, if_neg hj]
    rw [List.getElem?_set_ne]
    rintro rfl
    exact hj h
/-- the data of slots forgotten -/
def wipeR (ρ : Rho) : List Nat → Rho
  | [] => ρ
  | v :: vs => (wipeR ρ vs).set v .un
theorem Sta.un {B : Base} {σ : L2.St} {ρ : Rho} {G H : Hp} (S : Sta B σ ρ G H) {i : Nat} {v : Option V} : Sta B (σ.set i v) (ρ.set i .un) G H := by
  refine ⟨by rw [List.length_set, List.length_set]; exact S.len, S.ex, S.fr, S.kn, S.nw, S.bg, S.bx, S.pot, fun j s w h1 h2 => ?_, fun j k l1 l2 o1 o2 jk h1 h2 => ?_⟩
  · by_cases q : i = j
    · subst q
      rw [List.getElem?_set] at h1
      simp only [if_true] at h1
      split at h1
      · cases h1; trivial
      · cases h1
    · rw [List.getElem?_set_ne q] at h1 h2
      exact S.env j s w h1 h2
  · have nj : i ≠ j := fun q => by
      subst q
      rw [List.getElem?_set] at h1
      simp only [if_true] at h1
      split at h1 <;> cases h1
    have nk : i ≠ k := fun q => by
      subst q
      rw [List.getElem?_set] at h2
      simp only [if_true] at h2
      split at h2 <;> cases h2
    rw [List.getElem?_set_ne nj] at h1
    rw [List.getElem?_set_ne nk] at h2
    rw [List.getElem?_set_ne nj, List.getElem?_set_ne nk]
    exact S.dist j k l1 l2 o1 o2 jk h1 h2
theorem Sta.wipe {B : Base} {σ : L2.St} {ρ : Rho} {G H : Hp} (S : Sta B σ ρ G H) : ∀ vs : List Nat, Sta B (L2.wipe σ vs) (wipeR ρ vs) G H
  | [] => S
  | v :: vs => (Sta.wipe S vs).un

/-! ### comprehensions -/
section
variable {p g : Bool} {X : Cx} {ρ : Rho} {Q : D → Rho → Prop}
/-- the block's contexts -/
abbrev Blk (X : Cx) (scope : Scope) (s : Shared) (H : Hp) (C : Addr) (cl : List (Str × Addr)) (fp : List Addr) : Cx := X.blk s H scope (compEnvC scope cl C X.env) fp
def cE (X : Cx) (scope : Scope) (e : Expr) : TE := fun σ H Q => ∀ s H0 C cl fp, wE (Blk X scope s H0 C cl fp) e σ H Q
theorem pe_c {scope : Scope} {e : Expr} (s : Shared) (H0 : Hp) (C : Addr) (cl : List (Str × Addr)) (fp : List Addr) : PE (X.blk s H0 scope (compEnvC scope cl C X.env) fp) e (cE X scope e) := ⟨fun pins s1 σ H Q I h => h s H0 C cl fp pins s1 I⟩
def cT (X : Cx) (scope : Scope) (e : Expr) : TT := fun σ H Q => ∀ s H0 C cl fp, wT (Blk X scope s H0 C cl fp) e σ H Q
theorem pt_c {scope : Scope} {e : Expr} (s : Shared) (H0 : Hp) (C : Addr) (cl : List (Str × Addr)) (fp : List Addr) : PTs (X.blk s H0 scope (compEnvC scope cl C X.env) fp) [e] (cT X scope e) := pts_one ⟨fun pins s1 σ H Q I h => h s H0 C cl fp pins s1 I⟩
theorem IsA.snoc {H : Hp} {ds : List D} {xs : List V} {d : D} {x : V} (h : IsA H ds xs) (i : Is H d x) : IsA H (ds ++ [d]) (xs ++ [x]) := h.append (IsA.one i)
/-- what stands between two turns: the list at D so far, the ghost -/
def LcW (G1 H1 : Hp) (D : Addr) (outs : List DD.D) (Hc : Hp) : Prop := H1 D = none ∧ ∃ Gi acc, Hc D = some (.lst acc) ∧ Gi D = none ∧ Grow G1 H1 Gi Hc ∧ IsA Gi outs acc
/-- the loop of a comprehension, whatever its tests: turn i adds o i -/
theorem lc_go {B : Base} {σ : L2.St} {G1 H1 : Hp} {J : It} {ds : List DD.D} {T : Tg} {tt : TT} {te : TE} {vs : List Nat} {Qd : V → Hp → Prop} (S : Sta B σ ρ G1 H1) (w : WalkD G1 J ds) (hT : ∀ i ∈ T.slots, i ∈ vs)
    (bt : DD.D → Bool) (f : DD.D → DD.D) (hlen : ds.length ≤ 40000)
    (turn : ∀ d ∈ ds, ∃ ρi, T.eff d (wipeR ρ vs) = some ρi ∧ (∀ σ' G H, Sta B σ' ρi G H → ∀ R : Bool → Hp → Prop, (∀ G' H', Sta B σ' ρi G' H' → Grow G H G' H' → R (bt d) H') → tt σ' H R) ∧
      (bt d = true → ∀ σ' G H, Sta B σ' ρi G H → ∀ R : VK, (∀ v G' H', Sta B σ' ρi G' H' → Grow G H G' H' → Is G' (f d) v → R v H') → te σ' H R))
    (hd : ∀ a G' H', Grow G1 H1 G' H' → Is G' (.lst ((ds.filter bt).map f)) (.ref a) → Qd (.ref a) H') (D : Addr) (hD : H1 D = none) :
    ∃ W : Nat → Nat → Hp → Prop, (∃ m, W 0 m (L2.upd H1 D (.lst []))) ∧ ∀ i m H, W i m H →
      (J.stop i H ∧ Qd (.ref D) H) ∨ (J.go i H ∧ ∃ Nx : Hp → Prop, (∀ H', Nx H' → ∃ m', m' < m ∧ W (i + 1) m' H') ∧ ∀ x H', J.yld i H x H' → T.g X.K x (wipe σ vs) H' fun σ2 H2 => wipe σ2 vs = wipe σ vs ∧ tt σ2 H2 fun b H3 =>
        if b = true then te σ2 H3 fun y H4 => ∃ acc, H4 D = some (.lst acc) ∧ acc.length < sizeLine ∧ Nx (L2.upd H4 D (.lst (acc ++ [y]))) else Nx H3) := by
  have hsz : ∀ i, (((ds.take i).filter bt).map f).length < sizeLine := fun i => by
    have h1 : (((ds.take i).filter bt).map f).length ≤ 40000 := by
      rw [List.length_map]
      refine Nat.le_trans (List.length_filter_le _ _) ?_
      rw [List.length_take]
      omega
    exact Nat.lt_of_le_of_lt h1 (by decide)
  refine lc_it w (fun i H => LcW G1 H1 D (((ds.take i).filter bt).map f) H) ?_ (fun i H _ h => ?_) (fun i x H H' hi h y => ?_) (fun H h => ?_)
  · refine ⟨hD, G1, [], upd_same, ?_, Grow.own S.ex hD, rfl⟩
    cases r : G1 D with
    | none => rfl
    | some u => rw [S.ex D u r] at hD; cases hD
  · obtain ⟨_, Gi, acc, _, _, gr, _⟩ := h
    exact gr.g.trans gr.x
  · obtain ⟨_, Gi, acc, hacc, gD, gr, ia⟩ := h
    have hget : ds[i]? = some ds[i] := List.getElem?_eq_getElem hi
    obtain ⟨G2, gr2, ix⟩ := y _ hget Gi gr.g gr.x
    obtain ⟨ρi, he, ht, hel⟩ := turn ds[i] (List.getElem_mem hi)
    have g2D : G2 D = none := by
      cases r : G2 D with
      | none => rfl
      | some u =>
        rcases gr2.n D u r with q | q
        · rw [gD] at q; cases q
        · rw [hacc] at q; cases q
    have grA := gr.trans gr2
    refine Tg.run he ((S.grow grA).wipe vs) ix (fun σ' S' hwp => ?_) (fun τ us j o hj => wipe_set τ us j o hj)
    have hidem : wipe (wipe σ vs) vs = wipe σ vs := by
      apply List.ext_getElem?
      intro j
      rw [wipe_get, wipe_length, wipe_get]
      by_cases hj : j ∈ vs
      · simp [hj]
      · simp [hj]
    refine ⟨(hwp vs hT).trans hidem, ?_⟩
    refine ht σ' G2 H' S' _ fun G3 H3 S3 gr3 => ?_
    have g3D : G3 D = none ∧ H3 D = some (.lst acc) := by
      have h3 : H3 D = some (.lst acc) := gr3.h _ _ (gr2.h _ _ hacc)
      refine ⟨?_, h3⟩
      cases r : G3 D with
      | none => rfl
      | some u =>
        rcases gr3.n D u r with q | q
        · rw [g2D] at q; cases q
        · rw [gr2.h _ _ hacc] at q; cases q
    have etake : ds.take (i + 1) = ds.take i ++ [ds[i]] := by rw [List.take_add_one, hget]; rfl
    cases hb : bt ds[i] with
    | false =>
      show LcW G1 H1 D (((ds.take (i + 1)).filter bt).map f) H3
      rw [etake, List.filter_append, List.filter_cons, if_neg (by rw [hb]; decide)]
      show LcW G1 H1 D (((ds.take i).filter bt ++ []).map f) H3
      rw [List.append_nil]
      exact ⟨hD, G3, acc, g3D.2, g3D.1, grA.trans gr3, IsA.mono (gr2.g.trans gr3.g) _ _ ia⟩
    | true =>
      show te σ' H3 fun y H4 => ∃ acc, H4 D = some (.lst acc) ∧ acc.length < sizeLine ∧ LcW G1 H1 D (((ds.take (i + 1)).filter bt).map f) (L2.upd H4 D (.lst (acc ++ [y])))
      refine hel hb σ' G3 H3 S3 _ fun v G4 H4 S4 gr4 iv => ?_
      have h4 : H4 D = some (.lst acc) := gr4.h _ _ g3D.2
      have g4D : G4 D = none := by
        cases r : G4 D with
        | none => rfl
        | some u =>
          rcases gr4.n D u r with q | q
          · rw [g3D.1] at q; cases q
          · rw [g3D.2] at q; cases q
      refine ⟨acc, h4, by rw [ia.length]; exact hsz i, ?_⟩
      rw [etake, List.filter_append, List.filter_cons, if_pos hb, List.filter_nil, List.map_append]
      have grT := (grA.trans gr3).trans gr4
      refine ⟨hD, G4, acc ++ [v], upd_same, g4D, ⟨grT.g, fun a o e => ?_, fun a o e => ?_, grT.n⟩, ?_⟩
      · have q : a ≠ D := by rintro rfl; rw [hD] at e; cases e
        rw [upd_ne q]; exact grT.h a o e
      · have q : a ≠ D := by rintro rfl; rw [g4D] at e; cases e
        rw [upd_ne q]; exact grT.x a o e
      · exact IsA.snoc (IsA.mono ((gr2.g.trans gr3.g).trans gr4.g) _ _ ia) iv
  · obtain ⟨_, Gi, acc, hacc, gD, gr, ia⟩ := h
    rw [List.take_length] at ia
    have ex := Ex.new (o := HO.lst acc) gD
    refine hd D (L2.upd Gi D (.lst acc)) H ⟨gr.g.trans ex, gr.h, fun a o e => ?_, fun a o e => ?_⟩ ⟨D, acc, rfl, upd_same, IsA.mono ex _ _ ia⟩
    · by_cases q : a = D
      · subst q; rw [upd_same] at e; rw [hacc]; exact e
      · rw [upd_ne q] at e; exact gr.x a o e
    · by_cases q : a = D
      · subst q; exact .inr hD
      · rw [upd_ne q] at e; exact gr.n a o e
/-- [elt for tg in iter] -/
theorem x_lc {elt tg iter : Expr} {scope : Scope} {own : List (Str × Nat)} {T : Tg} (f : DD.D → DD.D) (hT : ∀ i ∈ T.slots, i ∈ own.map (·.2))
    (h : WI p X tg iter ρ fun ds ρ1 => ds.length ≤ 40000 ∧ (∀ d ∈ ds, ∃ ρi, T.eff d (wipeR ρ1 (own.map (·.2))) = some ρi ∧ ∀ s H C cl fp, W true true (Blk X scope s H C cl fp) elt ρi fun y _ => y = f d) ∧ Q (.lst (ds.map f)) ρ1) :
    WX p g (tLc (wI X tg iter) (T.g X.K) tYes (cE X scope elt) (own.map (·.2))) ρ Q := fun B σ G H S R r => by
  refine h B σ G H S _ fun J ds ρ1 G1 H1 q S1 x pu wk D hD => ?_
  obtain ⟨hl, turn, q⟩ := q
  refine lc_go (X := X) (Qd := R) S1 wk hT (fun _ => true) f hl (fun d hd => ?_) (fun a G' H' gr i => ?_) D hD
  · obtain ⟨ρi, he, hw⟩ := turn d hd
    refine ⟨ρi, he, fun σ' G2 H2 S2 R2 r2 => r2 G2 H2 S2 (Grow.refl S2.ex), fun _ σ' G2 H2 S2 R2 r2 s H0 C cl fp => ?_⟩
    refine hw s H0 C cl fp B σ' G2 H2 S2 R2 fun v y ρ3 G3 H3 e S3 x3 p3 i3 => ?_
    subst e
    have e3 := (p3 rfl).1
    subst e3
    exact r2 v G3 H3 S3 (p3 rfl).2 i3
  · have e : ds.filter (fun _ => true) = ds := List.filter_eq_self.mpr fun _ _ => rfl
    rw [e] at i
    exact r _ _ ρ1 G' H' q (S1.grow gr) (x.trans gr.g) (fun z => ⟨(pu z).1, (pu z).2.trans gr⟩) (is_h (S1.grow gr) i)
/-- [elt for tg in iter if c] -/
theorem x_lcIf {elt tg iter c : Expr} {scope : Scope} {own : List (Str × Nat)} {T : Tg} (bt : DD.D → Bool) (f : DD.D → DD.D) (hT : ∀ i ∈ T.slots, i ∈ own.map (·.2))
    (h : WI p X tg iter ρ fun ds ρ1 => ds.length ≤ 40000 ∧ (∀ d ∈ ds, ∃ ρi, T.eff d (wipeR ρ1 (own.map (·.2))) = some ρi ∧ ∀ s H C cl fp, WT true (Blk X scope s H C cl fp) c ρi (fun b _ => b = bt d) ∧ (bt d = true → W true true (Blk X scope s H C cl fp) elt ρi fun y _ => y = f d)) ∧ Q (.lst ((ds.filter bt).map f)) ρ1) :
    WX p g (tLc (wI X tg iter) (T.g X.K) (cT X scope c) (cE X scope elt) (own.map (·.2))) ρ Q := fun B σ G H S R r => by
  refine h B σ G H S _ fun J ds ρ1 G1 H1 q S1 x pu wk D hD => ?_
  obtain ⟨hl, turn, q⟩ := q
  refine lc_go (X := X) (Qd := R) S1 wk hT bt f hl (fun d hd => ?_) (fun a G' H' gr i => ?_) D hD
  · obtain ⟨ρi, he, hw⟩ := turn d hd
    refine ⟨ρi, he, fun σ' G2 H2 S2 R2 r2 s H0 C cl fp => ?_, fun hb σ' G2 H2 S2 R2 r2 s H0 C cl fp => ?_⟩
    · refine (hw s H0 C cl fp).1 B σ' G2 H2 S2 R2 fun b ρ3 G3 H3 e S3 x3 p3 => ?_
      subst e
      have e3 := (p3 rfl).1
      subst e3
      exact r2 G3 H3 S3 (p3 rfl).2
    · refine (hw s H0 C cl fp).2 hb B σ' G2 H2 S2 R2 fun v y ρ3 G3 H3 e S3 x3 p3 i3 => ?_
      subst e
      have e3 := (p3 rfl).1
      subst e3
      exact r2 v G3 H3 S3 (p3 rfl).2 i3
  · exact r _ _ ρ1 G' H' q (S1.grow gr) (x.trans gr.g) (fun z => ⟨(pu z).1, (pu z).2.trans gr⟩) (is_h (S1.grow gr) i)
end
end DD

namespace DD
open PySem PySem.Spec PyProof.Rows L2

/-! ### statements -/
def wS (X : Cx) (st : Stmt) : TS := fun D σ H => ∀ pins s, Inv X pins σ H s → wpAny (model X.prog X.w) X.A (exec st X.env) (SP X pins D) X.xe s
theorem ps_w {X : Cx} {st : Stmt} : PS X st (wS X st) := ⟨fun pins s σ H D I h => h pins s I⟩
theorem wS_of {X : Cx} {st : Stmt} {t : TS} {D : Ends} {σ : L2.St} {H : Hp} (p : PS X st t) (h : t D σ H) : wS X st D σ H := fun pins s I => p.run pins s σ H D I h
def wSs (X : Cx) (st : List Stmt) : TS := fun D σ H => ∀ pins s, Inv X pins σ H s → wpAny (model X.prog X.w) X.A (execs st X.env) (SP X pins D) X.xe s
theorem pss_w {X : Cx} {st : List Stmt} : PSs X st (wSs X st) := ⟨fun pins s σ H D I h => h pins s I⟩
theorem wSs_of {X : Cx} {st : List Stmt} {t : TS} {D : Ends} {σ : L2.St} {H : Hp} (p : PSs X st t) (h : t D σ H) : wSs X st D σ H := fun pins s I => p.run pins s σ H D I h
/-- what is wanted behind a statement, of data -/
structure DE where
  nx : Rho → Prop
  rt : D → Prop
  bk : Rho → Prop := fun _ => False
  ct : Rho → Prop := fun _ => False
structure Link (B : Base) (G0 : Hp) (E : DE) (F : Ends) : Prop where
  nx : ∀ σ ρ G H, E.nx ρ → Sta B σ ρ G H → Ex G0 G → F.nx σ H
  rt : ∀ v d G H, E.rt d → Fin B G H → Is G d v → F.rt v H
  bk : ∀ σ ρ G H, E.bk ρ → Sta B σ ρ G H → Ex G0 G → F.bk σ H
  ct : ∀ σ ρ G H, E.ct ρ → Sta B σ ρ G H → Ex G0 G → F.ct σ H
theorem Link.mono {B : Base} {G0 G1 : Hp} {E : DE} {F : Ends} (L : Link B G0 E F) (e : Ex G0 G1) : Link B G1 E F :=
  ⟨fun σ ρ G H q S x => L.nx σ ρ G H q S (e.trans x), L.rt, fun σ ρ G H q S x => L.bk σ ρ G H q S (e.trans x), fun σ ρ G H q S x => L.ct σ ρ G H q S (e.trans x)⟩
def WS (X : Cx) (st : Stmt) (ρ : Rho) (E : DE) : Prop := ∀ (B : Base) (σ : L2.St) (G H : Hp) (F : Ends), Sta B σ ρ G H → Link B G E F → wS X st F σ H
def WSs (X : Cx) (st : List Stmt) (ρ : Rho) (E : DE) : Prop := ∀ (B : Base) (σ : L2.St) (G H : Hp) (F : Ends), Sta B σ ρ G H → Link B G E F → wSs X st F σ H
section
variable {X : Cx} {ρ : Rho} {E : DE} {pos : Pos}
theorem ss_nil (h : E.nx ρ) : WSs X [] ρ E := fun B σ G H F S L => wSs_of pss_nil (L.nx σ ρ G H h S (Ex.refl G))
theorem ss_cons {st : Stmt} {rest : List Stmt} (h : WS X st ρ { E with nx := fun ρ' => WSs X rest ρ' E }) : WSs X (st :: rest) ρ E := fun B σ G H F S L =>
  wSs_of (pss_cons ps_w pss_w) (h B σ G H { F with nx := wSs X rest F } S ⟨fun σ' ρ' G' H' q S' x => q B σ' G' H' F S' (L.mono x), L.rt, L.bk, L.ct⟩)
theorem ss_one {st : Stmt} (h : WS X st ρ E) : WSs X [st] ρ E := fun B σ G H F S L => wSs_of (pss_one ps_w) (h B σ G H F S L)
/-- the rest is shown once, from a word between -/
theorem ss_cut {st : Stmt} {rest : List Stmt} (M : Rho → Prop) (h : WS X st ρ { E with nx := M }) (k : ∀ ρ', M ρ' → WSs X rest ρ' E) : WSs X (st :: rest) ρ E :=
  ss_cons fun B σ G H F S L => h B σ G H F S ⟨fun σ' ρ' G' H' q S' x => L.nx σ' ρ' G' H' (k ρ' q) S' x, L.rt, L.bk, L.ct⟩
theorem s_pass (h : E.nx ρ) : WS X (.Pass pos) ρ E := fun B σ G H F S L => wS_of ps_pass (L.nx σ ρ G H h S (Ex.refl G))
theorem s_ret {e : Expr} (h : W false true X e ρ fun d _ => E.rt d) : WS X (.Return (some e) pos) ρ E := fun B σ G H F S L => by
  refine wS_of (ps_ret pe_w) ?_
  exact h B σ G H S _ fun v d ρ' G' H' q S' x pu i => L.rt v d G' H' q S'.fin i
theorem s_retN (h : E.rt .non) : WS X (.Return none pos) ρ E := fun B σ G H F S L => wS_of ps_retN (L.rt .non .non G H h S.fin rfl)
theorem s_expr {e : Expr} (h : W false false X e ρ fun _ ρ' => E.nx ρ') (hs : swapsWith e none pos.line X.env = pure false := by rfl) : WS X (.Expr e pos) ρ E := fun B σ G H F S L => by
  refine wS_of (ps_expr pe_w hs) ?_
  exact h B σ G H S _ fun v d ρ' G' H' q S' x pu i => L.nx σ ρ' G' H' q S' x
theorem s_if {c : Expr} {a b : List Stmt} (h : WT false X c ρ fun k ρ' => if k = true then WSs X a ρ' E else WSs X b ρ' E) : WS X (.If c a b pos) ρ E := fun B σ G H F S L => by
  refine wS_of (ps_if pt_w pss_w pss_w) ?_
  refine h B σ G H S _ fun k ρ' G' H' q S' x pu => ?_
  cases k with
  | true => exact q B σ G' H' F S' (L.mono x)
  | false => exact q B σ G' H' F S' (L.mono x)
/-- x = e -/
theorem s_set {i : Nat} {x : Str} {e : Expr} {pos' : Pos} (hN : X.N.Nodup) (hi : X.N[i]? = some x) (hx : Loc X.env.scope x) (h : W false true X e ρ fun d ρ' => E.nx (ρ'.set i (.val d)))
    (hs : swapsWith e (some (.Name x pos')) pos.line X.env = pure false := by rfl) (hf : X.fn x = true ∨ X.env.scope.names.lookup x = some .local := by first | exact .inl rfl | exact .inr rfl) : WS X (.Assign [.Name x pos'] e pos) ρ E := fun B σ G H F S L => by
  refine wS_of (ps_set hN hi hx pe_w hs hf) ?_
  exact h B σ G H S _ fun v d ρ' G' H' q S' y pu j => L.nx _ _ G' H' q (S'.set j) y
/-- x = [] and the like: an own list -/
def WF (X : Cx) (e : Expr) (ρ : Rho) (Q : Own → Rho → Prop) : Prop :=
  ∀ (B : Base) (σ : L2.St) (G H : Hp), Sta B σ ρ G H → ∀ R : VK, (∀ l o ρ' G' H', Q o ρ' → Sta B σ ρ' G' H' → Ex G G' → G' l = none → B.H l = none → (∀ (j : Nat), σ[j]? = some (some (.ref l)) → ∀ lc u, ρ'[j]? ≠ some (.own lc u)) → OwnOk B G' H' l o → R (.ref l) H') → wE X e σ H R
theorem s_own {i : Nat} {x : Str} {e : Expr} {pos' : Pos} (hN : X.N.Nodup) (hi : X.N[i]? = some x) (hx : Loc X.env.scope x) (h : WF X e ρ fun o ρ' => E.nx (ρ'.set i (.own true o)))
    (hs : swapsWith e (some (.Name x pos')) pos.line X.env = pure false := by rfl) (hf : X.fn x = true ∨ X.env.scope.names.lookup x = some .local := by first | exact .inl rfl | exact .inr rfl) : WS X (.Assign [.Name x pos'] e pos) ρ E := fun B σ G H F S L => by
  refine wS_of (ps_set hN hi hx pe_w hs hf) ?_
  exact h B σ G H S _ fun l o ρ' G' H' q S' y gl bl nj ok => L.nx _ _ G' H' q (S'.setOwn gl bl ok fun j lc u hj hs => nj j hs lc u hj) y
theorem new_own {B : Base} {σ : L2.St} {G H : Hp} {l : Addr} (S : Sta B σ ρ G H) (hl : H l = none) : G l = none ∧ B.H l = none ∧ ∀ (j : Nat), σ[j]? = some (some (.ref l)) → ∀ lc u, ρ[j]? ≠ some (.own lc u) := by
  refine ⟨?_, S.kn l hl, fun j hj lc u hr => ?_⟩
  · cases r : G l with
    | none => rfl
    | some u => rw [S.ex l u r] at hl; cases hl
  · obtain ⟨m, e, _, _, ok⟩ := S.ownAt hr
    rw [hj] at e
    cases e
    obtain ⟨w, hw⟩ := ok.known
    rw [hw] at hl; cases hl
theorem f_nil {pos : Pos} {Q : Own → Rho → Prop} (q : Q (.lst []) ρ) : WF X (.List [] pos) ρ Q := fun B σ G H S R r => by
  refine wE_of (pe_lst pa_nil) ⟨Nat.zero_le _, fun l hl => ?_⟩
  obtain ⟨h1, h2, h3⟩ := new_own S hl
  exact r l (.lst []) ρ G _ q (S.grow (Grow.own S.ex hl)) (Ex.refl G) h1 h2 h3 ⟨[], upd_same, rfl⟩
theorem f_dic {pos : Pos} {Q : Own → Rho → Prop} (q : Q (.dic []) ρ) : WF X (.Dict [] [] pos) ρ Q := fun B σ G H S R r => by
  refine wE_of pe_dnewK fun l hl => ?_
  obtain ⟨h1, h2, h3⟩ := new_own S hl
  exact r l (.dic []) ρ G _ q (S.grow (Grow.own S.ex hl)) (Ex.refl G) h1 h2 h3 ⟨[], upd_same, rfl⟩
/-- [e] * n -/
theorem f_rep {a b : Expr} {pos : Pos} {Q : Own → Rho → Prop} (h : W true true X a ρ fun d ρ1 => W true true X b ρ1 fun k ρ2 => ∃ xs n, d = .lst xs ∧ k = .int n ∧ (-(2 ^ 63) ≤ n ∧ n < 2 ^ 63 ∧ xs.length * n.toNat ≤ sizeLine) ∧ Q (.lst (List.replicate n.toNat xs).flatten) ρ2) : WF X (.BinOp a .Mult b pos) ρ Q := fun B σ G H S R r => by
  refine wE_of (pe_op op_rep pe_w pe_w) ?_
  refine two (p := true) (p1 := true) (.inl rfl) h S fun v u x y ρ' G' H' q S' e pu i1 i2 => ?_
  obtain ⟨xs, n, rfl, rfl, b, q⟩ := q
  obtain ⟨a, as, rfl, e2, e3⟩ := i1
  refine ⟨a, n, as, rfl, i2, S'.ex _ _ e2, b.1, b.2.1, by rw [e3.length]; exact b.2.2, fun l hl => ?_⟩
  obtain ⟨h1, h2, h3⟩ := new_own S' hl
  exact r l (.lst _) ρ' G' _ q (S'.grow (Grow.own S'.ex hl)) e h1 h2 h3 ⟨_, upd_same, e3.rep _⟩
/-- the list that a name holds from here on is shared -/
theorem w_share {i : Nat} {x : Str} {pos : Pos} {ds : List D} {Q : D → Rho → Prop} (hN : X.N[i]? = some x) (hv : Vis X.env.scope x) (hd : (x == ("__debug__" : Str)) = false) (hcd : (x == ("__classdict__" : Str)) = false)
    (hr : ρ[i]? = some (.own true (.lst ds))) (q : Q (.lst ds) (ρ.set i (.val (.lst ds)))) : W false true X (.Name x pos) ρ Q := fun B σ G H S R r => by
  obtain ⟨l, G', e, ex, iv, S'⟩ := S.share hr
  exact wE_of (pe_var hN hv hd hcd) ⟨_, e, r _ (.lst ds) _ G' H q S' ex (fun z => nomatch z) iv⟩
/-- a list is shared ahead of a statement -/
theorem ss_share {st : List Stmt} {i : Nat} {ds : List D} (hr : ρ[i]? = some (.own true (.lst ds))) (h : WSs X st (ρ.set i (.val (.lst ds))) E) : WSs X st ρ E := fun B σ G H F S L => by
  obtain ⟨l, G', e, ex, iv, S'⟩ := S.share hr
  exact h B σ G' H F S' (L.mono ex)
/-- a name at an own thing: its address -/
theorem own_name {i : Nat} {x : Str} {pos : Pos} {o : Own} {lc : Bool} (hN : X.N[i]? = some x) (hv : Vis X.env.scope x) (hd : (x == ("__debug__" : Str)) = false) (hcd : (x == ("__classdict__" : Str)) = false)
    (hr : ρ[i]? = some (.own lc o)) {B : Base} {σ : L2.St} {G H : Hp} (S : Sta B σ ρ G H) {R : VK} (k : ∀ l, σ[i]? = some (some (.ref l)) → OwnOk B G H l o → R (.ref l) H) : wE X (.Name x pos) σ H R := by
  obtain ⟨l, e, h1, h2, ok⟩ := S.ownAt hr
  exact wE_of (pe_var hN hv hd hcd) ⟨_, e, k l e ok⟩
/-- x.append(e), x an own list -/
theorem s_app {i : Nat} {x : Str} {e : Expr} {p1 p2 p3 pos : Pos} (hN : X.N[i]? = some x) (hv : Vis X.env.scope x) (hd : (x == ("__debug__" : Str)) = false) (hcd : (x == ("__classdict__" : Str)) = false)
    (h : ∃ ds, ρ[i]? = some (.own true (.lst ds)) ∧ W false true X e ρ fun d ρ' => ∃ ds', ρ'[i]? = some (.own true (.lst ds')) ∧ ds'.length < 1000000 ∧ E.nx (ρ'.set i (.own true (.lst (ds' ++ [d])))))
    (hbase : attributeBase (.Name x p1) "append" X.env (eval (.Name x p1) X.env) = eval (.Name x p1) X.env := by rfl)
    (hfew : ((backTo p3 (starEach [e] X.env)).all (fun x => !x.1) && (backToKw p3 (keywordEach [] X.env)).all (fun x => x.1.isSome)
      && decide (([e] : List Expr).length + ([] : List Keyword).length + (if ([] : List Keyword).isEmpty then 0 else 1) < 30)) = true := by rfl)
    (hline : (p2.endLine == p3.line) = true := by rfl) (hst : starEach [e] X.env = (false, eval e X.env) :: starEach [] X.env := by rfl) (hplain : (backTo p3 (starEach [] X.env)).any (·.1) = false := by rfl)
    (hs : swapsWith (.Call (.Attribute (.Name x p1) "append" p2) [e] [] p3) none pos.line X.env = pure false := by rfl) : WS X (.Expr (.Call (.Attribute (.Name x p1) "append" p2) [e] [] p3) pos) ρ E := fun B σ G H F S L => by
  obtain ⟨ds, hr, h⟩ := h
  refine wS_of (ps_expr (pe_bm PySem.F.plainAttrs_list PySem.F.slot_list_append PySem.F.type_list_append mt_append pe_w (pa_cons pe_w pa_nil hst) hbase hfew hline hst hplain) hs) ?_
  refine own_name hN hv hd hcd hr S fun l el ok => ?_
  obtain ⟨xs, h1, h2⟩ := ok
  refine ⟨.inl ⟨rfl, xs, .inl (.inl h1)⟩, ?_⟩
  refine h B σ G H S _ fun v d ρ' G' H' q S' y pu iv => ?_
  obtain ⟨ds', hr', hz, q⟩ := q
  obtain ⟨l', el', gl, bl, xs', h1', h2'⟩ := S'.ownAt hr'
  have : l' = l := by rw [el] at el'; cases el'; rfl
  subst this
  refine ⟨l', xs', v, rfl, rfl, h1', by rw [h2'.length]; exact Nat.lt_trans hz (by decide), ?_⟩
  exact L.nx σ _ G' _ q (S'.upd hr' el ⟨_, upd_same, IsA.snoc h2' iv⟩) y
/-- x[e] = v, x an own list -/
theorem s_item {i : Nat} {x : Str} {e ev : Expr} {p1 p2 : Pos} (hN : X.N[i]? = some x) (hv : Vis X.env.scope x) (hd : (x == ("__debug__" : Str)) = false) (hcd : (x == ("__classdict__" : Str)) = false)
    (h : W true true X ev ρ fun d _ => ∃ ds, ρ[i]? = some (.own true (.lst ds)) ∧ W true true X e ρ fun k _ => ∃ n j, k = .int n ∧ ixN ds.length n = some j ∧ E.nx (ρ.set i (.own true (.lst (ds.set j d)))))
    (hs : swapsWithSole [.Subscript (.Name x p1) e p2] ev pos.line X.env = pure false := by rfl) (hw : swappedStores [.Subscript (.Name x p1) e p2] ev X.env = pure none := by rfl)
    (h1 : (assignEach [.Subscript (.Name x p1) e p2] X.env).map (·.2) = [assign (.Subscript (.Name x p1) e p2) X.env] := by rfl)
    (ha : ∀ v, assign (.Subscript (.Name x p1) e p2) X.env v = (do
      let ov ← holding [v] (eval (.Name x p1) X.env)
      let iv ← holding [v, ov] (eval e X.env)
      standAt p2
      holding [v, ov, iv] (setItem ov iv v)
      release [v, ov, iv] []) := by intro _; rfl) : WS X (.Assign [.Subscript (.Name x p1) e p2] ev pos) ρ E := fun B σ G H F S L => by
  refine wS_of (ps_asg pe_w (pg_sub pe_w pe_w set_list ha) hs hw h1) ?_
  refine h B σ G H S _ fun v d ρ' G' H' q S' y pu iv => ?_
  obtain ⟨e1, gr⟩ := pu rfl
  subst e1
  obtain ⟨ds, hr, q⟩ := q
  refine own_name hN hv hd hcd hr S' fun l el ok => ?_
  refine q B σ G' H' S' _ fun u k ρ2 G2 H2 q2 S2 y2 pu2 iu => ?_
  obtain ⟨e2, gr2⟩ := pu2 rfl
  subst e2
  obtain ⟨n, j, rfl, hj, q2⟩ := q2
  obtain ⟨l', el', gl, bl, xs', h1', h2'⟩ := S2.ownAt hr
  have : l' = l := by rw [el] at el'; cases el'; rfl
  subst this
  refine ⟨l', xs', n, j, rfl, iu, h1', by rw [h2'.length]; exact hj, ?_⟩
  exact L.nx σ _ G2 _ q2 (S2.upd hr el ⟨_, upd_same, h2'.set (Is.mono y2 _ _ iv)⟩) (y.trans y2)
/-- a, b = e, f -/
theorem s_par {i j : Nat} {x y : Str} {a b : Expr} {px py pt : Pos} {kt k2 pt2} (hc : X.calm = true) (hN : X.N.Nodup) (hi : X.N[i]? = some x) (hj : X.N[j]? = some y) (hij : i ≠ j)
    (hx : X.env.scope.names.lookup x = some .local) (hy : X.env.scope.names.lookup y = some .local)
    (h : WA false true X [a, b] ρ fun ds ρ' => ∃ d e, ds = [d, e] ∧ E.nx ((ρ'.set i (.val d)).set j (.val e)))
    (hw : swappedStores [.Tuple [.Name x px, .Name y py] kt pt] (.Tuple [a, b] k2 pt2) X.env = pure (some [x, y]) := by rfl)
    (hs : swapsWithSole [.Tuple [.Name x px, .Name y py] kt pt] (.Tuple [a, b] k2 pt2) pos.line X.env = pure false := by rfl) :
    WS X (.Assign [.Tuple [.Name x px, .Name y py] kt pt] (.Tuple [a, b] k2 pt2) pos) ρ E := fun B σ G H F S L => by
  refine wS_of (ps_par hc hN hi hj hij hx hy pa_w hw hs) ?_
  refine h B σ G H S _ fun vs ds ρ' G' H' q S' y pu iv => ?_
  obtain ⟨d, e, rfl, q⟩ := q
  obtain ⟨v, u, rfl, i1, i2⟩ := isA_two iv
  exact ⟨v, u, rfl, L.nx _ _ G' H' q ((S'.set i1).set i2) y⟩
/-- x += e, ints -/
theorem s_aug {i : Nat} {x : Str} {e : Expr} {pos' : Pos} (hN : X.N.Nodup) (hi : X.N[i]? = some x) (hx : Loc X.env.scope x) (h : ∃ n, ρ[i]? = some (.val (.int n)) ∧ W false true X e ρ fun d ρ' => ∃ m, d = .int m ∧ E.nx (ρ'.set i (.val (.int (n + m)))))
    (hf : X.fn x = true ∨ X.env.scope.names.lookup x = some .local := by first | exact .inl rfl | exact .inr rfl) : WS X (.AugAssign (.Name x pos') .Add e pos) ρ E := fun B σ G H F S L => by
  obtain ⟨n, hr, h⟩ := h
  refine wS_of (ps_aug hN hi hx pe_w ip_add hf) ?_
  obtain ⟨v, e1, iv⟩ := S.valAt hr
  cases (iv : v = .int n)
  refine ⟨_, e1, ?_⟩
  refine h B σ G H S _ fun u d ρ' G' H' q S' y pu iu => ?_
  obtain ⟨m, rfl, q⟩ := q
  cases (iu : u = .int m)
  exact ⟨n, m, rfl, rfl, L.nx _ _ G' H' q (S'.set (d := .int (n + m)) rfl) y⟩
/-- for: I by the turn and the data -/
theorem s_for {tg iter : Expr} {body : List Stmt} {T : Tg} (hp : PassesOwn (model X.prog X.w) X.A X.env X.xe) (hc : X.calm = true) (hg : PG X tg (T.g X.K)) (hs : ∀ x, foldedSetIterable iter X.env x = pure x)
    (h : WI false X tg iter ρ fun ds ρ1 => ∃ I : Nat → Rho → Prop, I 0 ρ1 ∧ (∀ i d ρi, ds[i]? = some d → I i ρi → ∃ ρ2, T.eff d ρi = some ρ2 ∧ WSs X body ρ2 { E with nx := I (i + 1), ct := I (i + 1), bk := E.nx }) ∧ ∀ ρn, I ds.length ρn → E.nx ρn) : WS X (.For tg iter body [] pos) ρ E := fun B σ G H F S L => by
  refine wS_of (ps_for hp hc pi_w hg pss_w hs) ?_
  refine h B σ G H S _ fun J ds ρ1 G1 H1 q S1 x pu wk => ?_
  obtain ⟨I, i0, turn, fin⟩ := q
  refine for_it wk (fun i σ' H' => ∃ ρ' G', I i ρ' ∧ Sta B σ' ρ' G' H' ∧ Ex G1 G') ⟨ρ1, G1, i0, S1, Ex.refl _⟩ (fun i σ' H' _ h => ?_) (fun i y σ' H' H'' hi h ya => ?_) fun σ' H' h => ?_
  · obtain ⟨ρ', G', _, S', e⟩ := h
    exact e.trans S'.ex
  · obtain ⟨ρ', G', hI, S', e⟩ := h
    have hget : ds[i]? = some ds[i] := List.getElem?_eq_getElem hi
    obtain ⟨G2, gr, iy⟩ := ya _ hget G' e S'.ex
    obtain ⟨ρ2, he, hb⟩ := turn i _ ρ' hget hI
    refine Tg.run he (S'.grow gr) iy (fun σ2 S2 _ => ?_) fun τ vs j o hj => wipe_set τ vs j o hj
    have e2 := e.trans gr.g
    exact hb B σ2 G2 H'' _ S2 ⟨fun σ3 ρ3 G3 H3 q3 S3 x3 => ⟨ρ3, G3, q3, S3, e2.trans x3⟩, L.rt, fun σ3 ρ3 G3 H3 q3 S3 x3 => L.nx σ3 ρ3 G3 H3 q3 S3 ((x.trans e2).trans x3), fun σ3 ρ3 G3 H3 q3 S3 x3 => ⟨ρ3, G3, q3, S3, e2.trans x3⟩⟩
  · obtain ⟨ρ', G', hI, S', e⟩ := h
    exact L.nx σ' ρ' G' H' (fin ρ' hI) S' (x.trans e)
/-- while: I by a number that falls and the data -/
theorem s_while {c : Expr} {body : List Stmt} (hp : PassesOwn (model X.prog X.w) X.A X.env X.xe) (I : Nat → Rho → Prop) (m0 : Nat) (h0 : I m0 ρ)
    (h : ∀ m ρ', I m ρ' → WT false X c ρ' fun b ρ2 => if b = true then WSs X body ρ2 { E with nx := fun ρ3 => ∃ m', m' < m ∧ I m' ρ3, ct := fun ρ3 => ∃ m', m' < m ∧ I m' ρ3, bk := E.nx } else E.nx ρ2) : WS X (.While c body [] pos) ρ E := fun B σ G H F S L => by
  refine wS_of (ps_while hp pt_w pss_w) ?_
  refine ⟨fun m σ' H' => ∃ ρ' G', I m ρ' ∧ Sta B σ' ρ' G' H' ∧ Ex G G', ⟨m0, ρ, G, h0, S, Ex.refl G⟩, fun m σ' H' hw => ?_⟩
  obtain ⟨ρ', G', hI, S', e⟩ := hw
  refine h m ρ' hI B σ' G' H' S' _ fun b ρ2 G2 H2 q S2 x pu => ?_
  cases b with
  | true =>
    show ∃ N : L2.St → Hp → Prop, (∀ σ' H', N σ' H' → ∃ m', m' < m ∧ ∃ ρ' G', I m' ρ' ∧ Sta B σ' ρ' G' H' ∧ Ex G G') ∧ wSs X body { F with nx := N, ct := N, bk := F.nx } σ' H2
    have e2 := e.trans x
    refine ⟨fun σ3 H3 => ∃ m', m' < m ∧ ∃ ρ' G', I m' ρ' ∧ Sta B σ3 ρ' G' H3 ∧ Ex G G', fun _ _ z => z, ?_⟩
    exact q B σ' G2 H2 _ S2 ⟨fun σ3 ρ3 G3 H3 ⟨m', hm, hi⟩ S3 x3 => ⟨m', hm, ρ3, G3, hi, S3, e2.trans x3⟩, L.rt, fun σ3 ρ3 G3 H3 q3 S3 x3 => L.nx σ3 ρ3 G3 H3 q3 S3 (e2.trans x3), fun σ3 ρ3 G3 H3 ⟨m', hm, hi⟩ S3 x3 => ⟨m', hm, ρ3, G3, hi, S3, e2.trans x3⟩⟩
  | false =>
    exact L.nx σ' ρ2 G2 H2 q S2 (e.trans x)

/-! ### defs over data -/
/-- a def that takes data and changes nothing: its promise c, by what is wanted of the result -/
def spD (c : List D → (D → Prop) → Prop) : Sp := fun vs H Q _ => ∃ (G : Hp) (ds : List D) (Z : D → Prop), Ex G H ∧ IsA G ds vs ∧ c ds Z ∧ ∀ v d G' H', Z d → Grow G H G' H' → Is G' d v → Q v H'
/-- a def that draws: the pot first, then data -/
def spP (c : List D → (D → Prop) → Prop) : Sp := fun vs H Q _ => ∃ (G : Hp) (l : Addr) (vr : List V) (ds : List D) (Z : D → Prop), vs = .ref l :: vr ∧ Ex G H ∧ G l = none ∧ PotAt H l ∧ IsA G ds vr ∧ c ds Z ∧ ∀ v d G' H', Z d → GrowP l G H G' H' → Is G' d v → Q v H'
section
variable {p g : Bool} {Q : D → Rho → Prop} {c : List D → (D → Prop) → Prop} {k : Nat} {f : Addr} {fd : FuncData} {ps : List Str} {x : Str} {pp : Pos}
theorem w_call {e : Expr} {es : List Expr} (F : FnOk X.prog X.w X.K X.mg X.base CX0 k f fd ps (spD c)) (hr : Room k X.A) (hg : Gl X x) (hm : X.mg x = some (.ref f)) (hk : PySem.W.keepIn X.K (.ref f) = true) (hb : Binds X.K fd ps [])
    (h : WA p true X (e :: es) ρ fun ds ρ' => c ds fun d => Q d ρ') (hdb : (x == ("__debug__" : Str)) = false := by decide)
    (he : starEach (e :: es) X.env = (false, eval e X.env) :: starEach es X.env := by rfl)
    (hpl : (backTo pos (starEach es X.env)).any (·.1) = false := by rfl) : W p g X (.Call (.Name x pp) (e :: es) [] pos) ρ Q := fun B σ G H S R r => by
  refine wE_of (pe_call F hr hg hm hk hb .nil pass0 pa_w hdb he hpl) ?_
  refine h B σ G H S _ fun vs ds ρ' G' H' q S' y pu i => ?_
  refine ⟨G', ds, fun d => Q d ρ', S'.ex, by rw [List.append_nil]; exact i, q, fun v d G2 H2 z gr iz => ?_⟩
  exact r v d ρ' G2 H2 z (S'.grow gr) (y.trans gr.g) (fun w => ⟨(pu w).1, (pu w).2.trans gr⟩) (is_h (S'.grow gr) iz)
/-- read: own lists may be handed -/
theorem w_callR {e : Expr} {es : List Expr} (F : FnOk X.prog X.w X.K X.mg X.base CX0 k f fd ps (spD c)) (hr : Room k X.A) (hg : Gl X x) (hm : X.mg x = some (.ref f)) (hk : PySem.W.keepIn X.K (.ref f) = true) (hb : Binds X.K fd ps [])
    (h : WA true false X (e :: es) ρ fun ds ρ' => c ds fun d => (sc d).isSome = true ∧ Q d ρ') (hdb : (x == ("__debug__" : Str)) = false := by decide)
    (he : starEach (e :: es) X.env = (false, eval e X.env) :: starEach es X.env := by rfl)
    (hpl : (backTo pos (starEach es X.env)).any (·.1) = false := by rfl) : W p g X (.Call (.Name x pp) (e :: es) [] pos) ρ Q := fun B σ G H S R r => by
  refine wE_of (pe_call F hr hg hm hk hb .nil pass0 pa_w hdb he hpl) ?_
  refine h B σ G H S _ fun vs ds ρ' G' H' q S' y pu i => ?_
  refine ⟨H', ds, fun d => (sc d).isSome = true ∧ Q d ρ', Ex.refl _, by rw [List.append_nil]; exact i, q, fun v d G2 H2 z gr iz => ?_⟩
  have gr2 : Grow G' H' G' H2 := ⟨Ex.refl _, gr.h, S'.ex.trans gr.h, fun a o e => .inl e⟩
  obtain ⟨u, hu⟩ := Option.isSome_iff_exists.mp z.1
  have e1 : v = u := Is.sc hu iz
  subst e1
  exact r v d ρ' G' H2 z.2 (S'.grow gr2) (y.trans gr2.g) (fun w => ⟨(pu rfl).1, (pu rfl).2.trans gr2⟩) (is_h (S'.grow gr2) (Is.of_sc hu))
/-- f(pot, e, ..) -/
theorem w_callP {i : Nat} {y : Str} {py : Pos} {es : List Expr} {lc : Bool} (F : FnOk X.prog X.w X.K X.mg X.base CX0 k f fd ps (spP c)) (hr : Room k X.A) (hg : Gl X x) (hm : X.mg x = some (.ref f)) (hk : PySem.W.keepIn X.K (.ref f) = true) (hb : Binds X.K fd ps [])
    (hN : X.N[i]? = some y) (hv : Vis X.env.scope y) (hd : (y == ("__debug__" : Str)) = false) (hcd : (y == ("__classdict__" : Str)) = false) (hr' : ρ[i]? = some (.own lc .pot))
    (h : WA false true X es ρ fun ds ρ' => ρ'[i]? = some (.own lc .pot) ∧ c ds fun d => Q d ρ') (hdb : (x == ("__debug__" : Str)) = false := by decide)
    (he : starEach (.Name y py :: es) X.env = (false, eval (.Name y py) X.env) :: starEach es X.env := by rfl)
    (hpl : (backTo pos (starEach es X.env)).any (·.1) = false := by rfl) : W false g X (.Call (.Name x pp) (.Name y py :: es) [] pos) ρ Q := fun B σ G H S R r => by
  refine wE_of (pe_call F hr hg hm hk hb .nil pass0 (pa_cons pe_w pa_w he) hdb he hpl) ?_
  refine own_name hN hv hd hcd hr' S fun l el ok => ?_
  refine h B σ G H S _ fun vs ds ρ' G' H' q S' yx pu j => ?_
  obtain ⟨l', el', gl, bl, pt⟩ := S'.ownAt q.1
  have : l' = l := by rw [el] at el'; cases el'; rfl
  subst this
  refine ⟨G', l', vs, ds, fun d => Q d ρ', by rw [List.append_nil], S'.ex, gl, pt, j, q.2, fun v d G2 H2 z gr iz => ?_⟩
  have S2 := S'.growP gr q.1 el
  exact r v d ρ' G2 H2 z S2 (yx.trans gr.g) (fun z => nomatch z) (is_h S2 iz)
end
end
/-- slots at the entry -/
def rho0 (N : List Str) (ds : List D) : Rho := ds.map Slot.val ++ List.replicate (N.length - ds.length) .un
theorem start_get {N : List Str} {vs : List V} {i : Nat} {v : V} (h : vs[i]? = some v) : (L2.start N vs)[i]? = some (some v) := by
  unfold L2.start
  have hi : i < vs.length := (List.getElem?_eq_some_iff.mp h).1
  rw [List.getElem?_append_left (by simpa using hi), List.getElem?_map, h]
  rfl
theorem sta_start {N : List Str} {G H : Hp} {ds : List D} {vs : List V} (ex : Ex G H) (i : IsA G ds vs) : Sta ⟨H, G, [], 0⟩ (L2.start N vs) (rho0 N ds) G H := by
  refine ⟨?_, ex, fun _ _ e _ => e, fun _ e => e, fun _ _ e => .inl e, Ex.refl _, ex, fun l hl => absurd hl (by simp), fun j s v h1 h2 => ?_, fun j k l1 l2 o1 o2 jk h1 h2 => ?_⟩
  · unfold L2.start rho0
    simp [i.length]
  · unfold rho0 at h1
    by_cases hj : j < ds.length
    · rw [List.getElem?_append_left (by simpa using hj), List.getElem?_map] at h1
      cases hd : ds[j]? with
      | none => rw [hd] at h1; cases h1
      | some d =>
        rw [hd] at h1
        cases h1
        obtain ⟨x, hx, ix⟩ := i.get hd
        rw [start_get hx] at h2
        cases h2
        exact ⟨x, rfl, ix⟩
    · rw [List.getElem?_append_right (by simpa using hj), List.getElem?_replicate] at h1
      split at h1 <;> cases h1
      trivial
  · unfold rho0 at h1
    by_cases hj : j < ds.length
    · rw [List.getElem?_append_left (by simpa using hj), List.getElem?_map] at h1
      cases hd : ds[j]? with
      | none => rw [hd] at h1; cases h1
      | some d => rw [hd] at h1; cases h1
    · rw [List.getElem?_append_right (by simpa using hj), List.getElem?_replicate] at h1
      split at h1 <;> cases h1
section
variable {P : Program} {w : World} {K : PySem.W.Frag} {mg : Str → Option Value} {base : Heap}
abbrev CxD (P : Program) (w : World) (K : PySem.W.Frag) (mg : Str → Option Value) (base : Heap) (N : List Str) (qual : Str) (st : Stmt) (f : Addr) (cdv : Value) (A : Around) (outer : List Env) (s : Shared) (H : Hp) (E : XK) : Cx := (cxOf CX0 P w K mg base N qual (defScope st) f cdv A outer s H E).nox
/-- a def over data, by its body -/
theorem fnD {x qual : Str} {st : Stmt} {f : Addr} {fd : FuncData} {N ps : List Str} {k : Nat} {c : List D → (D → Prop) → Prop} (F : Fun K x qual st f fd) (S : FnScope N ps (defScope st)) (len : ∀ ds Z, c ds Z → ds.length = ps.length)
    (h : ∀ (cdv : Value) (A : Around) (outer : List Env) (s : Shared) (H : Hp) (E : XK) (ds : List D) (Z : D → Prop), Room k (A.deeper (envOfC qual (defScope st) s.heap.objs.size f cdv)) → c ds Z →
      WSs (CxD P w K mg base N qual st f cdv A outer s H E) (defBody st) (rho0 N ds) { nx := fun _ => Z .non, rt := Z }) : FnOk P w K mg base CX0 (k + 1) f fd ps (spD c) := by
  refine F.ok S (fun vs H Q E hs => ?_) fun cdv A outer s H vs Q E hr hs => ?_
  · obtain ⟨G, ds, Z, ex, i, hc, _⟩ := hs
    rw [i.length]; exact len ds Z hc
  · obtain ⟨G, ds, Z, ex, i, hc, q⟩ := hs
    refine ⟨_, pss_w, ?_⟩
    have fin : ∀ v d G' H', Z d → Fin ⟨H, G, [], 0⟩ G' H' → Is G' d v → Q v H' := fun v d G' H' z F iv => q v d G' H' z ⟨F.bg, fun a o e => F.fr a o e (by simp), F.ex, F.nw⟩ iv
    exact h cdv A outer s H E ds Z hr hc ⟨H, G, [], 0⟩ _ G H _ (sta_start ex i) ⟨fun σ' ρ' G' H' z S' _ => fin .non .non G' H' z S'.fin rfl, fun v d G' H' z F iv => fin v d G' H' z F iv, fun _ _ _ _ z => z.elim, fun _ _ _ _ z => z.elim⟩
/-- a def that draws -/
def rhoP (N : List Str) (ds : List D) : Rho := .own false .pot :: (ds.map Slot.val ++ List.replicate (N.length - (ds.length + 1)) .un)
theorem sta_startP {N : List Str} {G H : Hp} {ds : List D} {vs : List V} {l : Addr} (ex : Ex G H) (i : IsA G ds vs) (gl : G l = none) (pl : PotAt H l) : Sta ⟨H, G, [l], 0⟩ (L2.start N (.ref l :: vs)) (rhoP N ds) G H := by
  refine ⟨?_, ex, fun _ _ e _ => e, fun _ e => e, fun _ _ e => .inl e, Ex.refl _, ex, fun m hm => ?_, fun j s v h1 h2 => ?_, fun j k l1 l2 o1 o2 jk h1 h2 => ?_⟩
  · unfold L2.start rhoP
    simp [i.length]
  · have e : m = l := by simpa using hm
    subst e
    obtain ⟨a, b, e, r⟩ := id pl
    exact ⟨pl, _, e⟩
  · cases j with
    | zero =>
      cases h1
      rw [start_get (v := .ref l) rfl] at h2
      cases h2
      exact ⟨l, rfl, gl, List.mem_singleton.mpr rfl, pl⟩
    | succ j =>
      have h1 : (ds.map Slot.val ++ List.replicate (N.length - (ds.length + 1)) Slot.un)[j]? = some s := h1
      by_cases hj : j < ds.length
      · rw [List.getElem?_append_left (by simpa using hj), List.getElem?_map] at h1
        cases hd : ds[j]? with
        | none => rw [hd] at h1; cases h1
        | some d =>
          rw [hd] at h1
          cases h1
          obtain ⟨x, hx, ix⟩ := i.get hd
          rw [start_get (vs := .ref l :: vs) (i := j + 1) hx] at h2
          cases h2
          exact ⟨x, rfl, ix⟩
      · rw [List.getElem?_append_right (by simpa using hj), List.getElem?_replicate] at h1
        split at h1 <;> cases h1
        trivial
  · have own0 : ∀ (j : Nat) (lc : Bool) (o : Own), (rhoP N ds)[j]? = some (.own lc o) → j = 0 := fun j lc o h => by
      cases j with
      | zero => rfl
      | succ j =>
        have h : (ds.map Slot.val ++ List.replicate (N.length - (ds.length + 1)) Slot.un)[j]? = some (.own lc o) := h
        by_cases hj : j < ds.length
        · rw [List.getElem?_append_left (by simpa using hj), List.getElem?_map] at h
          cases hd : ds[j]? with
          | none => rw [hd] at h; cases h
          | some d => rw [hd] at h; cases h
        · rw [List.getElem?_append_right (by simpa using hj), List.getElem?_replicate] at h
          split at h <;> cases h
    exact absurd ((own0 j _ _ h1).trans (own0 k _ _ h2).symm) jk
theorem fnP {x qual : Str} {st : Stmt} {f : Addr} {fd : FuncData} {N ps : List Str} {k : Nat} {c : List D → (D → Prop) → Prop} (F : Fun K x qual st f fd) (S : FnScope N ps (defScope st)) (len : ∀ ds Z, c ds Z → ds.length + 1 = ps.length)
    (h : ∀ (cdv : Value) (A : Around) (outer : List Env) (s : Shared) (H : Hp) (E : XK) (ds : List D) (Z : D → Prop), Room k (A.deeper (envOfC qual (defScope st) s.heap.objs.size f cdv)) → c ds Z →
      WSs (CxD P w K mg base N qual st f cdv A outer s H E) (defBody st) (rhoP N ds) { nx := fun _ => Z .non, rt := Z }) : FnOk P w K mg base CX0 (k + 1) f fd ps (spP c) := by
  refine F.ok S (fun vs H Q E hs => ?_) fun cdv A outer s H vs Q E hr hs => ?_
  · obtain ⟨G, l, vr, ds, Z, rfl, ex, gl, pl, i, hc, _⟩ := hs
    have := len ds Z hc
    rw [List.length_cons, i.length]; exact this
  · obtain ⟨G, l, vr, ds, Z, rfl, ex, gl, pl, i, hc, q⟩ := hs
    refine ⟨_, pss_w, ?_⟩
    have fin : ∀ v d G' H', Z d → Fin ⟨H, G, [l], 0⟩ G' H' → Is G' d v → Q v H' := fun v d G' H' z F iv => q v d G' H' z ⟨F.bg, fun a o e n => F.fr a o e (by simpa using n), F.ex, F.nw, F.pot l (List.mem_singleton.mpr rfl)⟩ iv
    exact h cdv A outer s H E ds Z hr hc ⟨H, G, [l], 0⟩ _ G H _ (sta_startP ex i gl pl) ⟨fun σ' ρ' G' H' z S' _ => fin .non .non G' H' z S'.fin rfl, fun v d G' H' z F iv => fin v d G' H' z F iv, fun _ _ _ _ z => z.elim, fun _ _ _ _ z => z.elim⟩
end
end DD

namespace DD
open PySem PySem.Spec PyProof.Rows L2

/-! ### short words -/
section
variable {p g : Bool} {X : Cx} {ρ : Rho} {Q : D → Rho → Prop} {QT : Bool → Rho → Prop} {QA : List D → Rho → Prop}
/-- the name in slot i -/
theorem nm (i : Nat) {x : Str} {pos : Pos} {d : D} (q : Q d ρ) (hN : X.N[i]? = some x := by rfl) (hr : ρ[i]? = some (.val d) := by rfl)
    (hv : Vis X.env.scope x := by first | exact .inl rfl | exact .inr (.inl rfl) | exact .inr (.inr rfl)) (hd : (x == ("__debug__" : Str)) = false := by decide) (hcd : (x == ("__classdict__" : Str)) = false := by decide) : W p g X (.Name x pos) ρ Q :=
  w_name hN hv hd hcd hr q
theorem nmO (i : Nat) {x : Str} {pos : Pos} {lc : Bool} {ds : List D} (q : Q (.lst ds) ρ) (hN : X.N[i]? = some x := by rfl) (hr : ρ[i]? = some (.own lc (.lst ds)) := by rfl)
    (hv : Vis X.env.scope x := by first | exact .inl rfl | exact .inr (.inl rfl) | exact .inr (.inr rfl)) (hd : (x == ("__debug__" : Str)) = false := by decide) (hcd : (x == ("__classdict__" : Str)) = false := by decide) : W p false X (.Name x pos) ρ Q :=
  w_own hN hv hd hcd hr q
theorem nmS (i : Nat) {x : Str} {pos : Pos} {ds : List D} (q : Q (.lst ds) (ρ.set i (.val (.lst ds)))) (hN : X.N[i]? = some x := by rfl) (hr : ρ[i]? = some (.own true (.lst ds)) := by rfl)
    (hv : Vis X.env.scope x := by first | exact .inl rfl | exact .inr (.inl rfl) | exact .inr (.inr rfl)) (hd : (x == ("__debug__" : Str)) = false := by decide) (hcd : (x == ("__classdict__" : Str)) = false := by decide) : W false true X (.Name x pos) ρ Q :=
  w_share hN hv hd hcd hr q
theorem bltin {n : String} {x : Str} {pos : Pos} (hm : X.mg x = none) (q : Q (.ty n) ρ) (hv : bootBuiltins x = some (.type n) := by decide +kernel) (hg : Gl X x := by rfl) (hn : x ≠ "__name__" := by decide) (hd : (x == ("__debug__" : Str)) = false := by decide) : W p g X (.Name x pos) ρ Q :=
  w_const (v := .ty n) (pe_bltn hg hm hv rfl hn hd) rfl q
theorem a1 {e : Expr} (h : W p g X e ρ fun d ρ1 => QA [d] ρ1) (hs : starEach [e] X.env = (false, eval e X.env) :: starEach [] X.env := by rfl) : WA p g X [e] ρ QA := fun B σ G H S R r => by
  refine wA_of (pa_cons pe_w pa_nil hs) ?_
  refine h B σ G H S _ fun v d ρ1 G1 H1 q1 S1 e1 pu1 i1 => ?_
  exact r [v] [d] ρ1 G1 H1 q1 S1 e1 pu1 ⟨v, [], rfl, i1, rfl⟩
theorem aG {e : Expr} {es : List Expr} (h : W p true X e ρ fun d ρ1 => WA p true X es ρ1 fun ds ρ2 => QA (d :: ds) ρ2) (hs : starEach (e :: es) X.env = (false, eval e X.env) :: starEach es X.env := by rfl) : WA p true X (e :: es) ρ QA := a_cons (.inr rfl) h hs
theorem aP {e : Expr} {es : List Expr} (h : W true g X e ρ fun d ρ1 => WA true g X es ρ1 fun ds ρ2 => QA (d :: ds) ρ2) (hs : starEach (e :: es) X.env = (false, eval e X.env) :: starEach es X.env := by rfl) : WA true g X (e :: es) ρ QA := a_cons (.inl rfl) h hs
theorem WA.un {es : List Expr} (h : WA true g X es ρ QA) : WA p g X es ρ QA := fun B σ G H S R r =>
  h B σ G H S R fun v d ρ' G' H' q S' x pu i => r v d ρ' G' H' q S' x (fun _ => pu rfl) i
theorem WT.un {e : Expr} (h : WT true X e ρ QT) : WT p X e ρ QT := fun B σ G H S R r =>
  h B σ G H S R fun b ρ' G' H' q S' x pu => r b ρ' G' H' q S' x (fun _ => pu rfl)
theorem w_binG {a b : Expr} {op : Operator} {pos : Pos}
    (h : W p true X a ρ fun x ρ1 => W p true X b ρ1 fun y ρ2 => Op2 true X (binaryOp op) x y fun z => Q z ρ2) : W p g X (.BinOp a op b pos) ρ Q := w_bin true true (.inr rfl) h
theorem w_cmpG {a b : Expr} {op : CmpOp} {pos : Pos} (h : W p true X a ρ fun x ρ1 => W p true X b ρ1 fun y ρ2 => Op2 true X (compareOp op) x y fun z => Q z ρ2) (hm : behindInMarks op b = false := by first | exact nomark _ | rfl) : W p g X (.Compare a [op] [b] pos) ρ Q := w_cmp true true hm (.inr rfl) h
theorem t_cmpG {a b : Expr} {op : CmpOp} {pos : Pos} (h : W p true X a ρ fun x ρ1 => W p true X b ρ1 fun y ρ2 => Op2 true X (compareOp op) x y fun z => ∃ k, z = .bl k ∧ QT k ρ2) (hm : behindInMarks op b = false := by first | exact nomark _ | rfl) : WT p X (.Compare a [op] [b] pos) ρ QT := t_cmp true true hm (.inr rfl) h
/-- compared as read: pure -/
theorem w_cmpR {a b : Expr} {op : CmpOp} {pos : Pos} (h : W true false X a ρ fun x ρ1 => W true false X b ρ1 fun y ρ2 => Op2 false X (compareOp op) x y fun z => Q z ρ2) (hm : behindInMarks op b = false := by first | exact nomark _ | rfl) : W p g X (.Compare a [op] [b] pos) ρ Q := W.un (w_cmp false false hm (.inl rfl) h)
theorem t_cmpR {a b : Expr} {op : CmpOp} {pos : Pos} (h : W true false X a ρ fun x ρ1 => W true false X b ρ1 fun y ρ2 => Op2 false X (compareOp op) x y fun z => ∃ k, z = .bl k ∧ QT k ρ2) (hm : behindInMarks op b = false := by first | exact nomark _ | rfl) : WT p X (.Compare a [op] [b] pos) ρ QT := WT.un (t_cmp false false hm (.inl rfl) h)
/-- a op1 b op2 c, ints -/
theorem w_chain {a b c : Expr} {op op' : CmpOp} {pos : Pos} (h : W true true X a ρ fun x ρ1 => W true true X b ρ1 fun y ρ2 => Op2 true X (compareOp op) x y fun z => ∃ k, z = .bl k ∧ if k = true then W true true X c ρ2 fun u ρ3 => Op2 true X (compareOp op') y u fun w => Q w ρ3 else Q (.bl false) ρ2)
    (hm : lastMarks [op, op'] [b, c] = false := by with_unfolding_all rfl) : W p g X (.Compare a [op, op'] [b, c] pos) ρ Q := W.un fun B σ G H S R r => by
  refine wE_of (pe_chain op_any op_any pe_w pe_w pe_w hm) ?_
  refine two (p := true) (p1 := true) (.inr rfl) h S fun v u x y ρ' G' H' q S' e pu i1 i2 => ?_
  refine q G' H' v u _ S'.ex i1 i2 fun w z G2 H2 hz gr iz => ?_
  obtain ⟨k, rfl, hk⟩ := hz
  refine ⟨k, iz, ?_⟩
  have S2 := S'.grow gr
  cases k with
  | true =>
    refine hk B σ G2 H2 S2 _ fun t d ρ3 G3 H3 q3 S3 e3 pu3 i3 => ?_
    refine q3 G3 H3 u t R S3.ex (Is.mono (gr.g.trans e3) _ _ i2) i3 fun w2 z2 G4 H4 hz4 gr4 iz4 => ?_
    exact r w2 z2 ρ3 G4 H4 hz4 (S3.grow gr4) (((e.trans gr.g).trans e3).trans gr4.g) (fun z => ⟨(pu3 rfl).1.trans (pu rfl).1, (((pu rfl).2.trans gr).trans (pu3 rfl).2).trans gr4⟩) (is_h (S3.grow gr4) iz4)
  | false => exact r _ _ ρ' G2 H2 hk S2 (e.trans gr.g) (fun z => ⟨(pu rfl).1, (pu rfl).2.trans gr⟩) (is_h S2 rfl)
/-- e.f, a field -/
theorem IsF.get {H : Hp} {f : Str} : ∀ {fs : List (Str × D)} {gs : List (Str × V)} {d : D}, IsF H fs gs → fs.lookup f = some d → ∃ v, gs.lookup f = some v ∧ Is H d v
  | [], _, _, _, h => by cases h
  | (k, e) :: fs, _, d, ⟨x, r, e1, e2, e3⟩, h => by
    subst e1
    show ∃ v, List.lookup f ((k, x) :: r) = some v ∧ _
    rw [List.lookup_cons] at h ⊢
    cases hk : f == k with
    | true => rw [hk] at h; cases h; exact ⟨x, rfl, e2⟩
    | false => rw [hk] at h; exact IsF.get e3 h
theorem IsF.no {H : Hp} {f : Str} : ∀ {fs : List (Str × D)} {gs : List (Str × V)}, IsF H fs gs → fs.lookup f = none → gs.lookup f = none
  | [], _, h, _ => by cases h; rfl
  | (k, e) :: fs, _, ⟨x, r, e1, e2, e3⟩, h => by
    subst e1
    show List.lookup f ((k, x) :: r) = none
    rw [List.lookup_cons] at h ⊢
    cases hk : f == k with
    | true => rw [hk] at h; cases h
    | false => rw [hk] at h; exact IsF.no e3 h
theorem w_fld {e : Expr} {f : Str} {pos : Pos} (h : W p g X e ρ fun x ρ1 => ∃ C fs d, x = .obj C fs ∧ Cls X.K C ∧ NoAttr X.K C f ∧ fs.lookup f = some d ∧ Q d ρ1) (hb : attributeBase e f X.env (eval e X.env) = eval e X.env := by rfl) : W p g X (.Attribute e f pos) ρ Q := fun B σ G H S R r => by
  refine wE_of (pe_fld pe_w hb) ?_
  refine h B σ G H S _ fun v x ρ' G' H' q S' y pu i => ?_
  obtain ⟨C, fs, d, rfl, hc, hn, hf, q⟩ := q
  obtain ⟨a, dx, gs, rfl, e2, e3⟩ := i
  obtain ⟨u, hu, iu⟩ := e3.get hf
  refine ⟨a, C, dx, gs, u, rfl, ?_, hc, hn, hu, r u d ρ' G' H' q S' y pu iu⟩
  cases g with
  | true => exact S'.ex _ _ e2
  | false => exact e2
/-- a text's parts -/
theorem w_callD {c : List D → (D → Prop) → Prop} {k : Nat} {f : Addr} {fd : FuncData} {ps : List Str} {x : Str} {pp pos : Pos} {e : Expr} {es : List Expr}
    (F : FnOk X.prog X.w X.K X.mg X.base CX0 k f fd ps (spD c)) (hm : X.mg x = some (.ref f)) (hk : PySem.W.keepIn X.K (.ref f) = true) (hb : Binds X.K fd ps []) (hr : Room k X.A)
    (h : WA p true X (e :: es) ρ fun ds ρ' => c ds fun d => Q d ρ') (hg : Gl X x := by rfl) (hdb : (x == ("__debug__" : Str)) = false := by decide)
    (he : starEach (e :: es) X.env = (false, eval e X.env) :: starEach es X.env := by rfl)
    (hpl : (backTo pos (starEach es X.env)).any (·.1) = false := by rfl) : W p g X (.Call (.Name x pp) (e :: es) [] pos) ρ Q := w_call F hr hg hm hk hb h hdb he hpl
end
/-- a def as its callers know it -/
structure Df (P : Program) (w : World) (K : PySem.W.Frag) (mg : Str → Option Value) (base : Heap) (k : Nat) (x : Str) (ps : List Str) (sp : Sp) : Prop where
  ex : ∃ f fd, FnOk P w K mg base CX0 k f fd ps sp ∧ mg x = some (.ref f) ∧ PySem.W.keepIn K (.ref f) = true ∧ Binds K fd ps []
section
variable {p g : Bool} {X : Cx} {ρ : Rho} {Q : D → Rho → Prop} {c : List D → (D → Prop) → Prop} {k : Nat} {ps : List Str} {x : Str} {pp pos : Pos} {e : Expr} {es : List Expr}
theorem call (F : Df X.prog X.w X.K X.mg X.base k x ps (spD c)) (hr : Room k X.A) (h : WA p true X (e :: es) ρ fun ds ρ' => c ds fun d => Q d ρ') (hg : Gl X x := by rfl) (hdb : (x == ("__debug__" : Str)) = false := by decide)
    (he : starEach (e :: es) X.env = (false, eval e X.env) :: starEach es X.env := by rfl)
    (hpl : (backTo pos (starEach es X.env)).any (·.1) = false := by rfl) : W p g X (.Call (.Name x pp) (e :: es) [] pos) ρ Q := by
  obtain ⟨f, fd, F, hm, hk, hb⟩ := F.ex
  exact w_call F hr hg hm hk hb h hdb he hpl
theorem callR (F : Df X.prog X.w X.K X.mg X.base k x ps (spD c)) (hr : Room k X.A) (h : WA true false X (e :: es) ρ fun ds ρ' => c ds fun d => (sc d).isSome = true ∧ Q d ρ') (hg : Gl X x := by rfl) (hdb : (x == ("__debug__" : Str)) = false := by decide)
    (he : starEach (e :: es) X.env = (false, eval e X.env) :: starEach es X.env := by rfl)
    (hpl : (backTo pos (starEach es X.env)).any (·.1) = false := by rfl) : W p g X (.Call (.Name x pp) (e :: es) [] pos) ρ Q := by
  obtain ⟨f, fd, F, hm, hk, hb⟩ := F.ex
  exact w_callR F hr hg hm hk hb h hdb he hpl
theorem callP (i : Nat) {y : Str} {py : Pos} {lc : Bool} (F : Df X.prog X.w X.K X.mg X.base k x ps (spP c)) (hr : Room k X.A) (h : WA false true X es ρ fun ds ρ' => ρ'[i]? = some (.own lc .pot) ∧ c ds fun d => Q d ρ') (hN : X.N[i]? = some y := by rfl) (hr' : ρ[i]? = some (.own lc .pot) := by rfl)
    (hv : Vis X.env.scope y := by first | exact .inl rfl | exact .inr (.inl rfl) | exact .inr (.inr rfl)) (hd : (y == ("__debug__" : Str)) = false := by decide) (hcd : (y == ("__classdict__" : Str)) = false := by decide) (hg : Gl X x := by rfl)
    (hdb : (x == ("__debug__" : Str)) = false := by decide)
    (he : starEach (.Name y py :: es) X.env = (false, eval (.Name y py) X.env) :: starEach es X.env := by rfl)
    (hpl : (backTo pos (starEach es X.env)).any (·.1) = false := by rfl) : W false g X (.Call (.Name x pp) (.Name y py :: es) [] pos) ρ Q := by
  obtain ⟨f, fd, F, hm, hk, hb⟩ := F.ex
  exact w_callP F hr hg hm hk hb hN hv hd hcd hr' h hdb he hpl
end
end DD

namespace DD
open PySem PySem.Spec PyProof.Rows L2

/-! ### comprehensions with two fors -/
def del (D : Addr) (H : Hp) : Hp := fun a => if a = D then none else H a
theorem del_same {D : Addr} {H : Hp} : del D H D = none := by simp [del]
theorem del_ne {D a : Addr} {H : Hp} (h : a ≠ D) : del D H a = H a := by simp [del, h]
theorem Grow.del {G H G' H' : Hp} {D : Addr} (g : Grow G H G' H') (hg : G' D = none) : Grow G (del D H) G' (del D H') := by
  refine ⟨g.g, fun a o e => ?_, fun a o e => ?_, fun a o e => ?_⟩
  · have q : a ≠ D := by rintro rfl; rw [del_same] at e; cases e
    rw [del_ne q] at e ⊢; exact g.h a o e
  · have q : a ≠ D := by rintro rfl; rw [hg] at e; cases e
    rw [del_ne q]; exact g.x a o e
  · rcases g.n a o e with z | z
    · exact .inl z
    · by_cases q : a = D
      · subst q; exact .inr del_same
      · rw [del_ne q]; exact .inr z
theorem Grow.undel {G H : Hp} {D : Addr} (x : Ex G H) (hg : G D = none) : Grow G (DD.del D H) G H := by
  refine ⟨Ex.refl _, fun a o e => ?_, x, fun a o e => .inl e⟩
  have q : a ≠ D := by rintro rfl; rw [del_same] at e; cases e
  rw [del_ne q] at e; exact e
theorem del_none {D : Addr} {H : Hp} (h : H D = none) : DD.del D H = H := by
  funext a
  by_cases q : a = D
  · subst q; rw [del_same, h]
  · rw [del_ne q]
def cI (X : Cx) (scope : Scope) (tg e : Expr) : TI := fun σ H Q => ∀ s H0 C cl fp, wI (Blk X scope s H0 C cl fp) tg e σ H Q
theorem pi_c {X : Cx} {scope : Scope} {tg e : Expr} (s : Shared) (H0 : Hp) (C : Addr) (cl : List (Str × Addr)) (fp : List Addr) : PI (X.blk s H0 scope (compEnvC scope cl C X.env) fp) tg e (cI X scope tg e) := ⟨fun pins s1 σ H Q I h => h s H0 C cl fp pins s1 I⟩
theorem g_none {G H G' H' : Hp} {D : Addr} {u : HO} (g : Grow G H G' H') (gD : G D = none) (hD : H D = some u) : G' D = none := by
  cases r : G' D with
  | none => rfl
  | some v =>
    rcases g.n D v r with q | q
    · rw [gD] at q; cases q
    · rw [hD] at q; cases q
/-- the loop over J by a word Pv of the turn and the heap -/
theorem it_go {J : It} {n : Nat} {C : Hp → Prop} {Y : Nat → Hp → V → Hp → Prop} (w : Walk J n C Y) {Qd : Hp → Prop} {St : Hp → (Hp → Prop) → V → Prop} {H0 : Hp} (Pv : Nat → Hp → Prop) (h0 : Pv 0 H0) (hG : ∀ i H, i ≤ n → Pv i H → C H)
    (hs : ∀ i x H H', i < n → Pv i H → Y i H x H' → St H' (Pv (i + 1)) x) (hd : ∀ H, Pv n H → Qd H) :
    ∃ W : Nat → Nat → Hp → Prop, (∃ m, W 0 m H0) ∧ ∀ i m H, W i m H → (J.stop i H ∧ Qd H) ∨ (J.go i H ∧ ∃ Nx : Hp → Prop, (∀ H', Nx H' → ∃ m', m' < m ∧ W (i + 1) m' H') ∧ ∀ x H', J.yld i H x H' → St H' Nx x) := by
  refine ⟨fun i m H => m = n - i ∧ i ≤ n ∧ Pv i H, ⟨n, by simp, Nat.zero_le _, h0⟩, ?_⟩
  rintro i m H ⟨rfl, hi, p⟩
  have q := hG i H hi p
  by_cases hlt : i < n
  · refine .inr ⟨w.goes i H hlt q, Pv (i + 1), fun H' p' => ⟨n - (i + 1), by omega, rfl, hlt, p'⟩, fun x H' y => hs i x H H' hlt p (w.yields i H x H' hlt q y)⟩
  · have e : i = n := by omega
    subst e
    exact .inl ⟨w.stops H q, hd H p⟩
theorem wipe_idem (σ : L2.St) (vs : List Nat) : wipe (wipe σ vs) vs = wipe σ vs := by
  apply List.ext_getElem?
  intro j
  rw [wipe_get, wipe_length, wipe_get]
  by_cases hj : j ∈ vs
  · simp [hj]
  · simp [hj]
section
variable {p g : Bool} {X : Cx} {ρ : Rho} {Q : D → Rho → Prop}
theorem x_lc2 {elt tg iter tg1 iter1 : Expr} {scope : Scope} {own : List (Str × Nat)} {T T1 : Tg} (inner : DD.D → List DD.D) (f : DD.D → DD.D → DD.D) (hT : ∀ i ∈ T.slots, i ∈ own.map (·.2)) (hT1 : ∀ i ∈ T1.slots, i ∈ own.map (·.2))
    (h : WI p X tg iter ρ fun ds ρ1 => (ds.flatMap fun d => (inner d).map (f d)).length ≤ 40000 ∧ (∀ d ∈ ds, ∃ ρi, T.eff d (wipeR ρ1 (own.map (·.2))) = some ρi ∧ (∀ s H C cl fp, WI true (Blk X scope s H C cl fp) tg1 iter1 ρi fun es _ => es = inner d) ∧
      ∀ e ∈ inner d, ∃ ρj, T1.eff e (wipeR ρi T1.slots) = some ρj ∧ ∀ s H C cl fp, W true true (Blk X scope s H C cl fp) elt ρj fun y _ => y = f d e) ∧ Q (.lst (ds.flatMap fun d => (inner d).map (f d))) ρ1) :
    WX p g (tLc2 (wI X tg iter) (T.g X.K) tYes (cI X scope tg1 iter1) (T1.g X.K) tYes (cE X scope elt) (own.map (·.2)) T1.slots) ρ Q := fun B σ G H S R r => by
  refine h B σ G H S _ fun J ds ρ1 G1 H1 q S1 x pu wk D hD => ?_
  obtain ⟨hl, turn, q⟩ := q
  have G1D : G1 D = none := by
    cases r : G1 D with
    | none => rfl
    | some u => rw [S1.ex D u r] at hD; cases hD
  have hsz : ∀ (l : List DD.D), l.length ≤ (ds.flatMap fun d => (inner d).map (f d)).length → l.length < sizeLine := fun l hh => Nat.lt_of_le_of_lt (Nat.le_trans hh hl) (by decide)
  refine it_go wk (fun i H => LcW G1 H1 D ((ds.take i).flatMap fun d => (inner d).map (f d)) H) ?_ (fun i H _ h => ?_) (fun i x H H' hi h y => ?_) fun Hc h => ?_
  · exact ⟨hD, G1, [], upd_same, G1D, Grow.own S1.ex hD, rfl⟩
  · obtain ⟨_, Gi, acc, _, _, gr, _⟩ := h
    exact gr.g.trans gr.x
  · obtain ⟨_, Gi, acc, hacc, gD, gr, ia⟩ := h
    have hget : ds[i]? = some ds[i] := List.getElem?_eq_getElem hi
    obtain ⟨G2, gr2, ix⟩ := y _ hget Gi gr.g gr.x
    obtain ⟨ρi, he, hin, hel⟩ := turn ds[i] (List.getElem_mem hi)
    have g2D := g_none gr2 gD hacc
    have hacc2 := gr2.h _ _ hacc
    have grA := gr.trans gr2
    have grD : Grow G1 H1 G2 (del D H') := by
      have z := grA.del (D := D) g2D
      rw [del_none hD] at z
      exact z
    refine Tg.run' he ((S1.grow grD).wipe (own.map (·.2))) grA.x ix (fun σ2 S2 hwp => ?_) fun τ us j o hj => wipe_set τ us j o hj
    refine ⟨(hwp _ hT).trans (wipe_idem _ _), ?_⟩
    show cI X scope tg1 iter1 σ2 H' _
    intro s H0 C cl fp
    refine hin s H0 C cl fp B σ2 G2 H' (S2.grow (Grow.undel grA.x g2D)) _ fun J1 es ρ4 G4 H4 ee S4 x4 pu4 wk1 => ?_
    obtain ⟨rfl, gr4⟩ := pu4 rfl
    subst ee
    have g4D := g_none gr4 g2D hacc2
    have hacc4 := gr4.h _ _ hacc2
    have Sd : Sta B σ2 ρ4 G4 (del D H4) := S2.grow (gr4.del g4D)
    have grE : Grow G1 H1 G4 (del D H4) := grD.trans (gr4.del g4D)
    refine it_go (St := fun H' Nx1 x => T1.g X.K x (wipe σ2 T1.slots) H' fun σ3 H5 => wipe σ3 T1.slots = wipe σ2 T1.slots ∧ tYes σ3 H5 fun b H6 => if b = true then cE X scope elt σ3 H6 fun y H7 => ∃ acc, H7 D = some (.lst acc) ∧ acc.length < sizeLine ∧ Nx1 (L2.upd H7 D (.lst (acc ++ [y]))) else Nx1 H6) wk1
      (fun j H => LcW G4 (del D H4) D (((ds.take i).flatMap fun d => (inner d).map (f d)) ++ ((inner ds[i]).take j).map (f ds[i])) H) ?_ (fun j Hj _ h => ?_) (fun j z Hj Hj' hj h yj => ?_) fun Hc h => ?_
    · refine ⟨del_same, G4, acc, hacc4, g4D, Grow.undel S4.ex g4D, ?_⟩
      rw [List.take_zero, List.map_nil, List.append_nil]
      exact IsA.mono (gr2.g.trans gr4.g) _ _ ia
    · obtain ⟨_, Gj, accj, _, _, grj, _⟩ := h
      exact grj.g.trans grj.x
    · obtain ⟨_, Gj, accj, haccj, gjD, grj, iaj⟩ := h
      have hgetj : (inner ds[i])[j]? = some (inner ds[i])[j] := List.getElem?_eq_getElem hj
      obtain ⟨G5, gr5, iz⟩ := yj _ hgetj Gj grj.g grj.x
      obtain ⟨ρj, hej, hw⟩ := hel _ (List.getElem_mem hj)
      have g5D := g_none gr5 gjD haccj
      have hacc5 := gr5.h _ _ haccj
      refine Tg.run hej ((Sd.grow (grj.trans gr5)).wipe T1.slots) iz (fun σ3 S3 hwp3 => ?_) fun τ us j o hj => wipe_set τ us j o hj
      refine ⟨(hwp3 _ fun _ h => h).trans (wipe_idem _ _), ?_⟩
      show cE X scope elt σ3 Hj' _
      intro s' H0' C' cl' fp'
      refine hw s' H0' C' cl' fp' B σ3 G5 Hj' S3 _ fun v yv ρ6 G6 H6 e6 S6 x6 pu6 i6 => ?_
      obtain ⟨rfl, gr6⟩ := pu6 rfl
      subst e6
      have g6D := g_none gr6 g5D hacc5
      have hacc6 := gr6.h _ _ hacc5
      refine ⟨accj, hacc6, ?_, del_same, G6, accj ++ [v], upd_same, g6D, ?_, ?_⟩
      · rw [iaj.length]
        refine hsz _ ?_
        rw [List.length_append, List.length_map, List.length_take]
        have e1 : ds = ds.take i ++ ds[i] :: ds.drop (i + 1) := by
          rw [List.getElem_cons_drop, List.take_append_drop]
        have e2 : (ds.flatMap fun d => (inner d).map (f d)).length = ((ds.take i).flatMap fun d => (inner d).map (f d)).length + ((inner ds[i]).length + ((ds.drop (i + 1)).flatMap fun d => (inner d).map (f d)).length) := by
          conv => lhs; rw [e1]
          rw [List.flatMap_append, List.flatMap_cons, List.length_append, List.length_append, List.length_map]
        rw [e2]
        omega
      · have grT := (grj.trans gr5).trans gr6
        refine ⟨grT.g, fun a o e => ?_, fun a o e => ?_, grT.n⟩
        · have q : a ≠ D := by rintro rfl; rw [del_same] at e; cases e
          rw [upd_ne q]; exact grT.h a o e
        · have q : a ≠ D := by rintro rfl; rw [g6D] at e; cases e
          rw [upd_ne q]; exact grT.x a o e
      · rw [List.take_add_one, hgetj]
        show IsA G6 (((ds.take i).flatMap fun d => (inner d).map (f d)) ++ ((inner ds[i]).take j ++ [(inner ds[i])[j]]).map (f ds[i])) (accj ++ [v])
        rw [List.map_append, ← List.append_assoc]
        exact IsA.snoc (IsA.mono (gr5.g.trans gr6.g) _ _ iaj) i6
    · obtain ⟨_, Gj, accj, haccj, gjD, grj, iaj⟩ := h
      refine ⟨hD, Gj, accj, haccj, gjD, grE.trans grj, ?_⟩
      rw [List.take_length] at iaj
      rw [List.take_add_one, hget]
      show IsA Gj ((ds.take i ++ [ds[i]]).flatMap fun d => (inner d).map (f d)) accj
      rw [List.flatMap_append]
      have e : [ds[i]].flatMap (fun d => (inner d).map (f d)) = (inner ds[i]).map (f ds[i]) := by simp
      rw [e]
      exact iaj
  · obtain ⟨_, Gi, acc, hacc, gD, gr, ia⟩ := h
    rw [List.take_length] at ia
    have ex := Ex.new (o := HO.lst acc) gD
    have grF : Grow G1 H1 (L2.upd Gi D (.lst acc)) Hc := ⟨gr.g.trans ex, gr.h, fun a o e => by
      by_cases q : a = D
      · subst q; rw [upd_same] at e; rw [hacc]; exact e
      · rw [upd_ne q] at e; exact gr.x a o e, fun a o e => by
      by_cases q : a = D
      · subst q; exact .inr hD
      · rw [upd_ne q] at e; exact gr.n a o e⟩
    exact r _ _ ρ1 _ Hc q (S1.grow grF) (x.trans grF.g) (fun z => ⟨(pu z).1, (pu z).2.trans grF⟩) (is_h (S1.grow grF) ⟨D, acc, rfl, upd_same, IsA.mono ex _ _ ia⟩)
end
end DD

namespace DD
open PySem PySem.Spec PyProof.Rows L2

section
variable {p g : Bool} {X : Cx} {ρ : Rho} {Q : D → Rho → Prop} {E : DE} {pos : Pos}
/-! ### properties, methods -/
/-- e.f, a property of the class C, by its getter's promise -/
theorem w_prop {C pa ga : Addr} {f : Str} {fd : FuncData} {k : Nat} {c : List D → (D → Prop) → Prop} {e : Expr} (cl : Cls X.K C) (hp : PropOf X.K C f pa ga) (F : FnOk X.prog X.w X.K X.mg X.base CX0 k ga fd ["self"] (spD c)) (hr : Room (k + 1) X.A) (hb : Binds X.K fd ["self"] [])
    (h : W p true X e ρ fun x ρ1 => ∃ fs, x = .obj C fs ∧ c [.obj C fs] fun d => Q d ρ1) (hab : attributeBase e f X.env (eval e X.env) = eval e X.env := by rfl) : W p g X (.Attribute e f pos) ρ Q := fun B σ G H S R r => by
  refine wE_of (pe_prop pe_w cl hp F hr hb .nil pass0 hab) ?_
  refine h B σ G H S _ fun v x ρ' G' H' q S' y pu i => ?_
  obtain ⟨fs, rfl, q⟩ := q
  obtain ⟨a, dx, gs, rfl, e2, e3⟩ := id i
  refine ⟨a, dx, gs, rfl, S'.ex _ _ e2, G', [.obj C fs], fun d => Q d ρ', S'.ex, ⟨.ref a, [], rfl, i, rfl⟩, q, fun v d G2 H2 z gr iz => ?_⟩
  exact r v d ρ' G2 H2 z (S'.grow gr) (y.trans gr.g) (fun w => ⟨(pu w).1, (pu w).2.trans gr⟩) (is_h (S'.grow gr) iz)
/-- e.m() -/
theorem w_meth0 {C f : Addr} {m : Str} {fd : FuncData} {k : Nat} {ps : List Str} {c : List D → (D → Prop) → Prop} {o : Expr} {apos : Pos} {pl : Sem Bool} (cl : Cls X.K C) (hm : Meth X.K C m f) (F : FnOk X.prog X.w X.K X.mg X.base CX0 k f fd ps (spD c)) (hr : Room k X.A) (hb : Binds X.K fd ps [])
    (h : W p true X o ρ fun x ρ1 => ∃ fs, x = .obj C fs ∧ fs.lookup m = none ∧ c [.obj C fs] fun d => Q d ρ1)
    (ht : eval (.Call (.Attribute o m apos) [] [] pos) X.env = (do
      let ov ← eval o X.env
      standAt apos.atName
      let (f, first) ← holding [ov] (getMethod ov m pl)
      callWith pos f first (backTo pos (starEach [] X.env)) (backToKw pos (keywordEach [] X.env))) := by rfl) : W p g X (.Call (.Attribute o m apos) [] [] pos) ρ Q := fun B σ G H S R r => by
  refine wE_of (pe_meth0 (pl := pl) pe_w cl hm F hr hb .nil pass0 ht) ?_
  refine h B σ G H S _ fun v x ρ' G' H' q S' y pu i => ?_
  obtain ⟨fs, rfl, hl, q⟩ := q
  obtain ⟨a, dx, gs, rfl, e2, e3⟩ := id i
  refine ⟨a, dx, gs, rfl, S'.ex _ _ e2, e3.no hl, ?_⟩
  refine ⟨G', [.obj C fs], fun d => Q d ρ', S'.ex, ⟨.ref a, [], rfl, i, rfl⟩, q, fun v d G2 H2 z gr iz => ?_⟩
  exact r v d ρ' G2 H2 z (S'.grow gr) (y.trans gr.g) (fun w => ⟨(pu w).1, (pu w).2.trans gr⟩) (is_h (S'.grow gr) iz)

/-! ### C(e, ..): the promise of __init__ -/
/-- an empty instance at x, made a moment ago; behind it stands with the fields fs -/
def spI (C : Addr) (c : List D → (List (Str × D) → Prop) → Prop) : Sp := fun vs H Q _ => ∃ (x dx : Addr) (H0 G : Hp) (vr : List V) (ds : List D) (Z : List (Str × D) → Prop), vs = .ref x :: vr ∧ H0 x = none ∧ H0 dx = none ∧ dx ≠ x ∧ H = upd (upd H0 dx (.own x)) x (.ins C dx []) ∧
  Ex G H0 ∧ IsA G ds vr ∧ c ds Z ∧ ∀ fs dx' gs G' H', Z fs → Grow G H0 G' H' → G' x = none → H' x = some (.ins C dx' gs) → IsF G' fs gs → Q .non H'
theorem make_go {C : Addr} {c : List D → (List (Str × D) → Prop) → Prop} {B : Base} {σ : L2.St} {ρ' : Rho} {G0 G' H' : Hp} {R : VK} {vs : List V} {ds : List D} {E' : XK} (S' : Sta B σ ρ' G' H') (i : IsA G' ds vs) (q : c ds fun fs => Q (.obj C fs) ρ')
    (r : ∀ (v : V) (d : D) G2 H2, Q d ρ' → Sta B σ ρ' G2 H2 → Grow G' H' G2 H2 → Is G2 d v → R v H2) :
    ∀ x dx, H' x = none → H' dx = none → dx ≠ x → spI C c (.ref x :: vs) (upd (upd H' dx (.own x)) x (.ins C dx [])) (fun v H2 => v = .non ∧ R (.ref x) H2) E' := fun x dx hx hdx ne => by
  refine ⟨x, dx, H', G', vs, ds, fun fs => Q (.obj C fs) ρ', rfl, hx, hdx, ne, rfl, S'.ex, i, q, fun fs dx' gs G2 H2 z gr gx hx2 hf => ⟨rfl, ?_⟩⟩
  have ex := Ex.new (o := HO.ins C dx' gs) gx
  have gr2 : Grow G' H' (L2.upd G2 x (.ins C dx' gs)) H2 := ⟨gr.g.trans ex, gr.h, fun a o e => by
    by_cases q : a = x
    · subst q; rw [upd_same] at e; rw [hx2]; exact e
    · rw [upd_ne q] at e; exact gr.x a o e, fun a o e => by
    by_cases q : a = x
    · subst q; exact .inr hx
    · rw [upd_ne q] at e; exact gr.n a o e⟩
  exact r (.ref x) (.obj C fs) _ H2 z (S'.grow gr2) gr2 ⟨x, dx', gs, rfl, upd_same, IsF.mono ex _ _ hf⟩
theorem w_make {C f : Addr} {x : Str} {pp : Pos} {fd : FuncData} {k : Nat} {ps : List Str} {c : List D → (List (Str × D) → Prop) → Prop} {e : Expr} {es : List Expr} (M : Mk X.K C f) (F : FnOk X.prog X.w X.K X.mg X.base CX0 k f fd ps (spI C c)) (hr : Room (k + 1) X.A) (hm : X.mg x = some (.ref C)) (hb : Binds X.K fd ps [])
    (h : WA p true X (e :: es) ρ fun ds ρ' => c ds fun fs => Q (.obj C fs) ρ') (hg : Gl X x := by rfl) (hdb : (x == ("__debug__" : Str)) = false := by decide)
    (he : starEach (e :: es) X.env = (false, eval e X.env) :: starEach es X.env := by rfl) (hpl : (backTo pos (starEach es X.env)).any (·.1) = false := by rfl) : W p g X (.Call (.Name x pp) (e :: es) [] pos) ρ Q := fun B σ G H S R r => by
  refine wE_of (pe_make M F hr hg hm hb .nil pass0 pa_w hdb he hpl) ?_
  refine h B σ G H S _ fun vs ds ρ' G' H' q S' y pu i => ?_
  have z := make_go (Q := Q) (G0 := G) (R := R) (E' := E0) S' i q fun v d G2 H2 z S2 gr iz => r v d ρ' G2 H2 z S2 (y.trans gr.g) (fun w => ⟨(pu w).1, (pu w).2.trans gr⟩) (is_h S2 iz)
  intro x dx hx hdx ne
  have z2 := z x dx hx hdx ne
  rw [List.append_nil]
  exact z2
/-- self.f = e, in __init__ -/
theorem IsF.put {H : Hp} {f : Str} {d : D} {v : V} (i : Is H d v) : ∀ {fs : List (Str × D)} {gs : List (Str × V)}, IsF H fs gs → fs.lookup f = none → IsF H (fs ++ [(f, d)]) (putF f v gs)
  | [], _, h, _ => by cases h; exact ⟨v, [], rfl, i, rfl⟩
  | (k, e) :: fs, _, ⟨x, r, e1, e2, e3⟩, h => by
    subst e1
    rw [List.lookup_cons] at h
    cases hk : f == k with
    | true => rw [hk] at h; cases h
    | false =>
      rw [hk] at h
      have ne : ¬ k = f := fun q => by subst q; simp at hk
      show IsF H ((k, e) :: (fs ++ [(f, d)])) (if k = f then (k, v) :: r else (k, x) :: putF f v r)
      rw [if_neg ne]
      exact ⟨x, _, rfl, e2, IsF.put i e3 h⟩
theorem IsF.length {H : Hp} : ∀ {fs : List (Str × D)} {gs : List (Str × V)}, IsF H fs gs → gs.length = fs.length
  | [], _, h => by cases h; rfl
  | (k, e) :: fs, _, ⟨x, r, e1, e2, e3⟩ => by subst e1; simp [IsF.length e3]
theorem s_fld {x f : Str} {e : Expr} {i : Nat} {p1 p2 : Pos} (hN : X.N[i]? = some x) (hv : Vis X.env.scope x) (hd : (x == ("__debug__" : Str)) = false) (hcd : (x == ("__classdict__" : Str)) = false)
    (h : W false true X e ρ fun d ρ' => ∃ C fs, ρ'[i]? = some (.own true (.ins C fs)) ∧ Cls X.K C ∧ NoAttr X.K C f ∧ fs.length < 1000 ∧ fs.lookup f = none ∧ E.nx (ρ'.set i (.own true (.ins C (fs ++ [(f, d)])))))
    (hs : swapsWith e (some (.Attribute (.Name x p1) f p2)) pos.line X.env = pure false := by rfl) : WS X (.Assign [.Attribute (.Name x p1) f p2] e pos) ρ E := fun B σ G H F S L => by
  refine wS_of (ps_fld pe_w pe_w hs) ?_
  refine h B σ G H S _ fun v d ρ' G' H' q S' y pu iv => ?_
  obtain ⟨C, fs, hr, hc, hn, hl, hl2, q⟩ := q
  refine own_name hN hv hd hcd hr S' fun l el ok => ?_
  obtain ⟨lx, dx, gs, h1, h2⟩ := ok
  refine ⟨l, C, dx, gs, rfl, h1, hc, hn, by rw [h2.length]; exact hl, ?_⟩
  exact L.nx σ _ G' _ q (S'.upd hr el ⟨lx, dx, _, upd_same, IsF.put iv h2 hl2⟩) y

/-! ### slices of lists -/
def cutD (xs : List D) (lo hi : Option Int) : List D := (xs.drop (HT.sIx xs.length 0 lo)).take (HT.sIx xs.length xs.length hi - HT.sIx xs.length 0 lo)
theorem IsA.cut {H : Hp} {ds : List D} {xs : List V} (h : IsA H ds xs) (lo hi : Option Int) : IsA H (cutD ds lo hi) (cutV xs lo hi) := by
  unfold cutD cutV
  rw [h.length]
  exact (h.drop _).take _
/-- a part of a slice -/
def WO (X : Cx) (e : Option Expr) (ρ : Rho) (Q : Option Int → Prop) : Prop := match e with
  | none => Q none
  | some e => W true true X e ρ fun d _ => ∃ i, d = .int i ∧ Q (some i)
def wO (X : Cx) (e : Option Expr) : TO := match e with
  | none => tNoPart
  | some e => tPart (wE X e)
theorem po_w {X : Cx} : ∀ {e : Option Expr}, PO X e (wO X e)
  | none => po_none
  | some e => po_some pe_w
theorem wo_go {e : Option Expr} {QO : Option Int → Prop} (h : WO X e ρ QO) {B : Base} {σ : L2.St} {G H : Hp} (S : Sta B σ ρ G H) {R : Option Int → Hp → Prop} (r : ∀ o G' H', QO o → Sta B σ ρ G' H' → Grow G H G' H' → R o H') : wO X e σ H R := by
  cases e with
  | none => exact r none G H h S (Grow.refl S.ex)
  | some e =>
    refine h B σ G H S _ fun v d ρ' G' H' q S' y pu i => ?_
    obtain ⟨rfl, gr⟩ := pu rfl
    obtain ⟨n, rfl, q⟩ := q
    exact ⟨n, i, r (some n) G' H' q S' gr⟩
theorem w_slL {e : Expr} {lo hi : Option Expr} {p2 : Pos} (h : W p true X e ρ fun d ρ1 => ∃ xs, d = .lst xs ∧ WO X lo ρ1 fun l => WO X hi ρ1 fun u => Q (.lst (cutD xs l u)) ρ1) : W p g X (.Subscript e (.Slice lo hi none p2) pos) ρ Q := fun B σ G H S R r => by
  refine wE_of (pe_slice sl_list pe_w po_w po_w) ?_
  refine h B σ G H S _ fun v d ρ1 G1 H1 q S1 y pu i => ?_
  obtain ⟨xs, rfl, q⟩ := q
  refine wo_go q S1 fun l G2 H2 q2 S2 gr2 => ?_
  refine wo_go q2 S2 fun u G3 H3 q3 S3 gr3 => ?_
  have i3 := Is.mono (gr2.g.trans gr3.g) _ _ i
  obtain ⟨a, as, rfl, e2, e3⟩ := i3
  refine ⟨a, as, rfl, .inl (.inl (S3.ex _ _ e2)), fun b hb => ?_⟩
  have gr := Grow.new (o := .lst (cutV as l u)) S3.ex hb
  exact r _ (.lst (cutD xs l u)) ρ1 _ _ q3 (S3.grow gr) (((y.trans gr2.g).trans gr3.g).trans gr.g) (fun z => ⟨(pu z).1, (((pu z).2.trans gr2).trans gr3).trans gr⟩) (is_h (S3.grow gr) ⟨b, _, rfl, upd_same, IsA.mono gr.g _ _ (e3.cut l u)⟩)

/-! ### sorted -/
theorem c_sorted {g : Bool} {Z : D → Prop} {ns : List Int} (q : ∀ ms : List Int, ms.Perm ns → ms.Pairwise (· ≤ ·) → Z (.lst (ms.map D.int))) : OpC g X (.builtin "sorted") [.lst (ns.map D.int)] Z := by
  intro G H vs R ex i k
  obtain ⟨v, rfl, a, xs, rfl, e2, e3⟩ := isA_one (isA_any ex i)
  have e4 := e3.ints
  subst e4
  refine ⟨_, cr_sortedI, a, ns, rfl, .inl (.inl e2), fun ms b pm pw hb => ?_⟩
  have gr := Grow.new (o := .lst (ms.map V.int)) ex hb
  exact k _ (.lst (ms.map D.int)) _ _ (q ms pm pw) gr ⟨b, _, rfl, upd_same, IsA.of_ints⟩
/-- sorted(d), d an own dict with int keys -/
theorem keys_of {H : Hp} : ∀ {kvs : List (Key × D)} {ks : List (Key × V)}, IsK H kvs ks → ks.map (·.1) = kvs.map (·.1)
  | [], _, h => by cases h; rfl
  | (k, d) :: kvs, _, ⟨x, r, e1, e2, e3⟩ => by subst e1; simp [keys_of e3]
theorem w_sortedDic {i : Nat} {x y : Str} {pp p2 : Pos} {lc : Bool} {kvs : List (Key × D)} {ns : List Int} (hc : X.calm = true) (hms : X.mg "sorted" = none) (hr : ρ[i]? = some (.own lc (.dic kvs))) (hk : kvs.map (·.1) = ns.map Sum.inl) (h64 : ns.length < 64)
    (q : ∀ ms : List Int, ms.Perm ns → ms.Pairwise (· ≤ ·) → Q (.lst (ms.map D.int)) ρ) (hN : X.N[i]? = some x := by rfl) (hv : Vis X.env.scope x := by first | exact .inl rfl | exact .inr (.inl rfl) | exact .inr (.inr rfl)) (hd : (x == ("__debug__" : Str)) = false := by decide) (hcd : (x == ("__classdict__" : Str)) = false := by decide) (hg : Gl X "sorted" := by rfl)
    (he : starEach [.Name x p2] X.env = (false, eval (.Name x p2) X.env) :: starEach [] X.env := by rfl) (hpl : (backTo pos (starEach [] X.env)).any (·.1) = false := by rfl) : W p g X (.Call (.Name "sorted" pp) [.Name x p2] [] pos) ρ Q := fun B σ G H S R r => by
  refine wE_of (pe_callB (call_sortedDI hc) hg hms (by decide +kernel) (pa_cons pe_w pa_nil he) (by decide) (by decide) he hpl) ?_
  refine own_name hN hv hd hcd hr S fun l el ok => ?_
  obtain ⟨ks, h1, h2⟩ := ok
  refine ⟨l, ks, ns, rfl, .inl h1, (keys_of h2).trans hk, h64, fun ms b pm pw hb => ?_⟩
  have gr := Grow.new (o := .lst (ms.map V.int)) S.ex hb
  exact r _ (.lst (ms.map D.int)) ρ _ _ (q ms pm pw) (S.grow gr) gr.g (fun _ => ⟨rfl, gr⟩) (is_h (S.grow gr) ⟨b, _, rfl, upd_same, IsA.of_ints⟩)

/-! ### dicts with whole numbers as keys -/
theorem IsK.val {H : Hp} {k : Key} : ∀ {kvs : List (Key × D)} {ks : List (Key × V)}, IsK H kvs ks → (∃ d v, (kvs.find? fun e => decide (e.1 = k)).map (·.2) = some d ∧ valV ks k = some v ∧ Is H d v) ∨ ((kvs.find? fun e => decide (e.1 = k)).map (·.2) = none ∧ valV ks k = none)
  | [], _, h => by cases h; exact .inr ⟨rfl, rfl⟩
  | (j, e) :: kvs, _, ⟨x, r, e1, e2, e3⟩ => by
    subst e1
    unfold valV
    rw [List.find?_cons, List.find?_cons]
    by_cases hj : j = k
    · simp only [hj, decide_true]
      exact .inl ⟨e, x, rfl, rfl, e2⟩
    · simp only [hj, decide_false]
      exact IsK.val e3
def lookD (kvs : List (Key × D)) (k : Key) : Option D := (kvs.find? fun e => decide (e.1 = k)).map (·.2)
/-- e in d, e not in d: d an own dict -/
theorem t_inDic {i : Nat} {x : Str} {e : Expr} {p2 : Pos} {lc : Bool} {QT : Bool → Rho → Prop} (hu : X.A.units + 1 < cLine) (h : W true true X e ρ fun d ρ1 => ∃ n kvs, d = .int n ∧ ρ1[i]? = some (.own lc (.dic kvs)) ∧ QT (lookD kvs (.inl n)).isSome ρ1)
    (hN : X.N[i]? = some x := by rfl) (hv : Vis X.env.scope x := by first | exact .inl rfl | exact .inr (.inl rfl) | exact .inr (.inr rfl)) (hd : (x == ("__debug__" : Str)) = false := by decide) (hcd : (x == ("__classdict__" : Str)) = false := by decide) (hm : behindInMarks .In (.Name x p2) = false := by rfl) : WT p X (.Compare e [.In] [.Name x p2] pos) ρ QT := fun B σ G H S R r => by
  refine wT_of (pt_cmp (pc_din hu pe_w pe_w) hm) ?_
  refine h B σ G H S _ fun v d ρ1 G1 H1 q S1 y pu iv => ?_
  obtain ⟨n, kvs, rfl, hr, q⟩ := q
  refine own_name hN hv hd hcd hr S1 fun l el ok => ?_
  obtain ⟨ks, h1, h2⟩ := ok
  cases (iv : v = .int n)
  refine ⟨l, _, rfl, DGet.k (k := Sum.inl n) h1, (valV ks (.inl n)).isSome, rfl, ?_⟩
  have ee : (valV ks (Sum.inl n)).isSome = (lookD kvs (.inl n)).isSome := by
    rcases h2.val (k := Sum.inl n) with ⟨d, v, a1, a2, _⟩ | ⟨a1, a2⟩
    · unfold lookD; rw [a1, a2]; rfl
    · unfold lookD; rw [a1, a2]; rfl
  rw [ee]
  exact r _ ρ1 G1 H1 q S1 y fun _ => pu rfl
theorem t_ninDic {i : Nat} {x : Str} {e : Expr} {p2 : Pos} {lc : Bool} {QT : Bool → Rho → Prop} (hu : X.A.units + 1 < cLine) (h : W true true X e ρ fun d ρ1 => ∃ n kvs, d = .int n ∧ ρ1[i]? = some (.own lc (.dic kvs)) ∧ QT (!(lookD kvs (.inl n)).isSome) ρ1)
    (hN : X.N[i]? = some x := by rfl) (hv : Vis X.env.scope x := by first | exact .inl rfl | exact .inr (.inl rfl) | exact .inr (.inr rfl)) (hd : (x == ("__debug__" : Str)) = false := by decide) (hcd : (x == ("__classdict__" : Str)) = false := by decide) (hm : behindInMarks .NotIn (.Name x p2) = false := by rfl) : WT p X (.Compare e [.NotIn] [.Name x p2] pos) ρ QT := fun B σ G H S R r => by
  refine wT_of (pt_cmp (pc_dnotin hu pe_w pe_w) hm) ?_
  refine h B σ G H S _ fun v d ρ1 G1 H1 q S1 y pu iv => ?_
  obtain ⟨n, kvs, rfl, hr, q⟩ := q
  refine own_name hN hv hd hcd hr S1 fun l el ok => ?_
  obtain ⟨ks, h1, h2⟩ := ok
  cases (iv : v = .int n)
  refine ⟨l, _, rfl, DGet.k (k := Sum.inl n) h1, !(valV ks (.inl n)).isSome, rfl, ?_⟩
  have ee : (valV ks (Sum.inl n)).isSome = (lookD kvs (.inl n)).isSome := by
    rcases h2.val (k := Sum.inl n) with ⟨d, v, a1, a2, _⟩ | ⟨a1, a2⟩
    · unfold lookD; rw [a1, a2]; rfl
    · unfold lookD; rw [a1, a2]; rfl
  rw [ee]
  exact r _ ρ1 G1 H1 q S1 y fun _ => pu rfl
/-- the same as a value -/
theorem w_inDic {i : Nat} {x : Str} {e : Expr} {p2 : Pos} {lc : Bool} (hu : X.A.units + 1 < cLine) (h : W true true X e ρ fun d ρ1 => ∃ n kvs, d = .int n ∧ ρ1[i]? = some (.own lc (.dic kvs)) ∧ Q (.bl (lookD kvs (.inl n)).isSome) ρ1)
    (hN : X.N[i]? = some x := by rfl) (hv : Vis X.env.scope x := by first | exact .inl rfl | exact .inr (.inl rfl) | exact .inr (.inr rfl)) (hd : (x == ("__debug__" : Str)) = false := by decide) (hcd : (x == ("__classdict__" : Str)) = false := by decide) (hm : behindInMarks .In (.Name x p2) = false := by rfl) : W p g X (.Compare e [.In] [.Name x p2] pos) ρ Q := fun B σ G H S R r => by
  refine wE_of (pe_cmp (pc_din hu pe_w pe_w) hm) ?_
  refine h B σ G H S _ fun v d ρ1 G1 H1 q S1 y pu iv => ?_
  obtain ⟨n, kvs, rfl, hr, q⟩ := q
  refine own_name hN hv hd hcd hr S1 fun l el ok => ?_
  obtain ⟨ks, h1, h2⟩ := ok
  cases (iv : v = .int n)
  refine ⟨l, _, rfl, DGet.k (k := Sum.inl n) h1, ?_⟩
  have ee : (valV ks (Sum.inl n)).isSome = (lookD kvs (.inl n)).isSome := by
    rcases h2.val (k := Sum.inl n) with ⟨d, v, a1, a2, _⟩ | ⟨a1, a2⟩
    · unfold lookD; rw [a1, a2]; rfl
    · unfold lookD; rw [a1, a2]; rfl
  rw [ee]
  exact r _ _ ρ1 G1 H1 q S1 y (fun _ => pu rfl) (is_h S1 rfl)
/-- d[e] = v, d an own dict -/
def putD (kvs : List (Key × D)) (k : Key) (v : D) : List (Key × D) :=
  if (kvs.any fun kv => decide (kv.1 = k)) = true then kvs.map (fun kv => if kv.1 = k then (kv.1, v) else kv) else kvs ++ [(k, v)]
theorem IsK.any {H : Hp} {k : Key} : ∀ {kvs : List (Key × D)} {ks : List (Key × V)}, IsK H kvs ks → (ks.any fun kv => decide (kv.1 = k)) = (kvs.any fun kv => decide (kv.1 = k))
  | [], _, h => by cases h; rfl
  | (j, e) :: kvs, _, ⟨x, r, e1, e2, e3⟩ => by subst e1; rw [List.any_cons, List.any_cons, IsK.any e3]
theorem IsK.mapPut {H : Hp} {k : Key} {d : D} {v : V} (i : Is H d v) : ∀ {kvs : List (Key × D)} {ks : List (Key × V)}, IsK H kvs ks → IsK H (kvs.map (fun kv => if kv.1 = k then (kv.1, d) else kv)) (ks.map (fun kv => if kv.1 = k then (kv.1, v) else kv))
  | [], _, h => by cases h; exact rfl
  | (j, e) :: kvs, _, ⟨x, r, e1, e2, e3⟩ => by
    subst e1
    rw [List.map_cons, List.map_cons]
    by_cases hj : j = k
    · rw [if_pos hj, if_pos hj]; exact ⟨v, _, rfl, i, IsK.mapPut i e3⟩
    · rw [if_neg hj, if_neg hj]; exact ⟨x, _, rfl, e2, IsK.mapPut i e3⟩
theorem IsK.app {H : Hp} {k : Key} {d : D} {v : V} (i : Is H d v) : ∀ {kvs : List (Key × D)} {ks : List (Key × V)}, IsK H kvs ks → IsK H (kvs ++ [(k, d)]) (ks ++ [(k, v)])
  | [], _, h => by cases h; exact ⟨v, [], rfl, i, rfl⟩
  | (j, e) :: kvs, _, ⟨x, r, e1, e2, e3⟩ => by subst e1; exact ⟨x, _, rfl, e2, IsK.app i e3⟩
theorem IsK.put {H : Hp} {k : Key} {d : D} {v : V} {kvs : List (Key × D)} {ks : List (Key × V)} (h : IsK H kvs ks) (i : Is H d v) : IsK H (putD kvs k d) (putK ks k v) := by
  unfold putD putK
  rw [h.any]
  split
  · exact h.mapPut i
  · exact h.app i
theorem IsK.length {H : Hp} : ∀ {kvs : List (Key × D)} {ks : List (Key × V)}, IsK H kvs ks → ks.length = kvs.length
  | [], _, h => by cases h; rfl
  | (k, e) :: kvs, _, ⟨x, r, e1, e2, e3⟩ => by subst e1; simp [IsK.length e3]
theorem s_dput {i : Nat} {x : Str} {e ev : Expr} {p1 p2 : Pos} (hu : X.A.units + 1 < cLine)
    (h : W true true X ev ρ fun d _ => W true true X e ρ fun k _ => ∃ n kvs, k = .int n ∧ ρ[i]? = some (.own true (.dic kvs)) ∧ kvs.length < 1000000 ∧ E.nx (ρ.set i (.own true (.dic (putD kvs (.inl n) d)))))
    (hN : X.N[i]? = some x := by rfl) (hv : Vis X.env.scope x := by first | exact .inl rfl | exact .inr (.inl rfl) | exact .inr (.inr rfl)) (hd : (x == ("__debug__" : Str)) = false := by decide) (hcd : (x == ("__classdict__" : Str)) = false := by decide)
    (hs : swapsWith ev (some (.Subscript (.Name x p1) e p2)) pos.line X.env = pure false := by rfl) (hr0 : ∃ kvs, ρ[i]? = some (.own true (.dic kvs))) : WS X (.Assign [.Subscript (.Name x p1) e p2] ev pos) ρ E := fun B σ G H F S L => by
  refine wS_of (ps_dput hu pe_w pe_w pe_w hs) ?_
  refine h B σ G H S _ fun v d ρ' G' H' q S' y pu iv => ?_
  obtain ⟨e1, gr⟩ := pu rfl
  subst e1
  obtain ⟨kvs0, hr0⟩ := hr0
  refine own_name hN hv hd hcd hr0 S' fun l el ok => ?_
  refine q B σ G' H' S' _ fun u k ρ2 G2 H2 q2 S2 y2 pu2 iu => ?_
  obtain ⟨e2, gr2⟩ := pu2 rfl
  subst e2
  obtain ⟨n, kvs, rfl, hr, hl, q2⟩ := q2
  obtain ⟨l', el', gl, bl, ks, h1, h2⟩ := S2.ownAt hr
  have : l' = l := by rw [el] at el'; cases el'; rfl
  subst this
  cases (iu : u = .int n)
  refine ⟨l', _, rfl, DPut.k (k := Sum.inl n) h1 (by rw [h2.length]; exact Nat.lt_trans hl (by decide)), ?_⟩
  exact L.nx σ _ G2 _ q2 (S2.upd hr el ⟨_, upd_same, h2.put (Is.mono y2 _ _ iv)⟩) (y.trans y2)
/-! ### keywords -/
def wK (X : Cx) (kws : List Keyword) : TA := fun σ H R => ∀ pos pins s, Inv X pins σ H s → wpAny (model X.prog X.w) X.A (evalAll ((backToKw pos (keywordEach kws X.env)).map (·.2))) (AP X pins σ R) X.xe s
theorem pk_w {kws : List Keyword} : PK X kws (wK X kws) := ⟨fun pos pins s σ H R I h => h pos pins s I⟩
def WK (p g : Bool) (X : Cx) (kws : List Keyword) (ρ : Rho) (Q : List D → Rho → Prop) : Prop :=
  ∀ (B : Base) (σ : L2.St) (G H : Hp), Sta B σ ρ G H → ∀ R : List V → Hp → Prop,
    (∀ vs ds ρ' G' H', Q ds ρ' → Sta B σ ρ' G' H' → Ex G G' → (p = true → ρ' = ρ ∧ Grow G H G' H') → IsA (if g = true then G' else H') ds vs → R vs H') → wK X kws σ H R
theorem k_nil {QA : List D → Rho → Prop} (q : QA [] ρ) : WK p g X [] ρ QA := fun B σ G H S R r => fun pos pins s I => pk_nil.run pos pins s σ H R I (r [] [] ρ G H q S (Ex.refl G) (fun _ => ⟨rfl, Grow.refl S.ex⟩) rfl)
theorem k_cons {QA : List D → Rho → Prop} {nmo : Option Str} {kpos : Pos} {e : Expr} {kws : List Keyword} (h : W p true X e ρ fun d ρ1 => WK p true X kws ρ1 fun ds ρ2 => QA (d :: ds) ρ2) : WK p true X (⟨nmo, e, kpos⟩ :: kws) ρ QA := fun B σ G H S R r => fun pos pins s I => by
  refine (pk_cons (nm := nmo) (kpos := kpos) pe_w pk_w).run pos pins s σ H R I ?_
  refine h B σ G H S _ fun v d ρ1 G1 H1 q1 S1 e1 pu1 i1 => ?_
  refine q1 B σ G1 H1 S1 _ fun vs ds ρ2 G2 H2 q2 S2 e2 pu2 i2 => ?_
  exact r (v :: vs) (d :: ds) ρ2 G2 H2 q2 S2 (e1.trans e2) (fun z => ⟨(pu2 z).1.trans (pu1 z).1, (pu1 z).2.trans (pu2 z).2⟩) ⟨v, vs, rfl, Is.mono e2 _ _ i1, i2⟩
/-- f(k = v, ..) -/
theorem pe_callK0 {CX : CXT} {k : Nat} {f : Addr} {fd : FuncData} {ps ks : List Str} {sp : Sp} {E : XK} {x : Str} {pp : Pos} {kws : List Keyword} {tk : TA} {gg : List Value → List Value → List Value} {gV : List V → List V → List V}
    (F : FnOk X.prog X.w X.K X.mg X.base CX k f fd ps sp) (hr : Room k X.A) (hg : Gl X x) (hm : X.mg x = some (.ref f)) (hk : PySem.W.keepIn X.K (.ref f) = true) (hb : KBinds X.K fd ps ks gg gV) (hx : Passes CX X E) (hkw : PK X kws tk)
    (hall : (backToKw pos (keywordEach kws X.env)).all (·.1.isSome) = true := by rfl) (hks : (backToKw pos (keywordEach kws X.env)).filterMap (·.1) = ks := by rfl) (hdb : (x == ("__debug__" : Str)) = false := by decide)
    (hpl : ((backTo pos (starEach [] X.env)).any (·.1) || (backToKw pos (keywordEach kws X.env)).any (·.1.isNone)) = false := by rfl) :
    PE X (.Call (.Name x pp) [] kws pos) (fun σ H Q => tk σ H fun zs H2 => sp (gV [] zs) H2 Q E) := by
  refine ⟨fun pins s σ H Q I h => ?_⟩
  refine wpAny_Call_Name_kw (ld_glob I hg hm ?_ hdb)
  refine PySem.W.callWith_KW0 (h₀ := X.base) I.ok.mod.kin hk hall ?_ hpl
  refine thn (hkw.run pos pins s σ H _ I h) fun ws s2 ⟨zs, H2, I2, rz, q2⟩ => ⟨I2.kIn, ?_⟩
  rw [hks]
  exact run_fnk (us := []) F hr hb hx I2 .nil rz q2
theorem w_callK0 {k : Nat} {f : Addr} {fd : FuncData} {ps ks : List Str} {c : List D → (D → Prop) → Prop} {x : Str} {pp : Pos} {kws : List Keyword} {gg : List Value → List Value → List Value} {gV : List V → List V → List V} {gD : List D → List D}
    (F : FnOk X.prog X.w X.K X.mg X.base CX0 k f fd ps (spD c)) (hr : Room k X.A) (hm : X.mg x = some (.ref f)) (hk : PySem.W.keepIn X.K (.ref f) = true) (hb : KBinds X.K fd ps ks gg gV) (hgd : ∀ H ds vs, IsA H ds vs → IsA H (gD ds) (gV [] vs))
    (h : WK p true X kws ρ fun ds ρ' => c (gD ds) fun d => Q d ρ') (hg : Gl X x := by rfl) (hdb : (x == ("__debug__" : Str)) = false := by decide)
    (hall : (backToKw pos (keywordEach kws X.env)).all (·.1.isSome) = true := by rfl) (hks : (backToKw pos (keywordEach kws X.env)).filterMap (·.1) = ks := by rfl)
    (hpl : ((backTo pos (starEach [] X.env)).any (·.1) || (backToKw pos (keywordEach kws X.env)).any (·.1.isNone)) = false := by rfl) : W p g X (.Call (.Name x pp) [] kws pos) ρ Q := fun B σ G H S R r => by
  refine wE_of (pe_callK0 F hr hg hm hk hb pass0 pk_w hall hks hdb hpl) ?_
  refine h B σ G H S _ fun vs ds ρ' G' H' q S' y pu i => ?_
  refine ⟨G', gD ds, fun d => Q d ρ', S'.ex, hgd _ _ _ i, q, fun v d G2 H2 z gr iz => ?_⟩
  exact r v d ρ' G2 H2 z (S'.grow gr) (y.trans gr.g) (fun w => ⟨(pu w).1, (pu w).2.trans gr⟩) (is_h (S'.grow gr) iz)
end
end DD
namespace DD
open PySem PySem.Spec PyProof.Rows L2
/-! ### __init__ by its body -/
def rhoI (N : List Str) (C : Addr) (ds : List D) : Rho := .own true (.ins C []) :: (ds.map Slot.val ++ List.replicate (N.length - (ds.length + 1)) .un)
theorem sta_startI {N : List Str} {G H0 : Hp} {ds : List D} {vs : List V} {C x dx : Addr} (ex : Ex G H0) (i : IsA G ds vs) (hx : H0 x = none) (hdx : H0 dx = none) (ne : dx ≠ x) :
    Sta ⟨H0, G, [], x⟩ (L2.start N (.ref x :: vs)) (rhoI N C ds) G (upd (upd H0 dx (.own x)) x (.ins C dx [])) := by
  have e1 : Ex H0 (upd (upd H0 dx (.own x)) x (.ins C dx [])) := (Ex.new hdx).trans (Ex.new (by rw [upd_ne ne.symm]; exact hx))
  have gx : G x = none := by
    cases r : G x with
    | none => rfl
    | some u => rw [ex x u r] at hx; cases hx
  refine ⟨?_, ex.trans e1, fun a o e _ => e1 a o e, fun a e => ?_, fun _ _ e => .inl e, Ex.refl _, ex, fun l hl => absurd hl (by simp), fun j s v h1 h2 => ?_, fun j k l1 l2 o1 o2 jk h1 h2 => ?_⟩
  · unfold L2.start rhoI
    simp [i.length]
  · cases r : H0 a with
    | none => exact r
    | some u => have e := e; rw [e1 a u r] at e; cases e
  · cases j with
    | zero =>
      cases h1
      rw [start_get (v := .ref x) rfl] at h2
      cases h2
      exact ⟨x, rfl, gx, hx, rfl, dx, [], upd_same, rfl⟩
    | succ j =>
      have h1 : (ds.map Slot.val ++ List.replicate (N.length - (ds.length + 1)) Slot.un)[j]? = some s := h1
      by_cases hj : j < ds.length
      · rw [List.getElem?_append_left (by simpa using hj), List.getElem?_map] at h1
        cases hd : ds[j]? with
        | none => rw [hd] at h1; cases h1
        | some d =>
          rw [hd] at h1
          cases h1
          obtain ⟨y, hy, iy⟩ := i.get hd
          rw [start_get (vs := .ref x :: vs) (i := j + 1) hy] at h2
          cases h2
          exact ⟨y, rfl, iy⟩
      · rw [List.getElem?_append_right (by simpa using hj), List.getElem?_replicate] at h1
        split at h1 <;> cases h1
        trivial
  · have own0 : ∀ (j : Nat) (lc : Bool) (o : Own), (rhoI N C ds)[j]? = some (.own lc o) → j = 0 := fun j lc o h => by
      cases j with
      | zero => rfl
      | succ j =>
        have h : (ds.map Slot.val ++ List.replicate (N.length - (ds.length + 1)) Slot.un)[j]? = some (.own lc o) := h
        by_cases hj : j < ds.length
        · rw [List.getElem?_append_left (by simpa using hj), List.getElem?_map] at h
          cases hd : ds[j]? with
          | none => rw [hd] at h; cases h
          | some d => rw [hd] at h; cases h
        · rw [List.getElem?_append_right (by simpa using hj), List.getElem?_replicate] at h
          split at h <;> cases h
    exact absurd ((own0 j _ _ h1).trans (own0 k _ _ h2).symm) jk
section
variable {P : Program} {w : World} {K : PySem.W.Frag} {mg : Str → Option Value} {base : Heap}
theorem fnI {x qual : Str} {st : Stmt} {f C : Addr} {fd : FuncData} {N ps : List Str} {k : Nat} {c : List D → (List (Str × D) → Prop) → Prop} (F : Fun K x qual st f fd) (S : FnScope N ps (defScope st)) (len : ∀ ds Z, c ds Z → ds.length + 1 = ps.length)
    (h : ∀ (cdv : Value) (A : Around) (outer : List Env) (s : Shared) (H : Hp) (E : XK) (ds : List D) (Z : List (Str × D) → Prop), Room k (A.deeper (envOfC qual (defScope st) s.heap.objs.size f cdv)) → c ds Z →
      WSs (CxD P w K mg base N qual st f cdv A outer s H E) (defBody st) (rhoI N C ds) { nx := fun ρ => ∃ fs, ρ[0]? = some (.own true (.ins C fs)) ∧ Z fs, rt := fun _ => False }) : FnOk P w K mg base CX0 (k + 1) f fd ps (spI C c) := by
  refine F.ok S (fun vs H Q E hs => ?_) fun cdv A outer s H vs Q E hr hs => ?_
  · obtain ⟨x, dx, H0, G, vr, ds, Z, rfl, _, _, _, _, _, i, hc, _⟩ := hs
    have := len ds Z hc
    rw [List.length_cons, i.length]; exact this
  · obtain ⟨x, dx, H0, G, vr, ds, Z, rfl, hx, hdx, ne, rfl, ex, i, hc, q⟩ := hs
    refine ⟨_, pss_w, ?_⟩
    refine h cdv A outer s _ E ds Z hr hc ⟨H0, G, [], x⟩ _ G _ _ (sta_startI (C := C) ex i hx hdx ne) ⟨fun σ' ρ' G' H' z S' _ => ?_, fun v d G' H' z _ _ => z.elim, fun _ _ _ _ z => z.elim, fun _ _ _ _ z => z.elim⟩
    obtain ⟨fs, h0, z⟩ := z
    obtain ⟨l, _, gl, _, lx, dx', gs, h1, h2⟩ := S'.ownAt h0
    have lx : l = x := lx
    subst lx
    exact q fs dx' gs G' H' z ⟨S'.bg, fun a o e => S'.fr a o e (by simp), S'.ex, S'.nw⟩ gl h1 h2
end
end DD

/-! == and != by an own __eq__ -/
namespace PySem.W
open PySem
section
variable {prog : Program} {w : World} {A : Around} {E : Value → Shared → Prop} {s : Shared} {K : Frag} {x C f : Addr} {ox : Obj} {od : Option Obj} {b : Value}
theorem ifBoundB_K {M : Model} {args : List Value} {name : Str} {id : String} {Q : Option Value → Shared → Prop} (X : K.In s.heap) (I : InstAt s.heap x ox C od) (hs : findIn K (.ref C) name = some (some (.builtin id))) (hb : ∀ v, bindSpecial (.builtin id) v = pure (.builtin id, [v]))
    (h : wpAny M A (call (.builtin id) (.ref x :: args)) (fun v => Q (some v)) E s) : wpAny M A (callSpecialIfBound? (.ref x) name args) Q E s := by
  simp only [callSpecialIfBound?, bindSpecialIfBound?]
  refine wpAny_holding (wpAny_bind (wpAny_bind (wpAny_bind (I.type.here ((looks_findIn X hs).here ?_)))))
  simp only [hb]
  refine wpAny_bind (wpAny_askSetting (wpAny_ite ?_))
  have fin : wpAny M A (call (.builtin id) ([.ref x] ++ args) >>= fun v => pure (some v)) Q E s := wpAny_bind (wpAny_mono h (fun v s' h' => wpAny_pure h') fun _ _ h' => h')
  split
  · exact wpAny_bind (wpAny_pure (wpAny_pure fin))
  · exact wpAny_tryCatch (wpAny_bind (wpAny_pure (wpAny_pure fin)))
theorem objNe_K (X : K.In s.heap) (I : InstAt s.heap x ox C od) (hs : findIn K (.ref C) "__eq__" = some (some (.ref f))) (hf : isFn K (.ref f) = true) (hu : A.units < cLine) {Q : Fin → Shared → Prop}
    (hcall : wpAny (model prog w) A (call (.ref f) [.ref x, b]) (fun v s' => ∃ c, v = .bool c ∧ Q (.done (.ret (.bool (!c)))) s') E s) :
    wpAny (model prog w) A (Builtin.«object.__ne__» ⟨[.ref x, b], []⟩) Q E s := by
  unfold Builtin.«object.__ne__»
  repeat (first
    | with_reducible refine wpAny_cRoomFor hu ?_
    | (refine wpAny_bind (m := callSpecialIfBound? (.ref x) (Str.ofString "__eq__") [b])
        (ifBound_K X I hs hf (wpAny_mono hcall (fun v s' hr => by
          obtain ⟨b, rfl, hq⟩ := hr
          repeat (first | exact hq | exact wpAny_pure hq | exact wpAny_truthy_bool hq | (refine wpAny_bind (m := truthy (.bool _)) (wpAny_truthy_bool ?_)) | wp_step)) fun _ _ e => e)))
    | wp_step)
theorem checkSlot_K {M : Model} {id owner n : String} {rest : List Value} {Q : Unit → Shared → Prop} (hk : builtinKind id = some .slot) (hs : splitId id = some (owner, n))
    (ha : argsOk id ⟨.ref x :: rest, []⟩) (X : K.In s.heap) (I : InstAt s.heap x ox C od) (hsub : subIn K (.ref C) (.type owner) = some true) (hq : Q () s) :
    wpAny M A (checkBuiltinCall id ⟨.ref x :: rest, []⟩) Q E s := by
  simp only [checkBuiltinCall, hk, hs]
  refine wpAny_bind ?_
  unfold isInstance
  refine wpAny_bind (I.type.here ((looks_subIn X hsub).here ?_))
  show wpAny M A _ Q E s
  cases hsig : Manifest.signature? id with
  | none => exact wpAny_pure hq
  | some sig =>
    simp only [argsOk, hsig] at ha
    have h2 : Bind.checkArgs id sig ⟨.ref x :: rest, []⟩ = pure () := ha
    show wpAny M A (Bind.checkArgs id sig ⟨.ref x :: rest, []⟩) Q E _
    rw [h2]; exact wpAny_pure hq
theorem ne_K {tb : Value} {Q : Value → Shared → Prop} (hu : A.units + 1 < cLine) (X : K.In s.heap) (I : InstAt s.heap x ox C od) (hb : Looks (model prog w) s.heap (typeOf b) tb) (hn : notFirst K C tb = true)
    (hne : findIn K (.ref C) "__ne__" = some (some (.builtin "object.__ne__"))) (hsub : subIn K (.ref C) (.type "object") = some true) (hs : findIn K (.ref C) "__eq__" = some (some (.ref f))) (hf : isFn K (.ref f) = true)
    (hcall : wpAny (model prog w) A.in1 (call (.ref f) [.ref x, b]) (fun v s' => ∃ c, v = .bool c ∧ Q (.bool (!c)) s') E s) : wpAny (model prog w) A (richCompare .NotEq (.ref x) b) Q E s := by
  have one : wpAny (model prog w) A (tryCompare (.ref x) "__ne__" b) (fun r s' => ∃ v, r = some v ∧ Q v s') E s := by
    unfold tryCompare
    refine wpAny_bind (ifBoundB_K X I hne F.cmp_object.ne.bind (wpAny_call (codeAny_call_builtin F.cmp_object.ne.plain F.cmpEntry_ne
      (checkSlot_K F.cmpKind_ne F.cmpSplit_ne (F.cmpArgs_ne _ _) X I hsub (objNe_K (A := A.in1) X I hs hf hu (wpAny_mono hcall (fun v s' hv => ?_) fun _ _ e => e))))))
    obtain ⟨c, rfl, hq⟩ := hv
    first | exact ⟨c, rfl, wpAny_pure ⟨_, rfl, hq⟩⟩ | exact ⟨c, rfl, wpAny_pure (wpAny_pure ⟨_, rfl, hq⟩)⟩ | exact ⟨c, rfl, _, rfl, hq⟩
  unfold richCompare
  simp only [oneThing_ref]
  refine wpAny_holding (wpAny_bind (wpAny_cRoomFor (Nat.lt_of_succ_lt hu) ?_))
  rw [cmpInfo_NotEq]
  dsimp only
  refine wpAny_bind (I.type.here (wpAny_bind (hb.here ?_)))
  split
  · rename_i q
    have e : subIn K tb (.ref C) = some false := by
      rcases Bool.or_eq_true_iff.mp hn with e | e
      · rw [beq_iff_eq.mp e] at q; simp at q
      · exact beq_iff_eq.mp e
    refine wpAny_bind ((looks_subIn X e).here ?_)
    simp only [Bool.false_eq_true, if_false]
    refine wpAny_bind (wpAny_mono one (fun r s' z => ?_) fun _ _ e => e)
    obtain ⟨v, rfl, hq⟩ := z
    exact wpAny_pure hq
  · refine wpAny_bind (wpAny_pure ?_)
    simp only [Bool.false_eq_true, if_false]
    refine wpAny_bind (wpAny_mono one (fun r s' z => ?_) fun _ _ e => e)
    obtain ⟨v, rfl, hq⟩ := z
    exact wpAny_pure hq
end
end PySem.W
namespace DD
open PySem PySem.Spec PyProof.Rows L2
section
variable {X : Cx} {C f : Addr} {fd : FuncData} {ps : List Str} {k : Nat}
def rEqO (C : Addr) (sp : Sp) : R2 := fun x y H Q => ∃ a b dx dy fs gs, x = .ref a ∧ y = .ref b ∧ H a = some (.ins C dx fs) ∧ H b = some (.ins C dy gs) ∧ sp [x, y] H (fun v H' => (∃ c, v = .bl c) ∧ Q v H') E0
def rNeO (C : Addr) (sp : Sp) : R2 := fun x y H Q => ∃ a b dx dy fs gs, x = .ref a ∧ y = .ref b ∧ H a = some (.ins C dx fs) ∧ H b = some (.ins C dy gs) ∧ sp [x, y] H (fun v H' => ∃ c, v = .bl c ∧ Q (.bl (!c)) H') E0
theorem op_eqO {sp : Sp} (F : FnOk X.prog X.w X.K X.mg X.base CX0 k f fd ps sp) (hr : Room k X.A) (hs : PySem.W.findIn X.K (.ref C) "__eq__" = some (some (.ref f))) (hf : PySem.W.isFn X.K (.ref f) = true) (hb : Binds X.K fd ps []) : OpR X (compareOp .Eq) (rEqO C sp) := by
  intro pins s σ H x y v u Q I rx ry h
  obtain ⟨a, b, dx, dy, fs, gs, rfl, rfl, ha, hb', hsp⟩ := h
  cases rx
  cases ry
  obtain ⟨mA, J, _⟩ := ins_get I.hok ha
  obtain ⟨mB, J', _⟩ := ins_get I.hok hb'
  obtain ⟨od, J, _⟩ := J.look
  obtain ⟨od', J', _⟩ := J'.look
  obtain ⟨m, hF⟩ := I.fr
  show wpAny (model X.prog X.w) X.A (richCompare .Eq (.ref a) (.ref b)) (EP X pins σ Q) X.xe s
  refine PySem.W.cmp_K (op := .Eq) (tb := .ref C) hr.units0 hF I.ok.mod.kin J J'.type (by simp [PySem.W.notFirst]) hs hf ?_
  have hl := F.len _ _ _ _ hsp
  have r2 : Vals [V.ref a, V.ref b] [Value.ref a, Value.ref b] := .cons rfl (.cons rfl .nil)
  refine wpAny_call (codeAny_mono (F.run X.A X.stack s H ⟨[.ref a, .ref b], []⟩ [.ref a, .ref b] [.ref a, .ref b] _ E0 hr I.env0 (by
    have := hb s [.ref a, .ref b] I.kIn (by simpa using hl)
    simpa using this) r2 hsp) fun r s' hq => ?_)
  cases r with
  | error e => exact (pass0 pins σ H s e s' I hq : X.xe e s')
  | ok fl =>
    cases fl with
    | ret w =>
      obtain ⟨z, H', I', rz, ⟨c, ez⟩, q⟩ := I.after hq
      subst ez
      cases rz
      exact ⟨.bl c, H', I', rfl, q⟩
    | next => exact False.elim hq
    | brk => exact False.elim hq
    | cont => exact False.elim hq
theorem op_neO {sp : Sp} (F : FnOk X.prog X.w X.K X.mg X.base CX0 k f fd ps sp) (hr : Room (k + 1) X.A) (hs : PySem.W.findIn X.K (.ref C) "__eq__" = some (some (.ref f))) (hne : PySem.W.findIn X.K (.ref C) "__ne__" = some (some (.builtin "object.__ne__"))) (hsub : PySem.W.subIn X.K (.ref C) (.type "object") = some true)
    (hf : PySem.W.isFn X.K (.ref f) = true) (hb : Binds X.K fd ps []) : OpR X (compareOp .NotEq) (rNeO C sp) := by
  intro pins s σ H x y v u Q I rx ry h
  obtain ⟨a, b, dx, dy, fs, gs, rfl, rfl, ha, hb', hsp⟩ := h
  cases rx
  cases ry
  obtain ⟨mA, J, _⟩ := ins_get I.hok ha
  obtain ⟨mB, J', _⟩ := ins_get I.hok hb'
  obtain ⟨od, J, _⟩ := J.look
  obtain ⟨od', J', _⟩ := J'.look
  show wpAny (model X.prog X.w) X.A (richCompare .NotEq (.ref a) (.ref b)) (EP X pins σ Q) X.xe s
  refine PySem.W.ne_K (tb := .ref C) (hu_of hr) I.kIn J J'.type (by simp [PySem.W.notFirst]) hne hsub hs hf ?_
  have hl := F.len _ _ _ _ hsp
  have r2 : Vals [V.ref a, V.ref b] [Value.ref a, Value.ref b] := .cons rfl (.cons rfl .nil)
  refine wpAny_call (codeAny_mono (F.run X.A.in1 X.stack s H ⟨[.ref a, .ref b], []⟩ [.ref a, .ref b] [.ref a, .ref b] _ E0 hr.in1 I.env0.in1 (by
    have := hb s [.ref a, .ref b] I.kIn (by simpa using hl)
    simpa using this) r2 hsp) fun r s' hq => ?_)
  cases r with
  | error e => exact (pass0 pins σ H s e s' I hq : X.xe e s')
  | ok fl =>
    cases fl with
    | ret w =>
      obtain ⟨z, H', I', rz, c, ez, q⟩ := I.after hq
      subst ez
      cases rz
      exact ⟨c, rfl, .bl (!c), H', I', rfl, q⟩
    | next => exact False.elim hq
    | brk => exact False.elim hq
    | cont => exact False.elim hq
variable {c : List D → (D → Prop) → Prop} {Z : D → Prop} {fs gs : List (Str × D)}
theorem o_eqO (F : FnOk X.prog X.w X.K X.mg X.base CX0 k f fd ps (spD c)) (hr : Room k X.A) (hs : PySem.W.findIn X.K (.ref C) "__eq__" = some (some (.ref f))) (hf : PySem.W.isFn X.K (.ref f) = true) (hb : Binds X.K fd ps [])
    (q : c [.obj C fs, .obj C gs] fun d => ∃ k, d = .bl k ∧ Z (.bl k)) : Op2 true X (compareOp .Eq) (.obj C fs) (.obj C gs) Z := by
  intro G H v u R ex i j kk
  obtain ⟨a, dx, hs1, rfl, e2, e3⟩ := id i
  obtain ⟨b, dy, hs2, rfl, f2, f3⟩ := id j
  refine ⟨_, op_eqO F hr hs hf hb, a, b, dx, dy, hs1, hs2, rfl, rfl, ex _ _ e2, ex _ _ f2, G, [.obj C fs, .obj C gs], fun d => ∃ k, d = .bl k ∧ Z (.bl k), ex, ⟨_, _, rfl, i, _, _, rfl, j, rfl⟩, q, fun v d G' H' z gr iz => ?_⟩
  obtain ⟨k, rfl, z⟩ := z
  exact ⟨⟨k, iz⟩, kk v (.bl k) G' H' z gr iz⟩
theorem o_neO (F : FnOk X.prog X.w X.K X.mg X.base CX0 k f fd ps (spD c)) (hr : Room (k + 1) X.A) (hs : PySem.W.findIn X.K (.ref C) "__eq__" = some (some (.ref f))) (hne : PySem.W.findIn X.K (.ref C) "__ne__" = some (some (.builtin "object.__ne__"))) (hsub : PySem.W.subIn X.K (.ref C) (.type "object") = some true) (hf : PySem.W.isFn X.K (.ref f) = true) (hb : Binds X.K fd ps [])
    (q : c [.obj C fs, .obj C gs] fun d => ∃ k, d = .bl k ∧ Z (.bl (!k))) : Op2 true X (compareOp .NotEq) (.obj C fs) (.obj C gs) Z := by
  intro G H v u R ex i j kk
  obtain ⟨a, dx, hs1, rfl, e2, e3⟩ := id i
  obtain ⟨b, dy, hs2, rfl, f2, f3⟩ := id j
  refine ⟨_, op_neO F hr hs hne hsub hf hb, a, b, dx, dy, hs1, hs2, rfl, rfl, ex _ _ e2, ex _ _ f2, G, [.obj C fs, .obj C gs], fun d => ∃ k, d = .bl k ∧ Z (.bl (!k)), ex, ⟨_, _, rfl, i, _, _, rfl, j, rfl⟩, q, fun v d G' H' z gr iz => ?_⟩
  obtain ⟨k, rfl, z⟩ := z
  cases (iz : v = .bl k)
  exact ⟨k, rfl, kk _ (.bl (!k)) G' H' z gr rfl⟩
/-- isinstance(x, C) of an instance of C -/
theorem c_isiO (cl : Cls X.K C) (ha : PySem.W.findIn X.K (.ref C) "__class__" = some (some (.builtin "object.__class__"))) (hn : PySem.W.specialIn X.K (.builtin "object.__class__") "__get__" = some (some (.builtin "getset_descriptor.__get__"))) (htk : PySem.W.takesIn X.K (.builtin "object.__class__") = some true) (hm : PySem.W.mroIn X.K C (.type "object") = some true)
    (hk : PySem.W.kitOne X.K (.ref C) (.ref C) = some true) (q : Z (.bl true)) (G H : Hp) (a : Addr) (v : V) (R : VK) (ex : Ex G H) (i : Is G (.obj C fs) v) (kk : ∀ w z G' H', Z z → Grow G H G' H' → Is G' z w → R w H') : rAnyC X (.builtin "isinstance") [v, .ref C] H R := by
  obtain ⟨b, dx, gs, rfl, e2, e3⟩ := i
  exact ⟨_, call_isi, .ref b, .ref C, .ref C, .ref C, true, rfl, .own C, .base (.ins (ex _ _ e2) cl ha hn htk hm), hk, kk _ (.bl true) G H q (Grow.refl ex) rfl⟩
end
end DD
namespace DD
open PySem PySem.Spec PyProof.Rows L2
section
variable {p g : Bool} {X : Cx} {ρ : Rho} {Q : D → Rho → Prop} {C : Addr}
structure ClsT (K : PySem.W.Frag) (C : Addr) : Prop where
  cl : Cls K C
  ha : PySem.W.findIn K (.ref C) "__class__" = some (some (.builtin "object.__class__"))
  hn : PySem.W.specialIn K (.builtin "object.__class__") "__get__" = some (some (.builtin "getset_descriptor.__get__"))
  ht : PySem.W.takesIn K (.builtin "object.__class__") = some true
  hm : PySem.W.mroIn K C (.type "object") = some true
  hk : PySem.W.kitOne K (.ref C) (.ref C) = some true
theorem w_isiO {y : Str} {e : Expr} {pp py pos : Pos} (T : ClsT X.K C) (hmi : X.mg "isinstance" = none) (hC : X.mg y = some (.ref C)) (h : W p true X e ρ fun x ρ1 => ∃ fs, x = .obj C fs ∧ Q (.bl true) ρ1)
    (hg1 : Gl X "isinstance" := by rfl) (hg2 : Gl X y := by rfl) (hd : (y == ("__debug__" : Str)) = false := by decide)
    (he : starEach [e, .Name y py] X.env = (false, eval e X.env) :: starEach [.Name y py] X.env := by rfl) (he2 : starEach [.Name y py] X.env = (false, eval (.Name y py) X.env) :: starEach [] X.env := by rfl) (hpl : (backTo pos (starEach [.Name y py] X.env)).any (·.1) = false := by rfl) :
    W p g X (.Call (.Name "isinstance" pp) [e, .Name y py] [] pos) ρ Q := fun B σ G H S R r => by
  refine wE_of (pe_callB (id := "isinstance") call_any hg1 hmi (by decide +kernel) (pa_cons pe_w (pa_cons (pe_glob (v := .ref C) hg2 hC rfl hd) pa_nil he2) he) (by decide) (by decide) he hpl) ?_
  refine h B σ G H S _ fun v x ρ' G' H' q S' y pu i => ?_
  obtain ⟨fs, rfl, q⟩ := q
  exact c_isiO (Z := fun z => Q z ρ') T.cl T.ha T.hn T.ht T.hm T.hk q G' H' 0 v R S'.ex i fun w z G2 H2 hz gr iz => r w z ρ' G2 H2 hz (S'.grow gr) (y.trans gr.g) (fun z => ⟨(pu z).1, (pu z).2.trans gr⟩) (is_h (S'.grow gr) iz)
end
end DD
namespace DD
open PySem PySem.Spec PyProof.Rows L2
section
variable {p g : Bool} {X : Cx} {ρ : Rho} {Q : D → Rho → Prop} {QT : Bool → Rho → Prop} {Z : D → Prop}
theorem t_chain {a b c : Expr} {op op' : CmpOp} {pos : Pos} (h : W true true X a ρ fun x ρ1 => W true true X b ρ1 fun y ρ2 => Op2 true X (compareOp op) x y fun z => ∃ k, z = .bl k ∧ if k = true then W true true X c ρ2 fun u ρ3 => Op2 true X (compareOp op') y u fun w => ∃ j, w = .bl j ∧ QT j ρ3 else QT false ρ2)
    (hm : lastMarks [op, op'] [b, c] = false := by with_unfolding_all rfl) : WT p X (.Compare a [op, op'] [b, c] pos) ρ QT := WT.un fun B σ G H S R r => by
  refine wT_of (pt_chain op_any op_any pe_w pe_w pe_w hm) ?_
  refine two (p := true) (p1 := true) (.inr rfl) h S fun v u x y ρ' G' H' q S' e pu i1 i2 => ?_
  refine q G' H' v u _ S'.ex i1 i2 fun w z G2 H2 hz gr iz => ?_
  obtain ⟨k, rfl, hk⟩ := hz
  refine ⟨k, iz, ?_⟩
  have S2 := S'.grow gr
  cases k with
  | true =>
    refine hk B σ G2 H2 S2 _ fun t d ρ3 G3 H3 q3 S3 e3 pu3 i3 => ?_
    refine q3 G3 H3 u t _ S3.ex (Is.mono (gr.g.trans e3) _ _ i2) i3 fun w2 z2 G4 H4 hz4 gr4 iz4 => ?_
    obtain ⟨j, rfl, hz4⟩ := hz4
    exact ⟨j, iz4, r j ρ3 G4 H4 hz4 (S3.grow gr4) (((e.trans gr.g).trans e3).trans gr4.g) (fun z => ⟨(pu3 rfl).1.trans (pu rfl).1, (((pu rfl).2.trans gr).trans (pu3 rfl).2).trans gr4⟩)⟩
  | false => exact ⟨false, rfl, r false ρ' G2 H2 hk S2 (e.trans gr.g) (fun z => ⟨(pu rfl).1, (pu rfl).2.trans gr⟩)⟩
theorem c_allD {ds : List D} {b : D → Bool} (hc : X.calm = true) (q : Z (.bl (ds.all b))) : OpC g X (.builtin "all") [.lst (ds.map fun d => .bl (b d))] Z := by
  have e : ds.map (fun d => D.bl (b d)) = (ds.map b).map D.bl := by rw [List.map_map]; rfl
  rw [e]
  refine c_all hc ?_
  have e2 : (ds.map b).all id = ds.all b := by rw [List.all_map]; rfl
  rw [e2]; exact q
theorem c_anyD {ds : List D} {b : D → Bool} (hc : X.calm = true) (q : Z (.bl (ds.any b))) : OpC g X (.builtin "any") [.lst (ds.map fun d => .bl (b d))] Z := by
  have e : ds.map (fun d => D.bl (b d)) = (ds.map b).map D.bl := by rw [List.map_map]; rfl
  rw [e]
  refine c_any hc ?_
  have e2 : (ds.map b).any id = ds.any b := by rw [List.any_map]; rfl
  rw [e2]; exact q
theorem c_sumD {ds : List D} {b : D → Int} (hc : X.calm = true) (q : Z (.int (ds.map b).sum)) : OpC g X (.builtin "sum") [.lst (ds.map fun d => .int (b d))] Z := by
  have e : ds.map (fun d => D.int (b d)) = (ds.map b).map D.int := by rw [List.map_map]; rfl
  rw [e]
  exact c_sum hc q
/-! comprehensions by the forms of their targets: one name, two names -/
theorem s_setX {i : Nat} {y : Str} {py : Pos} {e : Expr} {t : TE} {spos : Pos} {E : DE} (ps : PS X (.Assign [.Name y py] e spos) (tAsg t (gName i))) (h : WX false true t ρ fun d ρ' => E.nx (ρ'.set i (.val d))) : WS X (.Assign [.Name y py] e spos) ρ E := fun B σ G H F S L => by
  refine wS_of ps ?_
  exact h B σ G H S _ fun v d ρ' G' H' q S' x pu j => L.nx _ _ G' H' q (S'.set j) x
abbrev Loc1 (X : Cx) (scope : Scope) (x : Str) : Prop := ∀ s H C cl fp, Loc (Blk X scope s H C cl fp).env.scope x ∧ ((Blk X scope s H C cl fp).fn x = true ∨ (Blk X scope s H C cl fp).env.scope.names.lookup x = some .local)
theorem pg1 {scope : Scope} {x : Str} {i : Nat} {px : Pos} {N ps : List Str} {sc : Scope} (S0 : FnScope N ps sc) (hXN : X.N = N) (hi : X.N[i]? = some x) (hl : Loc1 X scope x) : ∀ s H C cl fp, PG (Blk X scope s H C cl fp) (.Name x px) ((Tg.one i).g X.K) :=
  fun s H C cl fp => pg_name (show (Blk X scope s H C cl fp).N.Nodup from hXN ▸ S0.nd) hi (hl s H C cl fp).1 (hl s H C cl fp).2
abbrev Two (X : Cx) (scope : Scope) (x y : Str) (px py : Pos) : Prop := ∀ s H C cl fp, (assignEach [.Name x px, .Name y py] (Blk X scope s H C cl fp).env).length = 2 ∧ (assignEach [.Name x px, .Name y py] (Blk X scope s H C cl fp).env).findIdx? (·.1) = none ∧
  (assignEach [.Name x px, .Name y py] (Blk X scope s H C cl fp).env).map (·.2) = assign (.Name x px) (Blk X scope s H C cl fp).env :: (assignEach [.Name y py] (Blk X scope s H C cl fp).env).map (·.2) ∧
  (assignEach [.Name y py] (Blk X scope s H C cl fp).env).map (·.2) = assign (.Name y py) (Blk X scope s H C cl fp).env :: (assignEach [] (Blk X scope s H C cl fp).env).map (·.2)
theorem pg2 {scope : Scope} {x y : Str} {i j : Nat} {px py pt : Pos} {kk : Nat} {N ps : List Str} {sc : Scope} (S0 : FnScope N ps sc) (hXN : X.N = N) (hc : X.calm = true) (hi : X.N[i]? = some x) (hl : Loc1 X scope x) (hj : X.N[j]? = some y) (hl2 : Loc1 X scope y) (h2 : Two X scope x y px py) :
    ∀ s H C cl fp, PG (Blk X scope s H C cl fp) (.Tuple [.Name x px, .Name y py] kk pt) ((Tg.two i j).g X.K) :=
  fun s H C cl fp => pg_tup hc (pgs_cons (pg_name (show (Blk X scope s H C cl fp).N.Nodup from hXN ▸ S0.nd) hi (hl s H C cl fp).1 (hl s H C cl fp).2) (pgs_cons (pg_name (show (Blk X scope s H C cl fp).N.Nodup from hXN ▸ S0.nd) hj (hl2 s H C cl fp).1 (hl2 s H C cl fp).2) pgs_nil (h2 s H C cl fp).2.2.2) (h2 s H C cl fp).2.2.1) (h2 s H C cl fp).1 (h2 s H C cl fp).2.1
section
variable {N ps : List Str} {sc scope : Scope} {x y : Str} {elt iter c : Expr} {pos px py pt : Pos} {kk : Nat}
abbrev P1 (p : Bool) (X : Cx) (scope : Scope) (i : Nat) (x : Str) (px : Pos) (iter elt : Expr) (f : D → D) (ρ : Rho) (Q : D → Rho → Prop) : Prop :=
  WI p X (.Name x px) iter ρ fun ds ρ1 => ds.length ≤ 40000 ∧ (∀ d ∈ ds, ∀ s H C cl fp, W true true (Blk X scope s H C cl fp) elt ((ρ1.set i .un).set i (.val d)) fun y _ => y = f d) ∧ Q (.lst (ds.map f)) ρ1
theorem x1 {i : Nat} {f : D → D} (h : P1 p X scope i x px iter elt f ρ Q) : WX p g (tLc (wI X (.Name x px) iter) ((Tg.one i).g X.K) tYes (cE X scope elt) [i]) ρ Q :=
  x_lc (T := .one i) (own := [(x, i)]) f (fun j hj => hj) fun B σ G H S R r => h B σ G H S R fun J ds ρ1 G1 H1 q S1 y pu wk => r J ds ρ1 G1 H1 ⟨q.1, fun d hd => ⟨_, rfl, q.2.1 d hd⟩, q.2.2⟩ S1 y pu wk
/-- [elt for x in iter], x in slot i -/
theorem lc1 (i : Nat) (f : D → D) (S0 : FnScope N ps sc) (h : P1 p X scope i x px iter elt f ρ Q) (hXN : X.N = N := by rfl) (hbk : blkC X.N X.env.scope scope [(x, i)] = true := by kernel_rfl) (hi : X.N[i]? = some x := by rfl)
    (hl : Loc1 X scope x := by intro _ _ _ _ _; first | exact ⟨.inl rfl, .inr rfl⟩ | exact ⟨.inr rfl, .inl rfl⟩) (hc : X.calm = true := by rfl) (hs : ∀ x, foldedSetIterable iter X.env x = pure x := by intro _; rfl) :
    W p g X (.ListComp elt [⟨.Name x px, iter, [], 0⟩] scope pos) ρ Q :=
  WX.w (pe_lc (own := [(x, i)]) hc (hXN ▸ S0.nd) pi_w (blkOk_by hbk) (pg1 S0 hXN hi hl) (fun _ _ _ _ _ => pts_nil) pe_c hs) (x1 h)
/-- y = [elt for x in iter], y in slot l -/
theorem s_lc1 (l i : Nat) (f : D → D) {E : DE} {z : Str} {pz spos : Pos} (S0 : FnScope N ps sc) (h : P1 false X scope i x px iter elt f ρ fun d ρ' => E.nx (ρ'.set l (.val d))) (hXN : X.N = N := by rfl) (hbk : blkC X.N X.env.scope scope [(x, i)] = true := by kernel_rfl) (hi : X.N[i]? = some x := by rfl)
    (hl : Loc1 X scope x := by intro _ _ _ _ _; first | exact ⟨.inl rfl, .inr rfl⟩ | exact ⟨.inr rfl, .inl rfl⟩) (hc : X.calm = true := by rfl) (hs : ∀ x, foldedSetIterable iter X.env x = pure x := by intro _; rfl) (hz : X.N[l]? = some z := by rfl) (hzl : X.env.scope.names.lookup z = some .local := by rfl)
    (hsw : swapsWith (.ListComp elt [⟨.Name x px, iter, [], 0⟩] scope pos) (some (.Name z pz)) spos.line X.env = pure true := by exact sw_true rfl rfl rfl (by decide +kernel)) :
    WS X (.Assign [.Name z pz] (.ListComp elt [⟨.Name x px, iter, [], 0⟩] scope pos) spos) ρ E :=
  s_setX (ps_setLc (own := [(x, i)]) hc (hXN ▸ S0.nd) hz hzl hsw pi_w (blkOk_by hbk) (pg1 S0 hXN hi hl) (fun _ _ _ _ _ => pts_nil) pe_c hs) (x1 h)
abbrev P1If (p : Bool) (X : Cx) (scope : Scope) (i : Nat) (x : Str) (px : Pos) (iter elt c : Expr) (bt : D → Bool) (f : D → D) (ρ : Rho) (Q : D → Rho → Prop) : Prop :=
  WI p X (.Name x px) iter ρ fun ds ρ1 => ds.length ≤ 40000 ∧ (∀ d ∈ ds, ∀ s H C cl fp, WT true (Blk X scope s H C cl fp) c ((ρ1.set i .un).set i (.val d)) (fun b _ => b = bt d) ∧ (bt d = true → W true true (Blk X scope s H C cl fp) elt ((ρ1.set i .un).set i (.val d)) fun y _ => y = f d)) ∧ Q (.lst ((ds.filter bt).map f)) ρ1
theorem x1If {i : Nat} {bt : D → Bool} {f : D → D} (h : P1If p X scope i x px iter elt c bt f ρ Q) : WX p g (tLc (wI X (.Name x px) iter) ((Tg.one i).g X.K) (cT X scope c) (cE X scope elt) [i]) ρ Q :=
  x_lcIf (T := .one i) (own := [(x, i)]) bt f (fun j hj => hj) fun B σ G H S R r => h B σ G H S R fun J ds ρ1 G1 H1 q S1 y pu wk => r J ds ρ1 G1 H1 ⟨q.1, fun d hd => ⟨_, rfl, q.2.1 d hd⟩, q.2.2⟩ S1 y pu wk
theorem lc1If (i : Nat) (bt : D → Bool) (f : D → D) (S0 : FnScope N ps sc) (h : P1If p X scope i x px iter elt c bt f ρ Q) (hXN : X.N = N := by rfl) (hbk : blkC X.N X.env.scope scope [(x, i)] = true := by kernel_rfl) (hi : X.N[i]? = some x := by rfl)
    (hl : Loc1 X scope x := by intro _ _ _ _ _; first | exact ⟨.inl rfl, .inr rfl⟩ | exact ⟨.inr rfl, .inl rfl⟩) (hc : X.calm = true := by rfl) (hs : ∀ x, foldedSetIterable iter X.env x = pure x := by intro _; rfl) :
    W p g X (.ListComp elt [⟨.Name x px, iter, [c], 0⟩] scope pos) ρ Q :=
  WX.w (pe_lc (own := [(x, i)]) hc (hXN ▸ S0.nd) pi_w (blkOk_by hbk) (pg1 S0 hXN hi hl) pt_c pe_c hs) (x1If h)
abbrev P2 (p : Bool) (X : Cx) (scope : Scope) (i j : Nat) (x y : Str) (px py pt : Pos) (kk : Nat) (iter elt : Expr) (f : D → D) (ρ : Rho) (Q : D → Rho → Prop) : Prop :=
  WI p X (.Tuple [.Name x px, .Name y py] kk pt) iter ρ fun ds ρ1 => ds.length ≤ 40000 ∧ (∀ d ∈ ds, ∃ a b, d = .tup [a, b] ∧ ∀ s H C cl fp, W true true (Blk X scope s H C cl fp) elt ((((ρ1.set j .un).set i .un).set i (.val a)).set j (.val b)) fun y _ => y = f d) ∧ Q (.lst (ds.map f)) ρ1
theorem x2 {i j : Nat} {f : D → D} (h : P2 p X scope i j x y px py pt kk iter elt f ρ Q) : WX p g (tLc (wI X (.Tuple [.Name x px, .Name y py] kk pt) iter) ((Tg.two i j).g X.K) tYes (cE X scope elt) [i, j]) ρ Q :=
  x_lc (T := .two i j) (own := [(x, i), (y, j)]) f (fun j hj => hj) fun B σ G H S R r => h B σ G H S R fun J ds ρ1 G1 H1 q S1 y pu wk => r J ds ρ1 G1 H1 ⟨q.1, fun d hd => by
    obtain ⟨a, b, rfl, hw⟩ := q.2.1 d hd
    exact ⟨_, rfl, hw⟩, q.2.2⟩ S1 y pu wk
theorem lc2 (i j : Nat) (f : D → D) (S0 : FnScope N ps sc) (h : P2 p X scope i j x y px py pt kk iter elt f ρ Q) (hXN : X.N = N := by rfl) (hbk : blkC X.N X.env.scope scope [(x, i), (y, j)] = true := by kernel_rfl) (hi : X.N[i]? = some x := by rfl) (hj : X.N[j]? = some y := by rfl)
    (hl : Loc1 X scope x := by intro _ _ _ _ _; first | exact ⟨.inl rfl, .inr rfl⟩ | exact ⟨.inr rfl, .inl rfl⟩) (hl2 : Loc1 X scope y := by intro _ _ _ _ _; first | exact ⟨.inl rfl, .inr rfl⟩ | exact ⟨.inr rfl, .inl rfl⟩) (h2 : Two X scope x y px py := by intro _ _ _ _ _; exact ⟨rfl, rfl, rfl, rfl⟩)
    (hc : X.calm = true := by rfl) (hs : ∀ x, foldedSetIterable iter X.env x = pure x := by intro _; rfl) :
    W p g X (.ListComp elt [⟨.Tuple [.Name x px, .Name y py] kk pt, iter, [], 0⟩] scope pos) ρ Q :=
  WX.w (pe_lc (own := [(x, i), (y, j)]) hc (hXN ▸ S0.nd) pi_w (blkOk_by hbk) (pg2 S0 hXN hc hi hl hj hl2 h2) (fun _ _ _ _ _ => pts_nil) pe_c hs) (x2 h)
theorem s_lc2 (l i j : Nat) (f : D → D) {E : DE} {z : Str} {pz spos : Pos} (S0 : FnScope N ps sc) (h : P2 false X scope i j x y px py pt kk iter elt f ρ fun d ρ' => E.nx (ρ'.set l (.val d))) (hXN : X.N = N := by rfl) (hbk : blkC X.N X.env.scope scope [(x, i), (y, j)] = true := by kernel_rfl) (hi : X.N[i]? = some x := by rfl) (hj : X.N[j]? = some y := by rfl)
    (hl : Loc1 X scope x := by intro _ _ _ _ _; first | exact ⟨.inl rfl, .inr rfl⟩ | exact ⟨.inr rfl, .inl rfl⟩) (hl2 : Loc1 X scope y := by intro _ _ _ _ _; first | exact ⟨.inl rfl, .inr rfl⟩ | exact ⟨.inr rfl, .inl rfl⟩) (h2 : Two X scope x y px py := by intro _ _ _ _ _; exact ⟨rfl, rfl, rfl, rfl⟩)
    (hc : X.calm = true := by rfl) (hs : ∀ x, foldedSetIterable iter X.env x = pure x := by intro _; rfl) (hz : X.N[l]? = some z := by rfl) (hzl : X.env.scope.names.lookup z = some .local := by rfl)
    (hsw : swapsWith (.ListComp elt [⟨.Tuple [.Name x px, .Name y py] kk pt, iter, [], 0⟩] scope pos) (some (.Name z pz)) spos.line X.env = pure true := by exact sw_true rfl rfl rfl (by decide +kernel)) :
    WS X (.Assign [.Name z pz] (.ListComp elt [⟨.Tuple [.Name x px, .Name y py] kk pt, iter, [], 0⟩] scope pos) spos) ρ E :=
  s_setX (ps_setLc (own := [(x, i), (y, j)]) hc (hXN ▸ S0.nd) hz hzl hsw pi_w (blkOk_by hbk) (pg2 S0 hXN hc hi hl hj hl2 h2) (fun _ _ _ _ _ => pts_nil) pe_c hs) (x2 h)
abbrev P2If (p : Bool) (X : Cx) (scope : Scope) (i j : Nat) (x y : Str) (px py pt : Pos) (kk : Nat) (iter elt c : Expr) (bt : D → Bool) (f : D → D) (ρ : Rho) (Q : D → Rho → Prop) : Prop :=
  WI p X (.Tuple [.Name x px, .Name y py] kk pt) iter ρ fun ds ρ1 => ds.length ≤ 40000 ∧ (∀ d ∈ ds, ∃ a b, d = .tup [a, b] ∧ ∀ s H C cl fp, WT true (Blk X scope s H C cl fp) c ((((ρ1.set j .un).set i .un).set i (.val a)).set j (.val b)) (fun k _ => k = bt d) ∧ (bt d = true → W true true (Blk X scope s H C cl fp) elt ((((ρ1.set j .un).set i .un).set i (.val a)).set j (.val b)) fun y _ => y = f d)) ∧ Q (.lst ((ds.filter bt).map f)) ρ1
theorem x2If {i j : Nat} {bt : D → Bool} {f : D → D} (h : P2If p X scope i j x y px py pt kk iter elt c bt f ρ Q) : WX p g (tLc (wI X (.Tuple [.Name x px, .Name y py] kk pt) iter) ((Tg.two i j).g X.K) (cT X scope c) (cE X scope elt) [i, j]) ρ Q :=
  x_lcIf (T := .two i j) (own := [(x, i), (y, j)]) bt f (fun j hj => hj) fun B σ G H S R r => h B σ G H S R fun J ds ρ1 G1 H1 q S1 y pu wk => r J ds ρ1 G1 H1 ⟨q.1, fun d hd => by
    obtain ⟨a, b, rfl, hw⟩ := q.2.1 d hd
    exact ⟨_, rfl, hw⟩, q.2.2⟩ S1 y pu wk
theorem s_lc2If (l i j : Nat) (bt : D → Bool) (f : D → D) {E : DE} {z : Str} {pz spos : Pos} (S0 : FnScope N ps sc) (h : P2If false X scope i j x y px py pt kk iter elt c bt f ρ fun d ρ' => E.nx (ρ'.set l (.val d))) (hXN : X.N = N := by rfl) (hbk : blkC X.N X.env.scope scope [(x, i), (y, j)] = true := by kernel_rfl) (hi : X.N[i]? = some x := by rfl) (hj : X.N[j]? = some y := by rfl)
    (hl : Loc1 X scope x := by intro _ _ _ _ _; first | exact ⟨.inl rfl, .inr rfl⟩ | exact ⟨.inr rfl, .inl rfl⟩) (hl2 : Loc1 X scope y := by intro _ _ _ _ _; first | exact ⟨.inl rfl, .inr rfl⟩ | exact ⟨.inr rfl, .inl rfl⟩) (h2 : Two X scope x y px py := by intro _ _ _ _ _; exact ⟨rfl, rfl, rfl, rfl⟩)
    (hc : X.calm = true := by rfl) (hs : ∀ x, foldedSetIterable iter X.env x = pure x := by intro _; rfl) (hz : X.N[l]? = some z := by rfl) (hzl : X.env.scope.names.lookup z = some .local := by rfl)
    (hsw : swapsWith (.ListComp elt [⟨.Tuple [.Name x px, .Name y py] kk pt, iter, [c], 0⟩] scope pos) (some (.Name z pz)) spos.line X.env = pure true := by exact sw_true rfl rfl rfl (by decide +kernel)) :
    WS X (.Assign [.Name z pz] (.ListComp elt [⟨.Tuple [.Name x px, .Name y py] kk pt, iter, [c], 0⟩] scope pos) spos) ρ E :=
  s_setX (ps_setLc (own := [(x, i), (y, j)]) hc (hXN ▸ S0.nd) hz hzl hsw pi_w (blkOk_by hbk) (pg2 S0 hXN hc hi hl hj hl2 h2) pt_c pe_c hs) (x2If h)
theorem slots_i (x y : Str) (i j : Nat) : ∀ k ∈ (Tg.one i).slots, k ∈ [(x, i), (y, j)].map (·.2) := fun k hk => by
  have e : k = i := by simpa [Tg.slots] using hk
  subst e; simp
theorem slots_j (x y : Str) (i j : Nat) : ∀ k ∈ (Tg.one j).slots, k ∈ [(x, i), (y, j)].map (·.2) := fun k hk => by
  have e : k = j := by simpa [Tg.slots] using hk
  subst e; simp
/-- y = [elt for x in iter for z in iter1] -/
abbrev P11 (p : Bool) (X : Cx) (scope : Scope) (i j : Nat) (x y : Str) (px py : Pos) (iter iter1 elt : Expr) (inner : D → List D) (f : D → D → D) (ρ : Rho) (Q : D → Rho → Prop) : Prop :=
  WI p X (.Name x px) iter ρ fun ds ρ1 => (ds.flatMap fun d => (inner d).map (f d)).length ≤ 40000 ∧ (∀ d ∈ ds, (∀ s H C cl fp, WI true (Blk X scope s H C cl fp) (.Name y py) iter1 (((ρ1.set j .un).set i .un).set i (.val d)) fun es _ => es = inner d) ∧
    ∀ e ∈ inner d, ∀ s H C cl fp, W true true (Blk X scope s H C cl fp) elt (((((ρ1.set j .un).set i .un).set i (.val d)).set j .un).set j (.val e)) fun y _ => y = f d e) ∧ Q (.lst (ds.flatMap fun d => (inner d).map (f d))) ρ1
theorem s_lc11 (l i j : Nat) (inner : D → List D) (f : D → D → D) {E : DE} {z : Str} {iter1 : Expr} {pz spos : Pos} (S0 : FnScope N ps sc) (h : P11 false X scope i j x y px py iter iter1 elt inner f ρ fun d ρ' => E.nx (ρ'.set l (.val d))) (hXN : X.N = N := by rfl) (hbk : blkC X.N X.env.scope scope [(x, i), (y, j)] = true := by kernel_rfl) (hi : X.N[i]? = some x := by rfl) (hj : X.N[j]? = some y := by rfl)
    (hl : Loc1 X scope x := by intro _ _ _ _ _; first | exact ⟨.inl rfl, .inr rfl⟩ | exact ⟨.inr rfl, .inl rfl⟩) (hl2 : Loc1 X scope y := by intro _ _ _ _ _; first | exact ⟨.inl rfl, .inr rfl⟩ | exact ⟨.inr rfl, .inl rfl⟩)
    (hc : X.calm = true := by rfl) (hs : ∀ x, foldedSetIterable iter X.env x = pure x := by intro _; rfl) (hs1 : ∀ env x, foldedSetIterable iter1 env x = pure x := by intro _ _; rfl) (hz : X.N[l]? = some z := by rfl) (hzl : X.env.scope.names.lookup z = some .local := by rfl)
    (hsw : swapsWith (.ListComp elt [⟨.Name x px, iter, [], 0⟩, ⟨.Name y py, iter1, [], 0⟩] scope pos) (some (.Name z pz)) spos.line X.env = pure true := by exact sw_true rfl rfl rfl (by decide +kernel)) :
    WS X (.Assign [.Name z pz] (.ListComp elt [⟨.Name x px, iter, [], 0⟩, ⟨.Name y py, iter1, [], 0⟩] scope pos) spos) ρ E :=
  s_setX (ps_setLc2 (own := [(x, i), (y, j)]) (vs1 := (Tg.one j).slots) hc (hXN ▸ S0.nd) hz hzl hsw pi_w (blkOk_by hbk) (slots_j x y i j) (pg1 S0 hXN hi hl) (fun _ _ _ _ _ => pts_nil) pi_c (pg1 S0 hXN hj hl2) (fun _ _ _ _ _ => pts_nil) pe_c hs hs1)
    (x_lc2 (T := .one i) (T1 := .one j) (own := [(x, i), (y, j)]) inner f (slots_i x y i j) (slots_j x y i j) fun B σ G H S R r => h B σ G H S R fun J ds ρ1 G1 H1 q S1 y pu wk => r J ds ρ1 G1 H1 ⟨q.1, fun d hd => ⟨_, rfl, (q.2.1 d hd).1, fun e he => ⟨_, rfl, (q.2.1 d hd).2 e he⟩⟩, q.2.2⟩ S1 y pu wk)
end
/-- a constant of the module -/
theorem glb {x : Str} {i : Int} {t : Tok} {pos : Pos} (hm : X.mg x = some (.int i t)) (q : Q (.int i) ρ) (hg : Gl X x := by rfl) (hd : (x == ("__debug__" : Str)) = false := by decide) : W p g X (.Name x pos) ρ Q := w_glob (v := .int i) hg hm ⟨t, rfl⟩ hd rfl q
end
end DD

namespace DD
open PySem PySem.Spec PyProof.Rows L2
section
variable {p g : Bool} {X : Cx} {ρ : Rho} {Q : D → Rho → Prop} {E : DE} {pos : Pos}
/-- x *= e, ints -/
theorem s_augMul {i : Nat} {x : Str} {e : Expr} {pos' : Pos} (hN : X.N.Nodup) (hi : X.N[i]? = some x) (hx : Loc X.env.scope x) (h : ∃ n, ρ[i]? = some (.val (.int n)) ∧ W false true X e ρ fun d ρ' => ∃ m, d = .int m ∧ (-(2 ^ 64) < n ∧ n < 2 ^ 64 ∨ -(2 ^ 64) < m ∧ m < 2 ^ 64) ∧ E.nx (ρ'.set i (.val (.int (n * m)))))
    (hf : X.fn x = true ∨ X.env.scope.names.lookup x = some .local := by first | exact .inl rfl | exact .inr rfl) : WS X (.AugAssign (.Name x pos') .Mult e pos) ρ E := fun B σ G H F S L => by
  obtain ⟨n, hr, h⟩ := h
  refine wS_of (ps_aug hN hi hx pe_w iop_mul hf) ?_
  obtain ⟨v, e1, iv⟩ := S.valAt hr
  cases (iv : v = .int n)
  refine ⟨_, e1, ?_⟩
  refine h B σ G H S _ fun u d ρ' G' H' q S' y pu iu => ?_
  obtain ⟨m, rfl, b, q⟩ := q
  cases (iu : u = .int m)
  exact ⟨n, m, rfl, rfl, b, L.nx _ _ G' H' q (S'.set (d := .int (n * m)) rfl) y⟩
/-- short words for statements -/
theorem set (i : Nat) {x : Str} {e : Expr} {pos' : Pos} {N ps : List Str} {sc : Scope} (S0 : FnScope N ps sc) (h : W false true X e ρ fun d ρ' => E.nx (ρ'.set i (.val d))) (hXN : X.N = N := by rfl) (hi : X.N[i]? = some x := by rfl) (hx : Loc X.env.scope x := by first | exact .inl rfl | exact .inr rfl)
    (hs : swapsWith e (some (.Name x pos')) pos.line X.env = pure false := by rfl) (hf : X.fn x = true ∨ X.env.scope.names.lookup x = some .local := by first | exact .inl rfl | exact .inr rfl) : WS X (.Assign [.Name x pos'] e pos) ρ E := s_set (hXN ▸ S0.nd) hi hx h hs hf
theorem setO (i : Nat) {x : Str} {e : Expr} {pos' : Pos} {N ps : List Str} {sc : Scope} (S0 : FnScope N ps sc) (h : WF X e ρ fun o ρ' => E.nx (ρ'.set i (.own true o))) (hXN : X.N = N := by rfl) (hi : X.N[i]? = some x := by rfl) (hx : Loc X.env.scope x := by first | exact .inl rfl | exact .inr rfl)
    (hs : swapsWith e (some (.Name x pos')) pos.line X.env = pure false := by rfl) (hf : X.fn x = true ∨ X.env.scope.names.lookup x = some .local := by first | exact .inl rfl | exact .inr rfl) : WS X (.Assign [.Name x pos'] e pos) ρ E := s_own (hXN ▸ S0.nd) hi hx h hs hf
theorem app (i : Nat) {x : Str} {e : Expr} {p1 p2 p3 : Pos} {ds : List D} (hr : ρ[i]? = some (.own true (.lst ds)))
    (h : W false true X e ρ fun d ρ' => ∃ ds', ρ'[i]? = some (.own true (.lst ds')) ∧ ds'.length < 1000000 ∧ E.nx (ρ'.set i (.own true (.lst (ds' ++ [d])))))
    (hN : X.N[i]? = some x := by rfl) (hv : Vis X.env.scope x := by first | exact .inl rfl | exact .inr (.inl rfl) | exact .inr (.inr rfl)) (hd : (x == ("__debug__" : Str)) = false := by decide) (hcd : (x == ("__classdict__" : Str)) = false := by decide)
    (hbase : attributeBase (.Name x p1) "append" X.env (eval (.Name x p1) X.env) = eval (.Name x p1) X.env := by rfl)
    (hfew : ((backTo p3 (starEach [e] X.env)).all (fun x => !x.1) && (backToKw p3 (keywordEach [] X.env)).all (fun x => x.1.isSome)
      && decide (([e] : List Expr).length + ([] : List Keyword).length + (if ([] : List Keyword).isEmpty then 0 else 1) < 30)) = true := by rfl)
    (hline : (p2.endLine == p3.line) = true := by rfl) (hst : starEach [e] X.env = (false, eval e X.env) :: starEach [] X.env := by rfl) (hplain : (backTo p3 (starEach [] X.env)).any (·.1) = false := by rfl)
    (hs : swapsWith (.Call (.Attribute (.Name x p1) "append" p2) [e] [] p3) none pos.line X.env = pure false := by rfl) : WS X (.Expr (.Call (.Attribute (.Name x p1) "append" p2) [e] [] p3) pos) ρ E :=
  s_app hN hv hd hcd ⟨ds, hr, h⟩ hbase hfew hline hst hplain hs
/-- for x in iter, x in slot i -/
theorem for1 (i : Nat) {x : Str} {px : Pos} {iter : Expr} {body : List Stmt} {N ps : List Str} {sc : Scope} (S0 : FnScope N ps sc) (h : WI false X (.Name x px) iter ρ fun ds ρ1 => ∃ I : Nat → Rho → Prop, I 0 ρ1 ∧ (∀ j d ρi, ds[j]? = some d → I j ρi → WSs X body (ρi.set i (.val d)) { E with nx := I (j + 1), ct := I (j + 1), bk := E.nx }) ∧ ∀ ρn, I ds.length ρn → E.nx ρn)
    (hp : PassesOwn (model X.prog X.w) X.A X.env X.xe := by exact PassesOwn.never) (hXN : X.N = N := by rfl) (hi : X.N[i]? = some x := by rfl) (hx : Loc X.env.scope x := by first | exact .inl rfl | exact .inr rfl) (hf : X.fn x = true ∨ X.env.scope.names.lookup x = some .local := by first | exact .inl rfl | exact .inr rfl)
    (hc : X.calm = true := by rfl) (hs : ∀ x, foldedSetIterable iter X.env x = pure x := by intro _; rfl) : WS X (.For (.Name x px) iter body [] pos) ρ E :=
  s_for (T := .one i) hp hc (pg_name (hXN ▸ S0.nd) hi hx hf) hs fun B σ G H S R r => h B σ G H S R fun J ds ρ1 G1 H1 q S1 y pu wk => r J ds ρ1 G1 H1 (by
    obtain ⟨I, i0, st, fin⟩ := q
    exact ⟨I, i0, fun j d ρi hd hI => ⟨_, rfl, st j d ρi hd hI⟩, fin⟩) S1 y pu wk
theorem for2 (i l : Nat) {x y : Str} {px py pt : Pos} {kk : Nat} {iter : Expr} {body : List Stmt} {N ps : List Str} {sc : Scope} (S0 : FnScope N ps sc) (h : WI false X (.Tuple [.Name x px, .Name y py] kk pt) iter ρ fun ds ρ1 => ∃ I : Nat → Rho → Prop, I 0 ρ1 ∧ (∀ j d ρi, ds[j]? = some d → I j ρi → ∃ a b, d = .tup [a, b] ∧ WSs X body ((ρi.set i (.val a)).set l (.val b)) { E with nx := I (j + 1), ct := I (j + 1), bk := E.nx }) ∧ ∀ ρn, I ds.length ρn → E.nx ρn)
    (hp : PassesOwn (model X.prog X.w) X.A X.env X.xe := by exact PassesOwn.never) (hXN : X.N = N := by rfl) (hi : X.N[i]? = some x := by rfl) (hl : X.N[l]? = some y := by rfl) (hx : Loc X.env.scope x := by first | exact .inl rfl | exact .inr rfl) (hy : Loc X.env.scope y := by first | exact .inl rfl | exact .inr rfl) (hf : X.fn x = true ∨ X.env.scope.names.lookup x = some .local := by first | exact .inl rfl | exact .inr rfl) (hf2 : X.fn y = true ∨ X.env.scope.names.lookup y = some .local := by first | exact .inl rfl | exact .inr rfl)
    (hc : X.calm = true := by rfl) (hs : ∀ x, foldedSetIterable iter X.env x = pure x := by intro _; rfl)
    (h1 : (assignEach [.Name x px, .Name y py] X.env).length = 2 := by rfl) (h2 : (assignEach [.Name x px, .Name y py] X.env).findIdx? (·.1) = none := by rfl)
    (h3 : (assignEach [.Name x px, .Name y py] X.env).map (·.2) = assign (.Name x px) X.env :: (assignEach [.Name y py] X.env).map (·.2) := by rfl) (h4 : (assignEach [.Name y py] X.env).map (·.2) = assign (.Name y py) X.env :: (assignEach [] X.env).map (·.2) := by rfl) : WS X (.For (.Tuple [.Name x px, .Name y py] kk pt) iter body [] pos) ρ E :=
  s_for (T := .two i l) hp hc (pg_tup hc (pgs_cons (pg_name (hXN ▸ S0.nd) hi hx hf) (pgs_cons (pg_name (hXN ▸ S0.nd) hl hy hf2) pgs_nil h4) h3) h1 h2) hs fun B σ G H S R r => h B σ G H S R fun J ds ρ1 G1 H1 q S1 y pu wk => r J ds ρ1 G1 H1 (by
    obtain ⟨I, i0, st, fin⟩ := q
    exact ⟨I, i0, fun j d ρi hd hI => by
      obtain ⟨a, b, rfl, z⟩ := st j d ρi hd hI
      exact ⟨_, rfl, z⟩, fin⟩) S1 y pu wk
end
end DD

namespace DD
open PySem PySem.Spec PyProof.Rows L2
/-! ### enumerate of a tuple -/
abbrev tupIt (a : Addr) : Obj := { cls := .type "tuple_iterator", data := .fields #[.ref a, .int 0 0] }
abbrev enuOf (i : Addr) : Obj := { cls := .type "enumerate", data := .fields #[.none, .bool false, .ref i, rawInt 0, .none, .none] }
theorem enuT_meets (a : Addr) (ys : Array Value) :
    Meets (Builtin.«enumerate.__new__» ⟨[.type "enumerate", .ref a], []⟩) (fun _ R s => s.heap.IsTuple a ys ∧ R (.ok (.ret (.ref (s.heap.push (tupIt a)).objs.size))) { s with heap := (s.heap.push (tupIt a)).push (enuOf s.heap.objs.size) }) :=
  .of_wp fun prog w A R s hyp => by
    obtain ⟨hp, gn, dr, tk, os⟩ := s
    obtain ⟨isT, goal⟩ := hyp
    have sb := sub_enumerate
    have it1 : ∀ {A' : Around} {E' : Value → Shared → Prop} {Q' : Value → Shared → Prop}, Q' (.ref hp.objs.size) ⟨hp.push (tupIt a), gn, dr, tk, os⟩ → wpAny (model prog w) A' (pyIter (.ref a)) Q' E' ⟨hp, gn, dr, tk, os⟩ := fun q =>
      wpAny_pyIter_tuple isT q
    wp_walk using it1
    refine wpAny_stack_any fun _ => wpAny_pure ?_
    split
    · rename_i cc _ _ _ _ _
      cases (cc == Value.type "enumerate") <;> (wp_walk using it1; exact ⟨_, rfl, goal⟩)
    · wp_walk using it1
      exact ⟨_, rfl, goal⟩
section
variable {prog : Program} {w : World} {A : Around} {E : Value → Shared → Prop} {s : Shared}
theorem enuT_call {a : Addr} {ys : Array Value} {Q : Value → Shared → Prop} (isT : s.heap.IsTuple a ys)
    (k : ∀ h', IsEnum h' (s.heap.objs.size + 1) s.heap.objs.size 0 .none → h'.IsTupleIter s.heap.objs.size a 0 → (∀ b u, s.heap.get? b = some u → h'.get? b = some u) → Q (.ref (s.heap.objs.size + 1)) { s with heap := h' }) :
    wpAny (model prog w) A (PySem.call (.type "enumerate") [.ref a]) Q E s := by
  refine callType_new F.called_enumerate (by decide) (F.typeCall_enumerate_1 _) (F.newCall_enumerate_1 _) (fun ob => F.args_object_init_2 ob _) F.entry_enumerate_new (enuT_meets a ys) ⟨isT, ?_⟩
  have sz : (s.heap.push (tupIt a)).objs.size = s.heap.objs.size + 1 := Heap.size_push ..
  show _ ∧ _
  rw [sz]
  have e1 : IsEnum ((s.heap.push (tupIt a)).push (enuOf s.heap.objs.size)) (s.heap.objs.size + 1) s.heap.objs.size 0 .none := by
    have z := Heap.get?_push_size (s.heap.push (tupIt a)) (o := enuOf s.heap.objs.size) rfl
    rw [sz] at z
    exact z
  exact ⟨⟨_, e1, rfl⟩, k _ e1 ⟨_, Heap.get?_push_of_some _ (Heap.get?_push_size _ rfl), rfl, rfl⟩ fun b u q => Heap.get?_push_of_some _ (Heap.get?_push_of_some _ q)⟩
end
/-- an iterator that has come to its end -/
theorem drawsEnd {prog : Program} {w : World} {A : Around} (hh : A.handled = none) (it a : Addr) (ys : Array Value) (i : Nat) (hx : ys[i]? = none) :
    Draws prog w A it [it, a] i (fun _ _ => True) (fun j h => j = i ∧ h.IsTupleIter it a i ∧ h.IsTuple a ys) where
  live := fun _ _ st => ⟨st.2.1.choose, st.2.1.choose_spec.1⟩
  frame := fun _ _ _ st k => ⟨st.1, st.2.1.at fun o q => k it (by simp) o q, st.2.2.at fun o q => k a (by simp) o q⟩
  item := fun j s Q E hj st hQ => absurd st.1 (Nat.ne_of_lt hj)
  done := fun s Q E st hE => wpAny_nextOf_tuple_end hh st.2.1 st.2.2 hx hE
/-- the tuple at a, each item in a new pair with its place -/
def ItEnuT (K : PySem.W.Frag) (a : Addr) : It where
  go := fun i H => ∃ (xs : List V) (x : V), SqT K H a xs ∧ xs[i]? = some x
  yld := fun i H v H' => ∃ T x, v = .ref T ∧ H T = none ∧ H' = upd H T (.tup [.int (i : Nat), x]) ∧ ∀ xs, SqT K H a xs → xs[i]? = some x
  stop := fun i H => ∃ xs : List V, SqT K H a xs ∧ xs.length ≤ i
theorem turn_enuT {P : Program} {w : World} {K : PySem.W.Frag} {elts : List Expr} {kk : Nat} {tpos : Pos} (a e it : Addr) :
    Turn P w K (.Tuple elts kk tpos) (ItEnuT K a) [e, it] e (fun i h => (∃ old, IsEnum h e it ((i : Nat) : Int) old) ∧ h.IsTupleIter it a i ∧ e ≠ it) where
  mem := by simp
  obj := fun i h st b hb => by
    obtain ⟨⟨od, hE⟩, ⟨o, ho, _, hdt⟩, _⟩ := st
    rcases (show b = e ∨ b = it by simpa using hb) with rfl | rfl
    · exact ⟨_, hE, fun v q => by cases q⟩
    · exact ⟨o, ho, fun v q => by rw [hdt] at q; cases q⟩
  keep := fun i h h' st k => ⟨⟨st.1.choose, k e (by simp) _ st.1.choose_spec⟩, st.2.1.at fun o q => k it (by simp) o q, st.2.2⟩
  item := by
    intro X hP hw hK hc i pins s σ H E I hf st hg
    subst hP hw hK
    obtain ⟨⟨od, hE⟩, hI, ne⟩ := st
    obtain ⟨xs, x, hq, hx⟩ := hg
    obtain ⟨its, rv, pt, hz⟩ := I.tuple hq
    have pt : s.heap.IsTuple a its.toArray := pt
    obtain ⟨u, hu, ru⟩ := rv.get hx
    have ai : a ≠ it := by
      rintro rfl
      obtain ⟨o1, q1, c1, _⟩ := pt
      obtain ⟨o2, q2, c2, _⟩ := hI
      rw [q1] at q2; cases q2; exact absurd (Value.type.inj (c1.symm.trans c2)) (by decide)
    have ea : e ≠ a := by
      rintro rfl
      obtain ⟨o1, q1, c1, _⟩ := pt
      rw [hE] at q1; cases q1; exact absurd (Value.type.inj c1) (by decide)
    have le : e < s.heap.objs.size := Heap.lt_size hE
    have li : it < s.heap.objs.size := by obtain ⟨_, q, _⟩ := hI; exact Heap.lt_size q
    have hlt : i < its.toArray.size := by
      have := (List.getElem?_eq_some_iff.mp hu).1
      simpa using this
    refine wpAny_pyNext_enum_itemD (Draws.tuple (A := X.A.in1) (I.ok.hd hc) it a ai its.toArray) hE ⟨hI, pt⟩ hlt ne (by simp [ne, ea]) fun y h1 tk hy hO hI1 hT hsz hk => ?_
    have ey : y = u := by
      have q : its[i]? = some y := by simpa using hy
      rw [hu] at q; cases q; rfl
    subst ey
    refine ⟨_, rfl, wpAny_letOwnedTupleGo_enum (s := { s with heap := h1, toks := tk + 1 }) hO fun h2 hE2 sb => ?_⟩
    have hT2 : h2.get? s.heap.objs.size = some { cls := .type "tuple", data := .seq #[.int i tk, y] } := (sb.2 _ (Nat.ne_of_gt le)).trans hT
    have new : ObjOk X.prog X.w (upd H s.heap.objs.size (.tup [.int (i : Nat), x])) h2 s.heap.objs.size (.tup [.int (i : Nat), x]) :=
      ⟨by show 2 ≤ sizeLine; decide, [.int i tk, y], .cons ⟨_, rfl⟩ (.cons ru .nil), ⟨_, hT2, rfl, _, rfl⟩⟩
    have I2 : Inv X pins σ (upd H s.heap.objs.size (.tup [.int (i : Nat), x])) { s with heap := h2, toks := tk + 1 } :=
      I.turnedNew (ch := [e, it]) (fun b ob hb q => (sb.2 b fun z => hb (by simp [z])).trans (hk b ob (fun z => hb (by simp [z])) (fun z => hb (by simp [z])) q)) hf (Nat.le_refl _) new
    refine ⟨.ref s.heap.objs.size, _, I2, rfl, ⟨_, x, rfl, I.hok.fresh (Nat.le_refl _), rfl, fun ys hy => by rw [I.tuple_inj hy hq]; exact hx⟩, ⟨⟨y, ?_⟩, hI1.1.at fun o q => (sb.2 it ne.symm).trans q, ne⟩, fun b hb => ?_⟩
    · rw [show ((i + 1 : Nat) : Int) = (i : Int) + 1 by omega]; exact hE2
    · have lb : b < s.heap.objs.size := by
        rcases (show b = e ∨ b = it by simpa using hb) with rfl | rfl
        · exact le
        · exact li
      rw [upd_ne (Nat.ne_of_lt lb)]
      exact (hf b hb).1
  done := by
    intro X hP hw hK hc i pins s σ H E I hf st hg
    subst hP hw hK
    obtain ⟨⟨od, hE⟩, hI, ne⟩ := st
    obtain ⟨xs, hq, hx⟩ := hg
    obtain ⟨its, rv, pt, hz⟩ := I.tuple hq
    have pt : s.heap.IsTuple a its.toArray := pt
    have ai : a ≠ it := by
      rintro rfl
      obtain ⟨o1, q1, c1, _⟩ := pt
      obtain ⟨o2, q2, c2, _⟩ := hI
      rw [q1] at q2; cases q2; exact absurd (Value.type.inj (c1.symm.trans c2)) (by decide)
    obtain ⟨f0, f1, f2, f3, f4, f5⟩ := hf it (by simp)
    have hl := rv.length
    have hx0 : its.toArray[i]? = none := by simp; omega
    refine wpAny_pyNext_enum_endD (drawsEnd (A := X.A.in1) (I.ok.hd hc) it a its.toArray i hx0) hE ⟨rfl, hI, pt⟩ fun h' eb => ⟨rfl, I.turned (t' := s.toks) (fun b o hb q => eb b o hb q) f0 f1 f3 f4 f5⟩
  self := fun A i s Q E st h => wpAny_pyIter_enum st.1.choose_spec h
end DD
namespace DD
open PySem PySem.Spec PyProof.Rows L2
section
variable {p g : Bool} {X : Cx} {ρ : Rho} {Q : D → Rho → Prop} {E : DE} {pos : Pos} {QI : List D → Rho → Prop}
def iEnuT (K : PySem.W.Frag) (ta : TA) : TI := fun σ H R => ta σ H fun vs H1 => ∃ a xs, vs = [.ref a] ∧ SqT K H1 a xs ∧ R (ItEnuT K a) H1
theorem pi_enuT {e : Expr} {ta : TA} {pp tpos : Pos} {elts : List Expr} {kk : Nat} (hg : Gl X "enumerate") (hm : X.mg "enumerate" = none) (ha : PA X [e] ta) (hs : starEach [e] X.env = [(false, eval e X.env)] := by rfl) :
    PI X (.Tuple elts kk tpos) (.Call (.Name "enumerate" pp) [e] [] pos) (iEnuT X.K ta) := by
  refine ⟨fun pins s σ H R I hyp => ?_⟩
  refine Call_ (ld_blt I hg hm boot_enumerate (PyProof.Rows.callWith_type1 (thn (ha.run pos pins s σ H _ I hyp) fun us s1 ⟨vs, H1, I1, r1, q1⟩ => ?_) hs rfl))
  obtain ⟨a, xs, rfl, hq, q⟩ := q1
  obtain ⟨u, rfl, ru⟩ := vals1 r1
  cases ru
  obtain ⟨its, rv, pt, hz⟩ := I1.tuple hq
  refine enuT_call (show s1.heap.IsTuple a its.toArray from pt) fun h' hE hI hk => wpAny_pyIter_enum hE ?_
  have I2 : Inv X pins σ H1 { s1 with heap := h' } := I1.kept (t' := s1.toks) hk
  refine ⟨s1.heap.objs.size + 1, [s1.heap.objs.size + 1, s1.heap.objs.size], _, _, H1, rfl, I2, turn_enuT a (s1.heap.objs.size + 1) s1.heap.objs.size, ⟨⟨.none, hE⟩, hI, Nat.succ_ne_self _⟩, fun b hb => ?_, q⟩
  have le : s1.heap.objs.size ≤ b := by
    rcases (show b = s1.heap.objs.size + 1 ∨ b = s1.heap.objs.size by simpa using hb) with z | z
    · rw [z]; exact Nat.le_add_right _ 1
    · rw [z]; exact Nat.le_refl _
  exact I1.fpOk le (I1.hok.fresh le)
theorem walk_enuT {K : PySem.W.Frag} {a : Addr} {xs : List V} : Walk (ItEnuT K a) xs.length (fun H => SqT K H a xs) (YPair (fun i => some (.int (i : Nat))) (fun i => xs[i]?)) where
  goes := fun i H hi q => ⟨xs, xs[i], q, List.getElem?_eq_getElem hi⟩
  stops := fun H q => ⟨xs, q, Nat.le_refl _⟩
  yields := fun i H v H' _ q y => by
    obtain ⟨T, x, z1, z2, z3, z4⟩ := y
    exact ⟨T, .int (i : Nat), x, z1, z2, z3, rfl, z4 xs q⟩
theorem wi_enuT {a : Expr} {elts : List Expr} {kk : Nat} {pp tpos : Pos} (hg : Gl X "enumerate") (hm : X.mg "enumerate" = none) (h : WA p true X [a] ρ fun ds ρ' => ∃ xs, ds = [.tup xs] ∧ QI (((rng 0 xs.length).zip xs).map fun q => D.tup [q.1, q.2]) ρ')
    (hs : starEach [a] X.env = [(false, eval a X.env)] := by rfl) : WI p X (.Tuple elts kk tpos) (.Call (.Name "enumerate" pp) [a] [] pos) ρ QI := fun B σ G H S R r => by
  refine wI_of (pi_enuT hg hm pa_w hs) ?_
  refine h B σ G H S _ fun vs ds ρ' G' H' q S' x pu i => ?_
  obtain ⟨xs, rfl, q⟩ := q
  obtain ⟨v, rfl, l1, as, rfl, e2, e3⟩ := isA_one i
  refine ⟨l1, as, rfl, .inl (.inl (S'.ex _ _ e2)), r _ _ ρ' G' H' q S' x pu ?_⟩
  refine walkD_pair (n := as.length) (by rw [rng_len, e3.length, Nat.min_self]) walk_enuT (fun H h => .inl (.inl (h _ _ e2))) (fun i d hd => ?_) (fun i d hd => e3.get hd)
  obtain ⟨_, rfl⟩ := rng_get hd
  exact ⟨_, rfl, by show V.int _ = V.int _; rw [Int.zero_add]⟩
/-! ### sorted of a tuple of whole numbers -/
theorem cr_sortedT : CallR X (.builtin "sorted") (fun vs H Q => ∃ (a : Addr) (ns : List Int), vs = [V.ref a] ∧ SqT X.K H a (ns.map V.int) ∧ ns.length < 64 ∧ ∀ (ms : List Int) (b : Addr), ms.Perm ns → ms.Pairwise (· ≤ ·) → H b = none → Q (.ref b) (upd H b (.lst (ms.map V.int)))) := by
  intro pins s σ H vs us Q I r hyp
  obtain ⟨a, ns, rfl, hq, h64, q⟩ := hyp
  obtain ⟨u, rfl, ru⟩ := vals1 r
  cases ru
  obtain ⟨its, rv, pt, hz⟩ := I.tuple hq
  have pt : s.heap.IsTuple a its.toArray := pt
  have li : its.length = ns.length := by rw [← rv.length, List.length_map]
  have isI := rv.ints
  refine Calls.call_function_entry kind_sorted plain_sorted entry_sorted (args_sorted1 _) ?_
  unfold Builtin.«sorted»
  refine wpAny_bind (m := checkCount "sorted" 1 1 _) (wpAny_pure ?_)
  obtain ⟨o, ho, hc, n, hd⟩ := pt
  have hzz : its.length ≤ sizeLine := by rw [li, sizeLine_eq]; omega
  refine wpAny_bind (wpAny_collect_seq a (.inr rfl) ho hc hd (fun h1 k1 => ?_) (by rw [List.size_toArray]; exact hzz))
  rw [show its.toArray.toList = its by simp]
  refine wpAny_bind (wpAny_newList ?_ hzz)
  have I1 : Inv X pins σ H { s with heap := h1 } := I.kept (t' := s.toks) k1
  have nw : (h1.push (seqObj "list" its.toArray 0)).get? h1.objs.size = some (seqObj "list" its.toArray 0) := Heap.get?_push_size _ rfl
  show wpAny _ _ _ _ _ { s with heap := h1.push (seqObj "list" its.toArray 0) }
  refine wpAny_bind (wpAny_holding (wpAny_call_entry slot_list_sort ⟨_, nw, rfl⟩ entry_list_sort (list_sort_tree (s := { s with heap := h1.push (seqObj "list" its.toArray 0) }) nw isI (by rw [li]; exact h64) fun out ms g1 g2 g3 => ⟨_, rfl, ?_⟩) (args_list_sort _)))
  obtain ⟨ep, ha⟩ := sortedHeap_at (vs := its) (out := out) nw
  have lm : (ms.map V.int).length ≤ sizeLine := by rw [List.length_map, g2.length_eq, sizeLine_eq]; omega
  refine wpAny_pure ⟨_, rfl, .ref h1.objs.size, upd H h1.objs.size (.lst (ms.map V.int)), I1.laid (t' := s.toks) (fun b u e => ?_) (Nat.le_refl _) (show ObjOk X.prog X.w _ _ _ (.lst (ms.map V.int)) from ⟨lm, out.toList, ep, vals_of_ints g1, by rw [Array.toArray_toList]; exact ha⟩), rfl, q ms _ g2 g3 (I1.hok.fresh (Nat.le_refl _))⟩
  have lb : b < h1.objs.size := Heap.lt_size e
  rw [sortedHeap_old (Nat.ne_of_lt lb) (by rw [size_push']; exact Nat.lt_succ_of_lt lb)]
  exact Heap.get?_push_of_some _ e
theorem c_sortedT {g : Bool} {Z : D → Prop} {ns : List Int} (h64 : ns.length < 64) (q : ∀ ms : List Int, ms.Perm ns → ms.Pairwise (· ≤ ·) → Z (.lst (ms.map D.int))) : OpC g X (.builtin "sorted") [.tup (ns.map D.int)] Z := by
  intro G H vs R ex i k
  obtain ⟨v, rfl, a, xs, rfl, e2, e3⟩ := isA_one (isA_any ex i)
  have e4 := e3.ints
  subst e4
  refine ⟨_, cr_sortedT, a, ns, rfl, .inl (.inl e2), h64, fun ms b pm pw hb => ?_⟩
  have gr := Grow.new (o := .lst (ms.map V.int)) ex hb
  exact k _ (.lst (ms.map D.int)) _ _ (q ms pm pw) gr ⟨b, _, rfl, upd_same, IsA.of_ints⟩
/-! ### list(range(n)) -/
theorem w_listRg {a : Expr} {p1 p2 p3 : Pos} (hml : X.mg "list" = none) (hmr : X.mg "range" = none) (hc : X.calm = true) (h : W p false X a ρ fun d ρ' => ∃ n : Int, d = .int n ∧ (0 ≤ n ∧ n ≤ 1000000) ∧ Q (.lst (rng 0 n.toNat)) ρ')
    (hg1 : Gl X "list" := by rfl) (hg2 : Gl X "range" := by rfl) (n1 : starEach [a] X.env = (false, eval a X.env) :: starEach [] X.env := by rfl)
    (n2 : starEach [.Call (.Name "range" p2) [a] [] p3] X.env = (false, eval (.Call (.Name "range" p2) [a] [] p3) X.env) :: starEach [] X.env := by rfl) : W p g X (.Call (.Name "list" p1) [.Call (.Name "range" p2) [a] [] p3] [] pos) ρ Q := fun B σ G H S R r => by
  refine wE_of (pe_listRg hc hg1 hml (prg_1 hg2 hmr pe_w n1) n2) ?_
  refine h B σ G H S _ fun v d ρ' G' H' q S' x pu i => ?_
  obtain ⟨n, rfl, ⟨b0, b1⟩, q⟩ := q
  cases (i : v = .int n)
  refine ⟨n, rfl, ⟨by omega, by omega, by omega, by omega, by omega⟩, fun c hcn => ?_⟩
  have gr := Grow.new (o := .lst (rgV 0 n)) S'.ex hcn
  refine r _ (.lst (rng 0 n.toNat)) ρ' _ _ q (S'.grow gr) (x.trans gr.g) (fun z => ⟨(pu z).1, (pu z).2.trans gr⟩) (is_h (S'.grow gr) ⟨c, _, rfl, upd_same, ?_⟩)
  have e : rng 0 n.toNat = ((List.range n.toNat).map fun i : Nat => (0 : Int) + i).map D.int := by unfold rng; rw [List.map_map]; rfl
  have e2 : rgV 0 n = ((List.range n.toNat).map fun i : Nat => (0 : Int) + i).map V.int := by unfold rgV; rw [List.map_map, show (n - 0).toNat = n.toNat by omega]; rfl
  rw [e, e2]
  exact IsA.of_ints
end
end DD
namespace DD
open PySem PySem.Spec PyProof.Rows L2
/-! ### dict comprehensions whose keys are whole numbers -/
section
variable {p g : Bool} {X : Cx} {ρ : Rho} {Q : D → Rho → Prop} {E : DE} {pos : Pos}
/-- the dict so far -/
def putAll (kvs : List (Key × D)) : List (Int × D) → List (Key × D)
  | [] => kvs
  | (i, d) :: r => putAll (putD kvs (.inl i) d) r
theorem putAll_snoc (i : Int) (d : D) : ∀ (r : List (Int × D)) (kvs : List (Key × D)), putAll kvs (r ++ [(i, d)]) = putD (putAll kvs r) (.inl i) d
  | [], _ => rfl
  | (j, e) :: r, kvs => putAll_snoc i d r _
theorem putD_len (kvs : List (Key × D)) (k : Key) (d : D) : (putD kvs k d).length ≤ kvs.length + 1 := by
  unfold putD
  split
  · rw [List.length_map]; exact Nat.le_succ _
  · rw [List.length_append]; exact Nat.le_refl _
theorem putAll_len : ∀ (r : List (Int × D)) (kvs : List (Key × D)), (putAll kvs r).length ≤ kvs.length + r.length
  | [], _ => Nat.le_refl _
  | (i, d) :: r, kvs => by
    have a := putAll_len r (putD kvs (.inl i) d)
    have b := putD_len kvs (.inl i) d
    show (putAll (putD kvs (.inl i) d) r).length ≤ kvs.length + (r.length + 1)
    omega
def DcW (G1 H1 : Hp) (A : Addr) (kvs : List (Key × D)) (Hc : Hp) : Prop := H1 A = none ∧ ∃ Gi ks, Hc A = some (.dK ks) ∧ Gi A = none ∧ Grow G1 H1 Gi Hc ∧ IsK Gi kvs ks
theorem dc_go {B : Base} {σ : L2.St} {G1 H1 : Hp} {J : It} {ds : List D} {T : Tg} {tk tv : TE} {vs : List Nat} {Qd : V → Hp → Prop} (S : Sta B σ ρ G1 H1) (w : WalkD G1 J ds) (hT : ∀ i ∈ T.slots, i ∈ vs)
    (fk : D → Int) (fv : D → D) (hlen : ds.length ≤ 40000)
    (turn : ∀ d ∈ ds, ∃ ρi, T.eff d (wipeR ρ vs) = some ρi ∧ (∀ σ' G H, Sta B σ' ρi G H → ∀ R : VK, (∀ v G' H', Sta B σ' ρi G' H' → Grow G H G' H' → Is G' (.int (fk d)) v → R v H') → tk σ' H R) ∧
      (∀ σ' G H, Sta B σ' ρi G H → ∀ R : VK, (∀ v G' H', Sta B σ' ρi G' H' → Grow G H G' H' → Is G' (fv d) v → R v H') → tv σ' H R))
    (hd : ∀ a G' H', Grow G1 H1 G' H' → Is G' (.dic (putAll [] (ds.map fun d => (fk d, fv d)))) (.ref a) → Qd (.ref a) H') (A : Addr) (hA : H1 A = none) :
    ∃ W : Nat → Nat → Hp → Prop, (∃ m, W 0 m (L2.upd H1 A (.dK []))) ∧ ∀ i m H, W i m H →
      (J.stop i H ∧ Qd (.ref A) H) ∨ (J.go i H ∧ ∃ Nx : Hp → Prop, (∀ H', Nx H' → ∃ m', m' < m ∧ W (i + 1) m' H') ∧ ∀ x H', J.yld i H x H' → T.g X.K x (wipe σ vs) H' fun σ2 H2 => wipe σ2 vs = wipe σ vs ∧ tYes σ2 H2 fun b H3 =>
        if b = true then tk σ2 H3 fun y H4 => tv σ2 H4 fun z H5 => ∃ kvs k, y = kV k ∧ H5 A = some (.dK kvs) ∧ kvs.length < sizeLine ∧ Nx (L2.upd H5 A (.dK (putK kvs k z))) else Nx H3) := by
  refine it_go w (fun i H => DcW G1 H1 A (putAll [] ((ds.take i).map fun d => (fk d, fv d))) H) ?_ (fun i H _ h => ?_) (fun i x H H' hi h y => ?_) fun H h => ?_
  · refine ⟨hA, G1, [], upd_same, ?_, Grow.own S.ex hA, rfl⟩
    cases r : G1 A with
    | none => rfl
    | some u => rw [S.ex A u r] at hA; cases hA
  · obtain ⟨_, Gi, ks, _, _, gr, _⟩ := h
    exact gr.g.trans gr.x
  · obtain ⟨_, Gi, ks, hks, gA, gr, ik⟩ := h
    have hget : ds[i]? = some ds[i] := List.getElem?_eq_getElem hi
    obtain ⟨G2, gr2, ix⟩ := y _ hget Gi gr.g gr.x
    obtain ⟨ρi, he, hk, hv⟩ := turn ds[i] (List.getElem_mem hi)
    have g2 := g_none gr2 gA hks
    have h2 := gr2.h _ _ hks
    refine Tg.run he ((S.grow (gr.trans gr2)).wipe vs) ix (fun σ' S' hwp => ?_) (fun τ us j o hj => wipe_set τ us j o hj)
    refine ⟨(hwp vs hT).trans (wipe_idem σ vs), ?_⟩
    show tk σ' H' _
    refine hk σ' G2 H' S' _ fun u G3 H3 S3 gr3 iu => ?_
    refine hv σ' G3 H3 S3 _ fun v G4 H4 S4 gr4 iv => ?_
    cases (iu : u = .int (fk ds[i]))
    have g3 := g_none gr3 g2 h2
    have h3 := gr3.h _ _ h2
    have g4 := g_none gr4 g3 h3
    have h4 := gr4.h _ _ h3
    have lk : ks.length < sizeLine := by
      rw [ik.length]
      refine Nat.lt_of_le_of_lt (putAll_len _ _) ?_
      rw [List.length_map, List.length_take, sizeLine_eq]
      show (0 : Nat) + min i ds.length < _
      omega
    refine ⟨ks, .inl (fk ds[i]), rfl, h4, lk, ?_⟩
    have et : ds.take (i + 1) = ds.take i ++ [ds[i]] := by rw [List.take_add_one, hget]; rfl
    show DcW G1 H1 A (putAll [] ((ds.take (i + 1)).map fun d => (fk d, fv d))) _
    rw [et, List.map_append, List.map_cons, List.map_nil, putAll_snoc]
    have gt := ((gr.trans gr2).trans gr3).trans gr4
    refine ⟨hA, G4, _, upd_same, g4, ⟨gt.g, fun a o e => ?_, fun a o e => ?_, gt.n⟩, ?_⟩
    · have q : a ≠ A := by rintro rfl; rw [hA] at e; cases e
      rw [upd_ne q]; exact gt.h a o e
    · have q : a ≠ A := by rintro rfl; rw [g4] at e; cases e
      rw [upd_ne q]; exact gt.x a o e
    · exact (IsK.mono ((gr2.g.trans gr3.g).trans gr4.g) _ _ ik).put iv
  · obtain ⟨_, Gi, ks, hks, gA, gr, ik⟩ := h
    rw [List.take_length] at ik
    have ex := Ex.new (o := HO.dK ks) gA
    refine hd A (L2.upd Gi A (.dK ks)) H ⟨gr.g.trans ex, gr.h, fun a o e => ?_, fun a o e => ?_⟩ ⟨A, ks, rfl, upd_same, IsK.mono ex _ _ ik⟩
    · by_cases q : a = A
      · subst q; rw [upd_same] at e; rw [hks]; exact e
      · rw [upd_ne q] at e; exact gr.x a o e
    · by_cases q : a = A
      · subst q; exact .inr hA
      · rw [upd_ne q] at e; exact gr.n a o e
variable {N ps : List Str} {sc scope : Scope} {x y : Str} {kx vx iter : Expr} {px py pt : Pos} {kk : Nat}
abbrev P2D (p : Bool) (X : Cx) (scope : Scope) (i j : Nat) (x y : Str) (px py pt : Pos) (kk : Nat) (iter kx vx : Expr) (fk : D → Int) (fv : D → D) (ρ : Rho) (Q : D → Rho → Prop) : Prop :=
  WI p X (.Tuple [.Name x px, .Name y py] kk pt) iter ρ fun ds ρ1 => ds.length ≤ 40000 ∧ (∀ d ∈ ds, ∃ a b, d = .tup [a, b] ∧ ∀ s H C cl fp, W true true (Blk X scope s H C cl fp) kx ((((ρ1.set j .un).set i .un).set i (.val a)).set j (.val b)) (fun z _ => z = .int (fk d)) ∧
    W true true (Blk X scope s H C cl fp) vx ((((ρ1.set j .un).set i .un).set i (.val a)).set j (.val b)) fun z _ => z = fv d) ∧ Q (.dic (putAll [] (ds.map fun d => (fk d, fv d)))) ρ1
/-- {k: v for x, y in iter} -/
theorem dc2 (i j : Nat) (fk : D → Int) (fv : D → D) (S0 : FnScope N ps sc) (h : P2D p X scope i j x y px py pt kk iter kx vx fk fv ρ Q) (hXN : X.N = N := by rfl) (hbk : blkC X.N X.env.scope scope [(x, i), (y, j)] = true := by kernel_rfl) (hi : X.N[i]? = some x := by rfl) (hj : X.N[j]? = some y := by rfl)
    (hl : Loc1 X scope x := by intro _ _ _ _ _; first | exact ⟨.inl rfl, .inr rfl⟩ | exact ⟨.inr rfl, .inl rfl⟩) (hl2 : Loc1 X scope y := by intro _ _ _ _ _; first | exact ⟨.inl rfl, .inr rfl⟩ | exact ⟨.inr rfl, .inl rfl⟩) (h2 : Two X scope x y px py := by intro _ _ _ _ _; exact ⟨rfl, rfl, rfl, rfl⟩)
    (hc : X.calm = true := by rfl) (hs : ∀ x, foldedSetIterable iter X.env x = pure x := by intro _; rfl) :
    W p g X (.DictComp kx vx [⟨.Tuple [.Name x px, .Name y py] kk pt, iter, [], 0⟩] scope pos) ρ Q := fun B σ G H S R r => by
  refine wE_of (pe_dc (own := [(x, i), (y, j)]) hc (hXN ▸ S0.nd) pi_w (blkOk_by hbk) (pg2 S0 hXN hc hi hl hj hl2 h2) (fun _ _ _ _ _ => pts_nil) pe_c pe_c hs) ?_
  refine h B σ G H S _ fun J ds ρ1 G1 H1 q S1 z pu wk A hA => ?_
  obtain ⟨hl, turn, q⟩ := q
  refine dc_go (X := X) (Qd := R) S1 wk (T := .two i j) (fun k hk => hk) fk fv hl (fun d hd => ?_) (fun a G' H' gr ii => ?_) A hA
  · obtain ⟨a, b, rfl, hw⟩ := turn d hd
    refine ⟨_, rfl, fun σ' G2 H2 S2 R2 r2 s H0 C cl fp => ?_, fun σ' G2 H2 S2 R2 r2 s H0 C cl fp => ?_⟩
    · refine (hw s H0 C cl fp).1 B σ' G2 H2 S2 R2 fun v y ρ3 G3 H3 e S3 x3 p3 i3 => ?_
      subst e
      have e3 := (p3 rfl).1
      subst e3
      exact r2 v G3 H3 S3 (p3 rfl).2 i3
    · refine (hw s H0 C cl fp).2 B σ' G2 H2 S2 R2 fun v y ρ3 G3 H3 e S3 x3 p3 i3 => ?_
      subst e
      have e3 := (p3 rfl).1
      subst e3
      exact r2 v G3 H3 S3 (p3 rfl).2 i3
  · exact r _ _ ρ1 G' H' q (S1.grow gr) (z.trans gr.g) (fun z => ⟨(pu z).1, (pu z).2.trans gr⟩) (is_h (S1.grow gr) ii)
/-- d.get(e, f), d read -/
theorem w_dget {o e f : Expr} {apos : Pos} (hu : X.A.units + 1 < cLine) (h : W p true X o ρ fun d ρ1 => ∃ kvs, d = .dic kvs ∧ W p true X e ρ1 fun k ρ2 => ∃ n, k = .int n ∧ W p true X f ρ2 fun z ρ3 => Q ((lookD kvs (.inl n)).getD z) ρ3)
    (hbase : attributeBase o "get" X.env (eval o X.env) = eval o X.env := by rfl)
    (few : ((backTo pos (starEach [e, f] X.env)).all (fun x => !x.1) && (backToKw pos (keywordEach [] X.env)).all (fun x => x.1.isSome) && decide (([e, f] : List Expr).length + ([] : List Keyword).length + (if ([] : List Keyword).isEmpty then 0 else 1) < 30)) = true := by rfl)
    (hline : (apos.endLine == pos.line) = true := by rfl) (htr : backTo pos (starEach [e, f] X.env) = [(false, eval e X.env), (false, eval f X.env)] := by rfl) : W p g X (.Call (.Attribute o "get" apos) [e, f] [] pos) ρ Q := fun B σ G H S R r => by
  refine wE_of (pe_dget2 hu pe_w pe_w pe_w ⟨hbase, few, hline, htr⟩) ?_
  refine h B σ G H S _ fun v d ρ1 G1 H1 q S1 y1 p1 i1 => ?_
  obtain ⟨kvs, rfl, q⟩ := q
  obtain ⟨a, ks, rfl, e2, e3⟩ := i1
  refine ⟨a, rfl, .inl ⟨ks, .inl (S1.ex _ _ e2)⟩, ?_⟩
  refine q B σ G1 H1 S1 _ fun v k ρ2 G2 H2 q2 S2 y2 p2 i2 => ?_
  obtain ⟨n, rfl, q2⟩ := q2
  cases (i2 : v = .int n)
  refine q2 B σ G2 H2 S2 _ fun u z ρ3 G3 H3 q3 S3 y3 p3 i3 => ?_
  have yy := y2.trans y3
  refine ⟨valV ks (.inl n), DGet.k (k := Sum.inl n) (S3.ex _ _ (yy _ _ e2)), ?_⟩
  have e3' := IsK.mono yy _ _ e3
  refine r _ _ ρ3 G3 H3 q3 S3 (y1.trans yy) (fun w => ⟨((p3 w).1.trans (p2 w).1).trans (p1 w).1, ((p1 w).2.trans (p2 w).2).trans (p3 w).2⟩) (is_h S3 ?_)
  rcases e3'.val (k := Sum.inl n) with ⟨d, v, a1, a2, a3⟩ | ⟨a1, a2⟩
  · unfold lookD; rw [a1, a2]; exact a3
  · unfold lookD; rw [a1, a2]; exact i3
end
end DD
namespace DD
open PySem PySem.Spec PyProof.Rows L2
section
variable {p g : Bool} {X : Cx} {ρ : Rho} {Q : D → Rho → Prop} {E : DE} {pos : Pos} {N ps : List Str} {sc scope : Scope} {x y z : Str} {kx vx iter : Expr} {px py pt pz spos : Pos} {kk : Nat}
/-- name = {k: v for ..} -/
theorem ps_setDc {l : Nat} {tg : Expr} {own : List (Str × Nat)} {wi : TI} {gg : TG} {tt : TT} {tk tv : TE} (hc : X.calm = true) (hN : X.N.Nodup) (hz : X.N[l]? = some z) (hzl : X.env.scope.names.lookup z = some .local)
    (sw : swapsWith (.DictComp kx vx [⟨tg, iter, [], 0⟩] scope pos) (some (.Name z pz)) spos.line X.env = pure true) (hi : PI X tg iter wi) (ok : BlkOk X.N X.env.scope scope own)
    (h1 : ∀ s H C cl fp, PG (Blk X scope s H C cl fp) tg gg) (h2 : ∀ s H C cl fp, PTs (Blk X scope s H C cl fp) [] tt) (h3 : ∀ s H C cl fp, PE (Blk X scope s H C cl fp) kx tk) (h4 : ∀ s H C cl fp, PE (Blk X scope s H C cl fp) vx tv)
    (hs : ∀ x, foldedSetIterable iter X.env x = pure x) : PS X (.Assign [.Name z pz] (.DictComp kx vx [⟨tg, iter, [], 0⟩] scope pos) spos) (tAsg (tDc wi gg tt tk tv (own.map (·.2))) (gName l)) := by
  refine ⟨fun pins s σ H D I hyp => ?_⟩
  rw [exec_Assign_Name_used _ _ _ _ sw]
  refine wpAny_bind (wpAny_standAt (wpAny_bind ?_))
  show wpAny _ X.A (do let _ ← comprehension (.DictComp kx vx [⟨tg, iter, [], 0⟩] scope pos) scope X.env (firstIterPos [⟨tg, iter, [], 0⟩] pos) newDict false (eval iter X.env) (some (assign (.Name z pz) X.env))) _ _ s
  have hyp : tDc wi gg tt tk tv (own.map (·.2)) σ H (fun x H1 => gName l x σ H1 D.nx) := hyp
  refine wpAny_bind (thn (dc_core (Qf := fun _ s' => SP X pins D .next s') hc hN I hi ok h1 h2 h3 h4 hs hyp fun A C s' m H' I' q hn fp => ?_) fun _ s' hq => wpAny_pure (wpAny_pure hq))
  show wpAny _ _ (assign (.Name z pz) X.env (.ref A)) _ _ _
  obtain ⟨f0, f1, f2, f3, f4, f5⟩ := fp
  refine wpAny_assign_Name (store_ok2 (v := V.ref A) I' hN hz (.inl hzl) rfl (fun s2 I2 ⟨a, sb, ha⟩ => ?_) (.inr hzl))
  have neq : C ≠ a := ha.elim (fun e => e ▸ f1) fun e q => f4 z a e q.symm
  exact ⟨m, hn.sameBut sb neq, fun h3 sb3 => ⟨_, H', I2.turned (t' := s2.toks) (fun b o hb e => (sb3.2 b hb).trans e) f0 f1 f3 f4 f5, q⟩⟩
theorem sw_dict {gs : List Comprehension} {n : Nat} {env : Env} (hk : env.scope.kind = .function) (hz : env.scope.names.lookup z = some .local) (hl : (pz.line == pos.line) = true)
    (ha : (scope.names.any fun (n, k) => n == z && (k == .local || k == .cell)) = false) : swapsWith (.DictComp kx vx gs scope pos) (some (.Name z pz)) n env = pure true := by
  have q1 : env.kindOf z = some .local := hz
  have q2 : env.blockKind = .function := by unfold Env.blockKind; rw [hk]; rfl
  unfold swapsWith
  simp only [q1, q2, ha, Expr.pos, hl]
  rfl
theorem x2D {i j : Nat} {fk : D → Int} {fv : D → D} (h : P2D p X scope i j x y px py pt kk iter kx vx fk fv ρ Q) : WX p g (tDc (wI X (.Tuple [.Name x px, .Name y py] kk pt) iter) ((Tg.two i j).g X.K) tYes (cE X scope kx) (cE X scope vx) [i, j]) ρ Q := fun B σ G H S R r => by
  refine h B σ G H S _ fun J ds ρ1 G1 H1 q S1 z pu wk A hA => ?_
  obtain ⟨hl, turn, q⟩ := q
  refine dc_go (X := X) (Qd := R) S1 wk (T := .two i j) (fun k hk => hk) fk fv hl (fun d hd => ?_) (fun a G' H' gr ii => ?_) A hA
  · obtain ⟨a, b, rfl, hw⟩ := turn d hd
    refine ⟨_, rfl, fun σ' G2 H2 S2 R2 r2 s H0 C cl fp => ?_, fun σ' G2 H2 S2 R2 r2 s H0 C cl fp => ?_⟩
    · refine (hw s H0 C cl fp).1 B σ' G2 H2 S2 R2 fun v y ρ3 G3 H3 e S3 x3 p3 i3 => ?_
      subst e
      have e3 := (p3 rfl).1
      subst e3
      exact r2 v G3 H3 S3 (p3 rfl).2 i3
    · refine (hw s H0 C cl fp).2 B σ' G2 H2 S2 R2 fun v y ρ3 G3 H3 e S3 x3 p3 i3 => ?_
      subst e
      have e3 := (p3 rfl).1
      subst e3
      exact r2 v G3 H3 S3 (p3 rfl).2 i3
  · exact r _ _ ρ1 G' H' q (S1.grow gr) (z.trans gr.g) (fun z => ⟨(pu z).1, (pu z).2.trans gr⟩) (is_h (S1.grow gr) ii)
/-- z = {k: v for x, y in iter} -/
theorem s_dc2 (l i j : Nat) (fk : D → Int) (fv : D → D) (S0 : FnScope N ps sc) (h : P2D false X scope i j x y px py pt kk iter kx vx fk fv ρ fun d ρ' => E.nx (ρ'.set l (.val d))) (hXN : X.N = N := by rfl) (hbk : blkC X.N X.env.scope scope [(x, i), (y, j)] = true := by kernel_rfl) (hi : X.N[i]? = some x := by rfl) (hj : X.N[j]? = some y := by rfl)
    (hl : Loc1 X scope x := by intro _ _ _ _ _; first | exact ⟨.inl rfl, .inr rfl⟩ | exact ⟨.inr rfl, .inl rfl⟩) (hl2 : Loc1 X scope y := by intro _ _ _ _ _; first | exact ⟨.inl rfl, .inr rfl⟩ | exact ⟨.inr rfl, .inl rfl⟩) (h2 : Two X scope x y px py := by intro _ _ _ _ _; exact ⟨rfl, rfl, rfl, rfl⟩)
    (hc : X.calm = true := by rfl) (hs : ∀ x, foldedSetIterable iter X.env x = pure x := by intro _; rfl) (hz : X.N[l]? = some z := by rfl) (hzl : X.env.scope.names.lookup z = some .local := by rfl)
    (hsw : swapsWith (.DictComp kx vx [⟨.Tuple [.Name x px, .Name y py] kk pt, iter, [], 0⟩] scope pos) (some (.Name z pz)) spos.line X.env = pure true := by exact sw_dict rfl rfl rfl (by decide +kernel)) :
    WS X (.Assign [.Name z pz] (.DictComp kx vx [⟨.Tuple [.Name x px, .Name y py] kk pt, iter, [], 0⟩] scope pos) spos) ρ E :=
  s_setX (ps_setDc (own := [(x, i), (y, j)]) hc (hXN ▸ S0.nd) hz hzl hsw pi_w (blkOk_by hbk) (pg2 S0 hXN hc hi hl hj hl2 h2) (fun _ _ _ _ _ => pts_nil) pe_c pe_c hs) (x2D h)
end
end DD

namespace DD
open PySem PySem.Spec PyProof.Rows L2
/-! ### the pot -/
section
variable {p g : Bool} {X : Cx} {ρ : Rho} {Q : D → Rho → Prop} {E : DE} {pos : Pos}
theorem w_pot0 (i : Nat) {x : Str} {lc : Bool} {p1 p2 : Pos} {j : Nat} (hr : ρ[i]? = some (.own lc .pot)) (q : ∀ a : Int, 0 ≤ a → Q (.int a) ρ)
    (hN : X.N[i]? = some x := by rfl) (hv : Vis X.env.scope x := by first | exact .inl rfl | exact .inr (.inl rfl) | exact .inr (.inr rfl)) (hd : (x == ("__debug__" : Str)) = false := by decide) (hcd : (x == ("__classdict__" : Str)) = false := by decide)
    (hs : PlainIx (.Constant (.int 0) j p2) := by intro _ _; rfl) : W p g X (.Subscript (.Name x p1) (.Constant (.int 0) j p2) pos) ρ Q := fun B σ G H S R r => by
  refine wE_of (pe_ix ix_list pe_w pe_int hs) ?_
  refine own_name hN hv hd hcd hr S fun l el ok => ?_
  obtain ⟨a, b, hl, a0, b0, b1⟩ := ok
  exact ⟨l, _, 0, .int a, rfl, rfl, .inl (.inl hl), rfl, r _ (.int a) ρ G H (q a a0) S (Ex.refl G) (fun _ => ⟨rfl, Grow.refl S.ex⟩) (is_h S rfl)⟩
theorem w_pot1 (i : Nat) {x : Str} {lc : Bool} {p1 p2 : Pos} {j : Nat} (hr : ρ[i]? = some (.own lc .pot)) (q : ∀ b : Int, 0 ≤ b → b < 4294967296 → Q (.int b) ρ)
    (hN : X.N[i]? = some x := by rfl) (hv : Vis X.env.scope x := by first | exact .inl rfl | exact .inr (.inl rfl) | exact .inr (.inr rfl)) (hd : (x == ("__debug__" : Str)) = false := by decide) (hcd : (x == ("__classdict__" : Str)) = false := by decide)
    (hs : PlainIx (.Constant (.int 1) j p2) := by intro _ _; rfl) : W p g X (.Subscript (.Name x p1) (.Constant (.int 1) j p2) pos) ρ Q := fun B σ G H S R r => by
  refine wE_of (pe_ix ix_list pe_w pe_int hs) ?_
  refine own_name hN hv hd hcd hr S fun l el ok => ?_
  obtain ⟨a, b, hl, a0, b0, b1⟩ := ok
  exact ⟨l, _, 1, .int b, rfl, rfl, .inl (.inl hl), rfl, r _ (.int b) ρ G H (q b b0 b1) S (Ex.refl G) (fun _ => ⟨rfl, Grow.refl S.ex⟩) (is_h S rfl)⟩
theorem pot_put {B : Base} {σ : L2.St} {G H : Hp} (S : Sta B σ ρ G H) {i : Nat} {lc : Bool} {l : Addr} {a b : Int} (hr : ρ[i]? = some (.own lc .pot)) (el : σ[i]? = some (some (.ref l))) (a0 : 0 ≤ a) (b0 : 0 ≤ b) (b1 : b < 4294967296) : Sta B σ ρ G (L2.upd H l (.lst [.int a, .int b])) := by
  obtain ⟨m, em, gl, _, _⟩ := S.ownAt hr
  have : m = l := by rw [el] at em; cases em; rfl
  subst this
  refine S.growP (l := m) ⟨Ex.refl _, fun c o e ne => by rw [upd_ne ne]; exact e, fun c o e => ?_, fun c o e => .inl e, a, b, upd_same, a0, b0, b1⟩ hr el
  have ne : c ≠ m := by rintro rfl; rw [gl] at e; cases e
  rw [upd_ne ne]; exact S.ex c o e
/-- pot[1] = e -/
theorem s_pot1 (i : Nat) {x : Str} {lc : Bool} {e : Expr} {p1 p2 p3 : Pos} {j : Nat} (hr : ρ[i]? = some (.own lc .pot)) (h : W true true X e ρ fun d _ => ∃ n, d = .int n ∧ (0 ≤ n ∧ n < 4294967296) ∧ E.nx ρ)
    (hN : X.N[i]? = some x := by rfl) (hv : Vis X.env.scope x := by first | exact .inl rfl | exact .inr (.inl rfl) | exact .inr (.inr rfl)) (hd : (x == ("__debug__" : Str)) = false := by decide) (hcd : (x == ("__classdict__" : Str)) = false := by decide)
    (hs : swapsWithSole [.Subscript (.Name x p1) (.Constant (.int 1) j p2) p3] e pos.line X.env = pure false := by rfl) (hw : swappedStores [.Subscript (.Name x p1) (.Constant (.int 1) j p2) p3] e X.env = pure none := by rfl)
    (h1 : (assignEach [.Subscript (.Name x p1) (.Constant (.int 1) j p2) p3] X.env).map (·.2) = [assign (.Subscript (.Name x p1) (.Constant (.int 1) j p2) p3) X.env] := by rfl) :
    WS X (.Assign [.Subscript (.Name x p1) (.Constant (.int 1) j p2) p3] e pos) ρ E := fun B σ G H F S L => by
  refine wS_of (ps_asg pe_w (pg_sub pe_w pe_int set_list) hs hw h1) ?_
  refine h B σ G H S _ fun v d ρ' G' H' q S' y pu iv => ?_
  obtain ⟨e1, gr⟩ := pu rfl
  subst e1
  obtain ⟨n, rfl, ⟨n0, n1⟩, q⟩ := q
  cases (iv : v = .int n)
  refine own_name hN hv hd hcd hr S' fun l el ok => ?_
  obtain ⟨a, b, hl, a0, b0, b1⟩ := ok
  exact ⟨l, _, 1, 1, rfl, rfl, hl, rfl, L.nx _ _ G' _ q (pot_put S' hr el a0 n0 n1) y⟩
/-- pot[0], x = e, e a pair -/
theorem s_pot0 (i l : Nat) {x y : Str} {lc : Bool} {e : Expr} {p1 p2 p3 p4 p5 : Pos} {j kk : Nat} (hN : X.N.Nodup) (hc : X.calm = true) (hr : ρ[i]? = some (.own lc .pot)) (h : W true true X e ρ fun d _ => ∃ n m, d = .tup [.int n, .int m] ∧ 0 ≤ n ∧ E.nx (ρ.set l (.val (.int m))))
    (hi : X.N[i]? = some x := by rfl) (hl : X.N[l]? = some y := by rfl) (hy : Loc X.env.scope y := by first | exact .inl rfl | exact .inr rfl) (hf : X.fn y = true ∨ X.env.scope.names.lookup y = some .local := by first | exact .inl rfl | exact .inr rfl)
    (hv : Vis X.env.scope x := by first | exact .inl rfl | exact .inr (.inl rfl) | exact .inr (.inr rfl)) (hd : (x == ("__debug__" : Str)) = false := by decide) (hcd : (x == ("__classdict__" : Str)) = false := by decide)
    (hs : swapsWithSole [.Tuple [.Subscript (.Name x p1) (.Constant (.int 0) j p2) p3, .Name y p4] kk p5] e pos.line X.env = pure false := by rfl) (hw : swappedStores [.Tuple [.Subscript (.Name x p1) (.Constant (.int 0) j p2) p3, .Name y p4] kk p5] e X.env = pure none := by rfl)
    (h1 : (assignEach [.Tuple [.Subscript (.Name x p1) (.Constant (.int 0) j p2) p3, .Name y p4] kk p5] X.env).map (·.2) = [assign (.Tuple [.Subscript (.Name x p1) (.Constant (.int 0) j p2) p3, .Name y p4] kk p5) X.env] := by rfl)
    (t1 : (assignEach [.Subscript (.Name x p1) (.Constant (.int 0) j p2) p3, .Name y p4] X.env).length = 2 := by rfl) (t2 : (assignEach [.Subscript (.Name x p1) (.Constant (.int 0) j p2) p3, .Name y p4] X.env).findIdx? (·.1) = none := by rfl)
    (t3 : (assignEach [.Subscript (.Name x p1) (.Constant (.int 0) j p2) p3, .Name y p4] X.env).map (·.2) = assign (.Subscript (.Name x p1) (.Constant (.int 0) j p2) p3) X.env :: (assignEach [.Name y p4] X.env).map (·.2) := by rfl) (t4 : (assignEach [.Name y p4] X.env).map (·.2) = assign (.Name y p4) X.env :: (assignEach [] X.env).map (·.2) := by rfl) :
    WS X (.Assign [.Tuple [.Subscript (.Name x p1) (.Constant (.int 0) j p2) p3, .Name y p4] kk p5] e pos) ρ E := fun B σ G H F S L => by
  refine wS_of (ps_asg pe_w (pg_tup hc (pgs_cons (pg_sub pe_w pe_int set_list) (pgs_cons (pg_name hN hl hy hf) pgs_nil t4) t3) t1 t2) hs hw h1) ?_
  refine h B σ G H S _ fun v d ρ' G' H' q S' y pu iv => ?_
  obtain ⟨e1, gr⟩ := pu rfl
  subst e1
  obtain ⟨n, m, rfl, n0, q⟩ := q
  obtain ⟨tl, vs, rfl, e2, e3⟩ := iv
  obtain ⟨v1, v2, rfl, i1, i2⟩ := isA_two e3
  cases (i1 : v1 = .int n); cases (i2 : v2 = .int m)
  refine ⟨tl, _, rfl, .inl (.inl (S'.ex _ _ e2)), rfl, .int n, [.int m], rfl, ?_⟩
  refine own_name hi hv hd hcd hr S' fun l' el ok => ?_
  obtain ⟨a, b, hl, a0, b0, b1⟩ := ok
  exact ⟨l', _, 0, 0, rfl, rfl, hl, rfl, .int m, [], rfl, rfl, L.nx _ _ G' _ q ((pot_put S' hr el n0 b0 b1).set (d := .int m) rfl) y⟩
theorem c_divmod {i j : Int} {g : Bool} {Z : D → Prop} (q : (0 < j ∧ j < 1073741824) ∧ Z (.tup [.int (i / j), .int (i % j)])) : OpC g X (.builtin "divmod") [.int i, .int j] Z := by
  intro G H vs R ex hi k
  obtain ⟨v, u, rfl, e1, e2⟩ := isA_two (isA_any ex hi)
  cases (e1 : v = .int i); cases (e2 : u = .int j)
  refine ⟨_, call_divmod, i, j, rfl, q.1, fun b hb => ?_⟩
  have gr := Grow.new (o := .tup [.int (i / j), .int (i % j)]) ex hb
  exact k _ (.tup [.int (i / j), .int (i % j)]) _ _ q.2 gr ⟨b, _, rfl, upd_same, _, _, rfl, rfl, _, _, rfl, rfl, rfl⟩
/-! ### a def that makes a pot -/
def spF (c : List D → Prop) : Sp := fun vs H Q _ => ∃ (G : Hp) (ds : List D), Ex G H ∧ IsA G ds vs ∧ c ds ∧ ∀ l a b H', H l = none → Ex H H' → H' l = some (.lst [.int a, .int b]) → 0 ≤ a → 0 ≤ b → b < 4294967296 → Q (.ref l) H'
def WSF (X : Cx) (st : List Stmt) (ρ : Rho) : Prop := ∀ (B : Base) (σ : L2.St) (G H : Hp) (F : Ends), B.W = [] → Sta B σ ρ G H →
  (∀ l a b H', B.H l = none → Ex B.H H' → H' l = some (.lst [.int a, .int b]) → 0 ≤ a → 0 ≤ b → b < 4294967296 → F.rt (.ref l) H') → wSs X st F σ H
theorem wsf_cons {st : Stmt} {rest : List Stmt} (h : WS X st ρ { nx := fun ρ' => WSF X rest ρ', rt := fun _ => False }) : WSF X (st :: rest) ρ := fun B σ G H F hW S k =>
  wSs_of (pss_cons ps_w pss_w) (h B σ G H { F with nx := wSs X rest F } S ⟨fun σ' ρ' G' H' q S' _ => q B σ' G' H' F hW S' k, fun _ _ _ _ z => z.elim, fun _ _ _ _ z => z.elim, fun _ _ _ _ z => z.elim⟩)
theorem wsf_ret {es : List Expr} {p1 : Pos} (h : WA true true X es ρ fun ds _ => ∃ a b : Int, ds = [.int a, .int b] ∧ 0 ≤ a ∧ 0 ≤ b ∧ b < 4294967296) : WSF X [.Return (some (.List es p1)) pos] ρ := fun B σ G H F hW S k => by
  refine wSs_of (pss_one (ps_ret (pe_lst pa_w))) ?_
  refine h B σ G H S _ fun vs ds ρ' G' H' q S' x pu i => ?_
  obtain ⟨a, b, rfl, a0, b0, b1⟩ := q
  obtain ⟨v, u, rfl, e1, e2⟩ := isA_two i
  cases (e1 : v = .int a); cases (e2 : u = .int b)
  refine ⟨by show 2 ≤ sizeLine; decide, fun l hl => ?_⟩
  have ex : Ex B.H H' := fun c o e => S'.fr c o e (by rw [hW]; simp)
  exact k l a b _ (S'.kn l hl) (ex.trans (Ex.new hl)) upd_same a0 b0 b1
variable {P : Program} {w : World} {K : PySem.W.Frag} {mg : Str → Option Value} {base : Heap}
theorem fnF {x qual : Str} {st : Stmt} {f : Addr} {fd : FuncData} {N ps : List Str} {k : Nat} {c : List D → Prop} (F : Fun K x qual st f fd) (S : FnScope N ps (defScope st)) (len : ∀ ds, c ds → ds.length = ps.length)
    (h : ∀ (cdv : Value) (A : Around) (outer : List Env) (s : Shared) (H : Hp) (E : XK) (ds : List D), Room k (A.deeper (envOfC qual (defScope st) s.heap.objs.size f cdv)) → c ds → WSF (CxD P w K mg base N qual st f cdv A outer s H E) (defBody st) (rho0 N ds)) : FnOk P w K mg base CX0 (k + 1) f fd ps (spF c) := by
  refine F.ok S (fun vs H Q E hs => ?_) fun cdv A outer s H vs Q E hr hs => ?_
  · obtain ⟨G, ds, ex, i, hc, _⟩ := hs
    rw [i.length]; exact len ds hc
  · obtain ⟨G, ds, ex, i, hc, q⟩ := hs
    exact ⟨_, pss_w, h cdv A outer s H E ds hr hc ⟨H, G, [], 0⟩ _ G H _ rfl (sta_start ex i) fun l a b H' n e z a0 b0 b1 => q l a b H' n e z a0 b0 b1⟩
/-- x = f(e, ..), a new pot -/
theorem f_call {c : List D → Prop} {k : Nat} {ps : List Str} {x : Str} {pp : Pos} {e : Expr} {es : List Expr} {QO : Own → Rho → Prop} (F : Df X.prog X.w X.K X.mg X.base k x ps (spF c)) (hr : Room k X.A) (h : WA true true X (e :: es) ρ fun ds ρ' => c ds ∧ QO .pot ρ') (hg : Gl X x := by rfl) (hdb : (x == ("__debug__" : Str)) = false := by decide)
    (he : starEach (e :: es) X.env = (false, eval e X.env) :: starEach es X.env := by rfl) (hpl : (backTo pos (starEach es X.env)).any (·.1) = false := by rfl) : WF X (.Call (.Name x pp) (e :: es) [] pos) ρ QO := fun B σ G H S R r => by
  obtain ⟨f, fd, F, hm, hk, hb⟩ := F.ex
  refine wE_of (pe_call F hr hg hm hk hb .nil pass0 pa_w hdb he hpl) ?_
  refine h B σ G H S _ fun vs ds ρ' G' H' q S' y pu i => ?_
  refine ⟨G', ds, S'.ex, by rw [List.append_nil]; exact i, q.1, fun l a b H2 n ex z a0 b0 b1 => ?_⟩
  obtain ⟨h1, h2, h3⟩ := new_own S' n
  have gr : Grow G' H' G' H2 := ⟨Ex.refl _, ex, S'.ex.trans ex, fun _ _ e => .inl e⟩
  exact r l .pot ρ' G' H2 q.2 (S'.grow gr) y h1 h2 h3 ⟨a, b, z, a0, b0, b1⟩
end
end DD
namespace DD
open PySem PySem.Spec PyProof.Rows L2
section
variable {p g : Bool} {X : Cx} {ρ : Rho} {Q : D → Rho → Prop} {E : DE} {pos : Pos}
/-- x, y = e, [] -/
theorem s_parN (i j : Nat) {x y : Str} {a : Expr} {px py pt pl : Pos} {kt k2 pt2} {N ps : List Str} {sc : Scope} (S0 : FnScope N ps sc) (hij : i ≠ j)
    (h : W true true X a ρ fun d _ => E.nx ((ρ.set i (.val d)).set j (.own true (.lst [])))) (hXN : X.N = N := by rfl) (hc : X.calm = true := by rfl) (hi : X.N[i]? = some x := by rfl) (hj : X.N[j]? = some y := by rfl)
    (hx : X.env.scope.names.lookup x = some .local := by rfl) (hy : X.env.scope.names.lookup y = some .local := by rfl)
    (hs1 : starEach [a, .List [] pl] X.env = (false, eval a X.env) :: starEach [.List [] pl] X.env := by rfl) (hs2 : starEach [.List [] pl] X.env = (false, eval (.List [] pl) X.env) :: starEach [] X.env := by rfl)
    (hw : swappedStores [.Tuple [.Name x px, .Name y py] kt pt] (.Tuple [a, .List [] pl] k2 pt2) X.env = pure (some [x, y]) := by rfl)
    (hs : swapsWithSole [.Tuple [.Name x px, .Name y py] kt pt] (.Tuple [a, .List [] pl] k2 pt2) pos.line X.env = pure false := by rfl) :
    WS X (.Assign [.Tuple [.Name x px, .Name y py] kt pt] (.Tuple [a, .List [] pl] k2 pt2) pos) ρ E := fun B σ G H F S L => by
  refine wS_of (ps_par hc (hXN ▸ S0.nd) hi hj hij hx hy (pa_cons pe_w (pa_cons (pe_lst pa_nil) pa_nil hs2) hs1) hw hs) ?_
  refine h B σ G H S _ fun v d ρ' G' H' q S' z pu iv => ?_
  obtain ⟨e1, gr⟩ := pu rfl
  subst e1
  refine ⟨Nat.zero_le _, fun l hl => ⟨v, .ref l, rfl, ?_⟩⟩
  obtain ⟨h1, h2, h3⟩ := new_own S' hl
  have S2 := S'.grow (Grow.own (o := .lst []) S'.ex hl)
  have S3 := S2.set (i := i) iv
  refine L.nx _ _ G' _ q (S3.setOwn (i := j) (l := l) h1 h2 ⟨[], upd_same, rfl⟩ fun m lc u hm hs => ?_) z
  by_cases him : i = m
  · subst him
    rw [List.getElem?_set] at hm
    simp only [if_true] at hm
    split at hm <;> cases hm
  · rw [List.getElem?_set_ne him] at hm hs
    exact h3 m hs lc u hm
end
theorem cut_to {xs : List D} {n : Nat} (h : n ≤ xs.length) : cutD xs none (some (n : Int)) = xs.take n := by
  unfold cutD
  rw [HT.sIx_none, HT.sIx_nat, List.drop_zero, Nat.min_eq_left h, Nat.sub_zero]
theorem cut_from {xs : List D} {n : Nat} (h : n ≤ xs.length) : cutD xs (some (n : Int)) none = xs.drop n := by
  unfold cutD
  rw [HT.sIx_none, HT.sIx_nat, Nat.min_eq_left h, ← List.length_drop, List.take_length]
end DD
namespace DD
open PySem PySem.Spec PyProof.Rows L2
section
variable {p g : Bool} {X : Cx} {ρ : Rho} {Q : D → Rho → Prop} {E : DE} {pos : Pos}
/-- x[e] = v, short -/
theorem item (i : Nat) {x : Str} {e ev : Expr} {p1 p2 : Pos}
    (h : W true true X ev ρ fun d _ => ∃ ds, ρ[i]? = some (.own true (.lst ds)) ∧ W true true X e ρ fun k _ => ∃ n j, k = .int n ∧ ixN ds.length n = some j ∧ E.nx (ρ.set i (.own true (.lst (ds.set j d)))))
    (hN : X.N[i]? = some x := by rfl) (hv : Vis X.env.scope x := by first | exact .inl rfl | exact .inr (.inl rfl) | exact .inr (.inr rfl)) (hd : (x == ("__debug__" : Str)) = false := by decide) (hcd : (x == ("__classdict__" : Str)) = false := by decide)
    (hs : swapsWithSole [.Subscript (.Name x p1) e p2] ev pos.line X.env = pure false := by rfl) (hw : swappedStores [.Subscript (.Name x p1) e p2] ev X.env = pure none := by rfl)
    (h1 : (assignEach [.Subscript (.Name x p1) e p2] X.env).map (·.2) = [assign (.Subscript (.Name x p1) e p2) X.env] := by rfl)
    (ha : ∀ v, assign (.Subscript (.Name x p1) e p2) X.env v = (do
      let ov ← holding [v] (eval (.Name x p1) X.env)
      let iv ← holding [v, ov] (eval e X.env)
      standAt p2
      holding [v, ov, iv] (setItem ov iv v)
      release [v, ov, iv] []) := by intro _; rfl) : WS X (.Assign [.Subscript (.Name x p1) e p2] ev pos) ρ E := s_item hN hv hd hcd h hs hw h1 ha
end
/-- keywords the other way about -/
def sw2 {α : Type} : List α → List α
  | [a, b] => [b, a]
  | l => l
theorem isA_sw {H : Hp} {ds : List D} {vs : List V} (h : IsA H ds vs) : IsA H (sw2 ds) (sw2 vs) := by
  match ds, h with
  | [], h => cases h; rfl
  | [a], h =>
    obtain ⟨x, rfl, i⟩ := isA_one h
    exact ⟨x, [], rfl, i, rfl⟩
  | [a, b], h =>
    obtain ⟨x, y, rfl, i1, i2⟩ := isA_two h
    exact ⟨y, [x], rfl, i2, x, [], rfl, i1, rfl⟩
  | a :: b :: c :: r, h =>
    have hl := h.length
    obtain ⟨x, s, rfl, i1, h2⟩ := id h
    obtain ⟨y, s, rfl, i2, h3⟩ := h2
    obtain ⟨z, s, rfl, i3, h4⟩ := h3
    exact h
theorem vals_sw {vs : List V} {us : List Value} (h : Vals vs us) : Vals (sw2 vs) (sw2 us) := by
  cases h with
  | nil => exact .nil
  | cons h1 t1 =>
    cases t1 with
    | nil => exact .cons h1 .nil
    | cons h2 t2 =>
      cases t2 with
      | nil => exact .cons h2 (.cons h1 .nil)
      | cons h3 t3 => exact .cons h1 (.cons h2 (.cons h3 t3))
structure DfK (P : Program) (w : World) (K : PySem.W.Frag) (mg : Str → Option Value) (base : Heap) (k : Nat) (x : Str) (ps ks : List Str) (sp : Sp) : Prop where
  ex : ∃ f fd, FnOk P w K mg base CX0 k f fd ps sp ∧ mg x = some (.ref f) ∧ PySem.W.keepIn K (.ref f) = true ∧ KBinds K fd ps ks (fun us ws => us ++ sw2 ws) (fun vs zs => vs ++ sw2 zs)
section
variable {p g : Bool} {X : Cx} {ρ : Rho} {Q : D → Rho → Prop} {pos : Pos}
theorem callK {k : Nat} {ps ks : List Str} {c : List D → (D → Prop) → Prop} {x : Str} {pp : Pos} {kws : List Keyword} (F : DfK X.prog X.w X.K X.mg X.base k x ps ks (spD c)) (hr : Room k X.A)
    (h : WK p true X kws ρ fun ds ρ' => c (sw2 ds) fun d => Q d ρ') (hg : Gl X x := by rfl) (hdb : (x == ("__debug__" : Str)) = false := by decide)
    (hall : (backToKw pos (keywordEach kws X.env)).all (·.1.isSome) = true := by rfl) (hks : (backToKw pos (keywordEach kws X.env)).filterMap (·.1) = ks := by rfl)
    (hpl : ((backTo pos (starEach [] X.env)).any (·.1) || (backToKw pos (keywordEach kws X.env)).any (·.1.isNone)) = false := by rfl) : W p g X (.Call (.Name x pp) [] kws pos) ρ Q := by
  obtain ⟨f, fd, F, hm, hk, hb⟩ := F.ex
  exact w_callK0 F hr hm hk hb (fun _ _ _ h => isA_sw h) h hg hdb hall hks hpl
end
end DD
namespace DD
open PySem PySem.Spec PyProof.Rows L2
section
variable {g : Bool} {X : Cx} {Z : D → Prop}
/-! ### the script -/
theorem c_lenScr {ns : List Int} (q : Z (.int (ns.length : Int))) : OpC g X (.builtin "len") [.scr X.K ns] Z := by
  intro G H vs R ex i k
  obtain ⟨v, rfl, a, rfl, e⟩ := isA_one (isA_any ex i)
  refine ⟨_, call_len_seq, a, _, rfl, .inl e, ?_⟩
  rw [List.length_map]
  exact k _ (.int (ns.length : Int)) G H q (Grow.refl ex) rfl
theorem x_scr {ns : List Int} {i : Int} {n : Int} (h : atI (ns.map V.int) i = some (.int n)) (q : Z (.int n)) : OpI g X (.scr X.K ns) (.int i) Z := by
  intro G H v u R ex i1 j k
  have j' : u = .int i := is_any ex j
  subst j'
  obtain ⟨a, rfl, e⟩ := is_any ex i1
  exact ⟨_, ix_list, a, _, i, .int n, rfl, rfl, e, h, k (.int n) (.int n) q (by cases g <;> exact rfl)⟩
end
end DD

namespace DD
open PySem PySem.Spec PyProof.Rows L2

/-! ### data that hold no list; ghosts without lists: so what comes out of a def is new -/
mutual
def noL : D → Bool
  | .lst _ => false
  | .dic _ => false
  | .scr _ _ => false
  | .tup ds => noLA ds
  | .obj _ fs => noLF fs
  | _ => true
def noLA : List D → Bool
  | [] => true
  | d :: ds => noL d && noLA ds
def noLF : List (Str × D) → Bool
  | [] => true
  | (_, d) :: ds => noL d && noLF ds
end
def NoList (o : HO) : Prop := ∀ xs, o ≠ .lst xs
mutual
theorem Is.keepNL {G G' : Hp} (e : ∀ a o, G a = some o → NoList o → G' a = some o) : ∀ (d : D) (v : V), noL d = true → Is G d v → Is G' d v
  | .non, _, _, h => h
  | .bl _, _, _, h => h
  | .int _, _, _, h => h
  | .str _, _, _, h => h
  | .ty _, _, _, h => h
  | .lst _, _, n, _ => by cases n
  | .dic _, _, n, _ => by cases n
  | .scr _ _, _, n, _ => by cases n
  | .adr _, _, _, h => h
  | .tup ds, _, n, ⟨a, xs, e1, e2, e3⟩ => ⟨a, xs, e1, e _ _ e2 (fun _ z => nomatch z), IsA.keepNL e ds xs n e3⟩
  | .obj C fs, _, n, ⟨a, dx, gs, e1, e2, e3⟩ => ⟨a, dx, gs, e1, e _ _ e2 (fun _ z => nomatch z), IsF.keepNL e fs gs n e3⟩
theorem IsA.keepNL {G G' : Hp} (e : ∀ a o, G a = some o → NoList o → G' a = some o) : ∀ (ds : List D) (xs : List V), noLA ds = true → IsA G ds xs → IsA G' ds xs
  | [], _, _, h => h
  | d :: ds, _, n, ⟨x, r, e1, e2, e3⟩ => ⟨x, r, e1, Is.keepNL e d x (Bool.and_eq_true_iff.mp n).1 e2, IsA.keepNL e ds r (Bool.and_eq_true_iff.mp n).2 e3⟩
theorem IsF.keepNL {G G' : Hp} (e : ∀ a o, G a = some o → NoList o → G' a = some o) : ∀ (fs : List (Str × D)) (xs : List (Str × V)), noLF fs = true → IsF G fs xs → IsF G' fs xs
  | [], _, _, h => h
  | (k, d) :: ds, _, n, ⟨x, r, e1, e2, e3⟩ => ⟨x, r, e1, Is.keepNL e d x (Bool.and_eq_true_iff.mp n).1 e2, IsF.keepNL e ds r (Bool.and_eq_true_iff.mp n).2 e3⟩
end
/-- a ghost less its lists -/
def LF (G : Hp) : Hp := fun a => match G a with
  | some (.lst _) => none
  | o => o
theorem LF.ex {G : Hp} : Ex (LF G) G := fun a o h => by
  unfold LF at h
  split at h
  · cases h
  · exact h
theorem LF.keep {G : Hp} : ∀ a o, G a = some o → NoList o → LF G a = some o := fun a o h n => by
  unfold LF
  split
  · rename_i xs e
    rw [h] at e
    cases e
    exact absurd rfl (n xs)
  · exact h
theorem LF.no {G : Hp} (a : Addr) (xs : List V) : LF G a ≠ some (.lst xs) := fun h => by
  unfold LF at h
  split at h
  · cases h
  · rename_i n
    exact n xs h
/-- a ghost less one place -/
theorem del_ex {G : Hp} {D : Addr} : Ex (del D G) G := fun a o h => by
  have q : a ≠ D := by rintro rfl; rw [del_same] at h; cases h
  rw [del_ne q] at h; exact h

section
variable {X : Cx} {ρ : Rho} {E : DE} {pos : Pos}
/-- e makes new data: all its lists are new -/
def WFr (X : Cx) (e : Expr) (ρ : Rho) (d : D) : Prop := ∀ (B : Base) (σ : L2.St) (G H : Hp), Sta B σ ρ G H → ∀ R : VK,
  (∀ v G' H', Ex H H' → Ex G' H' → (∀ a xs, G' a = some (.lst xs) → H a = none) → Is G' d v → R v H') → wE X e σ H R
theorem wfr_meth0 {C f : Addr} {m : Str} {fd : FuncData} {k : Nat} {ps : List Str} {c : List D → (D → Prop) → Prop} {o : Expr} {apos : Pos} {pl : Sem Bool} {dd : D} {fs : List (Str × D)} (cl : Cls X.K C) (hm : Meth X.K C m f) (F : FnOk X.prog X.w X.K X.mg X.base CX0 k f fd ps (spD c)) (hr : Room k X.A) (hb : Binds X.K fd ps [])
    (h : W true true X o ρ fun x _ => x = .obj C fs) (hl : fs.lookup m = none) (hn : noLF fs = true) (hc : c [.obj C fs] fun d => d = dd)
    (ht : eval (.Call (.Attribute o m apos) [] [] pos) X.env = (do
      let ov ← eval o X.env
      standAt apos.atName
      let (f, first) ← holding [ov] (getMethod ov m pl)
      callWith pos f first (backTo pos (starEach [] X.env)) (backToKw pos (keywordEach [] X.env))) := by rfl) : WFr X (.Call (.Attribute o m apos) [] [] pos) ρ dd := fun B σ G H S R r => by
  refine wE_of (pe_meth0 (pl := pl) pe_w cl hm F hr hb .nil pass0 ht) ?_
  refine h B σ G H S _ fun v x ρ' G' H' q S' y pu i => ?_
  subst q
  obtain ⟨rfl, g0⟩ := pu rfl
  obtain ⟨a, dx, gs, rfl, e2, e3⟩ := id i
  refine ⟨a, dx, gs, rfl, S'.ex _ _ e2, e3.no hl, ?_⟩
  refine ⟨LF G', [.obj C fs], fun d => d = dd, LF.ex.trans S'.ex, ⟨.ref a, [], rfl, Is.keepNL LF.keep _ _ hn i, rfl⟩, hc, fun v d G2 H2 z gr iz => ?_⟩
  subst z
  refine r v G2 H2 (g0.h.trans gr.h) gr.x (fun b xs hb => ?_) iz
  rcases gr.n b _ hb with q | q
  · exact absurd q (LF.no b xs)
  · cases hq : H b with
    | none => rfl
    | some u => rw [g0.h b u hq] at q; cases q
/-- new(..).append(None) -/
theorem s_appNew {e : Expr} {ds : List D} {j} {cp p2 p3 : Pos} (h : WFr X e ρ (.lst ds)) (hz : ds.length < 1000000) (q : E.nx ρ)
    (hbase : attributeBase e "append" X.env (eval e X.env) = eval e X.env := by rfl)
    (hfew : ((backTo p3 (starEach [.Constant .none j cp] X.env)).all (fun x => !x.1) && (backToKw p3 (keywordEach [] X.env)).all (fun x => x.1.isSome)
      && decide (([.Constant .none j cp] : List Expr).length + ([] : List Keyword).length + (if ([] : List Keyword).isEmpty then 0 else 1) < 30)) = true := by rfl)
    (hline : (p2.endLine == p3.line) = true := by rfl) (hst : starEach [.Constant .none j cp] X.env = (false, eval (.Constant .none j cp) X.env) :: starEach [] X.env := by rfl) (hplain : (backTo p3 (starEach [] X.env)).any (·.1) = false := by rfl)
    (hs : swapsWith (.Call (.Attribute e "append" p2) [.Constant .none j cp] [] p3) none pos.line X.env = pure false := by rfl) : WS X (.Expr (.Call (.Attribute e "append" p2) [.Constant .none j cp] [] p3) pos) ρ E := fun B σ G H F S L => by
  refine wS_of (ps_expr (pe_bm PySem.F.plainAttrs_list PySem.F.slot_list_append PySem.F.type_list_append mt_append pe_w (pa_cons pe_non pa_nil hst) hbase hfew hline hst hplain) hs) ?_
  refine h B σ G H S _ fun v G' H' x1 x2 nw i => ?_
  obtain ⟨a, xs, rfl, e2, e3⟩ := i
  refine ⟨.inl ⟨rfl, xs, .inl (.inl (x2 _ _ e2))⟩, ?_⟩
  refine ⟨a, xs, .non, rfl, rfl, x2 _ _ e2, by rw [e3.length]; exact Nat.lt_trans hz (by decide), ?_⟩
  have fr := nw a xs e2
  have gr : Grow G H G (L2.upd H' a (.lst (xs ++ [.non]))) := ⟨Ex.refl _, fun b o hb => by
    have q : b ≠ a := by rintro rfl; rw [fr] at hb; cases hb
    rw [upd_ne q]; exact x1 b o hb, fun b o hb => by
    have hb := S.ex b o hb
    have q : b ≠ a := by rintro rfl; rw [fr] at hb; cases hb
    rw [upd_ne q]; exact x1 b o hb, fun b o hb => .inl hb⟩
  exact L.nx σ ρ G _ q (S.grow gr) (Ex.refl G)
end
end DD

namespace DD
open PySem PySem.Spec PyProof.Rows L2
section
variable {X : Cx} {ρ : Rho} {E : DE} {pos : Pos}
theorem Sta.ununset {B : Base} {σ : L2.St} {G H : Hp} (S : Sta B σ ρ G H) {i : Nat} {v : Option V} : Sta B (σ.set i v) (ρ.set i .un) G H := S.un
theorem set_un_idem (i : Nat) : (ρ.set i .un).set i .un = ρ.set i .un := List.set_set ..
/-- for x in new(..): x.append(None) -/
theorem s_forNew {i : Nat} {x : Str} {px q1 p2 p3 q4 cp : Pos} {iter : Expr} {ls : List (List D)} {j} {N ps : List Str} {sc : Scope} (S0 : FnScope N ps sc) (h : WFr X iter ρ (.lst (ls.map D.lst))) (hz : ∀ l ∈ ls, l.length < 1000 ∧ ∃ n r, l = .int n :: r) (q : E.nx (ρ.set i .un))
    (q0 : E.nx ρ) (hlρ : i < ρ.length) (hmany : ls.length < 100000)
    (hp : PassesOwn (model X.prog X.w) X.A X.env X.xe := by exact PassesOwn.never) (hXN : X.N = N := by rfl) (hi : X.N[i]? = some x := by rfl) (hx : Loc X.env.scope x := by first | exact .inl rfl | exact .inr rfl) (hf : X.fn x = true ∨ X.env.scope.names.lookup x = some .local := by first | exact .inl rfl | exact .inr rfl)
    (hv : Vis X.env.scope x := by first | exact .inl rfl | exact .inr (.inl rfl) | exact .inr (.inr rfl)) (hd : (x == ("__debug__" : Str)) = false := by decide) (hcd : (x == ("__classdict__" : Str)) = false := by decide)
    (hc : X.calm = true := by rfl) (hsI : ∀ x, foldedSetIterable iter X.env x = pure x := by intro _; rfl)
    (hbase : attributeBase (.Name x q1) "append" X.env (eval (.Name x q1) X.env) = eval (.Name x q1) X.env := by rfl)
    (hfew : ((backTo p3 (starEach [.Constant .none j cp] X.env)).all (fun x => !x.1) && (backToKw p3 (keywordEach [] X.env)).all (fun x => x.1.isSome)
      && decide (([.Constant .none j cp] : List Expr).length + ([] : List Keyword).length + (if ([] : List Keyword).isEmpty then 0 else 1) < 30)) = true := by rfl)
    (hline : (p2.endLine == p3.line) = true := by rfl) (hst : starEach [.Constant .none j cp] X.env = (false, eval (.Constant .none j cp) X.env) :: starEach [] X.env := by rfl) (hplain : (backTo p3 (starEach [] X.env)).any (·.1) = false := by rfl)
    (hs : swapsWith (.Call (.Attribute (.Name x q1) "append" p2) [.Constant .none j cp] [] p3) none q4.line X.env = pure false := by rfl) :
    WS X (.For (.Name x px) iter [.Expr (.Call (.Attribute (.Name x q1) "append" p2) [.Constant .none j cp] [] p3) q4] [] pos) ρ E := fun B σ G H F S L => by
  refine wS_of (ps_for hp hc (pi_list pe_w) (pg_name (hXN ▸ S0.nd) hi hx hf) (pss_one (ps_expr (pe_bm PySem.F.plainAttrs_list PySem.F.slot_list_append PySem.F.type_list_append mt_append (pe_var hi hv hd hcd) (pa_cons pe_non pa_nil hst) hbase hfew hline hst hplain) hs)) hsI) ?_
  refine h B σ G H S _ fun v G' H' x1 x2 nw iv => ?_
  obtain ⟨a, xs, rfl, e2, e3⟩ := iv
  have ga : G a = none := by
    cases r : G a with
    | none => rfl
    | some u => have := S.ex a u r; rw [nw a xs e2] at this; cases this
  refine ⟨a, rfl, ⟨xs, .inl (.inl (x2 _ _ e2))⟩, ?_⟩
  have hlen : xs.length = ls.length := by rw [e3.length, List.length_map]
  -- each item is a new list that begins with a whole number
  have item : ∀ (n : Nat) (y : V), xs[n]? = some y → ∃ b ys z r, y = .ref b ∧ H b = none ∧ b ≠ a ∧ H' b = some (.lst ys) ∧ ys = V.int z :: r ∧ ys.length < 1000 := fun n y hy => by
    obtain ⟨d, hd, iy⟩ := e3.at hy
    rw [List.getElem?_map] at hd
    cases hl : ls[n]? with
    | none => rw [hl] at hd; cases hd
    | some l =>
      rw [hl] at hd
      cases hd
      obtain ⟨h1, z, r, rfl⟩ := hz l (List.mem_of_getElem? hl)
      obtain ⟨b, ys, rfl, f2, f3⟩ := iy
      have hlen := f3.length
      obtain ⟨w, r2, rfl, g1, g2⟩ := f3
      cases (g1 : w = .int z)
      refine ⟨b, _, z, r2, rfl, nw b _ f2, fun hab => ?_, x2 _ _ f2, rfl, by omega⟩
      subst hab
      rw [e2] at f2
      cases f2
      obtain ⟨d, hd, iy⟩ := e3.at (i := 0) (x := V.int z) rfl
      rw [List.getElem?_map] at hd
      cases hl : ls[0]? with
      | none => rw [hl] at hd; cases hd
      | some l =>
        rw [hl] at hd
        cases hd
        obtain ⟨_, _, e, _⟩ := iy
        cases e
  -- what stays: all that stood ahead, the list at a, lists that begin with whole numbers
  have gr0 : Grow G H G H' := ⟨Ex.refl _, x1, S.ex.trans x1, fun b o hb => .inl hb⟩
  have si : i < σ.length := by
    have := (List.getElem?_eq_some_iff.mp hi).1
    rw [S.len]; exact hlρ
  refine for_it (n := xs.length) walk_list (fun t σ' Hc => (Ex H Hc ∧ Hc a = some (.lst xs) ∧ ∀ (n : Nat) (b : Addr), xs[n]? = some (.ref b) → ∃ ys z r, Hc b = some (.lst ys) ∧ ys = V.int z :: r ∧ ys.length < 1000 + t) ∧ (∀ m, m ≠ i → σ'[m]? = σ[m]?) ∧ ∃ ρ', (ρ' = ρ ∨ ρ' = ρ.set i .un) ∧ Sta B σ' ρ' G Hc)
    ⟨⟨x1, x2 _ _ e2, fun n b hb => ?_⟩, fun _ _ => rfl, ρ, .inl rfl, S.grow gr0⟩ (fun t σ' Hc _ h => .inl (.inl h.1.2.1)) (fun t y σ' Hc H'' ht hI ya => ?_) (fun σ' Hc hI => ?_)
  · obtain ⟨b', ys, z, r, e, _, _, f, g, k⟩ := item n _ hb
    cases e
    exact ⟨ys, z, r, f, g, by omega⟩
  · obtain ⟨⟨y1, y2, y3⟩, hσ, ρ', hρ, S'⟩ := hI
    obtain ⟨rfl, hy⟩ := ya
    obtain ⟨b, ys0, z0, r0, rfl, hb0, hba, _, _, _⟩ := item t y hy
    obtain ⟨ys, z, r, f, rfl, k⟩ := y3 t b hy
    have hl' : σ'.length = σ.length := by
      rw [S'.len, S.len]
      rcases hρ with rfl | rfl
      · rfl
      · rw [List.length_set]
    refine ⟨.ref b, List.getElem?_set_self (by omega), ?_⟩
    refine ⟨.inl ⟨rfl, _, .inl (.inl f)⟩, ?_⟩
    refine ⟨b, _, .non, rfl, rfl, f, Nat.lt_trans (m := 101000) (by omega) (by decide), ?_⟩
    have gb : G b = none := by
      cases r : G b with
      | none => rfl
      | some u => have := S.ex b u r; rw [hb0] at this; cases this
    have nb : ∀ c o, H c = some o → c ≠ b := fun c o hc => by rintro rfl; rw [hb0] at hc; cases hc
    refine ⟨⟨fun c o hc => ?_, ?_, fun n c hc => ?_⟩, fun m hm => by rw [List.getElem?_set_ne (Ne.symm hm)]; exact hσ m hm, ρ.set i .un, .inr rfl, ?_⟩
    · rw [upd_ne (nb c o hc)]; exact y1 c o hc
    · rw [upd_ne (Ne.symm hba)]; exact y2
    · by_cases q : c = b
      · subst q
        refine ⟨_, z, r ++ [.non], upd_same, rfl, ?_⟩
        rw [List.length_append]
        show _ + 1 < _
        omega
      · obtain ⟨us, z', r', f', e', k'⟩ := y3 n c hc
        exact ⟨us, z', r', by rw [upd_ne q]; exact f', e', by omega⟩
    · have Su : Sta B (σ'.set i (some (.ref b))) (ρ.set i .un) G H'' := by
        rcases hρ with rfl | rfl
        · exact S'.un
        · have := S'.un (i := i) (v := some (.ref b))
          rw [List.set_set] at this
          exact this
      have bb : B.H b = none := S.kn b hb0
      refine ⟨Su.len, fun c o hc => ?_, fun c o hc hw => ?_, fun c hc => ?_, Su.nw, Su.bg, Su.bx, fun l hl => ?_, fun m s w h1 h2 => ?_, Su.dist⟩
      · have q : c ≠ b := by rintro rfl; rw [gb] at hc; cases hc
        rw [upd_ne q]; exact Su.ex c o hc
      · have q : c ≠ b := by rintro rfl; rw [bb] at hc; cases hc
        rw [upd_ne q]; exact Su.fr c o hc hw
      · have q : c ≠ b := by rintro rfl; rw [upd_same] at hc; cases hc
        rw [upd_ne q] at hc; exact Su.kn c hc
      · obtain ⟨⟨u, w, e, r⟩, k, hk⟩ := Su.pot l hl
        have q : l ≠ b := by rintro rfl; rw [bb] at hk; cases hk
        exact ⟨⟨u, w, by rw [upd_ne q]; exact e, r⟩, k, hk⟩
      · have k := Su.env m s w h1 h2
        cases s with
        | un => trivial
        | val d => exact k
        | own lc o =>
          obtain ⟨l, e, f1, f2, f3⟩ := k
          -- an own thing stood ahead
          have q : l ≠ b := by
            rintro rfl
            have hm : m ≠ i := fun z => by
              subst z
              rw [List.getElem?_set] at h1
              simp only [if_true] at h1
              split at h1 <;> cases h1
            rw [List.getElem?_set_ne (Ne.symm hm)] at h1 h2
            rw [hσ m hm] at h2
            obtain ⟨l', e', _, _, ok⟩ := S.ownAt h1
            rw [e'] at h2
            cases h2
            cases e
            obtain ⟨u, hu⟩ := ok.known
            rw [hb0] at hu; cases hu
          exact ⟨l, e, f1, f2, f3.mono (Ex.refl G) fun o z => by rw [upd_ne q]; exact z⟩
  · obtain ⟨_, _, ρ', hρ, S'⟩ := hI
    rcases hρ with rfl | rfl
    · exact L.nx σ' _ G Hc q0 S' (Ex.refl G)
    · exact L.nx σ' _ G Hc q S' (Ex.refl G)
end
end DD

namespace DD
open PySem PySem.Spec PyProof.Rows L2
section
variable {X : Cx} {ρ : Rho} {E : DE} {pos : Pos}
/-- a value at a place that was free -/
def Fh (H : Hp) (v : V) : Prop := ∃ a, v = .ref a ∧ H a = none
theorem Fh.back {H H' : Hp} {v : V} (e : Ex H H') (h : Fh H' v) : Fh H v := by
  obtain ⟨a, rfl, ha⟩ := h
  refine ⟨a, rfl, ?_⟩
  cases r : H a with
  | none => rfl
  | some u => rw [e a u r] at ha; cases ha
/-- between two turns: all that was made is new -/
def LcN (G1 H1 : Hp) (D : Addr) (outs : List DD.D) (Hc : Hp) : Prop := H1 D = none ∧ ∃ Gi acc, Hc D = some (.lst acc) ∧ Gi D = none ∧ Grow G1 H1 Gi Hc ∧ IsA Gi outs acc ∧ ∀ v ∈ acc, Fh H1 v
/-- e hands back a new thing -/
def WNew (X : Cx) (e : Expr) (ρ : Rho) (d : D) : Prop := ∀ (B : Base) (σ : L2.St) (G H : Hp), Sta B σ ρ G H → ∀ R : VK,
  (∀ v G' H', Grow G H G' H' → Is G' d v → Fh H v → R v H') → wE X e σ H R
/-- e hands back a list of new things, pure -/
def WNl (X : Cx) (e : Expr) (ρ : Rho) (Q : List D → Prop) : Prop := ∀ (B : Base) (σ : L2.St) (G H : Hp), Sta B σ ρ G H → ∀ R : VK,
  (∀ a xs ds G' H', Q ds → Grow G H G' H' → G' a = some (.lst xs) → IsA G' ds xs → (∀ v ∈ xs, Fh H v) → R (.ref a) H') → wE X e σ H R
theorem x_lcN {elt tg iter : Expr} {scope : Scope} {own : List (Str × Nat)} {T : Tg} {Q : List D → Prop} (f : DD.D → DD.D) (hT : ∀ i ∈ T.slots, i ∈ own.map (·.2))
    (h : WI true X tg iter ρ fun ds ρ1 => ds.length ≤ 40000 ∧ (∀ d ∈ ds, ∃ ρi, T.eff d (wipeR ρ1 (own.map (·.2))) = some ρi ∧ ∀ s H C cl fp, WNew (Blk X scope s H C cl fp) elt ρi (f d)) ∧ Q (ds.map f)) :
    ∀ (B : Base) (σ : L2.St) (G H : Hp), Sta B σ ρ G H → ∀ R : VK,
      (∀ a xs ds G' H', Q ds → Grow G H G' H' → G' a = some (.lst xs) → IsA G' ds xs → (∀ v ∈ xs, Fh H v) → R (.ref a) H') → tLc (wI X tg iter) (T.g X.K) tYes (cE X scope elt) (own.map (·.2)) σ H R := fun B σ G H S R r => by
  refine h B σ G H S _ fun J ds ρ1 G1 H1 q S1 x pu wk D hD => ?_
  obtain ⟨hl, turn, q⟩ := q
  obtain ⟨rfl, g0⟩ := pu rfl
  refine lc_it wk (fun i Hc => LcN G1 H1 D ((ds.take i).map f) Hc) ?_ (fun i Hc _ h => ?_) (fun i x Hc H' hi h y => ?_) (fun Hc h => ?_)
  · refine ⟨hD, G1, [], upd_same, ?_, Grow.own S1.ex hD, rfl, fun v hv => absurd hv (by simp)⟩
    cases r : G1 D with
    | none => rfl
    | some u => rw [S1.ex D u r] at hD; cases hD
  · obtain ⟨_, Gi, acc, _, _, gr, _⟩ := h
    exact gr.g.trans gr.x
  · obtain ⟨_, Gi, acc, hacc, gD, gr, ia, nw⟩ := h
    have hget : ds[i]? = some ds[i] := List.getElem?_eq_getElem hi
    obtain ⟨G2, gr2, ix⟩ := y _ hget Gi gr.g gr.x
    obtain ⟨ρi, he, hel⟩ := turn ds[i] (List.getElem_mem hi)
    have g2D := g_none gr2 gD hacc
    have grA := gr.trans gr2
    refine Tg.run he ((S1.grow grA).wipe (own.map (·.2))) ix (fun σ' S' hwp => ?_) (fun τ us j o hj => wipe_set τ us j o hj)
    refine ⟨(hwp _ hT).trans (wipe_idem _ _), ?_⟩
    have etake : ds.take (i + 1) = ds.take i ++ [ds[i]] := by rw [List.take_add_one, hget]; rfl
    show cE X scope elt σ' H' _
    intro s H0 C cl fp
    refine hel s H0 C cl fp B σ' G2 H' S' _ fun v G4 H4 gr4 iv fv => ?_
    have hacc2 := gr2.h _ _ hacc
    have h4 : H4 D = some (.lst acc) := gr4.h _ _ hacc2
    have g4D := g_none gr4 g2D hacc2
    have hsz : acc.length < sizeLine := by
      rw [ia.length, List.length_map, List.length_take]
      exact Nat.lt_of_le_of_lt (m := 40000) (by omega) (by decide)
    refine ⟨acc, h4, hsz, ?_⟩
    have grT := grA.trans gr4
    refine ⟨hD, G4, acc ++ [v], upd_same, g4D, ⟨grT.g, fun a o e => ?_, fun a o e => ?_, grT.n⟩, ?_, fun u hu => ?_⟩
    · have q : a ≠ D := by rintro rfl; rw [hD] at e; cases e
      rw [upd_ne q]; exact grT.h a o e
    · have q : a ≠ D := by rintro rfl; rw [g4D] at e; cases e
      rw [upd_ne q]; exact grT.x a o e
    · rw [etake, List.map_append]
      exact IsA.snoc (IsA.mono (gr2.g.trans gr4.g) _ _ ia) iv
    · rcases List.mem_append.mp hu with hu | hu
      · exact nw u hu
      · have : u = v := by simpa using hu
        subst this
        exact fv.back grA.h
  · obtain ⟨_, Gi, acc, hacc, gD, gr, ia, nw⟩ := h
    rw [List.take_length] at ia
    have ex := Ex.new (o := HO.lst acc) gD
    refine r D acc _ (L2.upd Gi D (.lst acc)) Hc q (g0.trans ⟨gr.g.trans ex, gr.h, fun a o e => ?_, fun a o e => ?_⟩) upd_same (IsA.mono ex _ _ ia) fun v hv => (nw v hv).back g0.h
    · by_cases q : a = D
      · subst q; rw [upd_same] at e; rw [hacc]; exact e
      · rw [upd_ne q] at e; exact gr.x a o e
    · by_cases q : a = D
      · subst q; exact .inr hD
      · rw [upd_ne q] at e; exact gr.n a o e
/-- list(x) is new -/
theorem wnew_list {i : Nat} {x : Str} {px pp : Pos} {ds : List D} (hm : X.mg "list" = none) (hN : X.N[i]? = some x) (hr : ρ[i]? = some (.val (.lst ds))) (hv : Vis X.env.scope x) (hd : (x == ("__debug__" : Str)) = false := by decide) (hcd : (x == ("__classdict__" : Str)) = false := by decide)
    (hg : Gl X "list" := by rfl) (he : starEach [.Name x px] X.env = (false, eval (.Name x px) X.env) :: starEach [] X.env := by rfl) (hpl : (backTo pos (starEach [] X.env)).any (·.1) = false := by rfl) : WNew X (.Call (.Name "list" pp) [.Name x px] [] pos) ρ (.lst ds) := fun B σ G H S R r => by
  refine wE_of (pe_callTy call_any hg hm (T := "list") (by decide +kernel) (pa_cons (pe_var hN hv hd hcd) pa_nil he) (by decide) (by decide) he hpl) ?_
  obtain ⟨v, e1, iv⟩ := S.valAt hr
  obtain ⟨a, xs, rfl, e2, e3⟩ := iv
  refine ⟨_, e1, ⟨_, call_list_of, a, xs, rfl, .inl (.inl (.inl (S.ex _ _ e2))), fun p hp => ?_⟩⟩
  have gr := Grow.new (o := .lst xs) S.ex hp
  exact r _ _ _ gr ⟨p, xs, rfl, upd_same, IsA.mono gr.g _ _ e3⟩ ⟨p, rfl, hp⟩
end
end DD

namespace DD
open PySem PySem.Spec PyProof.Rows L2
section
variable {X : Cx} {ρ : Rho} {E : DE} {pos : Pos}
/-- a state whose slot i is forgotten, one place fewer in the ghost, another thing at that place: i held what was new behind H0 -/
theorem Sta.thaw {B : Base} {σ σ2 : L2.St} {G H0 G2 H2 : Hp} {i j : Nat} {a : Addr} {o : HO} {d1 d2 : D} (S : Sta B σ ρ G H0) (S2 : Sta B σ2 ((ρ.set i (.val d1)).set j (.val d2)) G2 H2) (hg : Ex G G2) (hH : Ex H0 H2) (hσ : ∀ m, m ≠ i → m ≠ j → σ2[m]? = σ[m]?)
    (ha : H0 a = none) (hL : ∃ xs, G2 a = some (.lst xs)) (hn : noL d2 = true) (hij : i ≠ j) (hiρ : i < ρ.length) : Sta B σ2 ((ρ.set i .un).set j (.val d2)) (del a G2) (L2.upd H2 a o) := by
  have Ga : G a = none := by
    cases r : G a with
    | none => rfl
    | some u => have := S.ex a u r; rw [ha] at this; cases this
  have Ba : B.H a = none := S.kn a ha
  have BGa : B.G a = none := by
    cases r : B.G a with
    | none => rfl
    | some u => have := S.bx a u r; rw [Ba] at this; cases this
  have gx : Ex G (del a G2) := fun c u hc => by
    have q : c ≠ a := by rintro rfl; rw [Ga] at hc; cases hc
    rw [del_ne q]; exact hg c u hc
  have hρ : ∀ m s, m ≠ i → m ≠ j → ((ρ.set i .un).set j (.val d2))[m]? = some s → ρ[m]? = some s ∧ ((ρ.set i (.val d1)).set j (.val d2))[m]? = some s := fun m s h1 h2 h3 => by
    rw [List.getElem?_set_ne (Ne.symm h2), List.getElem?_set_ne (Ne.symm h1)] at h3
    refine ⟨h3, ?_⟩
    rw [List.getElem?_set_ne (Ne.symm h2), List.getElem?_set_ne (Ne.symm h1)]
    exact h3
  refine ⟨?_, fun c u hc => ?_, fun c u hc hw => ?_, fun c hc => ?_, fun c u hc => S2.nw c u (del_ex c u hc), fun c u hc => ?_, S2.bx, fun l hl => ?_, fun m s w h1 h2 => ?_, fun m k l1 l2 o1 o2 mk h1 h2 => ?_⟩
  · rw [S2.len, List.length_set, List.length_set, List.length_set, List.length_set]
  · have q : c ≠ a := by rintro rfl; rw [del_same] at hc; cases hc
    rw [upd_ne q]; exact S2.ex c u (del_ex c u hc)
  · have q : c ≠ a := by rintro rfl; rw [Ba] at hc; cases hc
    rw [upd_ne q]; exact S2.fr c u hc hw
  · have q : c ≠ a := by rintro rfl; rw [upd_same] at hc; cases hc
    rw [upd_ne q] at hc; exact S2.kn c hc
  · have q : c ≠ a := by rintro rfl; rw [BGa] at hc; cases hc
    rw [del_ne q]; exact S2.bg c u hc
  · obtain ⟨⟨u, w, e, r⟩, k, hk⟩ := S2.pot l hl
    have q : l ≠ a := by rintro rfl; rw [Ba] at hk; cases hk
    exact ⟨⟨u, w, by rw [upd_ne q]; exact e, r⟩, k, hk⟩
  · by_cases mj : m = j
    · subst mj
      rw [List.getElem?_set] at h1
      simp only [if_true] at h1
      split at h1
      · rename_i hl
        cases h1
        have k : SlotOk B G2 H2 (.val d2) w := S2.env m _ w (by rw [List.getElem?_set_self (by simpa using hl)]) h2
        obtain ⟨x, e, iv⟩ := k
        refine ⟨x, e, Is.keepNL (fun c u hc nl => ?_) _ _ hn iv⟩
        have q : c ≠ a := by
          rintro rfl
          obtain ⟨xs, hx⟩ := hL
          rw [hx] at hc
          cases hc
          exact absurd rfl (nl xs)
        rw [del_ne q]; exact hc
      · cases h1
    · by_cases mi : m = i
      · subst mi
        rw [List.getElem?_set_ne (Ne.symm mj), List.getElem?_set_self hiρ] at h1
        cases h1
        trivial
      · obtain ⟨r1, r2⟩ := hρ m s mi mj h1
        have k2 := S2.env m s w r2 h2
        rw [hσ m mi mj] at h2
        have k := S.env m s w r1 h2
        cases s with
        | un => trivial
        | val d =>
          obtain ⟨x, e, iv⟩ := k
          exact ⟨x, e, Is.mono gx _ _ iv⟩
        | own lc ow =>
          obtain ⟨l, e, f1, f2, f3⟩ := k2
          have q : l ≠ a := by
            rintro rfl
            obtain ⟨l', e', _, _, ok⟩ := k
            rw [e] at e'
            cases e'
            obtain ⟨u, hu⟩ := ok.known
            rw [ha] at hu; cases hu
          refine ⟨l, e, by rw [del_ne q]; exact f1, f2, ?_⟩
          obtain ⟨l', e', _, _, ok⟩ := k
          rw [e] at e'
          cases e'
          exact ok.mono gx fun u z => by rw [upd_ne q]; exact hH _ _ z
  · have c1 : ∃ la oa, ((ρ.set i (.val d1)).set j (.val d2))[m]? = some (.own la oa) := by
      by_cases mj : m = j
      · subst mj
        rw [List.getElem?_set] at h1
        simp only [if_true] at h1
        split at h1 <;> cases h1
      · by_cases mi : m = i
        · subst mi
          rw [List.getElem?_set_ne (Ne.symm mj), List.getElem?_set_self hiρ] at h1
          cases h1
        · exact ⟨_, _, (hρ m _ mi mj h1).2⟩
    have c2 : ∃ la oa, ((ρ.set i (.val d1)).set j (.val d2))[k]? = some (.own la oa) := by
      by_cases mj : k = j
      · subst mj
        rw [List.getElem?_set] at h2
        simp only [if_true] at h2
        split at h2 <;> cases h2
      · by_cases mi : k = i
        · subst mi
          rw [List.getElem?_set_ne (Ne.symm mj), List.getElem?_set_self hiρ] at h2
          cases h2
        · exact ⟨_, _, (hρ k _ mi mj h2).2⟩
    obtain ⟨_, _, c1⟩ := c1
    obtain ⟨_, _, c2⟩ := c2
    exact S2.dist m k _ _ _ _ mk c1 c2
/-- x = [new things]; y = e2; x[0].append(None): behind it y's data stand as they were -/
theorem ss_tmp {t : TE} {i j : Nat} {x y : Str} {py q1 q2 q3 q4 cp zp p2 p3 : Pos} {e2 : Expr} {rest : List Stmt} {st1 : Stmt} {jj kk} {d2 : D} {N ps : List Str} {sc : Scope} {Q : List D → Prop} (S0 : FnScope N ps sc) (hij : i ≠ j) (hiρ : i < ρ.length)
    (ps1 : PS X st1 (tAsg t (gName i)))
    (h1 : ∀ (B : Base) (σ : L2.St) (G H : Hp), Sta B σ ρ G H → ∀ R : VK, (∀ a xs ds G' H', Q ds → Grow G H G' H' → G' a = some (.lst xs) → IsA G' ds xs → (∀ v ∈ xs, Fh H v) → R (.ref a) H') → t σ H R)
    (hQ : ∀ ds, Q ds → ∃ d0 r, ds = .lst d0 :: r ∧ d0.length < 1000000)
    (h2 : ∀ ds, Q ds → W true true X e2 (ρ.set i (.val (.lst ds))) fun u _ => u = d2) (hn : noL d2 = true) (h3 : WSs X rest ((ρ.set i .un).set j (.val d2)) E)
    (hXN : X.N = N := by rfl) (hi : X.N[i]? = some x := by rfl) (hj : X.N[j]? = some y := by rfl) (hx : Loc X.env.scope y := by first | exact .inl rfl | exact .inr rfl) (hf : X.fn y = true ∨ X.env.scope.names.lookup y = some .local := by first | exact .inl rfl | exact .inr rfl)
    (hv : Vis X.env.scope x := by first | exact .inl rfl | exact .inr (.inl rfl) | exact .inr (.inr rfl)) (hd : (x == ("__debug__" : Str)) = false := by decide) (hcd : (x == ("__classdict__" : Str)) = false := by decide)
    (hs2 : swapsWith e2 (some (.Name y py)) p2.line X.env = pure false := by rfl)
    (hpl : PlainIx (.Constant (.int 0) kk zp) := by exact fun _ _ => rfl)
    (hbase : attributeBase (.Subscript (.Name x q1) (.Constant (.int 0) kk zp) q4) "append" X.env (eval (.Subscript (.Name x q1) (.Constant (.int 0) kk zp) q4) X.env) = eval (.Subscript (.Name x q1) (.Constant (.int 0) kk zp) q4) X.env := by rfl)
    (hfew : ((backTo q3 (starEach [.Constant .none jj cp] X.env)).all (fun x => !x.1) && (backToKw q3 (keywordEach [] X.env)).all (fun x => x.1.isSome)
      && decide (([.Constant .none jj cp] : List Expr).length + ([] : List Keyword).length + (if ([] : List Keyword).isEmpty then 0 else 1) < 30)) = true := by rfl)
    (hline : (q2.endLine == q3.line) = true := by rfl) (hst : starEach [.Constant .none jj cp] X.env = (false, eval (.Constant .none jj cp) X.env) :: starEach [] X.env := by rfl) (hplain : (backTo q3 (starEach [] X.env)).any (·.1) = false := by rfl)
    (hs : swapsWith (.Call (.Attribute (.Subscript (.Name x q1) (.Constant (.int 0) kk zp) q4) "append" q2) [.Constant .none jj cp] [] q3) none p3.line X.env = pure false := by rfl) :
    WSs X (st1 :: .Assign [.Name y py] e2 p2 :: .Expr (.Call (.Attribute (.Subscript (.Name x q1) (.Constant (.int 0) kk zp) q4) "append" q2) [.Constant .none jj cp] [] q3) p3 :: rest) ρ E := fun B σ G H F S L => by
  refine wSs_of (pss_cons ps1 (pss_cons (ps_set (hXN ▸ S0.nd) hj hx pe_w hs2 hf) (pss_cons (ps_expr (pe_bm PySem.F.plainAttrs_list PySem.F.slot_list_append PySem.F.type_list_append mt_append (pe_ix ix_list (pe_var hi hv hd hcd) pe_int hpl) (pa_cons pe_non pa_nil hst) hbase hfew hline hst hplain) hs) pss_w))) ?_
  refine h1 B σ G H S _ fun a xs ds G1 H1 q gr e1 i1 fr => ?_
  obtain ⟨d0, r0, rfl, hl0⟩ := hQ ds q
  have S1 : Sta B (σ.set i (some (.ref a))) (ρ.set i (.val (.lst (.lst d0 :: r0)))) G1 H1 := (S.grow gr).set ⟨a, xs, rfl, e1, i1⟩
  refine h2 _ q B _ G1 H1 S1 _ fun v d ρ' G2 H2 hd S2 x2 pu iv => ?_
  obtain ⟨rfl, gr2⟩ := pu rfl
  subst hd
  have iv : Is G2 d v := iv
  have S3 := S2.set (i := j) iv
  have hiσ : i < σ.length := by rw [S.len]; exact hiρ
  refine ⟨.ref a, by rw [List.getElem?_set_ne (Ne.symm hij)]; exact List.getElem?_set_self hiσ, ?_⟩
  obtain ⟨y0, ys, rfl, b0, i2⟩ := i1
  obtain ⟨b, zs, rfl, f1, f2⟩ := b0
  obtain ⟨b', e', hb0⟩ := fr (.ref b) List.mem_cons_self
  cases e'
  have g2a := gr2.g _ _ e1
  have g2b := gr2.g _ _ f1
  refine ⟨a, _, 0, .ref b, rfl, rfl, .inl (.inl (S2.ex _ _ g2a)), by unfold atI ixN; simp, ?_⟩
  refine ⟨.inl ⟨rfl, zs, .inl (.inl (S2.ex _ _ g2b))⟩, ?_⟩
  refine ⟨b, zs, .non, rfl, rfl, S2.ex _ _ g2b, by rw [f2.length]; exact Nat.lt_trans hl0 (by decide), ?_⟩
  have S4 := Sta.thaw (o := .lst (zs ++ [.non])) S S3 (gr.g.trans gr2.g) (gr.h.trans gr2.h) (fun m m1 m2 => by rw [List.getElem?_set_ne (Ne.symm m2), List.getElem?_set_ne (Ne.symm m1)]) hb0 ⟨zs, g2b⟩ hn hij hiρ
  have ex4 : Ex G (del b G2) := fun c u hc => by
    have q : c ≠ b := by
      rintro rfl
      have := S.ex c u hc
      rw [hb0] at this; cases this
    rw [del_ne q]; exact gr2.g c u (gr.g c u hc)
  exact h3 B _ _ _ F S4 (L.mono ex4)
end
end DD

namespace DD
open PySem PySem.Spec PyProof.Rows L2
/-! ### zip of a tuple and a list -/
def ItTL (K : PySem.W.Frag) (a b : Addr) : It where
  go := fun i H => ∃ (xs ys : List V) (x y : V), (SqT K H a xs ∧ SqL K H b ys) ∧ xs[i]? = some x ∧ ys[i]? = some y
  yld := fun i H v H' => ∃ T x y, v = .ref T ∧ H T = none ∧ H' = upd H T (.tup [x, y]) ∧ (∀ l, SqT K H a l → l[i]? = some x) ∧ ∀ l, SqL K H b l → l[i]? = some y
  stop := fun i H => ∃ xs ys : List V, (SqT K H a xs ∧ SqL K H b ys) ∧ i = min xs.length ys.length
structure TLSt (z TI TO i1 i2 a b : Addr) (i : Nat) (h : Heap) : Prop where
  z : IsZip h z TI TO .none
  p : IsTupOf2 h TI (.ref i1) (.ref i2)
  o : ∃ u v, IsTupOf2 h TO u v
  t : h.IsTupleIter i1 a i
  l : h.IsListIter i2 b i
theorem turn_TL {P : Program} {w : World} {K : PySem.W.Frag} {elts : List Expr} {kk : Nat} {tpos : Pos} {a b z TI TO i1 i2 : Addr} (D : ZipSep2 z TI TO i1 i2 [i1, a] [i2, b]) (ha : a ≠ i1) (hb : b ≠ i2) :
    Turn P w K (.Tuple elts kk tpos) (ItTL K a b) [z, TI, TO, i1, i2] z (TLSt z TI TO i1 i2 a b) where
  mem := by simp
  obj := fun i h st c hc => by
    obtain ⟨o1, e1, _, d1⟩ := st.t
    obtain ⟨o2, e2, _, d2⟩ := st.l
    obtain ⟨u, v, e3⟩ := st.o
    rcases (show c = z ∨ c = TI ∨ c = TO ∨ c = i1 ∨ c = i2 by simpa using hc) with rfl | rfl | rfl | rfl | rfl
    · exact ⟨_, st.z, fun _ q => by cases q⟩
    · exact ⟨_, st.p, fun _ q => by cases q⟩
    · exact ⟨_, e3, fun _ q => by cases q⟩
    · exact ⟨_, e1, fun _ q => by rw [d1] at q; cases q⟩
    · exact ⟨_, e2, fun _ q => by rw [d2] at q; cases q⟩
  keep := fun i h h' st k => by
    obtain ⟨u, v, e3⟩ := st.o
    exact ⟨k z (by simp) _ st.z, k TI (by simp) _ st.p, ⟨u, v, k TO (by simp) _ e3⟩, st.t.at fun o => k i1 (by simp) o, st.l.at fun o => k i2 (by simp) o⟩
  item := by
    intro X hP hw hK hc i pins s σ H E I hf st hg
    subst hP hw hK
    obtain ⟨xs, ys, x, y, ⟨qa, qb⟩, hx, hy⟩ := hg
    obtain ⟨ia, ra, pa, _⟩ := I.tuple qa
    obtain ⟨ib, rb, pb, _⟩ := I.list qb
    have pa : s.heap.IsTuple a ia.toArray := pa
    obtain ⟨va, ga, wa⟩ := ra.get hx
    obtain ⟨vb, gb, wb⟩ := rb.get hy
    have la : i < ia.toArray.size := by have := (List.getElem?_eq_some_iff.mp ga).1; simpa using this
    have lb : i < ib.toArray.size := by have := (List.getElem?_eq_some_iff.mp gb).1; simpa using this
    have lz : z < s.heap.objs.size := Heap.lt_size st.z
    obtain ⟨u0, v0, eO⟩ := st.o
    refine wpAny_pyNext_zipD2_item D (Draws.tuple (A := X.A.in1) (I.ok.hd hc) i1 a ha ia.toArray) (Draws.list (A := X.A.in1) (I.ok.hd hc) i2 b hb ib.toArray) st.z st.p eO ⟨st.t, pa⟩ ⟨st.l, pb.isList⟩ la lb fun y1 y2 h1 tk f1 f2 g1 g2 g3 g4 g5 g6 hk => ?_
    have e1 : y1 = va := by
      have q : ia[i]? = some y1 := by simpa using f1
      rw [ga] at q; cases q; rfl
    have e2 : y2 = vb := by
      have q : ib[i]? = some y2 := by simpa using f2
      rw [gb] at q; cases q; rfl
    subst e1; subst e2
    refine ⟨_, rfl, wpAny_letOwnedTupleGo_zip (s := { s with heap := h1, toks := tk }) g1 fun h2 z2 sb => ?_⟩
    have hT : h2.get? s.heap.objs.size = some { cls := .type "tuple", data := .seq #[y1, y2] } := (sb.2 _ (Nat.ne_of_gt lz)).trans g5
    have new : ObjOk X.prog X.w (upd H s.heap.objs.size (.tup [x, y])) h2 s.heap.objs.size (.tup [x, y]) := ⟨by show 2 ≤ sizeLine; decide, [y1, y2], .cons wa (.cons wb .nil), ⟨_, hT, rfl, _, rfl⟩⟩
    have I2 : Inv X pins σ (upd H s.heap.objs.size (.tup [x, y])) { s with heap := h2, toks := tk } := I.turnedNew (ch := [z, TI, TO, i1, i2]) (fun c ob hm q => by
      have n : c ≠ z ∧ c ≠ TI ∧ c ≠ TO ∧ c ≠ i1 ∧ c ≠ i2 := by simpa using hm
      exact (sb.2 c n.1).trans (hk c ob n.1 n.2.2.1 n.2.2.2.1 n.2.2.2.2 q)) hf (Nat.le_refl _) new
    have nz1 : i1 ≠ z := fun e => D.zf1 (e ▸ D.mem1)
    have nz2 : i2 ≠ z := fun e => D.zf2 (e ▸ D.mem2)
    refine ⟨.ref s.heap.objs.size, _, I2, rfl, ⟨_, x, y, rfl, I.hok.fresh (Nat.le_refl _), rfl, fun l hl => ?_, fun l hl => ?_⟩, ⟨z2, (sb.2 _ D.TIz).trans (hk _ _ D.TIz D.TITO D.TIi1 D.TIi2 st.p), ⟨y1, y2, (sb.2 _ D.TOz).trans g2⟩, g3.1.at fun o q => (sb.2 _ nz1).trans q, g4.1.at fun o q => (sb.2 _ nz2).trans q⟩, fun c hm => ?_⟩
    · rw [I.tuple_inj hl qa]; exact hx
    · rw [I.list_inj hl qb]; exact hy
    · have lt : c < s.heap.objs.size := by
        obtain ⟨o1, k1, _⟩ := st.t
        obtain ⟨o2, k2, _⟩ := st.l
        rcases (show c = z ∨ c = TI ∨ c = TO ∨ c = i1 ∨ c = i2 by simpa using hm) with rfl | rfl | rfl | rfl | rfl
        · exact lz
        · exact Heap.lt_size st.p
        · exact Heap.lt_size eO
        · exact Heap.lt_size k1
        · exact Heap.lt_size k2
      rw [upd_ne (Nat.ne_of_lt lt)]
      exact (hf c hm).1
  done := by
    intro X hP hw hK hc i pins s σ H E I hf st hg
    subst hP hw hK
    obtain ⟨xs, ys, ⟨qa, qb⟩, he⟩ := hg
    obtain ⟨ia, ra, pa, _⟩ := I.tuple qa
    obtain ⟨ib, rb, pb, _⟩ := I.list qb
    have pa : s.heap.IsTuple a ia.toArray := pa
    have la := ra.length
    have lb := rb.length
    obtain ⟨u0, v0, eO⟩ := st.o
    have sa : ia.toArray.size = xs.length := by simp [la]
    have sb : ib.toArray.size = ys.length := by simp [lb]
    refine wpAny_pyNext_zipD2_end D (Draws.tuple (A := X.A.in1) (I.ok.hd hc) i1 a ha ia.toArray) (Draws.list (A := X.A.in1) (I.ok.hd hc) i2 b hb ib.toArray) st.z st.p eO ⟨st.t, pa⟩ ⟨st.l, pb.isList⟩ (by omega) (by omega) (by omega) fun h' tk hk => ⟨rfl, I.turnedL (ch := [z, TI, TO, i1, i2]) (fun c ob hm q => ?_) hf⟩
    have n : c ≠ z ∧ c ≠ TI ∧ c ≠ TO ∧ c ≠ i1 ∧ c ≠ i2 := by simpa using hm
    exact hk c ob n.1 n.2.2.1 n.2.2.2.1 n.2.2.2.2 q
  self := fun A i s Q E st h => wpAny_pyIter_zip st.z h
def iTL (K : PySem.W.Frag) (ta : TA) : TI := fun σ H R => ta σ H fun vs H1 => ∃ a b xs ys, vs = [.ref a, .ref b] ∧ SqT K H1 a xs ∧ SqL K H1 b ys ∧ R (ItTL K a b) H1
theorem pi_TL {X : Cx} {e e2 : Expr} {ta : TA} {pp pos tpos : Pos} {elts : List Expr} {kk : Nat} (hg : Gl X "zip") (hm : X.mg "zip" = none) (ha : PA X [e, e2] ta)
    (hs : starEach [e, e2] X.env = (false, eval e X.env) :: starEach [e2] X.env := by rfl) (hpl : (backTo pos (starEach [e2] X.env)).any (·.1) = false := by rfl) : PI X (.Tuple elts kk tpos) (.Call (.Name "zip" pp) [e, e2] [] pos) (iTL X.K ta) := by
  refine ⟨fun pins s σ H R I hyp => ?_⟩
  refine Call_ (ld_blt I hg hm PyProof.Rows.boot_zip (PyProof.Rows.callWith_type1 (thn (ha.run pos pins s σ H _ I hyp) fun us s1 ⟨vs, H1, I1, r1, q1⟩ => ?_) hs hpl))
  obtain ⟨a, b, xs, ys, rfl, qa, qb, q⟩ := q1
  cases r1 with
  | cons ra rr =>
    cases rr with
    | cons rb rr =>
      cases rr; cases ra; cases rb
      obtain ⟨ia, va, pa, _⟩ := I1.tuple qa
      obtain ⟨ib, vb, pb, _⟩ := I1.list qb
      have pa : s1.heap.IsTuple a ia.toArray := pa
      have la : a < s1.heap.objs.size := by obtain ⟨_, k, _⟩ := pa; exact Heap.lt_size k
      have lb : b < s1.heap.objs.size := pb.lt
      refine zip_begins2 (begins_tuple a ia.toArray) (begins_list b ib.toArray) pa pb.isList fun h' g1 g2 g3 g4 g5 g6 hk => wpAny_pyIter_zip g1 ?_
      have I2 : Inv X pins σ H1 { s1 with heap := h' } := I1.kept (t' := s1.toks) hk
      have D := zip_sep2 (N := s1.heap.objs.size) (fp1 := [a]) (fp2 := [b]) (fun c hc => by rw [List.mem_singleton.mp hc]; exact la) (fun c hc => by rw [List.mem_singleton.mp hc]; exact lb)
      refine ⟨_, [s1.heap.objs.size + 4, s1.heap.objs.size + 2, s1.heap.objs.size + 3, s1.heap.objs.size, s1.heap.objs.size + 1], _, _, H1, rfl, I2, turn_TL D (Nat.ne_of_lt la) (Nat.ne_of_lt (Nat.lt_succ_of_lt lb)), ⟨g1, g2, ⟨_, _, g3⟩, ⟨_, g4, rfl, rfl⟩, ⟨_, g5, rfl, rfl⟩⟩, fun c hm => ?_, q⟩
      have le : s1.heap.objs.size ≤ c := by
        rcases (show c = s1.heap.objs.size + 4 ∨ c = s1.heap.objs.size + 2 ∨ c = s1.heap.objs.size + 3 ∨ c = s1.heap.objs.size ∨ c = s1.heap.objs.size + 1 by simpa using hm) with z | z | z | z | z <;> rw [z] <;> first | exact Nat.le_refl _ | exact Nat.le_add_right _ _
      exact I1.fpOk le (I1.hok.fresh le)
theorem walk_TL {K : PySem.W.Frag} {a b : Addr} {xs ys : List V} : Walk (ItTL K a b) (min xs.length ys.length) (fun H => SqT K H a xs ∧ SqL K H b ys) (YPair (fun i => xs[i]?) (fun i => ys[i]?)) where
  goes := fun i H hi q => ⟨xs, ys, xs[i]'(by omega), ys[i]'(by omega), q, List.getElem?_eq_getElem (by omega), List.getElem?_eq_getElem (by omega)⟩
  stops := fun H q => ⟨xs, ys, q, rfl⟩
  yields := fun i H v H' _ q y => by
    obtain ⟨T, x, u, z1, z2, z3, z4, z5⟩ := y
    exact ⟨T, x, u, z1, z2, z3, z4 xs q.1, z5 ys q.2⟩
section
variable {X : Cx} {p : Bool} {ρ : Rho} {QI : List D → Rho → Prop}
theorem wi_zipTL {a b : Expr} {elts : List Expr} {kk : Nat} {pp pos tpos : Pos} (hg : Gl X "zip") (hm : X.mg "zip" = none) (h : WA p true X [a, b] ρ fun ds ρ' => ∃ xs ys, ds = [.tup xs, .lst ys] ∧ QI ((xs.zip ys).map fun q => D.tup [q.1, q.2]) ρ')
    (hs : starEach [a, b] X.env = (false, eval a X.env) :: starEach [b] X.env := by rfl) (hpl : (backTo pos (starEach [b] X.env)).any (·.1) = false := by rfl) : WI p X (.Tuple elts kk tpos) (.Call (.Name "zip" pp) [a, b] [] pos) ρ QI := fun B σ G H S R r => by
  refine wI_of (pi_TL hg hm pa_w hs hpl) ?_
  refine h B σ G H S _ fun vs ds ρ' G' H' q S' x pu i => ?_
  obtain ⟨xs, ys, rfl, q⟩ := q
  obtain ⟨v, u, rfl, ⟨l1, as, rfl, e2, e3⟩, l2, bs, rfl, f2, f3⟩ := isA_two i
  refine ⟨l1, l2, as, bs, rfl, .inl (.inl (S'.ex _ _ e2)), .inl (.inl (S'.ex _ _ f2)), r _ _ ρ' G' H' q S' x pu ?_⟩
  exact walkD_pair (n := min as.length bs.length) (by rw [e3.length, f3.length]) (walk_TL (xs := as) (ys := bs)) (fun H h => ⟨.inl (.inl (h _ _ e2)), .inl (.inl (h _ _ f2))⟩) (fun i d hd => e3.get hd) (fun i d hd => f3.get hd)
end
end DD

namespace DD
open PySem PySem.Spec PyProof.Rows L2
section
variable {p g : Bool} {X : Cx} {ρ : Rho} {Q : D → Rho → Prop} {QT : Bool → Rho → Prop} {Z : D → Prop} {E : DE} {pos : Pos}
/-! ### truths compared, shown -/
theorem op_isnotB : OpR X (compareOp .IsNot) (fun x y H Q => ∃ a b, x = .bl a ∧ y = .bl b ∧ Q (.bl (!decide (a = b))) H) := by
  intro pins s σ H x y v u Q I rx ry h
  obtain ⟨a, b, rfl, rfl, q⟩ := h
  cases rx; cases ry
  cases a <;> cases b <;> exact wpAny_pure (fin_bl I q rfl)
theorem o_isnotB {a b : Bool} (q : Z (.bl (!decide (a = b)))) : Op2 g X (compareOp .IsNot) (.bl a) (.bl b) Z := op2_sc (z := .bl (!decide (a = b))) op_isnotB rfl rfl rfl (fun _ _ h => ⟨a, b, rfl, rfl, h⟩) q
theorem o_beq {a b : Bool} (hu : X.A.units + 64 < cLine) (q : Z (.bl (decide (a = b)))) : Op2 g X (compareOp .Eq) (.bl a) (.bl b) Z := by
  refine o_eqD hu (a := .bool a) (b := .bool b) rfl rfl rfl rfl ?_
  rw [show PyData.eqv (.bool a) (.bool b) = decide (a = b) by cases a <;> cases b <;> rfl]
  exact q
theorem o_bne {a b : Bool} (hu : X.A.units + 64 < cLine) (q : Z (.bl (!decide (a = b)))) : Op2 g X (compareOp .NotEq) (.bl a) (.bl b) Z := by
  refine o_neD hu (a := .bool a) (b := .bool b) rfl rfl rfl rfl ?_
  rw [show PyData.eqv (.bool a) (.bool b) = decide (a = b) by cases a <;> cases b <;> rfl]
  exact q
def shB (b : Bool) : Str := if b then "True" else "False"
theorem call_reprB : CallR X (.builtin "repr") (fun xs H Q => ∃ b, xs = [.bl b] ∧ Q (.str (shB b)) H) := by
  intro pins s σ H xs us Q I r h
  obtain ⟨b, rfl, q⟩ := h
  obtain ⟨u, rfl, ru⟩ := vals1 r
  cases ru
  exact PySem.P.repr_of_bool ⟨.str _, H, I.tok _, ⟨_, rfl⟩, q⟩
theorem c_reprB {b : Bool} (q : Z (.str (shB b))) : OpC g X (.builtin "repr") [.bl b] Z := by
  intro G H vs R ex i k
  obtain ⟨v, rfl, e⟩ := isA_one (isA_any ex i)
  cases (e : v = .bl b)
  exact ⟨_, call_reprB, b, rfl, k _ (.str (shB b)) G H q (Grow.refl ex) rfl⟩
/-! ### an instance == a list -/
variable {C f : Addr} {fd : FuncData} {ps : List Str} {k : Nat}
def rEqL (C : Addr) (sp : Sp) : R2 := fun x y H Q => ∃ a b dx fs xs, x = .ref a ∧ y = .ref b ∧ H a = some (.ins C dx fs) ∧ H b = some (.lst xs) ∧ sp [x, y] H (fun v H' => (∃ c, v = .bl c) ∧ Q v H') E0
theorem op_eqL {sp : Sp} (F : FnOk X.prog X.w X.K X.mg X.base CX0 k f fd ps sp) (hr : Room k X.A) (hs : PySem.W.findIn X.K (.ref C) "__eq__" = some (some (.ref f))) (hf : PySem.W.isFn X.K (.ref f) = true) (hn : PySem.W.notFirst X.K C (.type "list") = true) (hb : Binds X.K fd ps []) : OpR X (compareOp .Eq) (rEqL C sp) := by
  intro pins s σ H x y v u Q I rx ry h
  obtain ⟨a, b, dx, fs, xs, rfl, rfl, ha, hb', hsp⟩ := h
  cases rx
  cases ry
  obtain ⟨mA, J, _⟩ := ins_get I.hok ha
  obtain ⟨od, J, _⟩ := J.look
  obtain ⟨_, _, n, _, h1⟩ := (show ObjOk X.prog X.w H s.heap b (.lst xs) from I.hok b _ hb')
  have ty : PySem.W.Looks (model X.prog X.w) s.heap (typeOf (.ref b)) (.type "list") := (PySem.W.Looks.ld h1).andThen .now
  obtain ⟨m, hF⟩ := I.fr
  show wpAny (model X.prog X.w) X.A (richCompare .Eq (.ref a) (.ref b)) (EP X pins σ Q) X.xe s
  refine PySem.W.cmp_K (op := .Eq) (tb := .type "list") hr.units0 hF I.ok.mod.kin J ty hn hs hf ?_
  have hl := F.len _ _ _ _ hsp
  have bt := hb s [.ref a, .ref b] I.kIn (by simpa using hl)
  refine wpAny_call (codeAny_mono (F.run X.A X.stack s H ⟨[.ref a, .ref b], []⟩ [.ref a, .ref b] [.ref a, .ref b] _ E0 hr I.env0 (by simpa using bt) (.cons rfl (.cons rfl .nil)) hsp) fun r s' hq => ?_)
  cases r with
  | error e => exact (pass0 pins σ H s e s' I hq : X.xe e s')
  | ok fl =>
    cases fl with
    | ret w =>
      obtain ⟨z, H', I', rz, ⟨c, ez⟩, q⟩ := I.after hq
      subst ez
      cases rz
      exact ⟨.bl c, H', I', rfl, q⟩
    | next => exact hq.elim
    | brk => exact hq.elim
    | cont => exact hq.elim
theorem o_eqL {c : List D → (D → Prop) → Prop} {fs : List (Str × D)} {ds : List D} (F : FnOk X.prog X.w X.K X.mg X.base CX0 k f fd ps (spD c)) (hr : Room k X.A) (hs : PySem.W.findIn X.K (.ref C) "__eq__" = some (some (.ref f))) (hf : PySem.W.isFn X.K (.ref f) = true) (hn : PySem.W.notFirst X.K C (.type "list") = true) (hb : Binds X.K fd ps [])
    (q : c [.obj C fs, .lst ds] fun d => ∃ k, d = .bl k ∧ Z (.bl k)) : Op2 true X (compareOp .Eq) (.obj C fs) (.lst ds) Z := by
  intro G H v u R ex i j kk
  obtain ⟨a, dx, gs, rfl, e2, e3⟩ := id i
  obtain ⟨b, xs, rfl, f2, f3⟩ := id j
  refine ⟨_, op_eqL F hr hs hf hn hb, a, b, dx, gs, xs, rfl, rfl, ex _ _ e2, ex _ _ f2, G, [.obj C fs, .lst ds], fun d => ∃ k, d = .bl k ∧ Z (.bl k), ex, ⟨_, _, rfl, i, _, _, rfl, j, rfl⟩, q, fun v d G' H' z gr iz => ?_⟩
  obtain ⟨k, rfl, z⟩ := z
  exact ⟨⟨k, iz⟩, kk v (.bl k) G' H' z gr iz⟩
/-- isinstance(x, C), x a list -/
theorem w_isiL {y : Str} {e : Expr} {pp py : Pos} (hk : PySem.W.kitOne X.K (.type "list") (.ref C) = some false) (hcl : Cls X.K C) (hmi : X.mg "isinstance" = none) (hC : X.mg y = some (.ref C)) (h : W p true X e ρ fun x ρ1 => ∃ ds, x = .lst ds ∧ Q (.bl false) ρ1)
    (hg1 : Gl X "isinstance" := by rfl) (hg2 : Gl X y := by rfl) (hd : (y == ("__debug__" : Str)) = false := by decide)
    (he : starEach [e, .Name y py] X.env = (false, eval e X.env) :: starEach [.Name y py] X.env := by rfl) (he2 : starEach [.Name y py] X.env = (false, eval (.Name y py) X.env) :: starEach [] X.env := by rfl) (hpl : (backTo pos (starEach [.Name y py] X.env)).any (·.1) = false := by rfl) :
    W p g X (.Call (.Name "isinstance" pp) [e, .Name y py] [] pos) ρ Q := fun B σ G H S R r => by
  refine wE_of (pe_callB (id := "isinstance") call_any hg1 hmi (by decide +kernel) (pa_cons pe_w (pa_cons (pe_glob (v := .ref C) hg2 hC rfl hd) pa_nil he2) he) (by decide) (by decide) he hpl) ?_
  refine h B σ G H S _ fun v x ρ' G' H' q S' y pu i => ?_
  obtain ⟨ds, rfl, q⟩ := q
  obtain ⟨b, xs, rfl, f2, f3⟩ := i
  exact ⟨_, call_isi, .ref b, .ref C, .type "list", .ref C, false, rfl, .own C, .base (.lst (S'.ex _ _ f2)), hk, r _ (.bl false) ρ' G' H' q S' y pu (is_h S' rfl)⟩
end
end DD

namespace DD
open PySem PySem.Spec PyProof.Rows L2
section
variable {p g : Bool} {X : Cx} {ρ : Rho} {Q : D → Rho → Prop} {pos : Pos} {scope : Scope} {N ps : List Str} {sc : Scope}
/-! ### z = [elt for x, y in iter for u in iter1] -/
theorem s_lc21 (m i j l : Nat) (inner : D → List D) (f : D → D → D) {E : DE} {x y u z : Str} {px py pt pu pz spos : Pos} {kk : Nat} {iter iter1 elt : Expr} (S0 : FnScope N ps sc)
    (h : WI false X (.Tuple [.Name x px, .Name y py] kk pt) iter ρ fun ds ρ1 => (ds.flatMap fun d => (inner d).map (f d)).length ≤ 40000 ∧ (∀ d ∈ ds, ∃ a b, d = .tup [a, b] ∧
      (∀ s H C cl fp, WI true (Blk X scope s H C cl fp) (.Name u pu) iter1 (((((ρ1.set l .un).set j .un).set i .un).set i (.val a)).set j (.val b)) fun es _ => es = inner d) ∧
      ∀ e ∈ inner d, ∀ s H C cl fp, W true true (Blk X scope s H C cl fp) elt (((((((ρ1.set l .un).set j .un).set i .un).set i (.val a)).set j (.val b)).set l .un).set l (.val e)) fun w _ => w = f d e) ∧
      E.nx (ρ1.set m (.val (.lst (ds.flatMap fun d => (inner d).map (f d))))))
    (hXN : X.N = N := by rfl) (hbk : blkC X.N X.env.scope scope [(x, i), (y, j), (u, l)] = true := by kernel_rfl) (hi : X.N[i]? = some x := by rfl) (hj : X.N[j]? = some y := by rfl) (hk : X.N[l]? = some u := by rfl)
    (hl : Loc1 X scope x := by intro _ _ _ _ _; first | exact ⟨.inl rfl, .inr rfl⟩ | exact ⟨.inr rfl, .inl rfl⟩) (hl2 : Loc1 X scope y := by intro _ _ _ _ _; first | exact ⟨.inl rfl, .inr rfl⟩ | exact ⟨.inr rfl, .inl rfl⟩) (hl3 : Loc1 X scope u := by intro _ _ _ _ _; first | exact ⟨.inl rfl, .inr rfl⟩ | exact ⟨.inr rfl, .inl rfl⟩)
    (h2 : Two X scope x y px py := by intro _ _ _ _ _; exact ⟨rfl, rfl, rfl, rfl⟩)
    (hc : X.calm = true := by rfl) (hs : ∀ x, foldedSetIterable iter X.env x = pure x := by intro _; rfl) (hs1 : ∀ env x, foldedSetIterable iter1 env x = pure x := by intro _ _; rfl) (hz : X.N[m]? = some z := by rfl) (hzl : X.env.scope.names.lookup z = some .local := by rfl)
    (hsw : swapsWith (.ListComp elt [⟨.Tuple [.Name x px, .Name y py] kk pt, iter, [], 0⟩, ⟨.Name u pu, iter1, [], 0⟩] scope pos) (some (.Name z pz)) spos.line X.env = pure true := by exact sw_true rfl rfl rfl (by decide +kernel)) :
    WS X (.Assign [.Name z pz] (.ListComp elt [⟨.Tuple [.Name x px, .Name y py] kk pt, iter, [], 0⟩, ⟨.Name u pu, iter1, [], 0⟩] scope pos) spos) ρ E :=
  s_setX (ps_setLc2 (own := [(x, i), (y, j), (u, l)]) (vs1 := (Tg.one l).slots) hc (hXN ▸ S0.nd) hz hzl hsw pi_w (blkOk_by hbk) (fun k hk => by simp [Tg.slots] at hk ⊢; simp [hk]) (pg2 S0 hXN hc hi hl hj hl2 h2) (fun _ _ _ _ _ => pts_nil) pi_c (pg1 S0 hXN hk hl3) (fun _ _ _ _ _ => pts_nil) pe_c hs hs1)
    (x_lc2 (T := .two i j) (T1 := .one l) (own := [(x, i), (y, j), (u, l)]) inner f (fun k hk => by simp [Tg.slots] at hk ⊢; rcases hk with h | h <;> simp [h]) (fun k hk => by simp [Tg.slots] at hk ⊢; simp [hk]) fun B σ G H S R r => h B σ G H S R fun J ds ρ1 G1 H1 q S1 y pu wk => r J ds ρ1 G1 H1 ⟨q.1, fun d hd => by
      obtain ⟨a, b, rfl, h1, h2⟩ := q.2.1 d hd
      exact ⟨_, rfl, h1, fun e he => ⟨_, rfl, h2 e he⟩⟩, q.2.2⟩ S1 y pu wk)
/-! ### keywords in the parameters' own sequence; C(k = v, ..), two keywords, turned -/
/-- keywords alone -/
def onlyK {α : Type} (n : Nat) : List α → List α → List α
  | [], ws => ws
  | u :: _, _ => List.replicate (n + 1) u
theorem vals_onlyK {n : Nat} {vs zs : List V} {us ws : List Value} (h : Vals vs us) (h2 : Vals zs ws) : Vals (onlyK n vs zs) (onlyK n us ws) := by
  cases h with
  | nil => exact h2
  | cons a _ =>
    show Vals (List.replicate (n + 1) _) (List.replicate (n + 1) _)
    induction n + 1 with
    | zero => exact .nil
    | succ m ih => exact .cons a ih
structure DfI (P : Program) (w : World) (K : PySem.W.Frag) (mg : Str → Option Value) (base : Heap) (k : Nat) (x : Str) (ps : List Str) (sp : Sp) : Prop where
  ex : ∃ f fd, FnOk P w K mg base CX0 k f fd ps sp ∧ mg x = some (.ref f) ∧ PySem.W.keepIn K (.ref f) = true ∧ KBinds K fd ps ps (onlyK ps.length) (onlyK ps.length)
theorem callI {k : Nat} {ps : List Str} {c : List D → (D → Prop) → Prop} {x : Str} {pp : Pos} {kws : List Keyword} (F : DfI X.prog X.w X.K X.mg X.base k x ps (spD c)) (hr : Room k X.A)
    (h : WK p true X kws ρ fun ds ρ' => c ds fun d => Q d ρ') (hg : Gl X x := by rfl) (hdb : (x == ("__debug__" : Str)) = false := by decide)
    (hall : (backToKw pos (keywordEach kws X.env)).all (·.1.isSome) = true := by rfl) (hks : (backToKw pos (keywordEach kws X.env)).filterMap (·.1) = ps := by rfl)
    (hpl : ((backTo pos (starEach [] X.env)).any (·.1) || (backToKw pos (keywordEach kws X.env)).any (·.1.isNone)) = false := by rfl) : W p g X (.Call (.Name x pp) [] kws pos) ρ Q := by
  obtain ⟨f, fd, F, hm, hk, hb⟩ := F.ex
  exact w_callK0 (gD := id) F hr hm hk hb (fun _ _ _ h => h) h hg hdb hall hks hpl
theorem w_makeK {C f : Addr} {x : Str} {pp : Pos} {fd : FuncData} {k : Nat} {ps ks : List Str} {c : List D → (List (Str × D) → Prop) → Prop} {kws : List Keyword} (M : Mk X.K C f) (F : FnOk X.prog X.w X.K X.mg X.base CX0 k f fd ps (spI C c)) (hr : Room (k + 1) X.A) (hm : X.mg x = some (.ref C))
    (hb : KBn X.K fd ps 1 ks (fun us ws => us ++ sw2 ws) (fun vs zs => vs ++ sw2 zs)) (h : WK p true X kws ρ fun ds ρ' => ds.length = ks.length ∧ c (sw2 ds) fun fs => Q (.obj C fs) ρ') (hg : Gl X x := by rfl) (hdb : (x == ("__debug__" : Str)) = false := by decide)
    (hall : (backToKw pos (keywordEach kws X.env)).all (·.1.isSome) = true := by rfl) (hks : (backToKw pos (keywordEach kws X.env)).filterMap (·.1) = ks := by rfl)
    (hpl : ((backTo pos (starEach [] X.env)).any (·.1) || (backToKw pos (keywordEach kws X.env)).any (·.1.isNone)) = false := by rfl) : W p g X (.Call (.Name x pp) [] kws pos) ρ Q := fun B σ G H S R r => by
  refine wE_of (pe_makeK0 M F hr hg hm hb pass0 pk_w hall hks hdb hpl) ?_
  refine h B σ G H S _ fun vs ds ρ' G' H' q S' y pu i => ?_
  have z := make_go (Q := Q) (G0 := G) (R := R) (E' := E0) S' (isA_sw i) q.2 fun v d G2 H2 z S2 gr iz => r v d ρ' G2 H2 z S2 (y.trans gr.g) (fun w => ⟨(pu w).1, (pu w).2.trans gr⟩) (is_h S2 iz)
  exact ⟨rfl, by rw [i.length]; exact q.1, fun x dx hx hdx ne => z x dx hx hdx ne⟩
end
end DD

/-! ### defs whose callers know that no guard stands: so they may show lists -/
namespace DD
open PySem PySem.Spec PyProof.Rows L2
structure FnG (P : Program) (w : World) (K : PySem.W.Frag) (mg : Str → Option Value) (base : Heap) (k : Nat) (f : Addr) (fd : FuncData) (ps : List Str) (sp : Sp) : Prop where
  n : ∀ vs H Q E, sp vs H Q E → vs.length = ps.length
  go : ∀ (A : Around) (outer : List Env) (s : Shared) (H : Hp) (args : Args) (us : List Value) (vs : List V) (Q : VK) (E : XK), A.guards = some [] → Room k A → Env0 P w K mg base A outer s H → BindsTo s fd args (ps.zip us) → Vals vs us → sp vs H Q E →
    codeAny (model P w) A (.call (.ref f) args) (CR CX0 outer P w H s Q E) s
section
variable {P : Program} {w : World} {K : PySem.W.Frag} {mg : Str → Option Value} {base : Heap} {f : Addr} {fd : FuncData} {ps : List Str} {sp : Sp} {k : Nat}
theorem FnG.mono {j : Nat} (F : FnG P w K mg base j f fd ps sp) (h : j ≤ k) : FnG P w K mg base k f fd ps sp := ⟨F.n, fun A o s H a us vs Q E g r => F.go A o s H a us vs Q E g (r.mono h)⟩
theorem FnG.of (F : FnOk P w K mg base CX0 k f fd ps sp) : FnG P w K mg base k f fd ps sp := ⟨F.len, fun A o s H a us vs Q E _ r => F.run A o s H a us vs Q E r⟩
theorem gds {A : Around} {e : Env} (h : A.guards = some []) : (A.deeper e).guards = some [] := h
/-- a def by its body, guards known -/
theorem fnG_of {x qual : Str} {st : Stmt} {N : List Str} (F : Fun K x qual st f fd) (S : FnScope N ps (defScope st)) (n : ∀ vs H Q E, sp vs H Q E → vs.length = ps.length)
    (body : ∀ (cdv : Value) (A : Around) (outer : List Env) (s : Shared) (H : Hp) (vs : List V) (Q : VK) (E : XK), A.guards = some [] → Room k (A.deeper (envOfC qual (defScope st) s.heap.objs.size f cdv)) → sp vs H Q E →
      ∃ t, PSs (cxOf CX0 P w K mg base N qual (defScope st) f cdv A outer s H E).nox (defBody st) t ∧ t { nx := fun _ H' => Q .non H', rt := Q } (L2.start N vs) H) : FnG P w K mg base (k + 1) f fd ps sp := by
  obtain ⟨oc, od, kV, doc, pm, an, cdv, ct, osl, rfl, lk, hc⟩ := F.ex
  refine ⟨n, fun A outer s H args us vs Q E g room env bind rel asked => ?_⟩
  have len := n _ _ _ _ asked
  have up : ∀ b o, base.get? b = some o → s.heap.get? b = some o := fun b o e => (env.bs b o e).1
  have inK : K.In s.heap := env.mod.kin.keeps up
  have kinds : ∀ y ∈ ps.zip us, (defScope st).names.lookup y.1 = some .local ∨ ((defScope st).names.lookup y.1 = some .cell ∧ ((cellsFrom (s.heap.objs.size + 1) (defScope st).names []).lookup y.1).isSome = true) := by
    rintro ⟨nm, v⟩ hy
    have z := S.par nm (List.of_mem_zip hy).1
    exact z.imp id fun z => ⟨z, PySem.W.cellsFrom_some _ _ _ (.inl z)⟩
  have dp : A.depth < recursionLimit := room.depth
  refine codeAny_call_function dp (inK _ _ lk) rfl S.co S.gen rfl (PySem.W.codeRec_of inK hc) (bind _ _ _ _ ?_)
  refine wpAny_newFunctionEnv_cells S.kind kinds fun ev he s1 inCall => ?_
  subst he
  refine ⟨(env.mod.nolimit.keeps up).keeps inCall.toInCall.keep, codeAny_func ?_⟩
  obtain ⟨t, ht, asked2⟩ := body cdv A outer s H vs Q E g (room.deeper _) asked
  have inv : Inv (cxOf CX0 P w K mg base N qual (defScope st) f cdv A outer s H E) [] (L2.start N vs) H s1 := inv_start S room.hd env len rel inCall
  have run := ht.nox.run [] s1 (L2.start N vs) H _ inv asked2
  refine wpAny_mono run (fun fl s' end_ => ?_) fun e s' z => z
  cases fl with
  | brk => exact end_.choose_spec.choose_spec.2.elim
  | cont => exact end_.choose_spec.choose_spec.2.elim
  | next =>
    obtain ⟨σ2, H2, J, q⟩ := end_
    exact ⟨.non, H2, J.os, J.bare, J.base, J.hok, rfl, q⟩
  | ret u =>
    obtain ⟨v, σ2, H2, J, rv, q⟩ := end_
    exact ⟨v, H2, J.os, J.bare, J.base, J.hok, rv, q⟩
end
section
variable {X : Cx} {k : Nat} {f : Addr} {fd : FuncData} {ps : List Str} {sp : Sp} {x : Str} {pp pos : Pos} {e : Expr} {es : List Expr} {t : TA}
/-- f(e, ..) -/
theorem pe_callG (F : FnG X.prog X.w X.K X.mg X.base k f fd ps sp) (hG : X.A.guards = some []) (hr : Room k X.A) (hg : Gl X x) (hm : X.mg x = some (.ref f)) (hk : PySem.W.keepIn X.K (.ref f) = true) (hb : Binds X.K fd ps [])
    (ha : PA X (e :: es) t) (hdb : (x == ("__debug__" : Str)) = false := by decide) (he : starEach (e :: es) X.env = (false, eval e X.env) :: starEach es X.env := by rfl) (hpl : (backTo pos (starEach es X.env)).any (·.1) = false := by rfl) :
    PE X (.Call (.Name x pp) (e :: es) [] pos) (tCall sp [] E0 t) := by
  refine ⟨fun pins s σ H Q I h => wpAny_Call_Name_kw (ld_glob I hg hm ?_ hdb)⟩
  refine PySem.W.callWith_K (h₀ := X.base) I.ok.mod.kin hk (thn (ha.run pos pins s σ H _ I h) fun us s1 ⟨vs, H1, I1, rel, q⟩ => ⟨I1.kIn, ?_⟩) he hpl
  have q : sp (vs ++ []) H1 Q E0 := q
  rw [List.append_nil] at q
  have len : us.length = ps.length := by rw [← rel.length]; exact F.n _ _ _ _ q
  have bt := hb s1 us I1.kIn (by rw [List.append_nil]; exact len)
  rw [List.append_nil] at bt
  refine wpAny_call (codeAny_mono (F.go X.A X.stack s1 H1 ⟨us, []⟩ us vs Q E0 hG hr I1.env0 bt rel q) fun r s2 z => ?_)
  cases r with
  | error e => exact (pass0 pins σ H1 s1 e s2 I1 z : X.xe e s2)
  | ok fl =>
    cases fl with
    | ret u => exact I1.after z
    | next => exact z.elim
    | brk => exact z.elim
    | cont => exact z.elim
end
end DD

namespace DD
open PySem PySem.Spec PyProof.Rows L2
/-- the script alone is known: the abstract heap at the law's call -/
structure OneList (K : PySem.W.Frag) (H : Hp) (h : Heap) (a : Addr) (ns : List Int) : Prop where
  only : ∀ b, H b ≠ none → b = a
  frz : ∀ b, H b = none ∨ ∃ ob xs, H b = some (.frz ob (.lst xs))
  free : H a ≠ none → K.lookup a = none
  seq : SqL K H a (ns.map V.int)
theorem call_oneG {P : Program} {w : World} {K : PySem.W.Frag} {mg mb : Str → Option Value} {k : Nat} {fa a : Addr} {fd : FuncData} {x : Str} {sp : Sp} {s : Shared} {vs : List Value} {ns : List Int} {H : Hp} (inK : K.In s.heap) (nsM : s.heap.Ns mainGlobals mg) (nsB : s.heap.Ns builtinsNs mb)
    (blt : ∀ y : Str, y ≠ "__name__" → mb y = bootBuiltins y) (lim : s.heap.NoLimit) (gens : s.gens = #[]) (obj : s.heap.get? a = some { cls := .type "list", data := .seq vs.toArray }) (room : Room k callerA) (O : OneList K H s.heap a ns) (ok : HOk P w H s.heap)
    (F : ∀ base : Heap, K.In base → base.Ns mainGlobals mg → FnG P w K mg base k fa fd [x] sp) (bind : ∀ (s : Shared) (u : Value), BindsTo s fd ⟨[u], []⟩ [(x, u)]) (asked : sp [.ref a] H (fun v _ => v = .bl true) E0) :
    codeAny (model P w) callerA (.call (.ref fa) ⟨[.ref a], []⟩) (fun r s' => r = .ok (.ret (.bool true)) ∧ OldK s.heap s'.heap ∧ s'.os = s.os ∧ AllBare s'.gens) s := by
  have far : ∀ {b : Addr} {o : Obj}, s.heap.get? b = some o → (∀ v, o.data ≠ .seq v) → H b = none := fun {b o} e n => Classical.byContradiction fun z => by
    have eb := O.only b z
    rw [eb, obj] at e
    cases e
    exact n _ rfl
  have hid : ∀ {b : Addr} {o : Obj}, s.heap.get? b = some o → H b = none → (hidT s.heap H).get? b = some o := fun e z => hidT_get e z
  have ns' : ∀ {b : Addr} {m : Str → Option Value}, s.heap.Ns b m → (hidT s.heap H).Ns b m := by
    rintro b m ⟨o, es, ep, e, d, r⟩
    exact ⟨o, es, ep, hid e (far e fun v z => by rw [d] at z; cases z), d, r⟩
  have inK' : K.In (hidT s.heap H) := fun b o e => hid (inK b o e) (Classical.byContradiction fun z => by
    have eb := O.only b z
    rw [eb] at z e
    rw [O.free z] at e; cases e)
  have md : Mod K mg (hidT s.heap H) := by
    obtain ⟨mc, l1, l2⟩ := lim
    exact ⟨inK', ns' nsM, ⟨mb, ns' nsB, blt⟩, mc, ns' l1, l2⟩
  have nil : ∀ b, b ∉ ([] : List Addr) := fun b => by simp
  have env : Env0 P w K mg (hidT s.heap H) callerA [] s H := ⟨rfl, md, fun b o e => of_hidT e, Nat.le_of_eq (hidT_size _ _), trivial, fun b hb => (nil b hb).elim, ok, .of_eq gens⟩
  have run := (F _ inK' (ns' nsM)).go callerA [] s H ⟨[.ref a], []⟩ [.ref a] [.ref a] _ _ rfl room env (bind s (.ref a)) (.cons rfl .nil) asked
  refine codeAny_mono run fun r s2 z => ?_
  cases r with
  | error e => exact z.elim
  | ok fl =>
    cases fl with
    | next => exact z.elim
    | brk => exact z.elim
    | cont => exact z.elim
    | ret u =>
      obtain ⟨v, H2, os, bare, un, ok2, rv, ev⟩ := z
      have ev : v = .bl true := ev
      rw [ev] at rv
      have eu : u = Value.bool true := rv
      rw [eu]
      refine ⟨rfl, OldK.of_keep fun b o e => ?_, os, bare⟩
      rcases O.frz b with z | ⟨ob, xs, z⟩
      · exact un.keep b o e z (nil b) (nil b)
      · obtain ⟨g1, _⟩ := ok b _ z
        obtain ⟨g2, _⟩ := ok2 b _ (un.frzs b ob _ z)
        rw [e] at g1
        cases g1
        exact g2
theorem walkG {l : PySem.W.OpenLaw} {n k : Nat} {q : Program} {loose : List Str} {XP : (Str → Option Value) → Heap → Prop} {YP : World → Heap → Prop} {d : DefRec} {K : Params → PySem.W.Frag} {sp : World → Sp} {x : Str} (hn : l.most = some n) (hn2 : n ≤ sizeLine) (hdf : d.params.defaults = []) (room : Room k callerA)
    (hY : ∀ (w : World) (h : Heap), YP w h → (K w.params).In h)
    (F : ∀ (w : World) (mg : Str → Option Value) (fa : Addr) (h : Heap), (K w.params).In h → h.Ns mainGlobals mg → mg d.name = some (.ref fa) → ∃ fd : FuncData, (∀ (s : Shared) (u : Value), BindsTo s fd ⟨[u], []⟩ [(x, u)]) ∧
      ∀ base : Heap, (K w.params).In base → base.Ns mainGlobals mg → FnG l.prog w (K w.params) mg base k fa fd [x] (sp w))
    (asked : ∀ (w : World) (H : Hp) (a : Addr) (ns : List Int), ns.length ≤ n → SqL (K w.params) H a (ns.map V.int) → sp w [.ref a] H (fun v _ => v = .bl true) E0) : PySem.W.WalkO q loose XP YP l.row.toRowW d [] (fun f vs => PySem.call f vs) := by
  refine Att.attach_call hn hdf fun w s₀ s mg mb fa o pm cd doc a vs ns G Y ho hd hcd hmg obj iAre len gens => ?_
  have inK := hY w _ Y
  obtain ⟨fd, bind, FF⟩ := F w mg fa _ inK G.T.g hmg
  have rel := vals_ints iAre
  have eqL := iAre.length
  have go : ∀ H, OneList (K w.params) H s.heap a ns → HOk l.prog w H s.heap → codeAny (model l.prog w) callerA (.call (.ref fa) ⟨[.ref a], []⟩) (fun r s' => r = .ok (.ret (.bool true)) ∧ OldK s.heap s'.heap ∧ s'.os = s.os ∧ AllBare s'.gens) s := fun H O ok =>
    call_oneG inK G.T.g G.T.b G.T.builtins G.T.nolimit gens obj room O ok FF bind (asked w H a ns len O.seq)
  cases kl : (K w.params).lookup a with
  | some oo =>
    have same := inK a oo kl
    rw [obj] at same
    cases same
    have sq : SqL (K w.params) (fun _ => none) a (ns.map V.int) := .inr ⟨_, vs.toArray, _, kl, rfl, rfl, rfl, by rw [List.size_toArray, eqL]; exact Nat.le_trans len hn2, by simpa using rel⟩
    exact go (fun _ => none) ⟨fun b z => absurd rfl z, fun _ => .inl rfl, fun z => absurd rfl z, sq⟩ fun b u z => by cases (z : (none : Option HO) = some u)
  | none =>
    let cell : HO := .frz { cls := .type "list", data := .seq vs.toArray } (.lst (ns.map V.int))
    refine go (fun b => if b = a then some cell else none) ⟨fun b z => ?_, fun b => ?_, fun _ => kl, .inl (.inr ⟨_, if_pos rfl⟩)⟩ fun b u z => ?_
    · by_cases e : b = a
      · exact e
      · exact absurd (if_neg e) z
    · by_cases e : b = a
      · exact .inr ⟨_, _, if_pos e⟩
      · exact .inl (if_neg e)
    · by_cases e : b = a
      · have z := (if_pos e).symm.trans z
        cases z
        rw [e]
        exact ⟨obj, by rw [List.length_map]; exact Nat.le_trans len hn2, vs, _, rel, obj⟩
      · have z := (if_neg e).symm.trans z
        cases z
end DD

namespace DD
open PySem PySem.Spec PyProof.Rows L2
/-! ### lists of whole numbers, shown -/
mutual
def plainI : PyData → Bool
  | .int i => decide (i.natAbs.log2 < 1920)
  | .list xs => plainA xs
  | .tuple xs => plainA xs
  | _ => false
def plainA : List PyData → Bool
  | [] => true
  | x :: xs => plainI x && plainA xs
end
mutual
def nod : PyData → Nat
  | .list xs => nodA xs + 1
  | .tuple xs => nodA xs + 1
  | _ => 1
def nodA : List PyData → Nat
  | [] => 0
  | x :: xs => nod x + nodA xs
end
theorem strLen (x y : Str) : (x ++ y).length = x.length + y.length := strLen_append ..
theorem textFrom_up : ∀ (ts : List Str) (k : Nat) (acc : Str), (textFrom k acc ts).length ≤ acc.length + piled ts
  | [], _, _ => Nat.le_add_right _ _
  | t :: ts, k, acc => by
    have ih := textFrom_up ts (k + 1) (acc ++ (if k > 0 then ", " else "" : String) ++ t)
    have h : ((acc ++ (if k > 0 then ", " else "" : String) ++ t : Str)).length ≤ acc.length + 2 + t.length := by
      rw [strLen, strLen]
      split
      · show acc.length + 2 + _ ≤ _; omega
      · show acc.length + 0 + _ ≤ _; omega
    rw [piled_cons]
    show (textFrom (k + 1) _ ts).length ≤ _
    omega
theorem tupleText_up (ts : List Str) : (tupleText ts).length ≤ 4 + piled ts := by
  have j : (Str.join ", " ts).length ≤ piled ts := by
    by_cases h : ts = []
    · subst h; exact Nat.zero_le _
    · have := join_length_add ts h; omega
  unfold tupleText
  rw [strLen, strLen]
  split
  · show 1 + _ + 2 ≤ _; omega
  · show 1 + _ + 1 ≤ _; omega
mutual
theorem shown_up : ∀ d : PyData, plainI d = true → d.shown.length + 2 ≤ 2000 * nod d
  | .int i, h => by
    have := int_text_len_1921 (of_decide_eq_true h)
    show (Str.ofString (toString i)).length + 2 ≤ 2000 * 1
    omega
  | .list xs, h => by
    have := shownA_up xs h
    have := textFrom_up (PyData.shownAll xs) 0 "["
    show (listText (PyData.shownAll xs)).length + 2 ≤ 2000 * (nodA xs + 1)
    unfold listText
    rw [strLen]
    have e1 : (("[" : Str)).length = 1 := rfl
    have e2 : (("]" : Str)).length = 1 := rfl
    omega
  | .tuple xs, h => by
    have := shownA_up xs h
    have := tupleText_up (PyData.shownAll xs)
    show (tupleText (PyData.shownAll xs)).length + 2 ≤ 2000 * (nodA xs + 1)
    omega
  | .none, h => by cases h
  | .bool _, h => by cases h
  | .str _, h => by cases h
  | .dict _, h => by cases h
theorem shownA_up : ∀ xs : List PyData, plainA xs = true → piled (PyData.shownAll xs) ≤ 2000 * nodA xs
  | [], _ => Nat.le_refl _
  | x :: xs, h => by
    have a := shown_up x (Bool.and_eq_true_iff.mp h).1
    have b := shownA_up xs (Bool.and_eq_true_iff.mp h).2
    show piled (x.shown :: PyData.shownAll xs) ≤ 2000 * (nod x + nodA xs)
    rw [piled_cons]
    omega
end
mutual
theorem plain_show : ∀ d : PyData, plainI d = true → d.showable = true ∧ d.hasDict = false
  | .int i, h => ⟨h, rfl⟩
  | .list xs, h => plain_showA xs h
  | .tuple xs, h => plain_showA xs h
  | .none, h => by cases h
  | .bool _, h => by cases h
  | .str _, h => by cases h
  | .dict _, h => by cases h
theorem plain_showA : ∀ xs : List PyData, plainA xs = true → PyData.showableAll xs = true ∧ PyData.hasDictAll xs = false
  | [], _ => ⟨rfl, rfl⟩
  | x :: xs, h => by
    have a := plain_show x (Bool.and_eq_true_iff.mp h).1
    have b := plain_showA xs (Bool.and_eq_true_iff.mp h).2
    refine ⟨?_, ?_⟩
    · show (x.showable && PyData.showableAll xs) = true
      rw [a.1, b.1]; rfl
    · show (x.hasDict || PyData.hasDictAll xs) = false
      rw [a.2, b.2]; rfl
end
section
variable {X : Cx} {g : Bool} {Z : D → Prop}
theorem call_shown (hG : X.A.guards = some []) (hu : X.A.units + 80 < cLine) : CallR X (.builtin "repr") (fun xs H Q => ∃ (a : Addr) (q : PyData), xs = [.ref a] ∧ Dp X.K H (.ref a) q ∧ plainI q = true ∧ q.depth ≤ 64 ∧ nod q ≤ 8000 ∧ Q (.str q.shown) H) := by
  intro pins s σ H xs us Q I r h
  obtain ⟨a, q, rfl, dp, pl, dep, sz, k⟩ := h
  obtain ⟨u, rfl, ru⟩ := vals1 r
  cases ru
  obtain ⟨as, rd⟩ := Dp.reads I q _ _ dp rfl
  have up := shown_up q pl
  obtain ⟨s1, s2⟩ := plain_show q pl
  have e : sizeLine = 16777216 := by decide
  exact repr_of_reads' rd s1 (PyData.noDict_hsm s2) hG (by omega) (fun _ _ e => e) (fun h' t tk keep => ⟨.str _, H, I.kept (t' := tk) keep, ⟨_, rfl⟩, k⟩) (by omega)
theorem c_repr {d : D} {q : PyData} (hG : X.A.guards = some []) (hu : X.A.units + 80 < cLine) (hp : py d = some q) (hd : (sc d).isSome = false) (pl : plainI q = true) (dep : q.depth ≤ 64) (sz : nod q ≤ 8000) (k : Z (.str q.shown)) : OpC g X (.builtin "repr") [d] Z := by
  intro G H vs R ex i kk
  obtain ⟨v, rfl, e⟩ := isA_one (isA_any ex i)
  have ref : ∃ a, v = .ref a := by
    cases d with
    | lst ds => obtain ⟨a, _, e, _⟩ := e; exact ⟨a, e⟩
    | tup ds => obtain ⟨a, _, e, _⟩ := e; exact ⟨a, e⟩
    | obj C fs => obtain ⟨a, _, _, e, _⟩ := e; exact ⟨a, e⟩
    | dic ks => obtain ⟨a, _, e, _⟩ := e; exact ⟨a, e⟩
    | scr K ns => obtain ⟨a, e, _⟩ := e; exact ⟨a, e⟩
    | adr b => exact ⟨b, e⟩
    | _ => cases hd
  obtain ⟨a, rfl⟩ := ref
  exact ⟨_, call_shown hG hu, a, q, rfl, dp_of _ _ _ e hp, pl, dep, sz, kk _ (.str q.shown) G H k (Grow.refl ex) rfl⟩
end
/-! ### defs over data, guards known -/
structure DfG (P : Program) (w : World) (K : PySem.W.Frag) (mg : Str → Option Value) (base : Heap) (k : Nat) (x : Str) (ps : List Str) (sp : Sp) : Prop where
  ex : ∃ f fd, FnG P w K mg base k f fd ps sp ∧ mg x = some (.ref f) ∧ PySem.W.keepIn K (.ref f) = true ∧ Binds K fd ps []
section
variable {P : Program} {w : World} {K : PySem.W.Frag} {mg : Str → Option Value} {base : Heap}
theorem fnDG {x qual : Str} {st : Stmt} {f : Addr} {fd : FuncData} {N ps : List Str} {k : Nat} {c : List D → (D → Prop) → Prop} (F : Fun K x qual st f fd) (S : FnScope N ps (defScope st)) (len : ∀ ds Z, c ds Z → ds.length = ps.length)
    (h : ∀ (cdv : Value) (A : Around) (outer : List Env) (s : Shared) (H : Hp) (E : XK) (ds : List D) (Z : D → Prop), A.guards = some [] → Room k (A.deeper (envOfC qual (defScope st) s.heap.objs.size f cdv)) → c ds Z →
      WSs (CxD P w K mg base N qual st f cdv A outer s H E) (defBody st) (rho0 N ds) { nx := fun _ => Z .non, rt := Z }) : FnG P w K mg base (k + 1) f fd ps (spD c) := by
  refine fnG_of F S (fun vs H Q E hs => ?_) fun cdv A outer s H vs Q E hG hr hs => ?_
  · obtain ⟨G, ds, Z, _, i, hc, _⟩ := hs
    rw [i.length]
    exact len ds Z hc
  · obtain ⟨G, ds, Z, ex, i, hc, q⟩ := hs
    have fin : ∀ v d G' H', Z d → Fin ⟨H, G, [], 0⟩ G' H' → Is G' d v → Q v H' := fun v d G' H' z F iv => q v d G' H' z ⟨F.bg, fun a o e => F.fr a o e (by simp), F.ex, F.nw⟩ iv
    exact ⟨_, pss_w, h cdv A outer s H E ds Z hG hr hc ⟨H, G, [], 0⟩ _ G H _ (sta_start ex i) ⟨fun σ' ρ' G' H' z S' _ => fin .non .non G' H' z S'.fin rfl, fun v d G' H' z F iv => fin v d G' H' z F iv, fun _ _ _ _ z => z.elim, fun _ _ _ _ z => z.elim⟩⟩
theorem fnPG {x qual : Str} {st : Stmt} {f : Addr} {fd : FuncData} {N ps : List Str} {k : Nat} {c : List D → (D → Prop) → Prop} (F : Fun K x qual st f fd) (S : FnScope N ps (defScope st)) (len : ∀ ds Z, c ds Z → ds.length + 1 = ps.length)
    (h : ∀ (cdv : Value) (A : Around) (outer : List Env) (s : Shared) (H : Hp) (E : XK) (ds : List D) (Z : D → Prop), A.guards = some [] → Room k (A.deeper (envOfC qual (defScope st) s.heap.objs.size f cdv)) → c ds Z →
      WSs (CxD P w K mg base N qual st f cdv A outer s H E) (defBody st) (rhoP N ds) { nx := fun _ => Z .non, rt := Z }) : FnG P w K mg base (k + 1) f fd ps (spP c) := by
  refine fnG_of F S (fun vs H Q E hs => ?_) fun cdv A outer s H vs Q E hG hr hs => ?_
  · obtain ⟨G, l, vr, ds, Z, rfl, _, _, _, i, hc, _⟩ := hs
    have := len ds Z hc
    rw [List.length_cons, i.length]
    exact this
  · obtain ⟨G, l, vr, ds, Z, rfl, ex, gl, pl, i, hc, q⟩ := hs
    have fin : ∀ v d G' H', Z d → Fin ⟨H, G, [l], 0⟩ G' H' → Is G' d v → Q v H' := fun v d G' H' z F iv => q v d G' H' z ⟨F.bg, fun a o e n => F.fr a o e (by simpa using n), F.ex, F.nw, F.pot l (List.mem_singleton.mpr rfl)⟩ iv
    exact ⟨_, pss_w, h cdv A outer s H E ds Z hG hr hc ⟨H, G, [l], 0⟩ _ G H _ (sta_startP ex i gl pl) ⟨fun σ' ρ' G' H' z S' _ => fin .non .non G' H' z S'.fin rfl, fun v d G' H' z F iv => fin v d G' H' z F iv, fun _ _ _ _ z => z.elim, fun _ _ _ _ z => z.elim⟩⟩
end
section
variable {p g : Bool} {X : Cx} {ρ : Rho} {Q : D → Rho → Prop} {c : List D → (D → Prop) → Prop} {k : Nat} {ps : List Str} {x : Str} {pp pos : Pos} {e : Expr} {es : List Expr}
theorem callG (F : DfG X.prog X.w X.K X.mg X.base k x ps (spD c)) (hG : X.A.guards = some []) (hr : Room k X.A) (h : WA p true X (e :: es) ρ fun ds ρ' => c ds fun d => Q d ρ') (hg : Gl X x := by rfl) (hdb : (x == ("__debug__" : Str)) = false := by decide)
    (he : starEach (e :: es) X.env = (false, eval e X.env) :: starEach es X.env := by rfl) (hpl : (backTo pos (starEach es X.env)).any (·.1) = false := by rfl) : W p g X (.Call (.Name x pp) (e :: es) [] pos) ρ Q := by
  obtain ⟨f, fd, F, hm, hk, hb⟩ := F.ex
  intro B σ G H S R r
  refine wE_of (pe_callG F hG hr hg hm hk hb pa_w hdb he hpl) ?_
  refine h B σ G H S _ fun vs ds ρ' G' H' q S' y pu i => ?_
  refine ⟨G', ds, fun d => Q d ρ', S'.ex, by rw [List.append_nil]; exact i, q, fun v d G2 H2 z gr iz => ?_⟩
  exact r v d ρ' G2 H2 z (S'.grow gr) (y.trans gr.g) (fun w => ⟨(pu w).1, (pu w).2.trans gr⟩) (is_h (S'.grow gr) iz)
theorem callPG (i : Nat) {y : Str} {py : Pos} {lc : Bool} (F : DfG X.prog X.w X.K X.mg X.base k x ps (spP c)) (hG : X.A.guards = some []) (hr : Room k X.A) (h : WA false true X es ρ fun ds ρ' => ρ'[i]? = some (.own lc .pot) ∧ c ds fun d => Q d ρ') (hN : X.N[i]? = some y := by rfl) (hr' : ρ[i]? = some (.own lc .pot) := by rfl)
    (hv : Vis X.env.scope y := by first | exact .inl rfl | exact .inr (.inl rfl) | exact .inr (.inr rfl)) (hd : (y == ("__debug__" : Str)) = false := by decide) (hcd : (y == ("__classdict__" : Str)) = false := by decide) (hg : Gl X x := by rfl)
    (hdb : (x == ("__debug__" : Str)) = false := by decide) (he : starEach (.Name y py :: es) X.env = (false, eval (.Name y py) X.env) :: starEach es X.env := by rfl) (hpl : (backTo pos (starEach es X.env)).any (·.1) = false := by rfl) : W false g X (.Call (.Name x pp) (.Name y py :: es) [] pos) ρ Q := by
  obtain ⟨f, fd, F, hm, hk, hb⟩ := F.ex
  intro B σ G H S R r
  refine wE_of (pe_callG F hG hr hg hm hk hb (pa_cons pe_w pa_w he) hdb he hpl) ?_
  refine own_name hN hv hd hcd hr' S fun l el ok => ?_
  refine h B σ G H S _ fun vs ds ρ' G' H' q S' yx pu j => ?_
  obtain ⟨l', el', gl, bl, pt⟩ := S'.ownAt q.1
  have : l' = l := by rw [el] at el'; cases el'; rfl
  subst this
  refine ⟨G', l', vs, ds, fun d => Q d ρ', by rw [List.append_nil], S'.ex, gl, pt, j, q.2, fun v d G2 H2 z gr iz => ?_⟩
  have S2 := S'.growP gr q.1 el
  exact r v d ρ' G2 H2 z S2 (yx.trans gr.g) (fun z => nomatch z) (is_h S2 iz)
end
end DD

namespace DD
open PySem PySem.Spec PyProof.Rows L2
/-! ### lists and tuples, by one word (true: a tuple) -/
def SqB (K : PySem.W.Frag) (b : Bool) (H : Hp) (a : Addr) (xs : List V) : Prop := match b with
  | true => SqT K H a xs
  | false => SqL K H a xs
def HeB (b : Bool) (h : Heap) (a : Addr) (ys : Array Value) : Prop := match b with
  | true => h.IsTuple a ys
  | false => h.IsList a ys
def ItB (b : Bool) (h : Heap) (it a : Addr) (i : Nat) : Prop := match b with
  | true => h.IsTupleIter it a i
  | false => h.IsListIter it a i
def obB (b : Bool) (a : Addr) : Obj := match b with
  | true => { cls := .type "tuple_iterator", data := .fields #[.ref a, .int 0 0] }
  | false => { cls := .type "list_iterator", data := .fields #[.ref a, .int 0 0] }
def isB2 (b : Bool) (ds : List D) : D := match b with
  | true => .tup ds
  | false => .lst ds
theorem SqB.seq {X : Cx} {pins : List (Addr × Obj)} {σ : L2.St} {H : Hp} {s : Shared} {a : Addr} {xs : List V} (I : Inv X pins σ H s) : ∀ {b : Bool}, SqB X.K b H a xs → ∃ ys : List Value, Vals xs ys ∧ HeB b s.heap a ys.toArray ∧ a < s.heap.objs.size
  | true, q => by
    obtain ⟨ys, r, p, _⟩ := I.tuple q
    have p : s.heap.IsTuple a ys.toArray := p
    exact ⟨ys, r, p, by obtain ⟨_, k, _⟩ := p; exact Heap.lt_size k⟩
  | false, q => by
    obtain ⟨ys, r, p, _⟩ := I.list q
    exact ⟨ys, r, p.isList, p.lt⟩
theorem SqB.inj {X : Cx} {pins : List (Addr × Obj)} {σ : L2.St} {H : Hp} {s : Shared} {a : Addr} {xs ys : List V} (I : Inv X pins σ H s) : ∀ {b : Bool}, SqB X.K b H a xs → SqB X.K b H a ys → xs = ys
  | true, q, q2 => I.tuple_inj q q2
  | false, q, q2 => I.list_inj q q2
theorem ItB.at {h h' : Heap} {it a : Addr} {i : Nat} : ∀ {b : Bool}, ItB b h it a i → (∀ o, h.get? it = some o → h'.get? it = some o) → ItB b h' it a i
  | true, p, k => Heap.IsTupleIter.at p k
  | false, p, k => Heap.IsListIter.at p k
theorem ItB.cell {h : Heap} {it a : Addr} {i : Nat} : ∀ {b : Bool}, ItB b h it a i → ∃ o, h.get? it = some o ∧ ∀ v, o.data ≠ .cell v
  | true, ⟨o, e, _, d⟩ => ⟨o, e, fun v q => by rw [d] at q; cases q⟩
  | false, ⟨o, e, _, d⟩ => ⟨o, e, fun v q => by rw [d] at q; cases q⟩
theorem ItB.new {h : Heap} {it a : Addr} : ∀ {b : Bool}, h.get? it = some (obB b a) → ItB b h it a 0
  | true, e => ⟨_, e, rfl, rfl⟩
  | false, e => ⟨_, e, rfl, rfl⟩
theorem drB {prog : Program} {w : World} {A : Around} (hh : A.handled = none) (it a : Addr) (ne : a ≠ it) (ys : Array Value) : ∀ b : Bool, Draws prog w A it [it, a] ys.size (fun i v => ys[i]? = some v) (fun i h => ItB b h it a i ∧ HeB b h a ys)
  | true => Draws.tuple hh it a ne ys
  | false => Draws.list hh it a ne ys
theorem bgB (a : Addr) (ys : Array Value) : ∀ b : Bool, Begins (.ref a) (obB b a) fun h => HeB b h a ys
  | true => begins_tuple a ys
  | false => begins_list a ys
/-! ### zip of three -/
def It3 (K : PySem.W.Frag) (b1 b2 b3 : Bool) (p q r : Addr) : It where
  go := fun i H => ∃ (xs ys zs : List V) (x y z : V), (SqB K b1 H p xs ∧ SqB K b2 H q ys ∧ SqB K b3 H r zs) ∧ xs[i]? = some x ∧ ys[i]? = some y ∧ zs[i]? = some z
  yld := fun i H v H' => ∃ T x y z, v = .ref T ∧ H T = none ∧ H' = upd H T (.tup [x, y, z]) ∧ (∀ l, SqB K b1 H p l → l[i]? = some x) ∧ (∀ l, SqB K b2 H q l → l[i]? = some y) ∧ ∀ l, SqB K b3 H r l → l[i]? = some z
  stop := fun i H => ∃ xs ys zs : List V, (SqB K b1 H p xs ∧ SqB K b2 H q ys ∧ SqB K b3 H r zs) ∧ i = min (min xs.length ys.length) zs.length
structure St3 (b1 b2 b3 : Bool) (z TI TO i1 i2 i3 p q r : Addr) (i : Nat) (h : Heap) : Prop where
  z : IsZip h z TI TO .none
  t : IsTupOf3 h TI (.ref i1) (.ref i2) (.ref i3)
  o : ∃ u v w, IsTupOf3 h TO u v w
  l1 : ItB b1 h i1 p i
  l2 : ItB b2 h i2 q i
  l3 : ItB b3 h i3 r i
theorem turn3 {P : Program} {w : World} {K : PySem.W.Frag} {elts : List Expr} {kk : Nat} {tpos : Pos} {b1 b2 b3 : Bool} {p q r z TI TO i1 i2 i3 : Addr} (D : ZipSep3 z TI TO i1 i2 i3 [i1, p] [i2, q] [i3, r]) (n1 : p ≠ i1) (n2 : q ≠ i2) (n3 : r ≠ i3) :
    Turn P w K (.Tuple elts kk tpos) (It3 K b1 b2 b3 p q r) [z, TI, TO, i1, i2, i3] z (St3 b1 b2 b3 z TI TO i1 i2 i3 p q r) where
  mem := by simp
  obj := fun i h st c hc => by
    obtain ⟨u, v, w, e⟩ := st.o
    rcases (show c = z ∨ c = TI ∨ c = TO ∨ c = i1 ∨ c = i2 ∨ c = i3 by simpa using hc) with rfl | rfl | rfl | rfl | rfl | rfl
    · exact ⟨_, st.z, fun _ k => by cases k⟩
    · exact ⟨_, st.t, fun _ k => by cases k⟩
    · exact ⟨_, e, fun _ k => by cases k⟩
    · obtain ⟨o, e, d⟩ := st.l1.cell
      exact ⟨o, e, fun v k => d _ k⟩
    · obtain ⟨o, e, d⟩ := st.l2.cell
      exact ⟨o, e, fun v k => d _ k⟩
    · obtain ⟨o, e, d⟩ := st.l3.cell
      exact ⟨o, e, fun v k => d _ k⟩
  keep := fun i h h' st k => by
    obtain ⟨u, v, w, e⟩ := st.o
    exact ⟨k z (by simp) _ st.z, k TI (by simp) _ st.t, ⟨u, v, w, k TO (by simp) _ e⟩, st.l1.at fun o => k i1 (by simp) o, st.l2.at fun o => k i2 (by simp) o, st.l3.at fun o => k i3 (by simp) o⟩
  item := by
    intro X hP hw hK hc i pins s σ H E I hf st hg
    subst hP hw hK
    obtain ⟨xs, ys, zs, x, y, u, ⟨q1, q2, q3⟩, hx, hy, hu⟩ := hg
    obtain ⟨a1, r1, p1, _⟩ := q1.seq I
    obtain ⟨a2, r2, p2, _⟩ := q2.seq I
    obtain ⟨a3, r3, p3, _⟩ := q3.seq I
    obtain ⟨v1, g1, w1⟩ := r1.get hx
    obtain ⟨v2, g2, w2⟩ := r2.get hy
    obtain ⟨v3, g3, w3⟩ := r3.get hu
    have m1 : i < a1.toArray.size := by have := (List.getElem?_eq_some_iff.mp g1).1; simpa using this
    have m2 : i < a2.toArray.size := by have := (List.getElem?_eq_some_iff.mp g2).1; simpa using this
    have m3 : i < a3.toArray.size := by have := (List.getElem?_eq_some_iff.mp g3).1; simpa using this
    have lz : z < s.heap.objs.size := Heap.lt_size st.z
    obtain ⟨u0, v0, w0, eO⟩ := st.o
    have hd := I.ok.hd hc
    refine wpAny_pyNext_zipD3_item D (drB (A := X.A.in1) hd i1 p n1 a1.toArray b1) (drB (A := X.A.in1) hd i2 q n2 a2.toArray b2) (drB (A := X.A.in1) hd i3 r n3 a3.toArray b3) st.z st.t eO ⟨st.l1, p1⟩ ⟨st.l2, p2⟩ ⟨st.l3, p3⟩ m1 m2 m3 fun y1 y2 y3 h1 tk f1 f2 f3 c1 c2 c3 c4 c5 c6 c7 hk => ?_
    have e1 : y1 = v1 := by
      have k : a1[i]? = some y1 := by simpa using f1
      rw [g1] at k; cases k; rfl
    have e2 : y2 = v2 := by
      have k : a2[i]? = some y2 := by simpa using f2
      rw [g2] at k; cases k; rfl
    have e3 : y3 = v3 := by
      have k : a3[i]? = some y3 := by simpa using f3
      rw [g3] at k; cases k; rfl
    subst e1; subst e2; subst e3
    refine ⟨_, rfl, wpAny_letOwnedTupleGo_zip (s := { s with heap := h1, toks := tk }) c1 fun h2 z2 sb => ?_⟩
    have hT : h2.get? s.heap.objs.size = some { cls := .type "tuple", data := .seq #[y1, y2, y3] } := (sb.2 _ (Nat.ne_of_gt lz)).trans c6
    have new : ObjOk X.prog X.w (upd H s.heap.objs.size (.tup [x, y, u])) h2 s.heap.objs.size (.tup [x, y, u]) := ⟨by show 3 ≤ sizeLine; decide, [y1, y2, y3], .cons w1 (.cons w2 (.cons w3 .nil)), ⟨_, hT, rfl, _, rfl⟩⟩
    have I2 : Inv X pins σ (upd H s.heap.objs.size (.tup [x, y, u])) { s with heap := h2, toks := tk } := I.turnedNew (ch := [z, TI, TO, i1, i2, i3]) (fun c ob hm k => by
      have n : c ≠ z ∧ c ≠ TI ∧ c ≠ TO ∧ c ≠ i1 ∧ c ≠ i2 ∧ c ≠ i3 := by simpa using hm
      exact (sb.2 c n.1).trans (hk c ob n.1 n.2.2.1 n.2.2.2.1 n.2.2.2.2.1 n.2.2.2.2.2 k)) hf (Nat.le_refl _) new
    have z1 : i1 ≠ z := fun e => D.zf1 (e ▸ D.mem1)
    have z2' : i2 ≠ z := fun e => D.zf2 (e ▸ D.mem2)
    have z3 : i3 ≠ z := fun e => D.zf3 (e ▸ D.mem3)
    refine ⟨.ref s.heap.objs.size, _, I2, rfl, ⟨_, x, y, u, rfl, I.hok.fresh (Nat.le_refl _), rfl, fun l hl => ?_, fun l hl => ?_, fun l hl => ?_⟩, ⟨z2, (sb.2 _ D.TIz).trans (hk _ _ D.TIz D.TITO D.TIi1 D.TIi2 D.TIi3 st.t), ⟨y1, y2, y3, (sb.2 _ D.TOz).trans c2⟩, c3.1.at fun o k => (sb.2 _ z1).trans k, c4.1.at fun o k => (sb.2 _ z2').trans k, c5.1.at fun o k => (sb.2 _ z3).trans k⟩, fun c hm => ?_⟩
    · rw [SqB.inj I hl q1]; exact hx
    · rw [SqB.inj I hl q2]; exact hy
    · rw [SqB.inj I hl q3]; exact hu
    · have lt : c < s.heap.objs.size := by
        obtain ⟨o1, k1, _⟩ := st.l1.cell
        obtain ⟨o2, k2, _⟩ := st.l2.cell
        obtain ⟨o3, k3, _⟩ := st.l3.cell
        rcases (show c = z ∨ c = TI ∨ c = TO ∨ c = i1 ∨ c = i2 ∨ c = i3 by simpa using hm) with rfl | rfl | rfl | rfl | rfl | rfl
        · exact lz
        · exact Heap.lt_size st.t
        · exact Heap.lt_size eO
        · exact Heap.lt_size k1
        · exact Heap.lt_size k2
        · exact Heap.lt_size k3
      rw [upd_ne (Nat.ne_of_lt lt)]
      exact (hf c hm).1
  done := by
    intro X hP hw hK hc i pins s σ H E I hf st hg
    subst hP hw hK
    obtain ⟨xs, ys, zs, ⟨q1, q2, q3⟩, he⟩ := hg
    obtain ⟨a1, r1, p1, _⟩ := q1.seq I
    obtain ⟨a2, r2, p2, _⟩ := q2.seq I
    obtain ⟨a3, r3, p3, _⟩ := q3.seq I
    have s1 : a1.toArray.size = xs.length := by simp [r1.length]
    have s2 : a2.toArray.size = ys.length := by simp [r2.length]
    have s3 : a3.toArray.size = zs.length := by simp [r3.length]
    obtain ⟨u0, v0, w0, eO⟩ := st.o
    have hd := I.ok.hd hc
    refine wpAny_pyNext_zipD3_end D (drB (A := X.A.in1) hd i1 p n1 a1.toArray b1) (drB (A := X.A.in1) hd i2 q n2 a2.toArray b2) (drB (A := X.A.in1) hd i3 r n3 a3.toArray b3) st.z st.t eO ⟨st.l1, p1⟩ ⟨st.l2, p2⟩ ⟨st.l3, p3⟩ (by omega) (by omega) (by omega) (by omega) fun h' tk hk => ⟨rfl, I.turnedL (ch := [z, TI, TO, i1, i2, i3]) (fun c ob hm k => ?_) hf⟩
    have n : c ≠ z ∧ c ≠ TI ∧ c ≠ TO ∧ c ≠ i1 ∧ c ≠ i2 ∧ c ≠ i3 := by simpa using hm
    exact hk c ob n.1 n.2.2.1 n.2.2.2.1 n.2.2.2.2.1 n.2.2.2.2.2 k
  self := fun A i s Q E st h => wpAny_pyIter_zip st.z h
def iZ3 (K : PySem.W.Frag) (b1 b2 b3 : Bool) (ta : TA) : TI := fun σ H R => ta σ H fun vs H1 => ∃ p q r xs ys zs, vs = [.ref p, .ref q, .ref r] ∧ (SqB K b1 H1 p xs ∧ SqB K b2 H1 q ys ∧ SqB K b3 H1 r zs) ∧ R (It3 K b1 b2 b3 p q r) H1
theorem pi_z3 {X : Cx} {b1 b2 b3 : Bool} {e e2 e3 : Expr} {ta : TA} {pp pos tpos : Pos} {elts : List Expr} {kk : Nat} (hg : Gl X "zip") (hm : X.mg "zip" = none) (ha : PA X [e, e2, e3] ta)
    (hs : starEach [e, e2, e3] X.env = (false, eval e X.env) :: starEach [e2, e3] X.env := by rfl) (hpl : (backTo pos (starEach [e2, e3] X.env)).any (·.1) = false := by rfl) : PI X (.Tuple elts kk tpos) (.Call (.Name "zip" pp) [e, e2, e3] [] pos) (iZ3 X.K b1 b2 b3 ta) := by
  refine ⟨fun pins s σ H R I hyp => ?_⟩
  refine Call_ (ld_blt I hg hm PyProof.Rows.boot_zip (PyProof.Rows.callWith_type1 (thn (ha.run pos pins s σ H _ I hyp) fun us s1 ⟨vs, H1, I1, rr, q1⟩ => ?_) hs hpl))
  obtain ⟨p, q, r, xs, ys, zs, rfl, ⟨qp, qq, qr⟩, k⟩ := q1
  cases rr with
  | cons ra rr =>
    cases rr with
    | cons rb rr =>
      cases rr with
      | cons rc rr =>
        cases rr; cases ra; cases rb; cases rc
        obtain ⟨a1, r1, p1, m1⟩ := qp.seq I1
        obtain ⟨a2, r2, p2, m2⟩ := qq.seq I1
        obtain ⟨a3, r3, p3, m3⟩ := qr.seq I1
        refine zip_begins3 (bgB p a1.toArray b1) (bgB q a2.toArray b2) (bgB r a3.toArray b3) p1 p2 p3 fun h' g1 g2 g3 g4 g5 g6 g7 hk => wpAny_pyIter_zip g1 ?_
        have I2 : Inv X pins σ H1 { s1 with heap := h' } := I1.kept (t' := s1.toks) hk
        have D := zip_sep3 (N := s1.heap.objs.size) (fp1 := [p]) (fp2 := [q]) (fp3 := [r]) (fun c hc => by rw [List.mem_singleton.mp hc]; exact m1) (fun c hc => by rw [List.mem_singleton.mp hc]; exact m2) (fun c hc => by rw [List.mem_singleton.mp hc]; exact m3)
        have N := s1.heap.objs.size
        refine ⟨_, [s1.heap.objs.size + 5, s1.heap.objs.size + 3, s1.heap.objs.size + 4, s1.heap.objs.size, s1.heap.objs.size + 1, s1.heap.objs.size + 2], _, _, H1, rfl, I2, turn3 D (Nat.ne_of_lt m1) (Nat.ne_of_lt (Nat.lt_succ_of_lt m2)) (Nat.ne_of_lt (Nat.lt_succ_of_lt (Nat.lt_succ_of_lt m3))), ⟨g1, g2, ⟨_, _, _, g3⟩, .new g4, .new g5, .new g6⟩, fun c hm => ?_, k⟩
        have le : s1.heap.objs.size ≤ c := by
          rcases (show c = s1.heap.objs.size + 5 ∨ c = s1.heap.objs.size + 3 ∨ c = s1.heap.objs.size + 4 ∨ c = s1.heap.objs.size ∨ c = s1.heap.objs.size + 1 ∨ c = s1.heap.objs.size + 2 by simpa using hm) with z | z | z | z | z | z <;> rw [z] <;> first | exact Nat.le_refl _ | exact Nat.le_add_right _ _
        exact I1.fpOk le (I1.hok.fresh le)
def zip3 (xs ys zs : List D) : List D := (xs.zip (ys.zip zs)).map fun q => D.tup [q.1, q.2.1, q.2.2]
theorem zip3_len (xs ys zs : List D) : (zip3 xs ys zs).length = min (min xs.length ys.length) zs.length := by
  unfold zip3
  rw [List.length_map, List.length_zip, List.length_zip]
  omega
theorem zip3_at {xs ys zs : List D} {i : Nat} {d : D} (h : (zip3 xs ys zs)[i]? = some d) : ∃ a b c, d = .tup [a, b, c] ∧ xs[i]? = some a ∧ ys[i]? = some b ∧ zs[i]? = some c := by
  unfold zip3 at h
  rw [List.getElem?_map] at h
  cases hz : (xs.zip (ys.zip zs))[i]? with
  | none => rw [hz] at h; cases h
  | some q =>
    rw [hz] at h
    cases h
    rw [List.getElem?_zip_eq_some, List.getElem?_zip_eq_some] at hz
    exact ⟨_, _, _, rfl, hz.1, hz.2.1, hz.2.2⟩
section
variable {X : Cx} {p : Bool} {ρ : Rho} {QI : List D → Rho → Prop}
theorem seq_of {K : PySem.W.Frag} {G H : Hp} {ds : List D} {v : V} (ex : Ex G H) : ∀ {b : Bool}, Is G (isB2 b ds) v → ∃ a xs, v = .ref a ∧ (∀ H', Ex G H' → SqB K b H' a xs) ∧ IsA G ds xs
  | true, ⟨a, xs, e1, e2, e3⟩ => ⟨a, xs, e1, fun H' ex => .inl (.inl (ex _ _ e2)), e3⟩
  | false, ⟨a, xs, e1, e2, e3⟩ => ⟨a, xs, e1, fun H' ex => .inl (.inl (ex _ _ e2)), e3⟩
theorem wi_zip3 (b1 b2 b3 : Bool) {a b c : Expr} {elts : List Expr} {kk : Nat} {pp pos tpos : Pos} (hg : Gl X "zip") (hm : X.mg "zip" = none) (h : WA p true X [a, b, c] ρ fun ds ρ' => ∃ xs ys zs, ds = [isB2 b1 xs, isB2 b2 ys, isB2 b3 zs] ∧ QI (zip3 xs ys zs) ρ')
    (hs : starEach [a, b, c] X.env = (false, eval a X.env) :: starEach [b, c] X.env := by rfl) (hpl : (backTo pos (starEach [b, c] X.env)).any (·.1) = false := by rfl) : WI p X (.Tuple elts kk tpos) (.Call (.Name "zip" pp) [a, b, c] [] pos) ρ QI := fun B σ G H S R r => by
  refine wI_of (pi_z3 (b1 := b1) (b2 := b2) (b3 := b3) hg hm pa_w hs hpl) ?_
  refine h B σ G H S _ fun vs ds ρ' G' H' q S' x pu i => ?_
  obtain ⟨xs, ys, zs, rfl, q⟩ := q
  obtain ⟨v1, vr, rfl, j1, v2, vr2, rfl, j2, v3, vr3, rfl, j3, e⟩ := i
  cases e
  obtain ⟨l1, as, rfl, s1, t1⟩ := seq_of (K := X.K) S'.ex j1
  obtain ⟨l2, bs, rfl, s2, t2⟩ := seq_of (K := X.K) S'.ex j2
  obtain ⟨l3, cs, rfl, s3, t3⟩ := seq_of (K := X.K) S'.ex j3
  refine ⟨l1, l2, l3, as, bs, cs, rfl, ⟨s1 _ S'.ex, s2 _ S'.ex, s3 _ S'.ex⟩, r _ _ ρ' G' H' q S' x pu ?_⟩
  have hl : (zip3 xs ys zs).length = min (min as.length bs.length) cs.length := by rw [zip3_len, t1.length, t2.length, t3.length]
  unfold WalkD
  rw [hl]
  refine ⟨fun i Hc hi ex => ?_, fun Hc ex => ⟨as, bs, cs, ⟨s1 _ ex, s2 _ ex, s3 _ ex⟩, rfl⟩, fun i Hc y H'' hi ex ya d hd Gc g1 g2 => ?_⟩
  · exact ⟨as, bs, cs, as[i]'(by omega), bs[i]'(by omega), cs[i]'(by omega), ⟨s1 _ ex, s2 _ ex, s3 _ ex⟩, List.getElem?_eq_getElem (by omega), List.getElem?_eq_getElem (by omega), List.getElem?_eq_getElem (by omega)⟩
  · obtain ⟨T, u1, u2, u3, rfl, hT, rfl, f1, f2, f3⟩ := ya
    obtain ⟨d1, d2, d3, rfl, k1, k2, k3⟩ := zip3_at hd
    obtain ⟨w1, m1, n1⟩ := t1.get k1
    obtain ⟨w2, m2, n2⟩ := t2.get k2
    obtain ⟨w3, m3, n3⟩ := t3.get k3
    have e1 := f1 as (s1 _ ex)
    have e2 := f2 bs (s2 _ ex)
    have e3 := f3 cs (s3 _ ex)
    rw [m1] at e1; cases e1
    rw [m2] at e2; cases e2
    rw [m3] at e3; cases e3
    have gr := Grow.new (o := .tup [u1, u2, u3]) g2 hT
    have up := g1.trans gr.g
    exact ⟨_, gr, T, _, rfl, upd_same, u1, _, rfl, Is.mono up _ _ n1, u2, _, rfl, Is.mono up _ _ n2, u3, _, rfl, Is.mono up _ _ n3, rfl⟩
end
end DD

namespace DD
open PySem PySem.Spec PyProof.Rows L2
section
variable {X : Cx} {ρ : Rho} {E : DE} {pos : Pos}
/-! ### x[e] += ev, x an own list of whole numbers -/
theorem get_ofL : PGet X (rIxL X.K) := by
  intro pins s σ H o i ov iv Q I ro ri h
  obtain ⟨p, xs, k, z, rfl, rfl, hq, he, q⟩ := h
  cases ro
  obtain ⟨t, rfl⟩ := ri
  obtain ⟨its, r, pl, hz⟩ := I.list hq
  obtain ⟨j, h1, h2, h3, h4, h5⟩ := atI_get he
  obtain ⟨w, ew, rw'⟩ := r.get h2
  have len := r.length
  have big := line63
  have fin : EP X pins σ Q w s := ⟨z, H, I, rw', q⟩
  have sz : its.toArray.size = its.length := List.size_toArray ..
  by_cases k0 : 0 ≤ k
  · rw [seqIndex_of k0 h5] at h1
    have hj := Option.some.inj h1
    exact wpAny_getItem_list pl.isList (by omega) (by omega) (by rw [hj]; simpa using ew) fin
  · rw [seqIndex_neg (by omega) h4] at h1
    have hj := Option.some.inj h1
    exact wpAny_getItem_list_neg pl.isList (by omega) (by omega) (by omega) (by rw [sz, ← len, hj]; simpa using ew) fin
theorem s_augItem (i : Nat) {x : Str} {e ev : Expr} {p1 p2 : Pos} {ns : List Int} (hr : ρ[i]? = some (.own true (.lst (ns.map D.int))))
    (h : W true true X e ρ fun k _ => ∃ (n : Int) (j : Nat) (v : Int), k = .int n ∧ ixN ns.length n = some j ∧ ns[j]? = some v ∧ W true true X ev ρ fun d _ => ∃ m : Int, d = .int m ∧ E.nx (ρ.set i (.own true (.lst ((ns.set j (v + m)).map D.int)))))
    (hN : X.N[i]? = some x := by rfl) (hv : Vis X.env.scope x := by first | exact .inl rfl | exact .inr (.inl rfl) | exact .inr (.inr rfl)) (hd : (x == ("__debug__" : Str)) = false := by decide) (hcd : (x == ("__classdict__" : Str)) = false := by decide)
    (ha : ∀ ov iv new, augStore e ov iv new = (do holding [new, ov, iv] (setItem ov iv new); release [new, ov, iv] []; pure .next) := by intros; rfl) : WS X (.AugAssign (.Subscript (.Name x p1) e p2) .Add ev pos) ρ E := fun B σ G H F S L => by
  refine wS_of (ps_augS pe_w pe_w get_ofL pe_w ip_add set_list ha) ?_
  refine own_name hN hv hd hcd hr S fun l el ok => ?_
  refine h B σ G H S _ fun u k ρ1 G1 H1 q S1 y1 pu1 iu => ?_
  obtain ⟨rfl, g1⟩ := pu1 rfl
  obtain ⟨n, j, v, rfl, hj, hat, q⟩ := q
  have iu : u = .int n := iu
  subst iu
  obtain ⟨l', el', gl, bl, xs', h1', h2'⟩ := S1.ownAt hr
  have : l' = l := by rw [el] at el'; cases el'; rfl
  subst this
  have ex := h2'.ints
  subst ex
  have at' : atI (ns.map V.int) n = some (.int v) := by
    unfold atI
    rw [List.length_map, hj]
    show (ns.map V.int)[j]? = _
    rw [List.getElem?_map, hat]; rfl
  refine ⟨l', _, n, .int v, rfl, rfl, .inl (.inl h1'), at', ?_⟩
  refine q B σ G1 H1 S1 _ fun u2 d ρ2 G2 H2 q2 S2 y2 pu2 iu2 => ?_
  obtain ⟨rfl, g2⟩ := pu2 rfl
  obtain ⟨m, rfl, q2⟩ := q2
  have iu2 : u2 = .int m := iu2
  subst iu2
  obtain ⟨l2, el2, gl2, bl2, xs2, k1, k2⟩ := S2.ownAt hr
  have : l2 = l' := by rw [el] at el2; cases el2; rfl
  subst this
  have ex := k2.ints
  subst ex
  refine ⟨v, m, rfl, rfl, ?_⟩
  refine ⟨l2, _, n, j, rfl, rfl, k1, by rw [List.length_map]; exact hj, ?_⟩
  refine L.nx σ _ G2 _ q2 (S2.upd hr el ⟨_, upd_same, ?_⟩) (y1.trans y2)
  show IsA G2 ((ns.set j (v + m)).map D.int) ((ns.map V.int).set j (V.int (v + m)))
  rw [← List.map_set]
  exact IsA.of_ints
/-! ### x.insert(e, e2), x.extend(e), own lists -/
theorem s_insert (i : Nat) {x : Str} {e e2 : Expr} {p1 p2 p3 : Pos} {ds : List D} (hr : ρ[i]? = some (.own true (.lst ds)))
    (h : WA false true X [e, e2] ρ fun vs ρ' => ∃ (n : Int) (d : D), vs = [.int n, d] ∧ ρ'[i]? = some (.own true (.lst ds)) ∧ (0 ≤ n ∧ n < 2 ^ 63 ∧ ds.length < 1000000) ∧ E.nx (ρ'.set i (.own true (.lst (ds.take n.toNat ++ [d] ++ ds.drop n.toNat)))))
    (hN : X.N[i]? = some x := by rfl) (hv : Vis X.env.scope x := by first | exact .inl rfl | exact .inr (.inl rfl) | exact .inr (.inr rfl)) (hd : (x == ("__debug__" : Str)) = false := by decide) (hcd : (x == ("__classdict__" : Str)) = false := by decide)
    (hbase : attributeBase (.Name x p1) "insert" X.env (eval (.Name x p1) X.env) = eval (.Name x p1) X.env := by rfl)
    (hfew : ((backTo p3 (starEach [e, e2] X.env)).all (fun x => !x.1) && (backToKw p3 (keywordEach [] X.env)).all (fun x => x.1.isSome)
      && decide (([e, e2] : List Expr).length + ([] : List Keyword).length + (if ([] : List Keyword).isEmpty then 0 else 1) < 30)) = true := by rfl)
    (hline : (p2.endLine == p3.line) = true := by rfl) (hst : starEach [e, e2] X.env = (false, eval e X.env) :: starEach [e2] X.env := by rfl) (hplain : (backTo p3 (starEach [e2] X.env)).any (·.1) = false := by rfl)
    (hs : swapsWith (.Call (.Attribute (.Name x p1) "insert" p2) [e, e2] [] p3) none pos.line X.env = pure false := by rfl) : WS X (.Expr (.Call (.Attribute (.Name x p1) "insert" p2) [e, e2] [] p3) pos) ρ E := fun B σ G H F S L => by
  refine wS_of (ps_expr (pe_bm PySem.F.plainAttrs_list PySem.F.slot_list_insert PySem.F.type_list_insert mt_insert pe_w pa_w hbase hfew hline hst hplain) hs) ?_
  refine own_name hN hv hd hcd hr S fun l el ok => ?_
  obtain ⟨xs, h1, h2⟩ := ok
  refine ⟨.inl ⟨rfl, xs, .inl (.inl h1)⟩, ?_⟩
  refine h B σ G H S _ fun vs ds' ρ' G' H' q S' y pu iv => ?_
  obtain ⟨n, d, rfl, hr', ⟨n0, n1, hz⟩, q⟩ := q
  obtain ⟨u, w, rfl, iu, iw⟩ := isA_two iv
  cases (iu : u = .int n)
  obtain ⟨l', el', gl, bl, xs', h1', h2'⟩ := S'.ownAt hr'
  have : l' = l := by rw [el] at el'; cases el'; rfl
  subst this
  refine ⟨l', xs', n, w, rfl, rfl, h1', by rw [h2'.length]; exact Nat.lt_trans hz (by decide), n0, n1, ?_⟩
  exact L.nx σ _ G' _ q (S'.upd hr' el ⟨_, upd_same, ((h2'.take _).append (IsA.one iw)).append (h2'.drop _)⟩) y
theorem s_extend (i : Nat) {x : Str} {e : Expr} {p1 p2 p3 : Pos} {ds : List D} (hr : ρ[i]? = some (.own true (.lst ds)))
    (h : W true true X e ρ fun d _ => ∃ es, d = .lst es ∧ ds.length + es.length ≤ 1000000 ∧ E.nx (ρ.set i (.own true (.lst (ds ++ es)))))
    (hN : X.N[i]? = some x := by rfl) (hv : Vis X.env.scope x := by first | exact .inl rfl | exact .inr (.inl rfl) | exact .inr (.inr rfl)) (hd : (x == ("__debug__" : Str)) = false := by decide) (hcd : (x == ("__classdict__" : Str)) = false := by decide)
    (hbase : attributeBase (.Name x p1) "extend" X.env (eval (.Name x p1) X.env) = eval (.Name x p1) X.env := by rfl)
    (hfew : ((backTo p3 (starEach [e] X.env)).all (fun x => !x.1) && (backToKw p3 (keywordEach [] X.env)).all (fun x => x.1.isSome)
      && decide (([e] : List Expr).length + ([] : List Keyword).length + (if ([] : List Keyword).isEmpty then 0 else 1) < 30)) = true := by rfl)
    (hline : (p2.endLine == p3.line) = true := by rfl) (hst : starEach [e] X.env = (false, eval e X.env) :: starEach [] X.env := by rfl) (hplain : (backTo p3 (starEach [] X.env)).any (·.1) = false := by rfl)
    (hs : swapsWith (.Call (.Attribute (.Name x p1) "extend" p2) [e] [] p3) none pos.line X.env = pure false := by rfl) : WS X (.Expr (.Call (.Attribute (.Name x p1) "extend" p2) [e] [] p3) pos) ρ E := fun B σ G H F S L => by
  refine wS_of (ps_expr (pe_bm PySem.F.plainAttrs_list PySem.F.slot_list_extend PySem.F.type_list_extend mt_extend pe_w (pa_cons pe_w pa_nil hst) hbase hfew hline hst hplain) hs) ?_
  refine own_name hN hv hd hcd hr S fun l el ok => ?_
  obtain ⟨xs, h1, h2⟩ := ok
  refine ⟨.inl ⟨rfl, xs, .inl (.inl h1)⟩, ?_⟩
  refine h B σ G H S _ fun v d ρ' G' H' q S' y pu iv => ?_
  obtain ⟨rfl, g0⟩ := pu rfl
  obtain ⟨es, rfl, hz, q⟩ := q
  obtain ⟨b, zs, rfl, b1, b2⟩ := iv
  obtain ⟨l', el', gl, bl, xs', h1', h2'⟩ := S'.ownAt hr
  have : l' = l := by rw [el] at el'; cases el'; rfl
  subst this
  refine ⟨l', b, xs', zs, rfl, rfl, h1', S'.ex _ _ b1, by rw [h2'.length, b2.length]; exact Nat.le_trans hz (by decide), ?_⟩
  exact L.nx σ _ G' _ q (S'.upd hr el ⟨_, upd_same, h2'.append b2⟩) y
end
end DD

namespace DD
open PySem PySem.Spec PyProof.Rows L2
section
variable {p g : Bool} {X : Cx} {ρ : Rho} {Q : D → Rho → Prop} {E : DE} {pos : Pos} {scope : Scope} {N ps : List Str} {sc : Scope} {x y z u : Str} {px py pz pu pt : Pos} {kk : Nat} {iter elt : Expr}
/-! ### targets of three and four names -/
abbrev AE (X : Cx) (a : Expr) (es : List Expr) : Prop := (assignEach (a :: es) X.env).map (·.2) = assign a X.env :: (assignEach es X.env).map (·.2)
theorem pg3 (i j k : Nat) (S0 : FnScope N ps sc) (hXN : X.N = N) (hc : X.calm = true) (hi : X.N[i]? = some x) (hj : X.N[j]? = some y) (hk : X.N[k]? = some z) (hx : Loc X.env.scope x) (hy : Loc X.env.scope y) (hz : Loc X.env.scope z)
    (fx : X.fn x = true ∨ X.env.scope.names.lookup x = some .local) (fy : X.fn y = true ∨ X.env.scope.names.lookup y = some .local) (fz : X.fn z = true ∨ X.env.scope.names.lookup z = some .local)
    (h1 : (assignEach [.Name x px, .Name y py, .Name z pz] X.env).length = 3) (h2 : (assignEach [.Name x px, .Name y py, .Name z pz] X.env).findIdx? (·.1) = none)
    (a1 : AE X (.Name x px) [.Name y py, .Name z pz]) (a2 : AE X (.Name y py) [.Name z pz]) (a3 : AE X (.Name z pz) []) : PG X (.Tuple [.Name x px, .Name y py, .Name z pz] kk pt) ((Tg.many [i, j, k]).g X.K) :=
  pg_tup hc (pgs_cons (pg_name (hXN ▸ S0.nd) hi hx fx) (pgs_cons (pg_name (hXN ▸ S0.nd) hj hy fy) (pgs_cons (pg_name (hXN ▸ S0.nd) hk hz fz) pgs_nil a3) a2) a1) h1 h2
theorem pg4 (i j k l : Nat) (S0 : FnScope N ps sc) (hXN : X.N = N) (hc : X.calm = true) (hi : X.N[i]? = some x) (hj : X.N[j]? = some y) (hk : X.N[k]? = some z) (hl : X.N[l]? = some u) (hx : Loc X.env.scope x) (hy : Loc X.env.scope y) (hz : Loc X.env.scope z) (hu : Loc X.env.scope u)
    (fx : X.fn x = true ∨ X.env.scope.names.lookup x = some .local) (fy : X.fn y = true ∨ X.env.scope.names.lookup y = some .local) (fz : X.fn z = true ∨ X.env.scope.names.lookup z = some .local) (fu : X.fn u = true ∨ X.env.scope.names.lookup u = some .local)
    (h1 : (assignEach [.Name x px, .Name y py, .Name z pz, .Name u pu] X.env).length = 4) (h2 : (assignEach [.Name x px, .Name y py, .Name z pz, .Name u pu] X.env).findIdx? (·.1) = none)
    (a1 : AE X (.Name x px) [.Name y py, .Name z pz, .Name u pu]) (a2 : AE X (.Name y py) [.Name z pz, .Name u pu]) (a3 : AE X (.Name z pz) [.Name u pu]) (a4 : AE X (.Name u pu) []) : PG X (.Tuple [.Name x px, .Name y py, .Name z pz, .Name u pu] kk pt) ((Tg.many [i, j, k, l]).g X.K) :=
  pg_tup hc (pgs_cons (pg_name (hXN ▸ S0.nd) hi hx fx) (pgs_cons (pg_name (hXN ▸ S0.nd) hj hy fy) (pgs_cons (pg_name (hXN ▸ S0.nd) hk hz fz) (pgs_cons (pg_name (hXN ▸ S0.nd) hl hu fu) pgs_nil a4) a3) a2) a1) h1 h2
theorem for3 (i j k : Nat) {body : List Stmt} (S0 : FnScope N ps sc) (h : WI false X (.Tuple [.Name x px, .Name y py, .Name z pz] kk pt) iter ρ fun ds ρ1 => ∃ I : Nat → Rho → Prop, I 0 ρ1 ∧ (∀ m d ρi, ds[m]? = some d → I m ρi → ∃ a b c, d = .tup [a, b, c] ∧ WSs X body (((ρi.set i (.val a)).set j (.val b)).set k (.val c)) { E with nx := I (m + 1), ct := I (m + 1), bk := E.nx }) ∧ ∀ ρn, I ds.length ρn → E.nx ρn)
    (hp : PassesOwn (model X.prog X.w) X.A X.env X.xe := by exact PassesOwn.never) (hXN : X.N = N := by rfl) (hc : X.calm = true := by rfl) (hi : X.N[i]? = some x := by rfl) (hj : X.N[j]? = some y := by rfl) (hk : X.N[k]? = some z := by rfl)
    (hx : Loc X.env.scope x := by first | exact .inl rfl | exact .inr rfl) (hy : Loc X.env.scope y := by first | exact .inl rfl | exact .inr rfl) (hz : Loc X.env.scope z := by first | exact .inl rfl | exact .inr rfl)
    (fx : X.fn x = true ∨ X.env.scope.names.lookup x = some .local := by first | exact .inl rfl | exact .inr rfl) (fy : X.fn y = true ∨ X.env.scope.names.lookup y = some .local := by first | exact .inl rfl | exact .inr rfl) (fz : X.fn z = true ∨ X.env.scope.names.lookup z = some .local := by first | exact .inl rfl | exact .inr rfl)
    (h1 : (assignEach [.Name x px, .Name y py, .Name z pz] X.env).length = 3 := by rfl) (h2 : (assignEach [.Name x px, .Name y py, .Name z pz] X.env).findIdx? (·.1) = none := by rfl)
    (a1 : AE X (.Name x px) [.Name y py, .Name z pz] := by rfl) (a2 : AE X (.Name y py) [.Name z pz] := by rfl) (a3 : AE X (.Name z pz) [] := by rfl) (hs : ∀ x, foldedSetIterable iter X.env x = pure x := by intro _; rfl) : WS X (.For (.Tuple [.Name x px, .Name y py, .Name z pz] kk pt) iter body [] pos) ρ E :=
  s_for (T := .many [i, j, k]) hp hc (pg3 i j k S0 hXN hc hi hj hk hx hy hz fx fy fz h1 h2 a1 a2 a3) hs fun B σ G H S R r => h B σ G H S R fun J ds ρ1 G1 H1 q S1 y pu wk => r J ds ρ1 G1 H1 (by
    obtain ⟨I, i0, st, fin⟩ := q
    exact ⟨I, i0, fun m d ρi hd hI => by
      obtain ⟨a, b, c, rfl, z⟩ := st m d ρi hd hI
      exact ⟨_, rfl, z⟩, fin⟩) S1 y pu wk
theorem for4 (i j k l : Nat) {body : List Stmt} (S0 : FnScope N ps sc) (h : WI false X (.Tuple [.Name x px, .Name y py, .Name z pz, .Name u pu] kk pt) iter ρ fun ds ρ1 => ∃ I : Nat → Rho → Prop, I 0 ρ1 ∧ (∀ m d ρi, ds[m]? = some d → I m ρi → ∃ a b c e, d = .tup [a, b, c, e] ∧ WSs X body ((((ρi.set i (.val a)).set j (.val b)).set k (.val c)).set l (.val e)) { E with nx := I (m + 1), ct := I (m + 1), bk := E.nx }) ∧ ∀ ρn, I ds.length ρn → E.nx ρn)
    (hp : PassesOwn (model X.prog X.w) X.A X.env X.xe := by exact PassesOwn.never) (hXN : X.N = N := by rfl) (hc : X.calm = true := by rfl) (hi : X.N[i]? = some x := by rfl) (hj : X.N[j]? = some y := by rfl) (hk : X.N[k]? = some z := by rfl) (hl : X.N[l]? = some u := by rfl)
    (hx : Loc X.env.scope x := by first | exact .inl rfl | exact .inr rfl) (hy : Loc X.env.scope y := by first | exact .inl rfl | exact .inr rfl) (hz : Loc X.env.scope z := by first | exact .inl rfl | exact .inr rfl) (hu : Loc X.env.scope u := by first | exact .inl rfl | exact .inr rfl)
    (fx : X.fn x = true ∨ X.env.scope.names.lookup x = some .local := by first | exact .inl rfl | exact .inr rfl) (fy : X.fn y = true ∨ X.env.scope.names.lookup y = some .local := by first | exact .inl rfl | exact .inr rfl) (fz : X.fn z = true ∨ X.env.scope.names.lookup z = some .local := by first | exact .inl rfl | exact .inr rfl) (fu : X.fn u = true ∨ X.env.scope.names.lookup u = some .local := by first | exact .inl rfl | exact .inr rfl)
    (h1 : (assignEach [.Name x px, .Name y py, .Name z pz, .Name u pu] X.env).length = 4 := by rfl) (h2 : (assignEach [.Name x px, .Name y py, .Name z pz, .Name u pu] X.env).findIdx? (·.1) = none := by rfl)
    (a1 : AE X (.Name x px) [.Name y py, .Name z pz, .Name u pu] := by rfl) (a2 : AE X (.Name y py) [.Name z pz, .Name u pu] := by rfl) (a3 : AE X (.Name z pz) [.Name u pu] := by rfl) (a4 : AE X (.Name u pu) [] := by rfl) (hs : ∀ x, foldedSetIterable iter X.env x = pure x := by intro _; rfl) : WS X (.For (.Tuple [.Name x px, .Name y py, .Name z pz, .Name u pu] kk pt) iter body [] pos) ρ E :=
  s_for (T := .many [i, j, k, l]) hp hc (pg4 i j k l S0 hXN hc hi hj hk hl hx hy hz hu fx fy fz fu h1 h2 a1 a2 a3 a4) hs fun B σ G H S R r => h B σ G H S R fun J ds ρ1 G1 H1 q S1 y pu wk => r J ds ρ1 G1 H1 (by
    obtain ⟨I, i0, st, fin⟩ := q
    exact ⟨I, i0, fun m d ρi hd hI => by
      obtain ⟨a, b, c, e, rfl, z⟩ := st m d ρi hd hI
      exact ⟨_, rfl, z⟩, fin⟩) S1 y pu wk
/-! ### [elt for x, y, z in iter] -/
abbrev P3 (p : Bool) (X : Cx) (scope : Scope) (i j k : Nat) (x y z : Str) (px py pz pt : Pos) (kk : Nat) (iter elt : Expr) (f : D → D) (ρ : Rho) (Q : D → Rho → Prop) : Prop :=
  WI p X (.Tuple [.Name x px, .Name y py, .Name z pz] kk pt) iter ρ fun ds ρ1 => ds.length ≤ 40000 ∧ (∀ d ∈ ds, ∃ a b c, d = .tup [a, b, c] ∧ ∀ s H C cl fp, W true true (Blk X scope s H C cl fp) elt ((((((ρ1.set k .un).set j .un).set i .un).set i (.val a)).set j (.val b)).set k (.val c)) fun y _ => y = f d) ∧ Q (.lst (ds.map f)) ρ1
abbrev Thr (X : Cx) (scope : Scope) (x y z : Str) (px py pz : Pos) : Prop := ∀ s H C cl fp, (assignEach [.Name x px, .Name y py, .Name z pz] (Blk X scope s H C cl fp).env).length = 3 ∧ (assignEach [.Name x px, .Name y py, .Name z pz] (Blk X scope s H C cl fp).env).findIdx? (·.1) = none ∧
  AE (Blk X scope s H C cl fp) (.Name x px) [.Name y py, .Name z pz] ∧ AE (Blk X scope s H C cl fp) (.Name y py) [.Name z pz] ∧ AE (Blk X scope s H C cl fp) (.Name z pz) []
theorem x3 {i j k : Nat} {f : D → D} (h : P3 p X scope i j k x y z px py pz pt kk iter elt f ρ Q) : WX p g (tLc (wI X (.Tuple [.Name x px, .Name y py, .Name z pz] kk pt) iter) ((Tg.many [i, j, k]).g X.K) tYes (cE X scope elt) [i, j, k]) ρ Q :=
  x_lc (T := .many [i, j, k]) (own := [(x, i), (y, j), (z, k)]) f (fun m hm => hm) fun B σ G H S R r => h B σ G H S R fun J ds ρ1 G1 H1 q S1 y pu wk => r J ds ρ1 G1 H1 ⟨q.1, fun d hd => by
    obtain ⟨a, b, c, rfl, h⟩ := q.2.1 d hd
    exact ⟨_, rfl, h⟩, q.2.2⟩ S1 y pu wk
theorem lc3 (i j k : Nat) (f : D → D) (S0 : FnScope N ps sc) (h : P3 p X scope i j k x y z px py pz pt kk iter elt f ρ Q) (hXN : X.N = N := by rfl) (hbk : blkC X.N X.env.scope scope [(x, i), (y, j), (z, k)] = true := by kernel_rfl) (hi : X.N[i]? = some x := by rfl) (hj : X.N[j]? = some y := by rfl) (hk : X.N[k]? = some z := by rfl)
    (hl : Loc1 X scope x := by intro _ _ _ _ _; first | exact ⟨.inl rfl, .inr rfl⟩ | exact ⟨.inr rfl, .inl rfl⟩) (hl2 : Loc1 X scope y := by intro _ _ _ _ _; first | exact ⟨.inl rfl, .inr rfl⟩ | exact ⟨.inr rfl, .inl rfl⟩) (hl3 : Loc1 X scope z := by intro _ _ _ _ _; first | exact ⟨.inl rfl, .inr rfl⟩ | exact ⟨.inr rfl, .inl rfl⟩)
    (h2 : Thr X scope x y z px py pz := by intro _ _ _ _ _; exact ⟨rfl, rfl, rfl, rfl, rfl⟩) (hc : X.calm = true := by rfl) (hs : ∀ x, foldedSetIterable iter X.env x = pure x := by intro _; rfl) : W p g X (.ListComp elt [⟨.Tuple [.Name x px, .Name y py, .Name z pz] kk pt, iter, [], 0⟩] scope pos) ρ Q :=
  WX.w (pe_lc (own := [(x, i), (y, j), (z, k)]) hc (hXN ▸ S0.nd) pi_w (blkOk_by hbk) (fun s H C cl fp => pg3 (X := Blk X scope s H C cl fp) i j k S0 hXN hc hi hj hk (hl s H C cl fp).1 (hl2 s H C cl fp).1 (hl3 s H C cl fp).1 (hl s H C cl fp).2 (hl2 s H C cl fp).2 (hl3 s H C cl fp).2 (h2 s H C cl fp).1 (h2 s H C cl fp).2.1 (h2 s H C cl fp).2.2.1 (h2 s H C cl fp).2.2.2.1 (h2 s H C cl fp).2.2.2.2) (fun _ _ _ _ _ => pts_nil) pe_c hs) (x3 h)
theorem s_lc3 (m i j k : Nat) (f : D → D) {w0 : Str} {pw spos : Pos} (S0 : FnScope N ps sc) (h : P3 false X scope i j k x y z px py pz pt kk iter elt f ρ fun d ρ' => E.nx (ρ'.set m (.val d))) (hXN : X.N = N := by rfl) (hbk : blkC X.N X.env.scope scope [(x, i), (y, j), (z, k)] = true := by kernel_rfl) (hi : X.N[i]? = some x := by rfl) (hj : X.N[j]? = some y := by rfl) (hk : X.N[k]? = some z := by rfl)
    (hl : Loc1 X scope x := by intro _ _ _ _ _; first | exact ⟨.inl rfl, .inr rfl⟩ | exact ⟨.inr rfl, .inl rfl⟩) (hl2 : Loc1 X scope y := by intro _ _ _ _ _; first | exact ⟨.inl rfl, .inr rfl⟩ | exact ⟨.inr rfl, .inl rfl⟩) (hl3 : Loc1 X scope z := by intro _ _ _ _ _; first | exact ⟨.inl rfl, .inr rfl⟩ | exact ⟨.inr rfl, .inl rfl⟩)
    (h2 : Thr X scope x y z px py pz := by intro _ _ _ _ _; exact ⟨rfl, rfl, rfl, rfl, rfl⟩) (hc : X.calm = true := by rfl) (hs : ∀ x, foldedSetIterable iter X.env x = pure x := by intro _; rfl) (hz : X.N[m]? = some w0 := by rfl) (hzl : X.env.scope.names.lookup w0 = some .local := by rfl)
    (hsw : swapsWith (.ListComp elt [⟨.Tuple [.Name x px, .Name y py, .Name z pz] kk pt, iter, [], 0⟩] scope pos) (some (.Name w0 pw)) spos.line X.env = pure true := by exact sw_true rfl rfl rfl (by decide +kernel)) :
    WS X (.Assign [.Name w0 pw] (.ListComp elt [⟨.Tuple [.Name x px, .Name y py, .Name z pz] kk pt, iter, [], 0⟩] scope pos) spos) ρ E :=
  s_setX (ps_setLc (own := [(x, i), (y, j), (z, k)]) hc (hXN ▸ S0.nd) hz hzl hsw pi_w (blkOk_by hbk) (fun s H C cl fp => pg3 (X := Blk X scope s H C cl fp) i j k S0 hXN hc hi hj hk (hl s H C cl fp).1 (hl2 s H C cl fp).1 (hl3 s H C cl fp).1 (hl s H C cl fp).2 (hl2 s H C cl fp).2 (hl3 s H C cl fp).2 (h2 s H C cl fp).1 (h2 s H C cl fp).2.1 (h2 s H C cl fp).2.2.1 (h2 s H C cl fp).2.2.2.1 (h2 s H C cl fp).2.2.2.2) (fun _ _ _ _ _ => pts_nil) pe_c hs) (x3 h)
/-! ### a, b, c = e, f, g; a, b = f(..) -/
theorem s_par3 {i j k : Nat} {a b c : Expr} {kt k2 pt2} (S0 : FnScope N ps sc) (hij : i ≠ j) (hik : i ≠ k) (hjk : j ≠ k)
    (h : WA false true X [a, b, c] ρ fun ds ρ' => ∃ d e f, ds = [d, e, f] ∧ E.nx (((ρ'.set i (.val d)).set j (.val e)).set k (.val f))) (hXN : X.N = N := by rfl) (hc : X.calm = true := by rfl) (hi : X.N[i]? = some x := by rfl) (hj : X.N[j]? = some y := by rfl) (hk : X.N[k]? = some z := by rfl)
    (hx : X.env.scope.names.lookup x = some .local := by rfl) (hy : X.env.scope.names.lookup y = some .local := by rfl) (hz : X.env.scope.names.lookup z = some .local := by rfl)
    (hw : swappedStores [.Tuple [.Name x px, .Name y py, .Name z pz] kt pt] (.Tuple [a, b, c] k2 pt2) X.env = pure (some [x, y, z]) := by rfl)
    (hs : swapsWithSole [.Tuple [.Name x px, .Name y py, .Name z pz] kt pt] (.Tuple [a, b, c] k2 pt2) pos.line X.env = pure false := by rfl) :
    WS X (.Assign [.Tuple [.Name x px, .Name y py, .Name z pz] kt pt] (.Tuple [a, b, c] k2 pt2) pos) ρ E := fun B σ G H F S L => by
  refine wS_of (ps_par3 hc (hXN ▸ S0.nd) hi hj hk hij hik hjk hx hy hz pa_w hw hs) ?_
  refine h B σ G H S _ fun vs ds ρ' G' H' q S' y pu iv => ?_
  obtain ⟨d, e, f, rfl, q⟩ := q
  obtain ⟨v1, r1, rfl, i1, v2, r2, rfl, i2, v3, r3, rfl, i3, e⟩ := iv
  cases e
  exact ⟨v1, v2, v3, rfl, L.nx _ _ G' H' q (((S'.set i1).set i2).set i3) y⟩
theorem s_unp2 (i j : Nat) {e : Expr} (S0 : FnScope N ps sc) (h : W false true X e ρ fun d ρ' => ∃ a b, d = .tup [a, b] ∧ E.nx ((ρ'.set i (.val a)).set j (.val b))) (hXN : X.N = N := by rfl) (hc : X.calm = true := by rfl) (hi : X.N[i]? = some x := by rfl) (hj : X.N[j]? = some y := by rfl)
    (hx : Loc X.env.scope x := by first | exact .inl rfl | exact .inr rfl) (hy : Loc X.env.scope y := by first | exact .inl rfl | exact .inr rfl) (hf : X.fn x = true ∨ X.env.scope.names.lookup x = some .local := by first | exact .inl rfl | exact .inr rfl) (hf2 : X.fn y = true ∨ X.env.scope.names.lookup y = some .local := by first | exact .inl rfl | exact .inr rfl)
    (h1 : (assignEach [.Name x px, .Name y py] X.env).length = 2 := by rfl) (h2 : (assignEach [.Name x px, .Name y py] X.env).findIdx? (·.1) = none := by rfl) (h3 : AE X (.Name x px) [.Name y py] := by rfl) (h4 : AE X (.Name y py) [] := by rfl)
    (hs : swapsWithSole [.Tuple [.Name x px, .Name y py] kk pt] e pos.line X.env = pure false := by rfl) (hw : swappedStores [.Tuple [.Name x px, .Name y py] kk pt] e X.env = pure none := by rfl)
    (h5 : (assignEach [.Tuple [.Name x px, .Name y py] kk pt] X.env).map (·.2) = [assign (.Tuple [.Name x px, .Name y py] kk pt) X.env] := by rfl) : WS X (.Assign [.Tuple [.Name x px, .Name y py] kk pt] e pos) ρ E := fun B σ G H F S L => by
  refine wS_of (ps_asg pe_w (pg_tup hc (pgs_cons (pg_name (hXN ▸ S0.nd) hi hx hf) (pgs_cons (pg_name (hXN ▸ S0.nd) hj hy hf2) pgs_nil h4) h3) h1 h2) hs hw h5) ?_
  refine h B σ G H S _ fun v d ρ' G' H' q S' y pu iv => ?_
  obtain ⟨a, b, rfl, q⟩ := q
  obtain ⟨l, xs, rfl, e2, e3⟩ := iv
  obtain ⟨w1, w2, rfl, f1, f2⟩ := isA_two e3
  exact ⟨l, _, rfl, .inl (.inl (S'.ex _ _ e2)), rfl, w1, [w2], rfl, w2, [], rfl, rfl, L.nx _ _ G' H' q ((S'.set f1).set f2) y⟩
end
end DD

namespace DD
open PySem PySem.Spec PyProof.Rows L2
section
variable {p g : Bool} {X : Cx} {ρ : Rho} {Q : D → Rho → Prop} {E : DE} {pos : Pos} {scope : Scope} {N ps : List Str} {sc : Scope} {x y z u : Str} {px py pz pu pt : Pos} {kk : Nat} {iter elt : Expr}
/-! ### a def whose value is a new thing -/
def spN (c : List D → (D → Prop) → Prop) : Sp := fun vs H Q _ => ∃ (G : Hp) (ds : List D) (Z : D → Prop), Ex G H ∧ IsA G ds vs ∧ c ds Z ∧ ∀ v d G' H', Z d → Grow G H G' H' → Is G' d v → Fh H v → Q v H'
def WNw (X : Cx) (e : Expr) (ρ : Rho) (Z : D → Prop) : Prop := ∀ (B : Base) (σ : L2.St) (G H : Hp), Sta B σ ρ G H → ∀ R : VK,
  (∀ v d ρ' G' H', Z d → Sta B σ ρ' G' H' → Ex G G' → Ex H H' → Is G' d v → Fh H v → R v H') → wE X e σ H R
def WSN (X : Cx) (st : List Stmt) (ρ : Rho) (Z : D → Prop) : Prop := ∀ (B : Base) (σ : L2.St) (G H : Hp) (F : Ends), B.W = [] → Sta B σ ρ G H →
  (∀ v d G' H', Z d → Fin B G' H' → Is G' d v → Fh B.H v → F.rt v H') → wSs X st F σ H
theorem wsn_cons {st : Stmt} {rest : List Stmt} {Z : D → Prop} (h : WS X st ρ { nx := fun ρ' => WSN X rest ρ' Z, rt := fun _ => False }) : WSN X (st :: rest) ρ Z := fun B σ G H F hW S k =>
  wSs_of (pss_cons ps_w pss_w) (h B σ G H { F with nx := wSs X rest F } S ⟨fun σ' ρ' G' H' q S' _ => q B σ' G' H' F hW S' k, fun _ _ _ _ z => z.elim, fun _ _ _ _ z => z.elim, fun _ _ _ _ z => z.elim⟩)
theorem wsn_ret {e : Expr} {Z : D → Prop} (h : WNw X e ρ Z) : WSN X [.Return (some e) pos] ρ Z := fun B σ G H F hW S k => by
  refine wSs_of (pss_one (ps_ret pe_w)) ?_
  refine h B σ G H S _ fun v d ρ' G' H' q S' e1 e2 iv fv => k v d G' H' q S'.fin iv ?_
  obtain ⟨a, rfl, ha⟩ := fv
  exact ⟨a, rfl, S.kn a ha⟩
variable {P : Program} {w : World} {K : PySem.W.Frag} {mg : Str → Option Value} {base : Heap}
theorem fnN {qual : Str} {st : Stmt} {f : Addr} {fd : FuncData} {k : Nat} {c : List D → (D → Prop) → Prop} (F : Fun K x qual st f fd) (S : FnScope N ps (defScope st)) (len : ∀ ds Z, c ds Z → ds.length = ps.length)
    (h : ∀ (cdv : Value) (A : Around) (outer : List Env) (s : Shared) (H : Hp) (E : XK) (ds : List D) (Z : D → Prop), Room k (A.deeper (envOfC qual (defScope st) s.heap.objs.size f cdv)) → c ds Z →
      WSN (CxD P w K mg base N qual st f cdv A outer s H E) (defBody st) (rho0 N ds) Z) : FnOk P w K mg base CX0 (k + 1) f fd ps (spN c) := by
  refine F.ok S (fun vs H Q E hs => ?_) fun cdv A outer s H vs Q E hr hs => ?_
  · obtain ⟨G, ds, Z, _, i, hc, _⟩ := hs
    rw [i.length]
    exact len ds Z hc
  · obtain ⟨G, ds, Z, ex, i, hc, q⟩ := hs
    exact ⟨_, pss_w, h cdv A outer s H E ds Z hr hc ⟨H, G, [], 0⟩ _ G H _ rfl (sta_start ex i) fun v d G' H' z F iv fv => q v d G' H' z ⟨F.bg, fun a o e => F.fr a o e (by simp), F.ex, F.nw⟩ iv fv⟩
theorem Df.ofN {k : Nat} {c : List D → (D → Prop) → Prop} (F : Df P w K mg base k x ps (spN c)) : Df P w K mg base k x ps (spD c) := by
  obtain ⟨f, fd, F, r⟩ := F.ex
  exact ⟨f, fd, F.imp fun vs H Q E ⟨G, ds, Z, ex, i, hc, q⟩ => ⟨G, ds, Z, ex, i, hc, fun v d G' H' z gr iv _ => q v d G' H' z gr iv⟩, r⟩
theorem wn_call {k : Nat} {c : List D → (D → Prop) → Prop} {pp : Pos} {e : Expr} {es : List Expr} {Z : D → Prop} (F : Df X.prog X.w X.K X.mg X.base k x ps (spN c)) (hr : Room k X.A) (h : WA true true X (e :: es) ρ fun ds _ => c ds Z) (hg : Gl X x := by rfl) (hdb : (x == ("__debug__" : Str)) = false := by decide)
    (he : starEach (e :: es) X.env = (false, eval e X.env) :: starEach es X.env := by rfl) (hpl : (backTo pos (starEach es X.env)).any (·.1) = false := by rfl) : WNw X (.Call (.Name x pp) (e :: es) [] pos) ρ Z := fun B σ G H S R r => by
  obtain ⟨f, fd, F, hm, hk, hb⟩ := F.ex
  refine wE_of (pe_call F hr hg hm hk hb .nil pass0 pa_w hdb he hpl) ?_
  refine h B σ G H S _ fun vs ds ρ' G' H' q S' y pu i => ?_
  obtain ⟨rfl, g0⟩ := pu rfl
  refine ⟨G', ds, Z, S'.ex, by rw [List.append_nil]; exact i, q, fun v d G2 H2 z gr iz fz => ?_⟩
  exact r v d _ G2 H2 z (S'.grow gr) (y.trans gr.g) (g0.h.trans gr.h) iz (fz.back g0.h)
/-- f(..).append(None) -/
theorem s_appN {e : Expr} {Z : D → Prop} {j} {cp p2 p3 : Pos} (h : WNw X e ρ fun d => ∃ ds, d = .lst ds ∧ ds.length < 1000000) (hp : ∀ (B : Base) (σ : L2.St) (G H : Hp), Sta B σ ρ G H → True) (q : E.nx ρ)
    (hbase : attributeBase e "append" X.env (eval e X.env) = eval e X.env := by rfl)
    (hfew : ((backTo p3 (starEach [.Constant .none j cp] X.env)).all (fun x => !x.1) && (backToKw p3 (keywordEach [] X.env)).all (fun x => x.1.isSome)
      && decide (([.Constant .none j cp] : List Expr).length + ([] : List Keyword).length + (if ([] : List Keyword).isEmpty then 0 else 1) < 30)) = true := by rfl)
    (hline : (p2.endLine == p3.line) = true := by rfl) (hst : starEach [.Constant .none j cp] X.env = (false, eval (.Constant .none j cp) X.env) :: starEach [] X.env := by rfl) (hplain : (backTo p3 (starEach [] X.env)).any (·.1) = false := by rfl)
    (hs : swapsWith (.Call (.Attribute e "append" p2) [.Constant .none j cp] [] p3) none pos.line X.env = pure false := by rfl) : WS X (.Expr (.Call (.Attribute e "append" p2) [.Constant .none j cp] [] p3) pos) ρ E := fun B σ G H F S L => by
  refine wS_of (ps_expr (pe_bm PySem.F.plainAttrs_list PySem.F.slot_list_append PySem.F.type_list_append mt_append pe_w (pa_cons pe_non pa_nil hst) hbase hfew hline hst hplain) hs) ?_
  refine h B σ G H S _ fun v d ρ' G' H' q2 S' e1 e2 iv fv => ?_
  obtain ⟨ds, rfl, hz⟩ := q2
  obtain ⟨a, rfl, ha⟩ := fv
  obtain ⟨b, xs, e, f2, f3⟩ := iv
  cases e
  have hH := S'.ex _ _ f2
  refine ⟨.inl ⟨rfl, xs, .inl (.inl hH)⟩, ?_⟩
  refine ⟨a, xs, .non, rfl, rfl, hH, by rw [f3.length]; exact Nat.lt_trans hz (by decide), ?_⟩
  have ne : ∀ b o, H b = some o → b ≠ a := fun b o hb => by rintro rfl; rw [ha] at hb; cases hb
  have gr : Grow G H G (L2.upd H' a (.lst (xs ++ [.non]))) := ⟨Ex.refl _, fun b o hb => by
    rw [upd_ne (ne b o hb)]; exact e2 b o hb, fun b o hb => by
    have hb := S.ex b o hb
    rw [upd_ne (ne b o hb)]; exact e2 b o hb, fun b o hb => .inl hb⟩
  exact L.nx σ ρ G _ q (S.grow gr) (Ex.refl G)
/-! ### [elt for x, y, z, u in iter], new -/
abbrev Fou (X : Cx) (scope : Scope) (x y z u : Str) (px py pz pu : Pos) : Prop := ∀ s H C cl fp, (assignEach [.Name x px, .Name y py, .Name z pz, .Name u pu] (Blk X scope s H C cl fp).env).length = 4 ∧ (assignEach [.Name x px, .Name y py, .Name z pz, .Name u pu] (Blk X scope s H C cl fp).env).findIdx? (·.1) = none ∧
  AE (Blk X scope s H C cl fp) (.Name x px) [.Name y py, .Name z pz, .Name u pu] ∧ AE (Blk X scope s H C cl fp) (.Name y py) [.Name z pz, .Name u pu] ∧ AE (Blk X scope s H C cl fp) (.Name z pz) [.Name u pu] ∧ AE (Blk X scope s H C cl fp) (.Name u pu) []
theorem wn_lc4 (i j k l : Nat) (f : D → D) {Z : D → Prop} (S0 : FnScope N ps sc)
    (h : WI true X (.Tuple [.Name x px, .Name y py, .Name z pz, .Name u pu] kk pt) iter ρ fun ds ρ1 => ds.length ≤ 40000 ∧ (∀ d ∈ ds, ∃ a b c e, d = .tup [a, b, c, e] ∧ ∀ s H C cl fp, W true true (Blk X scope s H C cl fp) elt ((((((((ρ1.set l .un).set k .un).set j .un).set i .un).set i (.val a)).set j (.val b)).set k (.val c)).set l (.val e)) fun y _ => y = f d) ∧ Z (.lst (ds.map f)))
    (hXN : X.N = N := by rfl) (hbk : blkC X.N X.env.scope scope [(x, i), (y, j), (z, k), (u, l)] = true := by kernel_rfl) (hi : X.N[i]? = some x := by rfl) (hj : X.N[j]? = some y := by rfl) (hk : X.N[k]? = some z := by rfl) (hu : X.N[l]? = some u := by rfl)
    (hl : Loc1 X scope x := by intro _ _ _ _ _; first | exact ⟨.inl rfl, .inr rfl⟩ | exact ⟨.inr rfl, .inl rfl⟩) (hl2 : Loc1 X scope y := by intro _ _ _ _ _; first | exact ⟨.inl rfl, .inr rfl⟩ | exact ⟨.inr rfl, .inl rfl⟩) (hl3 : Loc1 X scope z := by intro _ _ _ _ _; first | exact ⟨.inl rfl, .inr rfl⟩ | exact ⟨.inr rfl, .inl rfl⟩) (hl4 : Loc1 X scope u := by intro _ _ _ _ _; first | exact ⟨.inl rfl, .inr rfl⟩ | exact ⟨.inr rfl, .inl rfl⟩)
    (h2 : Fou X scope x y z u px py pz pu := by intro _ _ _ _ _; exact ⟨rfl, rfl, rfl, rfl, rfl, rfl⟩) (hc : X.calm = true := by rfl) (hs : ∀ x, foldedSetIterable iter X.env x = pure x := by intro _; rfl) : WNw X (.ListComp elt [⟨.Tuple [.Name x px, .Name y py, .Name z pz, .Name u pu] kk pt, iter, [], 0⟩] scope pos) ρ Z := fun B σ G H S R r => by
  have pe : PE X (.ListComp elt [⟨.Tuple [.Name x px, .Name y py, .Name z pz, .Name u pu] kk pt, iter, [], 0⟩] scope pos) (tLc (wI X (.Tuple [.Name x px, .Name y py, .Name z pz, .Name u pu] kk pt) iter) ((Tg.many [i, j, k, l]).g X.K) tYes (cE X scope elt) [i, j, k, l]) := (pe_lc (own := [(x, i), (y, j), (z, k), (u, l)]) hc (hXN ▸ S0.nd) pi_w (blkOk_by hbk) (fun s H C cl fp => pg4 (X := Blk X scope s H C cl fp) i j k l S0 hXN hc hi hj hk hu (hl s H C cl fp).1 (hl2 s H C cl fp).1 (hl3 s H C cl fp).1 (hl4 s H C cl fp).1 (hl s H C cl fp).2 (hl2 s H C cl fp).2 (hl3 s H C cl fp).2 (hl4 s H C cl fp).2 (h2 s H C cl fp).1 (h2 s H C cl fp).2.1 (h2 s H C cl fp).2.2.1 (h2 s H C cl fp).2.2.2.1 (h2 s H C cl fp).2.2.2.2.1 (h2 s H C cl fp).2.2.2.2.2) (fun _ _ _ _ _ => pts_nil) pe_c hs)
  refine wE_of pe ?_
  refine h B σ G H S _ fun J ds ρ1 G1 H1 q S1 y pu wk D hD => ?_
  obtain ⟨rfl, g0⟩ := pu rfl
  obtain ⟨hlen, turn, q⟩ := q
  have main := lc_go (X := X) (T := .many [i, j, k, l]) (tt := tYes) (te := cE X scope elt) (vs := [i, j, k, l]) (Qd := fun v H' => v = .ref D → R v H') S1 wk (fun m hm => hm) (fun _ => true) f hlen (fun d hd => ?_) (fun a G' H' gr iv => ?_) D hD
  · obtain ⟨W, w0, ws⟩ := main
    exact ⟨W, w0, fun i m H hw => (ws i m H hw).imp (fun ⟨st, k⟩ => ⟨st, k rfl⟩) id⟩
  · obtain ⟨a, b, c, e, rfl, he⟩ := turn d hd
    refine ⟨_, rfl, fun σ' G2 H2 S2 R2 r2 => r2 G2 H2 S2 (Grow.refl S2.ex), fun _ σ' G2 H2 S2 R2 r2 s H0 C cl fp => ?_⟩
    refine he s H0 C cl fp B σ' G2 H2 S2 R2 fun v y ρ3 G3 H3 ey S3 x3 p3 i3 => ?_
    subst ey
    have e3 := (p3 rfl).1
    subst e3
    exact r2 v G3 H3 S3 (p3 rfl).2 i3
  · intro ea
    cases ea
    have e : ds.filter (fun _ => true) = ds := List.filter_eq_self.mpr fun _ _ => rfl
    rw [e] at iv
    have fresh : H D = none := by
      cases r0 : H D with
      | none => rfl
      | some o => rw [g0.h D o r0] at hD; cases hD
    exact r _ _ _ G' H' q (S1.grow gr) (g0.g.trans gr.g) (g0.h.trans gr.h) iv ⟨D, rfl, fresh⟩
/-! ### three keywords, from the last parameter on -/
def revK {α : Type} (n : Nat) : List α → List α → List α
  | [], ws => ws.reverse
  | u :: _, _ => List.replicate (n + 1) u
theorem Vals.snoc {vs : List V} {us : List Value} {v : V} {u : Value} (h : Vals vs us) (r : RelV v u) : Vals (vs ++ [v]) (us ++ [u]) := h.append (.cons r .nil)
theorem vals_rev {vs : List V} {us : List Value} (h : Vals vs us) : Vals vs.reverse us.reverse := by
  induction h with
  | nil => exact .nil
  | cons r _ ih =>
    rw [List.reverse_cons, List.reverse_cons]
    exact Vals.snoc ih r
theorem vals_revK {n : Nat} {vs zs : List V} {us ws : List Value} (h : Vals vs us) (h2 : Vals zs ws) : Vals (revK n vs zs) (revK n us ws) := by
  cases h with
  | nil => exact vals_rev h2
  | cons a _ =>
    show Vals (List.replicate (n + 1) _) (List.replicate (n + 1) _)
    induction n + 1 with
    | zero => exact .nil
    | succ m ih => exact .cons a ih
theorem isA_rev {H : Hp} : ∀ {ds : List D} {vs : List V}, IsA H ds vs → IsA H ds.reverse vs.reverse
  | [], _, h => by cases h; exact rfl
  | d :: ds, _, ⟨v, r, e1, e2, e3⟩ => by
    subst e1
    rw [List.reverse_cons, List.reverse_cons]
    exact (isA_rev e3).append (IsA.one e2)
structure DfR (P : Program) (w : World) (K : PySem.W.Frag) (mg : Str → Option Value) (base : Heap) (k : Nat) (x : Str) (ps : List Str) (sp : Sp) : Prop where
  ex : ∃ f fd, FnOk P w K mg base CX0 k f fd ps sp ∧ mg x = some (.ref f) ∧ PySem.W.keepIn K (.ref f) = true ∧ KBinds K fd ps ps.reverse (revK ps.length) (revK ps.length)
theorem callRv {k : Nat} {c : List D → (D → Prop) → Prop} {pp : Pos} {kws : List Keyword} (F : DfR X.prog X.w X.K X.mg X.base k x ps (spD c)) (hr : Room k X.A)
    (h : WK p true X kws ρ fun ds ρ' => c ds.reverse fun d => Q d ρ') (hg : Gl X x := by rfl) (hdb : (x == ("__debug__" : Str)) = false := by decide)
    (hall : (backToKw pos (keywordEach kws X.env)).all (·.1.isSome) = true := by rfl) (hks : (backToKw pos (keywordEach kws X.env)).filterMap (·.1) = ps.reverse := by rfl)
    (hpl : ((backTo pos (starEach [] X.env)).any (·.1) || (backToKw pos (keywordEach kws X.env)).any (·.1.isNone)) = false := by rfl) : W p g X (.Call (.Name x pp) [] kws pos) ρ Q := by
  obtain ⟨f, fd, F, hm, hk, hb⟩ := F.ex
  exact w_callK0 (gD := List.reverse) F hr hm hk hb (fun _ _ _ h => isA_rev h) h hg hdb hall hks hpl
/-! ### sum(script[:n]) -/
theorem w_slScr {e : Expr} {lo hi : Option Expr} {p2 : Pos} (h : W p true X e ρ fun d ρ1 => ∃ ns : List Int, d = .scr X.K ns ∧ WO X lo ρ1 fun l => WO X hi ρ1 fun u => Q (.lst (cutD (ns.map D.int) l u)) ρ1) : W p g X (.Subscript e (.Slice lo hi none p2) pos) ρ Q := fun B σ G H S R r => by
  refine wE_of (pe_slice sl_list pe_w po_w po_w) ?_
  refine h B σ G H S _ fun v d ρ1 G1 H1 q S1 y pu i => ?_
  obtain ⟨ns, rfl, q⟩ := q
  refine wo_go q S1 fun l G2 H2 q2 S2 gr2 => ?_
  refine wo_go q2 S2 fun u G3 H3 q3 S3 gr3 => ?_
  obtain ⟨a, rfl, e2⟩ := Is.mono (gr2.g.trans gr3.g) _ _ i
  refine ⟨a, _, rfl, S3.ex.seq e2, fun b hb => ?_⟩
  have gr := Grow.new (o := .lst (cutV (ns.map V.int) l u)) S3.ex hb
  exact r _ (.lst (cutD (ns.map D.int) l u)) ρ1 _ _ q3 (S3.grow gr) (((y.trans gr2.g).trans gr3.g).trans gr.g) (fun z => ⟨(pu z).1, (((pu z).2.trans gr2).trans gr3).trans gr⟩) (is_h (S3.grow gr) ⟨b, _, rfl, upd_same, (IsA.of_ints (ns := ns)).cut l u⟩)
end
end DD

namespace DD
open PySem PySem.Spec PyProof.Rows L2
section
variable {X : Cx} {ρ : Rho} {pos : Pos}
/-- list(x), an own list -/
theorem f_list (i : Nat) {x : Str} {px pp : Pos} {ds : List D} {Q : Own → Rho → Prop} (hm : X.mg "list" = none) (hr : ρ[i]? = some (.val (.lst ds))) (q : Q (.lst ds) ρ) (hN : X.N[i]? = some x := by rfl) (hv : Vis X.env.scope x := by first | exact .inl rfl | exact .inr (.inl rfl) | exact .inr (.inr rfl)) (hd : (x == ("__debug__" : Str)) = false := by decide) (hcd : (x == ("__classdict__" : Str)) = false := by decide)
    (hg : Gl X "list" := by rfl) (he : starEach [.Name x px] X.env = (false, eval (.Name x px) X.env) :: starEach [] X.env := by rfl) (hpl : (backTo pos (starEach [] X.env)).any (·.1) = false := by rfl) : WF X (.Call (.Name "list" pp) [.Name x px] [] pos) ρ Q := fun B σ G H S R r => by
  refine wE_of (pe_callTy call_any hg hm (T := "list") (by decide +kernel) (pa_cons (pe_var hN hv hd hcd) pa_nil he) (by decide) (by decide) he hpl) ?_
  obtain ⟨v, e1, iv⟩ := S.valAt hr
  obtain ⟨a, xs, rfl, e2, e3⟩ := iv
  refine ⟨_, e1, ⟨_, call_list_of, a, xs, rfl, .inl (.inl (.inl (S.ex _ _ e2))), fun l hl => ?_⟩⟩
  obtain ⟨h1, h2, h3⟩ := new_own S hl
  exact r l (.lst ds) ρ G _ q (S.grow (Grow.own S.ex hl)) (Ex.refl G) h1 h2 h3 ⟨xs, upd_same, e3⟩
end
end DD

namespace DD
open PySem PySem.Spec PyProof.Rows L2
section
variable {p g : Bool} {X : Cx} {ρ : Rho} {Q : D → Rho → Prop} {pos : Pos} {scope : Scope} {N ps : List Str} {sc : Scope} {x y : Str} {px py pt : Pos} {kk : Nat} {iter elt c : Expr}
theorem lc2If (i j : Nat) (bt : D → Bool) (f : D → D) (S0 : FnScope N ps sc) (h : P2If p X scope i j x y px py pt kk iter elt c bt f ρ Q) (hXN : X.N = N := by rfl) (hbk : blkC X.N X.env.scope scope [(x, i), (y, j)] = true := by kernel_rfl) (hi : X.N[i]? = some x := by rfl) (hj : X.N[j]? = some y := by rfl)
    (hl : Loc1 X scope x := by intro _ _ _ _ _; first | exact ⟨.inl rfl, .inr rfl⟩ | exact ⟨.inr rfl, .inl rfl⟩) (hl2 : Loc1 X scope y := by intro _ _ _ _ _; first | exact ⟨.inl rfl, .inr rfl⟩ | exact ⟨.inr rfl, .inl rfl⟩) (h2 : Two X scope x y px py := by intro _ _ _ _ _; exact ⟨rfl, rfl, rfl, rfl⟩)
    (hc : X.calm = true := by rfl) (hs : ∀ x, foldedSetIterable iter X.env x = pure x := by intro _; rfl) :
    W p g X (.ListComp elt [⟨.Tuple [.Name x px, .Name y py] kk pt, iter, [c], 0⟩] scope pos) ρ Q :=
  WX.w (pe_lc (own := [(x, i), (y, j)]) hc (hXN ▸ S0.nd) pi_w (blkOk_by hbk) (pg2 S0 hXN hc hi hl hj hl2 h2) pt_c pe_c hs) (x2If h)
end
section
variable {p g : Bool} {X : Cx} {ρ : Rho} {Q : D → Rho → Prop} {pos pos2 pp pq : Pos} {x y : Str} {ps ps2 : List Str} {e : Expr} {es : List Expr}
/-- g(f(e, ..)): a new pot, handed on -/
theorem callNewP {c0 : List D → Prop} {c : List D → (D → Prop) → Prop} {k k2 : Nat} (Fp : Df X.prog X.w X.K X.mg X.base k2 y ps2 (spF c0)) (F : DfG X.prog X.w X.K X.mg X.base k x ps (spP c)) (hG : X.A.guards = some []) (hr : Room k X.A) (hr2 : Room k2 X.A)
    (h : WA true true X (e :: es) ρ fun ds _ => c0 ds ∧ c [] fun d => Q d ρ) (hg : Gl X x := by rfl) (hg2 : Gl X y := by rfl) (hdb : (x == ("__debug__" : Str)) = false := by decide) (hdb2 : (y == ("__debug__" : Str)) = false := by decide)
    (he : starEach [.Call (.Name y pq) (e :: es) [] pos2] X.env = (false, eval (.Call (.Name y pq) (e :: es) [] pos2) X.env) :: starEach [] X.env := by rfl) (hpl : (backTo pos (starEach [] X.env)).any (·.1) = false := by rfl)
    (he2 : starEach (e :: es) X.env = (false, eval e X.env) :: starEach es X.env := by rfl) (hpl2 : (backTo pos2 (starEach es X.env)).any (·.1) = false := by rfl) : W p g X (.Call (.Name x pp) [.Call (.Name y pq) (e :: es) [] pos2] [] pos) ρ Q := by
  obtain ⟨f, fd, F, hm, hk, hb⟩ := F.ex
  obtain ⟨f2, fd2, F2, hm2, hk2, hb2⟩ := Fp.ex
  intro B σ G H S R r
  refine wE_of (pe_callG F hG hr hg hm hk hb (pa_cons (pe_call F2 hr2 hg2 hm2 hk2 hb2 .nil pass0 pa_w hdb2 he2 hpl2) pa_nil he) hdb he hpl) ?_
  refine h B σ G H S _ fun vs ds ρ' G' H' q S' y pu i => ?_
  obtain ⟨rfl, g0⟩ := pu rfl
  refine ⟨G', ds, S'.ex, by rw [List.append_nil]; exact i, q.1, fun l a b H2 n ex z a0 b0 b1 => ?_⟩
  obtain ⟨h1, h2, h3⟩ := new_own S' n
  refine ⟨G', l, [], [], fun d => Q d ρ', by rw [List.append_nil], S'.ex.trans ex, h1, ⟨a, b, z, a0, b0, b1⟩, rfl, q.2, fun v d G3 H3 z3 gr iz => ?_⟩
  have g1 : Grow G' H' G3 H3 := ⟨gr.g, fun c o e => gr.h c o (ex c o e) (by rintro rfl; rw [n] at e; cases e), gr.x, fun c o e => by
    rcases gr.n c o e with a | a
    · exact .inl a
    · refine .inr ?_
      cases r0 : H' c with
      | none => rfl
      | some o => rw [ex c o r0] at a; cases a⟩
  exact r v d ρ' G3 H3 z3 (S'.grow g1) (y.trans g1.g) (fun w => ⟨rfl, g0.trans g1⟩) (is_h (S'.grow g1) iz)
end
end DD

namespace DD
open PySem PySem.Spec PyProof.Rows L2
section
variable {X : Cx} {ρ : Rho} {pos : Pos} {x : Str} {ps : List Str}
/-- a def whose result is new: what the caller may own -/
def spO (c : List D → (List D → Prop) → Prop) : Sp := fun vs H Q _ => ∃ (G : Hp) (ds : List D) (Z : List D → Prop), Ex G H ∧ IsA G ds vs ∧ c ds Z ∧ ∀ l es xs G' H', Z es → Ex G G' → Ex G' H' → Ex H H' → (∀ a o, G' a = some o → G a = some o ∨ H a = none) → G' l = none → H l = none → H' l = some (.lst xs) → IsA G' es xs → Q (.ref l) H'
/-- f(e, ..), an own list -/
theorem f_callO {c : List D → (List D → Prop) → Prop} {k : Nat} {pp : Pos} {e : Expr} {es : List Expr} {QO : Own → Rho → Prop} (F : Df X.prog X.w X.K X.mg X.base k x ps (spO c)) (hr : Room k X.A) (h : WA true true X (e :: es) ρ fun ds ρ' => c ds fun l => QO (.lst l) ρ') (hg : Gl X x := by rfl) (hdb : (x == ("__debug__" : Str)) = false := by decide)
    (he : starEach (e :: es) X.env = (false, eval e X.env) :: starEach es X.env := by rfl) (hpl : (backTo pos (starEach es X.env)).any (·.1) = false := by rfl) : WF X (.Call (.Name x pp) (e :: es) [] pos) ρ QO := fun B σ G H S R r => by
  obtain ⟨f, fd, F, hm, hk, hb⟩ := F.ex
  refine wE_of (pe_call F hr hg hm hk hb .nil pass0 pa_w hdb he hpl) ?_
  refine h B σ G H S _ fun vs ds ρ' G' H' q S' y pu i => ?_
  refine ⟨G', ds, fun l => QO (.lst l) ρ', S'.ex, by rw [List.append_nil]; exact i, q, fun l es xs G2 H2 z g1 g2 g3 g4 n1 n2 hl ia => ?_⟩
  obtain ⟨h1, h2, h3⟩ := new_own S' n2
  exact r l (.lst es) ρ' G2 H2 z (S'.grow ⟨g1, g3, g2, g4⟩) (y.trans g1) n1 h2 h3 ⟨xs, hl, ia⟩
def WSO (X : Cx) (st : List Stmt) (ρ : Rho) (Z : List D → Prop) : Prop := ∀ (B : Base) (σ : L2.St) (G H : Hp) (F : Ends), B.W = [] → Sta B σ ρ G H →
  (∀ l es xs G' H', Z es → Fin B G' H' → G' l = none → B.H l = none → H' l = some (.lst xs) → IsA G' es xs → F.rt (.ref l) H') → wSs X st F σ H
theorem wso_cons {st : Stmt} {rest : List Stmt} {Z : List D → Prop} (h : WS X st ρ { nx := fun ρ' => WSO X rest ρ' Z, rt := fun _ => False }) : WSO X (st :: rest) ρ Z := fun B σ G H F hW S k =>
  wSs_of (pss_cons ps_w pss_w) (h B σ G H { F with nx := wSs X rest F } S ⟨fun σ' ρ' G' H' q S' _ => q B σ' G' H' F hW S' k, fun _ _ _ _ z => z.elim, fun _ _ _ _ z => z.elim, fun _ _ _ _ z => z.elim⟩)
theorem wso_name (i : Nat) {y : Str} {p2 : Pos} {ds : List D} {Z : List D → Prop} (hr : ρ[i]? = some (.own true (.lst ds))) (q : Z ds) (hN : X.N[i]? = some y := by rfl) (hv : Vis X.env.scope y := by first | exact .inl rfl | exact .inr (.inl rfl) | exact .inr (.inr rfl))
    (hd : (y == ("__debug__" : Str)) = false := by decide) (hcd : (y == ("__classdict__" : Str)) = false := by decide) : WSO X [.Return (some (.Name y p2)) pos] ρ Z := fun B σ G H F hW S k => by
  refine wSs_of (pss_one (ps_ret pe_w)) (own_name hN hv hd hcd hr S fun l el ok => ?_)
  obtain ⟨l', el', gl, bl, xs, h1, h2⟩ := S.ownAt hr
  have : l' = l := by rw [el] at el'; cases el'; rfl
  subst this
  exact k _ ds xs G H q S.fin gl (by simpa using bl) h1 h2
variable {P : Program} {w : World} {K : PySem.W.Frag} {mg : Str → Option Value} {base : Heap}
theorem fnO {qual : Str} {st : Stmt} {f : Addr} {fd : FuncData} {N : List Str} {k : Nat} {c : List D → (List D → Prop) → Prop} (F : Fun K x qual st f fd) (S : FnScope N ps (defScope st)) (len : ∀ ds Z, c ds Z → ds.length = ps.length)
    (h : ∀ (cdv : Value) (A : Around) (outer : List Env) (s : Shared) (H : Hp) (E : XK) (ds : List D) (Z : List D → Prop), Room k (A.deeper (envOfC qual (defScope st) s.heap.objs.size f cdv)) → c ds Z →
      WSO (CxD P w K mg base N qual st f cdv A outer s H E) (defBody st) (rho0 N ds) Z) : FnOk P w K mg base CX0 (k + 1) f fd ps (spO c) := by
  refine F.ok S (fun vs H Q E hs => ?_) fun cdv A outer s H vs Q E hr hs => ?_
  · obtain ⟨G, ds, Z, _, i, hc, _⟩ := hs
    rw [i.length]
    exact len ds Z hc
  · obtain ⟨G, ds, Z, ex, i, hc, q⟩ := hs
    exact ⟨_, pss_w, h cdv A outer s H E ds Z hr hc ⟨H, G, [], 0⟩ _ G H _ rfl (sta_start ex i) fun l es xs G' H' z F n1 n2 hl ia => q l es xs G' H' z F.bg F.ex (fun a o e => F.fr a o e (by simp)) F.nw n1 n2 hl ia⟩
end
end DD

namespace DD
open PySem PySem.Spec PyProof.Rows L2
section
variable {X : Cx} {ρ : Rho} {E : DE} {pos : Pos} {N ps : List Str} {sc scope : Scope} {x y z u : Str} {px py pz pu pt p2 p3 : Pos} {kk : Nat} {iter elt : Expr}
/-! ### pairs whose second part is a new list -/
def Fh2 (G H : Hp) (v : V) : Prop := ∃ T x a ys, v = .ref T ∧ G T = some (.tup [x, .ref a]) ∧ G a = some (.lst ys) ∧ H a = none
def spT (c : List D → (D → Prop) → Prop) : Sp := fun vs H Q _ => ∃ (G : Hp) (ds : List D) (Z : D → Prop), Ex G H ∧ IsA G ds vs ∧ c ds Z ∧ ∀ v d G' H', Z d → Grow G H G' H' → Is G' d v → Fh2 G' H v → Q v H'
def WST (X : Cx) (st : List Stmt) (ρ : Rho) (Z : D → Prop) : Prop := ∀ (B : Base) (σ : L2.St) (G H : Hp) (F : Ends), B.W = [] → Sta B σ ρ G H →
  (∀ v d G' H', Z d → Fin B G' H' → Is G' d v → Fh2 G' B.H v → F.rt v H') → wSs X st F σ H
theorem wst_cons {st : Stmt} {rest : List Stmt} {Z : D → Prop} (h : WS X st ρ { nx := fun ρ' => WST X rest ρ' Z, rt := fun _ => False }) : WST X (st :: rest) ρ Z := fun B σ G H F hW S k =>
  wSs_of (pss_cons ps_w pss_w) (h B σ G H { F with nx := wSs X rest F } S ⟨fun σ' ρ' G' H' q S' _ => q B σ' G' H' F hW S' k, fun _ _ _ _ z => z.elim, fun _ _ _ _ z => z.elim, fun _ _ _ _ z => z.elim⟩)
/-- return (e1, e2), e2 new -/
theorem wst_ret {e1 e2 : Expr} {Z : D → Prop} (h : W true true X e1 ρ fun d1 ρ1 => WNw X e2 ρ1 fun d => ∃ l, d = .lst l ∧ Z (.tup [d1, .lst l]))
    (hs1 : starEach [e1, e2] X.env = (false, eval e1 X.env) :: starEach [e2] X.env := by rfl) (hs2 : starEach [e2] X.env = (false, eval e2 X.env) :: starEach [] X.env := by rfl) : WST X [.Return (some (.Tuple [e1, e2] kk p2)) pos] ρ Z := fun B σ G H F hW S k => by
  refine wSs_of (pss_one (ps_ret (pe_tup (pa_cons pe_w (pa_cons pe_w pa_nil hs2) hs1)))) ?_
  refine h B σ G H S _ fun v1 d1 ρ1 G1 H1 q1 S1 x1 pu i1 => ?_
  refine q1 B σ G1 H1 S1 _ fun v2 d2 ρ2 G2 H2 q2 S2 x2 y2 i2 fv => ?_
  obtain ⟨l, rfl, q⟩ := q2
  have i1 : Is G1 d1 v1 := i1
  obtain ⟨a, xs, rfl, e1, e2⟩ := i2
  obtain ⟨a', ea, ha⟩ := fv
  cases ea
  refine ⟨by show 2 ≤ sizeLine; decide, fun T hT => ?_⟩
  have gr := Grow.new (o := .tup [v1, .ref a]) S2.ex hT
  have S3 := S2.grow gr
  have ta : a ≠ T := by rintro rfl; rw [S2.ex _ _ e1] at hT; cases hT
  refine k _ _ _ _ q S3.fin ⟨T, [v1, .ref a], rfl, upd_same, v1, [.ref a], rfl, Is.mono (x2.trans gr.g) _ _ i1, .ref a, [], rfl, ⟨a, xs, rfl, gr.g _ _ e1, IsA.mono gr.g _ _ e2⟩, rfl⟩ ⟨T, v1, a, xs, rfl, upd_same, gr.g _ _ e1, S1.kn a ha⟩
/-- x, y = f(e, ..); return (e1, y), y new -/
theorem wst_unp {c : List D → (D → Prop) → Prop} {k : Nat} {f0 : Str} {pf pp pos1 p4 : Pos} {e e1 : Expr} {es : List Expr} {Z : D → Prop} (i j : Nat) (S0 : FnScope N ps sc) (hij : i ≠ j) {ps0 : List Str} (F : Df X.prog X.w X.K X.mg X.base k f0 ps0 (spT c)) (hr : Room k X.A)
    (h : WA true true X (e :: es) ρ fun ds _ => c ds fun d => ∃ a l, d = .tup [a, .lst l] ∧ W true true X e1 ((ρ.set i (.val a)).set j (.val (.lst l))) fun d1 _ => Z (.tup [d1, .lst l])) (hjρ : j < ρ.length)
    (hg : Gl X f0 := by rfl) (hdb : (f0 == ("__debug__" : Str)) = false := by decide)
    (he : starEach (e :: es) X.env = (false, eval e X.env) :: starEach es X.env := by rfl) (hpl : (backTo pp (starEach es X.env)).any (·.1) = false := by rfl)
    (hXN : X.N = N := by rfl) (hc : X.calm = true := by rfl) (hi : X.N[i]? = some x := by rfl) (hj : X.N[j]? = some y := by rfl)
    (hx : Loc X.env.scope x := by first | exact .inl rfl | exact .inr rfl) (hy : Loc X.env.scope y := by first | exact .inl rfl | exact .inr rfl) (hf : X.fn x = true ∨ X.env.scope.names.lookup x = some .local := by first | exact .inl rfl | exact .inr rfl) (hf2 : X.fn y = true ∨ X.env.scope.names.lookup y = some .local := by first | exact .inl rfl | exact .inr rfl)
    (h1 : (assignEach [.Name x px, .Name y py] X.env).length = 2 := by rfl) (h2 : (assignEach [.Name x px, .Name y py] X.env).findIdx? (·.1) = none := by rfl) (h3 : AE X (.Name x px) [.Name y py] := by rfl) (h4 : AE X (.Name y py) [] := by rfl)
    (hs : swapsWithSole [.Tuple [.Name x px, .Name y py] kk pt] (.Call (.Name f0 pf) (e :: es) [] pp) pos1.line X.env = pure false := by rfl) (hw : swappedStores [.Tuple [.Name x px, .Name y py] kk pt] (.Call (.Name f0 pf) (e :: es) [] pp) X.env = pure none := by rfl)
    (h5 : (assignEach [.Tuple [.Name x px, .Name y py] kk pt] X.env).map (·.2) = [assign (.Tuple [.Name x px, .Name y py] kk pt) X.env] := by rfl)
    (hv : Vis X.env.scope y := by first | exact .inl rfl | exact .inr (.inl rfl) | exact .inr (.inr rfl)) (hd : (y == ("__debug__" : Str)) = false := by decide) (hcd : (y == ("__classdict__" : Str)) = false := by decide)
    (hs1 : starEach [e1, .Name y p4] X.env = (false, eval e1 X.env) :: starEach [.Name y p4] X.env := by rfl) (hs2 : starEach [.Name y p4] X.env = (false, eval (.Name y p4) X.env) :: starEach [] X.env := by rfl) {k2 : Nat} :
    WST X [.Assign [.Tuple [.Name x px, .Name y py] kk pt] (.Call (.Name f0 pf) (e :: es) [] pp) pos1, .Return (some (.Tuple [e1, .Name y p4] k2 p2)) pos] ρ Z := fun B σ G H F2 hW S k0 => by
  obtain ⟨f, fd, F, hm, hk, hb⟩ := F.ex
  refine wSs_of (pss_cons (ps_asg (pe_call F hr hg hm hk hb .nil pass0 pa_w hdb he hpl) (pg_tup hc (pgs_cons (pg_name (hXN ▸ S0.nd) hi hx hf) (pgs_cons (pg_name (hXN ▸ S0.nd) hj hy hf2) pgs_nil h4) h3) h1 h2) hs hw h5) (pss_one (ps_ret (pe_tup (pa_cons pe_w (pa_cons (pe_var hj hv hd hcd) pa_nil hs2) hs1))))) ?_
  refine h B σ G H S _ fun vs ds ρ' G' H' q S' y0 pu ia => ?_
  obtain ⟨rfl, g0⟩ := pu rfl
  refine ⟨G', ds, _, S'.ex, by rw [List.append_nil]; exact ia, q, fun v d G2 H2 zd gr iz fz => ?_⟩
  obtain ⟨a, l, rfl, q2⟩ := zd
  obtain ⟨T, xs, rfl, f1, f2⟩ := iz
  obtain ⟨w1, w2, rfl, j1, j2⟩ := isA_two f2
  obtain ⟨T', x', b, ys, eT, g1, g2, g3⟩ := fz
  cases eT
  rw [f1] at g1
  cases g1
  have S2 := S'.grow gr
  refine ⟨T, _, rfl, .inl (.inl (S2.ex _ _ f1)), rfl, w1, [.ref b], rfl, .ref b, [], rfl, rfl, ?_⟩
  have S3 := (S2.set (i := i) j1).set (i := j) j2
  refine q2 B _ G2 H2 S3 _ fun v1 d1 ρ3 G3 H3 q3 S4 x3 pu3 i3 => ?_
  have i3 : Is G3 d1 v1 := i3
  have hjσ : j < (σ.set i (some w1)).length := by rw [List.length_set, S.len]; exact hjρ
  refine ⟨.ref b, List.getElem?_set_self hjσ, ?_⟩
  refine ⟨by show 2 ≤ sizeLine; decide, fun U hU => ?_⟩
  have gr4 := Grow.new (o := .tup [v1, .ref b]) S4.ex hU
  have S5 := S4.grow gr4
  have e3 := gr4.g _ _ (x3 _ _ g2)
  have i5 : Is (upd G3 U (.tup [v1, .ref b])) (.lst l) (.ref b) := Is.mono (x3.trans gr4.g) _ _ j2
  exact k0 _ _ _ _ q3 S5.fin ⟨U, [v1, .ref b], rfl, upd_same, v1, [.ref b], rfl, Is.mono gr4.g _ _ i3, .ref b, [], rfl, i5, rfl⟩ ⟨U, v1, b, ys, rfl, upd_same, e3, S'.kn b g3⟩
variable {P : Program} {w : World} {K : PySem.W.Frag} {mg : Str → Option Value} {base : Heap}
theorem fnT {qual : Str} {st : Stmt} {f : Addr} {fd : FuncData} {k : Nat} {c : List D → (D → Prop) → Prop} (F : Fun K x qual st f fd) (S : FnScope N ps (defScope st)) (len : ∀ ds Z, c ds Z → ds.length = ps.length)
    (h : ∀ (cdv : Value) (A : Around) (outer : List Env) (s : Shared) (H : Hp) (E : XK) (ds : List D) (Z : D → Prop), Room k (A.deeper (envOfC qual (defScope st) s.heap.objs.size f cdv)) → c ds Z →
      WST (CxD P w K mg base N qual st f cdv A outer s H E) (defBody st) (rho0 N ds) Z) : FnOk P w K mg base CX0 (k + 1) f fd ps (spT c) := by
  refine F.ok S (fun vs H Q E hs => ?_) fun cdv A outer s H vs Q E hr hs => ?_
  · obtain ⟨G, ds, Z, _, i, hc, _⟩ := hs
    rw [i.length]
    exact len ds Z hc
  · obtain ⟨G, ds, Z, ex, i, hc, q⟩ := hs
    exact ⟨_, pss_w, h cdv A outer s H E ds Z hr hc ⟨H, G, [], 0⟩ _ G H _ rfl (sta_start ex i) fun v d G' H' z F iv fv => q v d G' H' z ⟨F.bg, fun a o e => F.fr a o e (by simp), F.ex, F.nw⟩ iv fv⟩
theorem Df.ofT {k : Nat} {c : List D → (D → Prop) → Prop} (F : Df P w K mg base k x ps (spT c)) : Df P w K mg base k x ps (spD c) := by
  obtain ⟨f, fd, F, r⟩ := F.ex
  exact ⟨f, fd, F.imp fun vs H Q E ⟨G, ds, Z, ex, i, hc, q⟩ => ⟨G, ds, Z, ex, i, hc, fun v d G' H' z gr iv _ => q v d G' H' z gr iv⟩, r⟩
/-- [elt for x, y in iter], new -/
theorem wn_lc2 (i j : Nat) (f : D → D) {Z : D → Prop} (S0 : FnScope N ps sc) (h : P2 true X scope i j x y px py pt kk iter elt f ρ fun d _ => Z d) (hXN : X.N = N := by rfl)
    (hbk : blkC X.N X.env.scope scope [(x, i), (y, j)] = true := by kernel_rfl) (hi : X.N[i]? = some x := by rfl) (hj : X.N[j]? = some y := by rfl)
    (hl : Loc1 X scope x := by intro _ _ _ _ _; first | exact ⟨.inl rfl, .inr rfl⟩ | exact ⟨.inr rfl, .inl rfl⟩) (hl2 : Loc1 X scope y := by intro _ _ _ _ _; first | exact ⟨.inl rfl, .inr rfl⟩ | exact ⟨.inr rfl, .inl rfl⟩)
    (h2 : Two X scope x y px py := by intro _ _ _ _ _; exact ⟨rfl, rfl, rfl, rfl⟩) (hc : X.calm = true := by rfl) (hs : ∀ x, foldedSetIterable iter X.env x = pure x := by intro _; rfl) : WNw X (.ListComp elt [⟨.Tuple [.Name x px, .Name y py] kk pt, iter, [], 0⟩] scope pos) ρ Z := fun B σ G H S R r => by
  have pe : PE X (.ListComp elt [⟨.Tuple [.Name x px, .Name y py] kk pt, iter, [], 0⟩] scope pos) (tLc (wI X (.Tuple [.Name x px, .Name y py] kk pt) iter) ((Tg.two i j).g X.K) tYes (cE X scope elt) [i, j]) :=
    pe_lc (own := [(x, i), (y, j)]) hc (hXN ▸ S0.nd) pi_w (blkOk_by hbk) (pg2 S0 hXN hc hi hl hj hl2 h2) (fun _ _ _ _ _ => pts_nil) pe_c hs
  refine wE_of pe ?_
  refine h B σ G H S _ fun J ds ρ1 G1 H1 q S1 y pu wk D hD => ?_
  obtain ⟨rfl, g0⟩ := pu rfl
  obtain ⟨hlen, turn, q⟩ := q
  have main := lc_go (X := X) (T := .two i j) (tt := tYes) (te := cE X scope elt) (vs := [i, j]) (Qd := fun v H' => v = .ref D → R v H') S1 wk (fun m hm => hm) (fun _ => true) f hlen (fun d hd => ?_) (fun a G' H' gr iv => ?_) D hD
  · obtain ⟨W, w0, ws⟩ := main
    exact ⟨W, w0, fun i m H hw => (ws i m H hw).imp (fun ⟨st, k⟩ => ⟨st, k rfl⟩) id⟩
  · obtain ⟨a, b, rfl, he⟩ := turn d hd
    refine ⟨_, rfl, fun σ' G2 H2 S2 R2 r2 => r2 G2 H2 S2 (Grow.refl S2.ex), fun _ σ' G2 H2 S2 R2 r2 s H0 C cl fp => ?_⟩
    refine he s H0 C cl fp B σ' G2 H2 S2 R2 fun v y ρ3 G3 H3 ey S3 x3 p3 i3 => ?_
    subst ey
    have e3 := (p3 rfl).1
    subst e3
    exact r2 v G3 H3 S3 (p3 rfl).2 i3
  · intro ea
    cases ea
    have e : ds.filter (fun _ => true) = ds := List.filter_eq_self.mpr fun _ _ => rfl
    rw [e] at iv
    have fresh : H D = none := by
      cases r0 : H D with
      | none => rfl
      | some o => rw [g0.h D o r0] at hD; cases hD
    exact r _ _ _ G' H' q (S1.grow gr) (g0.g.trans gr.g) (g0.h.trans gr.h) iv ⟨D, rfl, fresh⟩
end
end DD

namespace DD
open PySem PySem.Spec PyProof.Rows L2
theorem o_inD {g : Bool} {X : Cx} {Z : D → Prop} {x : D} {ds : List D} {a : PyData} {bs : List PyData} (hu : X.A.units + 65 < cLine) (hx : py x = some a) (hy : py (.lst ds) = some (.list bs)) (sx : SeqAt.shaped a = true) (sy : SeqAt.shaped (.list bs) = true) (q : Z (.bl (bs.any fun z => PyData.eqv z a))) : Op2 g X (compareOp .In) x (.lst ds) Z := by
  intro G H v u R ex i1 j k
  exact ⟨_, op_inD hu, a, bs, dp_of _ _ _ (is_any ex i1) hx, dp_of _ _ _ (is_any ex j) hy, sx, sy, k _ (.bl _) G H q (Grow.refl ex) rfl⟩
section
variable {X : Cx} {ρ : Rho} {E : DE}
theorem Sta.thaw1 {B : Base} {σ σ2 : L2.St} {G H0 G2 H2 : Hp} {i : Nat} {a : Addr} {o : HO} {d1 : D} (S : Sta B σ ρ G H0) (S2 : Sta B σ2 (ρ.set i (.val d1)) G2 H2) (hg : Ex G G2) (hH : Ex H0 H2) (hσ : ∀ m, m ≠ i → σ2[m]? = σ[m]?)
    (ha : H0 a = none) (hiρ : i < ρ.length) : Sta B σ2 (ρ.set i .un) (del a G2) (L2.upd H2 a o) := by
  have Ga : G a = none := by
    cases r : G a with
    | none => rfl
    | some u => have := S.ex a u r; rw [ha] at this; cases this
  have Ba : B.H a = none := S.kn a ha
  have BGa : B.G a = none := by
    cases r : B.G a with
    | none => rfl
    | some u => have := S.bx a u r; rw [Ba] at this; cases this
  have gx : Ex G (del a G2) := fun c u hc => by
    have q : c ≠ a := by rintro rfl; rw [Ga] at hc; cases hc
    rw [del_ne q]; exact hg c u hc
  have hρ : ∀ m s, m ≠ i → (ρ.set i .un)[m]? = some s → ρ[m]? = some s ∧ (ρ.set i (.val d1))[m]? = some s := fun m s h1 h3 => by
    rw [List.getElem?_set_ne (Ne.symm h1)] at h3
    refine ⟨h3, ?_⟩
    rw [List.getElem?_set_ne (Ne.symm h1)]
    exact h3
  refine ⟨?_, fun c u hc => ?_, fun c u hc hw => ?_, fun c hc => ?_, fun c u hc => S2.nw c u (del_ex c u hc), fun c u hc => ?_, S2.bx, fun l hl => ?_, fun m s w h1 h2 => ?_, fun m k l1 l2 o1 o2 mk h1 h2 => ?_⟩
  · rw [S2.len, List.length_set, List.length_set]
  · have q : c ≠ a := by rintro rfl; rw [del_same] at hc; cases hc
    rw [upd_ne q]; exact S2.ex c u (del_ex c u hc)
  · have q : c ≠ a := by rintro rfl; rw [Ba] at hc; cases hc
    rw [upd_ne q]; exact S2.fr c u hc hw
  · have q : c ≠ a := by rintro rfl; rw [upd_same] at hc; cases hc
    rw [upd_ne q] at hc; exact S2.kn c hc
  · have q : c ≠ a := by rintro rfl; rw [BGa] at hc; cases hc
    rw [del_ne q]; exact S2.bg c u hc
  · obtain ⟨⟨u, w, e, r⟩, k, hk⟩ := S2.pot l hl
    have q : l ≠ a := by rintro rfl; rw [Ba] at hk; cases hk
    exact ⟨⟨u, w, by rw [upd_ne q]; exact e, r⟩, k, hk⟩
  · by_cases mi : m = i
    · subst mi
      rw [List.getElem?_set_self hiρ] at h1
      cases h1
      trivial
    · obtain ⟨r1, r2⟩ := hρ m s mi h1
      have k2 := S2.env m s w r2 h2
      rw [hσ m mi] at h2
      have k := S.env m s w r1 h2
      cases s with
      | un => trivial
      | val d =>
        obtain ⟨x, e, iv⟩ := k
        exact ⟨x, e, Is.mono gx _ _ iv⟩
      | own lc ow =>
        obtain ⟨l, e, f1, f2, f3⟩ := k2
        have q : l ≠ a := by
          rintro rfl
          obtain ⟨l', e', _, _, ok⟩ := k
          rw [e] at e'
          cases e'
          obtain ⟨u, hu⟩ := ok.known
          rw [ha] at hu; cases hu
        refine ⟨l, e, by rw [del_ne q]; exact f1, f2, ?_⟩
        obtain ⟨l', e', _, _, ok⟩ := k
        rw [e] at e'
        cases e'
        exact ok.mono gx fun u z => by rw [upd_ne q]; exact hH _ _ z
  · have c1 : ∃ la oa, (ρ.set i (.val d1))[m]? = some (.own la oa) := by
      by_cases mi : m = i
      · subst mi
        rw [List.getElem?_set_self hiρ] at h1
        cases h1
      · exact ⟨_, _, (hρ m _ mi h1).2⟩
    have c2 : ∃ la oa, (ρ.set i (.val d1))[k]? = some (.own la oa) := by
      by_cases mi : k = i
      · subst mi
        rw [List.getElem?_set_self hiρ] at h2
        cases h2
      · exact ⟨_, _, (hρ k _ mi h2).2⟩
    obtain ⟨_, _, c1⟩ := c1
    obtain ⟨_, _, c2⟩ := c2
    exact S2.dist m k _ _ _ _ mk c1 c2
/-- x = e, a pair with a new list; two tests that fail; x[1].append(None): behind it x is forgotten -/
theorem ss_told {i : Nat} {x : Str} {px q1 q2 q3 q4 cp zp p1 p2 p3 p4 : Pos} {e c1 c2 : Expr} {b1 b2 rest : List Stmt} {jj kk} {N ps : List Str} {sc : Scope} {Z : D → Prop} (S0 : FnScope N ps sc) (hiρ : i < ρ.length)
    (h1 : ∀ (B : Base) (σ : L2.St) (G H : Hp), Sta B σ ρ G H → ∀ R : VK, (∀ v d G' H', Z d → Grow G H G' H' → Is G' d v → Fh2 G' H v → R v H') → wE X e σ H R)
    (hZ : ∀ d, Z d → ∃ a l, d = .tup [a, .lst l] ∧ l.length < 1000000)
    (hc1 : ∀ d, Z d → WT true X c1 (ρ.set i (.val d)) fun b _ => b = false) (hc2 : ∀ d, Z d → WT true X c2 (ρ.set i (.val d)) fun b _ => b = false) (h3 : WSs X rest (ρ.set i .un) E)
    (hXN : X.N = N := by rfl) (hi : X.N[i]? = some x := by rfl) (hx : Loc X.env.scope x := by first | exact .inl rfl | exact .inr rfl) (hf : X.fn x = true ∨ X.env.scope.names.lookup x = some .local := by first | exact .inl rfl | exact .inr rfl)
    (hv : Vis X.env.scope x := by first | exact .inl rfl | exact .inr (.inl rfl) | exact .inr (.inr rfl)) (hd : (x == ("__debug__" : Str)) = false := by decide) (hcd : (x == ("__classdict__" : Str)) = false := by decide)
    (hs2 : swapsWith e (some (.Name x px)) p1.line X.env = pure false := by rfl)
    (hpl : PlainIx (.Constant (.int 1) kk zp) := by exact fun _ _ => rfl)
    (hbase : attributeBase (.Subscript (.Name x q1) (.Constant (.int 1) kk zp) q4) "append" X.env (eval (.Subscript (.Name x q1) (.Constant (.int 1) kk zp) q4) X.env) = eval (.Subscript (.Name x q1) (.Constant (.int 1) kk zp) q4) X.env := by rfl)
    (hfew : ((backTo q3 (starEach [.Constant .none jj cp] X.env)).all (fun x => !x.1) && (backToKw q3 (keywordEach [] X.env)).all (fun x => x.1.isSome)
      && decide (([.Constant .none jj cp] : List Expr).length + ([] : List Keyword).length + (if ([] : List Keyword).isEmpty then 0 else 1) < 30)) = true := by rfl)
    (hline : (q2.endLine == q3.line) = true := by rfl) (hst : starEach [.Constant .none jj cp] X.env = (false, eval (.Constant .none jj cp) X.env) :: starEach [] X.env := by rfl) (hplain : (backTo q3 (starEach [] X.env)).any (·.1) = false := by rfl)
    (hs : swapsWith (.Call (.Attribute (.Subscript (.Name x q1) (.Constant (.int 1) kk zp) q4) "append" q2) [.Constant .none jj cp] [] q3) none p4.line X.env = pure false := by rfl) :
    WSs X (.Assign [.Name x px] e p1 :: .If c1 b1 [] p2 :: .If c2 b2 [] p3 :: .Expr (.Call (.Attribute (.Subscript (.Name x q1) (.Constant (.int 1) kk zp) q4) "append" q2) [.Constant .none jj cp] [] q3) p4 :: rest) ρ E := fun B σ G H F S L => by
  refine wSs_of (pss_cons (ps_set (hXN ▸ S0.nd) hi hx pe_w hs2 hf) (pss_cons (ps_if pt_w pss_w pss_nil) (pss_cons (ps_if pt_w pss_w pss_nil) (pss_cons (ps_expr (pe_bm PySem.F.plainAttrs_list PySem.F.slot_list_append PySem.F.type_list_append mt_append (pe_ix ix_tup (pe_var hi hv hd hcd) pe_int hpl) (pa_cons pe_non pa_nil hst) hbase hfew hline hst hplain) hs) pss_w)))) ?_
  refine h1 B σ G H S _ fun v d G1 H1 q gr iv fr => ?_
  have S1 : Sta B (σ.set i (some v)) (ρ.set i (.val d)) G1 H1 := (S.grow gr).set iv
  refine hc1 _ q B _ G1 H1 S1 _ fun b ρ' G2 H2 hb S2 x2 pu => ?_
  subst hb
  obtain ⟨rfl, gr2⟩ := pu rfl
  refine hc2 _ q B _ G2 H2 S2 _ fun b ρ' G3 H3 hb S3 x3 pu => ?_
  subst hb
  obtain ⟨rfl, gr3⟩ := pu rfl
  obtain ⟨a0, l0, rfl, hl0⟩ := hZ d q
  obtain ⟨T, x0, a, ys, rfl, f1, f2, f3⟩ := fr
  have hiσ : i < σ.length := by rw [S.len]; exact hiρ
  have g3t := gr3.g _ _ (gr2.g _ _ f1)
  have g3a := gr3.g _ _ (gr2.g _ _ f2)
  have hT := S3.ex _ _ g3t
  have hA := S3.ex _ _ g3a
  have hlen : ys.length = l0.length := by
    obtain ⟨T', xs, eT, e1, e2⟩ := iv
    cases eT
    rw [f1] at e1
    cases e1
    obtain ⟨w1, w2, ew, j1, j2⟩ := isA_two e2
    cases ew
    obtain ⟨a', zs, ea, k1, k2⟩ := j2
    cases ea
    rw [f2] at k1
    cases k1
    exact k2.length
  refine ⟨.ref T, List.getElem?_set_self hiσ, ?_⟩
  refine ⟨T, _, 1, .ref a, rfl, rfl, .inl (.inl hT), by unfold atI ixN; simp, ?_⟩
  refine ⟨.inl ⟨rfl, ys, .inl (.inl hA)⟩, ?_⟩
  refine ⟨a, ys, .non, rfl, rfl, hA, by rw [hlen]; exact Nat.lt_trans hl0 (by decide), ?_⟩
  have S4 := Sta.thaw1 (o := .lst (ys ++ [.non])) S S3 ((gr.g.trans gr2.g).trans gr3.g) ((gr.h.trans gr2.h).trans gr3.h) (fun m m1 => List.getElem?_set_ne (Ne.symm m1)) f3 hiρ
  have ex4 : Ex G (del a G3) := fun c u hc => by
    have q : c ≠ a := by
      rintro rfl
      have := S.ex c u hc
      rw [f3] at this; cases this
    rw [del_ne q]; exact gr3.g c u (gr2.g c u (gr.g c u hc))
  exact h3 B _ _ _ F S4 (L.mono ex4)
/-- f(k = e, ..), keywords in the parameters' own sequence, a pair with a new list -/
theorem wT_callI {k : Nat} {ps : List Str} {c : List D → (D → Prop) → Prop} {x : Str} {pp pos : Pos} {kws : List Keyword} {Z : D → Prop} (F : DfI X.prog X.w X.K X.mg X.base k x ps (spT c)) (hr : Room k X.A)
    (h : WK true true X kws ρ fun ds _ => c ds Z) (hg : Gl X x := by rfl) (hdb : (x == ("__debug__" : Str)) = false := by decide)
    (hall : (backToKw pos (keywordEach kws X.env)).all (·.1.isSome) = true := by rfl) (hks : (backToKw pos (keywordEach kws X.env)).filterMap (·.1) = ps := by rfl)
    (hpl : ((backTo pos (starEach [] X.env)).any (·.1) || (backToKw pos (keywordEach kws X.env)).any (·.1.isNone)) = false := by rfl) :
    ∀ (B : Base) (σ : L2.St) (G H : Hp), Sta B σ ρ G H → ∀ R : VK, (∀ v d G' H', Z d → Grow G H G' H' → Is G' d v → Fh2 G' H v → R v H') → wE X (.Call (.Name x pp) [] kws pos) σ H R := fun B σ G H S R r => by
  obtain ⟨f, fd, F, hm, hk, hb⟩ := F.ex
  refine wE_of (pe_callK0 F hr hg hm hk hb pass0 pk_w hall hks hdb hpl) ?_
  refine h B σ G H S _ fun vs ds ρ' G' H' q S' y pu i => ?_
  obtain ⟨rfl, g0⟩ := pu rfl
  refine ⟨G', ds, Z, S'.ex, i, q, fun v d G2 H2 z gr iz fz => ?_⟩
  obtain ⟨T, x, a, ys, rfl, f1, f2, f3⟩ := fz
  refine r _ d G2 H2 z (g0.trans gr) iz ⟨T, x, a, ys, rfl, f1, f2, ?_⟩
  cases r0 : H a with
  | none => rfl
  | some o => rw [g0.h a o r0] at f3; cases f3
end
end DD

namespace DD
open PySem PySem.Spec PyProof.Rows L2
section
variable {p g : Bool} {X : Cx} {ρ : Rho} {Q : D → Rho → Prop} {pos : Pos} {scope : Scope} {N ps : List Str} {sc : Scope} {x y : Str} {px py : Pos} {iter elt : Expr}
/-- [elt for x in iter for y in iter1] -/
theorem lc11 (i j : Nat) (inner : D → List D) (f : D → D → D) {iter1 : Expr} (S0 : FnScope N ps sc) (h : P11 p X scope i j x y px py iter iter1 elt inner f ρ Q) (hXN : X.N = N := by rfl) (hbk : blkC X.N X.env.scope scope [(x, i), (y, j)] = true := by kernel_rfl) (hi : X.N[i]? = some x := by rfl) (hj : X.N[j]? = some y := by rfl)
    (hl : Loc1 X scope x := by intro _ _ _ _ _; first | exact ⟨.inl rfl, .inr rfl⟩ | exact ⟨.inr rfl, .inl rfl⟩) (hl2 : Loc1 X scope y := by intro _ _ _ _ _; first | exact ⟨.inl rfl, .inr rfl⟩ | exact ⟨.inr rfl, .inl rfl⟩)
    (hc : X.calm = true := by rfl) (hs : ∀ x, foldedSetIterable iter X.env x = pure x := by intro _; rfl) (hs1 : ∀ env x, foldedSetIterable iter1 env x = pure x := by intro _ _; rfl) :
    W p g X (.ListComp elt [⟨.Name x px, iter, [], 0⟩, ⟨.Name y py, iter1, [], 0⟩] scope pos) ρ Q :=
  WX.w (pe_lc2 (own := [(x, i), (y, j)]) (vs1 := (Tg.one j).slots) hc (hXN ▸ S0.nd) pi_w (blkOk_by hbk) (slots_j x y i j) (pg1 S0 hXN hi hl) (fun _ _ _ _ _ => pts_nil) pi_c (pg1 S0 hXN hj hl2) (fun _ _ _ _ _ => pts_nil) pe_c hs hs1)
    (x_lc2 (T := .one i) (T1 := .one j) (own := [(x, i), (y, j)]) inner f (slots_i x y i j) (slots_j x y i j) fun B σ G H S R r => h B σ G H S R fun J ds ρ1 G1 H1 q S1 y pu wk => r J ds ρ1 G1 H1 ⟨q.1, fun d hd => ⟨_, rfl, (q.2.1 d hd).1, fun e he => ⟨_, rfl, (q.2.1 d hd).2 e he⟩⟩, q.2.2⟩ S1 y pu wk)
/-- z = [elt for x in iter if c] -/
theorem s_lc1If (l i : Nat) (bt : D → Bool) (f : D → D) {E : DE} {z : Str} {c : Expr} {pz spos : Pos} (S0 : FnScope N ps sc) (h : P1If false X scope i x px iter elt c bt f ρ fun d ρ' => E.nx (ρ'.set l (.val d))) (hXN : X.N = N := by rfl) (hbk : blkC X.N X.env.scope scope [(x, i)] = true := by kernel_rfl) (hi : X.N[i]? = some x := by rfl)
    (hl : Loc1 X scope x := by intro _ _ _ _ _; first | exact ⟨.inl rfl, .inr rfl⟩ | exact ⟨.inr rfl, .inl rfl⟩) (hc : X.calm = true := by rfl) (hs : ∀ x, foldedSetIterable iter X.env x = pure x := by intro _; rfl) (hz : X.N[l]? = some z := by rfl) (hzl : X.env.scope.names.lookup z = some .local := by rfl)
    (hsw : swapsWith (.ListComp elt [⟨.Name x px, iter, [c], 0⟩] scope pos) (some (.Name z pz)) spos.line X.env = pure true := by exact sw_true rfl rfl rfl (by decide +kernel)) :
    WS X (.Assign [.Name z pz] (.ListComp elt [⟨.Name x px, iter, [c], 0⟩] scope pos) spos) ρ E :=
  s_setX (ps_setLc (own := [(x, i)]) hc (hXN ▸ S0.nd) hz hzl hsw pi_w (blkOk_by hbk) (pg1 S0 hXN hi hl) pt_c pe_c hs) (x1If h)
end
end DD

namespace DD
open PySem PySem.Spec PyProof.Rows L2
section
variable {p g : Bool} {X : Cx} {ρ : Rho} {Q : D → Rho → Prop} {E : DE} {pos : Pos} {scope : Scope} {N ps : List Str} {sc : Scope} {x y z : Str} {px py pz pt : Pos} {kk : Nat} {iter elt : Expr}
/-- list(x), x a list or a tuple: an own list -/
theorem f_listR (i : Nat) {pp : Pos} {d : D} {ds : List D} {Q : Own → Rho → Prop} (hd0 : d = .lst ds ∨ d = .tup ds) (hm : X.mg "list" = none) (hr : ρ[i]? = some (.val d)) (q : Q (.lst ds) ρ) (hN : X.N[i]? = some x := by rfl) (hv : Vis X.env.scope x := by first | exact .inl rfl | exact .inr (.inl rfl) | exact .inr (.inr rfl)) (hd : (x == ("__debug__" : Str)) = false := by decide) (hcd : (x == ("__classdict__" : Str)) = false := by decide)
    (hg : Gl X "list" := by rfl) (he : starEach [.Name x px] X.env = (false, eval (.Name x px) X.env) :: starEach [] X.env := by rfl) (hpl : (backTo pos (starEach [] X.env)).any (·.1) = false := by rfl) : WF X (.Call (.Name "list" pp) [.Name x px] [] pos) ρ Q := fun B σ G H S R r => by
  refine wE_of (pe_callTy call_any hg hm (T := "list") (by decide +kernel) (pa_cons (pe_var hN hv hd hcd) pa_nil he) (by decide) (by decide) he hpl) ?_
  obtain ⟨v, e1, iv⟩ := S.valAt hr
  have iv' : ∃ a xs, v = .ref a ∧ (SqL X.K H a xs ∨ SqT X.K H a xs) ∧ IsA G ds xs := by
    rcases hd0 with rfl | rfl
    · obtain ⟨a, xs, rfl, e2, e3⟩ := iv
      exact ⟨a, xs, rfl, .inl (.inl (.inl (S.ex _ _ e2))), e3⟩
    · obtain ⟨a, xs, rfl, e2, e3⟩ := iv
      exact ⟨a, xs, rfl, .inr (.inl (.inl (S.ex _ _ e2))), e3⟩
  obtain ⟨a, xs, rfl, e2, e3⟩ := iv'
  refine ⟨_, e1, ⟨_, call_list_of, a, xs, rfl, e2, fun l hl => ?_⟩⟩
  obtain ⟨h1, h2, h3⟩ := new_own S hl
  exact r l (.lst ds) ρ G _ q (S.grow (Grow.own S.ex hl)) (Ex.refl G) h1 h2 h3 ⟨xs, upd_same, e3⟩
/-- x, y, z = e, the value a tuple of three -/
theorem s_unp3 (i j k : Nat) {e : Expr} (S0 : FnScope N ps sc) (h : W false true X e ρ fun d ρ' => ∃ a b c, d = .tup [a, b, c] ∧ E.nx (((ρ'.set i (.val a)).set j (.val b)).set k (.val c))) (hXN : X.N = N := by rfl) (hc : X.calm = true := by rfl) (hi : X.N[i]? = some x := by rfl) (hj : X.N[j]? = some y := by rfl) (hk : X.N[k]? = some z := by rfl)
    (hx : Loc X.env.scope x := by first | exact .inl rfl | exact .inr rfl) (hy : Loc X.env.scope y := by first | exact .inl rfl | exact .inr rfl) (hz : Loc X.env.scope z := by first | exact .inl rfl | exact .inr rfl) (hf : X.fn x = true ∨ X.env.scope.names.lookup x = some .local := by first | exact .inl rfl | exact .inr rfl) (hf2 : X.fn y = true ∨ X.env.scope.names.lookup y = some .local := by first | exact .inl rfl | exact .inr rfl) (hf3 : X.fn z = true ∨ X.env.scope.names.lookup z = some .local := by first | exact .inl rfl | exact .inr rfl)
    (h1 : (assignEach [.Name x px, .Name y py, .Name z pz] X.env).length = 3 := by rfl) (h2 : (assignEach [.Name x px, .Name y py, .Name z pz] X.env).findIdx? (·.1) = none := by rfl) (h3 : AE X (.Name x px) [.Name y py, .Name z pz] := by rfl) (h4 : AE X (.Name y py) [.Name z pz] := by rfl) (h6 : AE X (.Name z pz) [] := by rfl)
    (hs : swapsWithSole [.Tuple [.Name x px, .Name y py, .Name z pz] kk pt] e pos.line X.env = pure false := by rfl) (hw : swappedStores [.Tuple [.Name x px, .Name y py, .Name z pz] kk pt] e X.env = pure none := by rfl)
    (h5 : (assignEach [.Tuple [.Name x px, .Name y py, .Name z pz] kk pt] X.env).map (·.2) = [assign (.Tuple [.Name x px, .Name y py, .Name z pz] kk pt) X.env] := by rfl) : WS X (.Assign [.Tuple [.Name x px, .Name y py, .Name z pz] kk pt] e pos) ρ E := fun B σ G H F S L => by
  refine wS_of (ps_asg pe_w (pg_tup hc (pgs_cons (pg_name (hXN ▸ S0.nd) hi hx hf) (pgs_cons (pg_name (hXN ▸ S0.nd) hj hy hf2) (pgs_cons (pg_name (hXN ▸ S0.nd) hk hz hf3) pgs_nil h6) h4) h3) h1 h2) hs hw h5) ?_
  refine h B σ G H S _ fun v d ρ' G' H' q S' y0 pu iv => ?_
  obtain ⟨a, b, c, rfl, q⟩ := q
  obtain ⟨l, xs, rfl, e2, e3⟩ := iv
  obtain ⟨w1, r1, rfl, f1, w2, r2, rfl, f2, w3, r3, rfl, f3, e4⟩ := e3
  cases e4
  exact ⟨l, _, rfl, .inl (.inl (S'.ex _ _ e2)), rfl, w1, [w2, w3], rfl, w2, [w3], rfl, w3, [], rfl, rfl, L.nx _ _ G' H' q (((S'.set f1).set f2).set f3) y0⟩
/-- x, y, z = a, b, []: the third an own list -/
theorem s_par3N (i j k : Nat) {a b : Expr} {pl : Pos} {kt k2 pt2} (S0 : FnScope N ps sc) (hij : i ≠ j) (hik : i ≠ k) (hjk : j ≠ k)
    (h : W false true X a ρ fun d ρ1 => W false true X b ρ1 fun e ρ2 => E.nx (((ρ2.set i (.val d)).set j (.val e)).set k (.own true (.lst [])))) (hXN : X.N = N := by rfl) (hc : X.calm = true := by rfl) (hi : X.N[i]? = some x := by rfl) (hj : X.N[j]? = some y := by rfl) (hk : X.N[k]? = some z := by rfl)
    (hx : X.env.scope.names.lookup x = some .local := by rfl) (hy : X.env.scope.names.lookup y = some .local := by rfl) (hz : X.env.scope.names.lookup z = some .local := by rfl)
    (hs1 : starEach [a, b, .List [] pl] X.env = (false, eval a X.env) :: starEach [b, .List [] pl] X.env := by rfl) (hs2 : starEach [b, .List [] pl] X.env = (false, eval b X.env) :: starEach [.List [] pl] X.env := by rfl) (hs3 : starEach [.List [] pl] X.env = (false, eval (.List [] pl) X.env) :: starEach [] X.env := by rfl)
    (hw : swappedStores [.Tuple [.Name x px, .Name y py, .Name z pz] kt pt] (.Tuple [a, b, .List [] pl] k2 pt2) X.env = pure (some [x, y, z]) := by rfl)
    (hs : swapsWithSole [.Tuple [.Name x px, .Name y py, .Name z pz] kt pt] (.Tuple [a, b, .List [] pl] k2 pt2) pos.line X.env = pure false := by rfl) :
    WS X (.Assign [.Tuple [.Name x px, .Name y py, .Name z pz] kt pt] (.Tuple [a, b, .List [] pl] k2 pt2) pos) ρ E := fun B σ G H F S L => by
  refine wS_of (ps_par3 hc (hXN ▸ S0.nd) hi hj hk hij hik hjk hx hy hz (pa_cons pe_w (pa_cons pe_w (pa_cons (pe_lst pa_nil) pa_nil hs3) hs2) hs1) hw hs) ?_
  refine h B σ G H S _ fun v1 d1 ρ1 G1 H1 q1 S1 x1 pu1 i1 => ?_
  refine q1 B σ G1 H1 S1 _ fun v2 d2 ρ2 G2 H2 q S2 x2 pu2 i2 => ?_
  have i1 : Is G1 d1 v1 := i1
  have i2 : Is G2 d2 v2 := i2
  refine ⟨Nat.zero_le _, fun l hl => ⟨v1, v2, .ref l, rfl, ?_⟩⟩
  obtain ⟨h1, h2, h3⟩ := new_own S2 hl
  have S3 := S2.grow (Grow.own (o := .lst []) S2.ex hl)
  have S4 := (S3.set (i := i) (Is.mono x2 _ _ i1)).set (i := j) i2
  refine L.nx _ _ G2 _ q (S4.setOwn (i := k) (l := l) h1 h2 ⟨[], upd_same, rfl⟩ fun m lc u hm hs => ?_) (x1.trans x2)
  have nv : ∀ {ρ : Rho} {i : Nat} {d : D}, (ρ.set i (.val d))[i]? ≠ some (.own lc u) := fun {ρ i d} z => by
    rw [List.getElem?_set] at z
    simp only [if_true] at z
    split at z <;> cases z
  by_cases hjm : j = m
  · subst hjm
    exact nv hm
  · rw [List.getElem?_set_ne hjm] at hm hs
    by_cases him : i = m
    · subst him
      exact nv hm
    · rw [List.getElem?_set_ne him] at hm hs
      exact h3 m hs lc u hm
end
end DD

namespace DD
open PySem PySem.Spec PyProof.Rows L2
/-! ### zip of two, each a list or a tuple -/
def ItZ2 (K : PySem.W.Frag) (b1 b2 : Bool) (a b : Addr) : It where
  go := fun i H => ∃ (xs ys : List V) (x y : V), (SqB K b1 H a xs ∧ SqB K b2 H b ys) ∧ xs[i]? = some x ∧ ys[i]? = some y
  yld := fun i H v H' => ∃ T x y, v = .ref T ∧ H T = none ∧ H' = upd H T (.tup [x, y]) ∧ (∀ l, SqB K b1 H a l → l[i]? = some x) ∧ ∀ l, SqB K b2 H b l → l[i]? = some y
  stop := fun i H => ∃ xs ys : List V, (SqB K b1 H a xs ∧ SqB K b2 H b ys) ∧ i = min xs.length ys.length
structure Z2St (b1 b2 : Bool) (z TI TO i1 i2 a b : Addr) (i : Nat) (h : Heap) : Prop where
  z : IsZip h z TI TO .none
  p : IsTupOf2 h TI (.ref i1) (.ref i2)
  o : ∃ u v, IsTupOf2 h TO u v
  t : ItB b1 h i1 a i
  l : ItB b2 h i2 b i
theorem turn_Z2 {P : Program} {w : World} {K : PySem.W.Frag} {elts : List Expr} {kk : Nat} {tpos : Pos} {b1 b2 : Bool} {a b z TI TO i1 i2 : Addr} (D : ZipSep2 z TI TO i1 i2 [i1, a] [i2, b]) (ha : a ≠ i1) (hb : b ≠ i2) :
    Turn P w K (.Tuple elts kk tpos) (ItZ2 K b1 b2 a b) [z, TI, TO, i1, i2] z (Z2St b1 b2 z TI TO i1 i2 a b) where
  mem := by simp
  obj := fun i h st c hc => by
    obtain ⟨o1, e1, d1⟩ := st.t.cell
    obtain ⟨o2, e2, d2⟩ := st.l.cell
    obtain ⟨u, v, e3⟩ := st.o
    rcases (show c = z ∨ c = TI ∨ c = TO ∨ c = i1 ∨ c = i2 by simpa using hc) with rfl | rfl | rfl | rfl | rfl
    · exact ⟨_, st.z, fun _ q => by cases q⟩
    · exact ⟨_, st.p, fun _ q => by cases q⟩
    · exact ⟨_, e3, fun _ q => by cases q⟩
    · exact ⟨_, e1, fun v q => d1 v q⟩
    · exact ⟨_, e2, fun v q => d2 v q⟩
  keep := fun i h h' st k => by
    obtain ⟨u, v, e3⟩ := st.o
    exact ⟨k z (by simp) _ st.z, k TI (by simp) _ st.p, ⟨u, v, k TO (by simp) _ e3⟩, st.t.at fun o => k i1 (by simp) o, st.l.at fun o => k i2 (by simp) o⟩
  item := by
    intro X hP hw hK hc i pins s σ H E I hf st hg
    subst hP hw hK
    obtain ⟨xs, ys, x, y, ⟨qa, qb⟩, hx, hy⟩ := hg
    obtain ⟨ia, ra, pa, _⟩ := SqB.seq I qa
    obtain ⟨ib, rb, pb, _⟩ := SqB.seq I qb
    obtain ⟨va, ga, wa⟩ := ra.get hx
    obtain ⟨vb, gb, wb⟩ := rb.get hy
    have la : i < ia.toArray.size := by have := (List.getElem?_eq_some_iff.mp ga).1; simpa using this
    have lb : i < ib.toArray.size := by have := (List.getElem?_eq_some_iff.mp gb).1; simpa using this
    have lz : z < s.heap.objs.size := Heap.lt_size st.z
    obtain ⟨u0, v0, eO⟩ := st.o
    refine wpAny_pyNext_zipD2_item D (drB (A := X.A.in1) (I.ok.hd hc) i1 a ha ia.toArray b1) (drB (A := X.A.in1) (I.ok.hd hc) i2 b hb ib.toArray b2) st.z st.p eO ⟨st.t, pa⟩ ⟨st.l, pb⟩ la lb fun y1 y2 h1 tk f1 f2 g1 g2 g3 g4 g5 g6 hk => ?_
    have e1 : y1 = va := by
      have q : ia[i]? = some y1 := by simpa using f1
      rw [ga] at q; cases q; rfl
    have e2 : y2 = vb := by
      have q : ib[i]? = some y2 := by simpa using f2
      rw [gb] at q; cases q; rfl
    subst e1; subst e2
    refine ⟨_, rfl, wpAny_letOwnedTupleGo_zip (s := { s with heap := h1, toks := tk }) g1 fun h2 z2 sb => ?_⟩
    have hT : h2.get? s.heap.objs.size = some { cls := .type "tuple", data := .seq #[y1, y2] } := (sb.2 _ (Nat.ne_of_gt lz)).trans g5
    have new : ObjOk X.prog X.w (upd H s.heap.objs.size (.tup [x, y])) h2 s.heap.objs.size (.tup [x, y]) := ⟨by show 2 ≤ sizeLine; decide, [y1, y2], .cons wa (.cons wb .nil), ⟨_, hT, rfl, _, rfl⟩⟩
    have I2 : Inv X pins σ (upd H s.heap.objs.size (.tup [x, y])) { s with heap := h2, toks := tk } := I.turnedNew (ch := [z, TI, TO, i1, i2]) (fun c ob hm q => by
      have n : c ≠ z ∧ c ≠ TI ∧ c ≠ TO ∧ c ≠ i1 ∧ c ≠ i2 := by simpa using hm
      exact (sb.2 c n.1).trans (hk c ob n.1 n.2.2.1 n.2.2.2.1 n.2.2.2.2 q)) hf (Nat.le_refl _) new
    have nz1 : i1 ≠ z := fun e => D.zf1 (e ▸ D.mem1)
    have nz2 : i2 ≠ z := fun e => D.zf2 (e ▸ D.mem2)
    refine ⟨.ref s.heap.objs.size, _, I2, rfl, ⟨_, x, y, rfl, I.hok.fresh (Nat.le_refl _), rfl, fun l hl => ?_, fun l hl => ?_⟩, ⟨z2, (sb.2 _ D.TIz).trans (hk _ _ D.TIz D.TITO D.TIi1 D.TIi2 st.p), ⟨y1, y2, (sb.2 _ D.TOz).trans g2⟩, g3.1.at fun o q => (sb.2 _ nz1).trans q, g4.1.at fun o q => (sb.2 _ nz2).trans q⟩, fun c hm => ?_⟩
    · rw [SqB.inj I hl qa]; exact hx
    · rw [SqB.inj I hl qb]; exact hy
    · have lt : c < s.heap.objs.size := by
        obtain ⟨o1, k1, _⟩ := st.t.cell
        obtain ⟨o2, k2, _⟩ := st.l.cell
        rcases (show c = z ∨ c = TI ∨ c = TO ∨ c = i1 ∨ c = i2 by simpa using hm) with rfl | rfl | rfl | rfl | rfl
        · exact lz
        · exact Heap.lt_size st.p
        · exact Heap.lt_size eO
        · exact Heap.lt_size k1
        · exact Heap.lt_size k2
      rw [upd_ne (Nat.ne_of_lt lt)]
      exact (hf c hm).1
  done := by
    intro X hP hw hK hc i pins s σ H E I hf st hg
    subst hP hw hK
    obtain ⟨xs, ys, ⟨qa, qb⟩, he⟩ := hg
    obtain ⟨ia, ra, pa, _⟩ := SqB.seq I qa
    obtain ⟨ib, rb, pb, _⟩ := SqB.seq I qb
    have la := ra.length
    have lb := rb.length
    obtain ⟨u0, v0, eO⟩ := st.o
    have sa : ia.toArray.size = xs.length := by simp [la]
    have sb : ib.toArray.size = ys.length := by simp [lb]
    refine wpAny_pyNext_zipD2_end D (drB (A := X.A.in1) (I.ok.hd hc) i1 a ha ia.toArray b1) (drB (A := X.A.in1) (I.ok.hd hc) i2 b hb ib.toArray b2) st.z st.p eO ⟨st.t, pa⟩ ⟨st.l, pb⟩ (by omega) (by omega) (by omega) fun h' tk hk => ⟨rfl, I.turnedL (ch := [z, TI, TO, i1, i2]) (fun c ob hm q => ?_) hf⟩
    have n : c ≠ z ∧ c ≠ TI ∧ c ≠ TO ∧ c ≠ i1 ∧ c ≠ i2 := by simpa using hm
    exact hk c ob n.1 n.2.2.1 n.2.2.2.1 n.2.2.2.2 q
  self := fun A i s Q E st h => wpAny_pyIter_zip st.z h
def iZ2 (K : PySem.W.Frag) (b1 b2 : Bool) (ta : TA) : TI := fun σ H R => ta σ H fun vs H1 => ∃ a b xs ys, vs = [.ref a, .ref b] ∧ SqB K b1 H1 a xs ∧ SqB K b2 H1 b ys ∧ R (ItZ2 K b1 b2 a b) H1
theorem pi_Z2 (b1 b2 : Bool) {X : Cx} {e e2 : Expr} {ta : TA} {pp pos tpos : Pos} {elts : List Expr} {kk : Nat} (hg : Gl X "zip") (hm : X.mg "zip" = none) (ha : PA X [e, e2] ta)
    (hs : starEach [e, e2] X.env = (false, eval e X.env) :: starEach [e2] X.env := by rfl) (hpl : (backTo pos (starEach [e2] X.env)).any (·.1) = false := by rfl) : PI X (.Tuple elts kk tpos) (.Call (.Name "zip" pp) [e, e2] [] pos) (iZ2 X.K b1 b2 ta) := by
  refine ⟨fun pins s σ H R I hyp => ?_⟩
  refine Call_ (ld_blt I hg hm PyProof.Rows.boot_zip (PyProof.Rows.callWith_type1 (thn (ha.run pos pins s σ H _ I hyp) fun us s1 ⟨vs, H1, I1, r1, q1⟩ => ?_) hs hpl))
  obtain ⟨a, b, xs, ys, rfl, qa, qb, q⟩ := q1
  cases r1 with
  | cons ra rr =>
    cases rr with
    | cons rb rr =>
      cases rr; cases ra; cases rb
      obtain ⟨ia, va, pa, la⟩ := SqB.seq I1 qa
      obtain ⟨ib, vb, pb, lb⟩ := SqB.seq I1 qb
      refine zip_begins2 (bgB a ia.toArray b1) (bgB b ib.toArray b2) pa pb fun h' g1 g2 g3 g4 g5 g6 hk => wpAny_pyIter_zip g1 ?_
      have I2 : Inv X pins σ H1 { s1 with heap := h' } := I1.kept (t' := s1.toks) hk
      have D := zip_sep2 (N := s1.heap.objs.size) (fp1 := [a]) (fp2 := [b]) (fun c hc => by rw [List.mem_singleton.mp hc]; exact la) (fun c hc => by rw [List.mem_singleton.mp hc]; exact lb)
      refine ⟨_, [s1.heap.objs.size + 4, s1.heap.objs.size + 2, s1.heap.objs.size + 3, s1.heap.objs.size, s1.heap.objs.size + 1], _, _, H1, rfl, I2, turn_Z2 D (Nat.ne_of_lt la) (Nat.ne_of_lt (Nat.lt_succ_of_lt lb)), ⟨g1, g2, ⟨_, _, g3⟩, ItB.new g4, ItB.new g5⟩, fun c hm => ?_, q⟩
      have le : s1.heap.objs.size ≤ c := by
        rcases (show c = s1.heap.objs.size + 4 ∨ c = s1.heap.objs.size + 2 ∨ c = s1.heap.objs.size + 3 ∨ c = s1.heap.objs.size ∨ c = s1.heap.objs.size + 1 by simpa using hm) with z | z | z | z | z <;> rw [z] <;> first | exact Nat.le_refl _ | exact Nat.le_add_right _ _
      exact I1.fpOk le (I1.hok.fresh le)
theorem walk_Z2 {K : PySem.W.Frag} {b1 b2 : Bool} {a b : Addr} {xs ys : List V} : Walk (ItZ2 K b1 b2 a b) (min xs.length ys.length) (fun H => SqB K b1 H a xs ∧ SqB K b2 H b ys) (YPair (fun i => xs[i]?) (fun i => ys[i]?)) where
  goes := fun i H hi q => ⟨xs, ys, xs[i]'(by omega), ys[i]'(by omega), q, List.getElem?_eq_getElem (by omega), List.getElem?_eq_getElem (by omega)⟩
  stops := fun H q => ⟨xs, ys, q, rfl⟩
  yields := fun i H v H' _ q y => by
    obtain ⟨T, x, u, z1, z2, z3, z4, z5⟩ := y
    exact ⟨T, x, u, z1, z2, z3, z4 xs q.1, z5 ys q.2⟩
section
variable {X : Cx} {p : Bool} {ρ : Rho} {QI : List D → Rho → Prop}
theorem wi_zipB (b1 b2 : Bool) {a b : Expr} {elts : List Expr} {kk : Nat} {pp pos tpos : Pos} (hg : Gl X "zip") (hm : X.mg "zip" = none) (h : WA p true X [a, b] ρ fun ds ρ' => ∃ xs ys, ds = [isB2 b1 xs, isB2 b2 ys] ∧ QI ((xs.zip ys).map fun q => D.tup [q.1, q.2]) ρ')
    (hs : starEach [a, b] X.env = (false, eval a X.env) :: starEach [b] X.env := by rfl) (hpl : (backTo pos (starEach [b] X.env)).any (·.1) = false := by rfl) : WI p X (.Tuple elts kk tpos) (.Call (.Name "zip" pp) [a, b] [] pos) ρ QI := fun B σ G H S R r => by
  refine wI_of (pi_Z2 b1 b2 hg hm pa_w hs hpl) ?_
  refine h B σ G H S _ fun vs ds ρ' G' H' q S' x pu i => ?_
  obtain ⟨xs, ys, rfl, q⟩ := q
  obtain ⟨v, u, rfl, iv, iu⟩ := isA_two i
  obtain ⟨l1, as, rfl, s1, e3⟩ := seq_of S'.ex (K := X.K) iv
  obtain ⟨l2, bs, rfl, s2, f3⟩ := seq_of S'.ex (K := X.K) iu
  refine ⟨l1, l2, as, bs, rfl, s1 _ S'.ex, s2 _ S'.ex, r _ _ ρ' G' H' q S' x pu ?_⟩
  exact walkD_pair (n := min as.length bs.length) (by rw [e3.length, f3.length]) (walk_Z2 (xs := as) (ys := bs)) (fun H h => ⟨s1 _ h, s2 _ h⟩) (fun i d hd => e3.get hd) (fun i d hd => f3.get hd)
end
end DD

namespace DD
open PySem PySem.Spec PyProof.Rows L2
/-! ### any plain value, shown -/
mutual
def plainP : PyData → Bool
  | .none => true
  | .bool _ => true
  | .int i => decide (i.natAbs.log2 < 1920)
  | .str x => decide ((reprText x).length ≤ 1000)
  | .list xs => plainPA xs
  | .tuple xs => plainPA xs
  | .dict _ => false
def plainPA : List PyData → Bool
  | [] => true
  | x :: xs => plainP x && plainPA xs
end
mutual
theorem shownP_up : ∀ d : PyData, plainP d = true → d.shown.length + 2 ≤ 2000 * nod d
  | .none, h => by show ("None" : Str).length + 2 ≤ 2000 * 1; decide
  | .bool b, h => by cases b <;> decide
  | .str x, h => by
    have h : (reprText x).length ≤ 1000 := of_decide_eq_true h
    show (reprText x).length + 2 ≤ 2000 * 1
    omega
  | .int i, h => by
    have := int_text_len_1921 (of_decide_eq_true h)
    show (Str.ofString (toString i)).length + 2 ≤ 2000 * 1
    omega
  | .list xs, h => by
    have := shownPA_up xs h
    have := textFrom_up (PyData.shownAll xs) 0 "["
    show (listText (PyData.shownAll xs)).length + 2 ≤ 2000 * (nodA xs + 1)
    unfold listText
    rw [strLen]
    have e1 : (("[" : Str)).length = 1 := rfl
    have e2 : (("]" : Str)).length = 1 := rfl
    omega
  | .tuple xs, h => by
    have := shownPA_up xs h
    have := tupleText_up (PyData.shownAll xs)
    show (tupleText (PyData.shownAll xs)).length + 2 ≤ 2000 * (nodA xs + 1)
    omega
  | .dict _, h => by cases h
theorem shownPA_up : ∀ xs : List PyData, plainPA xs = true → piled (PyData.shownAll xs) ≤ 2000 * nodA xs
  | [], _ => Nat.le_refl _
  | x :: xs, h => by
    have a := shownP_up x (Bool.and_eq_true_iff.mp h).1
    have b := shownPA_up xs (Bool.and_eq_true_iff.mp h).2
    show piled (x.shown :: PyData.shownAll xs) ≤ 2000 * (nod x + nodA xs)
    rw [piled_cons]
    omega
end
mutual
theorem plainP_show : ∀ d : PyData, plainP d = true → d.showable = true ∧ d.hasDict = false
  | .none, h => ⟨rfl, rfl⟩
  | .bool _, h => ⟨rfl, rfl⟩
  | .str _, h => ⟨rfl, rfl⟩
  | .int i, h => ⟨h, rfl⟩
  | .list xs, h => plainPA_show xs h
  | .tuple xs, h => plainPA_show xs h
  | .dict _, h => by cases h
theorem plainPA_show : ∀ xs : List PyData, plainPA xs = true → PyData.showableAll xs = true ∧ PyData.hasDictAll xs = false
  | [], _ => ⟨rfl, rfl⟩
  | x :: xs, h => by
    have a := plainP_show x (Bool.and_eq_true_iff.mp h).1
    have b := plainPA_show xs (Bool.and_eq_true_iff.mp h).2
    refine ⟨?_, ?_⟩
    · show (x.showable && PyData.showableAll xs) = true
      rw [a.1, b.1]; rfl
    · show (x.hasDict || PyData.hasDictAll xs) = false
      rw [a.2, b.2]; rfl
end
def RP (d : D) : Prop := (∃ q, py d = some q ∧ plainP q = true ∧ q.depth ≤ 64 ∧ nod q ≤ 8000) ∨ d = .dic []
def shD (d : D) : Str := match py d with
  | some q => q.shown
  | none => (PyData.dict []).shown
section
variable {X : Cx} {g : Bool} {Z : D → Prop}
theorem call_shownP (hG : X.A.guards = some []) (hu : X.A.units + 80 < cLine) : CallR X (.builtin "repr") (fun xs H Q => ∃ (v : V) (q : PyData), xs = [v] ∧ Dp X.K H v q ∧ plainP q = true ∧ q.depth ≤ 64 ∧ nod q ≤ 8000 ∧ Q (.str q.shown) H) := by
  intro pins s σ H xs us Q I r h
  obtain ⟨v, q, rfl, dp, pl, dep, sz, k⟩ := h
  obtain ⟨u, rfl, ru⟩ := vals1 r
  have up := shownP_up q pl
  have e : sizeLine = 16777216 := by decide
  cases dp with
  | non => cases ru; exact PySem.P.repr_of_none ⟨.str _, H, I.tok _, ⟨_, rfl⟩, k⟩
  | bl b => cases ru; exact PySem.P.repr_of_bool ⟨.str _, H, I.tok _, ⟨_, rfl⟩, k⟩
  | int i => obtain ⟨t, rfl⟩ := ru; exact PySem.P.repr_of_int (of_decide_eq_true pl) ⟨.str _, H, I.tok _, ⟨_, rfl⟩, k⟩
  | str x => obtain ⟨t, rfl⟩ := ru; exact PySem.P.repr_of_str ⟨.str _, H, I.tok _, ⟨_, rfl⟩, k⟩ (by have : (reprText x).length ≤ 1000 := of_decide_eq_true pl; omega)
  | lst h1 h2 =>
    cases ru
    obtain ⟨as, rd⟩ := Dp.reads I _ _ _ (Dp.lst h1 h2) rfl
    obtain ⟨s1, s2⟩ := plainP_show _ pl
    exact repr_of_reads' rd s1 (PyData.noDict_hsm s2) hG (by omega) (fun _ _ e => e) (fun h' t tk keep => ⟨.str _, H, I.kept (t' := tk) keep, ⟨_, rfl⟩, k⟩) (by omega)
  | tup h1 h2 =>
    cases ru
    obtain ⟨as, rd⟩ := Dp.reads I _ _ _ (Dp.tup h1 h2) rfl
    obtain ⟨s1, s2⟩ := plainP_show _ pl
    exact repr_of_reads' rd s1 (PyData.noDict_hsm s2) hG (by omega) (fun _ _ e => e) (fun h' t tk keep => ⟨.str _, H, I.kept (t' := tk) keep, ⟨_, rfl⟩, k⟩) (by omega)
theorem call_shownE (hG : X.A.guards = some []) (hu : X.A.units + 80 < cLine) : CallR X (.builtin "repr") (fun xs H Q => ∃ a : Addr, xs = [.ref a] ∧ H a = some (.dK []) ∧ Q (.str (PyData.dict []).shown) H) := by
  intro pins s σ H xs us Q I r h
  obtain ⟨a, rfl, ha, k⟩ := h
  obtain ⟨u, rfl, ru⟩ := vals1 r
  cases ru
  obtain ⟨_, hsm, vs, kv, dof⟩ := (show ObjOk X.prog X.w H s.heap a (.dK []) from I.hok a _ ha)
  cases kv
  obtain ⟨o, es, ep, ho, hx, hdat, _, hp, _⟩ := dof
  have he : es.toList = [] := by cases hes : es.toList with
    | nil => rfl
    | cons a r => rw [hes] at hp; cases hp
  have rd : Reads s.heap (.ref a) (.dict []) [a] := Reads.dict (as := []) (bs := []) ho hx.1 hdat (by rw [he]; exact .nil) (by rw [he]; exact .nil)
  have hl : (PyData.dict []).shown.length ≤ sizeLine := by decide
  exact repr_of_reads' rd rfl (fun _ hm => by
    have e : sysModules = a := by simpa using hm
    rw [e] at hsm
    simp at hsm) hG (by show X.A.units + (PyData.depth (.dict []) + 1) < cLine; have : PyData.depth (.dict []) ≤ 1 := by decide
                        omega) (fun _ _ e => e) (fun h' t tk keep => ⟨.str _, H, I.kept (t' := tk) keep, ⟨_, rfl⟩, k⟩) hl
theorem c_reprP {d : D} (hG : X.A.guards = some []) (hu : X.A.units + 80 < cLine) (h : RP d) (k : Z (.str (shD d))) : OpC g X (.builtin "repr") [d] Z := by
  intro G H vs R ex i kk
  obtain ⟨v, rfl, e⟩ := isA_one (isA_any ex i)
  rcases h with ⟨q, hq, pl, dep, sz⟩ | rfl
  · unfold shD at k
    rw [hq] at k
    exact ⟨_, call_shownP hG hu, v, q, rfl, dp_of _ _ _ e hq, pl, dep, sz, kk _ (.str q.shown) G H k (Grow.refl ex) rfl⟩
  · obtain ⟨a, ks, rfl, ha, ik⟩ := e
    cases ik
    exact ⟨_, call_shownE hG hu, a, rfl, ha, kk _ (.str _) G H k (Grow.refl ex) rfl⟩
end
end DD

namespace DD
open PySem PySem.Spec PyProof.Rows L2
section
variable {p g : Bool} {X : Cx} {ρ : Rho} {Q : D → Rho → Prop} {pos : Pos}
theorem w_slT {e : Expr} {lo hi : Option Expr} {p2 : Pos} (h : W p true X e ρ fun d ρ1 => ∃ xs, d = .tup xs ∧ WO X lo ρ1 fun l => WO X hi ρ1 fun u => Q (.tup (cutD xs l u)) ρ1) : W p g X (.Subscript e (.Slice lo hi none p2) pos) ρ Q := fun B σ G H S R r => by
  refine wE_of (pe_slice sl_tupA pe_w po_w po_w) ?_
  refine h B σ G H S _ fun v d ρ1 G1 H1 q S1 y pu i => ?_
  obtain ⟨xs, rfl, q⟩ := q
  refine wo_go q S1 fun l G2 H2 q2 S2 gr2 => ?_
  refine wo_go q2 S2 fun u G3 H3 q3 S3 gr3 => ?_
  have i3 := Is.mono (gr2.g.trans gr3.g) _ _ i
  obtain ⟨a, as, rfl, e2, e3⟩ := i3
  refine ⟨a, as, rfl, .inl (.inl (S3.ex _ _ e2)), fun hw => ?_, fun _ b hb => ?_⟩
  · rw [e3.length] at hw
    have ec : cutD xs l u = xs := by
      unfold cutD
      rw [hw.1, hw.2, List.drop_zero, Nat.sub_zero, List.take_length]
    rw [ec] at q3
    exact r _ (.tup xs) ρ1 _ _ q3 S3 ((y.trans gr2.g).trans gr3.g) (fun z => ⟨(pu z).1, (((pu z).2.trans gr2).trans gr3)⟩) (is_h S3 ⟨a, _, rfl, e2, e3⟩)
  · have gr := Grow.new (o := .tup (cutV as l u)) S3.ex hb
    exact r _ (.tup (cutD xs l u)) ρ1 _ _ q3 (S3.grow gr) (((y.trans gr2.g).trans gr3.g).trans gr.g) (fun z => ⟨(pu z).1, (((pu z).2.trans gr2).trans gr3).trans gr⟩) (is_h (S3.grow gr) ⟨b, _, rfl, upd_same, IsA.mono gr.g _ _ (e3.cut l u)⟩)
theorem o_catT {X : Cx} {Z : D → Prop} {xs ys : List D} (q : xs.length + ys.length ≤ sizeLine ∧ Z (.tup (xs ++ ys))) : Op2 true X (binaryOp .Add) (.tup xs) (.tup ys) Z := by
  intro G H v u R ex ⟨a, as, e1, e2, e3⟩ ⟨b, bs, f1, f2, f3⟩ k
  refine ⟨_, op_catA, a, b, as, bs, e1, f1, .inl (.inl (ex _ _ e2)), .inl (.inl (ex _ _ f2)), by rw [e3.length, f3.length]; exact q.1, fun h0 => ?_, fun _ h0 => ?_, fun _ _ p hp => ?_⟩
  · subst h0
    have : xs = [] := List.length_eq_zero_iff.mp e3.length.symm
    subst this
    exact k _ (.tup ys) _ _ q.2 (Grow.refl ex) ⟨b, bs, rfl, f2, f3⟩
  · subst h0
    have : ys = [] := List.length_eq_zero_iff.mp f3.length.symm
    subst this
    have q2 := q.2
    rw [List.append_nil] at q2
    exact k _ (.tup xs) _ _ q2 (Grow.refl ex) ⟨a, as, rfl, e2, e3⟩
  · have gr := Grow.new (o := .tup (as ++ bs)) ex hp
    exact k _ (.tup (xs ++ ys)) _ _ q.2 gr ⟨p, _, rfl, upd_same, IsA.mono gr.g _ _ (e3.append f3)⟩
/-- {} -/
theorem w_dic (q : Q (.dic []) ρ) : W p g X (.Dict [] [] pos) ρ Q := fun B σ G H S R r => by
  refine wE_of pe_dnewK fun l hl => ?_
  have gr := Grow.new (o := .dK []) S.ex hl
  exact r _ (.dic []) ρ _ _ q (S.grow gr) gr.g (fun z => ⟨rfl, gr⟩) (is_h (S.grow gr) ⟨l, _, rfl, upd_same, rfl⟩)
end
/-! ### how great a plain value is -/
mutual
def szD : D → Option Nat
  | .non => some 1
  | .bl _ => some 1
  | .int i => if i.natAbs.log2 < 1920 then some 1 else none
  | .str x => if (reprText x).length ≤ 1000 then some 1 else none
  | .lst xs => (szA xs).map (· + 1)
  | .tup xs => (szA xs).map (· + 1)
  | _ => none
def szA : List D → Option Nat
  | [] => some 0
  | d :: ds => (szD d).bind fun a => (szA ds).map (a + ·)
end
mutual
theorem szD_py : ∀ (d : D) (n : Nat), szD d = some n → ∃ q, py d = some q ∧ plainP q = true ∧ nod q = n ∧ q.depth ≤ n
  | .non, n, h => by cases h; exact ⟨.none, rfl, rfl, rfl, by decide⟩
  | .bl b, n, h => by cases h; exact ⟨.bool b, rfl, rfl, rfl, by show PyData.depth (.bool b) ≤ 1; exact Nat.zero_le _⟩
  | .int i, n, h => by
    unfold szD at h
    split at h
    · rename_i hi
      cases h
      exact ⟨.int i, rfl, decide_eq_true hi, rfl, Nat.zero_le _⟩
    · cases h
  | .str x, n, h => by
    unfold szD at h
    split at h
    · rename_i hi
      cases h
      exact ⟨.str x, rfl, decide_eq_true hi, rfl, Nat.zero_le _⟩
    · cases h
  | .lst xs, n, h => by
    unfold szD at h
    cases hx : szA xs with
    | none => rw [hx] at h; cases h
    | some m =>
      rw [hx] at h
      cases h
      obtain ⟨q, h1, h2, h3, h4⟩ := szA_py xs m hx
      refine ⟨.list q, ?_, h2, ?_, ?_⟩
      · show (pyA xs).map _ = _
        rw [h1]; rfl
      · show nodA q + 1 = m + 1
        rw [h3]
      · show PyData.depthAll q + 1 ≤ m + 1
        omega
  | .tup xs, n, h => by
    unfold szD at h
    cases hx : szA xs with
    | none => rw [hx] at h; cases h
    | some m =>
      rw [hx] at h
      cases h
      obtain ⟨q, h1, h2, h3, h4⟩ := szA_py xs m hx
      refine ⟨.tuple q, ?_, h2, ?_, ?_⟩
      · show (pyA xs).map _ = _
        rw [h1]; rfl
      · show nodA q + 1 = m + 1
        rw [h3]
      · show PyData.depthAll q + 1 ≤ m + 1
        omega
  | .ty _, n, h => by cases h
  | .obj _ _, n, h => by cases h
  | .dic _, n, h => by cases h
  | .scr _ _, n, h => by cases h
  | .adr _, n, h => by cases h
theorem szA_py : ∀ (ds : List D) (n : Nat), szA ds = some n → ∃ q, pyA ds = some q ∧ plainPA q = true ∧ nodA q = n ∧ PyData.depthAll q ≤ n
  | [], n, h => by cases h; exact ⟨[], rfl, rfl, rfl, Nat.le_refl _⟩
  | d :: ds, n, h => by
    unfold szA at h
    cases hd : szD d with
    | none => rw [hd] at h; cases h
    | some a =>
      cases hs : szA ds with
      | none => rw [hd, hs] at h; cases h
      | some b =>
        rw [hd, hs] at h
        cases h
        obtain ⟨q, h1, h2, h3, h4⟩ := szD_py d a hd
        obtain ⟨r, g1, g2, g3, g4⟩ := szA_py ds b hs
        refine ⟨q :: r, ?_, ?_, ?_, ?_⟩
        · show (py d).bind _ = _
          rw [h1]
          show (pyA ds).map _ = _
          rw [g1]; rfl
        · show (plainP q && plainPA r) = true
          rw [h2, g2]; rfl
        · show nod q + nodA r = a + b
          rw [h3, g3]
        · show max q.depth (PyData.depthAll r) ≤ a + b
          omega
end
theorem rp_of {d : D} {n : Nat} (h : szD d = some n) (hn : n ≤ 64) : RP d := by
  obtain ⟨q, h1, h2, h3, h4⟩ := szD_py d n h
  exact .inl ⟨q, h1, h2, by omega, by omega⟩
theorem szA_app : ∀ (xs ys : List D) (a b : Nat), szA xs = some a → szA ys = some b → szA (xs ++ ys) = some (a + b)
  | [], ys, a, b, h, h2 => by cases h; rw [Nat.zero_add]; exact h2
  | x :: xs, ys, a, b, h, h2 => by
    unfold szA at h
    cases hx : szD x with
    | none => rw [hx] at h; cases h
    | some c =>
      cases hs : szA xs with
      | none => rw [hx, hs] at h; cases h
      | some e =>
        rw [hx, hs] at h
        cases h
        show (szD x).bind _ = _
        rw [hx]
        show (szA (xs ++ ys)).map _ = _
        rw [szA_app xs ys e b hs h2]
        show some (c + (e + b)) = some (c + e + b)
        rw [Nat.add_assoc]
/-- whole numbers that can be shown -/
theorem szA_ints : ∀ l : List Int, (∀ i ∈ l, i.natAbs < 2 ^ 1000) → szA (l.map D.int) = some l.length
  | [], _ => rfl
  | i :: l, h => by
    have ih := szA_ints l fun x hx => h x (List.mem_cons_of_mem _ hx)
    have h1 := h i List.mem_cons_self
    have h2 : i.natAbs.log2 < 1920 := by
      by_cases h0 : i.natAbs = 0
      · rw [h0]; decide
      · have := (Nat.log2_lt h0).mpr h1
        omega
    show (szD (.int i)).bind _ = _
    unfold szD
    rw [if_pos h2]
    show (szA (l.map D.int)).map _ = _
    rw [ih]
    show some (1 + l.length) = some (l.length + 1)
    rw [Nat.add_comm]
end DD

namespace DD
open PySem PySem.Spec PyProof.Rows L2
section
variable {g : Bool} {X : Cx} {Z : D → Prop}
theorem c_maxL {ns : List Int} (hc : X.calm = true) (h0 : 0 < ns.length) (q : ∀ m, m ∈ ns → (∀ y, y ∈ ns → y ≤ m) → Z (.int m)) : OpC g X (.builtin "max") [.lst (ns.map D.int)] Z := by
  intro G H vs R ex i k
  obtain ⟨v, rfl, a, xs, rfl, e2, e3⟩ := isA_one (isA_any ex i)
  have e4 := e3.ints
  subst e4
  exact ⟨_, cr_max hc, a, ns, rfl, .inl (.inl e2), h0, fun m h1 h2 => k _ (.int m) G H (q m h1 h2) (Grow.refl ex) rfl⟩
theorem c_min2 {i j : Int} (hc : X.calm = true) (q : Z (.int (if j < i then j else i))) : OpC g X (.builtin "min") [.int i, .int j] Z := by
  intro G H vs R ex i1 k
  obtain ⟨v, u, rfl, e1, e2⟩ := isA_two (isA_any ex i1)
  cases (e1 : v = .int i)
  cases (e2 : u = .int j)
  exact ⟨_, call_min2 hc, i, j, rfl, k _ (.int _) G H q (Grow.refl ex) rfl⟩
end
section
variable {X : Cx} {ρ : Rho} {E : DE} {pos : Pos} {N ps : List Str} {sc scope : Scope} {x y z u : Str} {px py pz pu pt p2 p3 : Pos} {kk : Nat}
/-! ### three whose third part is a new list of whole numbers -/
def Fh3 (G H : Hp) (v : V) : Prop := ∃ T x y a ys, v = .ref T ∧ G T = some (.tup [x, y, .ref a]) ∧ G a = some (.lst ys) ∧ H a = none
def spT3 (c : List D → (D → Prop) → Prop) : Sp := fun vs H Q _ => ∃ (G : Hp) (ds : List D) (Z : D → Prop), Ex G H ∧ IsA G ds vs ∧ c ds Z ∧ ∀ v d G' H', Z d → Grow G H G' H' → Is G' d v → Fh3 G' H v → Q v H'
def WST3 (X : Cx) (st : List Stmt) (ρ : Rho) (Z : D → Prop) : Prop := ∀ (B : Base) (σ : L2.St) (G H : Hp) (F : Ends), B.W = [] → Sta B σ ρ G H →
  (∀ v d G' H', Z d → Fin B G' H' → Is G' d v → Fh3 G' B.H v → F.rt v H') → wSs X st F σ H
theorem w3_cons {st : Stmt} {rest : List Stmt} {Z : D → Prop} (h : WS X st ρ { nx := fun ρ' => WST3 X rest ρ' Z, rt := fun _ => False }) : WST3 X (st :: rest) ρ Z := fun B σ G H F hW S k =>
  wSs_of (pss_cons ps_w pss_w) (h B σ G H { F with nx := wSs X rest F } S ⟨fun σ' ρ' G' H' q S' _ => q B σ' G' H' F hW S' k, fun _ _ _ _ z => z.elim, fun _ _ _ _ z => z.elim, fun _ _ _ _ z => z.elim⟩)
theorem w3_cut {st : Stmt} {rest : List Stmt} {Z : D → Prop} (M : Rho → Prop) (h : WS X st ρ { nx := M, rt := fun _ => False }) (k : ∀ ρ', M ρ' → WST3 X rest ρ' Z) : WST3 X (st :: rest) ρ Z := fun B σ G H F hW S kk =>
  wSs_of (pss_cons ps_w pss_w) (h B σ G H { F with nx := wSs X rest F } S ⟨fun σ' ρ' G' H' q S' _ => k ρ' q B σ' G' H' F hW S' kk, fun _ _ _ _ z => z.elim, fun _ _ _ _ z => z.elim, fun _ _ _ _ z => z.elim⟩)
/-- return (x, y, z): a value, two own lists -/
theorem w3_ret (i j k : Nat) {d : D} {ds es : List D} {Z : D → Prop} (hi0 : ρ[i]? = some (.val d)) (hj0 : ρ[j]? = some (.own true (.lst ds))) (hk0 : ρ[k]? = some (.own true (.lst es))) (hjk : j ≠ k) (q : Z (.tup [d, .lst ds, .lst es]))
    (hi : X.N[i]? = some x := by rfl) (hj : X.N[j]? = some y := by rfl) (hk : X.N[k]? = some z := by rfl)
    (hv1 : Vis X.env.scope x := by first | exact .inl rfl | exact .inr (.inl rfl) | exact .inr (.inr rfl)) (hd1 : (x == ("__debug__" : Str)) = false := by decide) (hcd1 : (x == ("__classdict__" : Str)) = false := by decide)
    (hv2 : Vis X.env.scope y := by first | exact .inl rfl | exact .inr (.inl rfl) | exact .inr (.inr rfl)) (hd2 : (y == ("__debug__" : Str)) = false := by decide) (hcd2 : (y == ("__classdict__" : Str)) = false := by decide)
    (hv3 : Vis X.env.scope z := by first | exact .inl rfl | exact .inr (.inl rfl) | exact .inr (.inr rfl)) (hd3 : (z == ("__debug__" : Str)) = false := by decide) (hcd3 : (z == ("__classdict__" : Str)) = false := by decide)
    (hs1 : starEach [.Name x px, .Name y py, .Name z pz] X.env = (false, eval (.Name x px) X.env) :: starEach [.Name y py, .Name z pz] X.env := by rfl) (hs2 : starEach [.Name y py, .Name z pz] X.env = (false, eval (.Name y py) X.env) :: starEach [.Name z pz] X.env := by rfl)
    (hs3 : starEach [.Name z pz] X.env = (false, eval (.Name z pz) X.env) :: starEach [] X.env := by rfl) : WST3 X [.Return (some (.Tuple [.Name x px, .Name y py, .Name z pz] kk p2)) pos] ρ Z := fun B σ G H F hW S k0 => by
  refine wSs_of (pss_one (ps_ret (pe_tup (pa_cons (pe_var hi hv1 hd1 hcd1) (pa_cons (pe_var hj hv2 hd2 hcd2) (pa_cons (pe_var hk hv3 hd3 hcd3) pa_nil hs3) hs2) hs1)))) ?_
  obtain ⟨v1, e1, i1⟩ := S.valAt hi0
  obtain ⟨l2, e2, g2, b2, xs2, h2, o2⟩ := S.ownAt hj0
  obtain ⟨l3, e3, g3, b3, xs3, h3, o3⟩ := S.ownAt hk0
  have b2 : B.H l2 = none := by simpa using b2
  have b3 : B.H l3 = none := by simpa using b3
  have n23 : l2 ≠ l3 := fun z => S.dist j k _ _ _ _ hjk hj0 hk0 (by rw [e2, e3, z])
  refine ⟨v1, e1, .ref l2, e2, .ref l3, e3, by show 3 ≤ sizeLine; decide, fun T hT => ?_⟩
  have t2 : T ≠ l2 := by rintro rfl; rw [h2] at hT; cases hT
  have t3 : T ≠ l3 := by rintro rfl; rw [h3] at hT; cases hT
  have gT : G T = none := by
    cases r : G T with
    | none => rfl
    | some w => rw [S.ex T w r] at hT; cases hT
  let G' : Hp := L2.upd (L2.upd (L2.upd G l2 (.lst xs2)) l3 (.lst xs3)) T (.tup [v1, .ref l2, .ref l3])
  have x1 : Ex G (L2.upd G l2 (.lst xs2)) := Ex.new g2
  have x2 : Ex (L2.upd G l2 (.lst xs2)) (L2.upd (L2.upd G l2 (.lst xs2)) l3 (.lst xs3)) := Ex.new (by rw [upd_ne (Ne.symm n23)]; exact g3)
  have x3 : Ex (L2.upd (L2.upd G l2 (.lst xs2)) l3 (.lst xs3)) G' := Ex.new (by rw [upd_ne t3, upd_ne t2]; exact gT)
  have xx : Ex G G' := (x1.trans x2).trans x3
  have eT : G' T = some (.tup [v1, .ref l2, .ref l3]) := upd_same
  have e3' : G' l3 = some (.lst xs3) := x3 _ _ upd_same
  have e2' : G' l2 = some (.lst xs2) := x3 _ _ (x2 _ _ upd_same)
  have inv : ∀ a o, G' a = some o → G a = some o ∨ (a = T ∧ o = .tup [v1, .ref l2, .ref l3]) ∨ (a = l3 ∧ o = .lst xs3) ∨ (a = l2 ∧ o = .lst xs2) := fun a o h => by
    by_cases q1 : a = T
    · subst q1; rw [eT] at h; cases h; exact .inr (.inl ⟨rfl, rfl⟩)
    · by_cases q2 : a = l3
      · subst q2; rw [e3'] at h; cases h; exact .inr (.inr (.inl ⟨rfl, rfl⟩))
      · by_cases q3 : a = l2
        · subst q3; rw [e2'] at h; cases h; exact .inr (.inr (.inr ⟨rfl, rfl⟩))
        · left
          have h : L2.upd (L2.upd (L2.upd G l2 (.lst xs2)) l3 (.lst xs3)) T _ a = some o := h
          rw [upd_ne q1, upd_ne q2, upd_ne q3] at h
          exact h
  have bT : B.H T = none := S.kn T hT
  have fin : Fin B G' (L2.upd H T (.tup [v1, .ref l2, .ref l3])) := by
    refine ⟨fun a o h => ?_, fun a o h hn => ?_, fun a o h => ?_, S.bg.trans xx, fun l hl => by rw [hW] at hl; cases hl⟩
    · rcases inv a o h with h0 | ⟨rfl, rfl⟩ | ⟨rfl, rfl⟩ | ⟨rfl, rfl⟩
      · have q : a ≠ T := by rintro rfl; rw [gT] at h0; cases h0
        rw [upd_ne q]; exact S.ex a o h0
      · exact upd_same
      · rw [upd_ne (Ne.symm t3)]; exact h3
      · rw [upd_ne (Ne.symm t2)]; exact h2
    · have q : a ≠ T := by rintro rfl; rw [bT] at h; cases h
      rw [upd_ne q]; exact S.fr a o h hn
    · rcases inv a o h with h | ⟨rfl, rfl⟩ | ⟨rfl, rfl⟩ | ⟨rfl, rfl⟩
      · exact S.nw a o h
      · exact .inr bT
      · exact .inr b3
      · exact .inr b2
  refine k0 _ _ G' _ q fin ⟨T, _, rfl, eT, v1, _, rfl, Is.mono xx _ _ i1, .ref l2, _, rfl, ⟨l2, xs2, rfl, e2', IsA.mono xx _ _ o2⟩, .ref l3, [], rfl, ⟨l3, xs3, rfl, e3', IsA.mono xx _ _ o3⟩, rfl⟩ ⟨T, v1, .ref l2, l3, xs3, rfl, eT, e3', b3⟩
variable {P : Program} {w : World} {K : PySem.W.Frag} {mg : Str → Option Value} {base : Heap}
theorem fnT3 {qual : Str} {st : Stmt} {f : Addr} {fd : FuncData} {k : Nat} {c : List D → (D → Prop) → Prop} (F : Fun K x qual st f fd) (S : FnScope N ps (defScope st)) (len : ∀ ds Z, c ds Z → ds.length = ps.length)
    (h : ∀ (cdv : Value) (A : Around) (outer : List Env) (s : Shared) (H : Hp) (E : XK) (ds : List D) (Z : D → Prop), Room k (A.deeper (envOfC qual (defScope st) s.heap.objs.size f cdv)) → c ds Z →
      WST3 (CxD P w K mg base N qual st f cdv A outer s H E) (defBody st) (rho0 N ds) Z) : FnOk P w K mg base CX0 (k + 1) f fd ps (spT3 c) := by
  refine F.ok S (fun vs H Q E hs => ?_) fun cdv A outer s H vs Q E hr hs => ?_
  · obtain ⟨G, ds, Z, _, i, hc, _⟩ := hs
    rw [i.length]
    exact len ds Z hc
  · obtain ⟨G, ds, Z, ex, i, hc, q⟩ := hs
    exact ⟨_, pss_w, h cdv A outer s H E ds Z hr hc ⟨H, G, [], 0⟩ _ G H _ rfl (sta_start ex i) fun v d G' H' z F iv fv => q v d G' H' z ⟨F.bg, fun a o e => F.fr a o e (by simp), F.ex, F.nw⟩ iv fv⟩
theorem Df.ofT3 {k : Nat} {c : List D → (D → Prop) → Prop} (F : Df P w K mg base k x ps (spT3 c)) : Df P w K mg base k x ps (spD c) := by
  obtain ⟨f, fd, F, r⟩ := F.ex
  exact ⟨f, fd, F.imp fun vs H Q E ⟨G, ds, Z, ex, i, hc, q⟩ => ⟨G, ds, Z, ex, i, hc, fun v d G' H' z gr iv _ => q v d G' H' z gr iv⟩, r⟩
/-- a def that hands back its own list, as one whose value is new -/
theorem FnOk.ofO {k : Nat} {f : Addr} {fd : FuncData} {c : List D → (List D → Prop) → Prop} (F : FnOk P w K mg base CX0 k f fd ps (spO c)) : FnOk P w K mg base CX0 k f fd ps (spN fun ds Z => c ds fun es => Z (.lst es)) :=
  F.imp fun vs H Q E ⟨G, ds, Z, ex, i, hc, q⟩ => ⟨G, ds, _, ex, i, hc, fun l es xs G' H' z g1 g2 g3 g4 n1 n2 hl ia => by
    have gx : Ex G' (L2.upd G' l (.lst xs)) := Ex.new n1
    refine q (.ref l) (.lst es) (L2.upd G' l (.lst xs)) H' z ⟨g1.trans gx, g3, fun a o h => ?_, fun a o h => ?_⟩ ⟨l, xs, rfl, upd_same, IsA.mono gx _ _ ia⟩ ⟨l, rfl, n2⟩
    · by_cases e : a = l
      · subst e; rw [upd_same] at h; cases h; exact hl
      · rw [upd_ne e] at h; exact g2 a o h
    · by_cases e : a = l
      · subst e; exact .inr n2
      · rw [upd_ne e] at h; exact g4 a o h⟩
theorem Df.ofO {k : Nat} {c : List D → (List D → Prop) → Prop} (F : Df P w K mg base k x ps (spO c)) : Df P w K mg base k x ps (spN fun ds Z => c ds fun es => Z (.lst es)) := by
  obtain ⟨f, fd, F, r⟩ := F.ex
  exact ⟨f, fd, FnOk.ofO F, r⟩
/-- x, x, z = f(e, ..); return z: a new list of whole numbers -/
theorem wso_unp3 {c : List D → (D → Prop) → Prop} {k : Nat} {f0 : Str} {pf pp pos1 p4 : Pos} {e : Expr} {es : List Expr} {Z : List D → Prop} (i j : Nat) (S0 : FnScope N ps sc) {ps0 : List Str} (F : Df X.prog X.w X.K X.mg X.base k f0 ps0 (spT3 c)) (hr : Room k X.A)
    (h : WA true true X (e :: es) ρ fun ds _ => c ds fun d => ∃ (a b : D) (ns : List Int), d = .tup [a, b, .lst (ns.map D.int)] ∧ Z (ns.map D.int)) (hjρ : j < ρ.length)
    (hg : Gl X f0 := by rfl) (hdb : (f0 == ("__debug__" : Str)) = false := by decide)
    (he : starEach (e :: es) X.env = (false, eval e X.env) :: starEach es X.env := by rfl) (hpl : (backTo pp (starEach es X.env)).any (·.1) = false := by rfl)
    (hXN : X.N = N := by rfl) (hc : X.calm = true := by rfl) (hi : X.N[i]? = some x := by rfl) (hj : X.N[j]? = some z := by rfl)
    (hx : Loc X.env.scope x := by first | exact .inl rfl | exact .inr rfl) (hz : Loc X.env.scope z := by first | exact .inl rfl | exact .inr rfl) (hf : X.fn x = true ∨ X.env.scope.names.lookup x = some .local := by first | exact .inl rfl | exact .inr rfl) (hf3 : X.fn z = true ∨ X.env.scope.names.lookup z = some .local := by first | exact .inl rfl | exact .inr rfl)
    (h1 : (assignEach [.Name x px, .Name x py, .Name z pz] X.env).length = 3 := by rfl) (h2 : (assignEach [.Name x px, .Name x py, .Name z pz] X.env).findIdx? (·.1) = none := by rfl) (h3 : AE X (.Name x px) [.Name x py, .Name z pz] := by rfl) (h4 : AE X (.Name x py) [.Name z pz] := by rfl) (h6 : AE X (.Name z pz) [] := by rfl)
    (hs : swapsWithSole [.Tuple [.Name x px, .Name x py, .Name z pz] kk pt] (.Call (.Name f0 pf) (e :: es) [] pp) pos1.line X.env = pure false := by rfl) (hw : swappedStores [.Tuple [.Name x px, .Name x py, .Name z pz] kk pt] (.Call (.Name f0 pf) (e :: es) [] pp) X.env = pure none := by rfl)
    (h5 : (assignEach [.Tuple [.Name x px, .Name x py, .Name z pz] kk pt] X.env).map (·.2) = [assign (.Tuple [.Name x px, .Name x py, .Name z pz] kk pt) X.env] := by rfl)
    (hv : Vis X.env.scope z := by first | exact .inl rfl | exact .inr (.inl rfl) | exact .inr (.inr rfl)) (hd : (z == ("__debug__" : Str)) = false := by decide) (hcd : (z == ("__classdict__" : Str)) = false := by decide) :
    WSO X [.Assign [.Tuple [.Name x px, .Name x py, .Name z pz] kk pt] (.Call (.Name f0 pf) (e :: es) [] pp) pos1, .Return (some (.Name z p4)) pos] ρ Z := fun B σ G H F2 hW S k0 => by
  obtain ⟨f, fd, F, hm, hk, hb⟩ := F.ex
  refine wSs_of (pss_cons (ps_asg (pe_call F hr hg hm hk hb .nil pass0 pa_w hdb he hpl) (pg_tup hc (pgs_cons (pg_name (hXN ▸ S0.nd) hi hx hf) (pgs_cons (pg_name (hXN ▸ S0.nd) hi hx hf) (pgs_cons (pg_name (hXN ▸ S0.nd) hj hz hf3) pgs_nil h6) h4) h3) h1 h2) hs hw h5) (pss_one (ps_ret (pe_var hj hv hd hcd)))) ?_
  refine h B σ G H S _ fun vs ds ρ' G' H' q S' y0 pu ia => ?_
  obtain ⟨rfl, g0⟩ := pu rfl
  refine ⟨G', ds, _, S'.ex, by rw [List.append_nil]; exact ia, q, fun v d G2 H2 zd gr iz fz => ?_⟩
  obtain ⟨a, b, ns, rfl, q2⟩ := zd
  obtain ⟨T, xs, rfl, f1, f2⟩ := iz
  obtain ⟨w1, r1, rfl, j1, w2, r2, rfl, j2, w3, r3, rfl, j3, e4⟩ := f2
  cases e4
  obtain ⟨T', x', y', c, ys, eT, g1, g2, g3⟩ := fz
  cases eT
  rw [f1] at g1
  cases g1
  have S2 := S'.grow gr
  refine ⟨T, _, rfl, .inl (.inl (S2.ex _ _ f1)), rfl, w1, [w2, .ref c], rfl, w2, [.ref c], rfl, .ref c, [], rfl, rfl, ?_⟩
  have hjσ : j < ((σ.set i (some w1)).set i (some w2)).length := by rw [List.length_set, List.length_set, S.len]; exact hjρ
  refine ⟨.ref c, List.getElem?_set_self hjσ, ?_⟩
  obtain ⟨c', ys', ec, k1, k2⟩ := j3
  cases ec
  rw [g2] at k1
  cases k1
  have Hc : H c = none := by
    cases r : H c with
    | none => rfl
    | some o => rw [g0.h c o r] at g3; cases g3
  have Gc : G c = none := by
    cases r : G c with
    | none => rfl
    | some o => rw [S.ex c o r] at Hc; cases Hc
  have eys : ys = ns.map V.int := k2.ints
  exact k0 c _ ys G H2 q2 ⟨fun a o h => S2.ex a o (gr.g a o (y0 a o h)), S2.fr, S.nw, S.bg, fun l hl => by rw [hW] at hl; cases hl⟩ Gc (S.kn c Hc) (S2.ex _ _ g2) (by rw [eys]; exact IsA.of_ints)
/-! ### f(e, .., k = v) -/
structure DfA (P : Program) (w : World) (K : PySem.W.Frag) (mg : Str → Option Value) (base : Heap) (k : Nat) (x : Str) (ps ks : List Str) (sp : Sp) : Prop where
  ex : ∃ f fd, FnOk P w K mg base CX0 k f fd ps sp ∧ mg x = some (.ref f) ∧ PySem.W.keepIn K (.ref f) = true ∧ KBinds K fd ps ks (fun us ws => us ++ ws) (fun vs zs => vs ++ zs)
theorem callA {p g : Bool} {Q : D → Rho → Prop} {k : Nat} {ks : List Str} {c : List D → (D → Prop) → Prop} {pp : Pos} {e : Expr} {es : List Expr} {kws : List Keyword} (F : DfA X.prog X.w X.K X.mg X.base k x ps ks (spD c)) (hr : Room k X.A)
    (h : WA p true X (e :: es) ρ fun ds ρ1 => WK p true X kws ρ1 fun es ρ' => c (ds ++ es) fun d => Q d ρ') (hg : Gl X x := by rfl) (hdb : (x == ("__debug__" : Str)) = false := by decide)
    (hall : (backToKw pos (keywordEach kws X.env)).all (·.1.isSome) = true := by rfl) (hks : (backToKw pos (keywordEach kws X.env)).filterMap (·.1) = ks := by rfl) (he : starEach (e :: es) X.env = (false, eval e X.env) :: starEach es X.env := by rfl)
    (hpl : ((backTo pos (starEach (e :: es) X.env)).any (·.1) || (backToKw pos (keywordEach kws X.env)).any (·.1.isNone)) = false := by rfl) : W p g X (.Call (.Name x pp) (e :: es) kws pos) ρ Q := fun B σ G H S R r => by
  obtain ⟨f, fd, F, hm, hk, hb⟩ := F.ex
  refine wE_of (pe_callK F hr hg hm hk hb pass0 pa_w pk_w hall hks hdb he hpl) ?_
  refine h B σ G H S _ fun vs ds ρ1 G1 H1 q1 S1 x1 pu1 i1 => ?_
  refine q1 B σ G1 H1 S1 _ fun zs fs ρ' G' H' q S' x2 pu2 i2 => ?_
  refine ⟨G', ds ++ fs, fun d => Q d ρ', S'.ex, (IsA.mono x2 _ _ i1).append i2, q, fun v d G2 H2 z gr iz => ?_⟩
  exact r v d ρ' G2 H2 z (S'.grow gr) ((x1.trans x2).trans gr.g) (fun w => ⟨(pu2 w).1.trans (pu1 w).1, ((pu1 w).2.trans (pu2 w).2).trans gr⟩) (is_h (S'.grow gr) iz)
end
end DD

namespace DD
open PySem PySem.Spec PyProof.Rows L2
section
variable {X : Cx} {ρ : Rho} {E : DE} {pos : Pos} {N ps : List Str} {sc scope : Scope} {x y z u : Str} {px py pz pu pt p2 p3 p4 : Pos} {kk k2 : Nat} {a b c : Expr}
theorem nown {ρ : Rho} {i m : Nat} {d : D} {lc : Bool} {o : Own} (h : (ρ.set i (.val d))[m]? = some (.own lc o)) : i ≠ m ∧ ρ[m]? = some (.own lc o) := by
  by_cases q : i = m
  · subst q
    rw [List.getElem?_set] at h
    simp only [if_true] at h
    split at h <;> cases h
  · rw [List.getElem?_set_ne q] at h
    exact ⟨q, h⟩
/-- x, y, z, u = a, b, [c], []: the last two own lists -/
theorem s_unp4L (i j k l : Nat) (S0 : FnScope N ps sc) (hkl : k ≠ l) (hik : i ≠ k) (hjk : j ≠ k) (hil : i ≠ l) (hjl : j ≠ l)
    (h : W true true X a ρ fun d1 _ => W true true X b ρ fun d2 _ => W true true X c ρ fun d3 _ => E.nx ((((ρ.set i (.val d1)).set j (.val d2)).set k (.own true (.lst [d3]))).set l (.own true (.lst []))))
    (hXN : X.N = N := by rfl) (hc : X.calm = true := by rfl) (hi : X.N[i]? = some x := by rfl) (hj : X.N[j]? = some y := by rfl) (hk : X.N[k]? = some z := by rfl) (hl : X.N[l]? = some u := by rfl)
    (hx : Loc X.env.scope x := by first | exact .inl rfl | exact .inr rfl) (hy : Loc X.env.scope y := by first | exact .inl rfl | exact .inr rfl) (hz : Loc X.env.scope z := by first | exact .inl rfl | exact .inr rfl) (hu : Loc X.env.scope u := by first | exact .inl rfl | exact .inr rfl)
    (hf : X.fn x = true ∨ X.env.scope.names.lookup x = some .local := by first | exact .inl rfl | exact .inr rfl) (hf2 : X.fn y = true ∨ X.env.scope.names.lookup y = some .local := by first | exact .inl rfl | exact .inr rfl) (hf3 : X.fn z = true ∨ X.env.scope.names.lookup z = some .local := by first | exact .inl rfl | exact .inr rfl) (hf4 : X.fn u = true ∨ X.env.scope.names.lookup u = some .local := by first | exact .inl rfl | exact .inr rfl)
    (h1 : (assignEach [.Name x px, .Name y py, .Name z pz, .Name u pu] X.env).length = 4 := by rfl) (h2 : (assignEach [.Name x px, .Name y py, .Name z pz, .Name u pu] X.env).findIdx? (·.1) = none := by rfl)
    (h3 : AE X (.Name x px) [.Name y py, .Name z pz, .Name u pu] := by rfl) (h4 : AE X (.Name y py) [.Name z pz, .Name u pu] := by rfl) (h6 : AE X (.Name z pz) [.Name u pu] := by rfl) (h7 : AE X (.Name u pu) [] := by rfl)
    (hs1 : starEach [a, b, .List [c] p3, .List [] p4] X.env = (false, eval a X.env) :: starEach [b, .List [c] p3, .List [] p4] X.env := by rfl) (hs2 : starEach [b, .List [c] p3, .List [] p4] X.env = (false, eval b X.env) :: starEach [.List [c] p3, .List [] p4] X.env := by rfl)
    (hs3 : starEach [.List [c] p3, .List [] p4] X.env = (false, eval (.List [c] p3) X.env) :: starEach [.List [] p4] X.env := by rfl) (hs4 : starEach [.List [] p4] X.env = (false, eval (.List [] p4) X.env) :: starEach [] X.env := by rfl) (hs5 : starEach [c] X.env = (false, eval c X.env) :: starEach [] X.env := by rfl)
    (hs : swapsWithSole [.Tuple [.Name x px, .Name y py, .Name z pz, .Name u pu] kk pt] (.Tuple [a, b, .List [c] p3, .List [] p4] k2 p2) pos.line X.env = pure false := by rfl) (hw : swappedStores [.Tuple [.Name x px, .Name y py, .Name z pz, .Name u pu] kk pt] (.Tuple [a, b, .List [c] p3, .List [] p4] k2 p2) X.env = pure none := by rfl)
    (h5 : (assignEach [.Tuple [.Name x px, .Name y py, .Name z pz, .Name u pu] kk pt] X.env).map (·.2) = [assign (.Tuple [.Name x px, .Name y py, .Name z pz, .Name u pu] kk pt) X.env] := by rfl) :
    WS X (.Assign [.Tuple [.Name x px, .Name y py, .Name z pz, .Name u pu] kk pt] (.Tuple [a, b, .List [c] p3, .List [] p4] k2 p2) pos) ρ E := fun B σ G H F S L => by
  refine wS_of (ps_asg (pe_tup (pa_cons pe_w (pa_cons pe_w (pa_cons (pe_lst (pa_cons pe_w pa_nil hs5)) (pa_cons (pe_lst pa_nil) pa_nil hs4) hs3) hs2) hs1)) (pg_tup hc (pgs_cons (pg_name (hXN ▸ S0.nd) hi hx hf) (pgs_cons (pg_name (hXN ▸ S0.nd) hj hy hf2) (pgs_cons (pg_name (hXN ▸ S0.nd) hk hz hf3) (pgs_cons (pg_name (hXN ▸ S0.nd) hl hu hf4) pgs_nil h7) h6) h4) h3) h1 h2) hs hw h5) ?_
  refine h B σ G H S _ fun v1 d1 ρ1 G1 H1 q1 S1 x1 pu1 i1 => ?_
  obtain ⟨rfl, _⟩ := pu1 rfl
  refine q1 B σ G1 H1 S1 _ fun v2 d2 ρ2 G2 H2 q2 S2 x2 pu2 i2 => ?_
  obtain ⟨rfl, _⟩ := pu2 rfl
  refine q2 B σ G2 H2 S2 _ fun v3 d3 ρ3 G3 H3 q3 S3 x3 pu3 i3 => ?_
  obtain ⟨rfl, _⟩ := pu3 rfl
  have i1 : Is G1 d1 v1 := i1
  have i2 : Is G2 d2 v2 := i2
  have i3 : Is G3 d3 v3 := i3
  refine ⟨by show 1 ≤ sizeLine; decide, fun l3 hl3 => ⟨Nat.zero_le _, fun l4 hl4 => ⟨by show 4 ≤ sizeLine; decide, fun T hT => ?_⟩⟩⟩
  obtain ⟨a1, a2, a3⟩ := new_own S3 hl3
  have S4 := S3.grow (Grow.own (o := .lst [v3]) S3.ex hl3)
  obtain ⟨b1, b2, b3⟩ := new_own S4 hl4
  have S5 := S4.grow (Grow.own (o := .lst []) S4.ex hl4)
  have S6 := S5.grow (Grow.own (o := .tup [v1, v2, .ref l3, .ref l4]) S5.ex hT)
  have n34 : l3 ≠ l4 := by rintro rfl; rw [upd_same] at hl4; cases hl4
  have nT3 : l3 ≠ T := by rintro rfl; rw [upd_ne n34, upd_same] at hT; cases hT
  have nT4 : l4 ≠ T := by rintro rfl; rw [upd_same] at hT; cases hT
  have g3 : L2.upd (L2.upd (L2.upd H3 l3 (.lst [v3])) l4 (.lst [])) T (.tup [v1, v2, .ref l3, .ref l4]) l3 = some (.lst [v3]) := by rw [upd_ne nT3, upd_ne n34, upd_same]
  have g4 : L2.upd (L2.upd (L2.upd H3 l3 (.lst [v3])) l4 (.lst [])) T (.tup [v1, v2, .ref l3, .ref l4]) l4 = some (.lst []) := by rw [upd_ne nT4, upd_same]
  refine ⟨T, _, rfl, .inl (.inl upd_same), rfl, v1, [v2, .ref l3, .ref l4], rfl, v2, [.ref l3, .ref l4], rfl, .ref l3, [.ref l4], rfl, .ref l4, [], rfl, rfl, ?_⟩
  have S7 := (S6.set (i := i) (Is.mono (x2.trans x3) _ _ i1)).set (i := j) (Is.mono x3 _ _ i2)
  have S8 := S7.setOwn (i := k) (l := l3) (o := .lst [d3]) a1 a2 ⟨[v3], g3, v3, [], rfl, i3, rfl⟩ (fun m lc w hm hs => by
    obtain ⟨q1, hm⟩ := nown hm
    obtain ⟨q2, hm⟩ := nown hm
    rw [List.getElem?_set_ne q1, List.getElem?_set_ne q2] at hs
    exact a3 m hs lc w hm)
  have S9 := S8.setOwn (i := l) (l := l4) (o := .lst []) b1 b2 ⟨[], g4, rfl⟩ (fun m lc w hm hs => by
    by_cases qk : k = m
    · subst qk
      by_cases hσ : k < ((σ.set i (some v1)).set j (some v2)).length
      · rw [List.getElem?_set_self hσ] at hs
        have : l3 = l4 := by injection hs with hs; injection hs with hs; injection hs
        exact n34 this
      · rw [List.getElem?_eq_none (by rw [List.length_set]; omega)] at hs; cases hs
    · rw [List.getElem?_set_ne qk] at hm hs
      obtain ⟨q1, hm⟩ := nown hm
      obtain ⟨q2, hm⟩ := nown hm
      rw [List.getElem?_set_ne q1, List.getElem?_set_ne q2] at hs
      exact b3 m hs lc w hm)
  exact L.nx _ _ G3 _ q3 S9 ((x1.trans x2).trans x3)
/-- x, y = a, b: the first an own list -/
theorem s_unp2O (i j : Nat) (S0 : FnScope N ps sc) (hij : i ≠ j)
    (h : WF X a ρ fun o ρ1 => W true true X b ρ1 fun d _ => E.nx ((ρ1.set j (.val d)).set i (.own true o)))
    (hXN : X.N = N := by rfl) (hc : X.calm = true := by rfl) (hi : X.N[i]? = some x := by rfl) (hj : X.N[j]? = some y := by rfl)
    (hx : Loc X.env.scope x := by first | exact .inl rfl | exact .inr rfl) (hy : Loc X.env.scope y := by first | exact .inl rfl | exact .inr rfl)
    (hf : X.fn x = true ∨ X.env.scope.names.lookup x = some .local := by first | exact .inl rfl | exact .inr rfl) (hf2 : X.fn y = true ∨ X.env.scope.names.lookup y = some .local := by first | exact .inl rfl | exact .inr rfl)
    (h1 : (assignEach [.Name x px, .Name y py] X.env).length = 2 := by rfl) (h2 : (assignEach [.Name x px, .Name y py] X.env).findIdx? (·.1) = none := by rfl) (h3 : AE X (.Name x px) [.Name y py] := by rfl) (h4 : AE X (.Name y py) [] := by rfl)
    (hs1 : starEach [a, b] X.env = (false, eval a X.env) :: starEach [b] X.env := by rfl) (hs2 : starEach [b] X.env = (false, eval b X.env) :: starEach [] X.env := by rfl)
    (hs : swapsWithSole [.Tuple [.Name x px, .Name y py] kk pt] (.Tuple [a, b] k2 p2) pos.line X.env = pure false := by rfl) (hw : swappedStores [.Tuple [.Name x px, .Name y py] kk pt] (.Tuple [a, b] k2 p2) X.env = pure none := by rfl)
    (h5 : (assignEach [.Tuple [.Name x px, .Name y py] kk pt] X.env).map (·.2) = [assign (.Tuple [.Name x px, .Name y py] kk pt) X.env] := by rfl) :
    WS X (.Assign [.Tuple [.Name x px, .Name y py] kk pt] (.Tuple [a, b] k2 p2) pos) ρ E := fun B σ G H F S L => by
  refine wS_of (ps_asg (pe_tup (pa_cons pe_w (pa_cons pe_w pa_nil hs2) hs1)) (pg_tup hc (pgs_cons (pg_name (hXN ▸ S0.nd) hi hx hf) (pgs_cons (pg_name (hXN ▸ S0.nd) hj hy hf2) pgs_nil h4) h3) h1 h2) hs hw h5) ?_
  refine h B σ G H S _ fun l o ρ1 G1 H1 q1 S1 x1 gl bl nw ok => ?_
  refine q1 B σ G1 H1 S1 _ fun v2 d2 ρ2 G2 H2 q2 S2 x2 pu2 i2 => ?_
  obtain ⟨rfl, gr⟩ := pu2 rfl
  have i2 : Is G2 d2 v2 := i2
  refine ⟨by show 2 ≤ sizeLine; decide, fun T hT => ?_⟩
  obtain ⟨w0, hw0⟩ := ok.known
  have gl2 : G2 l = none := by
    cases r : G2 l with
    | none => rfl
    | some o' =>
      rcases gr.n l o' r with q | q
      · rw [gl] at q; cases q
      · rw [hw0] at q; cases q
  have S3 := S2.grow (Grow.own (o := .tup [.ref l, v2]) S2.ex hT)
  have nT : l ≠ T := by rintro rfl; rw [gr.h l w0 hw0] at hT; cases hT
  refine ⟨T, _, rfl, .inl (.inl upd_same), rfl, .ref l, [v2], rfl, v2, [], rfl, rfl, ?_⟩
  have S4 := S3.set (i := j) i2
  have S5 := S4.setOwn (i := i) (l := l) (o := o) gl2 bl (ok.mono gr.g fun u hu => by rw [upd_ne nT]; exact gr.h l u hu) (fun m lc w hm hs => by
    obtain ⟨q1, hm⟩ := nown hm
    rw [List.getElem?_set_ne q1] at hs
    exact nw m hs lc w hm)
  have e : (σ.set i (some (.ref l))).set j (some v2) = (σ.set j (some v2)).set i (some (.ref l)) := List.set_comm _ _ hij
  rw [e]
  exact L.nx _ _ G2 _ q2 S5 (x1.trans x2)
end
end DD

namespace DD
open PySem PySem.Spec PyProof.Rows L2
section
variable {p g : Bool} {X : Cx} {ρ : Rho} {Q : D → Rho → Prop} {pos : Pos}
/-- o.index(e): a list of whole numbers, one that is there -/
theorem w_index {o e : Expr} {apos : Pos} (h : W p true X o ρ fun d ρ1 => ∃ l : List Int, d = .lst (l.map D.int) ∧ W p true X e ρ1 fun k ρ2 => ∃ (i : Int) (j : Nat), k = .int i ∧ l[j]? = some i ∧ (∀ m, m < j → l[m]? ≠ some i) ∧ Q (.int (j : Int)) ρ2)
    (hbase : attributeBase o "index" X.env (eval o X.env) = eval o X.env := by rfl)
    (hfew : ((backTo pos (starEach [e] X.env)).all (fun x => !x.1) && (backToKw pos (keywordEach [] X.env)).all (fun x => x.1.isSome) && decide (([e] : List Expr).length + ([] : List Keyword).length + (if ([] : List Keyword).isEmpty then 0 else 1) < 30)) = true := by rfl)
    (hline : (apos.endLine == pos.line) = true := by rfl) (hst : starEach [e] X.env = (false, eval e X.env) :: starEach [] X.env := by rfl) (hplain : (backTo pos (starEach [] X.env)).any (·.1) = false := by rfl) :
    W p g X (.Call (.Attribute o "index" apos) [e] [] pos) ρ Q := fun B σ G H S R r => by
  refine wE_of (pe_bm PySem.F.plainAttrs_list PySem.F.slot_list_index PySem.F.type_list_index mt_index pe_w (pa_cons pe_w pa_nil hst) hbase hfew hline hst hplain) ?_
  refine h B σ G H S _ fun v d ρ1 G1 H1 q S1 y1 p1 i1 => ?_
  obtain ⟨l, rfl, q⟩ := q
  obtain ⟨a, xs, rfl, e2, e3⟩ := i1
  have ex := e3.ints
  subst ex
  refine ⟨.inl ⟨rfl, _, .inl (.inl (S1.ex _ _ e2))⟩, ?_⟩
  refine q B σ G1 H1 S1 _ fun v k ρ2 G2 H2 q2 S2 y2 p2 i2 => ?_
  obtain ⟨i, j, rfl, h1, h2, q2⟩ := q2
  cases (i2 : v = .int i)
  refine ⟨a, l.map V.int, .int i, j, .int i, rfl, rfl, .inl (.inl (S2.ex _ _ (y2 _ _ e2))), rfl, ?_, ?_, ?_, fun m z' hm hz => ?_, ?_⟩
  · rw [List.all_map]
    exact List.all_eq_true.mpr fun _ _ => rfl
  · rw [List.getElem?_map, h1]; rfl
  · simp [eqV]
  · rw [List.getElem?_map] at hz
    cases e : l[m]? with
    | none => rw [e] at hz; cases hz
    | some t =>
      rw [e] at hz
      cases hz
      have ne : t ≠ i := fun y => h2 m hm (by rw [e, y])
      simp [eqV, ne]
  · exact r _ _ ρ2 G2 H2 q2 S2 (y1.trans y2) (fun w => ⟨(p2 w).1.trans (p1 w).1, ((p1 w).2.trans (p2 w).2)⟩) rfl
end
end DD

namespace DD
open PySem PySem.Spec PyProof.Rows L2
/-! ### what stands in an own dict behind a put -/
theorem lookD_nil (k : Key) : lookD [] k = none := rfl
theorem lookD_cons (k k' : Key) (d : D) (kvs : List (Key × D)) : lookD ((k', d) :: kvs) k = if k' = k then some d else lookD kvs k := by
  unfold lookD
  by_cases h : k' = k
  · rw [List.find?_cons_of_pos (by simpa using h), if_pos h]; rfl
  · rw [List.find?_cons_of_neg (by simpa using h), if_neg h]
theorem any_look (kvs : List (Key × D)) (k : Key) : (kvs.any fun kv => decide (kv.1 = k)) = (lookD kvs k).isSome := by
  induction kvs with
  | nil => rfl
  | cons a kvs ih =>
    obtain ⟨k', d⟩ := a
    rw [lookD_cons, List.any_cons, ih]
    by_cases h : k' = k
    · rw [if_pos h, decide_eq_true h]; rfl
    · rw [if_neg h, decide_eq_false h]; rfl
theorem look_map (kvs : List (Key × D)) (k k' : Key) (d : D) : lookD (kvs.map fun kv => if kv.1 = k then (kv.1, d) else kv) k' = if k' = k then (lookD kvs k').map fun _ => d else lookD kvs k' := by
  induction kvs with
  | nil => rw [List.map_nil, lookD_nil]; split <;> rfl
  | cons a kvs ih =>
    obtain ⟨k0, e⟩ := a
    rw [List.map_cons]
    show lookD ((if k0 = k then (k0, d) else (k0, e)) :: kvs.map fun kv => if kv.1 = k then (kv.1, d) else kv) k' = _
    by_cases h0 : k0 = k
    · rw [if_pos h0, lookD_cons, lookD_cons, ih]
      by_cases h1 : k0 = k'
      · rw [if_pos h1, if_pos h1, if_pos (h1.symm.trans h0)]; rfl
      · rw [if_neg h1, if_neg h1]
    · rw [if_neg h0, lookD_cons, lookD_cons, ih]
      by_cases h1 : k0 = k'
      · rw [if_pos h1, if_pos h1, if_neg (fun z => h0 (h1.trans z))]
      · rw [if_neg h1, if_neg h1]
theorem look_app (kvs : List (Key × D)) (k k' : Key) (d : D) : lookD (kvs ++ [(k, d)]) k' = match lookD kvs k' with | some e => some e | none => if k = k' then some d else none := by
  induction kvs with
  | nil => rw [List.nil_append, lookD_cons, lookD_nil]
  | cons a kvs ih =>
    obtain ⟨k0, e⟩ := a
    rw [List.cons_append, lookD_cons, lookD_cons, ih]
    by_cases h1 : k0 = k'
    · rw [if_pos h1, if_pos h1]
    · rw [if_neg h1, if_neg h1]
theorem lookD_put (kvs : List (Key × D)) (k k' : Key) (d : D) : lookD (putD kvs k d) k' = if k' = k then some d else lookD kvs k' := by
  unfold putD
  rw [any_look]
  cases h : (lookD kvs k).isSome with
  | true =>
    show lookD (kvs.map _) k' = _
    rw [look_map]
    by_cases e : k' = k
    · subst e
      rw [if_pos rfl, if_pos rfl]
      obtain ⟨x, hx⟩ := Option.isSome_iff_exists.mp h
      rw [hx]; rfl
    · rw [if_neg e, if_neg e]
  | false =>
    show lookD (kvs ++ [(k, d)]) k' = _
    rw [look_app]
    by_cases e : k' = k
    · subst e
      have : lookD kvs k' = none := by
        cases q : lookD kvs k' with
        | none => rfl
        | some x => rw [q] at h; cases h
      rw [this, if_pos rfl]
    · rw [if_neg e, if_neg (fun z => e z.symm)]
      cases lookD kvs k' <;> rfl
end DD

namespace DD
open PySem PySem.Spec PyProof.Rows L2
section
variable {p g : Bool} {X : Cx} {ρ : Rho} {Q : D → Rho → Prop} {pos : Pos} {Z : D → Prop}
/-- x is not None -/
theorem o_isnot {x : D} {b : Bool} (h : ∀ H v, Is H x v → (!decide (v = V.non)) = b) (q : Z (.bl b)) : Op2 g X (compareOp .IsNot) x .non Z := by
  intro G H v u R ex i j k
  have e : u = V.non := Is.sc (d := .non) rfl j
  subst e
  refine ⟨_, op_notN, rfl, ?_⟩
  rw [h _ _ i]
  exact k (.bl b) (.bl b) G H q (Grow.refl ex) (Is.of_sc (d := .bl b) rfl)
theorem o_isnI {i : Int} (q : Z (.bl true)) : Op2 g X (compareOp .IsNot) (.int i) .non Z := o_isnot (fun H v h => by cases (Is.sc (d := .int i) rfl h); rfl) q
theorem o_isnN (q : Z (.bl false)) : Op2 g X (compareOp .IsNot) .non .non Z := o_isnot (fun H v h => by cases (Is.sc (d := .non) rfl h); rfl) q
theorem o_isnL {xs : List D} (q : Z (.bl true)) : Op2 g X (compareOp .IsNot) (.lst xs) .non Z := o_isnot (fun H v h => by obtain ⟨a, ys, rfl, _⟩ := h; rfl) q
/-- d[e], d an own dict, a whole number there -/
theorem w_dgi {i : Nat} {x : Str} {e : Expr} {p2 : Pos} {lc : Bool} (hu : X.A.units + 1 < cLine)
    (h : W true true X e ρ fun d _ => ∃ (n : Int) (kvs : List (Key × D)) (z : Int), d = .int n ∧ ρ[i]? = some (.own lc (.dic kvs)) ∧ lookD kvs (.inl n) = some (.int z) ∧ Q (.int z) ρ)
    (hr0 : ∃ kvs, ρ[i]? = some (.own lc (.dic kvs)))
    (hN : X.N[i]? = some x := by rfl) (hv : Vis X.env.scope x := by first | exact .inl rfl | exact .inr (.inl rfl) | exact .inr (.inr rfl)) (hd : (x == ("__debug__" : Str)) = false := by decide) (hcd : (x == ("__classdict__" : Str)) = false := by decide)
    (hs : NoSl e := by exact fun _ _ => rfl) : W p g X (.Subscript (.Name x p2) e pos) ρ Q := fun B σ G H S R r => by
  refine wE_of (pe_dget hu pe_w pe_w hs) ?_
  obtain ⟨kvs0, hr0⟩ := hr0
  refine own_name hN hv hd hcd hr0 S fun l el ok => ?_
  refine h B σ G H S _ fun u k ρ2 G2 H2 q2 S2 y2 pu2 iu => ?_
  obtain ⟨e2, gr2⟩ := pu2 rfl
  subst e2
  obtain ⟨n, kvs, z, rfl, hr, hl, q2⟩ := q2
  obtain ⟨l', el', gl, bl, ks, h1, h2⟩ := S2.ownAt hr
  have : l' = l := by rw [el] at el'; cases el'; rfl
  subst this
  cases (iu : u = .int n)
  refine ⟨l', .int z, rfl, ?_, r _ _ ρ2 G2 H2 q2 S2 y2 (fun _ => ⟨rfl, gr2⟩) (is_h S2 (Is.of_sc (d := .int z) rfl))⟩
  have dg := DGet.k (k := Sum.inl n) h1
  rcases h2.val (k := Sum.inl n) with ⟨d, v, a1, a2, a3⟩ | ⟨a1, a2⟩
  · have a1 : lookD kvs (.inl n) = some d := a1
    rw [hl] at a1
    cases a1
    cases (Is.sc (d := .int z) rfl a3)
    rw [a2] at dg
    exact dg
  · have a1 : lookD kvs (.inl n) = none := a1
    rw [hl] at a1
    cases a1
end
end DD

namespace DD
open PySem PySem.Spec PyProof.Rows L2
/-! ### comprehensions whose elements draw -/
section
variable {p g : Bool} {X : Cx} {ρ : Rho} {Q : D → Rho → Prop} {pos : Pos}
def lkS : Slot → Slot
  | .own true _ => .un
  | s => s
/-- own things of the def left out -/
def lk (ρ : Rho) : Rho := ρ.map lkS
theorem lk_get {ρ : Rho} {j : Nat} {s : Slot} (h : (lk ρ)[j]? = some s) : ∃ t, ρ[j]? = some t ∧ s = lkS t := by
  unfold lk at h
  rw [List.getElem?_map] at h
  cases e : ρ[j]? with
  | none => rw [e] at h; cases h
  | some t => rw [e] at h; cases h; exact ⟨t, rfl, rfl⟩
inductive All2 (P : D → D → Prop) : List D → List D → Prop
  | nil : All2 P [] []
  | snoc {ds zs d z} : All2 P ds zs → P d z → All2 P (ds ++ [d]) (zs ++ [z])
theorem All2.length {P : D → D → Prop} {ds zs : List D} (h : All2 P ds zs) : zs.length = ds.length := by
  induction h with
  | nil => rfl
  | snoc _ _ ih => rw [List.length_append, List.length_append, ih]; rfl
/-- a state within a block that may draw -/
theorem Sta.inner {B : Base} {σ : L2.St} {ρ : Rho} {G H : Hp} {l : Addr} (S : Sta B σ ρ G H) (hp : σ[0]? = some (some (.ref l))) (h0 : ρ[0]? = some (.own false .pot)) (hown : ∀ j o, ρ[j]? = some (.own false o) → j = 0) : Sta ⟨H, G, [l], 0⟩ σ (lk ρ) G H := by
  obtain ⟨l', e1, gl, ll, pl⟩ := S.ownAt h0
  have el : l' = l := by rw [hp] at e1; cases e1; rfl
  subst el
  have one : ∀ {j : Nat} {b : Bool} {o : Own}, (lk ρ)[j]? = some (.own b o) → j = 0 ∧ b = false ∧ o = .pot := fun {j b o} h => by
    obtain ⟨t, ht, e⟩ := lk_get h
    cases t with
    | un => cases e
    | val d => cases e
    | own c u =>
      cases c with
      | true => cases e
      | false =>
        cases e
        have := hown j o ht
        subst this
        rw [h0] at ht
        cases ht
        exact ⟨rfl, rfl, rfl⟩
  refine ⟨by unfold lk; rw [List.length_map]; exact S.len, S.ex, fun a o e _ => e, fun a e => e, fun a o e => .inl e, Ex.refl _, S.ex, fun m hm => ?_, fun j s v h1 h2 => ?_, fun j k l1 l2 o1 o2 jk h1 h2 => ?_⟩
  · have : m = l' := by simpa using hm
    subst this
    obtain ⟨a, b, e, r⟩ := pl
    exact ⟨⟨a, b, e, r⟩, _, e⟩
  · obtain ⟨t, ht, rfl⟩ := lk_get h1
    have k := S.env j t v ht h2
    cases t with
    | un => trivial
    | val d => exact k
    | own b o =>
      cases b with
      | true => trivial
      | false =>
        obtain ⟨rfl, _, rfl⟩ := one h1
        rw [hp] at h2
        cases h2
        exact ⟨l', rfl, gl, List.mem_cons_self, pl⟩
  · exact absurd ((one h1).1.trans (one h2).1.symm) jk
theorem GrowP.seq {l : Addr} {G H G1 H1 G2 H2 : Hp} (hk : ∃ u, H l = some u) (a : GrowP l G H G1 H1) (g : Ex G1 G2) (h : ∀ x o, H1 x = some o → x ≠ l → H2 x = some o) (x : Ex G2 H2) (n : ∀ c o, G2 c = some o → G1 c = some o ∨ H1 c = none) (p : PotAt H2 l) : GrowP l G H G2 H2 := by
  refine ⟨a.g.trans g, fun c o e q => h c o (a.h c o e q) q, x, fun c o e => ?_, p⟩
  rcases n c o e with q | q
  · exact a.n c o q
  · right
    cases r : H c with
    | none => rfl
    | some u =>
      by_cases z : c = l
      · subst z
        obtain ⟨_, _, y, _⟩ := a.p
        rw [y] at q; cases q
      · rw [a.h c u r z] at q; cases q
def LcP (l : Addr) (P : DD.D → DD.D → Prop) (G1 H1 : Hp) (D : Addr) (ds : List DD.D) (Hc : Hp) : Prop := ∃ Gi acc zs, Hc D = some (.lst acc) ∧ Gi D = none ∧ GrowP l G1 H1 Gi Hc ∧ All2 P ds zs ∧ IsA Gi zs acc
theorem x_lcP {elt iter : Expr} {x : Str} {px : Pos} {scope : Scope} {i : Nat} (P : DD.D → DD.D → Prop) (hi0 : i ≠ 0)
    (h : WI false X (.Name x px) iter ρ fun ds ρ1 => ds.length ≤ 40000 ∧ ρ1[0]? = some (.own false .pot) ∧ (∀ j o, ρ1[j]? = some (.own false o) → j = 0) ∧ (∀ d ∈ ds, ∀ s H C cl fp, W false true (Blk X scope s H C cl fp) elt (lk ((ρ1.set i .un).set i (.val d))) fun z _ => P d z) ∧ ∀ zs, All2 P ds zs → Q (.lst zs) ρ1) :
    WX false true (tLc (wI X (.Name x px) iter) ((Tg.one i).g X.K) tYes (cE X scope elt) [i]) ρ Q := fun B σ G H S R r => by
  refine h B σ G H S _ fun J ds ρ1 G1 H1 q S1 xx pu wk D hD => ?_
  obtain ⟨hl, hp0, hown, turn, q⟩ := q
  obtain ⟨l, e1, gl, ll, pl⟩ := S1.ownAt hp0
  have hkl : ∃ u, H1 l = some u := by
    obtain ⟨a, b, e, _⟩ := pl
    exact ⟨_, e⟩
  have hDl : D ≠ l := fun z => by
    subst z
    obtain ⟨u, e⟩ := hkl
    rw [hD] at e; cases e
  refine lc_it wk (fun i Hc => LcP l P G1 H1 D (ds.take i) Hc) ?_ (fun i Hc _ h => ?_) (fun n y Hc H' hi h yy => ?_) (fun Hc h => ?_)
  · refine ⟨G1, [], [], upd_same, ?_, ⟨Ex.refl _, fun a o e _ => ?_, fun a o e => ?_, fun a o e => .inl e, ?_⟩, .nil, rfl⟩
    · cases r : G1 D with
      | none => rfl
      | some u => rw [S1.ex D u r] at hD; cases hD
    · rw [upd_ne (ne_of_none e hD)]; exact e
    · have e := S1.ex a o e
      rw [upd_ne (ne_of_none e hD)]; exact e
    · obtain ⟨a, b, e, rr⟩ := pl
      exact ⟨a, b, by rw [upd_ne (Ne.symm hDl)]; exact e, rr⟩
  · obtain ⟨Gi, acc, zs, _, _, gr, _⟩ := h
    exact gr.g.trans gr.x
  · obtain ⟨Gi, acc, zs, hacc, gD, gr, hzs, ia⟩ := h
    have hget : ds[n]? = some ds[n] := List.getElem?_eq_getElem hi
    obtain ⟨G2, gr2, ix⟩ := yy _ hget Gi gr.g gr.x
    have g2D := g_none gr2 gD hacc
    have hacc2 : H' D = some (.lst acc) := gr2.h _ _ hacc
    have grA : GrowP l G1 H1 G2 H' := gr.seq hkl gr2.g (fun c o e _ => gr2.h c o e) gr2.x gr2.n (by
      obtain ⟨a, b, e, rr⟩ := gr.p
      exact ⟨a, b, gr2.h _ _ e, rr⟩)
    have SA := S1.growP grA hp0 e1
    refine Tg.run (T := .one i) (d := ds[n]) rfl (SA.wipe [i]) ix (fun σ' S' hwp => ?_) (fun τ us j o hj => wipe_set τ us j o hj)
    have hw := (hwp [i] (fun j hj => hj)).trans (wipe_idem _ _)
    refine ⟨hw, ?_⟩
    have etake : ds.take (n + 1) = ds.take n ++ [ds[n]] := by rw [List.take_add_one, hget]; rfl
    have hs0 : σ'[0]? = some (some (.ref l)) := by
      have z := congrArg (fun τ => τ[0]?) hw
      have z : (wipe σ' [i])[0]? = (wipe σ [i])[0]? := z
      rw [wipe_get, wipe_get, if_neg (by simpa using Ne.symm hi0), if_neg (by simpa using Ne.symm hi0)] at z
      rw [z]; exact e1
    have S' : Sta B σ' ((ρ1.set i .un).set i (.val ds[n])) G2 H' := S'
    have h00 : ((ρ1.set i .un).set i (.val ds[n]))[0]? = some (.own false .pot) := by
      rw [List.getElem?_set_ne hi0, List.getElem?_set_ne hi0]; exact hp0
    have hownI : ∀ j o, ((ρ1.set i .un).set i (.val ds[n]))[j]? = some (.own false o) → j = 0 := fun j o e => by
      by_cases z : i = j
      · subst z
        rw [List.getElem?_set] at e
        simp only [if_true] at e
        split at e <;> cases e
      · rw [List.getElem?_set_ne z, List.getElem?_set_ne z] at e
        exact hown j o e
    have S2 := S'.inner hs0 h00 hownI
    show cE X scope elt σ' H' _
    intro s H0 C cl fp
    refine turn ds[n] (List.getElem_mem hi) s H0 C cl fp _ σ' G2 H' S2 _ fun v z ρ4 G4 H4 hz S4 g4 _ iv => ?_
    have f4 : ∀ c o, H' c = some o → c ≠ l → H4 c = some o := fun c o e ne => S4.fr c o e (by simpa using ne)
    have h4 : H4 D = some (.lst acc) := f4 _ _ hacc2 hDl
    have p4 : PotAt H4 l := (S4.pot l List.mem_cons_self).1
    have g4D : G4 D = none := by
      cases r : G4 D with
      | none => rfl
      | some u =>
        rcases S4.nw D u r with y | y
        · have y : G2 D = some u := y
          rw [g2D] at y; cases y
        · have y : H' D = none := y
          rw [hacc2] at y; cases y
    have hsz : acc.length < sizeLine := by
      rw [ia.length, hzs.length, List.length_take]
      exact Nat.lt_of_le_of_lt (m := 40000) (by omega) (by decide)
    refine ⟨acc, h4, hsz, ?_⟩
    refine ⟨G4, acc ++ [v], zs ++ [z], upd_same, g4D, ?_, by rw [etake]; exact .snoc hzs hz, IsA.snoc (IsA.mono (gr2.g.trans g4) _ _ ia) iv⟩
    have grT : GrowP l G1 H1 G4 H4 := grA.seq hkl g4 f4 S4.ex S4.nw p4
    refine ⟨grT.g, fun a o e ne => ?_, fun a o e => ?_, grT.n, ?_⟩
    · have q : a ≠ D := by rintro rfl; rw [hD] at e; cases e
      rw [upd_ne q]; exact grT.h a o e ne
    · have q : a ≠ D := by rintro rfl; rw [g4D] at e; cases e
      rw [upd_ne q]; exact grT.x a o e
    · obtain ⟨a, b, e, rr⟩ := p4
      exact ⟨a, b, by rw [upd_ne (Ne.symm hDl)]; exact e, rr⟩
  · obtain ⟨Gi, acc, zs, hacc, gD, gr, hzs, ia⟩ := h
    rw [List.take_length] at hzs
    have ex := Ex.new (o := HO.lst acc) gD
    have grF : GrowP l G1 H1 (L2.upd Gi D (.lst acc)) Hc := by
      refine ⟨gr.g.trans ex, gr.h, fun a o e => ?_, fun a o e => ?_, gr.p⟩
      · by_cases q : a = D
        · subst q; rw [upd_same] at e; rw [hacc]; exact e
        · rw [upd_ne q] at e; exact gr.x a o e
      · by_cases q : a = D
        · subst q; exact .inr hD
        · rw [upd_ne q] at e; exact gr.n a o e
    exact r _ _ ρ1 _ Hc (q zs hzs) (S1.growP grF hp0 e1) (xx.trans grF.g) (fun z => nomatch z) ⟨D, acc, rfl, upd_same, IsA.mono ex _ _ ia⟩
variable {N ps : List Str} {sc scope : Scope} {x : Str} {elt iter : Expr} {px : Pos}
abbrev P1P (X : Cx) (scope : Scope) (i : Nat) (x : Str) (px : Pos) (iter elt : Expr) (P : D → D → Prop) (ρ : Rho) (Q : D → Rho → Prop) : Prop :=
  WI false X (.Name x px) iter ρ fun ds ρ1 => ds.length ≤ 40000 ∧ ρ1[0]? = some (.own false .pot) ∧ (∀ j o, ρ1[j]? = some (.own false o) → j = 0) ∧ (∀ d ∈ ds, ∀ s H C cl fp, W false true (Blk X scope s H C cl fp) elt (lk ((ρ1.set i .un).set i (.val d))) fun z _ => P d z) ∧ ∀ zs, All2 P ds zs → Q (.lst zs) ρ1
/-- [elt for x in iter], elt draws -/
theorem lcP (i : Nat) (P : D → D → Prop) (S0 : FnScope N ps sc) (h : P1P X scope i x px iter elt P ρ Q) (hi0 : i ≠ 0 := by decide) (hXN : X.N = N := by rfl) (hbk : blkC X.N X.env.scope scope [(x, i)] = true := by kernel_rfl) (hi : X.N[i]? = some x := by rfl)
    (hl : Loc1 X scope x := by intro _ _ _ _ _; first | exact ⟨.inl rfl, .inr rfl⟩ | exact ⟨.inr rfl, .inl rfl⟩) (hc : X.calm = true := by rfl) (hs : ∀ x, foldedSetIterable iter X.env x = pure x := by intro _; rfl) :
    W false true X (.ListComp elt [⟨.Name x px, iter, [], 0⟩] scope pos) ρ Q :=
  WX.w (pe_lc (own := [(x, i)]) hc (hXN ▸ S0.nd) pi_w (blkOk_by hbk) (pg1 S0 hXN hi hl) (fun _ _ _ _ _ => pts_nil) pe_c hs) (x_lcP P hi0 h)
/-- y = [elt for x in iter], elt draws -/
theorem s_lcP (l i : Nat) (P : D → D → Prop) {E : DE} {z : Str} {pz spos : Pos} (S0 : FnScope N ps sc) (h : P1P X scope i x px iter elt P ρ fun d ρ' => E.nx (ρ'.set l (.val d))) (hi0 : i ≠ 0 := by decide) (hXN : X.N = N := by rfl) (hbk : blkC X.N X.env.scope scope [(x, i)] = true := by kernel_rfl) (hi : X.N[i]? = some x := by rfl)
    (hl : Loc1 X scope x := by intro _ _ _ _ _; first | exact ⟨.inl rfl, .inr rfl⟩ | exact ⟨.inr rfl, .inl rfl⟩) (hc : X.calm = true := by rfl) (hs : ∀ x, foldedSetIterable iter X.env x = pure x := by intro _; rfl) (hz : X.N[l]? = some z := by rfl) (hzl : X.env.scope.names.lookup z = some .local := by rfl)
    (hsw : swapsWith (.ListComp elt [⟨.Name x px, iter, [], 0⟩] scope pos) (some (.Name z pz)) spos.line X.env = pure true := by exact sw_true rfl rfl rfl (by decide +kernel)) :
    WS X (.Assign [.Name z pz] (.ListComp elt [⟨.Name x px, iter, [], 0⟩] scope pos) spos) ρ E :=
  s_setX (ps_setLc (own := [(x, i)]) hc (hXN ▸ S0.nd) hz hzl hsw pi_w (blkOk_by hbk) (pg1 S0 hXN hi hl) (fun _ _ _ _ _ => pts_nil) pe_c hs) (x_lcP P hi0 h)
end
end DD

namespace DD
open PySem PySem.Spec PyProof.Rows L2
section
variable {p g : Bool} {X : Cx} {ρ : Rho} {Q : D → Rho → Prop} {pos : Pos}
/-- list(range(a, b)) -/
theorem w_listRg2 {a b : Expr} {p1 p2 p3 : Pos} (hml : X.mg "list" = none) (hmr : X.mg "range" = none) (hc : X.calm = true) (h : W p true X a ρ fun d ρ1 => W p true X b ρ1 fun u ρ2 => ∃ m n : Int, d = .int m ∧ u = .int n ∧ (-1000 ≤ m ∧ m ≤ n ∧ n ≤ 1000000) ∧ Q (.lst (rng m (n - m).toNat)) ρ2)
    (hg1 : Gl X "list" := by rfl) (hg2 : Gl X "range" := by rfl) (n1 : starEach [a, b] X.env = (false, eval a X.env) :: starEach [b] X.env := by rfl) (n00 : starEach [b] X.env = (false, eval b X.env) :: starEach [] X.env := by rfl) (n0 : (backTo p3 (starEach [b] X.env)).any (·.1) = false := by rfl)
    (n2 : starEach [.Call (.Name "range" p2) [a, b] [] p3] X.env = (false, eval (.Call (.Name "range" p2) [a, b] [] p3) X.env) :: starEach [] X.env := by rfl) : W p g X (.Call (.Name "list" p1) [.Call (.Name "range" p2) [a, b] [] p3] [] pos) ρ Q := fun B σ G H S R r => by
  refine wE_of (pe_listRg hc hg1 hml (prg_2 hg2 hmr pe_w pe_w n1 n00 n0) n2) ?_
  refine h B σ G H S _ fun v d ρ1 G1 H1 q S1 x pu i => ?_
  refine q B σ G1 H1 S1 _ fun u e ρ2 G2 H2 q2 S2 x2 pu2 i2 => ?_
  obtain ⟨m, n, rfl, rfl, ⟨b0, b1, b2⟩, q2⟩ := q2
  cases (i : v = .int m)
  cases (i2 : u = .int n)
  refine ⟨m, n, rfl, rfl, ⟨by omega, by omega, by omega, by omega, by omega⟩, fun c hcn => ?_⟩
  have gr := Grow.new (o := .lst (rgV m n)) S2.ex hcn
  refine r _ (.lst (rng m (n - m).toNat)) ρ2 _ _ q2 (S2.grow gr) ((x.trans x2).trans gr.g) (fun z => ⟨(pu2 z).1.trans (pu z).1, ((pu z).2.trans (pu2 z).2).trans gr⟩) (is_h (S2.grow gr) ⟨c, _, rfl, upd_same, ?_⟩)
  have e : rng m (n - m).toNat = ((List.range (n - m).toNat).map fun i : Nat => m + i).map D.int := by unfold rng; rw [List.map_map]; rfl
  have e2 : rgV m n = ((List.range (n - m).toNat).map fun i : Nat => m + i).map V.int := by unfold rgV; rw [List.map_map]; rfl
  rw [e, e2]
  exact IsA.of_ints
end
end DD

namespace DD
open PySem PySem.Spec PyProof.Rows L2
section
variable {p g : Bool} {X : Cx} {ρ : Rho} {Q : D → Rho → Prop} {E : DE} {pos : Pos} {N ps : List Str} {sc : Scope} {x y z : Str} {px py pz pt : Pos}
/-- x, y = a, b * n: both own lists -/
theorem s_par2R (i j : Nat) {a b n : Expr} {pm : Pos} {kt k2 pt2} (S0 : FnScope N ps sc) (hij : i ≠ j)
    (h : WF X a ρ fun o ρ1 => W true true X b ρ1 fun d ρ2 => W true true X n ρ2 fun k ρ3 => ∃ xs n, d = .lst xs ∧ k = .int n ∧ (-(2 ^ 63) ≤ n ∧ n < 2 ^ 63 ∧ xs.length * n.toNat ≤ sizeLine) ∧ E.nx ((ρ1.set i (.own true o)).set j (.own true (.lst (List.replicate n.toNat xs).flatten))))
    (hXN : X.N = N := by rfl) (hc : X.calm = true := by rfl) (hi : X.N[i]? = some x := by rfl) (hj : X.N[j]? = some y := by rfl)
    (hx : X.env.scope.names.lookup x = some .local := by rfl) (hy : X.env.scope.names.lookup y = some .local := by rfl)
    (hs1 : starEach [a, .BinOp b .Mult n pm] X.env = (false, eval a X.env) :: starEach [.BinOp b .Mult n pm] X.env := by rfl) (hs2 : starEach [.BinOp b .Mult n pm] X.env = (false, eval (.BinOp b .Mult n pm) X.env) :: starEach [] X.env := by rfl)
    (hw : swappedStores [.Tuple [.Name x px, .Name y py] kt pt] (.Tuple [a, .BinOp b .Mult n pm] k2 pt2) X.env = pure (some [x, y]) := by rfl)
    (hs : swapsWithSole [.Tuple [.Name x px, .Name y py] kt pt] (.Tuple [a, .BinOp b .Mult n pm] k2 pt2) pos.line X.env = pure false := by rfl) :
    WS X (.Assign [.Tuple [.Name x px, .Name y py] kt pt] (.Tuple [a, .BinOp b .Mult n pm] k2 pt2) pos) ρ E := fun B σ G H F S L => by
  refine wS_of (ps_par hc (hXN ▸ S0.nd) hi hj hij hx hy (pa_cons pe_w (pa_cons (pe_op op_rep pe_w pe_w) pa_nil hs2) hs1) hw hs) ?_
  refine h B σ G H S _ fun l o ρ1 G1 H1 q1 S1 x1 gl bl nw ok => ?_
  refine two (p := true) (p1 := true) (.inl rfl) q1 S1 fun v u d k ρ2 G2 H2 q S2 x2 pu i1 i2 => ?_
  obtain ⟨rfl, gr⟩ := pu rfl
  obtain ⟨xs, n, rfl, rfl, b, q⟩ := q
  obtain ⟨a, as, rfl, e2, e3⟩ := i1
  refine ⟨a, n, as, rfl, i2, S2.ex _ _ e2, b.1, b.2.1, by rw [e3.length]; exact b.2.2, fun l2 hl2 => ⟨.ref l, .ref l2, rfl, ?_⟩⟩
  obtain ⟨w0, hw0⟩ := ok.known
  have gl2 : G2 l = none := by
    cases r : G2 l with
    | none => rfl
    | some o' =>
      rcases gr.n l o' r with q | q
      · rw [gl] at q; cases q
      · rw [hw0] at q; cases q
  obtain ⟨b1, b2, b3⟩ := new_own S2 hl2
  have hw2 : H2 l = some w0 := gr.h l w0 hw0
  have nl : l ≠ l2 := by rintro rfl; rw [hw2] at hl2; cases hl2
  have S3 := S2.grow (Grow.own (o := .lst (List.replicate n.toNat as).flatten) S2.ex hl2)
  have S4 := S3.setOwn (i := i) (l := l) (o := o) gl2 bl (ok.mono gr.g fun u hu => by rw [upd_ne nl]; exact gr.h l u hu) (fun m lc u hm hs => nw m hs lc u hm)
  have S5 := S4.setOwn (i := j) (l := l2) (o := .lst (List.replicate n.toNat xs).flatten) b1 b2 ⟨_, upd_same, e3.rep _⟩ (fun m lc u hm hs => by
    by_cases qi : i = m
    · subst qi
      rw [List.getElem?_set] at hs
      simp only [if_true] at hs
      split at hs
      · have : l = l2 := by injection hs with hs; injection hs with hs; injection hs
        exact nl this
      · cases hs
    · rw [List.getElem?_set_ne qi] at hm hs
      exact b3 m hs lc u hm)
  exact L.nx _ _ G2 _ q S5 (x1.trans x2)
/-- x, y, z = a, b, [c]: the third an own list -/
theorem s_par3L (i j k : Nat) {a b c : Expr} {pl : Pos} {kt k2 pt2} (S0 : FnScope N ps sc) (hij : i ≠ j) (hik : i ≠ k) (hjk : j ≠ k)
    (h : W false true X a ρ fun d ρ1 => W false true X b ρ1 fun e ρ2 => W false true X c ρ2 fun f ρ3 => E.nx (((ρ3.set i (.val d)).set j (.val e)).set k (.own true (.lst [f])))) (hXN : X.N = N := by rfl) (hc : X.calm = true := by rfl) (hi : X.N[i]? = some x := by rfl) (hj : X.N[j]? = some y := by rfl) (hk : X.N[k]? = some z := by rfl)
    (hx : X.env.scope.names.lookup x = some .local := by rfl) (hy : X.env.scope.names.lookup y = some .local := by rfl) (hz : X.env.scope.names.lookup z = some .local := by rfl)
    (hs1 : starEach [a, b, .List [c] pl] X.env = (false, eval a X.env) :: starEach [b, .List [c] pl] X.env := by rfl) (hs2 : starEach [b, .List [c] pl] X.env = (false, eval b X.env) :: starEach [.List [c] pl] X.env := by rfl) (hs3 : starEach [.List [c] pl] X.env = (false, eval (.List [c] pl) X.env) :: starEach [] X.env := by rfl) (hs4 : starEach [c] X.env = (false, eval c X.env) :: starEach [] X.env := by rfl)
    (hw : swappedStores [.Tuple [.Name x px, .Name y py, .Name z pz] kt pt] (.Tuple [a, b, .List [c] pl] k2 pt2) X.env = pure (some [x, y, z]) := by rfl)
    (hs : swapsWithSole [.Tuple [.Name x px, .Name y py, .Name z pz] kt pt] (.Tuple [a, b, .List [c] pl] k2 pt2) pos.line X.env = pure false := by rfl) :
    WS X (.Assign [.Tuple [.Name x px, .Name y py, .Name z pz] kt pt] (.Tuple [a, b, .List [c] pl] k2 pt2) pos) ρ E := fun B σ G H F S L => by
  refine wS_of (ps_par3 hc (hXN ▸ S0.nd) hi hj hk hij hik hjk hx hy hz (pa_cons pe_w (pa_cons pe_w (pa_cons (pe_lst (pa_cons pe_w pa_nil hs4)) pa_nil hs3) hs2) hs1) hw hs) ?_
  refine h B σ G H S _ fun v1 d1 ρ1 G1 H1 q1 S1 x1 pu1 i1 => ?_
  refine q1 B σ G1 H1 S1 _ fun v2 d2 ρ2 G2 H2 q2 S2 x2 pu2 i2 => ?_
  refine q2 B σ G2 H2 S2 _ fun v3 d3 ρ3 G3 H3 q S3 x3 pu3 i3 => ?_
  have i1 : Is G1 d1 v1 := i1
  have i2 : Is G2 d2 v2 := i2
  have i3 : Is G3 d3 v3 := i3
  refine ⟨by show 1 ≤ sizeLine; decide, fun l hl => ⟨v1, v2, .ref l, rfl, ?_⟩⟩
  obtain ⟨h1, h2, h3⟩ := new_own S3 hl
  have S4 := S3.grow (Grow.own (o := .lst [v3]) S3.ex hl)
  have S5 := (S4.set (i := i) (Is.mono (x2.trans x3) _ _ i1)).set (i := j) (Is.mono x3 _ _ i2)
  refine L.nx _ _ G3 _ q (S5.setOwn (i := k) (l := l) h1 h2 ⟨[v3], upd_same, v3, [], rfl, i3, rfl⟩ fun m lc u hm hs => ?_) ((x1.trans x2).trans x3)
  obtain ⟨qj, hm⟩ := nown hm
  obtain ⟨qi, hm⟩ := nown hm
  rw [List.getElem?_set_ne qj, List.getElem?_set_ne qi] at hs
  exact h3 m hs lc u hm
end
end DD

namespace DD
open PySem PySem.Spec PyProof.Rows L2
section
variable {p g : Bool} {X : Cx} {ρ : Rho} {Q : D → Rho → Prop} {E : DE} {pos : Pos} {N ps : List Str} {sc : Scope} {x y z : Str} {px py pz pt : Pos} {Z : D → Prop}
theorem c_boolI {i : Int} (q : Z (.bl (i != 0))) : OpC g X (.type "bool") [.int i] Z := by
  intro G H vs R ex i1 k
  obtain ⟨v, rfl, e1⟩ := isA_one (isA_any ex i1)
  cases (e1 : v = .int i)
  exact ⟨_, call_bool1, .inl ⟨i, rfl, k _ (.bl (i != 0)) G H q (Grow.refl ex) rfl⟩⟩
/-- x, y = e, []: e may draw -/
theorem s_parNI (i j : Nat) {a : Expr} {pl : Pos} {kt k2 pt2} (S0 : FnScope N ps sc) (hij : i ≠ j)
    (h : W false true X a ρ fun d ρ' => E.nx ((ρ'.set i (.val d)).set j (.own true (.lst [])))) (hXN : X.N = N := by rfl) (hc : X.calm = true := by rfl) (hi : X.N[i]? = some x := by rfl) (hj : X.N[j]? = some y := by rfl)
    (hx : X.env.scope.names.lookup x = some .local := by rfl) (hy : X.env.scope.names.lookup y = some .local := by rfl)
    (hs1 : starEach [a, .List [] pl] X.env = (false, eval a X.env) :: starEach [.List [] pl] X.env := by rfl) (hs2 : starEach [.List [] pl] X.env = (false, eval (.List [] pl) X.env) :: starEach [] X.env := by rfl)
    (hw : swappedStores [.Tuple [.Name x px, .Name y py] kt pt] (.Tuple [a, .List [] pl] k2 pt2) X.env = pure (some [x, y]) := by rfl)
    (hs : swapsWithSole [.Tuple [.Name x px, .Name y py] kt pt] (.Tuple [a, .List [] pl] k2 pt2) pos.line X.env = pure false := by rfl) :
    WS X (.Assign [.Tuple [.Name x px, .Name y py] kt pt] (.Tuple [a, .List [] pl] k2 pt2) pos) ρ E := fun B σ G H F S L => by
  refine wS_of (ps_par hc (hXN ▸ S0.nd) hi hj hij hx hy (pa_cons pe_w (pa_cons (pe_lst pa_nil) pa_nil hs2) hs1) hw hs) ?_
  refine h B σ G H S _ fun v d ρ' G' H' q S' z pu iv => ?_
  refine ⟨Nat.zero_le _, fun l hl => ⟨v, .ref l, rfl, ?_⟩⟩
  obtain ⟨h1, h2, h3⟩ := new_own S' hl
  have S2 := S'.grow (Grow.own (o := .lst []) S'.ex hl)
  have S3 := S2.set (i := i) iv
  refine L.nx _ _ G' _ q (S3.setOwn (i := j) (l := l) h1 h2 ⟨[], upd_same, rfl⟩ fun m lc u hm hs => ?_) z
  obtain ⟨qi, hm⟩ := nown hm
  rw [List.getElem?_set_ne qi] at hs
  exact h3 m hs lc u hm
/-- x = a + b: an own list -/
theorem f_cat {a b : Expr} {Q : Own → Rho → Prop} (h : W true true X a ρ fun d ρ1 => W true true X b ρ1 fun u ρ2 => ∃ xs ys, d = .lst xs ∧ u = .lst ys ∧ xs.length + ys.length ≤ sizeLine ∧ Q (.lst (xs ++ ys)) ρ2) : WF X (.BinOp a .Add b pos) ρ Q := fun B σ G H S R r => by
  refine wE_of (pe_op op_cat pe_w pe_w) ?_
  refine two (p := true) (p1 := true) (.inl rfl) h S fun v u x y ρ' G' H' q S' e pu i1 i2 => ?_
  obtain ⟨xs, ys, rfl, rfl, b, q⟩ := q
  obtain ⟨a, as, rfl, e2, e3⟩ := i1
  obtain ⟨a', bs, rfl, f2, f3⟩ := i2
  refine ⟨a, a', as, bs, rfl, rfl, S'.ex _ _ e2, S'.ex _ _ f2, by rw [e3.length, f3.length]; exact b, fun l hl => ?_⟩
  obtain ⟨h1, h2, h3⟩ := new_own S' hl
  exact r l (.lst _) ρ' G' _ q (S'.grow (Grow.own S'.ex hl)) e h1 h2 h3 ⟨_, upd_same, e3.append f3⟩
end
end DD

namespace DD
open PySem PySem.Spec PyProof.Rows L2
/-! ### a def that draws and hands back a pair whose second part is its own new list -/
def spPO (c : List D → (D → List D → Prop) → Prop) : Sp := fun vs H Q _ => ∃ (G : Hp) (l : Addr) (vr : List V) (ds : List D) (Z : D → List D → Prop), vs = .ref l :: vr ∧ Ex G H ∧ G l = none ∧ PotAt H l ∧ IsA G ds vr ∧ c ds Z ∧
  ∀ T x a d es xs G' H', Z d es → GrowP l G H G' H' → H' T = some (.tup [x, .ref a]) → G' a = none → H a = none → H' a = some (.lst xs) → Is G' d x → IsA G' es xs → Q (.ref T) H'
def WSPO (X : Cx) (st : List Stmt) (ρ : Rho) (Z : D → List D → Prop) : Prop := ∀ (B : Base) (σ : L2.St) (G H : Hp) (F : Ends), Sta B σ ρ G H →
  (∀ T x a d es xs G' H', Z d es → Fin B G' H' → H' T = some (.tup [x, .ref a]) → G' a = none → B.H a = none → H' a = some (.lst xs) → Is G' d x → IsA G' es xs → F.rt (.ref T) H') → wSs X st F σ H
section
variable {X : Cx} {ρ : Rho} {E : DE} {pos : Pos} {N ps : List Str} {sc : Scope} {x y : Str} {px py pt : Pos} {kk : Nat}
theorem wspo_cons {st : Stmt} {rest : List Stmt} {Z : D → List D → Prop} (h : WS X st ρ { nx := fun ρ' => WSPO X rest ρ' Z, rt := fun _ => False }) : WSPO X (st :: rest) ρ Z := fun B σ G H F S k =>
  wSs_of (pss_cons ps_w pss_w) (h B σ G H { F with nx := wSs X rest F } S ⟨fun σ' ρ' G' H' q S' _ => q B σ' G' H' F S' k, fun _ _ _ _ z => z.elim, fun _ _ _ _ z => z.elim, fun _ _ _ _ z => z.elim⟩)
theorem wspo_cut {st : Stmt} {rest : List Stmt} {Z : D → List D → Prop} (M : Rho → Prop) (h : WS X st ρ { nx := M, rt := fun _ => False }) (k : ∀ ρ', M ρ' → WSPO X rest ρ' Z) : WSPO X (st :: rest) ρ Z :=
  wspo_cons fun B σ G H F S L => h B σ G H F S ⟨fun σ' ρ' G' H' q S' x => L.nx σ' ρ' G' H' (k ρ' q) S' x, L.rt, L.bk, L.ct⟩
/-- return (e1, y), y an own list -/
theorem wspo_ret (i : Nat) {e1 : Expr} {p2 : Pos} {Z : D → List D → Prop} (h : W true true X e1 ρ fun d _ => ∃ es, ρ[i]? = some (.own true (.lst es)) ∧ Z d es) (hN : X.N[i]? = some y := by rfl) (hv : Vis X.env.scope y := by first | exact .inl rfl | exact .inr (.inl rfl) | exact .inr (.inr rfl))
    (hd : (y == ("__debug__" : Str)) = false := by decide) (hcd : (y == ("__classdict__" : Str)) = false := by decide)
    (hs1 : starEach [e1, .Name y py] X.env = (false, eval e1 X.env) :: starEach [.Name y py] X.env := by rfl) (hs2 : starEach [.Name y py] X.env = (false, eval (.Name y py) X.env) :: starEach [] X.env := by rfl) : WSPO X [.Return (some (.Tuple [e1, .Name y py] kk p2)) pos] ρ Z := fun B σ G H F S k => by
  refine wSs_of (pss_one (ps_ret (pe_tup (pa_cons pe_w (pa_cons (pe_var hN hv hd hcd) pa_nil hs2) hs1)))) ?_
  refine h B σ G H S _ fun v1 d1 ρ1 G1 H1 q1 S1 x1 pu i1 => ?_
  obtain ⟨e0, gr⟩ := pu rfl
  subst e0
  obtain ⟨es, hr, q⟩ := q1
  obtain ⟨l, el, gl, bl, xs, h1, h2⟩ := S1.ownAt hr
  have i1 : Is G1 d1 v1 := i1
  refine ⟨_, el, by show 2 ≤ sizeLine; decide, fun T hT => ?_⟩
  have S3 := S1.grow (Grow.own (o := .tup [v1, .ref l]) S1.ex hT)
  have nT : l ≠ T := by rintro rfl; rw [h1] at hT; cases hT
  exact k T v1 l d1 es xs G1 _ q S3.fin upd_same gl (by simpa using bl) (by rw [upd_ne nT]; exact h1) i1 h2
/-- x, y = f(pot, ..): y an own list -/
theorem s_unpPO (ip i j : Nat) {c : List D → (D → List D → Prop) → Prop} {k : Nat} {ps0 : List Str} {fx z : Str} {pp pz pos1 : Pos} {es : List Expr} {lc : Bool} (S0 : FnScope N ps sc) (hij : i ≠ j) (F : Df X.prog X.w X.K X.mg X.base k fx ps0 (spPO c)) (hr : Room k X.A)
    (h : WA false true X es ρ fun ds ρ' => ρ'[ip]? = some (.own lc .pot) ∧ c ds fun d ls => E.nx ((ρ'.set i (.val d)).set j (.own true (.lst ls)))) (hNp : X.N[ip]? = some z := by rfl) (hrp : ρ[ip]? = some (.own lc .pot) := by rfl)
    (hvp : Vis X.env.scope z := by first | exact .inl rfl | exact .inr (.inl rfl) | exact .inr (.inr rfl)) (hdp : (z == ("__debug__" : Str)) = false := by decide) (hcdp : (z == ("__classdict__" : Str)) = false := by decide) (hg : Gl X fx := by rfl) (hdb : (fx == ("__debug__" : Str)) = false := by decide)
    (he : starEach (.Name z pz :: es) X.env = (false, eval (.Name z pz) X.env) :: starEach es X.env := by rfl) (hpl : (backTo pos1 (starEach es X.env)).any (·.1) = false := by rfl)
    (hXN : X.N = N := by rfl) (hc : X.calm = true := by rfl) (hi : X.N[i]? = some x := by rfl) (hj : X.N[j]? = some y := by rfl)
    (hx : Loc X.env.scope x := by first | exact .inl rfl | exact .inr rfl) (hy : Loc X.env.scope y := by first | exact .inl rfl | exact .inr rfl) (hf : X.fn x = true ∨ X.env.scope.names.lookup x = some .local := by first | exact .inl rfl | exact .inr rfl) (hf2 : X.fn y = true ∨ X.env.scope.names.lookup y = some .local := by first | exact .inl rfl | exact .inr rfl)
    (h1 : (assignEach [.Name x px, .Name y py] X.env).length = 2 := by rfl) (h2 : (assignEach [.Name x px, .Name y py] X.env).findIdx? (·.1) = none := by rfl) (h3 : AE X (.Name x px) [.Name y py] := by rfl) (h4 : AE X (.Name y py) [] := by rfl)
    (hs : swapsWithSole [.Tuple [.Name x px, .Name y py] kk pt] (.Call (.Name fx pp) (.Name z pz :: es) [] pos1) pos.line X.env = pure false := by rfl) (hw : swappedStores [.Tuple [.Name x px, .Name y py] kk pt] (.Call (.Name fx pp) (.Name z pz :: es) [] pos1) X.env = pure none := by rfl)
    (h5 : (assignEach [.Tuple [.Name x px, .Name y py] kk pt] X.env).map (·.2) = [assign (.Tuple [.Name x px, .Name y py] kk pt) X.env] := by rfl) :
    WS X (.Assign [.Tuple [.Name x px, .Name y py] kk pt] (.Call (.Name fx pp) (.Name z pz :: es) [] pos1) pos) ρ E := fun B σ G H FF S L => by
  obtain ⟨f, fd, F, hm, hk, hb⟩ := F.ex
  refine wS_of (ps_asg (pe_call F hr hg hm hk hb .nil pass0 (pa_cons pe_w pa_w he) hdb he hpl) (pg_tup hc (pgs_cons (pg_name (hXN ▸ S0.nd) hi hx hf) (pgs_cons (pg_name (hXN ▸ S0.nd) hj hy hf2) pgs_nil h4) h3) h1 h2) hs hw h5) ?_
  refine own_name hNp hvp hdp hcdp hrp S fun l el ok => ?_
  refine h B σ G H S _ fun vs ds ρ' G' H' q S' yx pu ia => ?_
  obtain ⟨l', el', gl, bl, pt⟩ := S'.ownAt q.1
  have : l' = l := by rw [el] at el'; cases el'; rfl
  subst this
  refine ⟨G', l', vs, ds, fun d ls => E.nx ((ρ'.set i (.val d)).set j (.own true (.lst ls))), by rw [List.append_nil], S'.ex, gl, pt, ia, q.2, fun T v1 a d ls xs G2 H2 z gr hT ga ha hl i1 i2 => ?_⟩
  have S2 := S'.growP gr q.1 el
  obtain ⟨_, b2, b3⟩ := new_own S' ha
  refine ⟨T, _, rfl, .inl (.inl hT), rfl, v1, [.ref a], rfl, .ref a, [], rfl, rfl, ?_⟩
  have S3 := S2.set (i := i) i1
  refine L.nx _ _ G2 _ z (S3.setOwn (i := j) (l := a) ga b2 ⟨xs, hl, i2⟩ fun m lc u hm hs => ?_) (yx.trans gr.g)
  obtain ⟨qi, hm⟩ := nown hm
  rw [List.getElem?_set_ne qi] at hs
  exact b3 m hs lc u hm
variable {P : Program} {w : World} {K : PySem.W.Frag} {mg : Str → Option Value} {base : Heap}
theorem fnPO {x qual : Str} {st : Stmt} {f : Addr} {fd : FuncData} {N ps : List Str} {k : Nat} {c : List D → (D → List D → Prop) → Prop} (F : Fun K x qual st f fd) (S : FnScope N ps (defScope st)) (len : ∀ ds Z, c ds Z → ds.length + 1 = ps.length)
    (h : ∀ (cdv : Value) (A : Around) (outer : List Env) (s : Shared) (H : Hp) (E : XK) (ds : List D) (Z : D → List D → Prop), Room k (A.deeper (envOfC qual (defScope st) s.heap.objs.size f cdv)) → c ds Z →
      WSPO (CxD P w K mg base N qual st f cdv A outer s H E) (defBody st) (rhoP N ds) Z) : FnOk P w K mg base CX0 (k + 1) f fd ps (spPO c) := by
  refine F.ok S (fun vs H Q E hs => ?_) fun cdv A outer s H vs Q E hr hs => ?_
  · obtain ⟨G, l, vr, ds, Z, rfl, ex, gl, pl, i, hc, _⟩ := hs
    have := len ds Z hc
    rw [List.length_cons, i.length]; exact this
  · obtain ⟨G, l, vr, ds, Z, rfl, ex, gl, pl, i, hc, q⟩ := hs
    exact ⟨_, pss_w, h cdv A outer s H E ds Z hr hc ⟨H, G, [l], 0⟩ _ G H _ (sta_startP ex i gl pl) fun T x a d es xs G' H' z F hT ga ha hl i1 i2 => q T x a d es xs G' H' z ⟨F.bg, fun a o e n => F.fr a o e (by simpa using n), F.ex, F.nw, F.pot l (List.mem_singleton.mpr rfl)⟩ hT ga ha hl i1 i2⟩
end
end DD

namespace DD
open PySem PySem.Spec PyProof.Rows L2
section
variable {p g : Bool} {X : Cx} {ρ : Rho} {Q : D → Rho → Prop} {pos : Pos}
/-- o[e], o an own list: what stands there stands in the ghost -/
theorem w_ixO (i : Nat) {y : Str} {p2 : Pos} {e : Expr} {lc : Bool} (hr0 : ∃ ds, ρ[i]? = some (.own lc (.lst ds)))
    (h : W true true X e ρ fun k _ => ∃ n ds d, k = .int n ∧ ρ[i]? = some (.own lc (.lst ds)) ∧ atI ds n = some d ∧ Q d ρ) (hN : X.N[i]? = some y := by rfl) (hv : Vis X.env.scope y := by first | exact .inl rfl | exact .inr (.inl rfl) | exact .inr (.inr rfl))
    (hd : (y == ("__debug__" : Str)) = false := by decide) (hcd : (y == ("__classdict__" : Str)) = false := by decide) (hs : PlainIx e := by exact fun _ _ => rfl) : W p g X (.Subscript (.Name y p2) e pos) ρ Q := fun B σ G H S R r => by
  refine wE_of (pe_ix ix_list pe_w pe_w hs) ?_
  obtain ⟨ds0, hr0⟩ := hr0
  refine own_name hN hv hd hcd hr0 S fun l el ok => ?_
  refine h B σ G H S _ fun u k ρ2 G2 H2 q2 S2 y2 pu2 iu => ?_
  obtain ⟨e2, gr2⟩ := pu2 rfl
  subst e2
  obtain ⟨n, ds, d, rfl, hr, ha, q⟩ := q2
  obtain ⟨l', el', gl, bl, xs, h1, h2⟩ := S2.ownAt hr
  have : l' = l := by rw [el] at el'; cases el'; rfl
  subst this
  cases (iu : u = .int n)
  unfold atI at ha
  cases hj : ixN ds.length n with
  | none => rw [hj] at ha; cases ha
  | some m =>
    rw [hj] at ha
    obtain ⟨x, hx, ix⟩ := h2.get (show ds[m]? = some d from ha)
    refine ⟨l', xs, n, x, rfl, rfl, .inl (.inl h1), ?_, r x d ρ2 G2 H2 q S2 y2 (fun _ => ⟨rfl, gr2⟩) (is_h S2 ix)⟩
    unfold atI
    rw [h2.length, hj]
    exact hx
/-- f(o), o an own list of lists: what comes back is a list of whole numbers, and o stays own -/
theorem w_callKeep (i : Nat) {c : List D → (D → Prop) → Prop} {k : Nat} {x y : Str} {ps : List Str} {pp py : Pos} {lc : Bool} {ds : List D} {r0 : List D} (hr0 : ρ[i]? = some (.own lc (.lst ds))) (h0 : ds[0]? = some (.lst r0)) (F : Df X.prog X.w X.K X.mg X.base k x ps (spD c)) (hr : Room k X.A)
    (h : c [.lst ds] fun d => ∃ L : List Int, d = .lst (L.map D.int) ∧ Q (.lst (L.map D.int)) ρ) (hN : X.N[i]? = some y := by rfl) (hv : Vis X.env.scope y := by first | exact .inl rfl | exact .inr (.inl rfl) | exact .inr (.inr rfl))
    (hd : (y == ("__debug__" : Str)) = false := by decide) (hcd : (y == ("__classdict__" : Str)) = false := by decide) (hg : Gl X x := by rfl) (hdb : (x == ("__debug__" : Str)) = false := by decide)
    (he : starEach [.Name y py] X.env = (false, eval (.Name y py) X.env) :: starEach [] X.env := by rfl) (hpl : (backTo pos (starEach [] X.env)).any (·.1) = false := by rfl) : W p g X (.Call (.Name x pp) [.Name y py] [] pos) ρ Q := fun B σ G H S R r => by
  obtain ⟨f, fd, F, hm, hk, hb⟩ := F.ex
  refine wE_of (pe_call F hr hg hm hk hb .nil pass0 (pa_cons (pe_var hN hv hd hcd) pa_nil he) hdb he hpl) ?_
  obtain ⟨l, el, gl, bl, xs, h1, h2⟩ := S.ownAt hr0
  refine ⟨_, el, ?_⟩
  have ex0 := Ex.new (o := HO.lst xs) gl
  refine ⟨L2.upd G l (.lst xs), [.lst ds], _, fun a o e => ?_, ⟨.ref l, [], rfl, ⟨l, xs, rfl, upd_same, IsA.mono ex0 _ _ h2⟩, rfl⟩, h, fun v d G' H' z gr iv => ?_⟩
  · by_cases q : a = l
    · subst q; rw [upd_same] at e; rw [h1]; exact e
    · rw [upd_ne q] at e; exact S.ex a o e
  · obtain ⟨L, rfl, q⟩ := z
    obtain ⟨b, ys, rfl, e2, e3⟩ := iv
    have ey := e3.ints
    subst ey
    have nb : b ≠ l := by
      rintro rfl
      have a := gr.g b _ (upd_same (o := HO.lst xs))
      rw [e2] at a
      have a : L.map V.int = xs := by injection a with a; injection a
      obtain ⟨x0, hx0, ix0⟩ := h2.get h0
      rw [← a, List.getElem?_map] at hx0
      obtain ⟨a0, _, rfl, _⟩ := ix0
      cases hL : L[0]? with
      | none => rw [hL] at hx0; cases hx0
      | some t => rw [hL] at hx0; cases hx0
    have up : ∀ a o, G a = some o → G' a = some o := fun a o e => gr.g a o (ex0 a o e)
    have gr3 : Grow G H (L2.upd G b (.lst (L.map V.int))) H' := by
      refine ⟨fun a o e => ?_, gr.h, fun a o e => ?_, fun a o e => ?_⟩
      · by_cases z : a = b
        · subst z
          have := up a o e
          rw [e2] at this
          rw [upd_same]; exact this
        · rw [upd_ne z]; exact e
      · by_cases z : a = b
        · subst z
          rw [upd_same] at e
          cases e
          exact gr.x _ _ e2
        · rw [upd_ne z] at e
          exact gr.x _ _ (up a o e)
      · by_cases z : a = b
        · subst z
          rw [upd_same] at e
          cases e
          rcases gr.n a _ e2 with y | y
          · rw [upd_ne nb] at y
            exact .inl y
          · exact .inr y
        · rw [upd_ne z] at e
          exact .inl e
    have S3 := S.grow gr3
    exact r _ _ ρ _ H' q S3 gr3.g (fun _ => ⟨rfl, gr3⟩) (is_h S3 ⟨b, _, rfl, upd_same, IsA.of_ints⟩)
end
end DD

namespace DD
open PySem PySem.Spec PyProof.Rows L2
section
variable {X : Cx} {ρ : Rho} {E : DE} {pos : Pos} {N ps : List Str} {sc : Scope} {x y z u : Str} {px py pz pt pu pp : Pos}
/-- x, y, z = a, b * n, list(u): the second and the third own lists -/
theorem s_par3RL (i j k m : Nat) {a b n : Expr} {pm pl : Pos} {kt k2 pt2} (S0 : FnScope N ps sc) (hij : i ≠ j) (hik : i ≠ k) (hjk : j ≠ k) (hml : X.mg "list" = none)
    (h : W true true X a ρ fun d _ => W true true X b ρ fun e ρ2 => W true true X n ρ2 fun kk _ => ∃ xs n ds, e = .lst xs ∧ kk = .int n ∧ (-(2 ^ 63) ≤ n ∧ n < 2 ^ 63 ∧ xs.length * n.toNat ≤ sizeLine) ∧ ρ[m]? = some (.val (.lst ds)) ∧ E.nx (((ρ.set i (.val d)).set j (.own true (.lst (List.replicate n.toNat xs).flatten))).set k (.own true (.lst ds))))
    (hXN : X.N = N := by rfl) (hc : X.calm = true := by rfl) (hi : X.N[i]? = some x := by rfl) (hj : X.N[j]? = some y := by rfl) (hk : X.N[k]? = some z := by rfl)
    (hx : X.env.scope.names.lookup x = some .local := by rfl) (hy : X.env.scope.names.lookup y = some .local := by rfl) (hz : X.env.scope.names.lookup z = some .local := by rfl)
    (hNu : X.N[m]? = some u := by rfl) (hvu : Vis X.env.scope u := by first | exact .inl rfl | exact .inr (.inl rfl) | exact .inr (.inr rfl)) (hdu : (u == ("__debug__" : Str)) = false := by decide) (hcdu : (u == ("__classdict__" : Str)) = false := by decide)
    (hg : Gl X "list" := by rfl) (he : starEach [.Name u pu] X.env = (false, eval (.Name u pu) X.env) :: starEach [] X.env := by rfl) (hpl : (backTo pl (starEach [] X.env)).any (·.1) = false := by rfl)
    (hs1 : starEach [a, .BinOp b .Mult n pm, .Call (.Name "list" pp) [.Name u pu] [] pl] X.env = (false, eval a X.env) :: starEach [.BinOp b .Mult n pm, .Call (.Name "list" pp) [.Name u pu] [] pl] X.env := by rfl)
    (hs2 : starEach [.BinOp b .Mult n pm, .Call (.Name "list" pp) [.Name u pu] [] pl] X.env = (false, eval (.BinOp b .Mult n pm) X.env) :: starEach [.Call (.Name "list" pp) [.Name u pu] [] pl] X.env := by rfl)
    (hs3 : starEach [.Call (.Name "list" pp) [.Name u pu] [] pl] X.env = (false, eval (.Call (.Name "list" pp) [.Name u pu] [] pl) X.env) :: starEach [] X.env := by rfl)
    (hw : swappedStores [.Tuple [.Name x px, .Name y py, .Name z pz] kt pt] (.Tuple [a, .BinOp b .Mult n pm, .Call (.Name "list" pp) [.Name u pu] [] pl] k2 pt2) X.env = pure (some [x, y, z]) := by rfl)
    (hs : swapsWithSole [.Tuple [.Name x px, .Name y py, .Name z pz] kt pt] (.Tuple [a, .BinOp b .Mult n pm, .Call (.Name "list" pp) [.Name u pu] [] pl] k2 pt2) pos.line X.env = pure false := by rfl) :
    WS X (.Assign [.Tuple [.Name x px, .Name y py, .Name z pz] kt pt] (.Tuple [a, .BinOp b .Mult n pm, .Call (.Name "list" pp) [.Name u pu] [] pl] k2 pt2) pos) ρ E := fun B σ G H F S L => by
  refine wS_of (ps_par3 hc (hXN ▸ S0.nd) hi hj hk hij hik hjk hx hy hz (pa_cons pe_w (pa_cons (pe_op op_rep pe_w pe_w) (pa_cons (pe_callTy call_any hg hml (T := "list") (by decide +kernel) (pa_cons (pe_var hNu hvu hdu hcdu) pa_nil he) (by decide) (by decide) he hpl) pa_nil hs3) hs2) hs1) hw hs) ?_
  refine h B σ G H S _ fun v1 d1 ρ1 G1 H1 q1 S1 x1 pu1 i1 => ?_
  obtain ⟨e1, gr1⟩ := pu1 rfl
  subst e1
  refine two (p := true) (p1 := true) (.inl rfl) q1 S1 fun v w e kk ρ2 G2 H2 q S2 x2 pu2 i2 i3 => ?_
  obtain ⟨e2, gr2⟩ := pu2 rfl
  subst e2
  obtain ⟨xs, n, ds, rfl, rfl, b, hr, q⟩ := q
  have i1 : Is G1 d1 v1 := i1
  obtain ⟨a, as, rfl, e2, e3⟩ := i2
  refine ⟨a, n, as, rfl, i3, S2.ex _ _ e2, b.1, b.2.1, by rw [e3.length]; exact b.2.2, fun l2 hl2 => ?_⟩
  obtain ⟨b1, b2, b3⟩ := new_own S2 hl2
  have S3 := S2.grow (Grow.own (o := .lst (List.replicate n.toNat as).flatten) S2.ex hl2)
  obtain ⟨v3, ev, iv⟩ := S3.valAt hr
  obtain ⟨a3, zs, rfl, f2, f3⟩ := iv
  refine ⟨_, ev, ⟨_, call_list_of, a3, zs, rfl, .inl (.inl (.inl (S3.ex _ _ f2))), fun l3 hl3 => ⟨v1, .ref l2, .ref l3, rfl, ?_⟩⟩⟩
  obtain ⟨c1, c2, c3⟩ := new_own S3 hl3
  have S4 := S3.grow (Grow.own (o := .lst zs) S3.ex hl3)
  have n23 : l2 ≠ l3 := by rintro rfl; rw [upd_same] at hl3; cases hl3
  have S5 := S4.set (i := i) (Is.mono x2 _ _ i1)
  have S6 := S5.setOwn (i := j) (l := l2) (o := .lst (List.replicate n.toNat xs).flatten) b1 b2 ⟨_, by rw [upd_ne n23, upd_same], e3.rep _⟩ (fun m lc u hm hs => by
    obtain ⟨qi, hm⟩ := nown hm
    rw [List.getElem?_set_ne qi] at hs
    exact b3 m hs lc u hm)
  have S7 := S6.setOwn (i := k) (l := l3) (o := .lst ds) c1 c2 ⟨zs, upd_same, f3⟩ (fun m lc u hm hs => by
    by_cases qj : j = m
    · subst qj
      rw [List.getElem?_set] at hs
      simp only [if_true] at hs
      split at hs
      · have : l2 = l3 := by injection hs with hs; injection hs with hs; injection hs
        exact n23 this
      · cases hs
    · rw [List.getElem?_set_ne qj] at hm hs
      obtain ⟨qi, hm⟩ := nown hm
      rw [List.getElem?_set_ne qi] at hs
      exact c3 m hs lc u hm)
  exact L.nx _ _ G2 _ q S7 (x1.trans x2)
end
end DD

namespace DD
open PySem PySem.Spec PyProof.Rows L2
/-! ### o[::-1] -/
theorem pick_rev (its : List Value) : slicePick its.toArray none none (some (-1)) = its.reverse.toArray := by
  unfold slicePick
  congr 1
  have hb : sliceBounds none none (some (-1)) its.toArray.size = ((its.length : Int) - 1, -1, -1) := rfl
  rw [hb]
  show List.filterMap (fun x => its.toArray[x]?) (sliceRange ((its.length : Int) - 1) (-1) (-1)) = its.reverse
  have hr : sliceRange ((its.length : Int) - 1) (-1) (-1) = (List.range its.length).map fun k : Nat => its.length - 1 - k := by
    unfold sliceRange
    have hc : (if (-1 : Int) > 0 then if (its.length : Int) - 1 < -1 then (-1 - ((its.length : Int) - 1) + -1 - 1) / -1 else 0 else if (its.length : Int) - 1 > -1 then ((its.length : Int) - 1 - -1 - -1 - 1) / - -1 else 0).toNat = its.length := by
      rw [if_neg (by decide)]
      by_cases h : (its.length : Int) - 1 > -1
      · rw [if_pos h, show (- -1 : Int) = 1 by decide, Int.ediv_one]; omega
      · rw [if_neg h]
        have : its.length = 0 := by omega
        rw [this]; rfl
    show List.map _ (List.range (if (-1 : Int) > 0 then if (its.length : Int) - 1 < -1 then (-1 - ((its.length : Int) - 1) + -1 - 1) / -1 else 0 else if (its.length : Int) - 1 > -1 then ((its.length : Int) - 1 - -1 - -1 - 1) / - -1 else 0).toNat) = _
    rw [hc]
    refine List.map_congr_left fun k hk => ?_
    have := List.mem_range.mp hk
    omega
  rw [hr, List.filterMap_map]
  apply List.ext_getElem?
  intro i
  have key : ∀ n, n ≤ its.length → List.filterMap ((fun x => its.toArray[x]?) ∘ fun k => its.length - 1 - k) (List.range n) = its.reverse.take n := fun n => by
    induction n with
    | zero => intro _; rfl
    | succ n ih =>
      intro hn
      have e : its.reverse[n]? = some its[its.length - 1 - n] := by
        rw [List.getElem?_reverse (by omega)]
        exact List.getElem?_eq_getElem (by omega)
      rw [List.range_succ, List.filterMap_append, ih (by omega), List.take_add_one, e]
      congr 1
      have e2 : its.toArray[its.length - 1 - n]? = some its[its.length - 1 - n] := by
        rw [List.getElem?_toArray]
        exact List.getElem?_eq_getElem (by omega)
      show List.filterMap _ [n] = _
      rw [List.filterMap_cons]
      have e3 : ((fun x => its.toArray[x]?) ∘ fun k => its.length - 1 - k) n = some its[its.length - 1 - n] := e2
      rw [e3]; rfl
  rw [key its.length (Nat.le_refl _), List.take_of_length_le (by rw [List.length_reverse]; exact Nat.le_refl _)]
section
variable {p g : Bool} {X : Cx} {ρ : Rho} {Q : D → Rho → Prop} {pos : Pos}
def tRev (X : Cx) (te : TE) (tp : TO) : TE := fun σ H Q => te σ H fun x H1 => tp σ H1 fun st H2 => st = some (-1) ∧ ∃ a xs, x = .ref a ∧ SqL X.K H2 a xs ∧ ∀ q, H2 q = none → Q (.ref q) (L2.upd H2 q (.lst xs.reverse))
theorem pe_rev {e : Expr} {stp : Expr} {te : TE} {tp : TO} {p2 : Pos} (he : PE X e te) (hp : PO X (some stp) tp) : PE X (.Subscript e (.Slice none none (some stp) p2) pos) (tRev X te tp) := ⟨fun pins s σ H Q I h => Subscript_ (thn (he.run pins s σ H _ I h) fun v s1 hx => by
  obtain ⟨x, H1, I1, r1, q1⟩ := hx
  refine wpAny_Slice ?_
  rw [evalPart_none]
  refine wpAny_pure ?_
  refine wpAny_pure ?_
  refine thn (hp.run pins s1 σ H1 _ I1 q1) fun vs s2 hy => ?_
  obtain ⟨st, H2, I2, ip, q2⟩ := hy
  obtain ⟨rfl, a, xs, rfl, hx, q⟩ := q2
  have I4 := Inv.kept (t' := s2.toks) I2 (fun b ob q => Heap.get?_push_of_some { cls := .type "slice", data := .fields #[.none, .none, vs] } q)
  cases (r1 : v = .ref a)
  obtain ⟨its, r, ht, hz⟩ := I4.list hx
  refine tail_any (PlainL.isList ht).typeIs slot_list_getitem.lookup ?_ rfl
  have hlen := r.length
  refine wpAny_getItem_list_slice (PlainL.isList ht) (Heap.IsSliceOf.new s2.1 .none .none vs) .none .none ip (by decide) ?_ (by rw [List.size_toArray]; omega)
  rw [pick_rev]
  refine ⟨.ref _, L2.upd H2 _ (.lst xs.reverse), Inv.laid I4 (fun b ob q => Heap.get?_push_of_some _ q) (Nat.le_refl _) ⟨by rw [List.length_reverse]; exact hz, its.reverse, 0, vals_rev r, Heap.get?_push_size _ rfl⟩, rfl, q _ (HOk.fresh I4.hok (Nat.le_refl _))⟩)⟩
theorem IsA.rev {H : Hp} : ∀ {ds : List D} {xs : List V}, IsA H ds xs → IsA H ds.reverse xs.reverse := isA_rev
/-- e[::-1], e a list -/
theorem w_rev {e stp : Expr} {p2 : Pos} (h : W p true X e ρ fun d ρ1 => ∃ xs, d = .lst xs ∧ WO X (some stp) ρ1 fun l => l = some (-1) ∧ Q (.lst xs.reverse) ρ1) : W p g X (.Subscript e (.Slice none none (some stp) p2) pos) ρ Q := fun B σ G H S R r => by
  refine wE_of (pe_rev pe_w po_w) ?_
  refine h B σ G H S _ fun v d ρ1 G1 H1 q S1 y pu i => ?_
  obtain ⟨xs, rfl, q⟩ := q
  refine wo_go q S1 fun l G2 H2 q2 S2 gr2 => ?_
  obtain ⟨rfl, q2⟩ := q2
  have i3 := Is.mono gr2.g _ _ i
  obtain ⟨a, as, rfl, e2, e3⟩ := i3
  refine ⟨rfl, a, as, rfl, .inl (.inl (S2.ex _ _ e2)), fun b hb => ?_⟩
  have gr := Grow.new (o := .lst as.reverse) S2.ex hb
  exact r _ (.lst xs.reverse) ρ1 _ _ q2 (S2.grow gr) ((y.trans gr2.g).trans gr.g) (fun z => ⟨(pu z).1, ((pu z).2.trans gr2).trans gr⟩) (is_h (S2.grow gr) ⟨b, _, rfl, upd_same, IsA.mono gr.g _ _ (isA_rev e3)⟩)
variable {E : DE} {N ps : List Str} {sc : Scope} {x y z : Str} {px py pz pt : Pos}
/-- x, y, z = a, [], c: the second an own list, c may draw -/
theorem s_par3D (i j k : Nat) {a c : Expr} {pl : Pos} {kt k2 pt2} (S0 : FnScope N ps sc) (hij : i ≠ j) (hik : i ≠ k) (hjk : j ≠ k)
    (h : W false true X a ρ fun d ρ1 => ρ1[0]? = some (.own false .pot) ∧ (∀ j o, ρ1[j]? = some (.own false o) → j = 0) ∧ W false true X c (lk ρ1) fun e _ => E.nx (((ρ1.set i (.val d)).set j (.own true (.lst []))).set k (.val e)))
    (hXN : X.N = N := by rfl) (hc : X.calm = true := by rfl) (hi : X.N[i]? = some x := by rfl) (hj : X.N[j]? = some y := by rfl) (hk : X.N[k]? = some z := by rfl)
    (hx : X.env.scope.names.lookup x = some .local := by rfl) (hy : X.env.scope.names.lookup y = some .local := by rfl) (hz : X.env.scope.names.lookup z = some .local := by rfl)
    (hs1 : starEach [a, .List [] pl, c] X.env = (false, eval a X.env) :: starEach [.List [] pl, c] X.env := by rfl) (hs2 : starEach [.List [] pl, c] X.env = (false, eval (.List [] pl) X.env) :: starEach [c] X.env := by rfl) (hs3 : starEach [c] X.env = (false, eval c X.env) :: starEach [] X.env := by rfl)
    (hw : swappedStores [.Tuple [.Name x px, .Name y py, .Name z pz] kt pt] (.Tuple [a, .List [] pl, c] k2 pt2) X.env = pure (some [x, y, z]) := by rfl)
    (hs : swapsWithSole [.Tuple [.Name x px, .Name y py, .Name z pz] kt pt] (.Tuple [a, .List [] pl, c] k2 pt2) pos.line X.env = pure false := by rfl) :
    WS X (.Assign [.Tuple [.Name x px, .Name y py, .Name z pz] kt pt] (.Tuple [a, .List [] pl, c] k2 pt2) pos) ρ E := fun B σ G H F S L => by
  refine wS_of (ps_par3 hc (hXN ▸ S0.nd) hi hj hk hij hik hjk hx hy hz (pa_cons pe_w (pa_cons (pe_lst pa_nil) (pa_cons pe_w pa_nil hs3) hs2) hs1) hw hs) ?_
  refine h B σ G H S _ fun v1 d1 ρ1 G1 H1 q1 S1 x1 pu1 i1 => ?_
  obtain ⟨hp0, hown, q1⟩ := q1
  have i1 : Is G1 d1 v1 := i1
  refine ⟨Nat.zero_le _, fun l hl => ?_⟩
  obtain ⟨b1, b2, b3⟩ := new_own S1 hl
  have S2 := S1.grow (Grow.own (o := .lst []) S1.ex hl)
  obtain ⟨lp, e1, gl, ll, pl⟩ := S2.ownAt hp0
  have S3 := S2.inner e1 hp0 hown
  refine q1 _ σ G1 _ S3 _ fun v3 d3 ρ3 G3 H3 q S4 x3 _ i3 => ⟨v1, .ref l, v3, rfl, ?_⟩
  have i3 : Is G3 d3 v3 := i3
  have nl : l ≠ lp := by
    rintro rfl
    obtain ⟨l', e', _, _, a0, b0, pe, _⟩ := S1.ownAt hp0
    have : l' = l := by rw [e1] at e'; cases e'; rfl
    subst this
    rw [hl] at pe; cases pe
  have gr : GrowP lp G1 (L2.upd H1 l (.lst [])) G3 H3 := ⟨x3, fun a o e ne => S4.fr a o e (by simpa using ne), S4.ex, S4.nw, (S4.pot lp List.mem_cons_self).1⟩
  have S5 := S2.growP gr hp0 e1
  have h3 : H3 l = some (.lst []) := gr.h _ _ upd_same nl
  have g3 : G3 l = none := by
    cases r : G3 l with
    | none => rfl
    | some u =>
      rcases gr.n l u r with y | y
      · rw [b1] at y; cases y
      · rw [upd_same] at y; cases y
  have S6 := S5.set (i := i) (Is.mono x3 _ _ i1)
  have S7 := S6.setOwn (i := j) (l := l) (o := .lst []) g3 b2 ⟨[], h3, rfl⟩ (fun m lc u hm hs => by
    obtain ⟨qi, hm⟩ := nown hm
    rw [List.getElem?_set_ne qi] at hs
    exact b3 m hs lc u hm)
  exact L.nx _ _ G3 _ q (S7.set (i := k) i3) (x1.trans x3)
end
end DD

namespace DD
open PySem PySem.Spec PyProof.Rows L2
/-! ### cells: own lists that stand in lists -/
abbrev CS := List (Addr × List D)
structure CellOk (B : Base) (σ : L2.St) (ρ : Rho) (G H : Hp) (a : Addr) (ds : List D) : Prop where
  h : ∃ xs, H a = some (.lst xs) ∧ IsA G ds xs
  g : G a = none
  b : B.H a = none
  s : ∀ (j : Nat) (lc : Bool) (o : Own), ρ[j]? = some (.own lc o) → σ[j]? ≠ some (some (.ref a))
structure Cells (B : Base) (σ : L2.St) (ρ : Rho) (G H : Hp) (cs : CS) : Prop where
  nd : (cs.map (·.1)).Nodup
  ok : ∀ c ∈ cs, CellOk B σ ρ G H c.1 c.2
def onC (cs : CS) (a : Addr) : Prop := ∃ c ∈ cs, c.1 = a
open Classical in
noncomputable def Base.held (B : Base) (H : Hp) (cs : CS) : Base := { B with H := fun a => if onC cs a then H a else B.H a }
theorem OwnOk.base {B B' : Base} {G H : Hp} {l : Addr} (e : B'.X = B.X) : ∀ {o : Own}, OwnOk B G H l o → OwnOk B' G H l o
  | .pot, h => h
  | .lst _, h => h
  | .dic _, h => h
  | .ins _ _, ⟨z, r⟩ => ⟨z.trans e.symm, r⟩
section
variable {B : Base} {σ σ' : L2.St} {ρ ρ' : Rho} {G H G' H' : Hp} {cs : CS}
theorem held_on {a : Addr} (h : onC cs a) : (B.held H cs).H a = H a := if_pos h
theorem held_off {a : Addr} (h : ¬ onC cs a) : (B.held H cs).H a = B.H a := if_neg h
theorem Cells.at (c : Cells B σ ρ G H cs) {a : Addr} (h : onC cs a) : ∃ ds, CellOk B σ ρ G H a ds := by
  obtain ⟨x, hx, rfl⟩ := h
  exact ⟨_, c.ok x hx⟩
theorem Sta.hold (S : Sta B σ ρ G H) (c : Cells B σ ρ G H cs) : Sta (B.held H cs) σ ρ G H := by
  refine ⟨S.len, S.ex, fun a o e n => ?_, fun a e => ?_, fun a o e => ?_, S.bg, fun a o e => ?_, fun l hl => ?_, fun i s v h1 h2 => ?_, S.dist⟩
  · by_cases h : onC cs a
    · rw [held_on h] at e; exact e
    · rw [held_off h] at e; exact S.fr a o e n
  · by_cases h : onC cs a
    · rw [held_on h]; exact e
    · rw [held_off h]; exact S.kn a e
  · rcases S.nw a o e with q | q
    · exact .inl q
    · by_cases h : onC cs a
      · obtain ⟨ds, k⟩ := c.at h
        rw [k.g] at e; cases e
      · right; rw [held_off h]; exact q
  · by_cases h : onC cs a
    · obtain ⟨ds, k⟩ := c.at h
      have := S.bg a o e
      rw [k.g] at this; cases this
    · rw [held_off h]; exact S.bx a o e
  · obtain ⟨p, u, hu⟩ := S.pot l hl
    refine ⟨p, ?_⟩
    by_cases h : onC cs l
    · rw [held_on h]
      obtain ⟨x, y, e, _⟩ := p
      exact ⟨_, e⟩
    · rw [held_off h]; exact ⟨u, hu⟩
  · have k := S.env i s v h1 h2
    cases s with
    | un => trivial
    | val d => exact k
    | own lc o =>
      obtain ⟨l, rfl, f2, f3, f4⟩ := k
      refine ⟨l, rfl, f2, ?_, f4.base rfl⟩
      cases lc with
      | false => exact f3
      | true =>
        have f3 : B.H l = none := f3
        show (B.held H cs).H l = none
        by_cases h : onC cs l
        · obtain ⟨ds, k⟩ := c.at h
          exact absurd h2 (k.s i _ _ h1)
        · rw [held_off h]; exact f3
theorem Cells.held_none (c : Cells B σ ρ G H cs) {a : Addr} (e : (B.held H cs).H a = none) : B.H a = none := by
  by_cases h : onC cs a
  · obtain ⟨ds, k⟩ := c.at h
    exact k.b
  · rw [held_off h] at e; exact e
theorem Cells.held_some (c : Cells B σ ρ G H cs) {a : Addr} {o : HO} (e : B.H a = some o) : (B.held H cs).H a = some o := by
  by_cases h : onC cs a
  · obtain ⟨ds, k⟩ := c.at h
    rw [k.b] at e; cases e
  · rw [held_off h]; exact e
theorem Sta.free (S : Sta B σ ρ G H) (c : Cells B σ ρ G H cs) (S' : Sta (B.held H cs) σ' ρ' G' H') (ex : Ex G G') : Sta B σ' ρ' G' H' ∧ Cells B σ' ρ' G' H' cs := by
  have hw : ∀ l ∈ B.W, ¬ onC cs l := fun l hl h => by
    obtain ⟨ds, k⟩ := c.at h
    obtain ⟨_, u, hu⟩ := S.pot l hl
    rw [k.b] at hu; cases hu
  refine ⟨⟨S'.len, S'.ex, fun a o e n => S'.fr a o (c.held_some e) n, fun a e => c.held_none (S'.kn a e), fun a o e => (S'.nw a o e).imp id c.held_none, S'.bg, S.bx, fun l hl => ⟨(S'.pot l hl).1, (S.pot l hl).2⟩, fun i s v h1 h2 => ?_, S'.dist⟩, c.nd, fun x hx => ?_⟩
  · have k := S'.env i s v h1 h2
    cases s with
    | un => trivial
    | val d => exact k
    | own lc o =>
      obtain ⟨l, rfl, f2, f3, f4⟩ := k
      refine ⟨l, rfl, f2, ?_, f4.base rfl⟩
      cases lc with
      | false => exact f3
      | true => exact c.held_none f3
  · have k := c.ok x hx
    have on : onC cs x.1 := ⟨x, hx, rfl⟩
    obtain ⟨xs, h1, h2⟩ := k.h
    have nW : x.1 ∉ B.W := fun z => hw _ z on
    have hh : (B.held H cs).H x.1 = some (.lst xs) := by rw [held_on on]; exact h1
    refine ⟨⟨xs, S'.fr _ _ hh nW, IsA.mono ex _ _ h2⟩, ?_, k.b, fun j lc o h3 h4 => ?_⟩
    · cases r : G' x.1 with
      | none => rfl
      | some u =>
        rcases S'.nw _ _ r with q | q
        · have := S.bg _ _ q
          rw [k.g] at this; cases this
        · rw [hh] at q; cases q
    · obtain ⟨l, e, f2, f3, f4⟩ := S'.env j _ _ h3 h4
      cases e
      cases lc with
      | true =>
        have f3 : (B.held H cs).H x.1 = none := f3
        rw [hh] at f3; cases f3
      | false => exact nW f3
theorem Cells.fin (S : Sta B σ ρ G H) (c : Cells B σ ρ G H cs) (F : Fin (B.held H cs) G' H') : Fin B G' H' :=
  ⟨F.ex, fun a o e n => F.fr a o (c.held_some e) n, fun a o e => (F.nw a o e).imp id c.held_none, F.bg, F.pot⟩
open Classical in
/-- the cells as data -/
noncomputable def melt (G H : Hp) (cs : CS) : Hp := fun a => if onC cs a then H a else G a
theorem melt_on {a : Addr} (h : onC cs a) : melt G H cs a = H a := if_pos h
theorem melt_off {a : Addr} (h : ¬ onC cs a) : melt G H cs a = G a := if_neg h
theorem Cells.melt_ex (c : Cells B σ ρ G H cs) : Ex G (melt G H cs) := fun a o e => by
  by_cases h : onC cs a
  · obtain ⟨ds, k⟩ := c.at h
    rw [k.g] at e; cases e
  · rw [melt_off h]; exact e
theorem Cells.melt (c : Cells B σ ρ G H cs) (S : Sta B σ ρ G H) : Sta B σ ρ (melt G H cs) H := by
  refine ⟨S.len, fun a o e => ?_, S.fr, S.kn, fun a o e => ?_, S.bg.trans c.melt_ex, S.bx, S.pot, fun i s v h1 h2 => ?_, S.dist⟩
  · by_cases h : onC cs a
    · rw [melt_on h] at e; exact e
    · rw [melt_off h] at e; exact S.ex a o e
  · by_cases h : onC cs a
    · obtain ⟨ds, k⟩ := c.at h
      exact .inr k.b
    · rw [melt_off h] at e; exact S.nw a o e
  · have k := S.env i s v h1 h2
    cases s with
    | un => trivial
    | val d =>
      obtain ⟨x, e, iv⟩ := k
      exact ⟨x, e, Is.mono c.melt_ex _ _ iv⟩
    | own lc o =>
      obtain ⟨l, rfl, f2, f3, f4⟩ := k
      refine ⟨l, rfl, ?_, f3, f4.mono c.melt_ex fun o z => z⟩
      by_cases h : onC cs l
      · obtain ⟨ds, k⟩ := c.at h
        exact absurd h2 (k.s i _ _ h1)
      · rw [melt_off h]; exact f2
/-- a cell's place as what stands there -/
inductive Mz (cs : CS) : D → D → Prop
  | one {a : Addr} {ds : List D} : (a, ds) ∈ cs → Mz cs (.adr a) (.lst ds)
  | all {as : CS} : (∀ c ∈ as, c ∈ cs) → Mz cs (.lst (as.map fun c => .adr c.1)) (.lst (as.map fun c => .lst c.2))
theorem Cells.cellIs (c : Cells B σ ρ G H cs) {x : Addr × List D} (hx : x ∈ cs) : Is (DD.melt G H cs) (.lst x.2) (.ref x.1) := by
  obtain ⟨xs, h1, h2⟩ := (c.ok x hx).h
  exact ⟨x.1, xs, rfl, by rw [melt_on ⟨x, hx, rfl⟩]; exact h1, IsA.mono c.melt_ex _ _ h2⟩
theorem Cells.allIs (c : Cells B σ ρ G H cs) : ∀ {as : CS} {xs : List V}, (∀ x ∈ as, x ∈ cs) → IsA G (as.map fun c => .adr c.1) xs → IsA (DD.melt G H cs) (as.map fun c => .lst c.2) xs
  | [], _, _, h => h
  | a :: as, _, m, ⟨x, r, e1, e2, e3⟩ => by
    have e2 : x = .ref a.1 := e2
    subst e1; subst e2
    exact ⟨_, _, rfl, c.cellIs (m a List.mem_cons_self), Cells.allIs c (fun x hx => m x (List.mem_cons_of_mem _ hx)) e3⟩
theorem Cells.mz (c : Cells B σ ρ G H cs) {d d' : D} {v : V} (z : Mz cs d d') (h : Is G d v) : Is (DD.melt G H cs) d' v := by
  cases z with
  | one hm =>
    have h : v = .ref _ := h
    subst h
    exact c.cellIs hm
  | all hm =>
    obtain ⟨a, xs, rfl, e2, e3⟩ := h
    exact ⟨a, xs, rfl, c.melt_ex _ _ e2, c.allIs hm e3⟩
theorem set_back {σ : L2.St} {i : Nat} {v : V} (h : σ[i]? = some (some v)) : σ.set i (some v) = σ := by
  apply List.ext_getElem?
  intro j
  rw [List.getElem?_set]
  by_cases q : i = j
  · subst q
    have := (List.getElem?_eq_some_iff.mp h).1
    rw [if_pos rfl, if_pos this, h]
  · rw [if_neg q]
theorem Cells.show (c : Cells B σ ρ G H cs) (S : Sta B σ ρ G H) {i : Nat} {d d' : D} (hi : ρ[i]? = some (.val d)) (z : Mz cs d d') : Sta B σ (ρ.set i (.val d')) (DD.melt G H cs) H := by
  obtain ⟨v, e, iv⟩ := S.valAt hi
  have S2 := (c.melt S).set (i := i) (c.mz z iv)
  rw [set_back e] at S2
  exact S2
/-- behind a pure reading of the cells' data: the ghost less the cells -/
theorem Cells.unmelt (c : Cells B σ ρ G H cs) (S : Sta B σ ρ G H) (gr : Grow (DD.melt G H cs) H G' H') : ∃ G2, Sta B σ ρ G2 H' ∧ Cells B σ ρ G2 H' cs ∧ Ex G G2 ∧ Grow G H G2 H' ∧ Ex G2 G' ∧ ∀ a, ¬ onC cs a → G2 a = G' a := by
  classical
  let G2 : Hp := fun a => if onC cs a then none else G' a
  have on : ∀ a, onC cs a → G2 a = none := fun a h => if_pos h
  have off : ∀ a, ¬ onC cs a → G2 a = G' a := fun a h => if_neg h
  have nG : ∀ a o, G a = some o → ¬ onC cs a := fun a o e h => by
    obtain ⟨ds, k⟩ := c.at h
    rw [k.g] at e; cases e
  have x2 : Ex G2 G' := fun a o e => by
    by_cases h : onC cs a
    · rw [on a h] at e; cases e
    · rw [off a h] at e; exact e
  have gr2 : Grow G H G2 H' := by
    refine ⟨fun a o e => ?_, gr.h, x2.trans gr.x, fun a o e => ?_⟩
    · rw [off a (nG a o e)]
      exact gr.g a o (c.melt_ex a o e)
    · by_cases h : onC cs a
      · rw [on a h] at e; cases e
      · rw [off a h] at e
        rcases gr.n a o e with q | q
        · rw [melt_off h] at q; exact .inl q
        · exact .inr q
  refine ⟨G2, S.grow gr2, ⟨c.nd, fun x hx => ?_⟩, gr2.g, gr2, x2, off⟩
  have k := c.ok x hx
  obtain ⟨xs, h1, h2⟩ := k.h
  exact ⟨⟨xs, gr.h _ _ h1, IsA.mono gr2.g _ _ h2⟩, on _ ⟨x, hx, rfl⟩, k.b, k.s⟩
end
/-! ### statements beside cells -/
structure LinkC (B : Base) (G0 : Hp) (nx : Rho → CS → Prop) (rt : D → Prop) (F : Ends) : Prop where
  nx : ∀ σ ρ cs G H, nx ρ cs → Sta B σ ρ G H → Cells B σ ρ G H cs → Ex G0 G → F.nx σ H
  rt : ∀ v d G H, rt d → Fin B G H → Is G d v → F.rt v H
theorem LinkC.mono {B : Base} {G0 G1 : Hp} {nx : Rho → CS → Prop} {rt : D → Prop} {F : Ends} (L : LinkC B G0 nx rt F) (e : Ex G0 G1) : LinkC B G1 nx rt F :=
  ⟨fun σ ρ cs G H q S c x => L.nx σ ρ cs G H q S c (e.trans x), L.rt⟩
def WC (X : Cx) (st : Stmt) (ρ : Rho) (cs : CS) (nx : Rho → CS → Prop) (rt : D → Prop) : Prop := ∀ (B : Base) (σ : L2.St) (G H : Hp) (F : Ends), Sta B σ ρ G H → Cells B σ ρ G H cs → LinkC B G nx rt F → wS X st F σ H
def WCs (X : Cx) (st : List Stmt) (ρ : Rho) (cs : CS) (nx : Rho → CS → Prop) (rt : D → Prop) : Prop := ∀ (B : Base) (σ : L2.St) (G H : Hp) (F : Ends), Sta B σ ρ G H → Cells B σ ρ G H cs → LinkC B G nx rt F → wSs X st F σ H
section
variable {X : Cx} {ρ : Rho} {cs : CS} {nx : Rho → CS → Prop} {rt : D → Prop} {pos : Pos}
theorem cc_nil (h : nx ρ cs) : WCs X [] ρ cs nx rt := fun B σ G H F S c L => wSs_of pss_nil (L.nx σ ρ cs G H h S c (Ex.refl G))
theorem cc_cons {st : Stmt} {rest : List Stmt} (h : WC X st ρ cs (fun ρ' cs' => WCs X rest ρ' cs' nx rt) rt) : WCs X (st :: rest) ρ cs nx rt := fun B σ G H F S c L =>
  wSs_of (pss_cons ps_w pss_w) (h B σ G H { F with nx := wSs X rest F } S c ⟨fun σ' ρ' cs' G' H' q S' c' x => q B σ' G' H' F S' c' (L.mono x), L.rt⟩)
theorem cc_cut {st : Stmt} {rest : List Stmt} (M : Rho → CS → Prop) (h : WC X st ρ cs M rt) (k : ∀ ρ' cs', M ρ' cs' → WCs X rest ρ' cs' nx rt) : WCs X (st :: rest) ρ cs nx rt :=
  cc_cons fun B σ G H F S c L => h B σ G H F S c ⟨fun σ' ρ' cs' G' H' q S' c' x => L.nx σ' ρ' cs' G' H' (k ρ' cs' q) S' c' x, L.rt⟩
theorem cc_one {st : Stmt} (h : WC X st ρ cs nx rt) : WCs X [st] ρ cs nx rt := fun B σ G H F S c L => wSs_of (pss_one ps_w) (h B σ G H F S c L)
/-- a statement that does not look at the cells -/
theorem c_old {st : Stmt} (h : WS X st ρ { nx := fun ρ' => nx ρ' cs, rt := rt }) : WC X st ρ cs nx rt := fun B σ G H F S c L =>
  h (B.held H cs) σ G H F (S.hold c) ⟨fun σ' ρ' G' H' q S' x => by
    obtain ⟨S2, c2⟩ := S.free c S' x
    exact L.nx σ' ρ' cs G' H' q S2 c2 x, fun v d G' H' q f i => L.rt v d G' H' q (c.fin S f) i, fun _ _ _ _ z => z.elim, fun _ _ _ _ z => z.elim⟩
/-- from here on the cells are data -/
theorem cc_melt {st : List Stmt} (i : Nat) {d d' : D} (z : Mz cs d d') (h : WSs X st (ρ.set i (.val d')) { nx := fun _ => False, rt := rt }) (hi : ρ[i]? = some (.val d) := by rfl) : WCs X st ρ cs nx rt := fun B σ G H F S c L =>
  h B σ _ H F (c.show S hi z) ⟨fun _ _ _ _ z => z.elim, L.rt, fun _ _ _ _ z => z.elim, fun _ _ _ _ z => z.elim⟩
/-- a test that does not look at the cells -/
theorem c_if {e : Expr} {a b : List Stmt} (h : WT false X e ρ fun k ρ' => if k = true then WCs X a ρ' cs nx rt else WCs X b ρ' cs nx rt) : WC X (.If e a b pos) ρ cs nx rt := fun B σ G H F S c L => by
  refine wS_of (ps_if pt_w pss_w pss_w) ?_
  refine h (B.held H cs) σ G H (S.hold c) _ fun k ρ' G' H' q S' x pu => ?_
  obtain ⟨S2, c2⟩ := S.free c S' x
  cases k with
  | true => exact q B σ G' H' F S2 c2 (L.mono x)
  | false => exact q B σ G' H' F S2 c2 (L.mono x)
/-- a test that reads the cells -/
theorem c_ifM {e : Expr} {a b : List Stmt} (i : Nat) {d d' : D} (z : Mz cs d d') (h : WT true X e (ρ.set i (.val d')) fun k _ => if k = true then WCs X a ρ cs nx rt else WCs X b ρ cs nx rt) (hi : ρ[i]? = some (.val d) := by rfl) : WC X (.If e a b pos) ρ cs nx rt := fun B σ G H F S c L => by
  refine wS_of (ps_if pt_w pss_w pss_w) ?_
  refine h B σ _ H (c.show S hi z) _ fun k ρ' G' H' q S' x pu => ?_
  obtain ⟨G2, S2, c2, x2, _⟩ := c.unmelt S (pu rfl).2
  cases k with
  | true => exact q B σ G2 H' F S2 c2 (L.mono x2)
  | false => exact q B σ G2 H' F S2 c2 (L.mono x2)
/-- x = e, e reads the cells and is flat -/
theorem c_setM (i k : Nat) {x : Str} {e : Expr} {pos' : Pos} {N ps : List Str} {sc : Scope} {d d' : D} (S0 : FnScope N ps sc) (z : Mz cs d d') (h : W true true X e (ρ.set i (.val d')) fun u _ => (DD.sc u).isSome = true ∧ nx (ρ.set k (.val u)) cs) (hi : ρ[i]? = some (.val d) := by rfl)
    (hXN : X.N = N := by rfl) (hk : X.N[k]? = some x := by rfl) (hx : Loc X.env.scope x := by first | exact .inl rfl | exact .inr rfl)
    (hs : swapsWith e (some (.Name x pos')) pos.line X.env = pure false := by rfl) (hf : X.fn x = true ∨ X.env.scope.names.lookup x = some .local := by first | exact .inl rfl | exact .inr rfl) : WC X (.Assign [.Name x pos'] e pos) ρ cs nx rt := fun B σ G H F S c L => by
  refine wS_of (ps_set (hXN ▸ S0.nd) hk hx pe_w hs hf) ?_
  refine h B σ _ H (c.show S hi z) _ fun v u ρ' G' H' q S' y pu j => ?_
  obtain ⟨G2, S2, c2, x2, _⟩ := c.unmelt S (pu rfl).2
  obtain ⟨w, hw⟩ := Option.isSome_iff_exists.mp q.1
  have e1 : v = w := Is.sc hw j
  subst e1
  have S3 := S2.set (i := k) (Is.of_sc (H := G2) hw)
  refine L.nx _ _ cs G2 H' q.2 S3 ⟨c2.nd, fun x hx => ?_⟩ x2
  have kk := c2.ok x hx
  refine ⟨kk.h, kk.g, kk.b, fun m lc o h1 h2 => ?_⟩
  by_cases qk : k = m
  · subst qk
    rw [List.getElem?_set] at h1
    simp only [if_true] at h1
    split at h1 <;> cases h1
  · rw [List.getElem?_set_ne qk] at h1 h2
    exact kk.s m lc o h1 h2
end
end DD

namespace DD
open PySem PySem.Spec PyProof.Rows L2
/-! ### enumerate of a tuple -/
theorem enumB {v : Value} {o : Obj} {HH : Heap → Prop} (B : Begins v o HH) : Meets (Builtin.«enumerate.__new__» ⟨[.type "enumerate", v], []⟩) (fun _ R s => HH s.heap ∧
    R (.ok (.ret (.ref (s.heap.push o).objs.size))) { s with heap := (s.heap.push o).push { cls := .type "enumerate", data := .fields #[.none, .bool false, .ref s.heap.objs.size, rawInt 0, .none, .none] } }) :=
  .of_wp fun prog w A R s h => by
    obtain ⟨hp, g, d, tk, os⟩ := s
    obtain ⟨h1, h⟩ := h
    have sub0 := sub_enumerate
    have go : ∀ {A' : Around} {E : Value → Shared → Prop} {Q : Value → Shared → Prop}, Q (.ref hp.objs.size) ⟨hp.push o, g, d, tk, os⟩ → wpAny (model prog w) A' (pyIter v) Q E ⟨hp, g, d, tk, os⟩ := fun q =>
      B.iter prog w _ _ ⟨hp, g, d, tk, os⟩ _ h1 q
    wp_walk using go
    refine wpAny_stack_any fun st => wpAny_pure ?_
    split
    · rename_i c _ _ _ _ _
      cases hc : (c == Value.type "enumerate") <;> (wp_walk using go; exact ⟨_, rfl, h⟩)
    · wp_walk using go; exact ⟨_, rfl, h⟩
theorem enum_made {prog : Program} {w : World} {A : Around} {E : Value → Shared → Prop} {s : Shared} {v : Value} {o : Obj} {HH : Heap → Prop} {Q : Value → Shared → Prop} (B : Begins v o HH) (h1 : HH s.heap)
    (h : ∀ h', IsEnum h' (s.heap.objs.size + 1) s.heap.objs.size 0 .none → h'.get? s.heap.objs.size = some o → (∀ b u, s.heap.get? b = some u → h'.get? b = some u) → Q (.ref (s.heap.objs.size + 1)) { s with heap := h' }) : wpAny (model prog w) A (PySem.call (.type "enumerate") [v]) Q E s := by
  refine callType_new F.called_enumerate (by decide) (F.typeCall_enumerate_1 _) (F.newCall_enumerate_1 _) (fun ob => F.args_object_init_2 ob _) F.entry_enumerate_new (enumB B) ⟨h1, ?_⟩
  have sz : (s.heap.push o).objs.size = s.heap.objs.size + 1 := Heap.size_push ..
  have en : IsEnum ((s.heap.push o).push { cls := .type "enumerate", data := .fields #[.none, .bool false, .ref s.heap.objs.size, rawInt 0, .none, .none] }) (s.heap.objs.size + 1) s.heap.objs.size 0 .none := by
    have z := Heap.get?_push_size (s.heap.push o) (o := { cls := .type "enumerate", data := .fields #[.none, .bool false, .ref s.heap.objs.size, rawInt 0, .none, .none] }) rfl
    rw [sz] at z; exact z
  show _ ∧ _
  rw [sz]
  exact ⟨⟨_, en, rfl⟩, h _ en (Heap.get?_push_of_some _ (Heap.get?_push_size _ B.free)) fun b u x => Heap.get?_push_of_some _ (Heap.get?_push_of_some _ x)⟩
def ItET (K : PySem.W.Frag) (a : Addr) : It where
  go := fun i H => ∃ (xs : List V) (x : V), SqT K H a xs ∧ xs[i]? = some x
  yld := fun i H v H' => ∃ T x, v = .ref T ∧ H T = none ∧ H' = upd H T (.tup [.int (i : Nat), x]) ∧ ∀ l, SqT K H a l → l[i]? = some x
  stop := fun i H => ∃ xs : List V, SqT K H a xs ∧ i = xs.length
structure ETSt (a e it : Addr) (i : Nat) (h : Heap) : Prop where
  e : ∃ old, IsEnum h e it ((i : Nat) : Int) old
  t : h.IsTupleIter it a i
theorem turn_ET {P : Program} {w : World} {K : PySem.W.Frag} {elts : List Expr} {kk : Nat} {tpos : Pos} {a e it : Addr} (ne : e ≠ it) (na : a ≠ it) (nea : e ≠ a) : Turn P w K (.Tuple elts kk tpos) (ItET K a) [e, it] e (ETSt a e it) where
  mem := by simp
  obj := fun i h st c hc => by
    obtain ⟨old, he⟩ := st.e
    obtain ⟨o1, e1, _, d1⟩ := st.t
    rcases (show c = e ∨ c = it by simpa using hc) with rfl | rfl
    · exact ⟨_, he, fun _ q => by cases q⟩
    · exact ⟨_, e1, fun _ q => by rw [d1] at q; cases q⟩
  keep := fun i h h' st k => by
    obtain ⟨old, he⟩ := st.e
    exact ⟨⟨old, k e (by simp) _ he⟩, st.t.at fun o => k it (by simp) o⟩
  item := by
    intro X hP hw hK hc i pins s σ H E I hf st hg
    subst hP hw hK
    obtain ⟨xs, x, qa, hx⟩ := hg
    obtain ⟨ia, ra, pa, _⟩ := I.tuple qa
    have pa : s.heap.IsTuple a ia.toArray := pa
    obtain ⟨va, ga, wa⟩ := ra.get hx
    obtain ⟨old, he⟩ := st.e
    have la : i < ia.toArray.size := by have := (List.getElem?_eq_some_iff.mp ga).1; simpa using this
    have le : e < s.heap.objs.size := Heap.lt_size he
    refine wpAny_pyNext_enum_itemD (Draws.tuple (A := X.A.in1) (I.ok.hd hc) it a na ia.toArray) he ⟨st.t, pa⟩ la ne (by simp; exact ⟨ne, nea⟩) fun y h1 tk f1 g1 g2 g3 _ hk => ?_
    have e1 : y = va := by
      have q : ia[i]? = some y := by simpa using f1
      rw [ga] at q; cases q; rfl
    subst e1
    refine ⟨_, rfl, wpAny_letOwnedTupleGo_enum (s := { s with heap := h1, toks := tk + 1 }) g1 fun h2 z2 sb => ?_⟩
    have hT : h2.get? s.heap.objs.size = some { cls := .type "tuple", data := .seq #[.int i tk, y] } := (sb.2 _ (Nat.ne_of_gt le)).trans g3
    have new : ObjOk X.prog X.w (upd H s.heap.objs.size (.tup [.int (i : Nat), x])) h2 s.heap.objs.size (.tup [.int (i : Nat), x]) := ⟨by show 2 ≤ sizeLine; decide, [.int i tk, y], .cons ⟨_, rfl⟩ (.cons wa .nil), ⟨_, hT, rfl, _, rfl⟩⟩
    have I2 : Inv X pins σ (upd H s.heap.objs.size (.tup [.int (i : Nat), x])) { s with heap := h2, toks := tk + 1 } := I.turnedNew (ch := [e, it]) (fun c ob hm q => by
      have n : c ≠ e ∧ c ≠ it := by simpa using hm
      exact (sb.2 c n.1).trans (hk c ob n.1 n.2 q)) hf (Nat.le_refl _) new
    refine ⟨.ref s.heap.objs.size, _, I2, rfl, ⟨_, x, rfl, I.hok.fresh (Nat.le_refl _), rfl, fun l hl => ?_⟩, ⟨⟨y, ?_⟩, g2.1.at fun o q => (sb.2 _ (Ne.symm ne)).trans q⟩, fun c hm => ?_⟩
    · rw [I.tuple_inj hl qa]; exact hx
    · have e1 : ((i + 1 : Nat) : Int) = (i : Int) + 1 := by omega
      rw [e1]; exact z2
    · have lt : c < s.heap.objs.size := by
        obtain ⟨o1, k1, _⟩ := st.t
        rcases (show c = e ∨ c = it by simpa using hm) with rfl | rfl
        · exact le
        · exact Heap.lt_size k1
      rw [upd_ne (Nat.ne_of_lt lt)]
      exact (hf c hm).1
  done := by
    intro X hP hw hK hc i pins s σ H E I hf st hg
    subst hP hw hK
    obtain ⟨xs, qa, hi⟩ := hg
    obtain ⟨ia, ra, pa, _⟩ := I.tuple qa
    have pa : s.heap.IsTuple a ia.toArray := pa
    obtain ⟨old, he⟩ := st.e
    have sa : ia.toArray.size = xs.length := by simp [ra.length]
    have st2 : s.heap.IsTupleIter it a ia.toArray.size := by
      have := st.t
      rw [hi, ← sa] at this; exact this
    obtain ⟨f0, f1, f2, f3, f4, f5⟩ := hf it (by simp)
    exact wpAny_pyNext_enum_endD (Draws.tuple (A := X.A.in1) (I.ok.hd hc) it a na ia.toArray) he ⟨st2, pa⟩ fun h' eb => ⟨rfl, I.turned (t' := s.toks) (fun b o hb q => eb b o hb q) f0 f1 f3 f4 f5⟩
  self := fun A i s Q E st h => let ⟨⟨_, he⟩, _⟩ := st; wpAny_pyIter_enum he h
def iET (K : PySem.W.Frag) (ta : TA) : TI := fun σ H R => ta σ H fun vs H1 => ∃ a xs, vs = [.ref a] ∧ SqT K H1 a xs ∧ R (ItET K a) H1
theorem pi_ET {X : Cx} {e : Expr} {ta : TA} {p pos tpos : Pos} {elts : List Expr} {kk : Nat} (hg : Gl X "enumerate") (hm : X.mg "enumerate" = none) (ha : PA X [e] ta)
    (hs : starEach [e] X.env = [(false, eval e X.env)] := by rfl) : PI X (.Tuple elts kk tpos) (.Call (.Name "enumerate" p) [e] [] pos) (iET X.K ta) := by
  refine ⟨fun pins s σ H R I hyp => ?_⟩
  refine Call_ (ld_blt I hg hm boot_enumerate (PyProof.Rows.callWith_type1 (thn (ha.run pos pins s σ H _ I hyp) fun us s1 ⟨vs, H1, I1, r1, q1⟩ => ?_) hs rfl))
  obtain ⟨a, xs, rfl, qa, q⟩ := q1
  cases r1 with
  | cons ra rr =>
    cases rr; cases ra
    obtain ⟨ia, va, pa, _⟩ := I1.tuple qa
    have pa : s1.heap.IsTuple a ia.toArray := pa
    have la : a < s1.heap.objs.size := by obtain ⟨_, k, _⟩ := pa; exact Heap.lt_size k
    refine enum_made (begins_tuple a ia.toArray) pa fun h' he hit hk => wpAny_pyIter_enum he ?_
    have I2 : Inv X pins σ H1 { s1 with heap := h' } := I1.kept (t' := s1.toks) hk
    refine ⟨_, [s1.heap.objs.size + 1, s1.heap.objs.size], _, _, H1, rfl, I2, turn_ET (Nat.succ_ne_self _) (Nat.ne_of_lt la) (Nat.ne_of_gt (Nat.lt_succ_of_lt la)), ⟨⟨.none, he⟩, ⟨_, hit, rfl, rfl⟩⟩, fun c hm => ?_, q⟩
    have le : s1.heap.objs.size ≤ c := by
      rcases (show c = s1.heap.objs.size + 1 ∨ c = s1.heap.objs.size by simpa using hm) with z | z <;> rw [z] <;> first | exact Nat.le_refl _ | exact Nat.le_add_right _ _
    exact I1.fpOk le (I1.hok.fresh le)
theorem walk_ET {K : PySem.W.Frag} {a : Addr} {xs : List V} : Walk (ItET K a) xs.length (fun H => SqT K H a xs) (YPair (fun i => some (V.int (i : Nat))) (fun i => xs[i]?)) where
  goes := fun i H hi q => ⟨xs, xs[i], q, List.getElem?_eq_getElem hi⟩
  stops := fun H q => ⟨xs, q, rfl⟩
  yields := fun i H v H' _ q y => by
    obtain ⟨T, x, z1, z2, z3, z4⟩ := y
    exact ⟨T, V.int (i : Nat), x, z1, z2, z3, rfl, z4 xs q⟩
section
variable {X : Cx} {p : Bool} {ρ : Rho} {QI : List D → Rho → Prop}
theorem wi_enumT {a : Expr} {elts : List Expr} {kk : Nat} {pp pos tpos : Pos} (hg : Gl X "enumerate") (hm : X.mg "enumerate" = none) (h : WA p true X [a] ρ fun ds ρ' => ∃ xs, ds = [.tup xs] ∧ QI (((rng 0 xs.length).zip xs).map fun q => D.tup [q.1, q.2]) ρ')
    (hs : starEach [a] X.env = [(false, eval a X.env)] := by rfl) : WI p X (.Tuple elts kk tpos) (.Call (.Name "enumerate" pp) [a] [] pos) ρ QI := fun B σ G H S R r => by
  refine wI_of (pi_ET hg hm pa_w hs) ?_
  refine h B σ G H S _ fun vs ds ρ' G' H' q S' x pu i => ?_
  obtain ⟨xs, rfl, q⟩ := q
  obtain ⟨v, rfl, l1, as, rfl, e2, e3⟩ := isA_one i
  refine ⟨l1, as, rfl, .inl (.inl (S'.ex _ _ e2)), r _ _ ρ' G' H' q S' x pu ?_⟩
  refine walkD_pair (n := as.length) (by rw [rng_len, e3.length, Nat.min_self]) walk_ET (fun H h => .inl (.inl (h _ _ e2))) (fun i d hd => ?_) (fun i d hd => e3.get hd)
  obtain ⟨_, rfl⟩ := rng_get hd
  exact ⟨_, rfl, by show V.int _ = V.int _; rw [Int.zero_add]⟩
theorem wi_enumR {d : D} {xs : List D} {a : Expr} {elts : List Expr} {kk : Nat} {pp pos tpos : Pos} (hd : d = .lst xs ∨ d = .tup xs) (hg : Gl X "enumerate") (hm : X.mg "enumerate" = none) (h : WA p true X [a] ρ fun ds ρ' => ds = [d] ∧ QI (((rng 0 xs.length).zip xs).map fun q => D.tup [q.1, q.2]) ρ')
    (hs : starEach [a] X.env = [(false, eval a X.env)] := by rfl) : WI p X (.Tuple elts kk tpos) (.Call (.Name "enumerate" pp) [a] [] pos) ρ QI := by
  rcases hd with rfl | rfl
  · exact wi_enum hg hm (fun B σ G H S R r => h B σ G H S R fun vs ds ρ' G' H' q S' y pu i => r vs ds ρ' G' H' ⟨_, q.1, q.2⟩ S' y pu i) hs
  · exact wi_enumT hg hm (fun B σ G H S R r => h B σ G H S R fun vs ds ρ' G' H' q S' y pu i => r vs ds ρ' G' H' ⟨_, q.1, q.2⟩ S' y pu i) hs
end
end DD

namespace DD
open PySem PySem.Spec PyProof.Rows L2
/-! ### cells change -/
structure CellH (G H : Hp) (cs : CS) : Prop where
  nd : (cs.map (·.1)).Nodup
  ok : ∀ c ∈ cs, (∃ xs, H c.1 = some (.lst xs) ∧ IsA G c.2 xs) ∧ G c.1 = none
theorem onC_map {cs cs' : CS} (h : cs'.map (·.1) = cs.map (·.1)) {a : Addr} : onC cs' a ↔ onC cs a := by
  have m : ∀ cs : CS, onC cs a ↔ a ∈ cs.map (·.1) := fun cs => by
    rw [List.mem_map]; exact Iff.rfl
  rw [m, m, h]
section
variable {B : Base} {σ σ' : L2.St} {ρ ρ' : Rho} {G H G' H' : Hp} {cs cs' : CS}
theorem Cells.cellH (c : Cells B σ ρ G H cs) : CellH G H cs := ⟨c.nd, fun x hx => ⟨(c.ok x hx).h, (c.ok x hx).g⟩⟩
theorem Sta.cellUpd (S : Sta B σ ρ G H) (c : Cells B σ ρ G H cs) (m : cs'.map (·.1) = cs.map (·.1)) (g : Ex G G') (x : Ex G' H') (fr : ∀ a o, H a = some o → ¬ onC cs a → H' a = some o) (n : ∀ a o, G' a = some o → G a = some o ∨ H a = none) (k : CellH G' H' cs') : Sta B σ ρ G' H' ∧ Cells B σ ρ G' H' cs' := by
  have off : ∀ a o, B.H a = some o → ¬ onC cs a := fun a o e h => by
    obtain ⟨ds, q⟩ := c.at h
    rw [q.b] at e; cases e
  refine ⟨⟨S.len, x, fun a o e hn => fr a o (S.fr a o e hn) (off a o e), fun a e => ?_, fun a o e => ?_, S.bg.trans g, S.bx, fun l hl => ?_, fun i s v h1 h2 => ?_, S.dist⟩, k.nd, fun y hy => ?_⟩
  · by_cases h : onC cs a
    · obtain ⟨ds, q⟩ := c.at h
      exact q.b
    · refine S.kn a ?_
      cases r : H a with
      | none => rfl
      | some o => rw [fr a o r h] at e; cases e
  · rcases n a o e with q | q
    · exact S.nw a o q
    · exact .inr (S.kn a q)
  · obtain ⟨⟨p, q, e, r⟩, u, hu⟩ := S.pot l hl
    exact ⟨⟨p, q, fr _ _ e (off _ _ hu), r⟩, u, hu⟩
  · have z := S.env i s v h1 h2
    cases s with
    | un => trivial
    | val d =>
      obtain ⟨y, e, iv⟩ := z
      exact ⟨y, e, Is.mono g _ _ iv⟩
    | own lc o =>
      obtain ⟨l, rfl, f2, f3, f4⟩ := z
      obtain ⟨u, hu⟩ := f4.known
      refine ⟨l, rfl, ?_, f3, f4.mono g fun o z => fr l o z fun h => ?_⟩
      · cases r : G' l with
        | none => rfl
        | some o =>
          rcases n l o r with q | q
          · rw [f2] at q; cases q
          · rw [hu] at q; cases q
      · obtain ⟨ds, q⟩ := c.at h
        exact q.s i _ _ h1 h2
  · obtain ⟨ds, q⟩ := c.at ((onC_map m).mp ⟨y, hy, rfl⟩)
    exact ⟨(k.ok y hy).1, (k.ok y hy).2, q.b, q.s⟩
end
/-! ### loops beside cells -/
section
variable {X : Cx} {ρ : Rho} {cs : CS} {nx : Rho → CS → Prop} {rt : D → Prop} {pos : Pos}
theorem c_while {c : Expr} {body : List Stmt} (hp : PassesOwn (model X.prog X.w) X.A X.env X.xe) (I : Nat → Rho → CS → Prop) (m0 : Nat) (h0 : I m0 ρ cs)
    (h : ∀ m ρ' cs', I m ρ' cs' → WT false X c ρ' fun b ρ2 => if b = true then WCs X body ρ2 cs' (fun ρ3 cs3 => ∃ m', m' < m ∧ I m' ρ3 cs3) rt else nx ρ2 cs') : WC X (.While c body [] pos) ρ cs nx rt := fun B σ G H F S c0 L => by
  refine wS_of (ps_while hp pt_w pss_w) ?_
  refine ⟨fun m σ' H' => ∃ ρ' cs' G', I m ρ' cs' ∧ Sta B σ' ρ' G' H' ∧ Cells B σ' ρ' G' H' cs' ∧ Ex G G', ⟨m0, ρ, cs, G, h0, S, c0, Ex.refl G⟩, fun m σ' H' hw => ?_⟩
  obtain ⟨ρ', cs', G', hI, S', c', e⟩ := hw
  refine h m ρ' cs' hI (B.held H' cs') σ' G' H' (S'.hold c') _ fun b ρ2 G2 H2 q S2 x pu => ?_
  obtain ⟨S3, c3⟩ := S'.free c' S2 x
  have e2 := e.trans x
  cases b with
  | true =>
    refine ⟨fun σ3 H3 => ∃ m', m' < m ∧ ∃ ρ' cs' G', I m' ρ' cs' ∧ Sta B σ3 ρ' G' H3 ∧ Cells B σ3 ρ' G' H3 cs' ∧ Ex G G', fun _ _ z => z, ?_⟩
    exact q B σ' G2 H2 _ S3 c3 ⟨fun σ4 ρ4 cs4 G4 H4 ⟨m', hm, hi⟩ S4 c4 x4 => ⟨m', hm, ρ4, cs4, G4, hi, S4, c4, e2.trans x4⟩, L.rt⟩
  | false => exact L.nx σ' ρ2 cs' G2 H2 q S3 c3 e2
theorem c_for {tg iter : Expr} {body : List Stmt} {T : Tg} (hp : PassesOwn (model X.prog X.w) X.A X.env X.xe) (hc : X.calm = true) (hg : PG X tg (T.g X.K)) (hs : ∀ x, foldedSetIterable iter X.env x = pure x)
    (h : WI false X tg iter ρ fun ds ρ1 => ∃ I : Nat → Rho → CS → Prop, I 0 ρ1 cs ∧ (∀ i d ρi csi, ds[i]? = some d → I i ρi csi → ∃ ρ2, T.eff d ρi = some ρ2 ∧ WCs X body ρ2 csi (I (i + 1)) rt) ∧ ∀ ρn csn, I ds.length ρn csn → nx ρn csn) : WC X (.For tg iter body [] pos) ρ cs nx rt := fun B σ G H F S c0 L => by
  refine wS_of (ps_for hp hc pi_w hg pss_w hs) ?_
  refine h (B.held H cs) σ G H (S.hold c0) _ fun J ds ρ1 G1 H1 q S1 x pu wk => ?_
  obtain ⟨I, i0, turn, fin⟩ := q
  obtain ⟨T1, c1⟩ := S.free c0 S1 x
  refine for_it wk (fun i σ' H' => ∃ ρ' cs' G', I i ρ' cs' ∧ Sta B σ' ρ' G' H' ∧ Cells B σ' ρ' G' H' cs' ∧ Ex G1 G') ⟨ρ1, cs, G1, i0, T1, c1, Ex.refl _⟩ (fun i σ' H' _ h => ?_) (fun i y σ' H' H'' hi h ya => ?_) fun σ' H' h => ?_
  · obtain ⟨ρ', cs', G', _, S', _, e⟩ := h
    exact e.trans S'.ex
  · obtain ⟨ρ', cs', G', hI, S', c', e⟩ := h
    have hget : ds[i]? = some ds[i] := List.getElem?_eq_getElem hi
    obtain ⟨G2, gr, iy⟩ := ya _ hget G' e S'.ex
    obtain ⟨ρ2, he, hb⟩ := turn i _ ρ' cs' hget hI
    refine Tg.run he ((S'.hold c').grow gr) iy (fun σ2 S2 _ => ?_) fun τ vs j o hj => wipe_set τ vs j o hj
    obtain ⟨S3, c3⟩ := S'.free c' S2 gr.g
    have e2 := e.trans gr.g
    exact hb B σ2 G2 H'' _ S3 c3 ⟨fun σ4 ρ4 cs4 G4 H4 q4 S4 c4 x4 => ⟨ρ4, cs4, G4, q4, S4, c4, e2.trans x4⟩, L.rt⟩
  · obtain ⟨ρ', cs', G', hI, S', c', e⟩ := h
    exact L.nx σ' ρ' cs' G' H' (fin ρ' cs' hI) S' c' (x.trans e)
theorem c_for2 (i l : Nat) {x y : Str} {px py pt : Pos} {kk : Nat} {iter : Expr} {body : List Stmt} {N ps : List Str} {sc : Scope} (S0 : FnScope N ps sc)
    (h : WI false X (.Tuple [.Name x px, .Name y py] kk pt) iter ρ fun ds ρ1 => ∃ I : Nat → Rho → CS → Prop, I 0 ρ1 cs ∧ (∀ j d ρi csi, ds[j]? = some d → I j ρi csi → ∃ a b, d = .tup [a, b] ∧ WCs X body ((ρi.set i (.val a)).set l (.val b)) csi (I (j + 1)) rt) ∧ ∀ ρn csn, I ds.length ρn csn → nx ρn csn)
    (hp : PassesOwn (model X.prog X.w) X.A X.env X.xe := by exact PassesOwn.never) (hXN : X.N = N := by rfl) (hi : X.N[i]? = some x := by rfl) (hl : X.N[l]? = some y := by rfl) (hx : Loc X.env.scope x := by first | exact .inl rfl | exact .inr rfl) (hy : Loc X.env.scope y := by first | exact .inl rfl | exact .inr rfl)
    (hf : X.fn x = true ∨ X.env.scope.names.lookup x = some .local := by first | exact .inl rfl | exact .inr rfl) (hf2 : X.fn y = true ∨ X.env.scope.names.lookup y = some .local := by first | exact .inl rfl | exact .inr rfl) (hc : X.calm = true := by rfl) (hs : ∀ x, foldedSetIterable iter X.env x = pure x := by intro _; rfl)
    (h1 : (assignEach [.Name x px, .Name y py] X.env).length = 2 := by rfl) (h2 : (assignEach [.Name x px, .Name y py] X.env).findIdx? (·.1) = none := by rfl) (h3 : AE X (.Name x px) [.Name y py] := by rfl) (h4 : AE X (.Name y py) [] := by rfl) : WC X (.For (.Tuple [.Name x px, .Name y py] kk pt) iter body [] pos) ρ cs nx rt :=
  c_for (T := .two i l) hp hc (pg_tup hc (pgs_cons (pg_name (hXN ▸ S0.nd) hi hx hf) (pgs_cons (pg_name (hXN ▸ S0.nd) hl hy hf2) pgs_nil h4) h3) h1 h2) hs fun B σ G H S R r => h B σ G H S R fun J ds ρ1 G1 H1 q S1 y pu wk => r J ds ρ1 G1 H1 (by
    obtain ⟨I, i0, st, fin⟩ := q
    refine ⟨I, i0, fun j d ρi csi hd hI => ?_, fin⟩
    obtain ⟨a, b, rfl, z⟩ := st j d ρi csi hd hI
    exact ⟨_, rfl, z⟩) S1 y pu wk
/-! ### x[e] = v and x[e] += v, x a cell -/
theorem map_setC {cs : CS} {m : Nat} {a : Addr} {ds ds' : List D} (h : cs[m]? = some (a, ds)) : (cs.set m (a, ds')).map (·.1) = cs.map (·.1) := by
  apply List.ext_getElem?
  intro i
  rw [List.getElem?_map, List.getElem?_map, List.getElem?_set]
  by_cases q : m = i
  · subst q
    rw [if_pos rfl, if_pos (List.getElem?_eq_some_iff.mp h).1, h]; rfl
  · rw [if_neg q]
theorem cell_put {B : Base} {σ : L2.St} {G H : Hp} {m : Nat} {a : Addr} {ds ds' : List D} {ys : List V} (S : Sta B σ ρ G H) (c : Cells B σ ρ G H cs) (h : cs[m]? = some (a, ds)) (i : IsA G ds' ys) : Sta B σ ρ G (L2.upd H a (.lst ys)) ∧ Cells B σ ρ G (L2.upd H a (.lst ys)) (cs.set m (a, ds')) := by
  have hm : (a, ds) ∈ cs := List.mem_of_getElem? h
  have ka := c.ok _ hm
  have on : onC cs a := ⟨_, hm, rfl⟩
  refine S.cellUpd c (map_setC h) (Ex.refl G) (fun b o e => ?_) (fun b o e n => ?_) (fun b o e => .inl e) ⟨by rw [map_setC h]; exact c.nd, fun x hx => ?_⟩
  · have q : b ≠ a := by rintro rfl; rw [ka.g] at e; cases e
    rw [upd_ne q]; exact S.ex b o e
  · have q : b ≠ a := by rintro rfl; exact n on
    rw [upd_ne q]; exact e
  · obtain ⟨j, hj⟩ := List.mem_iff_getElem?.mp hx
    rw [List.getElem?_set] at hj
    by_cases q : m = j
    · subst q
      rw [if_pos rfl, if_pos (List.getElem?_eq_some_iff.mp h).1] at hj
      cases hj
      exact ⟨⟨ys, upd_same, i⟩, ka.g⟩
    · rw [if_neg q] at hj
      have k := c.ok x (List.mem_of_getElem? hj)
      have ne : x.1 ≠ a := fun z => by
        have nd := c.nd
        have l1 := (List.getElem?_eq_some_iff.mp h).1
        have l2 := (List.getElem?_eq_some_iff.mp hj).1
        have a1 : (cs.map (·.1))[m]? = some a := by rw [List.getElem?_map, h]; rfl
        have a2 : (cs.map (·.1))[j]? = some a := by rw [List.getElem?_map, hj, ← z]; rfl
        exact q ((List.getElem?_inj (by simpa using l1) nd).mp (a1.trans a2.symm))
      obtain ⟨xs, h1, h2⟩ := k.h
      exact ⟨⟨xs, by rw [upd_ne ne]; exact h1, h2⟩, k.g⟩
theorem c_item (j m : Nat) {x : Str} {e ev : Expr} {p1 p2 : Pos} {a : Addr} {ds : List D} (hc0 : cs[m]? = some (a, ds)) (hr : ρ[j]? = some (.val (.adr a)))
    (h : W true true X ev ρ fun d _ => W true true X e ρ fun k _ => ∃ n i, k = .int n ∧ ixN ds.length n = some i ∧ nx ρ (cs.set m (a, ds.set i d)))
    (hN : X.N[j]? = some x := by rfl) (hv : Vis X.env.scope x := by first | exact .inl rfl | exact .inr (.inl rfl) | exact .inr (.inr rfl)) (hd : (x == ("__debug__" : Str)) = false := by decide) (hcd : (x == ("__classdict__" : Str)) = false := by decide)
    (hs : swapsWithSole [.Subscript (.Name x p1) e p2] ev pos.line X.env = pure false := by rfl) (hw : swappedStores [.Subscript (.Name x p1) e p2] ev X.env = pure none := by rfl)
    (h1 : (assignEach [.Subscript (.Name x p1) e p2] X.env).map (·.2) = [assign (.Subscript (.Name x p1) e p2) X.env] := by rfl)
    (ha : ∀ v, assign (.Subscript (.Name x p1) e p2) X.env v = (do
      let ov ← holding [v] (eval (.Name x p1) X.env)
      let iv ← holding [v, ov] (eval e X.env)
      standAt p2
      holding [v, ov, iv] (setItem ov iv v)
      release [v, ov, iv] []) := by intro _; rfl) : WC X (.Assign [.Subscript (.Name x p1) e p2] ev pos) ρ cs nx rt := fun B σ G H F S c L => by
  refine wS_of (ps_asg pe_w (pg_sub (pe_var hN hv hd hcd) pe_w set_list ha) hs hw h1) ?_
  refine h (B.held H cs) σ G H (S.hold c) _ fun v d ρ1 G1 H1 q S1 y1 pu1 iv => ?_
  obtain ⟨rfl, g1⟩ := pu1 rfl
  obtain ⟨va, e1, ia⟩ := S1.valAt hr
  have ia : va = .ref a := ia
  subst ia
  refine ⟨_, e1, ?_⟩
  refine q (B.held H cs) σ G1 H1 S1 _ fun u k ρ2 G2 H2 q2 S2 y2 pu2 iu => ?_
  obtain ⟨rfl, g2⟩ := pu2 rfl
  obtain ⟨n, i, rfl, hi, q2⟩ := q2
  obtain ⟨S3, c3⟩ := S.free c S2 (y1.trans y2)
  obtain ⟨xs, hx, ix⟩ := (c3.ok _ (List.mem_of_getElem? hc0)).h
  have iv : Is G1 d v := iv
  obtain ⟨S4, c4⟩ := cell_put S3 c3 hc0 (ix.set (i := i) (Is.mono y2 _ _ iv))
  exact ⟨a, xs, n, i, rfl, iu, hx, by rw [ix.length]; exact hi, L.nx σ _ _ G2 _ q2 S4 c4 (y1.trans y2)⟩
theorem c_aug (j m : Nat) {f : Int → Int → Int} {op : Operator} {x : Str} {e ev : Expr} {p1 p2 : Pos} {a : Addr} {ns : List Int} (ho : PIp X op (ipI f)) (hc0 : cs[m]? = some (a, ns.map D.int)) (hr : ρ[j]? = some (.val (.adr a)))
    (h : W true true X e ρ fun k _ => ∃ (n : Int) (i : Nat) (v : Int), k = .int n ∧ ixN ns.length n = some i ∧ ns[i]? = some v ∧ W true true X ev ρ fun d _ => ∃ t : Int, d = .int t ∧ nx ρ (cs.set m (a, (ns.set i (f v t)).map D.int)))
    (hN : X.N[j]? = some x := by rfl) (hv : Vis X.env.scope x := by first | exact .inl rfl | exact .inr (.inl rfl) | exact .inr (.inr rfl)) (hd : (x == ("__debug__" : Str)) = false := by decide) (hcd : (x == ("__classdict__" : Str)) = false := by decide)
    (ha : ∀ ov iv new, augStore e ov iv new = (do holding [new, ov, iv] (setItem ov iv new); release [new, ov, iv] []; pure .next) := by intros; rfl) : WC X (.AugAssign (.Subscript (.Name x p1) e p2) op ev pos) ρ cs nx rt := fun B σ G H F S c L => by
  refine wS_of (ps_augS (pe_var hN hv hd hcd) pe_w get_ofL pe_w ho set_list ha) ?_
  obtain ⟨va, e1, ia⟩ := S.valAt hr
  have ia : va = .ref a := ia
  subst ia
  refine ⟨_, e1, ?_⟩
  refine h (B.held H cs) σ G H (S.hold c) _ fun u k ρ1 G1 H1 q S1 y1 pu1 iu => ?_
  obtain ⟨rfl, g1⟩ := pu1 rfl
  obtain ⟨n, i, v, rfl, hi, hat, q⟩ := q
  have iu : u = .int n := iu
  subst iu
  obtain ⟨S1', c1⟩ := S.free c S1 y1
  obtain ⟨xs, hx, ix⟩ := (c1.ok _ (List.mem_of_getElem? hc0)).h
  have ex := ix.ints
  subst ex
  have at' : atI (ns.map V.int) n = some (.int v) := by
    unfold atI
    rw [List.length_map, hi]
    show (ns.map V.int)[i]? = _
    rw [List.getElem?_map, hat]; rfl
  refine ⟨a, _, n, .int v, rfl, rfl, .inl (.inl hx), at', ?_⟩
  refine q (B.held H cs) σ G1 H1 S1 _ fun u2 d ρ2 G2 H2 q2 S2 y2 pu2 iu2 => ?_
  obtain ⟨rfl, g2⟩ := pu2 rfl
  obtain ⟨t, rfl, q2⟩ := q2
  have iu2 : u2 = .int t := iu2
  subst iu2
  obtain ⟨S3, c3⟩ := S.free c S2 (y1.trans y2)
  obtain ⟨ys, hy, iy⟩ := (c3.ok _ (List.mem_of_getElem? hc0)).h
  have ey := iy.ints
  subst ey
  have ii : IsA G2 ((ns.set i (f v t)).map D.int) ((ns.map V.int).set i (V.int (f v t))) := by
    rw [← List.map_set]; exact IsA.of_ints
  obtain ⟨S4, c4⟩ := cell_put S3 c3 hc0 ii
  exact ⟨v, t, rfl, rfl, a, _, n, i, rfl, rfl, hy, by rw [List.length_map]; exact hi, L.nx σ _ _ G2 _ q2 S4 c4 (y1.trans y2)⟩
/-- x, y, z = e, the value a list of three -/
theorem s_unp3L (i j k : Nat) {E : DE} {e : Expr} {x y z : Str} {px py pz pt : Pos} {kk : Nat} {N ps : List Str} {sc : Scope} (S0 : FnScope N ps sc) (h : W false true X e ρ fun d ρ' => ∃ a b c, d = .lst [a, b, c] ∧ E.nx (((ρ'.set i (.val a)).set j (.val b)).set k (.val c))) (hXN : X.N = N := by rfl) (hc : X.calm = true := by rfl) (hi : X.N[i]? = some x := by rfl) (hj : X.N[j]? = some y := by rfl) (hk : X.N[k]? = some z := by rfl)
    (hx : Loc X.env.scope x := by first | exact .inl rfl | exact .inr rfl) (hy : Loc X.env.scope y := by first | exact .inl rfl | exact .inr rfl) (hz : Loc X.env.scope z := by first | exact .inl rfl | exact .inr rfl) (hf : X.fn x = true ∨ X.env.scope.names.lookup x = some .local := by first | exact .inl rfl | exact .inr rfl) (hf2 : X.fn y = true ∨ X.env.scope.names.lookup y = some .local := by first | exact .inl rfl | exact .inr rfl) (hf3 : X.fn z = true ∨ X.env.scope.names.lookup z = some .local := by first | exact .inl rfl | exact .inr rfl)
    (h1 : (assignEach [.Name x px, .Name y py, .Name z pz] X.env).length = 3 := by rfl) (h2 : (assignEach [.Name x px, .Name y py, .Name z pz] X.env).findIdx? (·.1) = none := by rfl) (h3 : AE X (.Name x px) [.Name y py, .Name z pz] := by rfl) (h4 : AE X (.Name y py) [.Name z pz] := by rfl) (h6 : AE X (.Name z pz) [] := by rfl)
    (hs : swapsWithSole [.Tuple [.Name x px, .Name y py, .Name z pz] kk pt] e pos.line X.env = pure false := by rfl) (hw : swappedStores [.Tuple [.Name x px, .Name y py, .Name z pz] kk pt] e X.env = pure none := by rfl)
    (h5 : (assignEach [.Tuple [.Name x px, .Name y py, .Name z pz] kk pt] X.env).map (·.2) = [assign (.Tuple [.Name x px, .Name y py, .Name z pz] kk pt) X.env] := by rfl) : WS X (.Assign [.Tuple [.Name x px, .Name y py, .Name z pz] kk pt] e pos) ρ E := fun B σ G H F S L => by
  refine wS_of (ps_asg pe_w (pg_unl hc (pgs_cons (pg_name (hXN ▸ S0.nd) hi hx hf) (pgs_cons (pg_name (hXN ▸ S0.nd) hj hy hf2) (pgs_cons (pg_name (hXN ▸ S0.nd) hk hz hf3) pgs_nil h6) h4) h3) h1 h2) hs hw h5) ?_
  refine h B σ G H S _ fun v d ρ' G' H' q S' y0 pu iv => ?_
  obtain ⟨a, b, c, rfl, q⟩ := q
  obtain ⟨l, xs, rfl, e2, e3⟩ := iv
  obtain ⟨w1, r1, rfl, f1, w2, r2, rfl, f2, w3, r3, rfl, f3, e4⟩ := e3
  cases e4
  exact ⟨l, _, rfl, .inl (.inl (S'.ex _ _ e2)), rfl, w1, [w2, w3], rfl, w2, [w3], rfl, w3, [], rfl, rfl, L.nx _ _ G' H' q (((S'.set f1).set f2).set f3) y0⟩
end
/-! ### defs that change the lists in a list -/
def spC (c : List D → CS → (CS → Prop) → Prop) : Sp := fun vs H Q _ => ∃ (G : Hp) (ds : List D) (cs : CS) (Z : CS → Prop), Ex G H ∧ IsA G ds vs ∧ CellH G H cs ∧ c ds cs Z ∧
  ∀ G' H' cs', Z cs' → cs'.map (·.1) = cs.map (·.1) → Ex G G' → Ex G' H' → (∀ a o, H a = some o → ¬ onC cs a → H' a = some o) → (∀ a o, G' a = some o → G a = some o ∨ H a = none) → CellH G' H' cs' → Q .non H'
section
variable {P : Program} {w : World} {K : PySem.W.Frag} {mg : Str → Option Value} {base : Heap}
theorem fnC {x qual : Str} {st : Stmt} {f : Addr} {fd : FuncData} {N ps : List Str} {k : Nat} {c : List D → CS → (CS → Prop) → Prop} (F : Fun K x qual st f fd) (S : FnScope N ps (defScope st)) (len : ∀ ds cs Z, c ds cs Z → ds.length = ps.length)
    (h : ∀ (cdv : Value) (A : Around) (outer : List Env) (s : Shared) (H : Hp) (E : XK) (ds : List D) (cs : CS) (Z : CS → Prop), Room k (A.deeper (envOfC qual (defScope st) s.heap.objs.size f cdv)) → c ds cs Z →
      WCs (CxD P w K mg base N qual st f cdv A outer s H E) (defBody st) (rho0 N ds) cs (fun _ cs' => Z cs' ∧ cs'.map (·.1) = cs.map (·.1)) (fun _ => False)) : FnOk P w K mg base CX0 (k + 1) f fd ps (spC c) := by
  refine F.ok S (fun vs H Q E hs => ?_) fun cdv A outer s H vs Q E hr hs => ?_
  · obtain ⟨G, ds, cs, Z, _, i, _, hc, _⟩ := hs
    rw [i.length]
    exact len ds cs Z hc
  · obtain ⟨G, ds, cs, Z, ex, i, ch, hc, q⟩ := hs
    refine ⟨_, pss_w, ?_⟩
    classical
    let B : Base := ⟨fun a => if onC cs a then none else H a, G, [], 0⟩
    have on : ∀ a, onC cs a → B.H a = none := fun a h => if_pos h
    have off : ∀ a, ¬ onC cs a → B.H a = H a := fun a h => if_neg h
    have S0 := sta_start (N := N) ex i
    have noOwn : ∀ (j : Nat) (lc : Bool) (o : Own) (v : Option V), (rho0 N ds)[j]? = some (.own lc o) → (L2.start N vs)[j]? = some v → False := fun j lc o v h1 h2 => by
      obtain ⟨l, _, _, f3, f4⟩ := S0.env j _ v h1 h2
      obtain ⟨u, hu⟩ := f4.known
      cases lc with
      | true =>
        have f3 : H l = none := f3
        rw [hu] at f3; cases f3
      | false =>
        have f3 : l ∈ ([] : List Addr) := f3
        simp at f3
    have T0 : Sta B (L2.start N vs) (rho0 N ds) G H := by
      refine ⟨S0.len, ex, fun a o e _ => ?_, fun a e => ?_, fun a o e => .inl e, Ex.refl _, fun a o e => ?_, fun l hl => absurd hl (by simp [B]), fun j s v h1 h2 => ?_, S0.dist⟩
      · by_cases z : onC cs a
        · rw [on a z] at e; cases e
        · rw [off a z] at e; exact e
      · by_cases z : onC cs a
        · exact on a z
        · rw [off a z]; exact e
      · by_cases z : onC cs a
        · obtain ⟨y, hy, rfl⟩ := z
          have e : G y.1 = some o := e
          rw [(ch.ok y hy).2] at e; cases e
        · rw [off a z]; exact ex a o e
      · have k := S0.env j s v h1 h2
        cases s with
        | un => trivial
        | val d => exact k
        | own lc o => exact (noOwn j lc o v h1 h2).elim
    have C0 : Cells B (L2.start N vs) (rho0 N ds) G H cs := ⟨ch.nd, fun y hy => ⟨(ch.ok y hy).1, (ch.ok y hy).2, on _ ⟨y, hy, rfl⟩, fun j lc o h1 h2 => noOwn j lc o _ h1 h2⟩⟩
    refine h cdv A outer s H E ds cs Z hr hc B _ G H _ T0 C0 ⟨fun σ' ρ' cs' G' H' z0 S' c' x => ?_, fun _ _ _ _ z => z.elim⟩
    refine q G' H' cs' z0.1 z0.2 x S'.ex (fun a o e n => S'.fr a o (by rw [off a n]; exact e) (by simp [B])) (fun a o e => ?_) c'.cellH
    rcases S'.nw a o e with y | y
    · exact .inl y
    · by_cases z : onC cs a
      · obtain ⟨u, hu, rfl⟩ := (onC_map z0.2).mpr z
        have := (c'.ok u hu).g
        rw [e] at this; cases this
      · rw [off a z] at y; exact .inr y
end
section
variable {X : Cx} {ρ : Rho} {cs : CS} {nx : Rho → CS → Prop} {rt : D → Prop} {pos cpos pp : Pos} {x : Str} {ps : List Str} {k : Nat}
/-- f(e, ..), which changes the cells -/
theorem c_call {c : List D → CS → (CS → Prop) → Prop} {e : Expr} {es : List Expr} (F : Df X.prog X.w X.K X.mg X.base k x ps (spC c)) (hr : Room k X.A) (h : WA true true X (e :: es) ρ fun ds _ => c ds cs fun cs' => nx ρ cs') (hg : Gl X x := by rfl) (hdb : (x == ("__debug__" : Str)) = false := by decide)
    (he : starEach (e :: es) X.env = (false, eval e X.env) :: starEach es X.env := by rfl) (hpl : (backTo cpos (starEach es X.env)).any (·.1) = false := by rfl)
    (hs : swapsWith (.Call (.Name x pp) (e :: es) [] cpos) none pos.line X.env = pure false := by rfl) : WC X (.Expr (.Call (.Name x pp) (e :: es) [] cpos) pos) ρ cs nx rt := fun B σ G H FF S c0 L => by
  obtain ⟨f, fd, F, hm, hk, hb⟩ := F.ex
  refine wS_of (ps_expr (pe_call F hr hg hm hk hb .nil pass0 pa_w hdb he hpl) hs) ?_
  refine h (B.held H cs) σ G H (S.hold c0) _ fun vs ds ρ1 G1 H1 q S1 y pu i => ?_
  obtain ⟨rfl, g0⟩ := pu rfl
  obtain ⟨S2, c2⟩ := S.free c0 S1 y
  refine ⟨G1, ds, cs, fun cs' => nx ρ1 cs', S2.ex, by rw [List.append_nil]; exact i, c2.cellH, q, fun G' H' cs' z m g x2 fr n ch => ?_⟩
  obtain ⟨S3, c3⟩ := S2.cellUpd c2 m g x2 fr n ch
  exact L.nx σ _ cs' G' H' z S3 c3 (y.trans g)
/-! ### a new list of new lists of whole numbers -/
abbrev cellsOf (as : List Addr) (nss : List (List Int)) : CS := as.zip (nss.map fun ns => ns.map D.int)
def spL (c : List D → (List (List Int) → Prop) → Prop) : Sp := fun vs H Q _ => ∃ (G : Hp) (ds : List D) (Z : List (List Int) → Prop), Ex G H ∧ IsA G ds vs ∧ c ds Z ∧
  ∀ l (as : List Addr) nss G' H', Z nss → as.length = nss.length → Grow G H G' H' → G' l = some (.lst (as.map V.ref)) → as.Nodup → l ∉ as → (∀ a ∈ as, H a = none) → (∀ c ∈ cellsOf as nss, ∃ xs, G' c.1 = some (.lst xs) ∧ IsA G' c.2 xs) → Q (.ref l) H'
theorem mem_cellsOf {as : List Addr} {nss : List (List Int)} {c : Addr × List D} (h : c ∈ cellsOf as nss) : c.1 ∈ as ∧ ∃ ns ∈ nss, c.2 = ns.map D.int := by
  obtain ⟨a, b⟩ := c
  have := List.of_mem_zip h
  obtain ⟨ns, h1, h2⟩ := List.mem_map.mp this.2
  exact ⟨this.1, ns, h1, h2.symm⟩
theorem on_cellsOf {as : List Addr} {nss : List (List Int)} (hl : as.length = nss.length) {a : Addr} : onC (cellsOf as nss) a ↔ a ∈ as := by
  constructor
  · rintro ⟨c, hc, rfl⟩
    exact (mem_cellsOf hc).1
  · intro h
    obtain ⟨i, hi, rfl⟩ := List.mem_iff_getElem.mp h
    have : (cellsOf as nss)[i]? = some (as[i], (nss[i]'(by omega)).map D.int) := List.getElem?_zip_eq_some.mpr ⟨List.getElem?_eq_getElem hi, by rw [List.getElem?_map, List.getElem?_eq_getElem (by omega)]; rfl⟩
    exact ⟨_, List.mem_of_getElem? this, rfl⟩
theorem fst_cellsOf {as : List Addr} {nss : List (List Int)} (hl : as.length = nss.length) : (cellsOf as nss).map (·.1) = as := by
  unfold cellsOf
  rw [List.map_fst_zip]
  simp [hl]
theorem IsA.adrs {G : Hp} : ∀ as : List Addr, IsA G (as.map D.adr) (as.map V.ref)
  | [] => rfl
  | a :: as => ⟨_, _, rfl, rfl, IsA.adrs as⟩
/-- x = f(e, ..): from here on its lists are cells -/
theorem ss_cells (i : Nat) {E : DE} {N sp0 : List Str} {sc : Scope} {y : Str} {py : Pos} {c : List D → (List (List Int) → Prop) → Prop} {e : Expr} {es : List Expr} {rest : List Stmt} (S0 : FnScope N sp0 sc) (F : Df X.prog X.w X.K X.mg X.base k x ps (spL c)) (hr : Room k X.A)
    (h : WA true true X (e :: es) ρ fun ds _ => c ds fun nss => ∀ as : List Addr, as.length = nss.length → WCs X rest (ρ.set i (.val (.lst (as.map D.adr)))) (cellsOf as nss) (fun _ _ => False) E.rt) (hXN : X.N = N := by rfl) (hi : X.N[i]? = some y := by rfl) (hx : Loc X.env.scope y := by first | exact .inl rfl | exact .inr rfl)
    (hf : X.fn y = true ∨ X.env.scope.names.lookup y = some .local := by first | exact .inl rfl | exact .inr rfl) (hg : Gl X x := by rfl) (hdb : (x == ("__debug__" : Str)) = false := by decide)
    (he : starEach (e :: es) X.env = (false, eval e X.env) :: starEach es X.env := by rfl) (hpl : (backTo cpos (starEach es X.env)).any (·.1) = false := by rfl)
    (hs : swapsWith (.Call (.Name x pp) (e :: es) [] cpos) (some (.Name y py)) pos.line X.env = pure false := by rfl) : WSs X (.Assign [.Name y py] (.Call (.Name x pp) (e :: es) [] cpos) pos :: rest) ρ E := fun B σ G H FF S L => by
  obtain ⟨f, fd, F, hm, hk, hb⟩ := F.ex
  refine wSs_of (pss_cons (ps_set (hXN ▸ S0.nd) hi hx (pe_call F hr hg hm hk hb .nil pass0 pa_w hdb he hpl) hs hf) pss_w) ?_
  refine h B σ G H S _ fun vs ds ρ1 G1 H1 q S1 y1 pu ia => ?_
  obtain ⟨rfl, g0⟩ := pu rfl
  refine ⟨G1, ds, _, S1.ex, by rw [List.append_nil]; exact ia, q, fun l as nss G2 H2 z hl gr gl nd nl fr ok => ?_⟩
  classical
  let G3 : Hp := fun a => if a ∈ as then none else G2 a
  have on : ∀ a, a ∈ as → G3 a = none := fun a h => if_pos h
  have off : ∀ a, a ∉ as → G3 a = G2 a := fun a h => if_neg h
  have gr3 : Grow G1 H1 G3 H2 := by
    refine ⟨fun a o e => ?_, gr.h, fun a o e => ?_, fun a o e => ?_⟩
    · rw [off a fun z => by have := S1.ex a o e; rw [fr a z] at this; cases this]
      exact gr.g a o e
    · by_cases z : a ∈ as
      · rw [on a z] at e; cases e
      · rw [off a z] at e; exact gr.x a o e
    · by_cases z : a ∈ as
      · rw [on a z] at e; cases e
      · rw [off a z] at e; exact gr.n a o e
  have S3 := (S1.grow gr3).set (i := i) (d := .lst (as.map D.adr)) (v := .ref l) ⟨l, _, rfl, by rw [off l nl]; exact gl, IsA.adrs as⟩
  refine z as hl B _ G3 H2 FF S3 ⟨by rw [fst_cellsOf hl]; exact nd, fun c hc => ?_⟩ ⟨fun _ _ _ _ _ z => z.elim, L.rt⟩
  obtain ⟨ca, ns, _, hns⟩ := mem_cellsOf hc
  obtain ⟨xs, h1, h2⟩ := ok c hc
  obtain ⟨b1, b2, b3⟩ := new_own S1 (fr _ ca)
  refine ⟨⟨xs, gr.x _ _ h1, ?_⟩, on _ ca, b2, fun j lc o h3 h4 => ?_⟩
  · rw [hns] at h2 ⊢
    have := h2.ints
    subst this
    exact IsA.of_ints
  · by_cases qk : i = j
    · subst qk
      rw [List.getElem?_set] at h3
      simp only [if_true] at h3
      split at h3 <;> cases h3
    · rw [List.getElem?_set_ne qk] at h3 h4
      exact b3 j h4 lc o h3
end
end DD

namespace DD
open PySem PySem.Spec PyProof.Rows L2
/-! ### a tuple times a number -/
theorem tuple_mul1 (l : Addr) (items : Array Value) (n : Nat) (dd : Option Addr) (sl : Array (Option Value)) (u : Tok) : Meets (Builtin.«tuple.__mul__» ⟨[.ref l, .int 1 u], []⟩) (fun _ R s => s.heap.get? l = some { cls := .type "tuple", dict := dd, data := .seq items n, slots := sl } ∧ R (.ok (.ret (.ref l))) s) :=
  .of_wp fun prog w A R s h => by
    obtain ⟨hp, g, d, tk, os⟩ := s
    obtain ⟨hl, h⟩ := h
    have f1 := AutoSeq1.idx_int
    have c1 : (items.isEmpty || (1 : Int) == 1) = true := by simp
    wp_walk using wpAny_loadPart' hl
    all_goals first
      | exact ⟨_, rfl, h⟩
      | skip
section
variable {X : Cx}
def rRep1 (K : PySem.W.Frag) : R2 := fun x y H Q => ∃ l xs, x = .ref l ∧ y = .int 1 ∧ SqT K H l xs ∧ Q (.ref l) H
theorem op_rep1 : OpR X (binaryOp .Mult) (rRep1 X.K) := fun pins s σ H x y v u Q I rx ry h => by
  obtain ⟨l, xs, rfl, rfl, hT, q⟩ := h
  cases rx
  obtain ⟨t, rfl⟩ := ry
  obtain ⟨its, r, ⟨⟨cls, dd, data, sl⟩, ho, hc, n, hd⟩, _⟩ := I.tuple hT
  have hc : cls = .type "tuple" := hc
  have hd : data = .seq its.toArray n := hd
  subst hc; subst hd
  refine wpAny_binaryOp_repeat_ref (T := "tuple") (U := "int") (by decide) ⟨_, ho, rfl⟩ (fun s2 => typeIs_int s2 1 t) noFill_tuple_mul F.fills_int_mul F.slot_int_rmul repeat_tuple F.slot_int_index.lookup (call_meets F.slot_int_rmul (typeIs_int s 1 t) F.entry_int_rmul (F.args_int_rmul_2 _ _) (int_rmul_tuple 1 t l its.toArray n dd sl) ⟨ho, rfl, ⟨_, ho, rfl⟩, ?_⟩)
  exact call_meets F.slot_tuple_mul ⟨_, ho, rfl⟩ F.entry_tuple_mul (F.args_tuple_mul_2 _ _) (tuple_mul1 l its.toArray n dd sl t) ⟨ho, .ref l, H, I, rfl, q⟩
theorem o_repT {Z : D → Prop} {xs : List D} {n : Int} (q : (xs ≠ [] ∧ 1 ≤ n ∧ n ≤ 1000 ∧ xs.length ≤ 1000) ∧ Z (.tup (List.replicate n.toNat xs).flatten)) : Op2 true X (binaryOp .Mult) (.tup xs) (.int n) Z := by
  intro G H v u R ex ⟨a, as, e1, e2, e3⟩ f1 k
  subst e1
  have f1 : u = .int n := f1
  subst f1
  obtain ⟨⟨ne, n1, n2, n3⟩, q⟩ := q
  by_cases h : n = 1
  · subst h
    refine ⟨_, op_rep1, a, as, rfl, rfl, .inl (.inl (ex _ _ e2)), k _ _ G H q (Grow.refl ex) ⟨a, as, rfl, e2, ?_⟩⟩
    have : (List.replicate (1 : Int).toNat xs).flatten = xs := by simp
    rw [this]; exact e3
  · refine ⟨_, op_repT, a, n, as, rfl, rfl, .inl (.inl (ex _ _ e2)), fun z => ?_, by omega, n2, by rw [e3.length]; exact n3, fun p hp => ?_⟩
    · subst z
      have := e3.length
      exact ne (List.eq_nil_of_length_eq_zero this.symm)
    · have gr := Grow.new (o := .tup (List.replicate n.toNat as).flatten) ex hp
      exact k _ (.tup (List.replicate n.toNat xs).flatten) _ _ q gr ⟨p, _, rfl, upd_same, IsA.mono gr.g _ _ (e3.rep _)⟩
/-! ### a module's own tuple of texts -/
theorem w_globA {p g : Bool} {ρ : Rho} {Q : D → Rho → Prop} {x : Str} {a : Addr} {pos : Pos} (hm : X.mg x = some (.ref a)) (q : Q (.adr a) ρ) (hg : Gl X x := by rfl) (hd : (x == ("__debug__" : Str)) = false := by decide) : W p g X (.Name x pos) ρ Q := fun B σ G H S R r =>
  wE_of (pe_glob hg hm (v := .ref a) rfl hd) (r (.ref a) (.adr a) ρ G H q S (Ex.refl G) (fun _ => ⟨rfl, Grow.refl S.ex⟩) (is_h S rfl))
theorem all_flatS : ∀ ns : List Str, (ns.map V.str).all flatV = true
  | [] => rfl
  | n :: ns => by show (true && (ns.map V.str).all flatV) = true; rw [all_flatS ns]; rfl
theorem o_ninK {g : Bool} {Z : D → Prop} {r : Str} {a : Addr} {ns : List Str} (hk : ∀ H, SqT X.K H a (ns.map V.str)) (h : inV (.str r) (ns.map V.str) = true) (q : Z (.bl false)) : Op2 g X (compareOp .NotIn) (.str r) (.adr a) Z := by
  intro G H v u R ex i j k
  have i : v = .str r := is_any ex i
  have j : u = .ref a := is_any ex j
  subst i; subst j
  refine ⟨_, op_notIn_seq, a, _, rfl, .inr (hk H), rfl, all_flatS ns, ?_⟩
  show R (.bl (!inV (.str r) (ns.map V.str))) H
  rw [h]
  exact k _ (.bl false) G H q (Grow.refl ex) rfl
/-- not e, as a value, by truth -/
theorem w_notT {p g : Bool} {ρ : Rho} {Q : D → Rho → Prop} {a : Expr} {pos : Pos} (h : W p false X a ρ fun d ρ1 => ∃ b, TruD false d b ∧ Q (.bl (!b)) ρ1) : W p g X (.UnaryOp .Not a pos) ρ Q := fun B σ G H S R r => by
  refine wE_of (pe_notT pe_w) ?_
  exact h B σ G H S _ fun v d ρ' G' H' ⟨b, tb, q⟩ S' x pu i => ⟨b, tru_of (g := false) i tb, r _ _ ρ' G' H' q S' x pu (is_h S' rfl)⟩
end
end DD

namespace DD
open PySem PySem.Spec PyProof.Rows L2
/-! ### [list(x) for x in y]: a new list of new lists -/
def Made (G1 H1 : Hp) (D : Addr) (outs : List (List Int)) (as : List Addr) (Gi Hc : Hp) : Prop :=
  Grow G1 H1 Gi Hc ∧ as.Nodup ∧ D ∉ as ∧ as.length = outs.length ∧ (∀ a ∈ as, H1 a = none) ∧ ∀ c ∈ cellsOf as outs, ∃ xs, Gi c.1 = some (.lst xs) ∧ IsA Gi c.2 xs
def LcD (G1 H1 : Hp) (D : Addr) (outs : List (List Int)) (Hc : Hp) : Prop := H1 D = none ∧ ∃ Gi as, Hc D = some (.lst (as.map V.ref)) ∧ Gi D = none ∧ Made G1 H1 D outs as Gi Hc
theorem cellsOf_snoc {as : List Addr} {nss : List (List Int)} {a : Addr} {ns : List Int} (h : as.length = nss.length) : cellsOf (as ++ [a]) (nss ++ [ns]) = cellsOf as nss ++ [(a, ns.map D.int)] := by
  unfold cellsOf
  rw [List.map_append, List.zip_append (by simp [h])]; rfl
section
variable {X : Cx} {ρ : Rho} {pos : Pos}
def WNc (X : Cx) (e : Expr) (ρ : Rho) (Z : List (List Int) → Prop) : Prop := ∀ (B : Base) (σ : L2.St) (G H : Hp), Sta B σ ρ G H → ∀ R : VK,
  (∀ l (as : List Addr) nss G' H', Z nss → as.length = nss.length → Grow G H G' H' → G' l = some (.lst (as.map V.ref)) → as.Nodup → l ∉ as → (∀ a ∈ as, H a = none) → (∀ c ∈ cellsOf as nss, ∃ xs, G' c.1 = some (.lst xs) ∧ IsA G' c.2 xs) → R (.ref l) H') → wE X e σ H R
theorem x_lcD {elt tg iter : Expr} {scope : Scope} {own : List (Str × Nat)} {T : Tg} {Z : List (List Int) → Prop} (f : DD.D → List Int) (hT : ∀ i ∈ T.slots, i ∈ own.map (·.2))
    (h : WI true X tg iter ρ fun ds ρ1 => ds.length ≤ 40000 ∧ (∀ d ∈ ds, ∃ ρi, T.eff d (wipeR ρ1 (own.map (·.2))) = some ρi ∧ ∀ s H C cl fp, WNew (Blk X scope s H C cl fp) elt ρi (.lst ((f d).map D.int))) ∧ Z (ds.map f)) :
    ∀ (B : Base) (σ : L2.St) (G H : Hp), Sta B σ ρ G H → ∀ R : VK,
      (∀ l (as : List Addr) nss G' H', Z nss → as.length = nss.length → Grow G H G' H' → G' l = some (.lst (as.map V.ref)) → as.Nodup → l ∉ as → (∀ a ∈ as, H a = none) → (∀ c ∈ cellsOf as nss, ∃ xs, G' c.1 = some (.lst xs) ∧ IsA G' c.2 xs) → R (.ref l) H') → tLc (wI X tg iter) (T.g X.K) tYes (cE X scope elt) (own.map (·.2)) σ H R := fun B σ G H S R r => by
  refine h B σ G H S _ fun J ds ρ1 G1 H1 q S1 x pu wk D hD => ?_
  obtain ⟨hl, turn, q⟩ := q
  obtain ⟨rfl, g0⟩ := pu rfl
  refine lc_it wk (fun i Hc => LcD G1 H1 D ((ds.take i).map f) Hc) ?_ (fun i Hc _ h => ?_) (fun i x Hc H' hi h y => ?_) (fun Hc h => ?_)
  · refine ⟨hD, G1, [], upd_same, ?_, Grow.own S1.ex hD, List.nodup_nil, by simp, rfl, (fun v hv => absurd hv (by simp)), fun c hc => absurd hc (by simp [cellsOf])⟩
    cases r0 : G1 D with
    | none => rfl
    | some u => rw [S1.ex D u r0] at hD; cases hD
  · obtain ⟨_, Gi, as, _, _, gr, _⟩ := h
    exact gr.g.trans gr.x
  · obtain ⟨_, Gi, as, hacc, gD, gr, nd, nD, ln, fr, ok⟩ := h
    have hget : ds[i]? = some ds[i] := List.getElem?_eq_getElem hi
    obtain ⟨G2, gr2, ix⟩ := y _ hget Gi gr.g gr.x
    obtain ⟨ρi, he, hel⟩ := turn ds[i] (List.getElem_mem hi)
    have g2D := g_none gr2 gD hacc
    have grA := gr.trans gr2
    refine Tg.run he ((S1.grow grA).wipe (own.map (·.2))) ix (fun σ' S' hwp => ?_) (fun τ us j o hj => wipe_set τ us j o hj)
    refine ⟨(hwp _ hT).trans (wipe_idem _ _), ?_⟩
    have etake : ds.take (i + 1) = ds.take i ++ [ds[i]] := by rw [List.take_add_one, hget]; rfl
    show cE X scope elt σ' H' _
    intro s H0 C cl fp
    refine hel s H0 C cl fp B σ' G2 H' S' _ fun v G4 H4 gr4 iv fv => ?_
    obtain ⟨a, rfl, ha⟩ := fv
    have hacc2 := gr2.h _ _ hacc
    have h4 : H4 D = some (.lst (as.map V.ref)) := gr4.h _ _ hacc2
    have g4D := g_none gr4 g2D hacc2
    have hsz : (as.map V.ref).length < sizeLine := by
      rw [List.length_map, ln, List.length_map, List.length_take]
      exact Nat.lt_of_le_of_lt (m := 40000) (by omega) (by decide)
    refine ⟨_, h4, hsz, ?_⟩
    have grT := grA.trans gr4
    have aD : a ≠ D := by rintro rfl; rw [hacc2] at ha; cases ha
    have anew : a ∉ as := fun z => by
      obtain ⟨c, hc, e⟩ := (on_cellsOf ln).mpr z
      obtain ⟨xs, h5, _⟩ := ok c hc
      have := gr2.h _ _ (gr.x _ _ h5)
      rw [e, ha] at this; cases this
    have emap : as.map V.ref ++ [V.ref a] = (as ++ [a]).map V.ref := by rw [List.map_append]; rfl
    rw [emap]
    refine ⟨hD, G4, as ++ [a], upd_same, g4D, ⟨grT.g, fun b o e => ?_, fun b o e => ?_, grT.n⟩, ?_, ?_, ?_, fun b hb => ?_, fun c hc => ?_⟩
    · have q : b ≠ D := by rintro rfl; rw [hD] at e; cases e
      rw [upd_ne q]; exact grT.h b o e
    · have q : b ≠ D := by rintro rfl; rw [g4D] at e; cases e
      rw [upd_ne q]; exact grT.x b o e
    · exact List.nodup_append.mpr ⟨nd, by simp, fun b hb c hc e => by
        have : c = a := by simpa using hc
        rw [e, this] at hb; exact anew hb⟩
    · intro z
      rcases List.mem_append.mp z with z | z
      · exact nD z
      · exact aD (List.mem_singleton.mp z).symm
    · rw [List.length_append, etake, List.map_append, List.length_append, ln]; rfl
    · rcases List.mem_append.mp hb with hb | hb
      · exact fr b hb
      · rw [List.mem_singleton.mp hb]
        cases r0 : H1 a with
        | none => rfl
        | some u => rw [grA.h a u r0] at ha; cases ha
    · rw [etake, List.map_append] at hc
      rw [show (ds.take i).map f ++ [ds[i]].map f = (ds.take i).map f ++ [f ds[i]] from rfl, cellsOf_snoc ln] at hc
      rcases List.mem_append.mp hc with hc | hc
      · obtain ⟨xs, h5, h6⟩ := ok c hc
        have e := gr2.g.trans gr4.g
        exact ⟨xs, e _ _ h5, IsA.mono e _ _ h6⟩
      · have : c = (a, (f ds[i]).map DD.D.int) := by simpa using hc
        subst this
        obtain ⟨b, xs, e, h5, h6⟩ := iv
        cases e
        exact ⟨xs, h5, h6⟩
  · obtain ⟨_, Gi, as, hacc, gD, gr, nd, nD, ln, fr, ok⟩ := h
    rw [List.take_length] at ln ok
    have ex := Ex.new (o := HO.lst (as.map V.ref)) gD
    refine r D as _ (L2.upd Gi D (.lst (as.map V.ref))) Hc q ln (g0.trans ⟨gr.g.trans ex, gr.h, fun a o e => ?_, fun a o e => ?_⟩) upd_same nd nD (fun a ha => ?_) fun c hc => ?_
    · by_cases q : a = D
      · subst q; rw [upd_same] at e; rw [hacc]; exact e
      · rw [upd_ne q] at e; exact gr.x a o e
    · by_cases q : a = D
      · subst q; exact .inr hD
      · rw [upd_ne q] at e; exact gr.n a o e
    · have := fr a ha
      cases r0 : H a with
      | none => rfl
      | some u => rw [g0.h a u r0] at this; cases this
    · obtain ⟨xs, h5, h6⟩ := ok c hc
      exact ⟨xs, ex _ _ h5, IsA.mono ex _ _ h6⟩
/-- list(x), x a tuple: new -/
theorem wnew_listR {i : Nat} {x : Str} {px pp : Pos} {d : D} {ds : List D} (h0 : d = .lst ds ∨ d = .tup ds) (hm : X.mg "list" = none) (hN : X.N[i]? = some x) (hr : ρ[i]? = some (.val d)) (hv : Vis X.env.scope x) (hd : (x == ("__debug__" : Str)) = false := by decide) (hcd : (x == ("__classdict__" : Str)) = false := by decide)
    (hg : Gl X "list" := by rfl) (he : starEach [.Name x px] X.env = (false, eval (.Name x px) X.env) :: starEach [] X.env := by rfl) (hpl : (backTo pos (starEach [] X.env)).any (·.1) = false := by rfl) : WNew X (.Call (.Name "list" pp) [.Name x px] [] pos) ρ (.lst ds) := fun B σ G H S R r => by
  refine wE_of (pe_callTy call_any hg hm (T := "list") (by decide +kernel) (pa_cons (pe_var hN hv hd hcd) pa_nil he) (by decide) (by decide) he hpl) ?_
  obtain ⟨v, e1, iv⟩ := S.valAt hr
  have iv' : ∃ a xs, v = .ref a ∧ (SqL X.K H a xs ∨ SqT X.K H a xs) ∧ IsA G ds xs := by
    rcases h0 with rfl | rfl
    · obtain ⟨a, xs, rfl, e2, e3⟩ := iv
      exact ⟨a, xs, rfl, .inl (.inl (.inl (S.ex _ _ e2))), e3⟩
    · obtain ⟨a, xs, rfl, e2, e3⟩ := iv
      exact ⟨a, xs, rfl, .inr (.inl (.inl (S.ex _ _ e2))), e3⟩
  obtain ⟨a, xs, rfl, e2, e3⟩ := iv'
  refine ⟨_, e1, ⟨_, call_list_of, a, xs, rfl, e2, fun p hp => ?_⟩⟩
  have gr := Grow.new (o := .lst xs) S.ex hp
  exact r _ _ _ gr ⟨p, xs, rfl, upd_same, IsA.mono gr.g _ _ e3⟩ ⟨p, rfl, hp⟩
theorem wnc_lc1 (i : Nat) {x : Str} {px : Pos} {iter elt : Expr} {scope : Scope} {N ps : List Str} {sc : Scope} {Z : List (List Int) → Prop} (f : D → List Int) (S0 : FnScope N ps sc)
    (h : WI true X (.Name x px) iter ρ fun ds ρ1 => ds.length ≤ 40000 ∧ (∀ d ∈ ds, ∀ s H C cl fp, WNew (Blk X scope s H C cl fp) elt ((ρ1.set i .un).set i (.val d)) (.lst ((f d).map D.int))) ∧ Z (ds.map f)) (hXN : X.N = N := by rfl) (hbk : blkC X.N X.env.scope scope [(x, i)] = true := by kernel_rfl) (hi : X.N[i]? = some x := by rfl)
    (hl : Loc1 X scope x := by intro _ _ _ _ _; first | exact ⟨.inl rfl, .inr rfl⟩ | exact ⟨.inr rfl, .inl rfl⟩) (hc : X.calm = true := by rfl) (hs : ∀ x, foldedSetIterable iter X.env x = pure x := by intro _; rfl) : WNc X (.ListComp elt [⟨.Name x px, iter, [], 0⟩] scope pos) ρ Z := fun B σ G H S R r => by
  refine wE_of (pe_lc (own := [(x, i)]) hc (hXN ▸ S0.nd) pi_w (blkOk_by hbk) (pg1 S0 hXN hi hl) (fun _ _ _ _ _ => pts_nil) pe_c hs) ?_
  exact x_lcD (T := .one i) (own := [(x, i)]) f (fun j hj => hj) (fun B σ G H S R r => h B σ G H S R fun J ds ρ1 G1 H1 q S1 y pu wk => r J ds ρ1 G1 H1 ⟨q.1, fun d hd => ⟨_, rfl, q.2.1 d hd⟩, q.2.2⟩ S1 y pu wk) B σ G H S R r
variable {P : Program} {w : World} {K : PySem.W.Frag} {mg : Str → Option Value} {base : Heap}
theorem fnL {x qual : Str} {st : Stmt} {f : Addr} {fd : FuncData} {N ps : List Str} {k : Nat} {e : Expr} {rp : Pos} {c : List D → (List (List Int) → Prop) → Prop} (F : Fun K x qual st f fd) (S : FnScope N ps (defScope st)) (len : ∀ ds Z, c ds Z → ds.length = ps.length) (hb : defBody st = [.Return (some e) rp])
    (h : ∀ (cdv : Value) (A : Around) (outer : List Env) (s : Shared) (H : Hp) (E : XK) (ds : List D) (Z : List (List Int) → Prop), Room k (A.deeper (envOfC qual (defScope st) s.heap.objs.size f cdv)) → c ds Z →
      WNc (CxD P w K mg base N qual st f cdv A outer s H E) e (rho0 N ds) Z) : FnOk P w K mg base CX0 (k + 1) f fd ps (spL c) := by
  refine F.ok S (fun vs H Q E hs => ?_) fun cdv A outer s H vs Q E hr hs => ?_
  · obtain ⟨G, ds, Z, _, i, hc, _⟩ := hs
    rw [i.length]
    exact len ds Z hc
  · obtain ⟨G, ds, Z, ex, i, hc, q⟩ := hs
    refine ⟨_, pss_w, ?_⟩
    rw [hb]
    refine wSs_of (pss_one (ps_ret pe_w)) ?_
    exact h cdv A outer s H E ds Z hr hc ⟨H, G, [], 0⟩ _ G H (sta_start ex i) _ fun l as nss G' H' z1 z2 z3 z4 z5 z6 z7 z8 => q l as nss G' H' z1 z2 z3 z4 z5 z6 z7 z8
end
end DD

namespace DD
open PySem PySem.Spec PyProof.Rows L2
section
variable {p g : Bool} {X : Cx} {ρ : Rho} {Q : D → Rho → Prop} {E : DE} {pos : Pos} {N ps : List Str} {sc : Scope} {x y z : Str} {px py pz pt : Pos}
theorem seqR {d : D} {ds : List D} {G H : Hp} {v : V} {K : PySem.W.Frag} (ex : Ex G H) (h : d = .lst ds ∨ d = .tup ds) (i : Is G d v) : ∃ a xs, v = .ref a ∧ (SqL K H a xs ∨ SqT K H a xs) ∧ IsA G ds xs := by
  rcases h with rfl | rfl
  · obtain ⟨a, xs, rfl, e2, e3⟩ := i
    exact ⟨a, xs, rfl, .inl (.inl (.inl (ex _ _ e2))), e3⟩
  · obtain ⟨a, xs, rfl, e2, e3⟩ := i
    exact ⟨a, xs, rfl, .inr (.inl (.inl (ex _ _ e2))), e3⟩
/-- list(e), e a list or a tuple: an own list -/
theorem f_listE {pp q : Pos} {e : Expr} {QO : Own → Rho → Prop} (hm : X.mg "list" = none) (h : W true true X e ρ fun d _ => ∃ ds, (d = .lst ds ∨ d = .tup ds) ∧ QO (.lst ds) ρ)
    (hg : Gl X "list" := by rfl) (he : starEach [e] X.env = (false, eval e X.env) :: starEach [] X.env := by rfl) (hpl : (backTo q (starEach [] X.env)).any (·.1) = false := by rfl) : WF X (.Call (.Name "list" pp) [e] [] q) ρ QO := fun B σ G H S R r => by
  refine wE_of (pe_callTy call_any hg hm (T := "list") (by decide +kernel) (pa_cons pe_w pa_nil he) (by decide) (by decide) he hpl) ?_
  refine h B σ G H S _ fun v d ρ1 G1 H1 qq S1 x1 pu i1 => ?_
  obtain ⟨rfl, g0⟩ := pu rfl
  obtain ⟨ds, hd, qq⟩ := qq
  obtain ⟨a, xs, rfl, sq, ia⟩ := seqR (K := X.K) S1.ex hd i1
  refine ⟨_, call_list_of, a, xs, rfl, sq, fun l hl => ?_⟩
  obtain ⟨h1, h2, h3⟩ := new_own S1 hl
  exact r l (.lst ds) _ G1 _ qq (S1.grow (Grow.own S1.ex hl)) x1 h1 h2 h3 ⟨xs, upd_same, ia⟩
/-- x, y = list(a), list(b): both own lists -/
theorem s_par2LL (i j : Nat) {a b : Expr} {p1 p2 q1 q2 : Pos} {kt k2 pt2} (S0 : FnScope N ps sc) (hij : i ≠ j) (hml : X.mg "list" = none)
    (h : W true true X a ρ fun d _ => ∃ ds, (d = .lst ds ∨ d = .tup ds) ∧ W true true X b ρ fun d2 _ => ∃ es, (d2 = .lst es ∨ d2 = .tup es) ∧ E.nx ((ρ.set i (.own true (.lst ds))).set j (.own true (.lst es))))
    (hXN : X.N = N := by rfl) (hc : X.calm = true := by rfl) (hi : X.N[i]? = some x := by rfl) (hj : X.N[j]? = some y := by rfl)
    (hx : X.env.scope.names.lookup x = some .local := by rfl) (hy : X.env.scope.names.lookup y = some .local := by rfl) (hg : Gl X "list" := by rfl)
    (he1 : starEach [a] X.env = (false, eval a X.env) :: starEach [] X.env := by rfl) (he2 : starEach [b] X.env = (false, eval b X.env) :: starEach [] X.env := by rfl) (hpl1 : (backTo q1 (starEach [] X.env)).any (·.1) = false := by rfl) (hpl2 : (backTo q2 (starEach [] X.env)).any (·.1) = false := by rfl)
    (hs1 : starEach [.Call (.Name "list" p1) [a] [] q1, .Call (.Name "list" p2) [b] [] q2] X.env = (false, eval (.Call (.Name "list" p1) [a] [] q1) X.env) :: starEach [.Call (.Name "list" p2) [b] [] q2] X.env := by rfl) (hs2 : starEach [.Call (.Name "list" p2) [b] [] q2] X.env = (false, eval (.Call (.Name "list" p2) [b] [] q2) X.env) :: starEach [] X.env := by rfl)
    (hw : swappedStores [.Tuple [.Name x px, .Name y py] kt pt] (.Tuple [.Call (.Name "list" p1) [a] [] q1, .Call (.Name "list" p2) [b] [] q2] k2 pt2) X.env = pure (some [x, y]) := by rfl)
    (hs : swapsWithSole [.Tuple [.Name x px, .Name y py] kt pt] (.Tuple [.Call (.Name "list" p1) [a] [] q1, .Call (.Name "list" p2) [b] [] q2] k2 pt2) pos.line X.env = pure false := by rfl) :
    WS X (.Assign [.Tuple [.Name x px, .Name y py] kt pt] (.Tuple [.Call (.Name "list" p1) [a] [] q1, .Call (.Name "list" p2) [b] [] q2] k2 pt2) pos) ρ E := fun B σ G H F S L => by
  refine wS_of (ps_par hc (hXN ▸ S0.nd) hi hj hij hx hy (pa_cons (pe_callTy call_any hg hml (T := "list") (by decide +kernel) (pa_cons pe_w pa_nil he1) (by decide) (by decide) he1 hpl1) (pa_cons (pe_callTy call_any hg hml (T := "list") (by decide +kernel) (pa_cons pe_w pa_nil he2) (by decide) (by decide) he2 hpl2) pa_nil hs2) hs1) hw hs) ?_
  refine h B σ G H S _ fun v d ρ1 G1 H1 q S1 x1 pu i1 => ?_
  obtain ⟨rfl, g0⟩ := pu rfl
  obtain ⟨ds, hd, q⟩ := q
  obtain ⟨l1, xs, rfl, sq, ia⟩ := seqR (K := X.K) S1.ex hd i1
  refine ⟨_, call_list_of, l1, xs, rfl, sq, fun l hl => ?_⟩
  obtain ⟨n1, n2, n3⟩ := new_own S1 hl
  have S1' := S1.grow (Grow.own (o := .lst xs) S1.ex hl)
  refine q B σ G1 _ S1' _ fun v2 d2 ρ2 G2 H2 q2 S2 x2 pu2 i2 => ?_
  obtain ⟨rfl, gr⟩ := pu2 rfl
  obtain ⟨es, hd2, q2⟩ := q2
  obtain ⟨l3, ys, rfl, sq2, ib⟩ := seqR (K := X.K) S2.ex hd2 i2
  refine ⟨_, call_list_of, l3, ys, rfl, sq2, fun m hm => ⟨.ref l, .ref m, rfl, ?_⟩⟩
  obtain ⟨m1, m2, m3⟩ := new_own S2 hm
  have hl2 : H2 l = some (.lst xs) := gr.h l _ upd_same
  have gl2 : G2 l = none := g_none gr n1 (upd_same (o := HO.lst xs))
  have nl : l ≠ m := by rintro rfl; rw [hl2] at hm; cases hm
  have S3 := S2.grow (Grow.own (o := .lst ys) S2.ex hm)
  have S4 := S3.setOwn (i := i) (l := l) (o := .lst ds) gl2 n2 ⟨xs, by rw [upd_ne nl]; exact hl2, IsA.mono x2 _ _ ia⟩ (fun t lc u ht hs => n3 t hs lc u ht)
  have S5 := S4.setOwn (i := j) (l := m) (o := .lst es) m1 m2 ⟨ys, upd_same, ib⟩ (fun t lc u ht hs => by
    by_cases qi : i = t
    · subst qi
      rw [List.getElem?_set] at hs
      simp only [if_true] at hs
      split at hs
      · have : l = m := by injection hs with hs; injection hs with hs; injection hs
        exact nl this
      · cases hs
    · rw [List.getElem?_set_ne qi] at ht hs
      exact m3 t hs lc u ht)
  exact L.nx _ _ G2 _ q2 S5 (x1.trans x2)
end
end DD

namespace K26
open PySem PySem.Spec PyProof.Rows L2 DD
def topS (i : Nat) : Stmt := PySem.Challenge.pw_flippedpoints_k26_whole_trains_in_any_se.main.body.getD i (.Pass ⟨0, 0, 0, 0⟩)
abbrev s_is_integer : Stmt := topS 1
abbrev N_is_integer : List Str := ["value"]
theorem c_is_integer : FnScope N_is_integer ["value"] (defScope s_is_integer) := ⟨rfl, rfl, rfl, by decide +kernel, rfl, by decide +kernel, by decide +kernel⟩
abbrev s_is_count : Stmt := topS 2
abbrev N_is_count : List Str := ["value"]
theorem c_is_count : FnScope N_is_count ["value"] (defScope s_is_count) := ⟨rfl, rfl, rfl, by decide +kernel, rfl, by decide +kernel, by decide +kernel⟩
abbrev s_is_number : Stmt := topS 3
abbrev N_is_number : List Str := ["value"]
theorem c_is_number : FnScope N_is_number ["value"] (defScope s_is_number) := ⟨rfl, rfl, rfl, by decide +kernel, rfl, by decide +kernel, by decide +kernel⟩
abbrev s_is_count_below : Stmt := topS 4
abbrev N_is_count_below : List Str := ["value", "bound"]
theorem c_is_count_below : FnScope N_is_count_below ["value", "bound"] (defScope s_is_count_below) := ⟨rfl, rfl, rfl, by decide +kernel, rfl, by decide +kernel, by decide +kernel⟩
abbrev s_is_row : Stmt := topS 5
abbrev N_is_row : List Str := ["value"]
theorem c_is_row : FnScope N_is_row ["value"] (defScope s_is_row) := ⟨rfl, rfl, rfl, by decide +kernel, rfl, by decide +kernel, by decide +kernel⟩
abbrev s_are_numbers : Stmt := topS 6
abbrev N_are_numbers : List Str := ["value", "many", "item"]
theorem c_are_numbers : FnScope N_are_numbers ["value", "many"] (defScope s_are_numbers) := ⟨rfl, rfl, rfl, by decide +kernel, rfl, by decide +kernel, by decide +kernel⟩
abbrev s_InvalidNet_init_ : Stmt := inClass (topS 9) 0
abbrev N_InvalidNet_init_ : List Str := ["self", "value"]
theorem c_InvalidNet_init_ : FnScope N_InvalidNet_init_ ["self", "value"] (defScope s_InvalidNet_init_) := ⟨rfl, rfl, rfl, by decide +kernel, rfl, by decide +kernel, by decide +kernel⟩
abbrev s_InvalidSetting_init_ : Stmt := inClass (topS 10) 0
abbrev N_InvalidSetting_init_ : List Str := ["self", "value"]
theorem c_InvalidSetting_init_ : FnScope N_InvalidSetting_init_ ["self", "value"] (defScope s_InvalidSetting_init_) := ⟨rfl, rfl, rfl, by decide +kernel, rfl, by decide +kernel, by decide +kernel⟩
abbrev s_InvalidPoint_init_ : Stmt := inClass (topS 11) 0
abbrev N_InvalidPoint_init_ : List Str := ["self", "value"]
theorem c_InvalidPoint_init_ : FnScope N_InvalidPoint_init_ ["self", "value"] (defScope s_InvalidPoint_init_) := ⟨rfl, rfl, rfl, by decide +kernel, rfl, by decide +kernel, by decide +kernel⟩
abbrev s_InvalidStarts_init_ : Stmt := inClass (topS 12) 0
abbrev N_InvalidStarts_init_ : List Str := ["self", "value"]
theorem c_InvalidStarts_init_ : FnScope N_InvalidStarts_init_ ["self", "value"] (defScope s_InvalidStarts_init_) := ⟨rfl, rfl, rfl, by decide +kernel, rfl, by decide +kernel, by decide +kernel⟩
abbrev s_InvalidMost_init_ : Stmt := inClass (topS 13) 0
abbrev N_InvalidMost_init_ : List Str := ["self", "value"]
theorem c_InvalidMost_init_ : FnScope N_InvalidMost_init_ ["self", "value"] (defScope s_InvalidMost_init_) := ⟨rfl, rfl, rfl, by decide +kernel, rfl, by decide +kernel, by decide +kernel⟩
abbrev s_BadSequence_init_ : Stmt := inClass (topS 14) 0
abbrev N_BadSequence_init_ : List Str := ["self", "position"]
theorem c_BadSequence_init_ : FnScope N_BadSequence_init_ ["self", "position"] (defScope s_BadSequence_init_) := ⟨rfl, rfl, rfl, by decide +kernel, rfl, by decide +kernel, by decide +kernel⟩
abbrev s_InvalidCrowd_init_ : Stmt := inClass (topS 15) 0
abbrev N_InvalidCrowd_init_ : List Str := ["self", "value"]
theorem c_InvalidCrowd_init_ : FnScope N_InvalidCrowd_init_ ["self", "value"] (defScope s_InvalidCrowd_init_) := ⟨rfl, rfl, rfl, by decide +kernel, rfl, by decide +kernel, by decide +kernel⟩
abbrev s_InvalidEnds_init_ : Stmt := inClass (topS 16) 0
abbrev N_InvalidEnds_init_ : List Str := ["self", "value"]
theorem c_InvalidEnds_init_ : FnScope N_InvalidEnds_init_ ["self", "value"] (defScope s_InvalidEnds_init_) := ⟨rfl, rfl, rfl, by decide +kernel, rfl, by decide +kernel, by decide +kernel⟩
abbrev s_InvalidExits_init_ : Stmt := inClass (topS 17) 0
abbrev N_InvalidExits_init_ : List Str := ["self", "value"]
theorem c_InvalidExits_init_ : FnScope N_InvalidExits_init_ ["self", "value"] (defScope s_InvalidExits_init_) := ⟨rfl, rfl, rfl, by decide +kernel, rfl, by decide +kernel, by decide +kernel⟩
abbrev s_InvalidRule_init_ : Stmt := inClass (topS 18) 0
abbrev N_InvalidRule_init_ : List Str := ["self", "value"]
theorem c_InvalidRule_init_ : FnScope N_InvalidRule_init_ ["self", "value"] (defScope s_InvalidRule_init_) := ⟨rfl, rfl, rfl, by decide +kernel, rfl, by decide +kernel, by decide +kernel⟩
abbrev s_NoTrain_init_ : Stmt := inClass (topS 20) 0
abbrev N_NoTrain_init_ : List Str := ["self", "point"]
theorem c_NoTrain_init_ : FnScope N_NoTrain_init_ ["self", "point"] (defScope s_NoTrain_init_) := ⟨rfl, rfl, rfl, by decide +kernel, rfl, by decide +kernel, by decide +kernel⟩
abbrev s_TooMany_init_ : Stmt := inClass (topS 22) 0
abbrev N_TooMany_init_ : List Str := ["self", "what", "limit"]
theorem c_TooMany_init_ : FnScope N_TooMany_init_ ["self", "what", "limit"] (defScope s_TooMany_init_) := ⟨rfl, rfl, rfl, by decide +kernel, rfl, by decide +kernel, by decide +kernel⟩
abbrev s_Net_init_ : Stmt := inClass (topS 28) 0
abbrev N_Net_init_ : List Str := ["self", "ends", "exits", "targets", "row", "target"]
theorem c_Net_init_ : FnScope N_Net_init_ ["self", "ends", "exits"] (defScope s_Net_init_) := ⟨rfl, rfl, rfl, by decide +kernel, rfl, by decide +kernel, by decide +kernel⟩
abbrev s_Net_ends : Stmt := inClass (topS 28) 1
abbrev N_Net_ends : List Str := ["self"]
theorem c_Net_ends : FnScope N_Net_ends ["self"] (defScope s_Net_ends) := ⟨rfl, rfl, rfl, by decide +kernel, rfl, by decide +kernel, by decide +kernel⟩
abbrev s_Net_points : Stmt := inClass (topS 28) 2
abbrev N_Net_points : List Str := ["self"]
theorem c_Net_points : FnScope N_Net_points ["self"] (defScope s_Net_points) := ⟨rfl, rfl, rfl, by decide +kernel, rfl, by decide +kernel, by decide +kernel⟩
abbrev s_Net_many : Stmt := inClass (topS 28) 3
abbrev N_Net_many : List Str := ["self"]
theorem c_Net_many : FnScope N_Net_many ["self"] (defScope s_Net_many) := ⟨rfl, rfl, rfl, by decide +kernel, rfl, by decide +kernel, by decide +kernel⟩
abbrev s_Net_exits : Stmt := inClass (topS 28) 4
abbrev N_Net_exits : List Str := ["self", "row"]
theorem c_Net_exits : FnScope N_Net_exits ["self"] (defScope s_Net_exits) := ⟨rfl, rfl, rfl, by decide +kernel, rfl, by decide +kernel, by decide +kernel⟩
abbrev s_Net_targets : Stmt := inClass (topS 28) 5
abbrev N_Net_targets : List Str := ["self"]
theorem c_Net_targets : FnScope N_Net_targets ["self"] (defScope s_Net_targets) := ⟨rfl, rfl, rfl, by decide +kernel, rfl, by decide +kernel, by decide +kernel⟩
abbrev s_Net_eq_ : Stmt := inClass (topS 28) 6
abbrev N_Net_eq_ : List Str := ["self", "other"]
theorem c_Net_eq_ : FnScope N_Net_eq_ ["self", "other"] (defScope s_Net_eq_) := ⟨rfl, rfl, rfl, by decide +kernel, rfl, by decide +kernel, by decide +kernel⟩
abbrev s_is_target_of : Stmt := topS 29
abbrev N_is_target_of : List Str := ["value", "ends", "points"]
theorem c_is_target_of : FnScope N_is_target_of ["value", "ends", "points"] (defScope s_is_target_of) := ⟨rfl, rfl, rfl, by decide +kernel, rfl, by decide +kernel, by decide +kernel⟩
abbrev s_are_exits : Stmt := topS 30
abbrev N_are_exits : List Str := ["value", "ends", "row"]
theorem c_are_exits : FnScope N_are_exits ["value", "ends"] (defScope s_are_exits) := ⟨rfl, rfl, rfl, by decide +kernel, rfl, by decide +kernel, by decide +kernel⟩
abbrev s_is_exit_row : Stmt := topS 31
abbrev N_is_exit_row : List Str := ["value", "ends", "points", "target"]
theorem c_is_exit_row : FnScope N_is_exit_row ["value", "ends", "points"] (defScope s_is_exit_row) := ⟨rfl, rfl, rfl, by decide +kernel, rfl, by decide +kernel, by decide +kernel⟩
abbrev s_is_point : Stmt := topS 32
abbrev N_is_point : List Str := ["net", "value"]
theorem c_is_point : FnScope N_is_point ["net", "value"] (defScope s_is_point) := ⟨rfl, rfl, rfl, by decide +kernel, rfl, by decide +kernel, by decide +kernel⟩
abbrev s_check_net : Stmt := topS 33
abbrev N_check_net : List Str := ["net"]
theorem c_check_net : FnScope N_check_net ["net"] (defScope s_check_net) := ⟨rfl, rfl, rfl, by decide +kernel, rfl, by decide +kernel, by decide +kernel⟩
abbrev s_check_setting : Stmt := topS 34
abbrev N_check_setting : List Str := ["net", "setting"]
theorem c_check_setting : FnScope N_check_setting ["net", "setting"] (defScope s_check_setting) := ⟨rfl, rfl, rfl, by decide +kernel, rfl, by decide +kernel, by decide +kernel⟩
abbrev s_check_point : Stmt := topS 35
abbrev N_check_point : List Str := ["net", "point"]
theorem c_check_point : FnScope N_check_point ["net", "point"] (defScope s_check_point) := ⟨rfl, rfl, rfl, by decide +kernel, rfl, by decide +kernel, by decide +kernel⟩
abbrev s_is_setting : Stmt := topS 36
abbrev N_is_setting : List Str := ["net", "value", "spot", "row"]
theorem c_is_setting : FnScope N_is_setting ["net", "value"] (defScope s_is_setting) := ⟨rfl, rfl, rfl, by decide +kernel, rfl, by decide +kernel, by decide +kernel⟩
abbrev s_check_starts : Stmt := topS 39
abbrev N_check_starts : List Str := ["net", "starts"]
theorem c_check_starts : FnScope N_check_starts ["net", "starts"] (defScope s_check_starts) := ⟨rfl, rfl, rfl, by decide +kernel, rfl, by decide +kernel, by decide +kernel⟩
abbrev s_check_trains : Stmt := topS 40
abbrev N_check_trains : List Str := ["net", "setting", "starts"]
theorem c_check_trains : FnScope N_check_trains ["net", "setting", "starts"] (defScope s_check_trains) := ⟨rfl, rfl, rfl, by decide +kernel, rfl, by decide +kernel, by decide +kernel⟩
abbrev s_check_most : Stmt := topS 41
abbrev N_check_most : List Str := ["most", "bound"]
theorem c_check_most : FnScope N_check_most ["most", "bound"] (defScope s_check_most) := ⟨rfl, rfl, rfl, by decide +kernel, rfl, by decide +kernel, by decide +kernel⟩
abbrev s_is_crowd : Stmt := topS 44
abbrev N_is_crowd : List Str := ["net", "value", "waiting", "setting", "come", "part"]
theorem c_is_crowd : FnScope N_is_crowd ["net", "value"] (defScope s_is_crowd) := ⟨rfl, rfl, rfl, by decide +kernel, rfl, by decide +kernel, by decide +kernel⟩
abbrev s_check_crowd : Stmt := topS 45
abbrev N_check_crowd : List Str := ["net", "crowd"]
theorem c_check_crowd : FnScope N_check_crowd ["net", "crowd"] (defScope s_check_crowd) := ⟨rfl, rfl, rfl, by decide +kernel, rfl, by decide +kernel, by decide +kernel⟩
abbrev s_crowd_of : Stmt := topS 46
abbrev N_crowd_of : List Str := ["net", "setting", "starts"]
theorem c_crowd_of : FnScope N_crowd_of ["net", "setting", "starts"] (defScope s_crowd_of) := ⟨rfl, rfl, rfl, by decide +kernel, rfl, by decide +kernel, by decide +kernel⟩
abbrev s_is_empty : Stmt := topS 47
abbrev N_is_empty : List Str := ["net", "crowd", "waiting", "_"]
theorem c_is_empty : FnScope N_is_empty ["net", "crowd"] (defScope s_is_empty) := ⟨rfl, rfl, rfl, by decide +kernel, rfl, by decide +kernel, by decide +kernel⟩
abbrev s_waiting_points : Stmt := topS 48
abbrev N_waiting_points : List Str := ["waiting", "point", "many"]
theorem c_waiting_points : FnScope N_waiting_points ["waiting"] (defScope s_waiting_points) := ⟨rfl, rfl, rfl, by decide +kernel, rfl, by decide +kernel, by decide +kernel⟩
abbrev s_moves : Stmt := topS 49
abbrev N_moves : List Str := ["net", "crowd", "waiting", "_"]
theorem c_moves : FnScope N_moves ["net", "crowd"] (defScope s_moves) := ⟨rfl, rfl, rfl, by decide +kernel, rfl, by decide +kernel, by decide +kernel⟩
abbrev s_moved : Stmt := topS 50
abbrev N_moved : List Str := ["net", "crowd", "point", "waiting", "_"]
theorem c_moved : FnScope N_moved ["net", "crowd", "point"] (defScope s_moved) := ⟨rfl, rfl, rfl, by decide +kernel, rfl, by decide +kernel, by decide +kernel⟩
abbrev s_behind_move : Stmt := topS 51
abbrev N_behind_move : List Str := ["rows", "crowd", "point", "parts"]
theorem c_behind_move : FnScope N_behind_move ["rows", "crowd", "point"] (defScope s_behind_move) := ⟨rfl, rfl, rfl, by decide +kernel, rfl, by decide +kernel, by decide +kernel⟩
abbrev s_opened : Stmt := topS 52
abbrev N_opened : List Str := ["crowd", "part"]
theorem c_opened : FnScope N_opened ["crowd"] (defScope s_opened) := ⟨rfl, rfl, rfl, by decide +kernel, rfl, by decide +kernel, by decide +kernel⟩
abbrev s_shut : Stmt := topS 53
abbrev N_shut : List Str := ["parts", "part"]
theorem c_shut : FnScope N_shut ["parts"] (defScope s_shut) := ⟨rfl, rfl, rfl, by decide +kernel, rfl, by decide +kernel, by decide +kernel⟩
abbrev s_move : Stmt := topS 54
abbrev N_move : List Str := ["rows", "parts", "point", "waiting", "setting", "come", "spot", "target"]
theorem c_move : FnScope N_move ["rows", "parts", "point"] (defScope s_move) := ⟨rfl, rfl, rfl, by decide +kernel, rfl, by decide +kernel, by decide +kernel⟩
abbrev s_by_sequence : Stmt := topS 55
abbrev N_by_sequence : List Str := ["net", "crowd", "sequence", "rows", "parts", "at", "point"]
theorem c_by_sequence : FnScope N_by_sequence ["net", "crowd", "sequence"] (defScope s_by_sequence) := ⟨rfl, rfl, rfl, by decide +kernel, rfl, by decide +kernel, by decide +kernel⟩
abbrev s_next_point : Stmt := topS 56
abbrev N_next_point : List Str := ["waiting", "rule", "last", "points", "point"]
theorem c_next_point : FnScope N_next_point ["waiting", "rule", "last"] (defScope s_next_point) := ⟨rfl, rfl, rfl, by decide +kernel, rfl, by decide +kernel, by decide +kernel⟩
abbrev s_finish : Stmt := topS 57
abbrev N_finish : List Str := ["net", "crowd", "rule", "most", "rows", "parts", "visits", "left", "point"]
theorem c_finish : FnScope N_finish ["net", "crowd", "rule", "most"] (defScope s_finish) := ⟨rfl, rfl, rfl, by decide +kernel, rfl, by decide +kernel, by decide +kernel⟩
abbrev s_finished : Stmt := topS 58
abbrev N_finished : List Str := ["net", "crowd", "rule", "most", "last", "visits"]
theorem c_finished : FnScope N_finished ["net", "crowd", "rule", "most"] (defScope s_finished) := ⟨rfl, rfl, rfl, by decide +kernel, rfl, by decide +kernel, by decide +kernel⟩
abbrev s_visits_by : Stmt := topS 59
abbrev N_visits_by : List Str := ["net", "crowd", "rule", "most", "_", "visits"]
theorem c_visits_by : FnScope N_visits_by ["net", "crowd", "rule", "most"] (defScope s_visits_by) := ⟨rfl, rfl, rfl, by decide +kernel, rfl, by decide +kernel, by decide +kernel⟩
abbrev s_Lpot : Stmt := topS 61
abbrev N_Lpot : List Str := ["_law_script", "_law_k", "_law_cell"]
theorem c_Lpot : FnScope N_Lpot ["_law_script", "_law_k"] (defScope s_Lpot) := ⟨rfl, rfl, rfl, by decide +kernel, rfl, by decide +kernel, by decide +kernel⟩
abbrev s_Ldraw : Stmt := topS 62
abbrev N_Ldraw : List Str := ["_law_pot_here", "_law_many", "_law_digit"]
theorem c_Ldraw : FnScope N_Ldraw ["_law_pot_here", "_law_many"] (defScope s_Ldraw) := ⟨rfl, rfl, rfl, by decide +kernel, rfl, by decide +kernel, by decide +kernel⟩
abbrev s_Lnet : Stmt := topS 63
abbrev N_Lnet : List Str := ["_law_pot_here", "_law_most", "_law_ends", "_law_exits", "_law_many", "_law_point", "_law_row", "_law_turn", "_law_at", "_law_on"]
theorem c_Lnet : FnScope N_Lnet ["_law_pot_here", "_law_most"] (defScope s_Lnet) := ⟨rfl, rfl, rfl, by decide +kernel, rfl, by decide +kernel, by decide +kernel⟩
abbrev s_Lsetting : Stmt := topS 64
abbrev N_Lsetting : List Str := ["_law_pot_here", "_law_exits", "_law_found", "_law_row"]
theorem c_Lsetting : FnScope N_Lsetting ["_law_pot_here", "_law_exits"] (defScope s_Lsetting) := ⟨rfl, rfl, rfl, by decide +kernel, rfl, by decide +kernel, by decide +kernel⟩
abbrev s_Lnumbers : Stmt := topS 65
abbrev N_Lnumbers : List Str := ["_law_pot_here", "_law_many", "_law_most", "_law_found", "_law_point"]
theorem c_Lnumbers : FnScope N_Lnumbers ["_law_pot_here", "_law_many", "_law_most"] (defScope s_Lnumbers) := ⟨rfl, rfl, rfl, by decide +kernel, rfl, by decide +kernel, by decide +kernel⟩
abbrev s_Lgone : Stmt := topS 66
abbrev N_Lgone : List Str := ["_law_exits", "_law_setting_here", "_law_point", "_law_here", "_law_late"]
theorem c_Lgone : FnScope N_Lgone ["_law_exits", "_law_setting_here", "_law_point"] (defScope s_Lgone) := ⟨rfl, rfl, rfl, by decide +kernel, rfl, by decide +kernel, by decide +kernel⟩
abbrev s_Lmoved : Stmt := topS 67
abbrev N_Lmoved : List Str := ["_law_exits", "_law_crowd", "_law_point", "_law_target", "_law_setting_here", "_law_waiting", "_law_come"]
theorem c_Lmoved : FnScope N_Lmoved ["_law_exits", "_law_crowd", "_law_point"] (defScope s_Lmoved) := ⟨rfl, rfl, rfl, by decide +kernel, rfl, by decide +kernel, by decide +kernel⟩
abbrev s_Ltold : Stmt := topS 68
abbrev N_Ltold : List Str := ["_law_crowd"]
theorem c_Ltold : FnScope N_Ltold ["_law_crowd"] (defScope s_Ltold) := ⟨rfl, rfl, rfl, by decide +kernel, rfl, by decide +kernel, by decide +kernel⟩
abbrev s_Lcan : Stmt := topS 69
abbrev N_Lcan : List Str := ["_law_crowd", "_law_point", "_law_many"]
theorem c_Lcan : FnScope N_Lcan ["_law_crowd"] (defScope s_Lcan) := ⟨rfl, rfl, rfl, by decide +kernel, rfl, by decide +kernel, by decide +kernel⟩
abbrev s_Ldrawn : Stmt := topS 70
abbrev N_Ldrawn : List Str := ["_law_pot_here", "_law_exits", "_law_crowd", "_law_most", "_law_found", "_law_some", "_law_point"]
theorem c_Ldrawn : FnScope N_Ldrawn ["_law_pot_here", "_law_exits", "_law_crowd", "_law_most"] (defScope s_Ldrawn) := ⟨rfl, rfl, rfl, by decide +kernel, rfl, by decide +kernel, by decide +kernel⟩
abbrev s_Lrounds : Stmt := topS 71
abbrev N_Lrounds : List Str := ["_law_exits", "_law_crowd", "_law_found", "_law_point"]
theorem c_Lrounds : FnScope N_Lrounds ["_law_exits", "_law_crowd"] (defScope s_Lrounds) := ⟨rfl, rfl, rfl, by decide +kernel, rfl, by decide +kernel, by decide +kernel⟩
abbrev s_Lright : Stmt := topS 72
abbrev N_Lright : List Str := ["_law_pot_here", "_law_ends", "_law_exits", "_law_net_here", "_law_setting_here", "_law_starts", "_law_crowd", "_law_here", "_law_sequence", "_law_last", "_law_point", "_law_first", "_law_rounds_here", "_law_due", "_law_rule"]
theorem c_Lright : FnScope N_Lright ["_law_pot_here"] (defScope s_Lright) := ⟨rfl, rfl, rfl, by decide +kernel, rfl, by decide +kernel, by decide +kernel⟩
abbrev s_law : Stmt := topS 73
abbrev N_law : List Str := ["_law_script"]
theorem c_law : FnScope N_law ["_law_script"] (defScope s_law) := ⟨rfl, rfl, rfl, by decide +kernel, rfl, by decide +kernel, by decide +kernel⟩
section
variable {P : Program} {w : World} {K : PySem.W.Frag} {mg : Str → Option Value} {base : Heap} {f : Addr} {fd : FuncData} {k : Nat}
/-! ### whole numbers and rows -/
def isI : D → Bool
  | .int _ => true
  | _ => false
def isIB : D → Bool
  | .int _ => true
  | .bl _ => true
  | _ => false
def isB : D → Bool
  | .bl _ => true
  | _ => false
def isL : D → Bool
  | .lst _ => true
  | _ => false
def isT : D → Bool
  | .tup _ => true
  | _ => false
def isRow (d : D) : Bool := isL d || isT d
def isC : D → Bool
  | .int i => decide (0 ≤ i)
  | _ => false
def isCB (d : D) (b : Int) : Bool := match d with
  | .int i => decide (0 ≤ i) && decide (i < b)
  | _ => false
def isTg (d : D) (e p : Int) : Bool := match d with
  | .int i => decide (-e ≤ i) && decide (i < p)
  | _ => false
/-- a value of a built-in kind -/
def Pl (d : D) : Prop := ∃ n, tyN d = some n
theorem pl_int (i : Int) : Pl (.int i) := ⟨_, rfl⟩
theorem kit_int {d : D} {n : String} (h : tyN d = some n) : kitB n "int" = some (isIB d) := by
  cases d <;> cases h
  · show kitB "NoneType" "int" = some false; decide +kernel
  · show kitB "bool" "int" = some true; decide +kernel
  · show kitB "int" "int" = some true; decide +kernel
  · show kitB "str" "int" = some false; decide +kernel
  · show kitB "list" "int" = some false; decide +kernel
  · show kitB "tuple" "int" = some false; decide +kernel
  · show kitB "dict" "int" = some false; decide +kernel
theorem kit_bool {d : D} {n : String} (h : tyN d = some n) : kitB n "bool" = some (isB d) := by
  cases d <;> cases h
  · show kitB "NoneType" "bool" = some false; decide +kernel
  · show kitB "bool" "bool" = some true; decide +kernel
  · show kitB "int" "bool" = some false; decide +kernel
  · show kitB "str" "bool" = some false; decide +kernel
  · show kitB "list" "bool" = some false; decide +kernel
  · show kitB "tuple" "bool" = some false; decide +kernel
  · show kitB "dict" "bool" = some false; decide +kernel
theorem kit_list {d : D} {n : String} (h : tyN d = some n) : kitB n "list" = some (isL d) := by
  cases d <;> cases h
  · show kitB "NoneType" "list" = some false; decide +kernel
  · show kitB "bool" "list" = some false; decide +kernel
  · show kitB "int" "list" = some false; decide +kernel
  · show kitB "str" "list" = some false; decide +kernel
  · show kitB "list" "list" = some true; decide +kernel
  · show kitB "tuple" "list" = some false; decide +kernel
  · show kitB "dict" "list" = some false; decide +kernel
theorem kit_tuple {d : D} {n : String} (h : tyN d = some n) : kitB n "tuple" = some (isT d) := by
  cases d <;> cases h
  · show kitB "NoneType" "tuple" = some false; decide +kernel
  · show kitB "bool" "tuple" = some false; decide +kernel
  · show kitB "int" "tuple" = some false; decide +kernel
  · show kitB "str" "tuple" = some false; decide +kernel
  · show kitB "list" "tuple" = some false; decide +kernel
  · show kitB "tuple" "tuple" = some true; decide +kernel
  · show kitB "dict" "tuple" = some false; decide +kernel
/-- the built-ins that the module leaves as they are -/
structure Blt (mg : Str → Option Value) : Prop where
  isi : mg "isinstance" = none
  int : mg "int" = none
  bool : mg "bool" = none
  list : mg "list" = none
  tuple : mg "tuple" = none
  len : mg "len" = none
  all : mg "all" = none
  any : mg "any" = none
  sum : mg "sum" = none
  sorted : mg "sorted" = none
  range : mg "range" = none
  enum : mg "enumerate" = none
  zip : mg "zip" = none
def c1 (b : D → Bool) : List D → (D → Prop) → Prop := fun ds Z => ∃ d, ds = [d] ∧ Pl d ∧ Z (.bl (b d))
theorem ok_is_integer (T : Blt mg) (F : Fun K "is_integer" "is_integer" s_is_integer f fd) : FnOk P w K mg base CX0 (k + 1) f fd ["value"] (spD (c1 isI)) := by
  refine fnD F c_is_integer (fun ds Z h => ?_) (fun cdv A outer s H E ds Z hr h => ?_)
  · obtain ⟨d, rfl, _⟩ := h
    rfl
  · obtain ⟨d, rfl, ⟨n, hn⟩, q⟩ := h
    refine ss_one (s_ret (w_and (w_callB true rfl T.isi (by decide +kernel) (aG (nm 0 (a1 (bltin T.int (c_isi hn (kit_int hn) ⟨_, rfl, ?_⟩))))))))
    cases hb : isIB d with
    | true =>
      refine w_one (w_not (w_callB true rfl T.isi (by decide +kernel) (aG (nm 0 (a1 (bltin T.bool (c_isi hn (kit_bool hn) ⟨_, rfl, ?_⟩)))))))
      show Z (.bl (!isB d))
      have e : (!isB d) = isI d := by cases d <;> first | rfl | cases hb
      rw [e]; exact q
    | false =>
      show Z (.bl false)
      have e : isI d = false := by cases d <;> first | rfl | cases hb
      rw [e] at q; exact q
theorem ok_is_count (Fi : Df P w K mg base k "is_integer" ["value"] (spD (c1 isI))) (F : Fun K "is_count" "is_count" s_is_count f fd) : FnOk P w K mg base CX0 (k + 1) f fd ["value"] (spD (c1 isC)) := by
  refine fnD F c_is_count (fun ds Z h => ?_) (fun cdv A outer s H E ds Z hr h => ?_)
  · obtain ⟨d, rfl, _⟩ := h
    rfl
  · obtain ⟨d, rfl, pl, q⟩ := h
    refine ss_one (s_ret (w_and (call Fi hr (a1 (nm 0 ⟨_, rfl, pl, _, rfl, ?_⟩)))))
    cases hb : isI d with
    | true =>
      cases d <;> first | cases hb | skip
      exact w_one (w_cmpG (nm 0 (w_int (o_ge q))))
    | false =>
      have e : isC d = false := by cases d <;> first | rfl | cases hb
      rw [e] at q; exact q
def c2 (b : D → Int → Bool) : List D → (D → Prop) → Prop := fun ds Z => ∃ d i, ds = [d, .int i] ∧ Pl d ∧ Z (.bl (b d i))
theorem ok_is_count_below (Fc : Df P w K mg base k "is_count" ["value"] (spD (c1 isC))) (F : Fun K "is_count_below" "is_count_below" s_is_count_below f fd) : FnOk P w K mg base CX0 (k + 1) f fd ["value", "bound"] (spD (c2 isCB)) := by
  refine fnD F c_is_count_below (fun ds Z h => ?_) (fun cdv A outer s H E ds Z hr h => ?_)
  · obtain ⟨d, i, rfl, _⟩ := h
    rfl
  · obtain ⟨d, i, rfl, pl, q⟩ := h
    refine ss_one (s_ret (w_and (call Fc hr (a1 (nm 0 ⟨_, rfl, pl, _, rfl, ?_⟩)))))
    cases hb : isC d with
    | true =>
      cases d <;> first | cases hb | skip
      rename_i j
      have e : isCB (.int j) i = decide (j < i) := by
        have h0 : decide (0 ≤ j) = true := hb
        show (decide (0 ≤ j) && decide (j < i)) = _
        rw [h0]; rfl
      rw [e] at q
      exact w_one (w_cmpG (nm 0 (nm 1 (o_lt q))))
    | false =>
      have e : isCB d i = false := by
        cases d <;> first | rfl | skip
        rename_i j
        have h0 : decide (0 ≤ j) = false := hb
        show (decide (0 ≤ j) && decide (j < i)) = _
        rw [h0]; rfl
      rw [e] at q; exact q
theorem ok_is_row (T : Blt mg) (F : Fun K "is_row" "is_row" s_is_row f fd) : FnOk P w K mg base CX0 (k + 1) f fd ["value"] (spD (c1 isRow)) := by
  refine fnD F c_is_row (fun ds Z h => ?_) (fun cdv A outer s H E ds Z hr h => ?_)
  · obtain ⟨d, rfl, _⟩ := h
    rfl
  · obtain ⟨d, rfl, ⟨n, hn⟩, q⟩ := h
    exact ss_one (s_ret (w_callB true rfl T.isi (by decide +kernel) (aG (nm 0 (a1 (w_tup (aG (bltin T.list (a1 (bltin T.tuple ⟨by decide, c_isi2 hn (kit_list hn) (kit_tuple hn) q⟩))))))))))
def c3 (b : D → Int → Int → Bool) : List D → (D → Prop) → Prop := fun ds Z => ∃ d i j, ds = [d, .int i, .int j] ∧ Pl d ∧ Z (.bl (b d i j))
theorem ok_is_target_of (Fi : Df P w K mg base k "is_integer" ["value"] (spD (c1 isI))) (F : Fun K "_is_target_of" "_is_target_of" s_is_target_of f fd) : FnOk P w K mg base CX0 (k + 1) f fd ["value", "ends", "points"] (spD (c3 isTg)) := by
  refine fnD F c_is_target_of (fun ds Z h => ?_) (fun cdv A outer s H E ds Z hr h => ?_)
  · obtain ⟨d, i, j, rfl, _⟩ := h
    rfl
  · obtain ⟨d, i, j, rfl, pl, q⟩ := h
    refine ss_one (s_ret (w_and (call Fi hr (a1 (nm 0 ⟨_, rfl, pl, _, rfl, ?_⟩)))))
    cases hb : isI d with
    | true =>
      cases d <;> first | cases hb | skip
      rename_i n
      refine w_one (w_chain (w_un (nm 1 (o_neg (nm 0 (o_le ⟨_, rfl, ?_⟩))))))
      by_cases h1 : -i ≤ n
      · rw [decide_eq_true h1]
        have e : isTg (.int n) i j = decide (n < j) := by
          show (decide (-i ≤ n) && decide (n < j)) = _
          rw [decide_eq_true h1]; rfl
        rw [e] at q
        exact nm 2 (o_lt q)
      · rw [decide_eq_false h1]
        have e : isTg (.int n) i j = false := by
          show (decide (-i ≤ n) && decide (n < j)) = _
          rw [decide_eq_false h1]; rfl
        rw [e] at q
        exact q
    | false =>
      have e : isTg d i j = false := by cases d <;> first | rfl | cases hb
      rw [e] at q; exact q
end
section
variable {P : Program} {w : World} {K : PySem.W.Frag} {mg : Str → Option Value} {base : Heap} {f C : Addr} {fd : FuncData} {k : Nat}
/-! ### rows of exits -/
/-- the items of a list, a tuple -/
def its : D → Option (List D)
  | .lst xs => some xs
  | .tup xs => some xs
  | _ => none
def isXR (d : D) (e p : Int) : Bool := match its d with
  | some xs => decide (1 ≤ (xs.length : Int)) && decide ((xs.length : Int) ≤ 6) && xs.all fun x => isTg x e p
  | none => false
/-- plain, and what is in it -/
def Pl1 (d : D) : Prop := Pl d ∧ ∀ xs, its d = some xs → xs.length ≤ 40000 ∧ ∀ x ∈ xs, Pl x
def Pl2 (d : D) : Prop := Pl d ∧ ∀ xs, its d = some xs → xs.length ≤ 40000 ∧ ∀ x ∈ xs, Pl1 x
theorem row_its {d : D} (h : isRow d = true) : ∃ xs, its d = some xs ∧ (d = .lst xs ∨ d = .tup xs) := by
  cases d with
  | lst xs => exact ⟨xs, rfl, .inl rfl⟩
  | tup xs => exact ⟨xs, rfl, .inr rfl⟩
  | _ => cases h
theorem row_no {d : D} (h : isRow d = false) : its d = none := by
  cases d with
  | lst xs => cases h
  | tup xs => cases h
  | _ => rfl
theorem c_len {g : Bool} {X : Cx} {Z : D → Prop} {d : D} {xs : List D} (h : d = .lst xs ∨ d = .tup xs) (q : Z (.int (xs.length : Int))) : OpC g X (.builtin "len") [d] Z := by
  rcases h with rfl | rfl
  · exact c_lenL q
  · exact c_lenT q
theorem wi_row {X : Cx} {p : Bool} {ρ : Rho} {tg e : Expr} {QI : List D → Rho → Prop} {d : D} {xs : List D} (h : d = .lst xs ∨ d = .tup xs) (hw : ∀ (Q : D → Rho → Prop), Q d ρ → W p true X e ρ Q) (q : QI xs ρ) : WI p X tg e ρ QI := by
  rcases h with rfl | rfl
  · exact wi_lst (hw _ ⟨xs, rfl, q⟩)
  · exact wi_tup (hw _ ⟨xs, rfl, q⟩)
def c3R (b : D → Int → Int → Bool) : List D → (D → Prop) → Prop := fun ds Z => ∃ d i j, ds = [d, .int i, .int j] ∧ Pl1 d ∧ Z (.bl (b d i j))
theorem ok_is_exit_row {t6 : Tok} (T : Blt mg) (m6 : mg "MOST_EXITS" = some (.int 6 t6)) (Fr : Df P w K mg base k "is_row" ["value"] (spD (c1 isRow))) (Ft : Df P w K mg base k "_is_target_of" ["value", "ends", "points"] (spD (c3 isTg)))
    (F : Fun K "_is_exit_row" "_is_exit_row" s_is_exit_row f fd) : FnOk P w K mg base CX0 (k + 1) f fd ["value", "ends", "points"] (spD (c3R isXR)) := by
  refine fnD F c_is_exit_row (fun ds Z h => ?_) (fun cdv A outer s H E ds Z hr h => ?_)
  · obtain ⟨d, i, j, rfl, _⟩ := h
    rfl
  · obtain ⟨d, i, j, rfl, pl, q⟩ := h
    refine ss_cons (s_if (t_bool (tb_or (t_not (t_val (call Fr hr (a1 (nm 0 ⟨_, rfl, pl.1, _, rfl, ?_⟩))))))))
    cases hb : isRow d with
    | false =>
      have e : isXR d i j = false := by
        unfold isXR; rw [row_no hb]
      rw [e] at q
      show WSs _ _ _ _
      exact ss_one (s_ret (w_bl q))
    | true =>
      obtain ⟨xs, hi, hd⟩ := row_its hb
      obtain ⟨hl, hx⟩ := pl.2 xs hi
      show WTB _ _ _ _ _ _ _
      refine tb_or1 (t_not (t_chain (w_int (w_callB true rfl T.len (by decide +kernel) (a1 (nm 0 (c_len hd (o_le ⟨_, rfl, ?_⟩))))))))
      by_cases h1 : (1 : Int) ≤ xs.length
      · rw [decide_eq_true h1]
        show W _ _ _ _ _ _
        refine glb m6 (o_le ⟨_, rfl, ?_⟩)
        by_cases h2 : (xs.length : Int) ≤ 6
        · rw [decide_eq_true h2]
          show WSs _ _ _ _
          refine ss_nil (ss_one (s_ret (w_callB true rfl T.all (by decide +kernel) (a1 (lc1 3 (fun x => .bl (isTg x i j)) c_is_exit_row (wi_row hd (fun Q h => nm 0 h) ⟨hl, fun x hxm _ _ _ _ _ => ?_, c_allD rfl ?_⟩))))))
          · exact call Ft hr (aG (nm 3 (aG (nm 1 (a1 (nm 2 ⟨_, _, _, rfl, hx x hxm, rfl⟩))))))
          · have e : isXR d i j = xs.all fun x => isTg x i j := by
              unfold isXR; rw [hi]
              show (decide _ && decide _ && _) = _
              rw [decide_eq_true h1, decide_eq_true h2]; rfl
            rw [e] at q; exact q
        · rw [decide_eq_false h2]
          have e : isXR d i j = false := by
            unfold isXR; rw [hi]
            show (decide _ && decide _ && _) = _
            rw [decide_eq_false h2, Bool.and_false, Bool.false_and]
          rw [e] at q
          show WSs _ _ _ _
          exact ss_one (s_ret (w_bl q))
      · rw [decide_eq_false h1]
        have e : isXR d i j = false := by
          unfold isXR; rw [hi]
          show (decide _ && decide _ && _) = _
          rw [decide_eq_false h1, Bool.false_and, Bool.false_and]
        rw [e] at q
        show WSs _ _ _ _
        exact ss_one (s_ret (w_bl q))
def isXs (d : D) (e : Int) : Bool := match its d with
  | some xs => decide (1 ≤ (xs.length : Int)) && decide ((xs.length : Int) ≤ 24) && xs.all fun x => isXR x e xs.length
  | none => false
def c2R (b : D → Int → Bool) : List D → (D → Prop) → Prop := fun ds Z => ∃ d i, ds = [d, .int i] ∧ Pl2 d ∧ Z (.bl (b d i))
theorem ok_are_exits {t24 : Tok} (T : Blt mg) (m24 : mg "MOST_POINTS" = some (.int 24 t24)) (Fr : Df P w K mg base k "is_row" ["value"] (spD (c1 isRow))) (Fx : Df P w K mg base k "_is_exit_row" ["value", "ends", "points"] (spD (c3R isXR)))
    (F : Fun K "_are_exits" "_are_exits" s_are_exits f fd) : FnOk P w K mg base CX0 (k + 1) f fd ["value", "ends"] (spD (c2R isXs)) := by
  refine fnD F c_are_exits (fun ds Z h => ?_) (fun cdv A outer s H E ds Z hr h => ?_)
  · obtain ⟨d, i, rfl, _⟩ := h
    rfl
  · obtain ⟨d, i, rfl, pl, q⟩ := h
    refine ss_cons (s_if (t_bool (tb_or (t_not (t_val (call Fr hr (a1 (nm 0 ⟨_, rfl, pl.1, _, rfl, ?_⟩))))))))
    cases hb : isRow d with
    | false =>
      have e : isXs d i = false := by
        unfold isXs; rw [row_no hb]
      rw [e] at q
      show WSs _ _ _ _
      exact ss_one (s_ret (w_bl q))
    | true =>
      obtain ⟨xs, hi, hd⟩ := row_its hb
      obtain ⟨hl, hx⟩ := pl.2 xs hi
      show WTB _ _ _ _ _ _ _
      refine tb_or1 (t_not (t_chain (w_int (w_callB true rfl T.len (by decide +kernel) (a1 (nm 0 (c_len hd (o_le ⟨_, rfl, ?_⟩))))))))
      by_cases h1 : (1 : Int) ≤ xs.length
      · rw [decide_eq_true h1]
        show W _ _ _ _ _ _
        refine glb m24 (o_le ⟨_, rfl, ?_⟩)
        by_cases h2 : (xs.length : Int) ≤ 24
        · rw [decide_eq_true h2]
          show WSs _ _ _ _
          refine ss_nil (ss_one (s_ret (w_callB true rfl T.all (by decide +kernel) (a1 (lc1 2 (fun x => .bl (isXR x i xs.length)) c_are_exits (wi_row hd (fun Q h => nm 0 h) ⟨hl, fun x hxm _ _ _ _ _ => ?_, c_allD rfl ?_⟩))))))
          · exact call Fx hr (aG (nm 2 (aG (nm 1 (a1 (w_callB true rfl T.len (by decide +kernel) (a1 (nm 0 (c_len hd ⟨_, _, _, rfl, hx x hxm, rfl⟩)))))))))
          · have e : isXs d i = xs.all fun x => isXR x i xs.length := by
              unfold isXs; rw [hi]
              show (decide _ && decide _ && _) = _
              rw [decide_eq_true h1, decide_eq_true h2]; rfl
            rw [e] at q; exact q
        · rw [decide_eq_false h2]
          have e : isXs d i = false := by
            unfold isXs; rw [hi]
            show (decide _ && decide _ && _) = _
            rw [decide_eq_false h2, Bool.and_false, Bool.false_and]
          rw [e] at q
          show WSs _ _ _ _
          exact ss_one (s_ret (w_bl q))
      · rw [decide_eq_false h1]
        have e : isXs d i = false := by
          unfold isXs; rw [hi]
          show (decide _ && decide _ && _) = _
          rw [decide_eq_false h1, Bool.false_and, Bool.false_and]
        rw [e] at q
        show WSs _ _ _ _
        exact ss_one (s_ret (w_bl q))
end
section
variable {P : Program} {w : World} {K : PySem.W.Frag} {mg : Str → Option Value} {base : Heap} {f C : Addr} {fd : FuncData} {k : Nat}
/-! ### nets -/
def lI (l : List Int) : List D := l.map D.int
def rowsT (ex : List (List Int)) : List D := ex.map fun l => D.tup (lI l)
def rowsL (ex : List (List Int)) : List D := ex.map fun l => D.lst (lI l)
/-- a net's fields -/
def netF (e : Int) (ex : List (List Int)) : List (Str × D) := [("_ends", .int e), ("_exits", .tup (rowsT ex)), ("_targets", .tup (lI ex.flatten))]
def netD (C : Addr) (e : Int) (ex : List (List Int)) : D := .obj C (netF e ex)
/-- rows of whole numbers, as lists or tuples -/
def rowI (x : D) (l : List Int) : Prop := x = .lst (lI l) ∨ x = .tup (lI l)
inductive RowsA : List D → List (List Int) → Prop
  | nil : RowsA [] []
  | cons {x l xs ls} : rowI x l → RowsA xs ls → RowsA (x :: xs) (l :: ls)
def Rows (d : D) (ex : List (List Int)) : Prop := ∃ xs, (d = .lst xs ∨ d = .tup xs) ∧ RowsA xs ex
theorem rowsA_L : ∀ ex, RowsA (rowsL ex) ex
  | [] => .nil
  | l :: ls => .cons (.inl rfl) (rowsA_L ls)
theorem rowsA_T : ∀ ex, RowsA (rowsT ex) ex
  | [] => .nil
  | l :: ls => .cons (.inr rfl) (rowsA_T ls)
theorem RowsA.length : ∀ {xs ex}, RowsA xs ex → xs.length = ex.length
  | _, _, .nil => rfl
  | _, _, .cons _ t => by simp [RowsA.length t]
theorem RowsA.mem : ∀ {xs ex}, RowsA xs ex → ∀ x ∈ xs, ∃ l ∈ ex, rowI x l
  | _, _, .nil, x, h => by simp at h
  | _, _, .cons r t, x, h => by
    rcases List.mem_cons.mp h with rfl | h
    · exact ⟨_, List.mem_cons_self, r⟩
    · obtain ⟨l, hl, hr⟩ := RowsA.mem t x h
      exact ⟨l, List.mem_cons_of_mem _ hl, hr⟩
def itsD (x : D) : List D := (its x).getD []
theorem rowI.itsE {x : D} {l : List Int} (h : rowI x l) : itsD x = lI l := by
  rcases h with rfl | rfl <;> rfl
theorem RowsA.flat : ∀ {xs ex}, RowsA xs ex → xs.flatMap (fun d => (itsD d).map fun e => e) = lI ex.flatten
  | _, _, .nil => rfl
  | _, _, .cons (l := l) (ls := ls) r t => by
    rw [List.flatMap_cons, RowsA.flat t, r.itsE, List.map_id'', List.flatten_cons]
    · unfold lI; rw [List.map_append]
    · intro a; rfl
theorem RowsA.tup : ∀ {xs ex}, RowsA xs ex → xs.map (fun d => D.tup (itsD d)) = rowsT ex
  | _, _, .nil => rfl
  | _, _, .cons r t => by rw [List.map_cons, RowsA.tup t, r.itsE]; rfl
/-- what makes a net -/
structure Valid (e : Int) (ex : List (List Int)) : Prop where
  e0 : 0 ≤ e
  e6 : e ≤ 6
  n1 : 1 ≤ ex.length
  n24 : ex.length ≤ 24
  r1 : ∀ l ∈ ex, 1 ≤ l.length
  r6 : ∀ l ∈ ex, l.length ≤ 6
  lo : ∀ l ∈ ex, ∀ t ∈ l, -e ≤ t
  hi : ∀ l ∈ ex, ∀ t ∈ l, t < ex.length
  m60 : ex.flatten.length ≤ 60
theorem ints_all {l : List Int} {b : D → Bool} (h : ∀ t ∈ l, b (.int t) = true) : (lI l).all b = true := by
  unfold lI
  rw [List.all_map]
  exact List.all_eq_true.mpr h
theorem Valid.xs {e : Int} {ex : List (List Int)} (v : Valid e ex) {d : D} (h : Rows d ex) : isXs d e = true := by
  obtain ⟨xs, hd, hr⟩ := h
  have hi : its d = some xs := by rcases hd with rfl | rfl <;> rfl
  have hl := hr.length
  unfold isXs
  rw [hi]
  show (decide _ && decide _ && xs.all _) = true
  have n1 := v.n1
  have n24 := v.n24
  rw [decide_eq_true (by omega), decide_eq_true (by omega), Bool.true_and, Bool.true_and]
  refine List.all_eq_true.mpr fun x hx => ?_
  obtain ⟨l, hl2, hri⟩ := hr.mem x hx
  have hi2 : its x = some (lI l) := by rcases hri with rfl | rfl <;> rfl
  unfold isXR
  rw [hi2]
  show (decide _ && decide _ && (lI l).all _) = true
  have h1 := v.r1 l hl2
  have h6 := v.r6 l hl2
  have e2 : (lI l).length = l.length := List.length_map _
  rw [decide_eq_true (by omega), decide_eq_true (by omega), Bool.true_and, Bool.true_and]
  refine ints_all fun t ht => ?_
  have a := v.lo l hl2 t ht
  have b := v.hi l hl2 t ht
  show (decide _ && decide _) = true
  rw [decide_eq_true a, decide_eq_true (by omega)]
  rfl
theorem pl_ints {l : List Int} : ∀ x ∈ lI l, Pl x := fun x hx => by
  obtain ⟨i, _, rfl⟩ := List.mem_map.mp hx
  exact ⟨_, rfl⟩
theorem rowI.pl {x : D} {l : List Int} (h : rowI x l) (hl : l.length ≤ 40000) : Pl1 x := by
  have hi : its x = some (lI l) := by rcases h with rfl | rfl <;> rfl
  refine ⟨by rcases h with rfl | rfl <;> exact ⟨_, rfl⟩, fun xs e => ?_⟩
  rw [hi] at e
  cases e
  exact ⟨by unfold lI; rw [List.length_map]; exact hl, pl_ints⟩
theorem Valid.pl {e : Int} {ex : List (List Int)} (v : Valid e ex) {d : D} (h : Rows d ex) : Pl2 d := by
  obtain ⟨xs, hd, hr⟩ := h
  have hi : its d = some xs := by rcases hd with rfl | rfl <;> rfl
  refine ⟨by rcases hd with rfl | rfl <;> exact ⟨_, rfl⟩, fun ys e => ?_⟩
  rw [hi] at e
  cases e
  refine ⟨by rw [hr.length]; have := v.n24; omega, fun x hx => ?_⟩
  obtain ⟨l, hl, hri⟩ := hr.mem x hx
  exact hri.pl (by have := v.r6 l hl; omega)
def cInit : List D → (List (Str × D) → Prop) → Prop := fun ds Z => ∃ e d ex, ds = [.int e, d] ∧ Rows d ex ∧ Valid e ex ∧ Z (netF e ex)
/-- the class, as the top has left it -/
structure NetT (K : PySem.W.Frag) (mg : Str → Option Value) (C : Addr) : Prop where
  t : ClsT K C
  nE : NoAttr K C "_ends"
  nX : NoAttr K C "_exits"
  nT : NoAttr K C "_targets"
  mgC : mg "Net" = some (.ref C)
  kl : PySem.W.kitOne K (.type "list") (.ref C) = some false
  nf : PySem.W.notFirst K C (.type "list") = true
theorem WSs.nx {X : Cx} {ρ : Rho} {E : DE} {rest : List Stmt} (h : WSs X rest ρ E) : ({ E with nx := fun ρ' => WSs X rest ρ' E } : DE).nx ρ := h
theorem ok_init {t6 t60 : Tok} (T : Blt mg) (N : NetT K mg C) (m6 : mg "MOST_ENDS" = some (.int 6 t6)) (m60 : mg "MOST_TRACKS" = some (.int 60 t60)) (Fc : Df P w K mg base k "is_count_below" ["value", "bound"] (spD (c2 isCB))) (Fx : Df P w K mg base k "_are_exits" ["value", "ends"] (spD (c2R isXs)))
    (F : Fun K "__init__" "Net.__init__" s_Net_init_ f fd) : FnOk P w K mg base CX0 (k + 1) f fd ["self", "ends", "exits"] (spI C cInit) := by
  refine fnI F c_Net_init_ (fun ds Z h => ?_) (fun cdv A outer s H E ds Z hr h => ?_)
  · obtain ⟨e, d, ex, rfl, _⟩ := h
    rfl
  · obtain ⟨e, d, ex, rfl, hrows, v, q⟩ := h
    have hxs := v.xs hrows
    have hpl := v.pl hrows
    -- if not is_count_below(ends, MOST_ENDS + 1): never
    refine ss_cons (s_if (t_not (t_val (call Fc hr (aG (nm 1 (a1 (w_binG (glb m6 (w_int (o_add ⟨_, _, rfl, pl_int e, _, rfl, ?_⟩)))))))))))
    have h1 : isCB (.int e) (6 + 1) = true := by
      show (decide (0 ≤ e) && decide (e < 6 + 1)) = true
      rw [decide_eq_true v.e0, decide_eq_true (by have := v.e6; omega)]; rfl
    rw [h1]
    show WSs _ [] _ _
    refine ss_nil ?_
    show WSs _ _ _ _
    -- if not _are_exits(exits, ends): never
    refine ss_cons (s_if (t_not (t_val (call Fx hr (aG (nm 2 (a1 (nm 1 ⟨_, _, rfl, hpl, _, rfl, ?_⟩))))))))
    rw [hxs]
    show WSs _ [] _ _
    refine ss_nil ?_
    show WSs _ _ _ _
    -- targets
    obtain ⟨xs, hd, hra⟩ := hrows
    have hlen : (xs.flatMap fun d => (itsD d).map fun e => e).length ≤ 60 := by
      rw [hra.flat]; unfold lI; rw [List.length_map]; exact v.m60
    refine ss_cons (s_lc11 3 4 5 itsD (fun _ e => e) c_Net_init_ (wi_row hd (fun Q h => nm 2 h) ⟨Nat.le_trans hlen (by decide), fun x hx => ⟨fun _ _ _ _ _ => ?_, fun y hy _ _ _ _ _ => nm 5 rfl⟩, ?_⟩))
    · obtain ⟨l, hl, hri⟩ := hra.mem x hx
      rw [hri.itsE]
      rcases hri with rfl | rfl
      · exact wi_lst (nm 4 ⟨_, rfl, rfl⟩)
      · exact wi_tup (nm 4 ⟨_, rfl, rfl⟩)
    rw [hra.flat]
    show WSs _ _ _ _
    -- if len(targets) > MOST_TRACKS: never
    refine ss_cons (s_if (t_cmpG (w_callB true rfl T.len (by decide +kernel) (a1 (nm 3 (c_lenL (glb m60 (o_gt ⟨_, rfl, ?_⟩))))))))
    have h2 : decide (60 < ((lI ex.flatten).length : Int)) = false := by
      have e2 : (lI ex.flatten).length = ex.flatten.length := List.length_map _
      have := v.m60
      exact decide_eq_false (by omega)
    rw [h2]
    show WSs _ [] _ _
    refine ss_nil ?_
    show WSs _ _ _ _
    -- self._ends = ends
    refine ss_cons (s_fld (i := 0) rfl (.inl rfl) (by decide) (by decide) (nm 1 ⟨C, [], rfl, N.t.cl, N.nE, by decide, rfl, ?_⟩))
    show WSs _ _ _ _
    -- self._exits = tuple([tuple(row) for row in exits])
    refine ss_cons (s_fld (i := 0) rfl (.inl rfl) (by decide) (by decide) (w_callTy true rfl T.tuple (by decide +kernel) (a1 (lc1 4 (fun x => .tup (itsD x)) c_Net_init_ (wi_row hd (fun Q h => nm 2 h) ⟨by rw [hra.length]; have := v.n24; omega, fun x hx _ _ _ _ _ => ?_, c_tuple ⟨C, _, rfl, N.t.cl, N.nX, by show 1 < 1000; decide, by rfl, ?_⟩⟩)))))
    · obtain ⟨l, hl, hri⟩ := hra.mem x hx
      refine w_callTy (T := "tuple") true rfl T.tuple (by decide +kernel) (a1 (nm 4 ?_))
      rcases hri with rfl | rfl
      · exact c_tuple rfl
      · exact c_tupleT rfl
    rw [hra.tup]
    show WSs _ _ _ _
    -- self._targets = tuple(targets)
    refine ss_one (s_fld (i := 0) rfl (.inl rfl) (by decide) (by decide) (w_callTy true rfl T.tuple (by decide +kernel) (a1 (nm 3 (c_tuple ⟨C, _, rfl, N.t.cl, N.nT, by show 2 < 1000; decide, by rfl, ?_⟩)))))
    exact ⟨_, rfl, q⟩
/-! getters and methods -/
def cNet (C : Addr) (r : Int → List (List Int) → D) : List D → (D → Prop) → Prop := fun ds Z => ∃ e ex, ds = [netD C e ex] ∧ Valid e ex ∧ Z (r e ex)
theorem ok_ends (N : NetT K mg C) (F : Fun K "ends" "Net.ends" s_Net_ends f fd) : FnOk P w K mg base CX0 (k + 1) f fd ["self"] (spD (cNet C fun e _ => .int e)) := by
  refine fnD F c_Net_ends (fun ds Z h => ?_) (fun cdv A outer s H E ds Z hr h => ?_)
  · obtain ⟨e, ex, rfl, _⟩ := h
    rfl
  · obtain ⟨e, ex, rfl, v, q⟩ := h
    exact ss_one (s_ret (w_fld (nm 0 ⟨C, netF e ex, _, rfl, N.t.cl, N.nE, by rfl, q⟩)))
theorem ok_points (T : Blt mg) (N : NetT K mg C) (F : Fun K "points" "Net.points" s_Net_points f fd) : FnOk P w K mg base CX0 (k + 1) f fd ["self"] (spD (cNet C fun _ ex => .int (ex.length : Int))) := by
  refine fnD F c_Net_points (fun ds Z h => ?_) (fun cdv A outer s H E ds Z hr h => ?_)
  · obtain ⟨e, ex, rfl, _⟩ := h
    rfl
  · obtain ⟨e, ex, rfl, v, q⟩ := h
    refine ss_one (s_ret (w_callB true rfl T.len (by decide +kernel) (a1 (w_fld (nm 0 ⟨C, netF e ex, _, rfl, N.t.cl, N.nX, by rfl, c_lenT ?_⟩)))))
    have e2 : (rowsT ex).length = ex.length := List.length_map _
    rw [e2]; exact q
theorem ok_exits (T : Blt mg) (N : NetT K mg C) (F : Fun K "exits" "Net.exits" s_Net_exits f fd) : FnOk P w K mg base CX0 (k + 1) f fd ["self"] (spD (cNet C fun _ ex => .lst (rowsL ex))) := by
  refine fnD F c_Net_exits (fun ds Z h => ?_) (fun cdv A outer s H E ds Z hr h => ?_)
  · obtain ⟨e, ex, rfl, _⟩ := h
    rfl
  · obtain ⟨e, ex, rfl, v, q⟩ := h
    refine ss_one (s_ret (lc1 1 (fun x => .lst (itsD x)) c_Net_exits (wi_tup (w_fld (nm 0 ⟨C, netF e ex, _, rfl, N.t.cl, N.nX, by rfl, _, rfl, ?_, fun x hx _ _ _ _ _ => ?_, ?_⟩)))))
    · have e2 : (rowsT ex).length = ex.length := List.length_map _
      rw [e2]; have := v.n24; omega
    · obtain ⟨l, hl, rfl⟩ := List.mem_map.mp hx
      exact w_callTy true rfl T.list (by decide +kernel) (a1 (nm 1 (c_listT rfl)))
    · have e2 : (rowsT ex).map (fun x => D.lst (itsD x)) = rowsL ex := by
        unfold rowsT rowsL
        rw [List.map_map]
        rfl
      rw [e2]; exact q
theorem ok_targets (T : Blt mg) (N : NetT K mg C) (F : Fun K "targets" "Net.targets" s_Net_targets f fd) : FnOk P w K mg base CX0 (k + 1) f fd ["self"] (spD (cNet C fun _ ex => .lst (lI ex.flatten))) := by
  refine fnD F c_Net_targets (fun ds Z h => ?_) (fun cdv A outer s H E ds Z hr h => ?_)
  · obtain ⟨e, ex, rfl, _⟩ := h
    rfl
  · obtain ⟨e, ex, rfl, v, q⟩ := h
    exact ss_one (s_ret (w_callTy true rfl T.list (by decide +kernel) (a1 (w_fld (nm 0 ⟨C, netF e ex, _, rfl, N.t.cl, N.nT, by rfl, c_listT q⟩)))))
theorem ok_many (T : Blt mg) (N : NetT K mg C) (F : Fun K "many" "Net.many" s_Net_many f fd) : FnOk P w K mg base CX0 (k + 1) f fd ["self"] (spD (cNet C fun _ ex => .int (ex.flatten.length : Int))) := by
  refine fnD F c_Net_many (fun ds Z h => ?_) (fun cdv A outer s H E ds Z hr h => ?_)
  · obtain ⟨e, ex, rfl, _⟩ := h
    rfl
  · obtain ⟨e, ex, rfl, v, q⟩ := h
    refine ss_one (s_ret (w_callB true rfl T.len (by decide +kernel) (a1 (w_fld (nm 0 ⟨C, netF e ex, _, rfl, N.t.cl, N.nT, by rfl, c_lenT ?_⟩)))))
    have e2 : (lI ex.flatten).length = ex.flatten.length := List.length_map _
    rw [e2]; exact q
def cNetEq (C : Addr) : List D → (D → Prop) → Prop := fun ds Z => (∃ e ex e' ex', ds = [netD C e ex, netD C e' ex'] ∧ Z (.bl (decide (e = e') && decide (ex = ex')))) ∨ ∃ e ex xs, ds = [netD C e ex, .lst xs] ∧ Z (.bl false)
theorem dep_ints : ∀ l : List Int, PyData.depthAll (l.map PyData.int) = 0
  | [] => rfl
  | i :: l => by show max 0 (PyData.depthAll (l.map PyData.int)) = 0; rw [dep_ints l]; rfl
theorem dep_tups : ∀ ex : List (List Int), PyData.depthAll (ex.map fun l => PyData.tuple (l.map PyData.int)) ≤ 1
  | [] => Nat.zero_le _
  | l :: ls => by
    show max (PyData.depthAll (l.map PyData.int) + 1) (PyData.depthAll (ls.map _)) ≤ 1
    rw [dep_ints]
    exact Nat.max_le.mpr ⟨Nat.le_refl _, dep_tups ls⟩
theorem dep_lsts : ∀ ex : List (List Int), PyData.depthAll (ex.map fun l => PyData.list (l.map PyData.int)) ≤ 1
  | [] => Nat.zero_le _
  | l :: ls => by
    show max (PyData.depthAll (l.map PyData.int) + 1) (PyData.depthAll (ls.map _)) ≤ 1
    rw [dep_ints]
    exact Nat.max_le.mpr ⟨Nat.le_refl _, dep_lsts ls⟩
theorem shaped_of {d : PyData} (h : d.canLay0 = true) (h2 : d.depth ≤ 64) : SeqAt.shaped d = true := by
  unfold SeqAt.shaped
  rw [h, decide_eq_true h2]
  rfl
theorem shaped_tups (ex : List (List Int)) : SeqAt.shaped (.tuple (ex.map fun l => PyData.tuple (l.map PyData.int))) = true :=
  shaped_of (lay_tups ex) (by show PyData.depthAll _ + 1 ≤ 64; have := dep_tups ex; omega)
theorem shaped_lsts (ex : List (List Int)) : SeqAt.shaped (.list (ex.map fun l => PyData.list (l.map PyData.int))) = true :=
  shaped_of (lay_lsts ex) (by show PyData.depthAll _ + 1 ≤ 64; have := dep_lsts ex; omega)
theorem shaped_ints (l : List Int) : SeqAt.shaped (.list (l.map PyData.int)) = true :=
  shaped_of (lay_ints l) (by show PyData.depthAll _ + 1 ≤ 64; rw [dep_ints]; decide)
theorem ok_eq (T : Blt mg) (N : NetT K mg C) (F : Fun K "__eq__" "Net.__eq__" s_Net_eq_ f fd) : FnOk P w K mg base CX0 (k + 1) f fd ["self", "other"] (spD (cNetEq C)) := by
  refine fnD F c_Net_eq_ (fun ds Z h => ?_) (fun cdv A outer s H E ds Z hr h => ?_)
  · rcases h with ⟨e, ex, e', ex', rfl, _⟩ | ⟨e, ex, xs, rfl, _⟩ <;> rfl
  · rcases h with ⟨e, ex, e', ex', rfl, q⟩ | ⟨e, ex, xs, rfl, q⟩
    rotate_left
    · exact ss_one (s_ret (w_and (w_isiL N.kl N.t.cl T.isi N.mgC (nm 1 ⟨_, rfl, _, rfl, q⟩))))
    refine ss_one (s_ret (w_and (w_isiO N.t T.isi N.mgC (nm 1 ⟨_, rfl, _, rfl, ?_⟩))))
    show W _ _ _ _ _ _
    refine w_and (w_cmpG (w_fld (nm 0 ⟨C, netF e ex, _, rfl, N.t.cl, N.nE, by rfl, w_fld (nm 1 ⟨C, netF e' ex', _, rfl, N.t.cl, N.nE, by rfl, o_eq ⟨_, rfl, ?_⟩⟩)⟩)))
    by_cases h1 : e = e'
    · rw [decide_eq_true h1] at q ⊢
      show W _ _ _ _ _ _
      refine w_one (w_cmpG (w_fld (nm 0 ⟨C, netF e ex, _, rfl, N.t.cl, N.nX, by rfl, w_fld (nm 1 ⟨C, netF e' ex', _, rfl, N.t.cl, N.nX, by rfl, ?_⟩)⟩)))
      have p1 : ∀ z : List (List Int), py (.tup (rowsT z)) = some (.tuple (z.map fun l => PyData.tuple (l.map PyData.int))) := fun z => by
        show (pyA (rowsT z)).map PyData.tuple = _
        rw [show pyA (rowsT z) = some _ from pyA_tups z]
        rfl
      refine o_eqD hr.units (p1 ex) (p1 ex') (shaped_tups ex) (shaped_tups ex') ?_
      show Z (.bl (PyData.eqvAll _ _))
      rw [eqv_tups]
      exact q
    · rw [decide_eq_false h1] at q ⊢
      exact q
end
/-- a net's class with the promises of its own defs, at level k -/
structure NetP (P : Program) (w : World) (K : PySem.W.Frag) (mg : Str → Option Value) (base : Heap) (C : Addr) (k : Nat) : Prop where
  n : NetT K mg C
  ends : ∃ pa ga fd, PropOf K C "ends" pa ga ∧ FnOk P w K mg base CX0 k ga fd ["self"] (spD (cNet C fun e _ => .int e)) ∧ Binds K fd ["self"] []
  points : ∃ pa ga fd, PropOf K C "points" pa ga ∧ FnOk P w K mg base CX0 k ga fd ["self"] (spD (cNet C fun _ ex => .int (ex.length : Int))) ∧ Binds K fd ["self"] []
  many : ∃ pa ga fd, PropOf K C "many" pa ga ∧ FnOk P w K mg base CX0 k ga fd ["self"] (spD (cNet C fun _ ex => .int (ex.flatten.length : Int))) ∧ Binds K fd ["self"] []
  targets : ∃ f fd, Meth K C "targets" f ∧ FnOk P w K mg base CX0 k f fd ["self"] (spD (cNet C fun _ ex => .lst (lI ex.flatten))) ∧ Binds K fd ["self"] []
  exits : ∃ f fd, Meth K C "exits" f ∧ FnOk P w K mg base CX0 k f fd ["self"] (spD (cNet C fun _ ex => .lst (rowsL ex))) ∧ Binds K fd ["self"] []
  eq : ∃ f fd, PySem.W.findIn K (.ref C) "__eq__" = some (some (.ref f)) ∧ PySem.W.isFn K (.ref f) = true ∧ FnOk P w K mg base CX0 k f fd ["self", "other"] (spD (cNetEq C)) ∧ Binds K fd ["self", "other"] []
  ne : PySem.W.findIn K (.ref C) "__ne__" = some (some (.builtin "object.__ne__"))
  sub : PySem.W.subIn K (.ref C) (.type "object") = some true
  maker : ∃ f fd, Mk K C f ∧ FnOk P w K mg base CX0 k f fd ["self", "ends", "exits"] (spI C cInit) ∧ Binds K fd ["self", "ends", "exits"] [] ∧ KBn K fd ["self", "ends", "exits"] 1 ["exits", "ends"] (fun us ws => us ++ sw2 ws) (fun vs zs => vs ++ sw2 zs)
section
variable {p g : Bool} {X : Cx} {ρ : Rho} {Q : D → Rho → Prop} {C : Addr} {k : Nat} {e : Expr} {pos apos : Pos}
theorem w_ends (N : NetP X.prog X.w X.K X.mg X.base C k) (hr : Room (k + 1) X.A) (h : W p true X e ρ fun x ρ1 => ∃ n ex, x = netD C n ex ∧ Valid n ex ∧ Q (.int n) ρ1) (hab : attributeBase e "ends" X.env (eval e X.env) = eval e X.env := by rfl) : W p g X (.Attribute e "ends" pos) ρ Q := by
  obtain ⟨pa, ga, fd, hp, F, hb⟩ := N.ends
  exact w_prop N.n.t.cl hp F hr hb (h.imp fun d ρ' ⟨n, ex, e, v, q⟩ => ⟨_, e, n, ex, rfl, v, q⟩) hab
theorem w_points (N : NetP X.prog X.w X.K X.mg X.base C k) (hr : Room (k + 1) X.A) (h : W p true X e ρ fun x ρ1 => ∃ n ex, x = netD C n ex ∧ Valid n ex ∧ Q (.int (ex.length : Int)) ρ1) (hab : attributeBase e "points" X.env (eval e X.env) = eval e X.env := by rfl) : W p g X (.Attribute e "points" pos) ρ Q := by
  obtain ⟨pa, ga, fd, hp, F, hb⟩ := N.points
  exact w_prop N.n.t.cl hp F hr hb (h.imp fun d ρ' ⟨n, ex, e, v, q⟩ => ⟨_, e, n, ex, rfl, v, q⟩) hab
theorem w_exits {pl : Sem Bool} (N : NetP X.prog X.w X.K X.mg X.base C k) (hr : Room k X.A) (h : W p true X e ρ fun x ρ1 => ∃ n ex, x = netD C n ex ∧ Valid n ex ∧ Q (.lst (rowsL ex)) ρ1)
    (ht : eval (.Call (.Attribute e "exits" apos) [] [] pos) X.env = (do
      let ov ← eval e X.env
      standAt apos.atName
      let (f, first) ← holding [ov] (getMethod ov "exits" pl)
      callWith pos f first (backTo pos (starEach [] X.env)) (backToKw pos (keywordEach [] X.env))) := by rfl) : W p g X (.Call (.Attribute e "exits" apos) [] [] pos) ρ Q := by
  obtain ⟨f, fd, hm, F, hb⟩ := N.exits
  exact w_meth0 (pl := pl) N.n.t.cl hm F hr hb (h.imp fun d ρ' ⟨n, ex, e, v, q⟩ => ⟨_, e, rfl, n, ex, rfl, v, q⟩) ht
theorem w_net {es : List Expr} {pp : Pos} (N : NetP X.prog X.w X.K X.mg X.base C k) (hr : Room (k + 1) X.A) (h : WA p true X (e :: es) ρ fun ds ρ' => ∃ n d ex, ds = [.int n, d] ∧ Rows d ex ∧ Valid n ex ∧ Q (netD C n ex) ρ') (hg : Gl X "Net" := by rfl)
    (he : starEach (e :: es) X.env = (false, eval e X.env) :: starEach es X.env := by rfl) (hpl : (backTo pos (starEach es X.env)).any (·.1) = false := by rfl) : W p g X (.Call (.Name "Net" pp) (e :: es) [] pos) ρ Q := by
  obtain ⟨f, fd, hm, F, hb, _⟩ := N.maker
  exact w_make hm F hr N.n.mgC hb h hg (by decide) he hpl
theorem o_eqN {n n' : Int} {ex ex' : List (List Int)} {Z : D → Prop} (N : NetP X.prog X.w X.K X.mg X.base C k) (hr : Room k X.A) (q : Z (.bl (decide (n = n') && decide (ex = ex')))) : Op2 true X (compareOp .Eq) (netD C n ex) (netD C n' ex') Z := by
  obtain ⟨f, fd, h1, h2, F, hb⟩ := N.eq
  exact o_eqO F hr h1 h2 hb (.inl ⟨n, ex, n', ex', rfl, _, rfl, q⟩)
theorem o_neN {n n' : Int} {ex ex' : List (List Int)} {Z : D → Prop} (N : NetP X.prog X.w X.K X.mg X.base C k) (hr : Room (k + 1) X.A) (q : Z (.bl (!(decide (n = n') && decide (ex = ex'))))) : Op2 true X (compareOp .NotEq) (netD C n ex) (netD C n' ex') Z := by
  obtain ⟨f, fd, h1, h2, F, hb⟩ := N.eq
  exact o_neO F hr h1 N.ne N.sub h2 hb (.inl ⟨n, ex, n', ex', rfl, _, rfl, q⟩)
theorem o_eqNL {n : Int} {ex : List (List Int)} {ds : List D} {Z : D → Prop} (N : NetP X.prog X.w X.K X.mg X.base C k) (hr : Room k X.A) (q : Z (.bl false)) : Op2 true X (compareOp .Eq) (netD C n ex) (.lst ds) Z := by
  obtain ⟨f, fd, h1, h2, F, hb⟩ := N.eq
  exact o_eqL F hr h1 h2 N.n.nf hb (.inr ⟨n, ex, ds, rfl, _, rfl, q⟩)
theorem w_many (N : NetP X.prog X.w X.K X.mg X.base C k) (hr : Room (k + 1) X.A) (h : W p true X e ρ fun x ρ1 => ∃ n ex, x = netD C n ex ∧ Valid n ex ∧ Q (.int (ex.flatten.length : Int)) ρ1) (hab : attributeBase e "many" X.env (eval e X.env) = eval e X.env := by rfl) : W p g X (.Attribute e "many" pos) ρ Q := by
  obtain ⟨pa, ga, fd, hp, F, hb⟩ := N.many
  exact w_prop N.n.t.cl hp F hr hb (h.imp fun d ρ' ⟨n, ex, e, v, q⟩ => ⟨_, e, n, ex, rfl, v, q⟩) hab
theorem w_targets {pl : Sem Bool} (N : NetP X.prog X.w X.K X.mg X.base C k) (hr : Room k X.A) (h : W p true X e ρ fun x ρ1 => ∃ n ex, x = netD C n ex ∧ Valid n ex ∧ Q (.lst (lI ex.flatten)) ρ1)
    (ht : eval (.Call (.Attribute e "targets" apos) [] [] pos) X.env = (do
      let ov ← eval e X.env
      standAt apos.atName
      let (f, first) ← holding [ov] (getMethod ov "targets" pl)
      callWith pos f first (backTo pos (starEach [] X.env)) (backToKw pos (keywordEach [] X.env))) := by rfl) : W p g X (.Call (.Attribute e "targets" apos) [] [] pos) ρ Q := by
  obtain ⟨f, fd, hm, F, hb⟩ := N.targets
  exact w_meth0 (pl := pl) N.n.t.cl hm F hr hb (h.imp fun d ρ' ⟨n, ex, e, v, q⟩ => ⟨_, e, rfl, n, ex, rfl, v, q⟩) ht
theorem noL_ints : ∀ l : List Int, noLA (lI l) = true
  | [] => rfl
  | i :: l => noL_ints l
theorem noL_tups : ∀ ex : List (List Int), noLA (rowsT ex) = true
  | [] => rfl
  | l :: ls => Bool.and_eq_true_iff.mpr ⟨noL_ints l, noL_tups ls⟩
theorem noL_net (n : Int) (ex : List (List Int)) : noLF (netF n ex) = true := by
  show (true && (noLA (rowsT ex) && (noLA (lI ex.flatten) && true))) = true
  rw [noL_tups, noL_ints]; rfl
theorem wfr_exits {pl : Sem Bool} {n : Int} {ex : List (List Int)} (N : NetP X.prog X.w X.K X.mg X.base C k) (hr : Room k X.A) (v : Valid n ex) (h : W true true X e ρ fun x _ => x = netD C n ex)
    (ht : eval (.Call (.Attribute e "exits" apos) [] [] pos) X.env = (do
      let ov ← eval e X.env
      standAt apos.atName
      let (f, first) ← holding [ov] (getMethod ov "exits" pl)
      callWith pos f first (backTo pos (starEach [] X.env)) (backToKw pos (keywordEach [] X.env))) := by rfl) : WFr X (.Call (.Attribute e "exits" apos) [] [] pos) ρ (.lst (rowsL ex)) := by
  obtain ⟨f, fd, hm, F, hb⟩ := N.exits
  exact wfr_meth0 (pl := pl) N.n.t.cl hm F hr hb h rfl (noL_net n ex) ⟨n, ex, rfl, v, rfl⟩ ht
theorem wfr_targets {pl : Sem Bool} {n : Int} {ex : List (List Int)} (N : NetP X.prog X.w X.K X.mg X.base C k) (hr : Room k X.A) (v : Valid n ex) (h : W true true X e ρ fun x _ => x = netD C n ex)
    (ht : eval (.Call (.Attribute e "targets" apos) [] [] pos) X.env = (do
      let ov ← eval e X.env
      standAt apos.atName
      let (f, first) ← holding [ov] (getMethod ov "targets" pl)
      callWith pos f first (backTo pos (starEach [] X.env)) (backToKw pos (keywordEach [] X.env))) := by rfl) : WFr X (.Call (.Attribute e "targets" apos) [] [] pos) ρ (.lst (lI ex.flatten)) := by
  obtain ⟨f, fd, hm, F, hb⟩ := N.targets
  exact wfr_meth0 (pl := pl) N.n.t.cl hm F hr hb h rfl (noL_net n ex) ⟨n, ex, rfl, v, rfl⟩ ht
theorem w_netK {kws : List Keyword} {pp : Pos} (N : NetP X.prog X.w X.K X.mg X.base C k) (hr : Room (k + 1) X.A) (h : WK p true X kws ρ fun ds ρ' => ∃ n d ex, ds = [d, .int n] ∧ Rows d ex ∧ Valid n ex ∧ Q (netD C n ex) ρ') (hg : Gl X "Net" := by rfl)
    (hall : (backToKw pos (keywordEach kws X.env)).all (·.1.isSome) = true := by rfl) (hks : (backToKw pos (keywordEach kws X.env)).filterMap (·.1) = (["exits", "ends"] : List Str) := by rfl)
    (hpl : ((backTo pos (starEach [] X.env)).any (·.1) || (backToKw pos (keywordEach kws X.env)).any (·.1.isNone)) = false := by rfl) : W p g X (.Call (.Name "Net" pp) [] kws pos) ρ Q := by
  obtain ⟨f, fd, hm, F, _, hb⟩ := N.maker
  refine w_makeK hm F hr N.n.mgC hb (fun B σ G H S R r => h B σ G H S R fun vs ds ρ' G' H' q S' y pu i => r vs ds ρ' G' H' ?_ S' y pu i) hg (by decide) hall hks hpl
  obtain ⟨n, d, ex, rfl, q⟩ := q
  exact ⟨rfl, n, d, ex, rfl, q⟩
end
section
variable {P : Program} {w : World} {K : PySem.W.Frag} {mg : Str → Option Value} {base : Heap} {f C : Addr} {fd : FuncData} {k : Nat}
/-! ### points, targets, settings -/
def cNN (C : Addr) (r : Int → List (List Int) → D) : List D → (D → Prop) → Prop := cNet C r
theorem ok_check_net (T : Blt mg) (N : NetT K mg C) (F : Fun K "check_net" "check_net" s_check_net f fd) : FnOk P w K mg base CX0 (k + 1) f fd ["net"] (spD (cNet C fun _ _ => .non)) := by
  refine fnD F c_check_net (fun ds Z h => ?_) (fun cdv A outer s H E ds Z hr h => ?_)
  · obtain ⟨e, ex, rfl, _⟩ := h
    rfl
  · obtain ⟨e, ex, rfl, v, q⟩ := h
    refine ss_one (s_if (t_not (t_val (w_isiO N.t T.isi N.mgC (nm 0 ⟨_, rfl, _, rfl, ?_⟩)))))
    show WSs _ [] _ _
    exact ss_nil q
def cNet1 (C : Addr) (b : D → Int → List (List Int) → Bool) : List D → (D → Prop) → Prop := fun ds Z => ∃ e ex d, ds = [netD C e ex, d] ∧ Valid e ex ∧ Pl d ∧ Z (.bl (b d e ex))
/-- a setting, as a list of whole numbers -/
def ValidS (ex : List (List Int)) (st : List Int) : Prop := st.length = ex.length ∧ ∀ (i : Nat) (s : Int) (l : List Int), st[i]? = some s → ex[i]? = some l → 0 ≤ s ∧ s < l.length
theorem wi_zipR {X : Cx} {p : Bool} {ρ : Rho} {QI : List D → Rho → Prop} {d : D} {xs : List D} {a b : Expr} {elts : List Expr} {kk : Nat} {pp pos tpos : Pos} (hd : d = .lst xs ∨ d = .tup xs) (hg : Gl X "zip") (hm : X.mg "zip" = none) (h : WA p true X [a, b] ρ fun ds ρ' => ∃ ys, ds = [d, .lst ys] ∧ QI ((xs.zip ys).map fun q => D.tup [q.1, q.2]) ρ')
    (hs : starEach [a, b] X.env = (false, eval a X.env) :: starEach [b] X.env := by rfl) (hpl : (backTo pos (starEach [b] X.env)).any (·.1) = false := by rfl) : WI p X (.Tuple elts kk tpos) (.Call (.Name "zip" pp) [a, b] [] pos) ρ QI := by
  rcases hd with rfl | rfl
  · exact wi_zip hg hm (fun B σ G H S R r => h B σ G H S R fun vs ds ρ' G' H' q S' y pu i => r vs ds ρ' G' H' (by
      obtain ⟨ys, e, q⟩ := q
      exact ⟨_, ys, e, q⟩) S' y pu i) hs hpl
  · exact wi_zipTL hg hm (fun B σ G H S R r => h B σ G H S R fun vs ds ρ' G' H' q S' y pu i => r vs ds ρ' G' H' (by
      obtain ⟨ys, e, q⟩ := q
      exact ⟨_, ys, e, q⟩) S' y pu i) hs hpl
def cSet (C : Addr) (r : Int → List (List Int) → List Int → D) : List D → (D → Prop) → Prop := fun ds Z => ∃ e ex d st, ds = [netD C e ex, d] ∧ rowI d st ∧ Valid e ex ∧ ValidS ex st ∧ Z (r e ex st)
theorem zip_mem {st : List Int} {ex : List (List Int)} {d : D} (h : d ∈ ((lI st).zip (rowsL ex)).map fun q => D.tup [q.1, q.2]) : ∃ (i : Nat) (s : Int) (l : List Int), st[i]? = some s ∧ ex[i]? = some l ∧ d = .tup [.int s, .lst (lI l)] := by
  obtain ⟨⟨a, b⟩, hq, rfl⟩ := List.mem_map.mp h
  obtain ⟨i, hi, e⟩ := List.mem_iff_getElem.mp hq
  have e1 : (lI st)[i]? = some a ∧ (rowsL ex)[i]? = some b := List.getElem?_zip_eq_some.mp (by rw [List.getElem?_eq_getElem hi, e])
  obtain ⟨e1, e2⟩ := e1
  unfold lI at e1
  unfold rowsL at e2
  rw [List.getElem?_map] at e1 e2
  cases h1 : st[i]? with
  | none => rw [h1] at e1; cases e1
  | some s =>
    cases h2 : ex[i]? with
    | none => rw [h2] at e2; cases e2
    | some l =>
      rw [h1] at e1; rw [h2] at e2
      cases e1; cases e2
      exact ⟨i, s, l, h1, h2, rfl⟩
def spotB : D → Bool
  | .tup [s, .lst l] => isCB s l.length
  | _ => false
theorem ok_is_setting {j : Nat} (T : Blt mg) (N : NetP P w K mg base C j) (hj : j ≤ k) (Fn : Df P w K mg base k "check_net" ["net"] (spD (cNet C fun _ _ => .non))) (Fr : Df P w K mg base k "is_row" ["value"] (spD (c1 isRow))) (Fc : Df P w K mg base k "is_count_below" ["value", "bound"] (spD (c2 isCB)))
    (F : Fun K "is_setting" "is_setting" s_is_setting f fd) : FnOk P w K mg base CX0 (k + 2) f fd ["net", "value"] (spD (cSet C fun _ _ _ => .bl true)) := by
  refine fnD F c_is_setting (fun ds Z h => ?_) (fun cdv A outer s H E ds Z hr h => ?_)
  · obtain ⟨e, ex, dr, st, rfl, _⟩ := h
    rfl
  · obtain ⟨e, ex, dr, st, rfl, hdr, v, vs, q⟩ := h
    have hdr2 : dr = .lst (lI st) ∨ dr = .tup (lI st) := hdr
    have hpl : Pl dr := by rcases hdr with rfl | rfl <;> exact ⟨_, rfl⟩
    have hrow : isRow dr = true := by rcases hdr with rfl | rfl <;> rfl
    have hrk := hr.mono (Nat.le_succ k)
    refine ss_cons (s_expr (call Fn hrk (a1 (nm 0 ⟨e, ex, rfl, v, ?_⟩))))
    show WSs _ _ _ _
    refine ss_cons (s_if (t_bool (tb_or (t_not (t_val (call Fr hrk (a1 (nm 1 ⟨_, rfl, hpl, _, rfl, ?_⟩))))))))
    rw [hrow]
    show WTB _ _ _ _ _ _ _
    refine tb_or1 (t_cmpG (w_callB true rfl T.len (by decide +kernel) (a1 (nm 1 (c_len hdr2 (w_points N (hr.mono (by omega)) (nm 0 ⟨e, ex, rfl, v, o_ne ⟨_, rfl, ?_⟩⟩)))))))
    have e1 : (!decide (((lI st).length : Int) = (ex.length : Int))) = false := by
      have : (lI st).length = st.length := List.length_map _
      rw [decide_eq_true (by rw [this, vs.1])]; rfl
    rw [e1]
    show WSs _ [] _ _
    refine ss_nil ?_
    show WSs _ _ _ _
    refine ss_one (s_ret (w_callB true rfl T.all (by decide +kernel) (a1 (lc2 2 3 (fun d => .bl (spotB d)) c_is_setting (wi_zipR hdr2 rfl T.zip (aG (nm 1 (a1 (w_exits N (hr.mono (by omega)) (nm 0 ⟨e, ex, rfl, v, _, rfl, ?_, fun d hd => ?_, c_allD rfl ?_⟩))))))))))
    · rw [List.length_map, List.length_zip]
      have : (rowsL ex).length = ex.length := List.length_map _
      have := v.n24
      omega
    · obtain ⟨i, s, l, h1, h2, rfl⟩ := zip_mem hd
      exact ⟨_, _, rfl, fun _ _ _ _ _ => call Fc hrk (aG (nm 2 (a1 (w_callB true rfl T.len (by decide +kernel) (a1 (nm 3 (c_lenL ⟨_, _, rfl, pl_int _, rfl⟩)))))))⟩
    · have e2 : ((((lI st).zip (rowsL ex)).map fun q => D.tup [q.1, q.2]).all spotB) = true := by
        refine List.all_eq_true.mpr fun d hd => ?_
        obtain ⟨i, s, l, h1, h2, rfl⟩ := zip_mem hd
        obtain ⟨a, b⟩ := vs.2 i s l h1 h2
        show (decide (0 ≤ s) && decide (s < ((lI l).length : Int))) = true
        have : (lI l).length = l.length := List.length_map _
        rw [decide_eq_true a, decide_eq_true (by omega)]; rfl
      show Z (.bl _)
      rw [e2]; exact q
theorem ok_check_setting (Fs : Df P w K mg base k "is_setting" ["net", "value"] (spD (cSet C fun _ _ _ => .bl true))) (F : Fun K "check_setting" "check_setting" s_check_setting f fd) : FnOk P w K mg base CX0 (k + 1) f fd ["net", "setting"] (spD (cSet C fun _ _ _ => .non)) := by
  refine fnD F c_check_setting (fun ds Z h => ?_) (fun cdv A outer s H E ds Z hr h => ?_)
  · obtain ⟨e, ex, dr, st, rfl, _⟩ := h
    rfl
  · obtain ⟨e, ex, dr, st, rfl, hdr, v, vs, q⟩ := h
    have hdr2 : dr = .lst (lI st) ∨ dr = .tup (lI st) := hdr
    have hpl : Pl dr := by rcases hdr with rfl | rfl <;> exact ⟨_, rfl⟩
    have hrow : isRow dr = true := by rcases hdr with rfl | rfl <;> rfl
    refine ss_one (s_if (t_not (t_val (call Fs hr (aG (nm 0 (a1 (nm 1 ⟨e, ex, dr, st, rfl, hdr, v, vs, _, rfl, ?_⟩))))))))
    show WSs _ [] _ _
    exact ss_nil q
/-- the targets of the last exits -/
def lastOf : D → D
  | .tup [.int s, .lst l] => (atI l (s - 1)).getD .non
  | _ => .non
def lasts (ex : List (List Int)) (st : List Int) : List Int := (st.zip ex).map fun q => (atI q.2 (q.1 - 1)).getD 0
theorem atI_lI (l : List Int) (i : Int) : atI (lI l) i = (atI l i).map D.int := by
  unfold atI lI
  rw [List.length_map]
  cases ixN l.length i with
  | none => rfl
  | some n => show (l.map D.int)[n]? = _; rw [List.getElem?_map]; rfl
theorem atI_some {l : List Int} {s : Int} (h0 : 0 ≤ s) (h1 : s < l.length) : ∃ t, atI l (s - 1) = some t ∧ t ∈ l := by
  unfold atI ixN
  by_cases hs : s = 0
  · subst hs
    have hl : 0 < l.length := by omega
    rw [if_neg (by omega), if_pos (by omega)]
    have e : ((0 : Int) - 1 + l.length).toNat = l.length - 1 := by omega
    show ∃ t, l[((0 : Int) - 1 + l.length).toNat]? = some t ∧ t ∈ l
    rw [e]
    have : l.length - 1 < l.length := by omega
    exact ⟨l[l.length - 1], List.getElem?_eq_getElem this, List.getElem_mem _⟩
  · rw [if_pos (by omega), if_pos (by omega)]
    have : (s - 1).toNat < l.length := by omega
    exact ⟨l[(s - 1).toNat], List.getElem?_eq_getElem this, List.getElem_mem _⟩
end
end K26

namespace K26
open PySem PySem.Spec PyProof.Rows L2 DD
/-! ### who leads to goals -/
def rowAt (ex : List (List Int)) (p : Nat) : List Int := ex.getD p []
inductive Lead (ex : List (List Int)) (goals : List Int) : Int → Prop
  | goal {p : Nat} {t : Int} : p < ex.length → t ∈ rowAt ex p → t ∈ goals → Lead ex goals (p : Int)
  | via {p : Nat} {t : Int} : p < ex.length → t ∈ rowAt ex p → Lead ex goals t → Lead ex goals (p : Int)
theorem Lead.pt {ex : List (List Int)} {goals : List Int} {i : Int} (h : Lead ex goals i) : ∃ p : Nat, p < ex.length ∧ i = (p : Int) := by
  cases h with
  | goal a b c => exact ⟨_, a, rfl⟩
  | via a b c => exact ⟨_, a, rfl⟩
def nats (n : Nat) : List Int := (List.range n).map fun i : Nat => (i : Int)
theorem mem_nats {n : Nat} {i : Int} : i ∈ nats n ↔ 0 ≤ i ∧ i < n := by
  unfold nats
  rw [List.mem_map]
  constructor
  · rintro ⟨p, hp, rfl⟩
    have := List.mem_range.mp hp
    omega
  · rintro ⟨h0, h1⟩
    exact ⟨i.toNat, List.mem_range.mpr (by omega), by omega⟩
theorem nats_len (n : Nat) : (nats n).length = n := by simp [nats]
theorem nats_get {n i : Nat} (h : i < n) : (nats n)[i]? = some (i : Int) := by unfold nats; rw [List.getElem?_map, List.getElem?_range h]; rfl
theorem nats_pw (n : Nat) : (nats n).Pairwise (· < ·) := by
  unfold nats
  rw [List.pairwise_map]
  exact List.pairwise_lt_range.imp fun h => by omega
open Classical in
noncomputable def ptsTo (ex : List (List Int)) (goals : List Int) : List Int := (nats ex.length).filter fun i => decide (Lead ex goals i)
open Classical in
theorem mem_ptsTo {ex : List (List Int)} {goals : List Int} {i : Int} : i ∈ ptsTo ex goals ↔ Lead ex goals i := by
  unfold ptsTo
  rw [List.mem_filter, decide_eq_true_iff]
  refine ⟨fun h => h.2, fun h => ⟨?_, h⟩⟩
  obtain ⟨p, hp, rfl⟩ := h.pt
  exact mem_nats.mpr ⟨by omega, by omega⟩
theorem ptsTo_pw (ex : List (List Int)) (goals : List Int) : (ptsTo ex goals).Pairwise (· < ·) := (nats_pw _).filter _
theorem nodup_of_lt {l : List Int} (h : l.Pairwise (· < ·)) : l.Nodup := h.imp fun q => by omega
theorem perm_of_mem {a b : List Int} (ha : a.Nodup) (hb : b.Nodup) (h : ∀ i, i ∈ a ↔ i ∈ b) : a.Perm b := (List.perm_ext_iff_of_nodup ha hb).mpr h
/-- what is found so far -/
structure Fnd (ex : List (List Int)) (goals fs : List Int) : Prop where
  nd : fs.Nodup
  ld : ∀ i ∈ fs, Lead ex goals i
def kf (fs : List Int) : List (Key × D) := fs.map fun i => (.inl i, .bl true)
theorem lookD_kf (i : Int) : ∀ fs : List Int, (lookD (kf fs) (.inl i)).isSome = decide (i ∈ fs)
  | [] => rfl
  | j :: fs => by
    unfold lookD kf
    rw [List.map_cons, List.find?_cons]
    by_cases h : j = i
    · subst h; simp
    · have e : decide ((Sum.inl j : Key) = Sum.inl i) = false := decide_eq_false fun z => h (Sum.inl.inj z)
      simp only [e]
      have ih := lookD_kf i fs
      unfold lookD kf at ih
      rw [ih]
      have : (i ∈ j :: fs) = (i ∈ fs) := by
        rw [List.mem_cons, eq_iff_iff]
        exact ⟨fun q => q.resolve_left fun z => h z.symm, .inr⟩
      simp only [this]
theorem putD_kf {fs : List Int} {i : Int} (h : i ∉ fs) : putD (kf fs) (.inl i) (.bl true) = kf (fs ++ [i]) := by
  unfold putD
  have e : ((kf fs).any fun kv => decide (kv.1 = (Sum.inl i : Key))) = false := by
    unfold kf
    rw [List.any_map, List.any_eq_false]
    intro j hj
    have : ¬ (Sum.inl j : Key) = Sum.inl i := fun z => h (Sum.inl.inj z ▸ hj)
    simpa using this
  rw [e]
  show kf fs ++ [(Sum.inl i, D.bl true)] = kf (fs ++ [i])
  unfold kf
  rw [List.map_append]
  rfl
def newP (ex : List (List Int)) (goals fs : List Int) (p : Nat) : Bool := !decide ((p : Int) ∈ fs) && (rowAt ex p).any fun t => decide (t ∈ goals) || decide (t ∈ fs)
def newPs (ex : List (List Int)) (goals fs : List Int) : List Int := ((List.range ex.length).filter (newP ex goals fs)).map fun p : Nat => (p : Int)
theorem mem_newPs {ex : List (List Int)} {goals fs : List Int} {i : Int} : i ∈ newPs ex goals fs ↔ ∃ p : Nat, p < ex.length ∧ newP ex goals fs p = true ∧ i = (p : Int) := by
  unfold newPs
  rw [List.mem_map]
  constructor
  · rintro ⟨p, hp, rfl⟩
    have := List.mem_filter.mp hp
    exact ⟨p, List.mem_range.mp this.1, this.2, rfl⟩
  · rintro ⟨p, hp, h2, rfl⟩
    exact ⟨p, List.mem_filter.mpr ⟨List.mem_range.mpr hp, h2⟩, rfl⟩
theorem Fnd.more {ex : List (List Int)} {goals fs : List Int} (f : Fnd ex goals fs) : Fnd ex goals (fs ++ newPs ex goals fs) := by
  refine ⟨List.nodup_append.mpr ⟨f.nd, ?_, ?_⟩, fun i hi => ?_⟩
  · have h1 : ((List.range ex.length).filter (newP ex goals fs)).Nodup := List.nodup_range.filter _
    have h2 : (newPs ex goals fs).Pairwise (· < ·) := by
      unfold newPs
      rw [List.pairwise_map]
      exact (List.pairwise_lt_range.filter _).imp fun h => by omega
    exact nodup_of_lt h2
  · intro i hi j hj e
    subst e
    obtain ⟨p, _, h2, rfl⟩ := mem_newPs.mp hj
    unfold newP at h2
    rw [decide_eq_true hi] at h2
    cases h2
  · rcases List.mem_append.mp hi with h | h
    · exact f.ld i h
    · obtain ⟨p, hp, h2, rfl⟩ := mem_newPs.mp h
      unfold newP at h2
      obtain ⟨t, ht, h3⟩ := List.any_eq_true.mp (Bool.and_eq_true_iff.mp h2).2
      rcases Bool.or_eq_true_iff.mp h3 with h4 | h4
      · exact .goal hp ht (of_decide_eq_true h4)
      · exact .via hp ht (f.ld t (of_decide_eq_true h4))
theorem Fnd.len {ex : List (List Int)} {goals fs : List Int} (f : Fnd ex goals fs) : fs.length ≤ ex.length := by
  have pm : fs.Perm ((nats ex.length).filter fun i => decide (i ∈ fs)) := perm_of_mem f.nd (nodup_of_lt ((nats_pw _).filter _)) fun i => by
    rw [List.mem_filter, decide_eq_true_iff]
    refine ⟨fun h => ⟨?_, h⟩, fun h => h.2⟩
    obtain ⟨p, hp, rfl⟩ := (f.ld i h).pt
    exact mem_nats.mpr ⟨by omega, by omega⟩
  have h := List.length_filter_le (fun i => decide (i ∈ fs)) (nats ex.length)
  rw [← pm.length_eq, nats_len] at h
  exact h
theorem Fnd.all {ex : List (List Int)} {goals fs : List Int} (f : Fnd ex goals fs) (h : newPs ex goals fs = []) : ∀ i, i ∈ fs ↔ Lead ex goals i := by
  refine fun i => ⟨f.ld i, fun hl => ?_⟩
  have key : ∀ (p : Nat) (t : Int), p < ex.length → t ∈ rowAt ex p → (t ∈ goals ∨ t ∈ fs) → (p : Int) ∈ fs := by
    intro p t hp ht hh
    apply Classical.byContradiction
    intro hn
    have : (p : Int) ∈ newPs ex goals fs := mem_newPs.mpr ⟨p, hp, by
      unfold newP
      rw [decide_eq_false hn]
      refine List.any_eq_true.mpr ⟨t, ht, ?_⟩
      rcases hh with hh | hh
      · rw [decide_eq_true hh]; rfl
      · rw [decide_eq_true hh, Bool.or_true], rfl⟩
    rw [h] at this
    cases this
  induction hl with
  | goal a b c => exact key _ _ a b (.inl c)
  | via a b c ih => exact key _ _ a b (.inr ih)
theorem Fnd.done {ex : List (List Int)} {goals fs ms : List Int} (f : Fnd ex goals fs) (h : ∀ i, i ∈ fs ↔ Lead ex goals i) (pm : ms.Perm fs) (pw : ms.Pairwise (· ≤ ·)) : ms = ptsTo ex goals := by
  refine PySem.W.os_sorted_one (pm.trans (perm_of_mem f.nd (nodup_of_lt (ptsTo_pw _ _)) fun i => ?_)) pw ((ptsTo_pw _ _).imp fun q => by omega)
  rw [mem_ptsTo]; exact h i
/-! the enumerated rows -/
theorem enum_eq (xs : List D) : ((rng 0 xs.length).zip xs).map (fun q => D.tup [q.1, q.2]) = (List.range xs.length).map fun i : Nat => D.tup [.int (i : Int), xs.getD i .non] := by
  apply List.ext_getElem?
  intro i
  rw [List.getElem?_map, List.getElem?_map]
  by_cases h : i < xs.length
  · have e1 : (rng 0 xs.length)[i]? = some (D.int (i : Int)) := by
      unfold rng
      rw [List.getElem?_map, List.getElem?_range h]
      show some (D.int (0 + (i : Int))) = _
      rw [Int.zero_add]
    have e2 : ((rng 0 xs.length).zip xs)[i]? = some (D.int (i : Int), xs[i]) := List.getElem?_zip_eq_some.mpr ⟨e1, List.getElem?_eq_getElem h⟩
    rw [e2, List.getElem?_range h]
    show some (D.tup [D.int (i : Int), xs[i]]) = some (D.tup [.int (i : Int), xs.getD i .non])
    rw [List.getD_eq_getElem?_getD, List.getElem?_eq_getElem h]
    rfl
  · have e2 : ((rng 0 xs.length).zip xs)[i]? = none := List.getElem?_eq_none (by rw [List.length_zip, rng_len]; omega)
    rw [e2, List.getElem?_eq_none (by simpa using h)]
    rfl
theorem rowsL_len (ex : List (List Int)) : (rowsL ex).length = ex.length := List.length_map _
theorem rowsL_at (ex : List (List Int)) {i : Nat} (h : i < ex.length) : (rowsL ex).getD i .non = .lst (lI (rowAt ex i)) := by
  unfold rowsL rowAt
  rw [List.getD_eq_getElem?_getD, List.getD_eq_getElem?_getD, List.getElem?_map, List.getElem?_eq_getElem h]
  rfl
theorem enum_rows (ex : List (List Int)) : ((rng 0 (rowsL ex).length).zip (rowsL ex)).map (fun q => D.tup [q.1, q.2]) = (List.range ex.length).map fun i : Nat => D.tup [.int (i : Int), .lst (lI (rowAt ex i))] := by
  rw [enum_eq, rowsL_len]
  exact List.map_congr_left fun i hi => by rw [rowsL_at ex (List.mem_range.mp hi)]
theorem rowAt_mem {ex : List (List Int)} {p : Nat} (h : p < ex.length) : rowAt ex p ∈ ex := by unfold rowAt; rw [List.getD_eq_getElem?_getD, List.getElem?_eq_getElem h]; exact List.getElem_mem h
theorem rng_nats (n : Nat) : rng 0 n = lI (nats n) := by
  unfold rng nats lI
  rw [List.map_map]
  refine List.map_congr_left fun i _ => ?_
  show D.int (0 + (i : Int)) = .int (i : Int)
  rw [Int.zero_add]
theorem py_lI (l : List Int) : py (.lst (lI l)) = some (.list (l.map PyData.int)) := by
  show (pyA (l.map D.int)).map PyData.list = _
  rw [pyA_ints]; rfl
theorem lI_len (l : List Int) : (lI l).length = l.length := List.length_map _
theorem lI_snoc (l : List Int) (t : Int) : lI l ++ [.int t] = lI (l ++ [t]) := by unfold lI; rw [List.map_append]; rfl
theorem lI_at {l : List Int} {i : Nat} {d : D} (h : (lI l)[i]? = some d) : ∃ t, l[i]? = some t ∧ d = .int t := by
  unfold lI at h
  rw [List.getElem?_map] at h
  cases hl : l[i]? with
  | none => rw [hl] at h; cases h
  | some t => rw [hl] at h; cases h; exact ⟨t, rfl, rfl⟩
theorem rowsL_snoc (ex : List (List Int)) (l : List Int) : rowsL ex ++ [.lst (lI l)] = rowsL (ex ++ [l]) := by unfold rowsL; rw [List.map_append]; rfl
theorem enum_at {sq : List Int} {j : Nat} {d : D} (h : (((rng 0 (lI sq).length).zip (lI sq)).map fun q => D.tup [q.1, q.2])[j]? = some d) : ∃ o, sq[j]? = some o ∧ d = .tup [.int (j : Int), .int o] := by
  rw [enum_eq, List.getElem?_map] at h
  have hll := lI_len sq
  by_cases hj : j < sq.length
  · rw [List.getElem?_range (by omega)] at h
    refine ⟨sq[j], List.getElem?_eq_getElem hj, ?_⟩
    have e1 : (lI sq).getD j .non = .int sq[j] := by
      unfold lI
      rw [List.getD_eq_getElem?_getD, List.getElem?_map, List.getElem?_eq_getElem hj]; rfl
    rw [← e1]
    exact (Option.some.inj h).symm
  · rw [List.getElem?_eq_none (by simp; omega)] at h
    cases h
theorem enum_len (sq : List Int) : (((rng 0 (lI sq).length).zip (lI sq)).map fun q => D.tup [q.1, q.2]).length = sq.length := by
  rw [List.length_map, List.length_zip, rng_len, lI_len, Nat.min_self]
theorem py_rows (ex : List (List Int)) : py (.lst (rowsL ex)) = some (.list (ex.map fun l => PyData.list (l.map PyData.int))) := by
  show (pyA (rowsL ex)).map PyData.list = _
  rw [show pyA (rowsL ex) = some _ from pyA_lsts ex]; rfl
theorem rows_atI {ex : List (List Int)} {o : Int} (h0 : 0 ≤ o) (h1 : o < ex.length) : atI (rowsL ex) o = some (.lst (lI (rowAt ex o.toNat))) := by
  have hlt : o.toNat < ex.length := by omega
  unfold atI ixN
  rw [if_pos h0, if_pos (by rw [rowsL_len]; omega)]
  have z := rowsL_at ex hlt
  rw [List.getD_eq_getElem?_getD] at z
  show (rowsL ex)[o.toNat]? = _
  rw [List.getElem?_eq_getElem (by rw [rowsL_len]; exact hlt)] at z ⊢
  exact congrArg some z
theorem ints_atI {l : List Int} {i : Int} {t : Int} (h0 : 0 ≤ i) (h : l[i.toNat]? = some t) : atI (lI l) i = some (.int t) := by
  have hl := (List.getElem?_eq_some_iff.mp h).1
  rw [atI_lI]
  unfold atI ixN
  rw [if_pos h0, if_pos (by omega)]
  show Option.map D.int (l[i.toNat]?) = _
  rw [h]; rfl
theorem enumR_at {ex : List (List Int)} {j : Nat} {d : D} (h : (((rng 0 (rowsL ex).length).zip (rowsL ex)).map fun q => D.tup [q.1, q.2])[j]? = some d) : j < ex.length ∧ d = .tup [.int (j : Int), .lst (lI (rowAt ex j))] := by
  rw [enum_rows, List.getElem?_map] at h
  cases hr : (List.range ex.length)[j]? with
  | none => rw [hr] at h; cases h
  | some i =>
    rw [hr] at h
    obtain ⟨hl, e⟩ := List.getElem?_eq_some_iff.mp hr
    rw [List.getElem_range] at e
    subst e
    cases h
    exact ⟨by simpa using hl, rfl⟩
theorem enumR_len (ex : List (List Int)) : (((rng 0 (rowsL ex).length).zip (rowsL ex)).map fun q => D.tup [q.1, q.2]).length = ex.length := by
  rw [enum_rows, List.length_map, List.length_range]
theorem flat_get {α : Type} : ∀ (L : List (List α)) (p s : Nat) (r : List α) (x : α), L[p]? = some r → r[s]? = some x → L.flatten[(L.take p).flatten.length + s]? = some x
  | [], _, _, _, _, h, _ => by simp at h
  | l :: L, 0, s, r, x, h, h2 => by
    have e : l = r := by simpa using h
    subst e
    have hs := (List.getElem?_eq_some_iff.mp h2).1
    show (l ++ L.flatten)[0 + s]? = some x
    rw [Nat.zero_add, List.getElem?_append_left hs]
    exact h2
  | l :: L, p + 1, s, r, x, h, h2 => by
    have ih := flat_get L p s r x h h2
    show (l ++ L.flatten)[(l ++ (L.take p).flatten).length + s]? = some x
    rw [List.length_append, Nat.add_assoc, List.getElem?_append_right (Nat.le_add_right _ _), Nat.add_sub_cancel_left]
    exact ih
theorem flat_len2 {α β : Type} (L : List (List α)) (M : List (List β)) (h : L.map List.length = M.map List.length) (p : Nat) : (L.take p).flatten.length = (M.take p).flatten.length := by
  rw [List.length_flatten, List.length_flatten, List.map_take, List.map_take, h]
def off (ex : List (List Int)) (p : Nat) : Nat := (ex.take p).flatten.length
theorem rowAt_get {ex : List (List Int)} {p : Nat} (h : p < ex.length) : ex[p]? = some (rowAt ex p) := by
  unfold rowAt
  rw [List.getD_eq_getElem?_getD, List.getElem?_eq_getElem h]; rfl
theorem off_succ {ex : List (List Int)} {p : Nat} (h : p < ex.length) : off ex (p + 1) = off ex p + (rowAt ex p).length := by
  unfold off
  rw [List.take_add_one, rowAt_get h]
  show (ex.take p ++ [rowAt ex p]).flatten.length = _
  rw [List.flatten_append, List.length_append]
  simp
theorem off_lt {ex : List (List Int)} {p s : Nat} (h : p < ex.length) (hs : s < (rowAt ex p).length) : off ex p + s < ex.flatten.length := by
  have := flat_get ex p s _ _ (rowAt_get h) (List.getElem?_eq_getElem hs)
  exact (List.getElem?_eq_some_iff.mp this).1
theorem rep0 (n : Nat) : (List.replicate ((n : Int)).toNat [D.int 0]).flatten = lI (List.replicate n 0) := by
  rw [Int.toNat_natCast]
  unfold lI
  rw [List.map_replicate]
  induction n with
  | zero => rfl
  | succ n ih => rw [List.replicate_succ, List.replicate_succ, List.flatten_cons, ih]; rfl
theorem ne_self_i (l : List Int) : (!PyData.eqv (.list (l.map PyData.int)) (.list (l.map PyData.int))) = false := by
  show (!PyData.eqvAll _ _) = false
  rw [eqv_ints, decide_eq_true rfl]; rfl
theorem eq_self_i (l : List Int) : PyData.eqv (.list (l.map PyData.int)) (.list (l.map PyData.int)) = true := by
  show PyData.eqvAll _ _ = true
  rw [eqv_ints, decide_eq_true rfl]
theorem ne_self_r (z : List (List Int)) : (!PyData.eqv (.list (z.map fun l => PyData.list (l.map PyData.int))) (.list (z.map fun l => PyData.list (l.map PyData.int)))) = false := by
  show (!PyData.eqvAll _ _) = false
  rw [eqv_lsts, decide_eq_true rfl]; rfl
theorem eq_self_r (z : List (List Int)) : PyData.eqv (.list (z.map fun l => PyData.list (l.map PyData.int))) (.list (z.map fun l => PyData.list (l.map PyData.int))) = true := by
  show PyData.eqvAll _ _ = true
  rw [eqv_lsts, decide_eq_true rfl]
theorem flat_take {ex : List (List Int)} {j : Nat} (h : j < ex.length) : (ex.take (j + 1)).flatten = (ex.take j).flatten ++ rowAt ex j := by
  rw [List.take_add_one, rowAt_get h]
  show (ex.take j ++ [rowAt ex j]).flatten = _
  rw [List.flatten_append]
  simp
/-! ### dealing, by numbers -/
/-- how often the exit e of d is gone by t visits, s next -/
def cnt (d s t e : Int) : Int := (t + (d - 1 - (e - s) % d)) / d
theorem quot {d q r x : Int} (hd : 0 < d) (h : x = r + d * q) (r0 : 0 ≤ r) (r1 : r < d) : x / d = q := by
  rw [h, Int.add_mul_ediv_left r q (by omega), Int.ediv_eq_zero_of_lt r0 r1, Int.zero_add]
theorem cnt_zero {d s e : Int} (hd : 0 < d) : cnt d s 0 e = 0 := by
  unfold cnt
  have h0 := Int.emod_nonneg (e - s) (show d ≠ 0 by omega)
  have h1 := Int.emod_lt_of_pos (e - s) hd
  rw [Int.zero_add]
  exact Int.ediv_eq_zero_of_lt (by omega) (by omega)
theorem cnt_great {d s t e k : Int} (hd : 0 < d) : cnt d s (t + k * d) e = cnt d s t e + k := by
  unfold cnt
  rw [show t + k * d + (d - 1 - (e - s) % d) = (t + (d - 1 - (e - s) % d)) + k * d by omega]
  exact Int.add_mul_ediv_right _ _ (by omega)
/-- one visit more -/
theorem cnt_succ {d s t e : Int} (hd : 0 < d) (e0 : 0 ≤ e) (e1 : e < d) : cnt d s (t + 1) e = cnt d s t e + (if (s + t) % d = e then 1 else 0) := by
  unfold cnt
  have a0 := Int.emod_nonneg (e - s) (show d ≠ 0 by omega)
  have a1 := Int.emod_lt_of_pos (e - s) hd
  have ae := Int.mul_ediv_add_emod (e - s) d
  have m0 := Int.emod_nonneg (s + t) (show d ≠ 0 by omega)
  have me := Int.mul_ediv_add_emod (s + t) d
  generalize (e - s) % d = a at *
  generalize (e - s) / d = k2 at *
  generalize hm : (s + t) % d = m at *
  generalize (s + t) / d = k at *
  by_cases h : m = e
  · rw [if_pos h]
    have z1 : (t + (d - 1 - a)) / d = k + k2 := quot (r := d - 1) hd (by rw [Int.mul_add]; omega) (by omega) (by omega)
    have z2 : (t + 1 + (d - 1 - a)) / d = k + k2 + 1 := quot (r := 0) hd (by rw [Int.mul_add, Int.mul_add, Int.mul_one]; omega) (by omega) (by omega)
    rw [z1, z2]
  · rw [if_neg h]
    have r0 := Int.emod_nonneg (t + (d - 1 - a)) (show d ≠ 0 by omega)
    have r1 := Int.emod_lt_of_pos (t + (d - 1 - a)) hd
    have re := Int.mul_ediv_add_emod (t + (d - 1 - a)) d
    generalize (t + (d - 1 - a)) % d = r at *
    generalize (t + (d - 1 - a)) / d = q at *
    have hr : r ≠ d - 1 := fun z => h (by
      have e2 : s + t = e + d * (q - k2) := by rw [Int.mul_sub]; omega
      rw [e2, Int.add_mul_emod_self_left, Int.emod_eq_of_lt e0 e1] at hm
      exact hm.symm)
    rw [Int.add_zero]
    exact quot (r := r + 1) hd (by omega) (by omega) (by omega)
theorem cnt_nonneg {d s t e : Int} (hd : 0 < d) (ht : 0 ≤ t) : 0 ≤ cnt d s t e := by
  unfold cnt
  have h0 := Int.emod_nonneg (e - s) (show d ≠ 0 by omega)
  have h1 := Int.emod_lt_of_pos (e - s) hd
  exact Int.ediv_nonneg (by omega) (by omega)
theorem cnt_le {d s e : Int} (hd : 0 < d) (e0 : 0 ≤ e) (e1 : e < d) : ∀ t : Nat, cnt d s t e ≤ t
  | 0 => by rw [show ((0 : Nat) : Int) = 0 from rfl, cnt_zero hd]; exact Int.le_refl _
  | t + 1 => by
    have ih := cnt_le (s := s) hd e0 e1 t
    rw [show ((t + 1 : Nat) : Int) = (t : Int) + 1 by omega, cnt_succ hd e0 e1]
    split <;> omega
/-- visits, and then others -/
theorem cnt_add {d s t e : Int} (hd : 0 < d) (e0 : 0 ≤ e) (e1 : e < d) : ∀ u : Nat, cnt d s (t + u) e = cnt d s t e + cnt d ((s + t) % d) u e
  | 0 => by rw [show ((0 : Nat) : Int) = 0 from rfl, cnt_zero hd, Int.add_zero, Int.add_zero]
  | u + 1 => by
    have ih := cnt_add (s := s) (t := t) hd e0 e1 u
    rw [show ((u + 1 : Nat) : Int) = (u : Int) + 1 by omega, show t + ((u : Int) + 1) = (t + u) + 1 by omega, cnt_succ hd e0 e1, cnt_succ hd e0 e1, ih, Int.emod_add_emod, Int.add_assoc s t u]
    omega
theorem cnt_mono {d s t e : Int} (hd : 0 < d) (u : Int) (hu : 0 ≤ u) : cnt d s t e ≤ cnt d s (t + u) e := by
  unfold cnt
  exact Int.ediv_le_ediv hd (by omega)
/-! ### what is gone, where it stands behind -/
def nth (l : List Int) (p : Nat) : Int := l.getD p 0
def cntR (row : List Int) (s t : Int) : List Int := (List.range row.length).map fun e : Nat => cnt row.length s t e
def gon (ex : List (List Int)) (st vs : List Int) : List (List Int) := (List.range ex.length).map fun p => cntR (rowAt ex p) (nth st p) (nth vs p)
def beh (ex : List (List Int)) (st vs : List Int) : List Int := (List.range ex.length).map fun p => (nth st p + nth vs p) % ((rowAt ex p).length : Int)
theorem gon_len (ex : List (List Int)) (st vs : List Int) : (gon ex st vs).length = ex.length := by unfold gon; rw [List.length_map, List.length_range]
theorem beh_len (ex : List (List Int)) (st vs : List Int) : (beh ex st vs).length = ex.length := by unfold beh; rw [List.length_map, List.length_range]
theorem cntR_len (row : List Int) (s t : Int) : (cntR row s t).length = row.length := by unfold cntR; rw [List.length_map, List.length_range]
theorem gon_at {ex : List (List Int)} {st vs : List Int} {p : Nat} (h : p < ex.length) : rowAt (gon ex st vs) p = cntR (rowAt ex p) (nth st p) (nth vs p) := by
  unfold gon
  show ((List.range ex.length).map _).getD p [] = _
  rw [List.getD_eq_getElem?_getD, List.getElem?_map, List.getElem?_range h]; rfl
theorem beh_at {ex : List (List Int)} {st vs : List Int} {p : Nat} (h : p < ex.length) : nth (beh ex st vs) p = (nth st p + nth vs p) % ((rowAt ex p).length : Int) := by
  unfold beh nth
  rw [List.getD_eq_getElem?_getD, List.getElem?_map, List.getElem?_range h]; rfl
/-- numbers, one a point -/
structure Nums (n : Nat) (l : List Int) : Prop where
  len : l.length = n
  num : ∀ v ∈ l, 0 ≤ v ∧ v < 10 ^ 30
theorem Nums.at {n : Nat} {l : List Int} (h : Nums n l) {p : Nat} (hp : p < n) : l[p]? = some (nth l p) ∧ 0 ≤ nth l p ∧ nth l p < 10 ^ 30 := by
  have hl : p < l.length := by rw [h.len]; exact hp
  have e : l[p]? = some (nth l p) := by unfold nth; rw [List.getD_eq_getElem?_getD, List.getElem?_eq_getElem hl]; rfl
  exact ⟨e, h.num _ (List.mem_of_getElem? e)⟩
theorem ValidS.at {ex : List (List Int)} {st : List Int} (h : ValidS ex st) {p : Nat} (hp : p < ex.length) : st[p]? = some (nth st p) ∧ 0 ≤ nth st p ∧ nth st p < (rowAt ex p).length := by
  have hl : p < st.length := by rw [h.1]; exact hp
  have e : st[p]? = some (nth st p) := by unfold nth; rw [List.getD_eq_getElem?_getD, List.getElem?_eq_getElem hl]; rfl
  exact ⟨e, h.2 p _ _ e (rowAt_get hp)⟩
theorem beh_valid {e : Int} {ex : List (List Int)} (v : Valid e ex) (st vs : List Int) : ValidS ex (beh ex st vs) := by
  refine ⟨beh_len _ _ _, fun i s l h1 h2 => ?_⟩
  have hi : i < ex.length := (List.getElem?_eq_some_iff.mp h2).1
  have el : rowAt ex i = l := by have z := rowAt_get hi; rw [h2] at z; exact (Option.some.inj z).symm
  have r1 := v.r1 l (List.mem_of_getElem? h2)
  unfold beh at h1
  rw [List.getElem?_map, List.getElem?_range hi] at h1
  cases h1
  show 0 ≤ (nth st i + nth vs i) % ((rowAt ex i).length : Int) ∧ (nth st i + nth vs i) % ((rowAt ex i).length : Int) < (l.length : Int)
  rw [el]
  exact ⟨Int.emod_nonneg _ (by omega), Int.emod_lt_of_pos _ (by omega)⟩
/-- the deals, as the program lists them -/
def dealR (p : Nat) (s : Int) (row : List Int) : List D := (List.range row.length).map fun e : Nat => D.tup [.int (p : Int), .int ((row.length : Int) - 1 - ((e : Int) - s) % (row.length : Int)), .int (row.length : Int), .int (nth row e)]
def deals (ex : List (List Int)) (st : List Int) : List D := ((List.range ex.length).map fun p => dealR p (nth st p) (rowAt ex p)).flatten
theorem deals_mem {e : Int} {ex : List (List Int)} (v : Valid e ex) {st : List Int} {d : D} (h : d ∈ deals ex st) : ∃ p k, p < ex.length ∧ k < (rowAt ex p).length ∧ d = D.tup [.int (p : Int), .int (((rowAt ex p).length : Int) - 1 - ((k : Int) - nth st p) % ((rowAt ex p).length : Int)), .int ((rowAt ex p).length : Int), .int (nth (rowAt ex p) k)] := by
  unfold deals at h
  obtain ⟨r, hr, hd⟩ := List.mem_flatten.mp h
  obtain ⟨p, hp, rfl⟩ := List.mem_map.mp hr
  obtain ⟨k, hk, rfl⟩ := List.mem_map.mp hd
  exact ⟨p, k, List.mem_range.mp hp, List.mem_range.mp hk, rfl⟩
def goneD (vs : List Int) : D → D
  | .tup [.int p, .int a, .int m, _] => .int ((nth vs p.toNat + a) / m)
  | _ => .non
theorem deals_gone (ex : List (List Int)) (st vs : List Int) : (deals ex st).map (goneD vs) = lI (gon ex st vs).flatten := by
  unfold deals gon lI
  rw [List.map_flatten, List.map_flatten, List.map_map, List.map_map]
  congr 1
  refine List.map_congr_left fun p _ => ?_
  show (dealR p (nth st p) (rowAt ex p)).map (goneD vs) = (cntR (rowAt ex p) (nth st p) (nth vs p)).map D.int
  unfold dealR cntR
  rw [List.map_map, List.map_map]
  refine List.map_congr_left fun k _ => ?_
  show D.int ((nth vs ((p : Int)).toNat + _) / _) = D.int (cnt _ _ _ _)
  rw [Int.toNat_natCast]; rfl
theorem deals_len (ex : List (List Int)) (st : List Int) : (deals ex st).length = ex.flatten.length := by
  unfold deals
  rw [List.length_flatten, List.length_flatten, List.map_map]
  congr 1
  apply List.ext_getElem?
  intro i
  rw [List.getElem?_map, List.getElem?_map]
  by_cases hi : i < ex.length
  · rw [List.getElem?_range hi, rowAt_get hi]
    show some (dealR i (nth st i) (rowAt ex i)).length = some _
    unfold dealR
    rw [List.length_map, List.length_range]
  · rw [List.getElem?_eq_none (l := List.range ex.length) (by simpa using hi), List.getElem?_eq_none (l := ex) (by omega)]; rfl
end K26

namespace K26
open PySem PySem.Spec PyProof.Rows L2 DD
theorem nth_get {l : List Int} {j : Nat} (h : j < l.length) : l[j]? = some (nth l j) := by
  unfold nth; rw [List.getD_eq_getElem?_getD, List.getElem?_eq_getElem h]; rfl
theorem nth_of {l : List Int} {j : Nat} {t : Int} (h : l[j]? = some t) : nth l j = t := by
  unfold nth; rw [List.getD_eq_getElem?_getD, h]; rfl
theorem nth_mem {l : List Int} {j : Nat} (h : j < l.length) : nth l j ∈ l := List.mem_of_getElem? (nth_get h)
theorem ixN_in {n : Nat} {i : Int} (h0 : 0 ≤ i) (h1 : i < n) : ixN n i = some i.toNat := by
  unfold ixN
  rw [if_pos h0, if_pos h1]
theorem nth_set (l : List Int) (j i : Nat) (x : Int) : nth (l.set j x) i = if j = i ∧ j < l.length then x else nth l i := by
  unfold nth
  rw [List.getD_eq_getElem?_getD, List.getD_eq_getElem?_getD, List.getElem?_set]
  by_cases h : j = i
  · subst h
    by_cases h2 : j < l.length
    · rw [if_pos rfl, if_pos h2, if_pos ⟨rfl, h2⟩]; rfl
    · rw [if_pos rfl, if_neg h2, if_neg (fun z => h2 z.2), List.getElem?_eq_none (by omega)]
  · rw [if_neg h, if_neg (fun z => h z.1)]
theorem list_ext {n : Nat} {a b : List Int} (ha : a.length = n) (hb : b.length = n) (h : ∀ i, i < n → nth a i = nth b i) : a = b := by
  apply List.ext_getElem?
  intro i
  by_cases hi : i < n
  · rw [nth_get (by omega), nth_get (by omega), h i hi]
  · rw [List.getElem?_eq_none (by omega), List.getElem?_eq_none (by omega)]
/-! ### the flow without a ring of last exits is the least one -/
def sumN (f : Nat → Int) : Nat → Int
  | 0 => 0
  | n + 1 => sumN f n + f n
theorem sumN_add (f g : Nat → Int) : ∀ n, sumN (fun i => f i + g i) n = sumN f n + sumN g n
  | 0 => rfl
  | n + 1 => by
    show sumN (fun i => f i + g i) n + (f n + g n) = sumN f n + f n + (sumN g n + g n)
    rw [sumN_add f g n]; omega
theorem sumN_congr {f g : Nat → Int} : ∀ n, (∀ i, i < n → f i = g i) → sumN f n = sumN g n
  | 0, _ => rfl
  | n + 1, h => by
    show sumN f n + f n = sumN g n + g n
    rw [sumN_congr n fun i hi => h i (by omega), h n (by omega)]
theorem sumN_le {f g : Nat → Int} : ∀ n, (∀ i, i < n → f i ≤ g i) → sumN f n ≤ sumN g n
  | 0, _ => Int.le_refl _
  | n + 1, h => by
    have a := sumN_le n fun i hi => h i (by omega)
    have b := h n (by omega)
    show sumN f n + f n ≤ sumN g n + g n
    omega
theorem sumN_zero : ∀ n, sumN (fun _ => 0) n = 0
  | 0 => rfl
  | n + 1 => by
    show sumN (fun _ => 0) n + 0 = 0
    rw [sumN_zero n]; rfl
theorem sumN_sub (f g : Nat → Int) : ∀ n, sumN (fun i => f i - g i) n = sumN f n - sumN g n
  | 0 => rfl
  | n + 1 => by
    show sumN (fun i => f i - g i) n + (f n - g n) = sumN f n + f n - (sumN g n + g n)
    rw [sumN_sub f g n]; omega
theorem sumN_nn {f : Nat → Int} {n : Nat} (h : ∀ i, i < n → 0 ≤ f i) : 0 ≤ sumN f n := by
  have := sumN_le (f := fun _ => 0) n h
  rw [sumN_zero] at this
  exact this
theorem sumN_each {f : Nat → Int} : ∀ n, (∀ i, i < n → 0 ≤ f i) → sumN f n ≤ 0 → ∀ i, i < n → f i = 0
  | 0, _, _, i, hi => by omega
  | n + 1, h, hs, i, hi => by
    have hs : sumN f n + f n ≤ 0 := hs
    have a := sumN_nn (f := f) (n := n) fun i hi => h i (by omega)
    have b := h n (by omega)
    by_cases q : i = n
    · subst q; omega
    · exact sumN_each n (fun i hi => h i (by omega)) (by omega) i (by omega)
theorem sumN_comm (f : Nat → Nat → Int) (m : Nat) : ∀ n, sumN (fun i => sumN (fun j => f i j) m) n = sumN (fun j => sumN (fun i => f i j) n) m
  | 0 => by
    show 0 = sumN (fun _ => 0) m
    rw [sumN_zero]
  | n + 1 => by
    show sumN (fun i => sumN (fun j => f i j) m) n + sumN (fun j => f n j) m = sumN (fun j => sumN (fun i => f i j) n + f n j) m
    rw [sumN_comm f m n, sumN_add]
/-- the one number that is told -/
theorem sumN_one {k : Int} {x : Int} {P : Nat → Prop} [DecidablePred P] : ∀ n, sumN (fun q => if P q then (if k = (q : Int) then x else 0) else 0) n = if 0 ≤ k ∧ k < n ∧ P k.toNat then x else 0
  | 0 => by rw [if_neg (by omega)]; rfl
  | n + 1 => by
    show sumN (fun q => if P q then (if k = (q : Int) then x else 0) else 0) n + (if P n then (if k = (n : Int) then x else 0) else 0) = _
    rw [sumN_one n]
    by_cases q : k = (n : Int)
    · subst q
      rw [if_neg (fun z => by omega), Int.zero_add, if_pos rfl, Int.toNat_natCast]
      by_cases p : P n
      · rw [if_pos p, if_pos ⟨by omega, by omega, p⟩]
      · rw [if_neg p, if_neg (fun z => p z.2.2)]
    · rw [if_neg q, ite_self, Int.add_zero]
      by_cases p : 0 ≤ k ∧ k < (n : Int) ∧ P k.toNat
      · rw [if_pos p, if_pos ⟨p.1, by omega, p.2.2⟩]
      · rw [if_neg p, if_neg (fun z => p ⟨z.1, by omega, z.2.2⟩)]
theorem cnt_up {d s t u e : Int} (hd : 0 < d) (h : t ≤ u) : cnt d s t e ≤ cnt d s u e := by
  unfold cnt
  exact Int.ediv_le_ediv hd (by omega)
theorem cnt_sum {d : Nat} {s : Int} (hd : 0 < d) : ∀ t : Nat, sumN (fun e => cnt d s t e) d = t
  | 0 => by
    rw [sumN_congr (f := fun e : Nat => cnt (d : Int) s ((0 : Nat) : Int) e) (g := fun _ => 0) d fun e _ => cnt_zero (by omega), sumN_zero]; rfl
  | t + 1 => by
    have m0 := Int.emod_nonneg (s + t) (show (d : Int) ≠ 0 by omega)
    have m1 := Int.emod_lt_of_pos (s + t) (show (0 : Int) < d by omega)
    rw [sumN_congr (g := fun e => cnt d s t e + (if (s + t) % d = e then 1 else 0)) d fun e he => by
      have := cnt_succ (d := d) (s := s) (t := t) (e := e) (by omega) (by omega) (by omega)
      rw [← this]; congr 1, sumN_add, cnt_sum hd t]
    have := sumN_one (k := (s + t) % d) (x := 1) (P := fun _ => True) d
    rw [if_pos ⟨m0, m1, trivial⟩] at this
    rw [sumN_congr (g := fun q => if True then (if (s + (t : Int)) % d = (q : Int) then 1 else 0) else 0) d fun q _ => (if_pos trivial).symm, this]
    omega
/-- a net by its numbers: how many exits, where they lead, the next ones, how many begin -/
structure Nt where
  n : Nat
  d : Nat → Nat
  tg : Nat → Nat → Int
  s : Nat → Int
  b : Nat → Int
  hd : ∀ p, p < n → 0 < d p
/-- how often trains come from p to q by these visits -/
def Nt.go (N : Nt) (v : Nat → Int) (p q : Nat) : Int := sumN (fun e => if N.tg p e = (q : Int) then cnt (N.d p) (N.s p) (v p) e else 0) (N.d p)
structure Nt.Flow (N : Nt) (v : Nat → Int) : Prop where
  nn : ∀ p, p < N.n → 0 ≤ v p
  eq : ∀ q, q < N.n → v q = N.b q + sumN (fun p => N.go v p q) N.n
/-- the last exit of a point that was visited -/
def Nt.last (N : Nt) (v : Nat → Int) (p : Nat) : Nat := ((N.s p + (v p - 1)) % (N.d p : Int)).toNat
/-- last exits of visited points make no ring: there is a rank that falls along them -/
def Nt.NoRing (N : Nt) (v : Nat → Int) : Prop := ∃ rk : Nat → Nat, ∀ p, p < N.n → 0 < v p → ∀ q : Nat, q < N.n → 0 < v q → N.tg p (N.last v p) = (q : Int) → rk q < rk p
theorem Nt.least (N : Nt) {v u : Nat → Int} (hv : N.Flow v) (hu : N.Flow u) (hr : N.NoRing v) : ∀ p, p < N.n → v p ≤ u p := by
  let D : Nat → Nat → Int := fun p e => cnt (N.d p) (N.s p) (v p) e - cnt (N.d p) (N.s p) (u p) e
  let A : Nat → Prop := fun p => u p < v p
  have dA : ∀ p, p < N.n → A p → ∀ e, 0 ≤ D p e := fun p hp h e => by
    have := cnt_up (d := N.d p) (s := N.s p) (e := e) (by have := N.hd p hp; omega) (show u p ≤ v p from Int.le_of_lt h)
    show 0 ≤ cnt _ _ _ _ - cnt _ _ _ _
    omega
  have dN : ∀ p, p < N.n → ¬ A p → ∀ e, D p e ≤ 0 := fun p hp h e => by
    have h : ¬ u p < v p := h
    have := cnt_up (d := N.d p) (s := N.s p) (e := e) (by have := N.hd p hp; omega) (show v p ≤ u p by omega)
    show cnt _ _ _ _ - cnt _ _ _ _ ≤ 0
    omega
  have dS : ∀ p, p < N.n → sumN (D p) (N.d p) = v p - u p := fun p hp => by
    have a := cnt_sum (s := N.s p) (N.hd p hp) (v p).toNat
    have b := cnt_sum (s := N.s p) (N.hd p hp) (u p).toNat
    rw [Int.toNat_of_nonneg (hv.nn p hp)] at a
    rw [Int.toNat_of_nonneg (hu.nn p hp)] at b
    show sumN (fun e => cnt _ _ _ _ - cnt _ _ _ _) _ = _
    rw [sumN_sub, a, b]
  -- into A
  have key : sumN (fun q => if A q then v q - u q else 0) N.n = sumN (fun p => sumN (fun e => if 0 ≤ N.tg p e ∧ N.tg p e < (N.n : Int) ∧ A (N.tg p e).toNat then D p e else 0) (N.d p)) N.n := by
    have e1 : ∀ q, q < N.n → (if A q then v q - u q else 0) = sumN (fun p => sumN (fun e => if A q then (if N.tg p e = (q : Int) then D p e else 0) else 0) (N.d p)) N.n := fun q hq => by
      by_cases h : A q
      · have e0 : v q - u q = sumN (fun p => N.go v p q) N.n - sumN (fun p => N.go u p q) N.n := by
          have := hv.eq q hq
          have := hu.eq q hq
          omega
        rw [if_pos h, e0, ← sumN_sub]
        refine sumN_congr _ fun p _ => ?_
        show sumN _ _ - sumN _ _ = _
        rw [← sumN_sub]
        refine sumN_congr _ fun e _ => ?_
        show (if N.tg p e = (q : Int) then _ else 0) - (if N.tg p e = (q : Int) then _ else 0) = _
        rw [if_pos h]
        by_cases z : N.tg p e = (q : Int)
        · rw [if_pos z, if_pos z, if_pos z]
        · rw [if_neg z, if_neg z, if_neg z]; rfl
      · rw [if_neg h]
        symm
        rw [sumN_congr (g := fun _ => 0) N.n fun p _ => by
          rw [sumN_congr (g := fun _ => 0) (N.d p) fun e _ => if_neg h, sumN_zero], sumN_zero]
    rw [sumN_congr N.n e1, sumN_comm]
    refine sumN_congr _ fun p _ => ?_
    rw [sumN_comm]
    refine sumN_congr _ fun e _ => ?_
    exact sumN_one N.n
  -- out of A nothing more goes
  let O : Nat → Nat → Int := fun p e => if 0 ≤ N.tg p e ∧ N.tg p e < (N.n : Int) ∧ A (N.tg p e).toNat then 0 else D p e
  have up : ∀ p, p < N.n → sumN (fun e => if 0 ≤ N.tg p e ∧ N.tg p e < (N.n : Int) ∧ A (N.tg p e).toNat then D p e else 0) (N.d p) ≤ (if A p then v p - u p else 0) - (if A p then sumN (O p) (N.d p) else 0) := fun p hp => by
    by_cases h : A p
    · rw [if_pos h, if_pos h, ← dS p hp, ← sumN_sub]
      refine sumN_le _ fun e _ => ?_
      show _ ≤ D p e - (if _ then 0 else D p e)
      split <;> omega
    · rw [if_neg h, if_neg h]
      have := sumN_le (f := fun e => if 0 ≤ N.tg p e ∧ N.tg p e < (N.n : Int) ∧ A (N.tg p e).toNat then D p e else 0) (g := fun _ => 0) (N.d p) fun e _ => by
        have := dN p hp h e
        show (if _ then D p e else 0) ≤ 0
        split <;> omega
      rw [sumN_zero] at this
      omega
  have tot := sumN_le N.n up
  rw [← key, sumN_sub] at tot
  have z1 : sumN (fun p => if A p then sumN (O p) (N.d p) else 0) N.n ≤ 0 := by omega
  have oN : ∀ p, p < N.n → A p → ∀ e, 0 ≤ O p e := fun p hp h e => by
    have := dA p hp h e
    show 0 ≤ (if _ then 0 else D p e)
    split <;> omega
  have z2 := sumN_each N.n (f := fun p => if A p then sumN (O p) (N.d p) else 0) (fun p hp => by
    show 0 ≤ (if A p then sumN (O p) (N.d p) else 0)
    by_cases h : A p
    · rw [if_pos h]; exact sumN_nn fun e _ => oN p hp h e
    · rw [if_neg h]; exact Int.le_refl _) z1
  have z3 : ∀ p, p < N.n → A p → ∀ e, e < N.d p → O p e = 0 := fun p hp h e he => by
    have := z2 p hp
    rw [if_pos h] at this
    exact sumN_each (N.d p) (fun e _ => oN p hp h e) (by rw [this]; exact Int.le_refl _) e he
  -- last exits lead on in A
  have on : ∀ p, p < N.n → A p → ∃ q : Nat, q < N.n ∧ A q ∧ N.tg p (N.last v p) = (q : Int) := fun p hp h => by
    have h' : u p < v p := h
    have h0 := hu.nn p hp
    have hd := N.hd p hp
    have m0 := Int.emod_nonneg (N.s p + (v p - 1)) (show (N.d p : Int) ≠ 0 by omega)
    have m1 := Int.emod_lt_of_pos (N.s p + (v p - 1)) (show (0 : Int) < N.d p by omega)
    have hl : ((N.last v p : Nat) : Int) = (N.s p + (v p - 1)) % (N.d p : Int) := Int.toNat_of_nonneg m0
    have c1 := cnt_succ (d := N.d p) (s := N.s p) (t := v p - 1) (e := ((N.last v p : Nat) : Int)) (by omega) (by omega) (by omega)
    rw [if_pos hl.symm, show v p - 1 + 1 = v p by omega] at c1
    have c2 := cnt_up (d := N.d p) (s := N.s p) (e := ((N.last v p : Nat) : Int)) (by omega) (show u p ≤ v p - 1 by omega)
    have hD : 0 < D p (N.last v p) := by
      show 0 < cnt _ _ _ _ - cnt _ _ _ _
      omega
    have hO := z3 p hp h (N.last v p) (by omega)
    have hO : (if 0 ≤ N.tg p (N.last v p) ∧ N.tg p (N.last v p) < (N.n : Int) ∧ A (N.tg p (N.last v p)).toNat then 0 else D p (N.last v p)) = 0 := hO
    by_cases z : 0 ≤ N.tg p (N.last v p) ∧ N.tg p (N.last v p) < (N.n : Int) ∧ A (N.tg p (N.last v p)).toNat
    · exact ⟨(N.tg p (N.last v p)).toNat, by omega, z.2.2, (Int.toNat_of_nonneg z.1).symm⟩
    · rw [if_neg z] at hO; omega
  obtain ⟨rk, hrk⟩ := hr
  have no : ∀ r p, p < N.n → A p → rk p = r → False := fun r => by
    induction r using Nat.strongRecOn with
    | _ r ih =>
      intro p hp h e
      obtain ⟨q, hq, hA, ht⟩ := on p hp h
      have h' : u p < v p := h
      have hA' : u q < v q := hA
      have a := hu.nn p hp
      have b := hu.nn q hq
      have := hrk p hp (by omega) q hq (by omega) ht
      exact ih (rk q) (by omega) q hq hA rfl
  intro p hp
  by_cases h : u p < v p
  · exact (no _ p hp h rfl).elim
  · omega
theorem Nt.uniq (N : Nt) {v u : Nat → Int} (hv : N.Flow v) (hu : N.Flow u) (rv : N.NoRing v) (ru : N.NoRing u) : ∀ p, p < N.n → v p = u p := fun p hp => by
  have a := N.least hv hu rv p hp
  have b := N.least hu hv ru p hp
  omega
/-! ### trains moved in any sequence -/
structure Cr where
  w : Nat → Int
  v : Nat → Int
  lt : Nat → Nat
  t : Nat
def upN {α : Type} (f : Nat → α) (p : Nat) (x : α) : Nat → α := fun i => if i = p then x else f i
theorem upN_self {α : Type} {f : Nat → α} {p : Nat} {x : α} : upN f p x p = x := if_pos rfl
theorem upN_ne {α : Type} {f : Nat → α} {p i : Nat} {x : α} (h : i ≠ p) : upN f p x i = f i := if_neg h
/-- where the next train from p goes -/
def Nt.to (N : Nt) (v : Nat → Int) (p : Nat) : Int := N.tg p ((N.s p + v p) % (N.d p : Int)).toNat
/-- one train moved from p -/
def Nt.mv (N : Nt) (c : Cr) (p : Nat) : Cr where
  w := fun q => c.w q - (if q = p then 1 else 0) + (if N.to c.v p = (q : Int) then 1 else 0)
  v := upN c.v p (c.v p + 1)
  lt := upN c.lt p (c.t + 1)
  t := c.t + 1
def Nt.new (N : Nt) : Cr := ⟨N.b, fun _ => 0, fun _ => 0, 0⟩
/-- a sequence of points that can be moved, one behind the other -/
def Nt.Can (N : Nt) : Cr → List Nat → Prop
  | _, [] => True
  | c, p :: ps => (p < N.n ∧ 0 < c.w p) ∧ N.Can (N.mv c p) ps
structure Nt.Inv (N : Nt) (c : Cr) : Prop where
  w0 : ∀ q, q < N.n → 0 ≤ c.w q
  v0 : ∀ q, q < N.n → 0 ≤ c.v q
  eq : ∀ q, q < N.n → c.w q = N.b q + sumN (fun p => N.go c.v p q) N.n - c.v q
  lt : ∀ q, q < N.n → c.lt q ≤ c.t
  on : ∀ p, p < N.n → 0 < c.v p → ∀ q : Nat, q < N.n → N.tg p (N.last c.v p) = (q : Int) → c.lt p < c.lt q ∨ 0 < c.w q
theorem Nt.inv_new (N : Nt) (hb : ∀ p, p < N.n → 0 ≤ N.b p) : N.Inv N.new := by
  refine ⟨hb, fun _ _ => Int.le_refl _, fun q hq => ?_, fun _ _ => Nat.le_refl _, fun p _ h => absurd (show (0 : Int) < 0 from h) (by omega)⟩
  show N.b q = N.b q + sumN (fun p => N.go (fun _ => 0) p q) N.n - 0
  rw [sumN_congr (g := fun _ => 0) N.n fun p hp => by
    show sumN _ _ = 0
    have hd := N.hd p hp
    rw [sumN_congr (g := fun _ => 0) (N.d p) fun e _ => (by
      show (if N.tg p e = (q : Int) then cnt (N.d p) (N.s p) 0 e else 0) = 0
      rw [cnt_zero (by omega)]
      exact ite_self _), sumN_zero]]
  rw [sumN_zero]; omega
theorem sumN_at {f g : Nat → Int} {k : Nat} {x : Int} : ∀ n, k < n → (∀ i, i < n → i ≠ k → f i = g i) → f k = g k + x → sumN f n = sumN g n + x
  | 0, h, _, _ => by omega
  | n + 1, h, h1, h2 => by
    show sumN f n + f n = sumN g n + g n + x
    by_cases q : k = n
    · subst q
      rw [sumN_congr k fun i hi => h1 i (by omega) (by omega), h2]; omega
    · rw [sumN_at n (by omega) (fun i hi => h1 i (by omega)) h2, h1 n (by omega) (fun z => q z.symm)]; omega
theorem Nt.inv_mv (N : Nt) {c : Cr} {p : Nat} (I : N.Inv c) (hp : p < N.n) (hw : 0 < c.w p) : N.Inv (N.mv c p) := by
  have hd := N.hd p hp
  have m0 := Int.emod_nonneg (N.s p + c.v p) (show (N.d p : Int) ≠ 0 by omega)
  have m1 := Int.emod_lt_of_pos (N.s p + c.v p) (show (0 : Int) < N.d p by omega)
  have el : N.last (upN c.v p (c.v p + 1)) p = ((N.s p + c.v p) % (N.d p : Int)).toNat := by
    unfold Nt.last
    rw [upN_self, show c.v p + 1 - 1 = c.v p by omega]
  refine ⟨fun q hq => ?_, fun q hq => ?_, fun q hq => ?_, fun q hq => ?_, fun p' hp' hv q hq ht => ?_⟩
  · show 0 ≤ c.w q - (if q = p then 1 else 0) + (if N.to c.v p = (q : Int) then 1 else 0)
    have := I.w0 q hq
    by_cases e : q = p
    · subst e
      rw [if_pos rfl]
      split <;> omega
    · rw [if_neg e]
      split <;> omega
  · show 0 ≤ upN c.v p (c.v p + 1) q
    have := I.v0 q hq
    by_cases e : q = p
    · subst e
      rw [upN_self]; omega
    · rw [upN_ne e]; exact this
  · show c.w q - (if q = p then 1 else 0) + (if N.to c.v p = (q : Int) then 1 else 0) = N.b q + sumN (fun p' => N.go (upN c.v p (c.v p + 1)) p' q) N.n - upN c.v p (c.v p + 1) q
    have hs := sumN_at (f := fun p' => N.go (upN c.v p (c.v p + 1)) p' q) (g := fun p' => N.go c.v p' q) (k := p) (x := if N.to c.v p = (q : Int) then 1 else 0) N.n hp (fun i _ hi => by
      show sumN _ _ = sumN _ _
      refine sumN_congr _ fun e _ => ?_
      rw [upN_ne hi]) (by
      show sumN (fun e => if N.tg p e = (q : Int) then cnt (N.d p) (N.s p) (upN c.v p (c.v p + 1) p) e else 0) (N.d p) = sumN (fun e => if N.tg p e = (q : Int) then cnt (N.d p) (N.s p) (c.v p) e else 0) (N.d p) + _
      rw [upN_self]
      refine sumN_at (k := ((N.s p + c.v p) % (N.d p : Int)).toNat) (N.d p) (by omega) (fun e he hne => ?_) ?_
      · have c1 := cnt_succ (d := (N.d p : Int)) (s := N.s p) (t := c.v p) (e := (e : Int)) (by omega) (by omega) (by omega)
        rw [if_neg (show ¬ (N.s p + c.v p) % (N.d p : Int) = (e : Int) from fun z => hne (by omega)), Int.add_zero] at c1
        rw [c1]
      · have c1 := cnt_succ (d := (N.d p : Int)) (s := N.s p) (t := c.v p) (e := ((((N.s p + c.v p) % (N.d p : Int)).toNat : Nat) : Int)) (by omega) (by omega) (by omega)
        rw [if_pos (show (N.s p + c.v p) % (N.d p : Int) = ((((N.s p + c.v p) % (N.d p : Int)).toNat : Nat) : Int) by omega)] at c1
        rw [c1]
        show (if N.tg p _ = (q : Int) then _ else 0) = (if N.tg p _ = (q : Int) then _ else 0) + (if N.tg p _ = (q : Int) then 1 else 0)
        split <;> omega)
    have h1 := I.eq q hq
    by_cases e : q = p
    · subst e
      rw [if_pos rfl, upN_self, hs, h1]; omega
    · rw [if_neg e, upN_ne e, hs, h1]; omega
  · show upN c.lt p (c.t + 1) q ≤ c.t + 1
    have := I.lt q hq
    by_cases e : q = p
    · subst e
      rw [upN_self]; exact Nat.le_refl _
    · rw [upN_ne e]; omega
  · have ht : N.tg p' (N.last (upN c.v p (c.v p + 1)) p') = (q : Int) := ht
    have hv : 0 < upN c.v p (c.v p + 1) p' := hv
    show upN c.lt p (c.t + 1) p' < upN c.lt p (c.t + 1) q ∨ 0 < c.w q - (if q = p then 1 else 0) + (if N.to c.v p = (q : Int) then 1 else 0)
    have hwq := I.w0 q hq
    by_cases e : p' = p
    · subst e
      rw [el] at ht
      right
      have ht : N.to c.v p' = (q : Int) := ht
      rw [if_pos ht]
      by_cases e2 : q = p'
      · subst e2
        rw [if_pos rfl]; omega
      · rw [if_neg e2]; omega
    · have hl : N.last (upN c.v p (c.v p + 1)) p' = N.last c.v p' := by
        unfold Nt.last
        rw [upN_ne e]
      rw [hl] at ht
      rw [upN_ne e] at hv ⊢
      have hlt := I.lt p' hp'
      by_cases e2 : q = p
      · subst e2
        left
        rw [upN_self]; omega
      · rw [upN_ne e2, if_neg e2]
        rcases I.on p' hp' hv q hq ht with z | z
        · exact .inl z
        · right
          split <;> omega
theorem Nt.inv_run (N : Nt) : ∀ (ps : List Nat) (c : Cr), N.Inv c → N.Can c ps → N.Inv (ps.foldl N.mv c)
  | [], c, I, _ => I
  | p :: ps, c, I, ⟨⟨hp, hw⟩, k⟩ => Nt.inv_run N ps (N.mv c p) (N.inv_mv I hp hw) k
theorem Nt.Inv.flow {N : Nt} {c : Cr} (I : N.Inv c) (h : ∀ q, q < N.n → c.w q = 0) : N.Flow c.v ∧ N.NoRing c.v := by
  refine ⟨⟨I.v0, fun q hq => ?_⟩, fun p => c.t - c.lt p, fun p hp hv q hq _ ht => ?_⟩
  · have a := I.eq q hq
    have b := h q hq
    omega
  · have a := I.lt q hq
    have b := h q hq
    rcases I.on p hp hv q hq ht with z | z
    · show c.t - c.lt q < c.t - c.lt p
      omega
    · omega
/-- any two sequences until none waits visit alike -/
theorem Nt.abel (N : Nt) (hb : ∀ p, p < N.n → 0 ≤ N.b p) {ps qs : List Nat} (hp : N.Can N.new ps) (hq : N.Can N.new qs) (ep : ∀ q, q < N.n → (ps.foldl N.mv N.new).w q = 0) (eq : ∀ q, q < N.n → (qs.foldl N.mv N.new).w q = 0) : ∀ p, p < N.n → (ps.foldl N.mv N.new).v p = (qs.foldl N.mv N.new).v p := by
  obtain ⟨a, b⟩ := (N.inv_run ps _ (N.inv_new hb) hp).flow ep
  obtain ⟨c, d⟩ := (N.inv_run qs _ (N.inv_new hb) hq).flow eq
  exact N.uniq a c b d
/-! ### in a leading net every sequence ends -/
theorem cnt_floor {d s t e : Int} (hd : 0 < d) : t / d ≤ cnt d s t e := by
  unfold cnt
  have a1 := Int.emod_lt_of_pos (e - s) hd
  exact Int.ediv_le_ediv hd (by omega)
theorem sumN_one_le {f : Nat → Int} {k : Nat} : ∀ n, k < n → (∀ i, i < n → 0 ≤ f i) → f k ≤ sumN f n
  | 0, h, _ => by omega
  | n + 1, h, h0 => by
    show f k ≤ sumN f n + f n
    by_cases q : k = n
    · subst q
      have := sumN_nn (f := f) (n := k) fun i hi => h0 i (by omega)
      omega
    · have := sumN_one_le n (show k < n by omega) fun i hi => h0 i (by omega)
      have := h0 n (by omega)
      omega
theorem cnt_nn {d s t e : Int} (hd : 0 < d) (ht : 0 ≤ t) : 0 ≤ cnt d s t e := by
  have := cnt_up (d := d) (s := s) (e := e) hd ht
  rw [cnt_zero hd] at this
  exact this
theorem Nt.go_nn (N : Nt) {v : Nat → Int} {p q : Nat} (hp : p < N.n) (h : 0 ≤ v p) : 0 ≤ N.go v p q := sumN_nn fun e _ => by
  have := N.hd p hp
  have := cnt_nn (d := N.d p) (s := N.s p) (e := (e : Int)) (by omega) h
  split <;> omega
/-- all that wait, and all that have gone out -/
theorem Nt.Inv.all {N : Nt} {c : Cr} (I : N.Inv c) : sumN c.w N.n + sumN (fun p => sumN (fun e => if 0 ≤ N.tg p e ∧ N.tg p e < (N.n : Int) then 0 else cnt (N.d p) (N.s p) (c.v p) e) (N.d p)) N.n = sumN N.b N.n := by
  have e1 : sumN c.w N.n = sumN N.b N.n + sumN (fun q => sumN (fun p => N.go c.v p q) N.n) N.n - sumN c.v N.n := by
    rw [← sumN_add, ← sumN_sub]
    exact sumN_congr _ fun q hq => I.eq q hq
  have e2 : ∀ p, p < N.n → sumN (fun q => N.go c.v p q) N.n + sumN (fun e => if 0 ≤ N.tg p e ∧ N.tg p e < (N.n : Int) then 0 else cnt (N.d p) (N.s p) (c.v p) e) (N.d p) = c.v p := fun p hp => by
    have a : sumN (fun q => N.go c.v p q) N.n = sumN (fun e => if 0 ≤ N.tg p e ∧ N.tg p e < (N.n : Int) then cnt (N.d p) (N.s p) (c.v p) e else 0) (N.d p) := by
      show sumN (fun q => sumN (fun e => if N.tg p e = (q : Int) then cnt (N.d p) (N.s p) (c.v p) e else 0) (N.d p)) N.n = _
      rw [sumN_comm]
      refine sumN_congr _ fun e _ => ?_
      have z := sumN_one (k := N.tg p e) (x := cnt (N.d p) (N.s p) (c.v p) e) (P := fun _ => True) N.n
      rw [sumN_congr (g := fun q => if True then (if N.tg p e = (q : Int) then cnt (N.d p) (N.s p) (c.v p) e else 0) else 0) N.n fun q _ => (if_pos trivial).symm, z]
      by_cases h : 0 ≤ N.tg p e ∧ N.tg p e < (N.n : Int)
      · rw [if_pos h, if_pos ⟨h.1, h.2, trivial⟩]
      · rw [if_neg h, if_neg (fun y => h ⟨y.1, y.2.1⟩)]
    rw [a, ← sumN_add]
    have b := cnt_sum (s := N.s p) (N.hd p hp) (c.v p).toNat
    rw [Int.toNat_of_nonneg (I.v0 p hp)] at b
    refine Eq.trans ?_ b
    refine sumN_congr _ fun e _ => ?_
    split <;> omega
  have e3 : sumN (fun q => sumN (fun p => N.go c.v p q) N.n) N.n = sumN (fun p => sumN (fun q => N.go c.v p q) N.n) N.n := sumN_comm _ _ _
  have e4 : sumN (fun p => sumN (fun q => N.go c.v p q) N.n) N.n + sumN (fun p => sumN (fun e => if 0 ≤ N.tg p e ∧ N.tg p e < (N.n : Int) then 0 else cnt (N.d p) (N.s p) (c.v p) e) (N.d p)) N.n = sumN c.v N.n := by
    rw [← sumN_add]
    exact sumN_congr _ e2
  omega
def Nt.Leads (N : Nt) (ds : Nat → Nat) : Prop := ∀ p, p < N.n → ∃ e, e < N.d p ∧ ((∃ q : Nat, q < N.n ∧ N.tg p e = (q : Int) ∧ ds q < ds p) ∨ ¬ (0 ≤ N.tg p e ∧ N.tg p e < (N.n : Int)))
def bdN (m B : Int) : Nat → Int
  | 0 => m * (B + 1)
  | k + 1 => m * (bdN m B k + B + 1)
theorem bdN_nn {m B : Int} (hm : 1 ≤ m) (hB : 0 ≤ B) : ∀ k, 0 ≤ bdN m B k
  | 0 => Int.mul_nonneg (by omega) (by omega)
  | k + 1 => Int.mul_nonneg (by omega) (by have := bdN_nn hm hB k; omega)
theorem Nt.Inv.bound {N : Nt} {c : Cr} (I : N.Inv c) (hb : ∀ p, p < N.n → 0 ≤ N.b p) {ds : Nat → Nat} (L : N.Leads ds) {m : Int} (hm1 : 1 ≤ m) (hm : ∀ p, p < N.n → (N.d p : Int) ≤ m) : ∀ k p, p < N.n → ds p ≤ k → c.v p ≤ bdN m (sumN N.b N.n) k := by
  have hB : 0 ≤ sumN N.b N.n := sumN_nn hb
  have hall := I.all
  have hout : ∀ p, p < N.n → 0 ≤ sumN (fun e => if 0 ≤ N.tg p e ∧ N.tg p e < (N.n : Int) then 0 else cnt (N.d p) (N.s p) (c.v p) e) (N.d p) := fun p hp => sumN_nn fun e _ => by
    have := N.hd p hp
    have := cnt_nn (d := N.d p) (s := N.s p) (e := (e : Int)) (by omega) (I.v0 p hp)
    split <;> omega
  have hwB : ∀ q, q < N.n → c.w q ≤ sumN N.b N.n := fun q hq => by
    have a := sumN_one_le (f := c.w) N.n hq I.w0
    have b := sumN_nn hout
    omega
  have low : ∀ p, p < N.n → ∀ e : Nat, ∀ x : Int, cnt (N.d p) (N.s p) (c.v p) e ≤ x → 0 ≤ x → c.v p ≤ m * (x + 1) := fun p hp e x h hx => by
    have hd := N.hd p hp
    have f := cnt_floor (d := N.d p) (s := N.s p) (t := c.v p) (e := (e : Int)) (by omega)
    have r := Int.emod_lt_of_pos (c.v p) (show (0 : Int) < N.d p by omega)
    have q := Int.mul_ediv_add_emod (c.v p) (N.d p)
    have g1 : (N.d p : Int) * (c.v p / (N.d p : Int)) ≤ (N.d p : Int) * x := Int.mul_le_mul_of_nonneg_left (by omega) (by omega)
    have g2 : (N.d p : Int) * (x + 1) ≤ m * (x + 1) := Int.mul_le_mul_of_nonneg_right (hm p hp) (by omega)
    rw [Int.mul_add] at g2
    omega
  have step : ∀ k, (∀ q, q < N.n → ds q < k → c.v q ≤ bdN m (sumN N.b N.n) (k - 1)) → ∀ p, p < N.n → ds p ≤ k → c.v p ≤ bdN m (sumN N.b N.n) k := fun k ih p hp hk => by
    obtain ⟨e, he, h⟩ := L p hp
    have hd := N.hd p hp
    rcases h with ⟨q, hq, ht, hds⟩ | ht
    · obtain ⟨k, rfl⟩ : ∃ j, k = j + 1 := ⟨k - 1, by omega⟩
      have hv := ih q hq (by omega)
      have hv : c.v q ≤ bdN m (sumN N.b N.n) k := hv
      have g0 : cnt (N.d p) (N.s p) (c.v p) e ≤ N.go c.v p q := by
        have := sumN_one_le (f := fun e => if N.tg p e = (q : Int) then cnt (N.d p) (N.s p) (c.v p) e else 0) (N.d p) he fun i _ => by
          have := cnt_nn (d := N.d p) (s := N.s p) (e := (i : Int)) (by omega) (I.v0 p hp)
          show (0 : Int) ≤ (if N.tg p i = (q : Int) then cnt (N.d p) (N.s p) (c.v p) i else 0)
          split <;> omega
        have this : (if N.tg p e = (q : Int) then cnt (N.d p) (N.s p) (c.v p) e else 0) ≤ N.go c.v p q := this
        rw [if_pos ht] at this
        exact this
      have g1 := sumN_one_le (f := fun p => N.go c.v p q) N.n hp fun i hi => N.go_nn hi (I.v0 i hi)
      have g1 : N.go c.v p q ≤ sumN (fun p => N.go c.v p q) N.n := g1
      have g2 := I.eq q hq
      have g3 := hb q hq
      have g4 := hwB q hq
      have nn := bdN_nn hm1 hB k
      exact low p hp e (bdN m (sumN N.b N.n) k + sumN N.b N.n) (by omega) (by omega)
    · have g0 := sumN_one_le (f := fun e => if 0 ≤ N.tg p e ∧ N.tg p e < (N.n : Int) then 0 else cnt (N.d p) (N.s p) (c.v p) e) (N.d p) he fun i _ => by
        have := cnt_nn (d := N.d p) (s := N.s p) (e := (i : Int)) (by omega) (I.v0 p hp)
        show (0 : Int) ≤ (if 0 ≤ N.tg p i ∧ N.tg p i < (N.n : Int) then 0 else cnt (N.d p) (N.s p) (c.v p) i)
        split <;> omega
      have g0 : (if 0 ≤ N.tg p e ∧ N.tg p e < (N.n : Int) then 0 else cnt (N.d p) (N.s p) (c.v p) e) ≤ sumN (fun e => if 0 ≤ N.tg p e ∧ N.tg p e < (N.n : Int) then 0 else cnt (N.d p) (N.s p) (c.v p) e) (N.d p) := g0
      rw [if_neg ht] at g0
      have g1 := sumN_one_le (f := fun p => sumN (fun e => if 0 ≤ N.tg p e ∧ N.tg p e < (N.n : Int) then 0 else cnt (N.d p) (N.s p) (c.v p) e) (N.d p)) N.n hp hout
      have g1 : sumN (fun e => if 0 ≤ N.tg p e ∧ N.tg p e < (N.n : Int) then 0 else cnt (N.d p) (N.s p) (c.v p) e) (N.d p) ≤ _ := g1
      have g2 := sumN_nn (f := c.w) (n := N.n) I.w0
      have z := low p hp e (sumN N.b N.n) (by omega) hB
      cases k with
      | zero => exact z
      | succ k =>
        have nn := bdN_nn hm1 hB k
        have g3 : m * (sumN N.b N.n + 1) ≤ m * (bdN m (sumN N.b N.n) k + sumN N.b N.n + 1) := Int.mul_le_mul_of_nonneg_left (by omega) (by omega)
        exact Int.le_trans z g3
  intro k
  induction k with
  | zero => exact step 0 fun q _ h => by omega
  | succ k ih => exact step (k + 1) fun q hq h => ih q hq (by omega)
/-- each move is one visit more -/
theorem Nt.mv_sum (N : Nt) {c : Cr} {p : Nat} (hp : p < N.n) : sumN (N.mv c p).v N.n = sumN c.v N.n + 1 :=
  sumN_at N.n hp (fun i _ hi => upN_ne hi) upN_self
theorem Nt.run_sum (N : Nt) : ∀ (ps : List Nat) (c : Cr), N.Can c ps → sumN (ps.foldl N.mv c).v N.n = sumN c.v N.n + ps.length
  | [], c, _ => (Int.add_zero _).symm
  | p :: ps, c, ⟨⟨hp, _⟩, k⟩ => by
    rw [List.foldl_cons, Nt.run_sum N ps _ k, N.mv_sum hp, List.length_cons]; omega
/-- so many moves at most -/
theorem Nt.ends (N : Nt) (hb : ∀ p, p < N.n → 0 ≤ N.b p) {ds : Nat → Nat} (L : N.Leads ds) {m : Int} (hm1 : 1 ≤ m) (hm : ∀ p, p < N.n → (N.d p : Int) ≤ m) {k : Nat} (hk : ∀ p, p < N.n → ds p ≤ k) {ps : List Nat} (hc : N.Can N.new ps) : (ps.length : Int) ≤ sumN (fun _ => bdN m (sumN N.b N.n) k) N.n := by
  have I := N.inv_run ps _ (N.inv_new hb) hc
  have a := N.run_sum ps _ hc
  have b := sumN_le N.n fun p hp => I.bound hb L hm1 hm k p hp (hk p hp)
  have z : sumN N.new.v N.n = 0 := sumN_zero N.n
  omega
/-! ### no train passes a flow -/
theorem Nt.Inv.below {N : Nt} {c : Cr} (I : N.Inv c) {u : Nat → Int} (hu : N.Flow u) (hc : ∀ p, p < N.n → c.v p ≤ u p) {p : Nat} (hp : p < N.n) (hw : 0 < c.w p) : c.v p < u p := by
  have a := I.eq p hp
  have b := hu.eq p hp
  have m : sumN (fun i => N.go c.v i p) N.n ≤ sumN (fun i => N.go u i p) N.n := sumN_le _ fun i hi => sumN_le _ fun e _ => by
    have := N.hd i hi
    have := cnt_up (d := N.d i) (s := N.s i) (e := (e : Int)) (by omega) (hc i hi)
    split <;> omega
  omega
theorem Nt.run_below (N : Nt) {u : Nat → Int} (hu : N.Flow u) : ∀ (ps : List Nat) (c : Cr), N.Inv c → N.Can c ps → (∀ p, p < N.n → c.v p ≤ u p) → ∀ p, p < N.n → (ps.foldl N.mv c).v p ≤ u p
  | [], _, _, _, h => h
  | p :: ps, c, I, ⟨⟨hp, hw⟩, k⟩, h => Nt.run_below N hu ps (N.mv c p) (N.inv_mv I hp hw) k fun q hq => by
    show upN c.v p (c.v p + 1) q ≤ u q
    by_cases e : q = p
    · subst e
      rw [upN_self]
      have := I.below hu h hq hw
      omega
    · rw [upN_ne e]; exact h q hq
/-- where there is a flow, moves can be gone until none waits -/
theorem Nt.done (N : Nt) {u : Nat → Int} (hu : N.Flow u) : ∀ (k : Nat) (c : Cr), N.Inv c → (∀ p, p < N.n → c.v p ≤ u p) → (sumN u N.n - sumN c.v N.n).toNat = k → ∃ ps, N.Can c ps ∧ ∀ q, q < N.n → (ps.foldl N.mv c).w q = 0 := fun k => by
  induction k using Nat.strongRecOn with
  | _ k ih =>
    intro c I hc hk
    by_cases h : ∃ p, p < N.n ∧ 0 < c.w p
    · obtain ⟨p, hp, hw⟩ := h
      have hlt := I.below hu hc hp hw
      have hs := N.mv_sum (c := c) hp
      have hc' : ∀ q, q < N.n → (N.mv c p).v q ≤ u q := N.run_below hu [p] c I ⟨⟨hp, hw⟩, trivial⟩ hc
      have hle := sumN_le N.n hc'
      have hle : sumN (N.mv c p).v N.n ≤ sumN u N.n := hle
      obtain ⟨ps, a, b⟩ := ih (sumN u N.n - sumN (N.mv c p).v N.n).toNat (by omega) (N.mv c p) (N.inv_mv I hp hw) hc' rfl
      exact ⟨p :: ps, ⟨⟨hp, hw⟩, a⟩, b⟩
    · refine ⟨[], trivial, fun q hq => ?_⟩
      have := I.w0 q hq
      show c.w q = 0
      by_cases z : 0 < c.w q
      · exact (h ⟨q, hq, z⟩).elim
      · omega
theorem Nt.NoRing.congr {N : Nt} {v u : Nat → Int} (h : ∀ p, p < N.n → v p = u p) (r : N.NoRing v) : N.NoRing u := by
  obtain ⟨rk, hr⟩ := r
  refine ⟨rk, fun p hp hv q hq hu ht => hr p hp (by rw [h p hp]; exact hv) q hq (by rw [h q hq]; exact hu) ?_⟩
  unfold Nt.last at ht ⊢
  rw [h p hp]; exact ht
/-- the least flow has no ring of last exits -/
theorem Nt.noring_of_least (N : Nt) (hb : ∀ p, p < N.n → 0 ≤ N.b p) {v : Nat → Int} (hv : N.Flow v) (hl : ∀ u, N.Flow u → ∀ p, p < N.n → v p ≤ u p) : N.NoRing v := by
  obtain ⟨ps, a, b⟩ := N.done hv _ N.new (N.inv_new hb) (fun p hp => hv.nn p hp) rfl
  obtain ⟨f, r⟩ := (N.inv_run ps _ (N.inv_new hb) a).flow b
  refine r.congr fun p hp => ?_
  have := hl _ f p hp
  have := N.least f hv r p hp
  omega
/-! ### to follow last exits -/
def Nt.nx (N : Nt) (v : Nat → Int) (p : Nat) : Option Nat := if 0 < v p ∧ 0 ≤ N.tg p (N.last v p) ∧ N.tg p (N.last v p) < (N.n : Int) then some (N.tg p (N.last v p)).toNat else none
/-- so many points behind one another are visited -/
def Nt.al (N : Nt) (v : Nat → Int) : Nat → Nat → Bool
  | 0, p => decide (0 < v p)
  | k + 1, p => match N.nx v p with
    | some q => N.al v k q
    | none => false
theorem Nt.nx_some {N : Nt} {v : Nat → Int} {p q : Nat} (h : N.nx v p = some q) : 0 < v p ∧ q < N.n ∧ N.tg p (N.last v p) = (q : Int) := by
  unfold Nt.nx at h
  by_cases z : 0 < v p ∧ 0 ≤ N.tg p (N.last v p) ∧ N.tg p (N.last v p) < (N.n : Int)
  · rw [if_pos z] at h
    injection h with h
    obtain ⟨a, b, c⟩ := z
    exact ⟨a, by omega, by omega⟩
  · rw [if_neg z] at h; cases h
theorem Nt.al_vis {N : Nt} {v : Nat → Int} {k p : Nat} (h : N.al v k p = true) : 0 < v p := by
  cases k with
  | zero => exact of_decide_eq_true h
  | succ k =>
    unfold Nt.al at h
    cases e : N.nx v p with
    | some q => exact (Nt.nx_some e).1
    | none => rw [e] at h; cases h
theorem Nt.walk (N : Nt) {v : Nat → Int} (h : ∀ p, p < N.n → N.al v N.n p = false) : N.NoRing v := by
  refine ⟨fun p => (sumN (fun k => if N.al v k p = true then 1 else 0) (N.n + 1)).toNat, fun p hp hv q hq hvq ht => ?_⟩
  have nn : ∀ p, 0 ≤ sumN (fun k => if N.al v k p = true then 1 else 0) (N.n + 1) := fun p => sumN_nn fun i _ => by split <;> omega
  have e : N.nx v p = some q := by
    unfold Nt.nx
    rw [ht, if_pos ⟨hv, by omega, by omega⟩, Int.toNat_natCast]
  have sh : ∀ m, sumN (fun k => if N.al v k p = true then 1 else 0) (m + 1) = 1 + sumN (fun k => if N.al v k q = true then 1 else 0) m := fun m => by
    induction m with
    | zero =>
      show (0 : Int) + (if decide (0 < v p) = true then 1 else 0) = 1 + 0
      rw [if_pos (decide_eq_true hv)]; rfl
    | succ m ih =>
      show sumN (fun k => if N.al v k p = true then 1 else 0) (m + 1) + (if N.al v (m + 1) p = true then 1 else 0) = 1 + (sumN (fun k => if N.al v k q = true then 1 else 0) m + (if N.al v m q = true then 1 else 0))
      have : N.al v (m + 1) p = N.al v m q := by
        show (match N.nx v p with | some q => N.al v m q | none => false) = _
        rw [e]
      rw [ih, this]; omega
  have a := sh N.n
  have b : sumN (fun k => if N.al v k q = true then 1 else 0) (N.n + 1) = sumN (fun k => if N.al v k q = true then 1 else 0) N.n + (if N.al v N.n q = true then 1 else 0) := rfl
  rw [h q hq, if_neg (by decide)] at b
  have c := nn p
  have d := nn q
  show (sumN _ _).toNat < (sumN _ _).toNat
  omega
theorem Nt.walk_of (N : Nt) {v : Nat → Int} (r : N.NoRing v) : ∀ p, p < N.n → N.al v N.n p = false := by
  obtain ⟨rk, hr⟩ := r
  let ct : Nat → Int := fun p => sumN (fun q => if 0 < v q ∧ rk q < rk p then 1 else 0) N.n
  have lt : ∀ p q, p < N.n → N.nx v p = some q → 0 < v q → ct q + 1 ≤ ct p := fun p q hp e hq => by
    obtain ⟨a, b, c⟩ := Nt.nx_some e
    have h := hr p hp a q b hq c
    have z := sumN_one_le (f := fun i => (if 0 < v i ∧ rk i < rk p then 1 else 0) - (if 0 < v i ∧ rk i < rk q then 1 else 0)) N.n b fun i _ => by
      by_cases y : 0 < v i ∧ rk i < rk q
      · rw [if_pos y, if_pos ⟨y.1, by omega⟩]; omega
      · rw [if_neg y]
        split <;> omega
    rw [sumN_sub] at z
    have z : (if 0 < v q ∧ rk q < rk p then (1 : Int) else 0) - (if 0 < v q ∧ rk q < rk q then 1 else 0) ≤ ct p - ct q := z
    rw [if_pos ⟨hq, h⟩, if_neg (by omega)] at z
    omega
  have top : ∀ p, p < N.n → ct p + 1 ≤ N.n := fun p hp => by
    have z := sumN_one_le (f := fun i => 1 - (if 0 < v i ∧ rk i < rk p then 1 else 0)) N.n hp fun i _ => by split <;> omega
    rw [sumN_sub] at z
    have one : ∀ n : Nat, sumN (fun _ => (1 : Int)) n = n := fun n => by
      induction n with
      | zero => rfl
      | succ n ih =>
        show sumN (fun _ => (1 : Int)) n + 1 = _
        rw [ih]; omega
    rw [one] at z
    have z : 1 - (if 0 < v p ∧ rk p < rk p then (1 : Int) else 0) ≤ N.n - ct p := z
    rw [if_neg (by omega)] at z
    omega
  have low : ∀ k p, p < N.n → N.al v k p = true → (k : Int) ≤ ct p := fun k => by
    induction k with
    | zero => exact fun p _ _ => sumN_nn fun i _ => by split <;> omega
    | succ k ih =>
      intro p hp h
      have h : (match N.nx v p with | some q => N.al v k q | none => false) = true := h
      cases e : N.nx v p with
      | none => rw [e] at h; cases h
      | some q =>
        rw [e] at h
        have := lt p q hp e (Nt.al_vis h)
        have := ih q (Nt.nx_some e).2.1 h
        omega
  intro p hp
  cases h : N.al v N.n p with
  | false => rfl
  | true =>
    have := low N.n p hp h
    have := top p hp
    omega
/-! ### nets as rows, and by their numbers -/
def ntOf (ex : List (List Int)) (st ss : List Int) (h1 : ∀ l ∈ ex, 1 ≤ l.length) : Nt := ⟨ex.length, fun p => (rowAt ex p).length, fun p e => nth (rowAt ex p) e, nth st, nth ss, fun p hp => h1 _ (rowAt_mem hp)⟩
end K26

namespace K26
open PySem PySem.Spec PyProof.Rows L2 DD
/-! ### what has come to ends -/
def goZ (N : Nt) (v : Nat → Int) (p : Nat) (z : Int) : Int := sumN (fun i => if N.tg p i = z then cnt (N.d p) (N.s p) (v p) i else 0) (N.d p)
theorem goZ_zero (N : Nt) {p : Nat} (hp : p < N.n) (z : Int) : goZ N (fun _ => 0) p z = 0 := by
  have hd := N.hd p hp
  unfold goZ
  rw [sumN_congr (g := fun _ => 0) (N.d p) fun e _ => (by
    show (if N.tg p e = z then cnt (N.d p) (N.s p) 0 e else 0) = 0
    rw [cnt_zero (by omega)]
    exact ite_self _), sumN_zero]
theorem goZ_one (N : Nt) {v : Nat → Int} {p : Nat} (hp : p < N.n) (z : Int) : goZ N (upN v p (v p + 1)) p z = goZ N v p z + (if N.to v p = z then 1 else 0) := by
  have hd := N.hd p hp
  have m0 := Int.emod_nonneg (N.s p + v p) (show (N.d p : Int) ≠ 0 by omega)
  have m1 := Int.emod_lt_of_pos (N.s p + v p) (show (0 : Int) < N.d p by omega)
  unfold goZ
  rw [sumN_congr (g := fun i => (if N.tg p i = z then cnt (N.d p) (N.s p) (v p) i else 0) + (if N.tg p i = z then (if (N.s p + v p) % (N.d p : Int) = (i : Int) then 1 else 0) else 0)) (N.d p) fun i hi => ?_, sumN_add]
  · congr 1
    rw [sumN_one (k := (N.s p + v p) % (N.d p : Int)) (x := 1) (P := fun i => N.tg p i = z)]
    show _ = if N.tg p ((N.s p + v p) % (N.d p : Int)).toNat = z then 1 else 0
    by_cases h : N.tg p ((N.s p + v p) % (N.d p : Int)).toNat = z
    · rw [if_pos h, if_pos ⟨m0, m1, h⟩]
    · rw [if_neg h, if_neg fun y => h y.2.2]
  · show (if N.tg p i = z then cnt (N.d p) (N.s p) (upN v p (v p + 1) p) i else 0) = _
    rw [upN_self]
    by_cases h : N.tg p i = z
    · rw [if_pos h, if_pos h, if_pos h]
      exact cnt_succ (by omega) (by omega) (by omega)
    · rw [if_neg h, if_neg h, if_neg h]; rfl
theorem goZ_sum (N : Nt) {v : Nat → Int} {p : Nat} (hp : p < N.n) (z : Int) : sumN (fun q => goZ N (upN v p (v p + 1)) q z) N.n = sumN (fun q => goZ N v q z) N.n + (if N.to v p = z then 1 else 0) :=
  sumN_at N.n hp (fun i _ hi => by
    show sumN _ _ = sumN _ _
    rw [upN_ne hi]) (goZ_one N hp z)
theorem goZ_congr (N : Nt) {v u : Nat → Int} (h : ∀ p, p < N.n → v p = u p) (z : Int) : sumN (fun q => goZ N v q z) N.n = sumN (fun q => goZ N u q z) N.n := sumN_congr _ fun q hq => by
  show sumN _ _ = sumN _ _
  rw [h q hq]
/-! ### crowds as lists: waiting, setting, come -/
abbrev Cw := List Int × List Int × List Int
def tgC (ex : List (List Int)) (x : Cw) (p : Nat) : Int := nth (rowAt ex p) (nth x.2.1 p).toNat
def stC (ex : List (List Int)) (x : Cw) (p : Nat) : List Int := x.2.1.set p ((nth x.2.1 p + 1) % ((rowAt ex p).length : Int))
def wlC (x : Cw) (p : Nat) : List Int := x.1.set p (nth x.1 p - 1)
def mvC (ex : List (List Int)) (x : Cw) (p : Nat) : Cw :=
  if 0 ≤ tgC ex x p then ((wlC x p).set (tgC ex x p).toNat (nth (wlC x p) (tgC ex x p).toNat + 1), stC ex x p, x.2.2)
  else (wlC x p, stC ex x p, x.2.2.set (-1 - tgC ex x p).toNat (nth x.2.2 (-1 - tgC ex x p).toNat + 1))
structure CrOf {e : Int} {ex : List (List Int)} (v : Valid e ex) (st ss : List Int) (x : Cw) (c : Cr) : Prop where
  I : (ntOf ex st ss v.r1).Inv c
  lw : x.1.length = ex.length
  ls : x.2.1.length = ex.length
  lc : x.2.2.length = e.toNat
  w : ∀ q, q < ex.length → nth x.1 q = c.w q
  s : ∀ q, q < ex.length → nth x.2.1 q = (nth st q + c.v q) % ((rowAt ex q).length : Int)
  co : ∀ k, k < e.toNat → nth x.2.2 k = sumN (fun p => goZ (ntOf ex st ss v.r1) c.v p (-1 - (k : Int))) ex.length
theorem CrOf.tg {e : Int} {ex : List (List Int)} {v : Valid e ex} {st ss : List Int} {x : Cw} {c : Cr} (h : CrOf v st ss x c) {p : Nat} (hp : p < ex.length) : (ntOf ex st ss v.r1).to c.v p = tgC ex x p ∧ (0 ≤ nth x.2.1 p ∧ nth x.2.1 p < (rowAt ex p).length) ∧ -e ≤ tgC ex x p ∧ tgC ex x p < ex.length := by
  have h1 := v.r1 _ (rowAt_mem hp)
  have m0 := Int.emod_nonneg (nth st p + c.v p) (show ((rowAt ex p).length : Int) ≠ 0 by omega)
  have m1 := Int.emod_lt_of_pos (nth st p + c.v p) (show (0 : Int) < (rowAt ex p).length by omega)
  have es := h.s p hp
  have hm : nth (rowAt ex p) (nth x.2.1 p).toNat ∈ rowAt ex p := nth_mem (by rw [es]; omega)
  refine ⟨?_, ⟨by omega, by omega⟩, v.lo _ (rowAt_mem hp) _ hm, v.hi _ (rowAt_mem hp) _ hm⟩
  unfold tgC
  rw [es]; rfl
theorem CrOf.mv {e : Int} {ex : List (List Int)} {v : Valid e ex} {st ss : List Int} {x : Cw} {c : Cr} (h : CrOf v st ss x c) {p : Nat} (hp : p < ex.length) (hw : 0 < nth x.1 p) : CrOf v st ss (mvC ex x p) ((ntOf ex st ss v.r1).mv c p) := by
  obtain ⟨eto, ⟨s0, s1⟩, t0, t1⟩ := h.tg hp
  have e0 := v.e0
  have lw := h.lw
  have ls := h.ls
  have lc := h.lc
  have hwp := h.w p hp
  have lwl : (wlC x p).length = ex.length := by
    unfold wlC
    rw [List.length_set]; exact lw
  have wl : ∀ q, q < ex.length → nth (wlC x p) q = c.w q - (if q = p then 1 else 0) := fun q hq => by
    have a := h.w q hq
    unfold wlC
    rw [nth_set]
    by_cases z : p = q
    · subst z
      rw [if_pos ⟨rfl, by omega⟩, if_pos rfl, a]
    · rw [if_neg fun y => z y.1, if_neg fun y => z y.symm, a]; omega
  have sset : ∀ q, q < ex.length → nth (stC ex x p) q = (nth st q + upN c.v p (c.v p + 1) q) % ((rowAt ex q).length : Int) := fun q hq => by
    unfold stC
    rw [nth_set]
    by_cases z : p = q
    · subst z
      rw [if_pos ⟨rfl, by omega⟩, upN_self, h.s p hp, Int.emod_add_emod]
      congr 1; omega
    · rw [if_neg fun y => z y.1, upN_ne fun y => z y.symm]
      exact h.s q hq
  have cset : ∀ k, k < e.toNat → sumN (fun q => goZ (ntOf ex st ss v.r1) (upN c.v p (c.v p + 1)) q (-1 - (k : Int))) ex.length = nth x.2.2 k + (if tgC ex x p = -1 - (k : Int) then 1 else 0) := fun k hk => by
    have a := goZ_sum (ntOf ex st ss v.r1) (v := c.v) (p := p) hp (-1 - (k : Int))
    rw [eto] at a
    rw [h.co k hk]
    exact a
  have I := (ntOf ex st ss v.r1).inv_mv h.I (p := p) hp (by rw [← hwp]; exact hw)
  unfold mvC
  by_cases ht : 0 ≤ tgC ex x p
  · rw [if_pos ht]
    refine ⟨I, by show (List.set _ _ _).length = _; rw [List.length_set]; exact lwl, by show (List.set _ _ _).length = _; rw [List.length_set]; exact ls, lc, fun q hq => ?_, sset, fun k hk => ?_⟩
    · show nth ((wlC x p).set (tgC ex x p).toNat _) q = c.w q - (if q = p then 1 else 0) + (if (ntOf ex st ss v.r1).to c.v p = (q : Int) then 1 else 0)
      rw [eto, nth_set]
      by_cases z : (tgC ex x p).toNat = q
      · rw [if_pos ⟨z, by omega⟩, if_pos (show tgC ex x p = (q : Int) by omega), z, wl q hq]
      · rw [if_neg fun y => z y.1, if_neg (show ¬ tgC ex x p = (q : Int) by omega), wl q hq]; omega
    · have a := cset k hk
      rw [if_neg (by omega), Int.add_zero] at a
      exact a.symm
  · rw [if_neg ht]
    refine ⟨I, lwl, by show (List.set _ _ _).length = _; rw [List.length_set]; exact ls, by show (List.set _ _ _).length = _; rw [List.length_set]; exact lc, fun q hq => ?_, sset, fun k hk => ?_⟩
    · show nth (wlC x p) q = c.w q - (if q = p then 1 else 0) + (if (ntOf ex st ss v.r1).to c.v p = (q : Int) then 1 else 0)
      rw [eto, if_neg (show ¬ tgC ex x p = (q : Int) by omega), wl q hq]; omega
    · show nth (x.2.2.set (-1 - tgC ex x p).toNat _) k = _
      rw [nth_set]
      refine Eq.trans ?_ (cset k hk).symm
      by_cases z : (-1 - tgC ex x p).toNat = k
      · rw [if_pos ⟨z, by omega⟩, if_pos (show tgC ex x p = -1 - (k : Int) by omega), z]
      · rw [if_neg fun y => z y.1, if_neg (show ¬ tgC ex x p = -1 - (k : Int) by omega)]; omega
/-- a sequence of points that can be moved -/
def CanC (ex : List (List Int)) : Cw → List Nat → Prop
  | _, [] => True
  | x, p :: ps => (p < ex.length ∧ 0 < nth x.1 p) ∧ CanC ex (mvC ex x p) ps
def runC (ex : List (List Int)) (x : Cw) (ps : List Nat) : Cw := ps.foldl (mvC ex) x
theorem runC_app (ex : List (List Int)) (x : Cw) (ps qs : List Nat) : runC ex x (ps ++ qs) = runC ex (runC ex x ps) qs := List.foldl_append
theorem CanC.app {ex : List (List Int)} : ∀ {ps : List Nat} {x : Cw} {qs : List Nat}, CanC ex x (ps ++ qs) ↔ CanC ex x ps ∧ CanC ex (runC ex x ps) qs
  | [], x, qs => ⟨fun h => ⟨trivial, h⟩, fun h => h.2⟩
  | p :: ps, x, qs => by
    have ih := CanC.app (ex := ex) (ps := ps) (x := mvC ex x p) (qs := qs)
    exact ⟨fun h => ⟨⟨h.1, (ih.mp h.2).1⟩, (ih.mp h.2).2⟩, fun h => ⟨h.1.1, ih.mpr ⟨h.1.2, h.2⟩⟩⟩
theorem CanC.snoc {ex : List (List Int)} {x : Cw} {ps : List Nat} {p : Nat} (h : CanC ex x ps) (hp : p < ex.length) (hw : 0 < nth (runC ex x ps).1 p) : CanC ex x (ps ++ [p]) := CanC.app.mpr ⟨h, ⟨hp, hw⟩, trivial⟩
theorem CrOf.run {e : Int} {ex : List (List Int)} {v : Valid e ex} {st ss : List Int} : ∀ (ps : List Nat) {x : Cw} {c : Cr}, CrOf v st ss x c → CanC ex x ps → CrOf v st ss (runC ex x ps) (ps.foldl (ntOf ex st ss v.r1).mv c) ∧ (ntOf ex st ss v.r1).Can c ps
  | [], x, c, h, _ => ⟨h, trivial⟩
  | p :: ps, x, c, h, ⟨⟨hp, hw⟩, k⟩ => by
    obtain ⟨a, b⟩ := CrOf.run ps (h.mv hp hw) k
    exact ⟨a, ⟨hp, by rw [← h.w p hp]; exact hw⟩, b⟩
theorem mv_count (N : Nt) : ∀ (ps : List Nat) (c : Cr) (q : Nat), (ps.foldl N.mv c).v q = c.v q + (ps.count q : Int)
  | [], c, q => by simp
  | p :: ps, c, q => by
    rw [List.foldl_cons, mv_count N ps _ q, List.count_cons]
    show upN c.v p (c.v p + 1) q + _ = _
    by_cases h : q = p
    · subst h
      rw [upN_self]
      simp
      omega
    · rw [upN_ne h]
      have : (p == q) = false := beq_eq_false_iff_ne.mpr fun z => h z.symm
      rw [this]; simp
/-- the crowd of starts -/
def x0 (e : Int) (st ss : List Int) : Cw := (ss, st, List.replicate e.toNat 0)
theorem CrOf.new {e : Int} {ex : List (List Int)} (v : Valid e ex) {st ss : List Int} (hst : ValidS ex st) (hs : ss.length = ex.length) (hb : ∀ t ∈ ss, 0 ≤ t) : CrOf v st ss (x0 e st ss) (ntOf ex st ss v.r1).new := by
  refine ⟨(ntOf ex st ss v.r1).inv_new fun p hp => hb _ (nth_mem (by rw [hs]; exact hp)), hs, hst.1, List.length_replicate, fun q _ => rfl, fun q hq => ?_, fun k hk => ?_⟩
  · show nth st q = (nth st q + 0) % ((rowAt ex q).length : Int)
    obtain ⟨a, b⟩ := hst.2 q _ _ (nth_get (by rw [hst.1]; exact hq)) (rowAt_get hq)
    rw [Int.add_zero, Int.emod_eq_of_lt a b]
  · show nth (List.replicate e.toNat 0) k = sumN (fun p => goZ (ntOf ex st ss v.r1) (fun _ => 0) p (-1 - (k : Int))) ex.length
    rw [sumN_congr (g := fun _ => 0) ex.length fun p hp => goZ_zero (ntOf ex st ss v.r1) hp _, sumN_zero]
    exact nth_of (by rw [List.getElem?_replicate, if_pos hk])
/-- a sequence from the starts until none waits -/
structure Full (ex : List (List Int)) (x : Cw) (ps : List Nat) : Prop where
  can : CanC ex x ps
  none : ∀ q, q < ex.length → nth (runC ex x ps).1 q = 0
section
variable {e : Int} {ex : List (List Int)} {st ss : List Int}
theorem full_one (v : Valid e ex) (hst : ValidS ex st) (hs : ss.length = ex.length) (hb : ∀ t ∈ ss, 0 ≤ t) {ps qs : List Nat} (hp : Full ex (x0 e st ss) ps) (hq : Full ex (x0 e st ss) qs) : (∀ q, q < ex.length → ps.count q = qs.count q) ∧ runC ex (x0 e st ss) ps = runC ex (x0 e st ss) qs ∧ ps.length = qs.length := by
  have h0 := CrOf.new v hst hs hb
  obtain ⟨a1, a2⟩ := h0.run ps hp.can
  obtain ⟨b1, b2⟩ := h0.run qs hq.can
  have hbn : ∀ p, p < (ntOf ex st ss v.r1).n → 0 ≤ (ntOf ex st ss v.r1).b p := fun p hp => hb _ (nth_mem (by rw [hs]; exact hp))
  have ab := (ntOf ex st ss v.r1).abel hbn a2 b2 (fun q hq' => (a1.w q hq').symm.trans (hp.none q hq')) (fun q hq' => (b1.w q hq').symm.trans (hq.none q hq'))
  have cv : ∀ (ps : List Nat) q, (ps.foldl (ntOf ex st ss v.r1).mv (ntOf ex st ss v.r1).new).v q = (ps.count q : Int) := fun ps q => by
    rw [mv_count]
    show (0 : Int) + _ = _
    omega
  refine ⟨fun q hq' => ?_, ?_, ?_⟩
  · have := ab q hq'
    rw [cv, cv] at this
    omega
  · have e1 : (runC ex (x0 e st ss) ps).1 = (runC ex (x0 e st ss) qs).1 := list_ext a1.lw b1.lw fun q hq' => by rw [hp.none q hq', hq.none q hq']
    have e2 : (runC ex (x0 e st ss) ps).2.1 = (runC ex (x0 e st ss) qs).2.1 := list_ext a1.ls b1.ls fun q hq' => by rw [a1.s q hq', b1.s q hq', ab q hq']
    have e3 : (runC ex (x0 e st ss) ps).2.2 = (runC ex (x0 e st ss) qs).2.2 := list_ext a1.lc b1.lc fun q hq' => by
      rw [a1.co q hq', b1.co q hq']
      exact goZ_congr (ntOf ex st ss v.r1) ab _
    exact Prod.ext e1 (Prod.ext e2 e3)
  · have s1 := (ntOf ex st ss v.r1).run_sum ps _ a2
    have s2 := (ntOf ex st ss v.r1).run_sum qs _ b2
    have := sumN_congr (ntOf ex st ss v.r1).n ab
    omega
/-- no sequence is longer than one until none waits -/
theorem can_le (v : Valid e ex) (hst : ValidS ex st) (hs : ss.length = ex.length) (hb : ∀ t ∈ ss, 0 ≤ t) {ps qs : List Nat} (hp : Full ex (x0 e st ss) ps) (hq : CanC ex (x0 e st ss) qs) : qs.length ≤ ps.length := by
  have h0 := CrOf.new v hst hs hb
  obtain ⟨a1, a2⟩ := h0.run ps hp.can
  obtain ⟨b1, b2⟩ := h0.run qs hq
  obtain ⟨fl, _⟩ := a1.I.flow fun q hq' => (a1.w q hq').symm.trans (hp.none q hq')
  have le := (ntOf ex st ss v.r1).run_below fl qs _ h0.I b2 fun p hp' => fl.nn p hp'
  have s1 := (ntOf ex st ss v.r1).run_sum ps _ a2
  have s2 := (ntOf ex st ss v.r1).run_sum qs _ b2
  have s3 := sumN_le (ntOf ex st ss v.r1).n le
  omega
theorem can_lt {x : Cw} {ps : List Nat} (h : CanC ex x ps) : ∀ p ∈ ps, p < ex.length := by
  induction ps generalizing x with
  | nil => intro p hp; cases hp
  | cons a ps ih =>
    intro p hp
    rcases List.mem_cons.mp hp with rfl | hp
    · exact h.1.1
    · exact ih h.2 p hp
theorem full_perm (v : Valid e ex) (hst : ValidS ex st) (hs : ss.length = ex.length) (hb : ∀ t ∈ ss, 0 ≤ t) {ps qs : List Nat} (hp : Full ex (x0 e st ss) ps) (hq : Full ex (x0 e st ss) qs) : ps.Perm qs := by
  refine List.perm_iff_count.mpr fun q => ?_
  by_cases h : q < ex.length
  · exact (full_one v hst hs hb hp hq).1 q h
  · rw [List.count_eq_zero.mpr fun z => h (can_lt hp.can q z), List.count_eq_zero.mpr fun z => h (can_lt hq.can q z)]
/-- how often each point is moved -/
def visC (n : Nat) (ps : List Nat) : List Int := (List.range n).map fun p => (ps.count p : Int)
theorem visC_len (n : Nat) (ps : List Nat) : (visC n ps).length = n := by simp [visC]
theorem visC_nil (n : Nat) : visC n [] = List.replicate n 0 := by
  unfold visC
  apply List.ext_getElem?
  intro i
  rw [List.getElem?_map, List.getElem?_replicate]
  by_cases h : i < n
  · rw [List.getElem?_range h, if_pos h]; rfl
  · rw [if_neg h, List.getElem?_eq_none (by simpa using h)]; rfl
theorem visC_at {n : Nat} {ps : List Nat} {p : Nat} (h : p < n) : (visC n ps)[p]? = some (ps.count p : Int) := by
  unfold visC
  rw [List.getElem?_map, List.getElem?_range h]; rfl
theorem visC_snoc {n : Nat} {ps : List Nat} {p : Nat} : (visC n ps).set p ((ps.count p : Int) + 1) = visC n (ps ++ [p]) := by
  apply List.ext_getElem?
  intro i
  rw [List.getElem?_set]
  by_cases h : i < n
  · rw [visC_at h, visC_at h, List.count_append, visC_len]
    by_cases q : p = i
    · subst q
      rw [if_pos rfl, if_pos h]; simp
    · rw [if_neg q]
      have : List.count i [p] = 0 := List.count_eq_zero.mpr fun z => q (List.mem_singleton.mp z).symm
      rw [this]; rfl
  · rw [List.getElem?_eq_none (by rw [visC_len]; omega), List.getElem?_eq_none (by rw [visC_len]; omega), visC_len]
    split
    · rename_i z; rw [if_neg (by omega)]
    · rfl
theorem visC_eq {n : Nat} {ps qs : List Nat} (h : ∀ q, q < n → ps.count q = qs.count q) : visC n ps = visC n qs := List.map_congr_left fun q hq => by rw [h q (List.mem_range.mp hq)]
theorem sum_setI : ∀ (l : List Int) (p : Nat) {x : Int}, p < l.length → (l.set p x).sum = l.sum - nth l p + x
  | [], p, x, h => by simp at h
  | a :: l, 0, x, _ => by
    rw [List.set_cons_zero, List.sum_cons, List.sum_cons]
    show _ = a + l.sum - a + x
    omega
  | a :: l, p + 1, x, h => by
    have ih := sum_setI l p (x := x) (by simpa using h)
    rw [List.set_cons_succ, List.sum_cons, List.sum_cons, ih]
    show _ = a + l.sum - nth l p + x
    omega
theorem visC_sum {n : Nat} : ∀ {ps : List Nat}, (∀ p ∈ ps, p < n) → (visC n ps).sum = ps.length := by
  intro ps
  induction ps with
  | nil => intro _; rw [visC_nil]; simp
  | cons a ps ih =>
    intro h
    have ih := ih fun p hp => h p (List.mem_cons_of_mem _ hp)
    have ha := h a List.mem_cons_self
    have pm : (a :: ps).Perm (ps ++ [a]) := by simpa using (List.perm_append_comm (l₁ := [a]) (l₂ := ps))
    have e1 : visC n (a :: ps) = visC n (ps ++ [a]) := visC_eq fun q _ => pm.count_eq q
    rw [e1, ← visC_snoc, sum_setI _ _ (by rw [visC_len]; exact ha), nth_of (visC_at ha), ih, List.length_cons]
    omega
end
/-! ### bounds -/
def CwB (m : Int) (x : Cw) : Prop := 0 ≤ m ∧ (∀ q, nth x.1 q ≤ m) ∧ ∀ k, nth x.2.2 k ≤ m
theorem CwB.mv {ex : List (List Int)} {m : Int} {x : Cw} (h : CwB m x) (p : Nat) : CwB (m + 1) (mvC ex x p) := by
  obtain ⟨m0, h1, h2⟩ := h
  have wl : ∀ q, nth (wlC x p) q ≤ m := fun q => by
    unfold wlC
    rw [nth_set]
    have := h1 q
    have := h1 p
    split <;> omega
  unfold mvC
  split
  · refine ⟨by omega, fun q => ?_, fun k => by have := h2 k; show nth x.2.2 k ≤ _; omega⟩
    show nth ((wlC x p).set _ _) q ≤ _
    rw [nth_set]
    have := wl q
    have := wl (tgC ex x p).toNat
    split <;> omega
  · refine ⟨by omega, fun q => by have := wl q; show nth (wlC x p) q ≤ _; omega, fun k => ?_⟩
    show nth (x.2.2.set _ _) k ≤ _
    rw [nth_set]
    have := h2 k
    have := h2 (-1 - tgC ex x p).toNat
    split <;> omega
theorem CwB.run {ex : List (List Int)} : ∀ (ps : List Nat) {m : Int} {x : Cw}, CwB m x → CwB (m + ps.length) (runC ex x ps)
  | [], m, x, h => by
    show CwB (m + ((0 : Nat) : Int)) x
    rw [show m + ((0 : Nat) : Int) = m by omega]
    exact h
  | p :: ps, m, x, h => by
    have := CwB.run (ex := ex) ps (h.mv (ex := ex) p)
    have e : m + 1 + (ps.length : Int) = m + ((p :: ps).length : Int) := by simp; omega
    rw [e] at this
    exact this
end K26

namespace K26
open PySem PySem.Spec PyProof.Rows L2 DD
theorem isCB_true {i b : Int} (h0 : 0 ≤ i) (h1 : i < b) : isCB (.int i) b = true := by
  show (decide (0 ≤ i) && decide (i < b)) = true
  rw [decide_eq_true h0, decide_eq_true h1]; rfl
section
variable {P : Program} {w : World} {K : PySem.W.Frag} {mg : Str → Option Value} {base : Heap} {f C : Addr} {fd : FuncData} {k : Nat}
/-! ### numbers -/
def isN : D → Bool
  | .int i => decide (0 ≤ i) && decide (i < 10 ^ 30)
  | _ => false
theorem ok_is_number (Fc : Df P w K mg base k "is_count" ["value"] (spD (c1 isC))) (F : Fun K "is_number" "is_number" s_is_number f fd) : FnOk P w K mg base CX0 (k + 1) f fd ["value"] (spD (c1 isN)) := by
  refine fnD F c_is_number (fun ds Z h => ?_) (fun cdv A outer s H E ds Z hr h => ?_)
  · obtain ⟨d, rfl, _⟩ := h
    rfl
  · obtain ⟨d, rfl, pl, q⟩ := h
    refine ss_one (s_ret (w_and (call Fc hr (a1 (nm 0 ⟨_, rfl, pl, _, rfl, ?_⟩)))))
    cases hb : isC d with
    | true =>
      cases d <;> first | cases hb | skip
      rename_i i
      have h0 : decide (0 ≤ i) = true := hb
      have e : isN (.int i) = decide (i < 10 ^ 30) := by
        show (decide (0 ≤ i) && decide (i < 10 ^ 30)) = _
        rw [h0]; rfl
      rw [e] at q
      exact w_one (w_cmpG (nm 0 (w_binG (w_int (w_int (o_pow ⟨⟨by decide, by decide, by decide⟩, o_lt q⟩))))))
    | false =>
      have e : isN d = false := by
        cases d <;> first | rfl | skip
        rename_i i
        have h0 : decide (0 ≤ i) = false := hb
        show (decide (0 ≤ i) && _) = false
        rw [h0]; rfl
      rw [e] at q
      exact q
def cAreN : List D → (D → Prop) → Prop := fun ds Z => ∃ d l n, ds = [d, .int (n : Nat)] ∧ rowI d l ∧ Nums n l ∧ n ≤ 24 ∧ Z (.bl true)
theorem ok_are_numbers (T : Blt mg) (Fr : Df P w K mg base k "is_row" ["value"] (spD (c1 isRow))) (Fn : Df P w K mg base k "is_number" ["value"] (spD (c1 isN))) (F : Fun K "are_numbers" "are_numbers" s_are_numbers f fd) : FnOk P w K mg base CX0 (k + 1) f fd ["value", "many"] (spD cAreN) := by
  refine fnD F c_are_numbers (fun ds Z h => ?_) (fun cdv A outer s H E ds Z hr h => ?_)
  · obtain ⟨d, l, n, rfl, _⟩ := h
    rfl
  · obtain ⟨d, l, n, rfl, hd, hl, h24, q⟩ := h
    have hd2 : d = .lst (lI l) ∨ d = .tup (lI l) := hd
    have hpl : Pl d := by rcases hd with rfl | rfl <;> exact ⟨_, rfl⟩
    have hrow : isRow d = true := by rcases hd with rfl | rfl <;> rfl
    refine ss_one (s_ret (w_and (call Fr hr (a1 (nm 0 ⟨_, rfl, hpl, _, rfl, ?_⟩)))))
    rw [hrow]
    show W _ _ _ _ _ _
    refine w_and (w_cmpG (w_callB (id := "len") true rfl T.len (by decide +kernel) (a1 (nm 0 (c_len hd2 (nm 1 (o_eq ⟨_, rfl, ?_⟩)))))))
    rw [decide_eq_true (by rw [lI_len, hl.len])]
    show W _ _ _ _ _ _
    refine w_one (w_callB true rfl T.all (by decide +kernel) (a1 (lc1 2 (fun x => .bl (isN x)) c_are_numbers (wi_row hd2 (fun Q h => nm 0 h) ⟨?_, fun x hx _ _ _ _ _ => ?_, c_allD rfl ?_⟩))))
    · rw [lI_len, hl.len]; omega
    · exact call Fn hr (a1 (nm 2 ⟨_, rfl, pl_ints x hx, rfl⟩))
    · have e : (lI l).all isN = true := ints_all fun t ht => by
        obtain ⟨a, b⟩ := hl.num t ht
        show (decide (0 ≤ t) && decide (t < 10 ^ 30)) = true
        rw [decide_eq_true a, decide_eq_true b]; rfl
      rw [e]; exact q
/-! ### checks -/
def cNum (C : Addr) : List D → (D → Prop) → Prop := fun ds Z => ∃ e ex d l, ds = [netD C e ex, d] ∧ rowI d l ∧ Valid e ex ∧ Nums ex.length l ∧ Z .non
theorem ok_check_starts {j : Nat} (N : NetP P w K mg base C j) (hj : j ≤ k) (Fa : Df P w K mg base k "are_numbers" ["value", "many"] (spD cAreN)) (F : Fun K "check_starts" "check_starts" s_check_starts f fd) : FnOk P w K mg base CX0 (k + 2) f fd ["net", "starts"] (spD (cNum C)) := by
  refine fnD F c_check_starts (fun ds Z h => ?_) (fun cdv A outer s H E ds Z hr h => ?_)
  · obtain ⟨e, ex, d, l, rfl, _⟩ := h
    rfl
  · obtain ⟨e, ex, d, l, rfl, hd, v, hl, q⟩ := h
    refine ss_one (s_if (t_not (t_val (call Fa (hr.mono (Nat.le_succ _)) (aG (nm 1 (a1 (w_points N (hr.mono (by omega)) (nm 0 ⟨e, ex, rfl, v, d, l, _, rfl, hd, hl, v.n24, _, rfl, ?_⟩)))))))))
    show WSs _ [] _ _
    exact ss_nil q
end
section
variable {P : Program} {w : World} {K : PySem.W.Frag} {mg : Str → Option Value} {base : Heap} {f C : Addr} {fd : FuncData} {k : Nat}
def cTr (C : Addr) : List D → (D → Prop) → Prop := fun ds Z => ∃ e ex d st d2 ss, ds = [netD C e ex, d, d2] ∧ rowI d st ∧ rowI d2 ss ∧ Valid e ex ∧ ValidS ex st ∧ Nums ex.length ss ∧ Z .non
theorem ok_check_trains (Fn : Df P w K mg base k "check_net" ["net"] (spD (cNet C fun _ _ => .non))) (Fs : Df P w K mg base k "check_setting" ["net", "setting"] (spD (cSet C fun _ _ _ => .non))) (Fa : Df P w K mg base k "check_starts" ["net", "starts"] (spD (cNum C)))
    (F : Fun K "check_trains" "check_trains" s_check_trains f fd) : FnOk P w K mg base CX0 (k + 1) f fd ["net", "setting", "starts"] (spD (cTr C)) := by
  refine fnD F c_check_trains (fun ds Z h => ?_) (fun cdv A outer s H E ds Z hr h => ?_)
  · obtain ⟨e, ex, d, st, d2, ss, rfl, _⟩ := h
    rfl
  · obtain ⟨e, ex, d, st, d2, ss, rfl, hd, hd2, v, hst, hss, q⟩ := h
    refine ss_cons (s_expr (call Fn hr (a1 (nm 0 ⟨e, ex, rfl, v, ?_⟩))))
    show WSs _ _ _ _
    refine ss_cons (s_expr (call Fs hr (aG (nm 0 (a1 (nm 1 ⟨e, ex, d, st, rfl, hd, v, hst, ?_⟩))))))
    show WSs _ _ _ _
    refine ss_one (s_expr (call Fa hr (aG (nm 0 (a1 (nm 2 ⟨e, ex, _, ss, rfl, hd2, v, hss, ?_⟩))))))
    exact q
theorem ok_is_point {j : Nat} (N : NetP P w K mg base C j) (hj : j ≤ k) (Fc : Df P w K mg base k "is_count_below" ["value", "bound"] (spD (c2 isCB))) (F : Fun K "is_point" "is_point" s_is_point f fd) : FnOk P w K mg base CX0 (k + 2) f fd ["net", "value"] (spD (cNet1 C fun d _ ex => isCB d ex.length)) := by
  refine fnD F c_is_point (fun ds Z h => ?_) (fun cdv A outer s H E ds Z hr h => ?_)
  · obtain ⟨e, ex, d, rfl, _⟩ := h
    rfl
  · obtain ⟨e, ex, d, rfl, v, pl, q⟩ := h
    exact ss_one (s_ret (call Fc (hr.mono (Nat.le_succ _)) (aG (nm 1 (a1 (w_points N (hr.mono (by omega)) (nm 0 ⟨e, ex, rfl, v, _, _, rfl, pl, q⟩)))))))
def cPt (C : Addr) : List D → (D → Prop) → Prop := fun ds Z => ∃ e ex b, ds = [netD C e ex, .int b] ∧ Valid e ex ∧ (0 ≤ b ∧ b < ex.length) ∧ Z .non
theorem ok_check_point (Fp : Df P w K mg base k "is_point" ["net", "value"] (spD (cNet1 C fun d _ ex => isCB d ex.length))) (F : Fun K "check_point" "check_point" s_check_point f fd) : FnOk P w K mg base CX0 (k + 1) f fd ["net", "point"] (spD (cPt C)) := by
  refine fnD F c_check_point (fun ds Z h => ?_) (fun cdv A outer s H E ds Z hr h => ?_)
  · obtain ⟨e, ex, b, rfl, _⟩ := h
    rfl
  · obtain ⟨e, ex, b, rfl, v, ⟨b0, b1⟩, q⟩ := h
    refine ss_one (s_if (t_not (t_val (call Fp hr (aG (nm 0 (a1 (nm 1 ⟨e, ex, _, rfl, v, pl_int b, _, rfl, ?_⟩))))))))
    have e1 : isCB (.int b) ex.length = true := by
      show (decide _ && decide _) = true
      rw [decide_eq_true b0, decide_eq_true b1]; rfl
    show if (!isCB (.int b) ex.length) = true then WSs _ _ _ _ else WSs _ _ _ _
    rw [e1]
    show WSs _ [] _ _
    exact ss_nil q
def cMst : List D → (D → Prop) → Prop := fun ds Z => ∃ (m : Nat) (b : Int), ds = [.int (m : Int), .int b] ∧ (m : Int) ≤ b ∧ Z .non
theorem ok_check_most (Fc : Df P w K mg base k "is_count_below" ["value", "bound"] (spD (c2 isCB))) (F : Fun K "check_most" "check_most" s_check_most f fd) : FnOk P w K mg base CX0 (k + 1) f fd ["most", "bound"] (spD cMst) := by
  refine fnD F c_check_most (fun ds Z h => ?_) (fun cdv A outer s H E ds Z hr h => ?_)
  · obtain ⟨m, b, rfl, _⟩ := h
    rfl
  · obtain ⟨m, b, rfl, hm, q⟩ := h
    refine ss_one (s_if (t_not (t_val (call Fc hr (aG (nm 0 (a1 (w_binG (nm 1 (w_int (o_add ⟨_, _, rfl, pl_int _, _, rfl, ?_⟩)))))))))))
    rw [isCB_true (by omega) (by omega)]
    show WSs _ [] _ _
    exact ss_nil q
end
end K26

namespace K26
open PySem PySem.Spec PyProof.Rows L2 DD
/-! ### crowds -/
def crD (x : Cw) : D := .tup [.tup (lI x.1), .tup (lI x.2.1), .tup (lI x.2.2)]
structure OkC (e : Int) (ex : List (List Int)) (x : Cw) : Prop where
  w : Nums ex.length x.1
  s : ValidS ex x.2.1
  c : Nums e.toNat x.2.2
/-- the points at which a train waits -/
def canL (w : List Int) : List Int := ((List.range w.length).filter fun p => decide (0 < nth w p)).map fun p : Nat => (p : Int)
theorem mem_canL {w : List Int} {i : Int} : i ∈ canL w ↔ ∃ p : Nat, p < w.length ∧ 0 < nth w p ∧ i = (p : Int) := by
  unfold canL
  rw [List.mem_map]
  constructor
  · rintro ⟨p, hp, rfl⟩
    obtain ⟨a, b⟩ := List.mem_filter.mp hp
    exact ⟨p, List.mem_range.mp a, of_decide_eq_true b, rfl⟩
  · rintro ⟨p, hp, h, rfl⟩
    exact ⟨p, List.mem_filter.mpr ⟨List.mem_range.mpr hp, decide_eq_true h⟩, rfl⟩
theorem canL_len (w : List Int) : (canL w).length ≤ w.length := by
  unfold canL
  rw [List.length_map]
  have := List.length_filter_le (fun p => decide (0 < nth w p)) (List.range w.length)
  rw [List.length_range] at this
  exact this
theorem canL_nil {w : List Int} (h : canL w = []) (hn : ∀ q, q < w.length → 0 ≤ nth w q) : ∀ q, q < w.length → nth w q = 0 := fun q hq => by
  have a := hn q hq
  by_cases z : 0 < nth w q
  · have : ((q : Nat) : Int) ∈ canL w := mem_canL.mpr ⟨q, hq, z, rfl⟩
    rw [h] at this; cases this
  · omega
theorem canL_none {w : List Int} (h : ∀ q, q < w.length → nth w q = 0) : canL w = [] := by
  refine List.eq_nil_iff_forall_not_mem.mpr fun i hi => ?_
  obtain ⟨p, hp, hw, _⟩ := mem_canL.mp hi
  have := h p hp
  omega
def posB : D → Bool
  | .tup [_, .int m] => decide (0 < m)
  | _ => false
def fst2 : D → D
  | .tup [a, _] => a
  | _ => .non
theorem enum_ints (w : List Int) : ((rng 0 (lI w).length).zip (lI w)).map (fun q => D.tup [q.1, q.2]) = (List.range w.length).map fun i : Nat => D.tup [.int (i : Int), .int (nth w i)] := by
  rw [enum_eq, lI_len]
  refine List.map_congr_left fun i hi => ?_
  have hi := List.mem_range.mp hi
  unfold lI
  rw [List.getD_eq_getElem?_getD, List.getElem?_map, nth_get hi]; rfl
theorem can_D (w : List Int) : ((((rng 0 (lI w).length).zip (lI w)).map fun q => D.tup [q.1, q.2]).filter posB).map fst2 = lI (canL w) := by
  rw [enum_ints, List.filter_map, List.map_map]
  unfold canL lI
  rw [List.map_map]
  rfl
section
variable {P : Program} {w : World} {K : PySem.W.Frag} {mg : Str → Option Value} {base : Heap} {f C : Addr} {fd : FuncData} {k : Nat}
def cWp : List D → (D → Prop) → Prop := fun ds Z => ∃ d l, ds = [d] ∧ rowI d l ∧ l.length ≤ 24 ∧ Z (.lst (lI (canL l)))
theorem ok_waiting_points (T : Blt mg) (F : Fun K "_waiting_points" "_waiting_points" s_waiting_points f fd) : FnOk P w K mg base CX0 (k + 1) f fd ["waiting"] (spD cWp) := by
  refine fnD F c_waiting_points (fun ds Z h => ?_) (fun cdv A outer s H E ds Z hr h => ?_)
  · obtain ⟨d, l, rfl, _⟩ := h
    rfl
  · obtain ⟨d, l, rfl, hd, h24, q⟩ := h
    have hd2 : d = .lst (lI l) ∨ d = .tup (lI l) := hd
    refine ss_one (s_ret (lc2If 1 2 posB fst2 c_waiting_points (wi_enumR hd2 rfl T.enum (a1 (nm 0 ⟨rfl, ?_, fun x hx => ?_, ?_⟩)))))
    · rw [enum_ints, List.length_map, List.length_range]; omega
    · rw [enum_ints] at hx
      obtain ⟨i, hi, rfl⟩ := List.mem_map.mp hx
      exact ⟨_, _, rfl, fun _ _ _ _ _ => ⟨t_cmpG (nm 2 (w_int (o_gt ⟨_, rfl, rfl⟩))), fun _ => nm 1 rfl⟩⟩
    · rw [can_D]; exact q
def cCr (C : Addr) (r : Int → List (List Int) → Cw → D) : List D → (D → Prop) → Prop := fun ds Z => ∃ e ex x, ds = [netD C e ex, crD x] ∧ Valid e ex ∧ OkC e ex x ∧ Z (r e ex x)
theorem ok_is_crowd {j : Nat} (T : Blt mg) (N : NetP P w K mg base C j) (hj : j + 1 ≤ k) (Fn : Df P w K mg base k "check_net" ["net"] (spD (cNet C fun _ _ => .non))) (Fa : Df P w K mg base k "are_numbers" ["value", "many"] (spD cAreN)) (Fs : Df P w K mg base k "is_setting" ["net", "value"] (spD (cSet C fun _ _ _ => .bl true)))
    (F : Fun K "is_crowd" "is_crowd" s_is_crowd f fd) : FnOk P w K mg base CX0 (k + 1) f fd ["net", "value"] (spD (cCr C fun _ _ _ => .bl true)) := by
  refine fnD F c_is_crowd (fun ds Z h => ?_) (fun cdv A outer s H E ds Z hr h => ?_)
  · obtain ⟨e, ex, x, rfl, _⟩ := h
    rfl
  · obtain ⟨e, ex, x, rfl, v, ok, q⟩ := h
    have n24 := v.n24
    have e0 := v.e0
    have e6 := v.e6
    have kt : ∀ ys : List D, kitB "tuple" "tuple" = some true := fun _ => by decide +kernel
    refine ss_cons (s_expr (call Fn hr (a1 (nm 0 ⟨e, ex, rfl, v, ?_⟩))))
    show WSs _ _ _ _
    refine ss_cons (s_if (t_bool (tb_or (t_not (t_val (w_callB true rfl T.isi (by decide +kernel) (aG (nm 1 (a1 (bltin T.tuple (c_isi (x := crD x) rfl (kt []) ⟨_, rfl, ?_⟩)))))))))))
    show WTB _ _ _ _ _ _ _
    refine tb_or1 (t_cmpG (w_callB true rfl T.len (by decide +kernel) (a1 (nm 1 (c_lenT (w_int (o_ne ⟨_, rfl, ?_⟩)))))))
    show WSs _ [] _ _
    refine ss_nil ?_
    show WSs _ _ _ _
    refine ss_cons (s_if (t_not (t_val (w_callB true rfl T.all (by decide +kernel) (a1 (lc1 5 (fun _ => .bl true) c_is_crowd (wi_tup (nm 1 ⟨_, rfl, ?_, fun y hy _ _ _ _ _ => ?_, c_allD (b := fun _ => true) rfl ⟨_, rfl, ?_⟩⟩))))))))
    · show 3 ≤ 40000; decide
    · have hy : y = .tup (lI x.1) ∨ y = .tup (lI x.2.1) ∨ y = .tup (lI x.2.2) := by simpa using hy
      rcases hy with rfl | rfl | rfl <;> exact w_callB true rfl T.isi (by decide +kernel) (aG (nm 5 (a1 (bltin T.tuple (c_isi rfl (kt []) rfl)))))
    show WSs _ [] _ _
    refine ss_nil ?_
    show WSs _ _ _ _
    refine ss_cons (s_unp3 2 3 4 c_is_crowd (nm 1 ⟨_, _, _, rfl, ?_⟩))
    show WSs _ _ _ _
    refine ss_one (s_ret (w_and (call Fa hr (aG (nm 2 (a1 (w_points N (hr.mono hj) (nm 0 ⟨e, ex, rfl, v, _, x.1, ex.length, rfl, .inr rfl, ok.w, n24, _, rfl, ?_⟩))))))))
    show W _ _ _ _ _ _
    refine w_and (call Fs hr (aG (nm 0 (a1 (nm 3 ⟨e, ex, _, x.2.1, rfl, .inr rfl, v, ok.s, _, rfl, ?_⟩)))))
    show W _ _ _ _ _ _
    refine w_one (call Fa hr (aG (nm 4 (a1 (w_ends N (hr.mono hj) (nm 0 ⟨e, ex, rfl, v, _, x.2.2, e.toNat, ?_, .inr rfl, ok.c, by omega, q⟩))))))
    rw [Int.toNat_of_nonneg e0]
theorem ok_check_crowd (Fn : Df P w K mg base k "check_net" ["net"] (spD (cNet C fun _ _ => .non))) (Fc : Df P w K mg base k "is_crowd" ["net", "value"] (spD (cCr C fun _ _ _ => .bl true))) (F : Fun K "_check_crowd" "_check_crowd" s_check_crowd f fd) : FnOk P w K mg base CX0 (k + 1) f fd ["net", "crowd"] (spD (cCr C fun _ _ _ => .non)) := by
  refine fnD F c_check_crowd (fun ds Z h => ?_) (fun cdv A outer s H E ds Z hr h => ?_)
  · obtain ⟨e, ex, x, rfl, _⟩ := h
    rfl
  · obtain ⟨e, ex, x, rfl, v, ok, q⟩ := h
    refine ss_cons (s_expr (call Fn hr (a1 (nm 0 ⟨e, ex, rfl, v, ?_⟩))))
    show WSs _ _ _ _
    refine ss_one (s_if (t_not (t_val (call Fc hr (aG (nm 0 (a1 (nm 1 ⟨e, ex, x, rfl, v, ok, _, rfl, ?_⟩))))))))
    show WSs _ [] _ _
    exact ss_nil q
def cCo (C : Addr) : List D → (D → Prop) → Prop := fun ds Z => ∃ e ex d st d2 ss, ds = [netD C e ex, d, d2] ∧ rowI d st ∧ rowI d2 ss ∧ Valid e ex ∧ 1 ≤ e ∧ ValidS ex st ∧ Nums ex.length ss ∧ Z (crD (x0 e st ss))
theorem w_tupR {X : Cx} {p g : Bool} {ρ : Rho} {Q : D → Rho → Prop} {x : Str} {pp px pos : Pos} {i : Nat} {d : D} {l : List Int} (hm : X.mg "tuple" = none) (hd : rowI d l) (q : Q (.tup (lI l)) ρ) (hN : X.N[i]? = some x) (hr : ρ[i]? = some (.val d)) (hv : Vis X.env.scope x) (hdb : (x == ("__debug__" : Str)) = false) (hcd : (x == ("__classdict__" : Str)) = false)
    (hg : Gl X "tuple" := by rfl) (he : starEach [.Name x px] X.env = (false, eval (.Name x px) X.env) :: starEach [] X.env := by rfl) (hpl : (backTo pos (starEach [] X.env)).any (·.1) = false := by rfl) : W p g X (.Call (.Name "tuple" pp) [.Name x px] [] pos) ρ Q := by
  rcases hd with rfl | rfl
  · exact w_callTy (T := "tuple") true hg hm (by decide +kernel) (a1 (w_name hN hv hdb hcd hr (c_tuple q))) (by decide) (by decide) he hpl
  · exact w_callTy (T := "tuple") true hg hm (by decide +kernel) (a1 (w_name hN hv hdb hcd hr (c_tupleT q))) (by decide) (by decide) he hpl
theorem rep0T (n : Nat) (h : (n : Int) = (n : Int)) : (List.replicate ((n : Int)).toNat [D.int 0]).flatten = lI (List.replicate n 0) := rep0 n
theorem ok_crowd_of {j : Nat} (T : Blt mg) (N : NetP P w K mg base C j) (hj : j + 1 ≤ k) (Ft : Df P w K mg base k "check_trains" ["net", "setting", "starts"] (spD (cTr C))) (F : Fun K "crowd_of" "crowd_of" s_crowd_of f fd) : FnOk P w K mg base CX0 (k + 1) f fd ["net", "setting", "starts"] (spD (cCo C)) := by
  refine fnD F c_crowd_of (fun ds Z h => ?_) (fun cdv A outer s H E ds Z hr h => ?_)
  · obtain ⟨e, ex, d, st, d2, ss, rfl, _⟩ := h
    rfl
  · obtain ⟨e, ex, d, st, d2, ss, rfl, hd, hd2, v, e1, hst, hss, q⟩ := h
    have e6 := v.e6
    have three : (3 : Nat) ≤ sizeLine := by decide
    have one : (1 : Nat) ≤ sizeLine := by decide
    refine ss_cons (s_expr (call Ft hr (aG (nm 0 (aG (nm 1 (a1 (nm 2 ⟨e, ex, d, st, d2, ss, rfl, hd, hd2, v, hst, hss, ?_⟩))))))))
    show WSs _ _ _ _
    refine ss_one (s_ret (w_tup (aG (w_tupR (i := 2) T.tuple hd2 (aG (w_tupR (i := 1) T.tuple hd (a1 (w_binG (w_tup (a1 (w_int ⟨one, w_ends N (hr.mono hj) (nm 0 ⟨e, ex, rfl, v, o_repT ⟨⟨by simp, e1, by omega, by decide⟩, three, ?_⟩⟩)⟩))))) rfl rfl (.inl rfl) (by decide) (by decide))) rfl rfl (.inl rfl) (by decide) (by decide)))))
    obtain ⟨n, rfl⟩ : ∃ n : Nat, e = (n : Int) := ⟨e.toNat, by omega⟩
    rw [rep0]
    unfold x0 crD at q
    rw [Int.toNat_natCast] at q
    exact q
theorem ok_is_empty (Fc : Df P w K mg base k "_check_crowd" ["net", "crowd"] (spD (cCr C fun _ _ _ => .non))) (Fw : Df P w K mg base k "_waiting_points" ["waiting"] (spD cWp)) (F : Fun K "is_empty" "is_empty" s_is_empty f fd) : FnOk P w K mg base CX0 (k + 1) f fd ["net", "crowd"] (spD (cCr C fun _ _ x => .bl (canL x.1).isEmpty)) := by
  refine fnD F c_is_empty (fun ds Z h => ?_) (fun cdv A outer s H E ds Z hr h => ?_)
  · obtain ⟨e, ex, x, rfl, _⟩ := h
    rfl
  · obtain ⟨e, ex, x, rfl, v, ok, q⟩ := h
    refine ss_cons (s_expr (call Fc hr (aG (nm 0 (a1 (nm 1 ⟨e, ex, x, rfl, v, ok, ?_⟩))))))
    show WSs _ _ _ _
    refine ss_cons (s_unp3 2 3 3 c_is_empty (nm 1 ⟨_, _, _, rfl, ?_⟩))
    show WSs _ _ _ _
    refine ss_one (s_ret (w_notT (call Fw hr (a1 (nm 2 ⟨_, x.1, rfl, .inr rfl, by rw [ok.w.len]; exact v.n24, _, rfl, ?_⟩)))))
    rw [show (!(!(lI (canL x.1)).isEmpty)) = (canL x.1).isEmpty by unfold lI; rw [List.isEmpty_map, Bool.not_not]]
    exact q
theorem ok_moves (Fc : Df P w K mg base k "_check_crowd" ["net", "crowd"] (spD (cCr C fun _ _ _ => .non))) (Fw : Df P w K mg base k "_waiting_points" ["waiting"] (spD cWp)) (F : Fun K "moves" "moves" s_moves f fd) : FnOk P w K mg base CX0 (k + 1) f fd ["net", "crowd"] (spD (cCr C fun _ _ x => .lst (lI (canL x.1)))) := by
  refine fnD F c_moves (fun ds Z h => ?_) (fun cdv A outer s H E ds Z hr h => ?_)
  · obtain ⟨e, ex, x, rfl, _⟩ := h
    rfl
  · obtain ⟨e, ex, x, rfl, v, ok, q⟩ := h
    refine ss_cons (s_expr (call Fc hr (aG (nm 0 (a1 (nm 1 ⟨e, ex, x, rfl, v, ok, ?_⟩))))))
    show WSs _ _ _ _
    refine ss_cons (s_unp3 2 3 3 c_moves (nm 1 ⟨_, _, _, rfl, ?_⟩))
    show WSs _ _ _ _
    exact ss_one (s_ret (call Fw hr (a1 (nm 2 ⟨_, x.1, rfl, .inr rfl, by rw [ok.w.len]; exact v.n24, q⟩))))
end
end K26

namespace K26
open PySem PySem.Spec PyProof.Rows L2 DD
section
variable {P : Program} {w : World} {K : PySem.W.Frag} {mg : Str → Option Value} {base : Heap} {f C : Addr} {fd : FuncData} {k : Nat}
/-! ### the parts of a crowd, opened and shut -/
abbrev ps3 (x : Cw) : List (List Int) := [x.1, x.2.1, x.2.2]
structure Okm (e : Int) (ex : List (List Int)) (x : Cw) (p : Nat) : Prop where
  hp : p < ex.length
  lw : x.1.length = ex.length
  ls : x.2.1.length = ex.length
  lc : x.2.2.length = e.toNat
  s : 0 ≤ nth x.2.1 p ∧ nth x.2.1 p < (rowAt ex p).length
  t : -e ≤ tgC ex x p ∧ tgC ex x p < ex.length
theorem CrOf.okm {e : Int} {ex : List (List Int)} {v : Valid e ex} {st ss : List Int} {x : Cw} {c : Cr} (h : CrOf v st ss x c) {p : Nat} (hp : p < ex.length) : Okm e ex x p := by
  obtain ⟨_, s, t⟩ := h.tg hp
  exact ⟨hp, h.lw, h.ls, h.lc, s, t⟩
def its3 : D → List Int
  | .tup xs => xs.map fun d => match d with
    | .int i => i
    | _ => 0
  | _ => []
theorem its3_tup (l : List Int) : its3 (.tup (lI l)) = l := by
  show (l.map D.int).map _ = l
  rw [List.map_map]
  exact List.map_id'' (fun _ => rfl) l
def cOp : List D → (List (List Int) → Prop) → Prop := fun ds Z => ∃ x : Cw, ds = [crD x] ∧ Z (ps3 x)
theorem ok_opened (T : Blt mg) (F : Fun K "_opened" "_opened" s_opened f fd) : FnOk P w K mg base CX0 (k + 1) f fd ["crowd"] (spL cOp) := by
  refine fnL F c_opened (fun ds Z h => ?_) rfl (fun cdv A outer s H E ds Z hr h => ?_)
  · obtain ⟨x, rfl, _⟩ := h
    rfl
  · obtain ⟨x, rfl, q⟩ := h
    refine wnc_lc1 1 its3 c_opened (wi_tup (nm 0 ⟨_, rfl, ?_, fun d hd s1 H1 C1 cl fp => ?_, ?_⟩))
    · show 3 ≤ 40000; decide
    · have hd : d = .tup (lI x.1) ∨ d = .tup (lI x.2.1) ∨ d = .tup (lI x.2.2) := by simpa using hd
      rcases hd with rfl | rfl | rfl <;> (rw [its3_tup]; exact wnew_listR (i := 1) (.inr rfl) T.list rfl rfl (.inl rfl))
    · show Z [its3 (.tup (lI x.1)), its3 (.tup (lI x.2.1)), its3 (.tup (lI x.2.2))]
      rw [its3_tup, its3_tup, its3_tup]; exact q
def toT : D → D
  | .lst xs => .tup xs
  | d => d
def cSh : List D → (D → Prop) → Prop := fun ds Z => ∃ x : Cw, ds = [.lst [.lst (lI x.1), .lst (lI x.2.1), .lst (lI x.2.2)]] ∧ Z (crD x)
theorem ok_shut (T : Blt mg) (F : Fun K "_shut" "_shut" s_shut f fd) : FnOk P w K mg base CX0 (k + 1) f fd ["parts"] (spD cSh) := by
  refine fnD F c_shut (fun ds Z h => ?_) (fun cdv A outer s H E ds Z hr h => ?_)
  · obtain ⟨x, rfl, _⟩ := h
    rfl
  · obtain ⟨x, rfl, q⟩ := h
    refine ss_one (s_ret (w_callTy (T := "tuple") true rfl T.tuple (by decide +kernel) (a1 (lc1 1 toT c_shut (wi_lst (nm 0 ⟨_, rfl, ?_, fun d hd s1 H1 C1 cl fp => ?_, c_tuple ?_⟩))))))
    · show 3 ≤ 40000; decide
    · have hd : d = .lst (lI x.1) ∨ d = .lst (lI x.2.1) ∨ d = .lst (lI x.2.2) := by simpa using hd
      rcases hd with rfl | rfl | rfl <;> exact w_callTy (T := "tuple") true rfl T.tuple (by decide +kernel) (a1 (nm 1 (c_tuple rfl)))
    · exact q
/-! ### a move, in the lists -/
theorem mset (l : List Int) (j : Nat) (v : Int) : (l.map D.int).set j (.int v) = (l.set j v).map D.int := List.map_set.symm
def cMv : List D → CS → (CS → Prop) → Prop := fun ds cs Z => ∃ (e : Int) (ex : List (List Int)) (x : Cw) (p : Nat) (a0 a1 a2 : Addr), ds = [.lst (rowsL ex), .lst [.adr a0, .adr a1, .adr a2], .int (p : Int)] ∧ cs = cellsOf [a0, a1, a2] (ps3 x) ∧ Valid e ex ∧ Okm e ex x p ∧ Z (cellsOf [a0, a1, a2] (ps3 (mvC ex x p)))
theorem ok_move (T : Blt mg) (F : Fun K "_move" "_move" s_move f fd) : FnOk P w K mg base CX0 (k + 1) f fd ["rows", "parts", "point"] (spC cMv) := by
  refine fnC F c_move (fun ds cs Z h => ?_) (fun cdv A outer s H E ds cs Z hr h => ?_)
  · obtain ⟨e, ex, x, p, a0, a1, a2, rfl, _⟩ := h
    rfl
  · obtain ⟨e, ex, x, p, b0, b1, b2, rfl, rfl, v, ok, q⟩ := h
    obtain ⟨x1, x2, x3⟩ := x
    obtain ⟨hp, lw, ls, lc, ⟨s0, s1⟩, t0, t1⟩ := ok
    have lw : x1.length = ex.length := lw
    have ls : x2.length = ex.length := ls
    have lc : x3.length = e.toNat := lc
    have s0 : 0 ≤ nth x2 p := s0
    have s1 : nth x2 p < (rowAt ex p).length := s1
    have e0 := v.e0
    have n24 := v.n24
    have r1 := v.r1 _ (rowAt_mem hp)
    obtain ⟨tg, htg⟩ : ∃ tg, tg = tgC ex (x1, x2, x3) p := ⟨_, rfl⟩
    rw [← htg] at t0 t1
    have htg' : (rowAt ex p)[(nth x2 p).toNat]? = some tg := by
      rw [htg]
      exact nth_get (by omega)
    have hrow : atI (rowsL ex) ((p : Nat) : Int) = some (.lst (lI (rowAt ex p))) := rows_atI (by omega) (by omega)
    refine cc_cons (c_old (s_unp3L 3 4 5 c_move (nm 1 ⟨_, _, _, rfl, ?_⟩)))
    show WCs _ _ [.val (.lst (rowsL ex)), .val (.lst [.adr b0, .adr b1, .adr b2]), .val (.int (p : Int)), .val (.adr b0), .val (.adr b1), .val (.adr b2), .un, .un] (cellsOf [b0, b1, b2] [x1, x2, x3]) _ _
    have at2 : atI (lI x2) ((p : Nat) : Int) = some (.int (nth x2 p)) := ints_atI (by omega) (by rw [Int.toNat_natCast]; exact nth_get (by omega))
    refine cc_cons (c_setM 4 6 c_move (.one (a := b1) (ds := x2.map D.int) (by simp [cellsOf])) (w_ix true true (fun _ _ => rfl) (.inr rfl) (nm 4 (nm 2 (x_lst (ds := x2.map D.int) at2 ⟨rfl, ?_⟩)))))
    show WCs _ _ [.val (.lst (rowsL ex)), .val (.lst [.adr b0, .adr b1, .adr b2]), .val (.int (p : Int)), .val (.adr b0), .val (.adr b1), .val (.adr b2), .val (.int (nth x2 p)), .un] (cellsOf [b0, b1, b2] [x1, x2, x3]) _ _
    refine cc_cons (c_old (set 7 c_move (w_ix true true (fun _ _ => rfl) (.inr rfl) (w_ix true true (fun _ _ => rfl) (.inr rfl) (nm 0 (nm 2 (x_lst hrow (nm 6 (x_lst (ints_atI s0 htg') ?_)))))))))
    show WCs _ _ [.val (.lst (rowsL ex)), .val (.lst [.adr b0, .adr b1, .adr b2]), .val (.int (p : Int)), .val (.adr b0), .val (.adr b1), .val (.adr b2), .val (.int (nth x2 p)), .val (.int tg)] (cellsOf [b0, b1, b2] [x1, x2, x3]) _ _
    have ixp : ∀ {n : Nat}, n = ex.length → ixN n ((p : Nat) : Int) = some p := fun {n} hn => by
      have := ixN_in (n := n) (i := (p : Int)) (by omega) (by omega)
      rw [Int.toNat_natCast] at this
      exact this
    refine cc_cons (c_item 4 1 (a := b1) (ds := x2.map D.int) rfl rfl (w_binG (w_binG (nm 6 (w_int (o_add (w_callB (id := "len") true rfl T.len (by decide +kernel) (a1 (w_ix true true (fun _ _ => rfl) (.inr rfl) (nm 0 (nm 2 (x_lst hrow (c_lenL (o_mod ⟨?_, nm 2 ⟨_, p, rfl, ixp (by rw [List.length_map]; exact ls), ?_⟩⟩))))))))))))))
    · rw [lI_len]; omega
    rw [mset, lI_len]
    show WCs _ _ [.val (.lst (rowsL ex)), .val (.lst [.adr b0, .adr b1, .adr b2]), .val (.int (p : Int)), .val (.adr b0), .val (.adr b1), .val (.adr b2), .val (.int (nth x2 p)), .val (.int tg)] (cellsOf [b0, b1, b2] [x1, stC ex (x1, x2, x3) p, x3]) _ _
    refine cc_cons (c_aug 3 0 (a := b0) (ns := x1) ip_sub rfl rfl (nm 2 ⟨_, p, nth x1 p, rfl, ixp lw, nth_get (by omega), w_int ⟨1, rfl, ?_⟩⟩))
    show WCs _ _ [.val (.lst (rowsL ex)), .val (.lst [.adr b0, .adr b1, .adr b2]), .val (.int (p : Int)), .val (.adr b0), .val (.adr b1), .val (.adr b2), .val (.int (nth x2 p)), .val (.int tg)] (cellsOf [b0, b1, b2] [wlC (x1, x2, x3) p, stC ex (x1, x2, x3) p, x3]) _ _
    have lwl : (wlC (x1, x2, x3) p).length = ex.length := by
      show (x1.set p _).length = _
      rw [List.length_set]; exact lw
    refine cc_one (c_if (t_cmpG (nm 7 (w_int (o_lt ⟨_, rfl, ?_⟩)))))
    by_cases ht : tg < 0
    · rw [if_pos (decide_eq_true ht)]
      refine cc_one (c_aug 5 2 (a := b2) (ns := x3) ip_add rfl rfl (w_binG (w_un (w_int (o_neg (nm 7 (o_sub ⟨_, (-1 - tg).toNat, nth x3 (-1 - tg).toNat, rfl, ixN_in (by omega) (by omega), nth_get (by omega), w_int ⟨1, rfl, ?_⟩⟩)))))))
      have em : mvC ex (x1, x2, x3) p = (wlC (x1, x2, x3) p, stC ex (x1, x2, x3) p, x3.set (-1 - tg).toNat (nth x3 (-1 - tg).toNat + 1)) := by
        unfold mvC
        rw [← htg, if_neg (by omega)]
      rw [em] at q
      exact ⟨q, rfl⟩
    · rw [if_neg (by rw [decide_eq_false ht]; decide)]
      refine cc_one (c_aug 3 0 (a := b0) (ns := wlC (x1, x2, x3) p) ip_add rfl rfl (nm 7 ⟨_, tg.toNat, nth (wlC (x1, x2, x3) p) tg.toNat, rfl, ixN_in (by omega) (by omega), nth_get (by omega), w_int ⟨1, rfl, ?_⟩⟩))
      have em : mvC ex (x1, x2, x3) p = ((wlC (x1, x2, x3) p).set tg.toNat (nth (wlC (x1, x2, x3) p) tg.toNat + 1), stC ex (x1, x2, x3) p, x3) := by
        unfold mvC
        rw [← htg, if_pos (by omega)]
      rw [em] at q
      exact ⟨q, rfl⟩
end
end K26

namespace K26
open PySem PySem.Spec PyProof.Rows L2 DD
section
variable {P : Program} {w : World} {K : PySem.W.Frag} {mg : Str → Option Value} {base : Heap} {f C : Addr} {fd : FuncData} {k : Nat}
/-! ### moved -/
theorem three_of {as : List Addr} {x : Cw} (h : as.length = (ps3 x).length) : ∃ a0 a1 a2, as = [a0, a1, a2] := by
  match as, h with
  | [a, b, c], _ => exact ⟨a, b, c, rfl⟩
abbrev lst3 (x : Cw) : D := .lst [.lst (lI x.1), .lst (lI x.2.1), .lst (lI x.2.2)]
theorem mz3 (a0 a1 a2 : Addr) (x : Cw) : Mz (cellsOf [a0, a1, a2] (ps3 x)) (.lst [.adr a0, .adr a1, .adr a2]) (lst3 x) := Mz.all (as := cellsOf [a0, a1, a2] (ps3 x)) fun _ h => h
def cBm : List D → (D → Prop) → Prop := fun ds Z => ∃ e ex x p, ds = [.lst (rowsL ex), crD x, .int ((p : Nat) : Int)] ∧ Valid e ex ∧ Okm e ex x p ∧ Z (crD (mvC ex x p))
theorem ok_behind_move (Fo : Df P w K mg base k "_opened" ["crowd"] (spL cOp)) (Fm : Df P w K mg base k "_move" ["rows", "parts", "point"] (spC cMv)) (Fs : Df P w K mg base k "_shut" ["parts"] (spD cSh)) (F : Fun K "_behind_move" "_behind_move" s_behind_move f fd) : FnOk P w K mg base CX0 (k + 1) f fd ["rows", "crowd", "point"] (spD cBm) := by
  refine fnD F c_behind_move (fun ds Z h => ?_) (fun cdv A outer s H E ds Z hr h => ?_)
  · obtain ⟨e, ex, x, p, rfl, _⟩ := h
    rfl
  · obtain ⟨e, ex, x, p, rfl, v, ok, q⟩ := h
    refine ss_cells 3 c_behind_move Fo hr (a1 (nm 1 ⟨x, rfl, fun as hl => ?_⟩))
    obtain ⟨b0, b1, b2, rfl⟩ := three_of hl
    show WCs _ _ [.val (.lst (rowsL ex)), .val (crD x), .val (.int (p : Int)), .val (.lst [.adr b0, .adr b1, .adr b2])] (cellsOf [b0, b1, b2] (ps3 x)) _ _
    refine cc_cons (c_call Fm hr (aG (nm 0 (aG (nm 3 (a1 (nm 2 ⟨e, ex, x, p, b0, b1, b2, rfl, rfl, v, ok, ?_⟩)))))))
    show WCs _ _ [.val (.lst (rowsL ex)), .val (crD x), .val (.int (p : Int)), .val (.lst [.adr b0, .adr b1, .adr b2])] (cellsOf [b0, b1, b2] (ps3 (mvC ex x p))) _ _
    refine cc_melt 3 (mz3 b0 b1 b2 (mvC ex x p)) ?_
    exact ss_one (s_ret (call Fs hr (a1 (nm 3 ⟨mvC ex x p, rfl, q⟩))))
def cMd (C : Addr) : List D → (D → Prop) → Prop := fun ds Z => ∃ e ex x p, ds = [netD C e ex, crD x, .int ((p : Nat) : Int)] ∧ Valid e ex ∧ OkC e ex x ∧ Okm e ex x p ∧ nth x.1 p ≠ 0 ∧ Z (crD (mvC ex x p))
theorem ok_moved {j : Nat} (N : NetP P w K mg base C j) (hj : j ≤ k) (Fc : Df P w K mg base k "_check_crowd" ["net", "crowd"] (spD (cCr C fun _ _ _ => .non))) (Fp : Df P w K mg base k "check_point" ["net", "point"] (spD (cPt C))) (Fb : Df P w K mg base k "_behind_move" ["rows", "crowd", "point"] (spD cBm))
    (F : Fun K "moved" "moved" s_moved f fd) : FnOk P w K mg base CX0 (k + 1) f fd ["net", "crowd", "point"] (spD (cMd C)) := by
  refine fnD F c_moved (fun ds Z h => ?_) (fun cdv A outer s H E ds Z hr h => ?_)
  · obtain ⟨e, ex, x, p, rfl, _⟩ := h
    rfl
  · obtain ⟨e, ex, x, p, rfl, v, ok, om, hw, q⟩ := h
    have hp := om.hp
    have lw := om.lw
    refine ss_cons (s_expr (call Fc hr (aG (nm 0 (a1 (nm 1 ⟨e, ex, x, rfl, v, ok, ?_⟩))))))
    show WSs _ _ _ _
    refine ss_cons (s_expr (call Fp hr (aG (nm 0 (a1 (nm 2 ⟨e, ex, (p : Int), rfl, v, ⟨by omega, by omega⟩, ?_⟩))))))
    show WSs _ _ _ _
    refine ss_cons (s_unp3 3 4 4 c_moved (nm 1 ⟨_, _, _, rfl, ?_⟩))
    show WSs _ _ _ _
    have at1 : atI (lI x.1) ((p : Nat) : Int) = some (.int (nth x.1 p)) := ints_atI (by omega) (by rw [Int.toNat_natCast]; exact nth_get (by omega))
    refine ss_cons (s_if (t_cmpG (w_ix true true (fun _ _ => rfl) (.inr rfl) (nm 3 (nm 2 (x_tup at1 (w_int (o_eq ⟨_, rfl, ?_⟩))))))))
    rw [decide_eq_false hw]
    show WSs _ [] _ _
    refine ss_nil ?_
    show WSs _ _ _ _
    exact ss_one (s_ret (call Fb hr (aG (w_exits N (hr.mono hj) (nm 0 ⟨e, ex, rfl, v, aG (nm 1 (a1 (nm 2 ⟨e, ex, x, p, rfl, v, om, q⟩)))⟩)))))
/-! ### a sequence -/
abbrev pI (ps : List Nat) : List Int := ps.map fun p : Nat => (p : Int)
theorem x0_ok {e : Int} {ex : List (List Int)} (v : Valid e ex) {st ss : List Int} (hst : ValidS ex st) (hss : Nums ex.length ss) : OkC e ex (x0 e st ss) := ⟨hss, hst, by simp [x0], fun t ht => by
  have : t = 0 := (List.mem_replicate.mp ht).2
  subst this
  exact ⟨by decide, by decide⟩⟩
def cBs (C : Addr) : List D → (D → Prop) → Prop := fun ds Z => ∃ e ex st ss d ps, ds = [netD C e ex, crD (x0 e st ss), d] ∧ rowI d (pI ps) ∧ ps.length ≤ 1000 ∧ Valid e ex ∧ ValidS ex st ∧ Nums ex.length ss ∧ CanC ex (x0 e st ss) ps ∧ Z (crD (runC ex (x0 e st ss) ps))
theorem take_snoc {ps : List Nat} {j p : Nat} (h : ps[j]? = some p) : ps.take (j + 1) = ps.take j ++ [p] := by rw [List.take_add_one, h]; rfl
theorem CanC.take {ex : List (List Int)} {x : Cw} {ps : List Nat} {j p : Nat} (h : CanC ex x ps) (hj : ps[j]? = some p) : CanC ex x (ps.take j) ∧ p < ex.length ∧ 0 < nth (runC ex x (ps.take j)).1 p := by
  have h2 := h
  rw [← List.take_append_drop (j + 1) ps] at h2
  have h3 := (CanC.app.mp h2).1
  rw [take_snoc hj] at h3
  obtain ⟨a, b⟩ := CanC.app.mp h3
  exact ⟨a, b.1.1, b.1.2⟩
theorem ok_by_sequence {j : Nat} (T : Blt mg) (N : NetP P w K mg base C j) (hj : j ≤ k) (Fc : Df P w K mg base k "_check_crowd" ["net", "crowd"] (spD (cCr C fun _ _ _ => .non))) (Fr : Df P w K mg base k "is_row" ["value"] (spD (c1 isRow))) (Fp : Df P w K mg base k "is_point" ["net", "value"] (spD (cNet1 C fun d _ ex => isCB d ex.length)))
    (Fo : Df P w K mg base k "_opened" ["crowd"] (spL cOp)) (Fm : Df P w K mg base k "_move" ["rows", "parts", "point"] (spC cMv)) (Fs : Df P w K mg base k "_shut" ["parts"] (spD cSh)) (F : Fun K "by_sequence" "by_sequence" s_by_sequence f fd) : FnOk P w K mg base CX0 (k + 1) f fd ["net", "crowd", "sequence"] (spD (cBs C)) := by
  refine fnD F c_by_sequence (fun ds Z h => ?_) (fun cdv A outer s H E ds Z hr h => ?_)
  · obtain ⟨e, ex, st, ss, d, ps, rfl, _⟩ := h
    rfl
  · obtain ⟨e, ex, st, ss, d, ps, rfl, hd, hl, v, hst, hss, can, q⟩ := h
    have hd2 : d = .lst (lI (pI ps)) ∨ d = .tup (lI (pI ps)) := hd
    have hpl : Pl d := by rcases hd with rfl | rfl <;> exact ⟨_, rfl⟩
    have hrow : isRow d = true := by rcases hd with rfl | rfl <;> rfl
    have h0 := CrOf.new v hst hss.len fun t ht => (hss.num t ht).1
    refine ss_cons (s_expr (call Fc hr (aG (nm 0 (a1 (nm 1 ⟨e, ex, _, rfl, v, x0_ok v hst hss, ?_⟩))))))
    show WSs _ _ _ _
    refine ss_cons (s_if (t_not (t_val (call Fr hr (a1 (nm 2 ⟨_, rfl, hpl, _, rfl, ?_⟩))))))
    rw [hrow]
    show WSs _ [] _ _
    refine ss_nil ?_
    show WSs _ _ _ _
    refine ss_cons (set 3 c_by_sequence (w_exits N (hr.mono hj) (nm 0 ⟨e, ex, rfl, v, ?_⟩)))
    show WSs _ _ _ _
    refine ss_cells 4 c_by_sequence Fo hr (a1 (nm 1 ⟨x0 e st ss, rfl, fun as hl3 => ?_⟩))
    obtain ⟨b0, b1, b2, rfl⟩ := three_of hl3
    show WCs _ _ [.val (netD C e ex), .val (crD (x0 e st ss)), .val d, .val (.lst (rowsL ex)), .val (.lst [.adr b0, .adr b1, .adr b2]), .un, .un] (cellsOf [b0, b1, b2] (ps3 (x0 e st ss))) _ _
    refine cc_cut (fun ρ cs => ∃ s5 s6, ρ = [.val (netD C e ex), .val (crD (x0 e st ss)), .val d, .val (.lst (rowsL ex)), .val (.lst [.adr b0, .adr b1, .adr b2]), s5, s6] ∧ cs = cellsOf [b0, b1, b2] (ps3 (runC ex (x0 e st ss) ps)))
      (c_for2 5 6 c_by_sequence (wi_enumR hd2 rfl T.enum (a1 (nm 2 ⟨rfl, fun i ρ cs => ∃ s5 s6, ρ = [.val (netD C e ex), .val (crD (x0 e st ss)), .val d, .val (.lst (rowsL ex)), .val (.lst [.adr b0, .adr b1, .adr b2]), s5, s6] ∧ cs = cellsOf [b0, b1, b2] (ps3 (runC ex (x0 e st ss) (ps.take i))),
        ⟨.un, .un, rfl, by rw [List.take_zero]; rfl⟩, fun i dd ρi csi hdd hI => ?_, fun ρn csn hI => ?_⟩)))) (fun ρ' cs' hI => ?_)
    · obtain ⟨s5, s6, rfl, rfl⟩ := hI
      obtain ⟨o, ho, rfl⟩ := enum_at hdd
      rw [List.getElem?_map] at ho
      cases hpi : ps[i]? with
      | none => rw [hpi] at ho; cases ho
      | some p =>
        rw [hpi] at ho
        cases ho
        obtain ⟨cn, hp, hw⟩ := can.take hpi
        obtain ⟨cr, _⟩ := h0.run _ cn
        have lw := cr.lw
        obtain ⟨x, hx⟩ : ∃ x, x = runC ex (x0 e st ss) (ps.take i) := ⟨_, rfl⟩
        have et : runC ex (x0 e st ss) (ps.take (i + 1)) = mvC ex x p := by rw [take_snoc hpi, runC_app, hx]; rfl
        rw [← hx] at cr lw hw ⊢
        refine ⟨_, _, rfl, ?_⟩
        show WCs _ _ [.val (netD C e ex), .val (crD (x0 e st ss)), .val d, .val (.lst (rowsL ex)), .val (.lst [.adr b0, .adr b1, .adr b2]), .val (.int (i : Int)), .val (.int (p : Int))] (cellsOf [b0, b1, b2] (ps3 x)) _ _
        refine cc_cons (c_ifM 4 (mz3 b0 b1 b2 x) (t_bool (tb_or (t_not (t_val (call Fp hr (aG (nm 0 (a1 (nm 6 ⟨e, ex, _, rfl, v, pl_int _, _, rfl, ?_⟩))))))))))
        show if (!isCB (.int (p : Int)) (ex.length : Int)) = true then _ else _
        rw [isCB_true (by omega) (by omega)]
        have at1 : atI (lI x.1) ((p : Nat) : Int) = some (.int (nth x.1 p)) := ints_atI (by omega) (by rw [Int.toNat_natCast]; exact nth_get (by omega))
        show WTB _ _ _ _ _ _ _
        refine tb_or1 (t_cmpG (w_ix true true (fun _ _ => rfl) (.inr rfl) (w_ix true true (fun _ _ => rfl) (.inr rfl) (nm 4 (w_int (x_lst (d := .lst (lI x.1)) rfl (nm 6 (x_lst at1 (w_int (o_eq ⟨_, rfl, ?_⟩))))))))))
        rw [decide_eq_false (by omega)]
        show WCs _ [] _ _ _ _
        refine cc_nil ?_
        show WCs _ _ [.val (netD C e ex), .val (crD (x0 e st ss)), .val d, .val (.lst (rowsL ex)), .val (.lst [.adr b0, .adr b1, .adr b2]), .val (.int (i : Int)), .val (.int (p : Int))] (cellsOf [b0, b1, b2] (ps3 x)) _ _
        exact cc_one (c_call Fm hr (aG (nm 3 (aG (nm 4 (a1 (nm 6 ⟨e, ex, x, p, b0, b1, b2, rfl, rfl, v, cr.okm hp, ⟨_, _, rfl, by rw [et]⟩⟩)))))))
    · rw [enum_len] at hI
      have : (pI ps).length = ps.length := List.length_map _
      rw [this, List.take_length] at hI
      exact hI
    · obtain ⟨s5, s6, rfl, rfl⟩ := hI
      refine cc_melt 4 (mz3 b0 b1 b2 (runC ex (x0 e st ss) ps)) ?_
      exact ss_one (s_ret (call Fs hr (a1 (nm 4 ⟨_, rfl, q⟩))))
end
end K26

namespace K26
open PySem PySem.Spec PyProof.Rows L2 DD
theorem s_aug2 {X : Cx} {ρ : Rho} {E : DE} {pos : Pos} {f : Int → Int → Int} {op : Operator} (ho : PIp X op (ipI f)) (i : Nat) {x : Str} {e : Expr} {pos' : Pos} {N ps : List Str} {sc : Scope} (S0 : FnScope N ps sc) (h : ∃ n, ρ[i]? = some (.val (.int n)) ∧ W false true X e ρ fun d ρ' => ∃ m, d = .int m ∧ E.nx (ρ'.set i (.val (.int (f n m)))))
    (hXN : X.N = N := by rfl) (hi : X.N[i]? = some x := by rfl) (hx : Loc X.env.scope x := by first | exact .inl rfl | exact .inr rfl) (hf : X.fn x = true ∨ X.env.scope.names.lookup x = some .local := by first | exact .inl rfl | exact .inr rfl) : WS X (.AugAssign (.Name x pos') op e pos) ρ E := fun B σ G H F S L => by
  obtain ⟨n, hr, h⟩ := h
  refine wS_of (ps_aug (hXN ▸ S0.nd) hi hx pe_w ho hf) ?_
  obtain ⟨v, e1, iv⟩ := S.valAt hr
  have iv : v = .int n := iv
  subst iv
  refine ⟨_, e1, ?_⟩
  refine h B σ G H S _ fun u d ρ' G' H' q S' y pu iu => ?_
  obtain ⟨m, rfl, q⟩ := q
  have iu : u = .int m := iu
  subst iu
  exact ⟨n, m, rfl, rfl, L.nx _ _ G' H' q (S'.set (d := .int (f n m)) rfl) y⟩
section
variable {P : Program} {w : World} {K : PySem.W.Frag} {mg : Str → Option Value} {base : Heap} {f C : Addr} {fd : FuncData} {k : Nat}
/-! ### the rules -/
theorem ends_in {l : List Int} (h : l ≠ []) : (∃ t ∈ l, atI (lI l) (-1) = some (.int t)) ∧ ∃ t ∈ l, atI (lI l) 0 = some (.int t) := by
  have hl := List.length_pos_iff.mpr h
  obtain ⟨t, h1, h2⟩ := atI_some (l := l) (s := 0) (by omega) (by omega)
  refine ⟨⟨t, h2, ?_⟩, nth l 0, nth_mem hl, ints_atI (by omega) (nth_get hl)⟩
  rw [atI_lI]
  have h1 : atI l (-1) = some t := h1
  rw [h1]; rfl
def cNx : List D → (D → Prop) → Prop := fun ds Z => ∃ d w r i, ds = [d, .str r, .int i] ∧ rowI d w ∧ w.length ≤ 24 ∧ (canL w = [] → Z .non) ∧ ∀ p ∈ canL w, Z (.int p)
def gtB (i : Int) : D → Bool
  | .int p => decide (i < p)
  | _ => false
theorem ok_next_point (T : Blt mg) (Fw : Df P w K mg base k "_waiting_points" ["waiting"] (spD cWp)) (F : Fun K "_next_point" "_next_point" s_next_point f fd) : FnOk P w K mg base CX0 (k + 1) f fd ["waiting", "rule", "last"] (spD cNx) := by
  refine fnD F c_next_point (fun ds Z h => ?_) (fun cdv A outer s H E ds Z hr h => ?_)
  · obtain ⟨d, l, r, i, rfl, _⟩ := h
    rfl
  · obtain ⟨d, l, r, i, rfl, hd, h24, z0, z1⟩ := h
    have cl := canL_len l
    refine ss_cons (set 3 c_next_point (call Fw hr (a1 (nm 0 ⟨d, l, rfl, hd, h24, ?_⟩))))
    obtain ⟨cs, hcs⟩ : ∃ cs, cs = canL l := ⟨_, rfl⟩
    rw [← hcs] at z0 z1 cl ⊢
    show WSs _ _ [.val d, .val (.str r), .val (.int i), .val (.lst (lI cs)), .un] _
    refine ss_cons (s_if (t_not (t_val (nm (d := .lst (lI cs)) 3 ⟨_, rfl, ?_⟩))))
    by_cases hn : cs = []
    · subst hn
      show WSs _ _ _ _
      exact ss_one (s_ret (w_non (z0 rfl)))
    · have he : (lI cs).isEmpty = false := by
        unfold lI
        rw [List.isEmpty_map]
        cases cs with
        | nil => exact absurd rfl hn
        | cons a b => rfl
      rw [he]
      show WSs _ [] _ _
      refine ss_nil ?_
      show WSs _ _ _ _
      refine ss_cons (s_if (t_cmpG (nm 1 (w_str (o_eqs ⟨_, rfl, ?_⟩)))))
      obtain ⟨⟨t1, m1, at1⟩, _⟩ := ends_in hn
      by_cases h1 : r = ("greatest" : Str)
      · rw [if_pos (decide_eq_true h1)]
        exact ss_one (s_ret (w_ix true true (fun _ _ => rfl) (.inr rfl) (nm 3 (w_un (w_int (o_neg (x_lst at1 (z1 _ m1))))))))
      · rw [if_neg (by rw [decide_eq_false h1]; decide)]
        refine ss_nil ?_
        show WSs _ _ _ _
        have fin : ∀ l2 : List Int, l2 ≠ [] → (∀ t ∈ l2, t ∈ cs) → ∀ s4, WSs (CxD P w K mg base N_next_point "_next_point" s_next_point f cdv A outer s H E) ((defBody s_next_point).drop 4) [.val d, .val (.str r), .val (.int i), .val (.lst (lI l2)), s4] { nx := fun _ => Z .non, rt := Z } := fun l2 n2 m2 s4 => by
          obtain ⟨_, t2, m3, at2⟩ := ends_in n2
          exact ss_one (s_ret (w_ix true true (fun _ _ => rfl) (.inr rfl) (nm 3 (w_int (x_lst at2 (z1 _ (m2 _ m3)))))))
        refine ss_cons (s_if (t_cmpG (nm 1 (w_str (o_eqs ⟨_, rfl, ?_⟩)))))
        by_cases h2 : r = ("rounds" : Str)
        · rw [if_pos (decide_eq_true h2)]
          have ef : ((lI cs).filter (gtB i)).map (fun d => d) = lI (cs.filter fun p => decide (i < p)) := by
            rw [List.map_id']
            unfold lI
            rw [List.filter_map]; rfl
          have fl := List.length_filter_le (fun p => decide (i < p)) cs
          refine ss_one (set 3 c_next_point (w_binG (lc1If 4 (gtB i) (fun d => d) c_next_point (wi_lst (nm 3 ⟨_, rfl, ?_, fun dd hdd s1 H1 C1 c1 fp => ⟨?_, fun _ => nm 4 rfl⟩, nm 3 ?_⟩)))))
          · rw [lI_len]; omega
          · obtain ⟨t, ht, rfl⟩ := List.mem_map.mp hdd
            exact t_cmpG (nm 4 (nm 2 (o_gt ⟨_, rfl, rfl⟩)))
          · rw [ef]
            refine o_cat ⟨?_, ?_⟩
            · rw [lI_len, lI_len]; exact Nat.le_trans (show _ ≤ 48 by omega) (by decide)
            · have ea : lI (cs.filter fun p => decide (i < p)) ++ lI cs = lI ((cs.filter fun p => decide (i < p)) ++ cs) := by unfold lI; rw [List.map_append]
              rw [ea]
              exact fin _ (fun z => hn (List.append_eq_nil_iff.mp z).2) (fun t ht => (List.mem_append.mp ht).elim (fun z => (List.mem_filter.mp z).1) id) _
        · rw [if_neg (by rw [decide_eq_false h2]; decide)]
          exact ss_nil (fin cs hn (fun t ht => ht) _)
def rls : List Str := ["least", "greatest", "rounds"]
def cFi (C : Addr) : List D → (D → Prop) → Prop := fun ds Z => ∃ e ex st ss r mm ps, ds = [netD C e ex, crD (x0 e st ss), .str r, .int ((mm : Nat) : Int)] ∧ r ∈ rls ∧ mm ≤ 1000 ∧ Valid e ex ∧ ValidS ex st ∧ Nums ex.length ss ∧ Full ex (x0 e st ss) ps ∧ ps.length ≤ mm ∧ Z (.tup [crD (runC ex (x0 e st ss) ps), .lst (lI (visC ex.length ps))])
/-- what the rule tells of a crowd -/
def NxtOf (n : Nat) (x : Cw) (u : D) : Prop := (u = .non ∧ canL x.1 = []) ∨ ∃ p : Nat, p < n ∧ 0 < nth x.1 p ∧ u = .int (p : Int)
theorem nxt_sc {n : Nat} {x : Cw} {u : D} (h : NxtOf n x u) : (DD.sc u).isSome = true := by
  rcases h with ⟨rfl, _⟩ | ⟨p, _, _, rfl⟩ <;> rfl
theorem ok_finish {j : Nat} {tS : Tok} {ra : Addr} (T : Blt mg) (hstr : mg "str" = none) (mS : mg "MOST_STEPS" = some (.int 100000 tS)) (mR : mg "RULES" = some (.ref ra)) (kR : ∀ H, SqT K H ra (rls.map V.str)) (N : NetP P w K mg base C j) (hj : j + 1 ≤ k) (Fc : Df P w K mg base k "_check_crowd" ["net", "crowd"] (spD (cCr C fun _ _ _ => .non)))
    (Fm : Df P w K mg base k "check_most" ["most", "bound"] (spD cMst)) (Fx : Df P w K mg base k "_next_point" ["waiting", "rule", "last"] (spD cNx)) (Fo : Df P w K mg base k "_opened" ["crowd"] (spL cOp)) (Fv : Df P w K mg base k "_move" ["rows", "parts", "point"] (spC cMv)) (Fs : Df P w K mg base k "_shut" ["parts"] (spD cSh))
    (F : Fun K "_finish" "_finish" s_finish f fd) : FnOk P w K mg base CX0 (k + 1) f fd ["net", "crowd", "rule", "most"] (spD (cFi C)) := by
  refine fnD F c_finish (fun ds Z h => ?_) (fun cdv A outer s H E ds Z hr h => ?_)
  · obtain ⟨e, ex, st, ss, r, mm, ps, rfl, _⟩ := h
    rfl
  · obtain ⟨e, ex, st, ss, r, mm, ps, rfl, hrl, hmm, v, hst, hss, full, hps, q⟩ := h
    have n24 := v.n24
    have one : (1 : Nat) ≤ sizeLine := by decide
    have hb : ∀ t ∈ ss, 0 ≤ t := fun t ht => (hss.num t ht).1
    have h0 := CrOf.new v hst hss.len hb
    have hin : inV (.str r) (rls.map V.str) = true := by
      rcases (show r = "least" ∨ r = "greatest" ∨ r = "rounds" by simpa [rls] using hrl) with rfl | rfl | rfl <;> decide +kernel
    refine ss_cons (s_expr (call Fc hr (aG (nm 0 (a1 (nm 1 ⟨e, ex, _, rfl, v, x0_ok v hst hss, ?_⟩))))))
    show WSs _ _ _ _
    refine ss_cons (s_if (t_bool (tb_or (t_not (t_val (w_callB true rfl T.isi (by decide +kernel) (aG (nm 2 (a1 (bltin hstr (c_isi (x := .str r) (n := "str") (c := "str") (b := true) rfl (by decide +kernel) ⟨_, rfl, ?_⟩)))))))))))
    show WTB _ _ _ _ _ _ _
    refine tb_or1 (t_cmpG (nm 2 (w_globA mR (o_ninK kR hin ⟨_, rfl, ?_⟩))))
    show WSs _ [] _ _
    refine ss_nil ?_
    show WSs _ _ _ _
    refine ss_cons (s_expr (call Fm hr (aG (nm 3 (a1 (glb mS ⟨mm, 100000, rfl, by omega, ?_⟩))))))
    show WSs _ _ _ _
    refine ss_cons (set 4 c_finish (w_exits N (hr.mono (by omega)) (nm 0 ⟨e, ex, rfl, v, ?_⟩)))
    show WSs _ _ _ _
    refine ss_cells 5 c_finish Fo hr (a1 (nm 1 ⟨x0 e st ss, rfl, fun as hl3 => ?_⟩))
    obtain ⟨b0, b1, b2, rfl⟩ := three_of hl3
    show WCs _ _ [.val (netD C e ex), .val (crD (x0 e st ss)), .val (.str r), .val (.int (mm : Int)), .val (.lst (rowsL ex)), .val (.lst [.adr b0, .adr b1, .adr b2]), .un, .un, .un] (cellsOf [b0, b1, b2] (ps3 (x0 e st ss))) _ _
    refine cc_cons (c_old (setO 6 c_finish (f_rep (w_lst (a1 (w_int ⟨one, w_points N (hr.mono hj) (nm 0 ⟨e, ex, rfl, v, [.int 0], _, rfl, rfl, ⟨?_, ?_, ?_⟩, ?_⟩)⟩))))))
    · omega
    · omega
    · rw [Int.toNat_natCast]; show 1 * ex.length ≤ sizeLine; exact Nat.le_trans (show _ ≤ 24 by omega) (by decide)
    rw [rep0, ← visC_nil]
    show WCs _ _ [.val (netD C e ex), .val (crD (x0 e st ss)), .val (.str r), .val (.int (mm : Int)), .val (.lst (rowsL ex)), .val (.lst [.adr b0, .adr b1, .adr b2]), .own true (.lst (lI (visC ex.length []))), .un, .un] (cellsOf [b0, b1, b2] (ps3 (x0 e st ss))) _ _
    refine cc_cons (c_old (set 7 c_finish (nm 3 ?_)))
    show WCs _ _ [.val (netD C e ex), .val (crD (x0 e st ss)), .val (.str r), .val (.int (mm : Int)), .val (.lst (rowsL ex)), .val (.lst [.adr b0, .adr b1, .adr b2]), .own true (.lst (lI (visC ex.length []))), .val (.int (mm : Int)), .un] (cellsOf [b0, b1, b2] (ps3 (x0 e st ss))) _ _
    have m0 : (mm : Int) - ((0 : Nat) : Int) = mm := by omega
    have none_of : ∀ {x : Cw}, x.1.length = ex.length → canL x.1 = [] → ∀ s8 : D, NxtOf ex.length x .non := fun {x} _ h _ => .inl ⟨rfl, h⟩
    have some_of : ∀ {x : Cw}, x.1.length = ex.length → ∀ p ∈ canL x.1, NxtOf ex.length x (.int p) := fun {x} hx p hp => by
      obtain ⟨p, h1, h2, rfl⟩ := mem_canL.mp hp
      exact .inr ⟨p, by omega, h2, rfl⟩
    refine cc_cut (fun ρ cs => ∃ u, NxtOf ex.length (x0 e st ss) u ∧ ρ = [.val (netD C e ex), .val (crD (x0 e st ss)), .val (.str r), .val (.int (mm : Int)), .val (.lst (rowsL ex)), .val (.lst [.adr b0, .adr b1, .adr b2]), .own true (.lst (lI (visC ex.length []))), .val (.int (mm : Int)), .val u] ∧ cs = cellsOf [b0, b1, b2] (ps3 (x0 e st ss)))
      (c_setM 5 8 c_finish (mz3 b0 b1 b2 (x0 e st ss)) (call Fx hr (aG (w_ix true true (fun _ _ => rfl) (.inr rfl) (nm 5 (w_int (x_lst (d := .lst (lI (x0 e st ss).1)) rfl (aG (nm 2 (a1 (w_un (w_int (o_neg ⟨_, (x0 e st ss).1, r, _, rfl, .inl rfl, by show ss.length ≤ 24; rw [hss.len]; exact n24, fun z => ⟨rfl, .non, .inl ⟨rfl, z⟩, rfl, rfl⟩, fun p hp => ⟨rfl, .int p, some_of hss.len p hp, rfl, rfl⟩⟩))))))))))))) (fun ρ' cs' hI => ?_)
    obtain ⟨u, hu, rfl, rfl⟩ := hI
    refine cc_cut (fun ρ cs => ∃ qs s7 s8, Full ex (x0 e st ss) qs ∧ ρ = [.val (netD C e ex), .val (crD (x0 e st ss)), .val (.str r), .val (.int (mm : Int)), .val (.lst (rowsL ex)), .val (.lst [.adr b0, .adr b1, .adr b2]), .own true (.lst (lI (visC ex.length qs))), s7, s8] ∧ cs = cellsOf [b0, b1, b2] (ps3 (runC ex (x0 e st ss) qs)))
      (c_while PassesOwn.never (fun m ρ cs => ∃ qs u, CanC ex (x0 e st ss) qs ∧ NxtOf ex.length (runC ex (x0 e st ss) qs) u ∧ m = ps.length - qs.length ∧ ρ = [.val (netD C e ex), .val (crD (x0 e st ss)), .val (.str r), .val (.int (mm : Int)), .val (.lst (rowsL ex)), .val (.lst [.adr b0, .adr b1, .adr b2]), .own true (.lst (lI (visC ex.length qs))), .val (.int ((mm : Int) - qs.length)), .val u] ∧ cs = cellsOf [b0, b1, b2] (ps3 (runC ex (x0 e st ss) qs)))
        ps.length ⟨[], u, trivial, hu, rfl, by rw [List.length_nil, m0], rfl⟩ (fun m ρ' cs' hI => ?_)) (fun ρ' cs' hI => ?_)
    · obtain ⟨qs, u, can, hu, rfl, rfl, rfl⟩ := hI
      obtain ⟨cr, _⟩ := h0.run _ can
      obtain ⟨x, hx⟩ : ∃ x, x = runC ex (x0 e st ss) qs := ⟨_, rfl⟩
      rw [← hx] at cr hu ⊢
      have lw := cr.lw
      rcases hu with ⟨rfl, hn⟩ | ⟨p, hp, hw, rfl⟩
      · refine t_cmpG (nm 8 (w_non (o_isnN ⟨_, rfl, ?_⟩)))
        refine ⟨qs, .val (.int ((mm : Int) - qs.length)), .val .non, ⟨can, fun q hq => ?_⟩, rfl, by rw [hx]⟩
        rw [← hx]
        exact canL_nil hn (fun q hq => by rw [cr.w q (by omega)]; exact cr.I.w0 q (show q < ex.length by omega)) q (by omega)
      · refine t_cmpG (nm 8 (w_non (o_isnI ⟨_, rfl, ?_⟩)))
        show WCs _ _ [.val (netD C e ex), .val (crD (x0 e st ss)), .val (.str r), .val (.int (mm : Int)), .val (.lst (rowsL ex)), .val (.lst [.adr b0, .adr b1, .adr b2]), .own true (.lst (lI (visC ex.length qs))), .val (.int ((mm : Int) - qs.length)), .val (.int (p : Int))] (cellsOf [b0, b1, b2] (ps3 x)) _ _
        have can2 := can.snoc hp (by rw [← hx]; exact hw)
        have le := can_le v hst hss.len hb full can2
        rw [List.length_append, List.length_singleton] at le
        have et : runC ex (x0 e st ss) (qs ++ [p]) = mvC ex x p := by rw [runC_app, hx]; rfl
        have cr2 := (h0.run _ can2).1
        rw [et] at cr2
        have lw2 := cr2.lw
        refine cc_cons (c_if (t_cmpG (nm 7 (w_int (o_eq ⟨_, rfl, ?_⟩)))))
        rw [decide_eq_false (by omega)]
        show WCs _ [] _ _ _ _
        refine cc_nil ?_
        show WCs _ _ [.val (netD C e ex), .val (crD (x0 e st ss)), .val (.str r), .val (.int (mm : Int)), .val (.lst (rowsL ex)), .val (.lst [.adr b0, .adr b1, .adr b2]), .own true (.lst (lI (visC ex.length qs))), .val (.int ((mm : Int) - qs.length)), .val (.int (p : Int))] (cellsOf [b0, b1, b2] (ps3 x)) _ _
        refine cc_cons (c_old (s_aug2 ip_sub 7 c_finish ⟨_, rfl, w_int ⟨1, rfl, ?_⟩⟩))
        have ml : (mm : Int) - qs.length - 1 = (mm : Int) - (qs ++ [p]).length := by rw [List.length_append, List.length_singleton]; omega
        rw [ml]
        show WCs _ _ [.val (netD C e ex), .val (crD (x0 e st ss)), .val (.str r), .val (.int (mm : Int)), .val (.lst (rowsL ex)), .val (.lst [.adr b0, .adr b1, .adr b2]), .own true (.lst (lI (visC ex.length qs))), .val (.int ((mm : Int) - (qs ++ [p]).length)), .val (.int (p : Int))] (cellsOf [b0, b1, b2] (ps3 x)) _ _
        refine cc_cons (c_call Fv hr (aG (nm 4 (aG (nm 5 (a1 (nm 8 ⟨e, ex, x, p, b0, b1, b2, rfl, rfl, v, cr.okm hp, ?_⟩)))))))
        show WCs _ _ [.val (netD C e ex), .val (crD (x0 e st ss)), .val (.str r), .val (.int (mm : Int)), .val (.lst (rowsL ex)), .val (.lst [.adr b0, .adr b1, .adr b2]), .own true (.lst (lI (visC ex.length qs))), .val (.int ((mm : Int) - (qs ++ [p]).length)), .val (.int (p : Int))] (cellsOf [b0, b1, b2] (ps3 (mvC ex x p))) _ _
        have ixp : ixN (visC ex.length qs).length ((p : Nat) : Int) = some p := by
          have := ixN_in (n := (visC ex.length qs).length) (i := (p : Int)) (by omega) (by rw [visC_len]; omega)
          rw [Int.toNat_natCast] at this
          exact this
        refine cc_cons (c_old (s_augItem 6 (ns := visC ex.length qs) rfl (nm 8 ⟨_, p, (qs.count p : Int), rfl, ixp, visC_at hp, w_int ⟨1, rfl, ?_⟩⟩)))
        rw [visC_snoc]
        show WCs _ _ [.val (netD C e ex), .val (crD (x0 e st ss)), .val (.str r), .val (.int (mm : Int)), .val (.lst (rowsL ex)), .val (.lst [.adr b0, .adr b1, .adr b2]), .own true (.lst (lI (visC ex.length (qs ++ [p])))), .val (.int ((mm : Int) - (qs ++ [p]).length)), .val (.int (p : Int))] (cellsOf [b0, b1, b2] (ps3 (mvC ex x p))) _ _
        have lt : ps.length - (qs ++ [p]).length < ps.length - qs.length := by rw [List.length_append, List.length_singleton]; omega
        refine cc_one (c_setM 5 8 c_finish (mz3 b0 b1 b2 (mvC ex x p)) (call Fx hr (aG (w_ix true true (fun _ _ => rfl) (.inr rfl) (nm 5 (w_int (x_lst (d := .lst (lI (mvC ex x p).1)) rfl (aG (nm 2 (a1 (nm 8 ⟨_, (mvC ex x p).1, r, _, rfl, .inl rfl, by rw [lw2]; exact n24, fun z => ⟨rfl, ?_⟩, fun t ht => ⟨rfl, ?_⟩⟩)))))))))))
        · exact ⟨_, lt, qs ++ [p], .non, can2, by rw [et]; exact .inl ⟨rfl, z⟩, rfl, rfl, by rw [et]⟩
        · exact ⟨_, lt, qs ++ [p], .int t, can2, by rw [et]; exact some_of lw2 t ht, rfl, rfl, by rw [et]⟩
    · obtain ⟨qs, s7, s8, fq, rfl, rfl⟩ := hI
      obtain ⟨cv, cx, _⟩ := full_one v hst hss.len hb fq full
      rw [visC_eq cv, cx]
      refine cc_melt 5 (mz3 b0 b1 b2 (runC ex (x0 e st ss) ps)) ?_
      show WSs _ _ [.val (netD C e ex), .val (crD (x0 e st ss)), .val (.str r), .val (.int (mm : Int)), .val (.lst (rowsL ex)), .val (lst3 (runC ex (x0 e st ss) ps)), .own true (.lst (lI (visC ex.length ps))), s7, s8] _
      refine ss_share (i := 6) rfl (ss_one (s_ret (w_tup (aG (call Fs hr (a1 (nm 5 ⟨runC ex (x0 e st ss) ps, rfl, a1 (nm 6 ⟨by show 2 ≤ sizeLine; decide, q⟩)⟩)))))))
end
end K26

namespace K26
open PySem PySem.Spec PyProof.Rows L2 DD
section
variable {P : Program} {w : World} {K : PySem.W.Frag} {mg : Str → Option Value} {base : Heap} {f C : Addr} {fd : FuncData} {k : Nat}
def cFd (C : Addr) : List D → (D → Prop) → Prop := fun ds Z => ∃ e ex st ss r mm ps, ds = [netD C e ex, crD (x0 e st ss), .str r, .int ((mm : Nat) : Int)] ∧ r ∈ rls ∧ mm ≤ 1000 ∧ Valid e ex ∧ ValidS ex st ∧ Nums ex.length ss ∧ Full ex (x0 e st ss) ps ∧ ps.length ≤ mm ∧ Z (.tup [crD (runC ex (x0 e st ss) ps), .int (ps.length : Int)])
def cVb (C : Addr) : List D → (D → Prop) → Prop := fun ds Z => ∃ e ex st ss r mm ps, ds = [netD C e ex, crD (x0 e st ss), .str r, .int ((mm : Nat) : Int)] ∧ r ∈ rls ∧ mm ≤ 1000 ∧ Valid e ex ∧ ValidS ex st ∧ Nums ex.length ss ∧ Full ex (x0 e st ss) ps ∧ ps.length ≤ mm ∧ Z (.lst (lI (visC ex.length ps)))
theorem ok_finished (hsm : mg "sum" = none) (Ff : Df P w K mg base k "_finish" ["net", "crowd", "rule", "most"] (spD (cFi C))) (F : Fun K "finished" "finished" s_finished f fd) : FnOk P w K mg base CX0 (k + 1) f fd ["net", "crowd", "rule", "most"] (spD (cFd C)) := by
  refine fnD F c_finished (fun ds Z h => ?_) (fun cdv A outer s H E ds Z hr h => ?_)
  · obtain ⟨e, ex, st, ss, r, mm, ps, rfl, _⟩ := h
    rfl
  · obtain ⟨e, ex, st, ss, r, mm, ps, rfl, hrl, hmm, v, hst, hss, full, hps, q⟩ := h
    refine ss_cons (s_unp2 4 5 c_finished (call Ff hr (aG (nm 0 (aG (nm 1 (aG (nm 2 (a1 (nm 3 ⟨e, ex, st, ss, r, mm, ps, rfl, hrl, hmm, v, hst, hss, full, hps, _, _, rfl, ?_⟩))))))))))
    show WSs _ _ [.val (netD C e ex), .val (crD (x0 e st ss)), .val (.str r), .val (.int (mm : Int)), .val (crD (runC ex (x0 e st ss) ps)), .val (.lst (lI (visC ex.length ps)))] _
    refine ss_one (s_ret (w_tup (aG (nm 4 (a1 (w_callB (id := "sum") true rfl hsm (by decide +kernel) (a1 (nm 5 (c_sum (ns := visC ex.length ps) rfl ⟨by show 2 ≤ sizeLine; decide, ?_⟩))))))))) 
    rw [visC_sum (can_lt full.can)]
    exact q
theorem ok_visits_by (Ff : Df P w K mg base k "_finish" ["net", "crowd", "rule", "most"] (spD (cFi C))) (F : Fun K "visits_by" "visits_by" s_visits_by f fd) : FnOk P w K mg base CX0 (k + 1) f fd ["net", "crowd", "rule", "most"] (spD (cVb C)) := by
  refine fnD F c_visits_by (fun ds Z h => ?_) (fun cdv A outer s H E ds Z hr h => ?_)
  · obtain ⟨e, ex, st, ss, r, mm, ps, rfl, _⟩ := h
    rfl
  · obtain ⟨e, ex, st, ss, r, mm, ps, rfl, hrl, hmm, v, hst, hss, full, hps, q⟩ := h
    refine ss_cons (s_unp2 4 5 c_visits_by (call Ff hr (aG (nm 0 (aG (nm 1 (aG (nm 2 (a1 (nm 3 ⟨e, ex, st, ss, r, mm, ps, rfl, hrl, hmm, v, hst, hss, full, hps, _, _, rfl, ?_⟩))))))))))
    show WSs _ _ [.val (netD C e ex), .val (crD (x0 e st ss)), .val (.str r), .val (.int (mm : Int)), .val (crD (runC ex (x0 e st ss) ps)), .val (.lst (lI (visC ex.length ps)))] _
    exact ss_one (s_ret (nm 5 q))
/-! ### the law's own pot -/
structure Blt2 (mg : Str → Option Value) : Prop where
  t : Blt mg
  abs : mg "abs" = none
  max : mg "max" = none
  divmod : mg "divmod" = none
  repr : mg "repr" = none
  str : mg "str" = none
def cPot (K : PySem.W.Frag) : List D → Prop := fun ds => ∃ (ns : List Int), ds = [.scr K ns, .int 0] ∧ ns.length < 1000
theorem ok_pot (T : Blt2 mg) (F : Fun K "_law_pot" "_law_pot" s_Lpot f fd) : FnOk P w K mg base CX0 (k + 1) f fd ["_law_script", "_law_k"] (spF (cPot K)) := by
  refine fnF F c_Lpot (fun ds h => ?_) (fun cdv A outer s H E ds hr h => ?_)
  · obtain ⟨ns, rfl, _⟩ := h
    rfl
  · obtain ⟨ns, rfl, hl⟩ := h
    have rest : ∀ c : Int, 0 ≤ c → WSF (CxD P w K mg base N_Lpot "_law_pot" s_Lpot f cdv A outer s H E) ((defBody s_Lpot).drop 1) [.val (.scr K ns), .val (.int 0), .val (.int c)] := fun c h0 => by
      refine wsf_ret (aG (w_callB (id := "max") true rfl T.max (by decide +kernel) (aG (w_int (a1 (w_binG (nm 2 (w_binG (w_int (w_int (o_pow ⟨by decide, o_sub (c_max2 rfl ?_)⟩)))))))))))
      refine a1 (w_binG (w_binG (w_callTy (T := "int") true rfl T.t.int (by decide +kernel) (a1 (w_binG (w_binG (w_binG (w_binG (w_callTy (T := "int") true rfl T.t.int (by decide +kernel) (a1 (nm 2 (c_int (w_int (o_mod ⟨by decide, w_int (o_mul ⟨.inr (by decide), w_binG (w_int (nm 1 (o_mul ⟨.inl (by decide), o_add (w_int (o_add (c_int (w_int (o_mod ⟨by decide, w_int (o_add ⟨_, _, rfl, ?_, ?_, ?_⟩)⟩)))))⟩)))⟩)⟩))))))))))))))
      · split <;> omega
      · have : (0 : Int) < 2147483563 := by decide
        have := Int.emod_nonneg (c % 2147483549 * 48271 + 7001 * 0 + 101) (show (2147483563 : Int) ≠ 0 by decide)
        omega
      · have := Int.emod_lt_of_pos (c % 2147483549 * 48271 + 7001 * 0 + 101) (show (0 : Int) < 2147483563 by decide)
        omega
    refine wsf_cons (set 2 c_Lpot (w_if (t_cmpG (nm 1 (w_callB (id := "len") true rfl T.t.len (by decide +kernel) (a1 (nm 0 (c_lenScr (o_lt ⟨_, rfl, ?_⟩)))))))))
    by_cases hn : (0 : Int) < (ns.length : Int)
    · rw [if_pos (decide_eq_true hn)]
      have h0 : 0 < ns.length := by omega
      refine w_callB (id := "abs") true rfl T.abs (by decide +kernel) (a1 (w_ix true true (fun _ _ => rfl) (.inr rfl) (nm 0 (nm 1 (x_scr (n := ns[0]) ?_ (c_abs ?_))))))
      · unfold atI ixN
        rw [if_pos (by decide), if_pos (by rw [List.length_map]; omega)]
        show (ns.map V.int)[0]? = _
        rw [List.getElem?_map, List.getElem?_eq_getElem h0]; rfl
      · exact rest _ (by split <;> omega)
    · rw [if_neg (by rw [decide_eq_false hn]; decide)]
      exact w_binG (w_binG (w_int (nm 1 (o_mul ⟨.inl (by decide), w_int (o_add (rest (181 * 0 + 97) (by decide)))⟩))))
def cDraw : List D → (D → Prop) → Prop := fun ds Z => ∃ n : Int, ds = [.int n] ∧ (0 < n ∧ n < 1000000) ∧ ∀ r, 0 ≤ r → r < n → Z (.int r)
theorem ok_draw (T : Blt2 mg) (F : Fun K "_law_draw" "_law_draw" s_Ldraw f fd) : FnOk P w K mg base CX0 (k + 1) f fd ["_law_pot_here", "_law_many"] (spP cDraw) := by
  refine fnP F c_Ldraw (fun ds Z h => ?_) (fun cdv A outer s H E ds Z hr h => ?_)
  · obtain ⟨n, rfl, _⟩ := h
    rfl
  · obtain ⟨n, rfl, ⟨n0, n1⟩, q⟩ := h
    refine ss_cons (s_if (t_cmpG (w_pot0 0 rfl fun a a0 => w_int (o_gt ⟨_, rfl, ?_⟩))))
    by_cases ha : (0 : Int) < a
    · rw [if_pos (decide_eq_true ha)]
      show WSs _ _ _ _
      refine ss_cons (s_pot0 0 2 c_Ldraw.nd rfl rfl (w_callB (id := "divmod") true rfl T.divmod (by decide +kernel) (aG (w_pot0 0 rfl fun a2 a20 => a1 (nm 1 (c_divmod ⟨⟨n0, by omega⟩, _, _, rfl, Int.ediv_nonneg a20 (by omega), ?_⟩))))))
      show WSs _ _ _ _
      exact ss_one (s_ret (nm 2 (q _ (Int.emod_nonneg _ (by omega)) (Int.emod_lt_of_pos _ n0))))
    · rw [if_neg (by rw [decide_eq_false ha]; decide)]
      show WSs _ _ _ _
      refine ss_nil ?_
      show WSs _ _ _ _
      refine ss_cons (s_pot1 0 rfl (w_binG (w_callTy (T := "int") true rfl T.t.int (by decide +kernel) (a1 (w_binG (w_binG (w_pot1 0 rfl fun b b0 b1 => w_int (o_mul ⟨.inr (by decide), w_int (o_add (c_int (w_int (o_mod ⟨by decide, _, rfl, ⟨?_, ?_⟩, ?_⟩))))⟩))))))))
      · exact Int.emod_nonneg _ (by decide)
      · have := Int.emod_lt_of_pos (b * 39373 + 7001) (show (0 : Int) < 2147483587 by decide)
        omega
      · show WSs _ _ _ _
        refine ss_one (s_ret (w_binG (w_callTy (T := "int") true rfl T.t.int (by decide +kernel) (a1 (w_binG (w_binG (w_callTy (T := "int") true rfl T.t.int (by decide +kernel) (a1 (w_binG (w_pot1 0 rfl fun c c0 c1 => w_pot1 0 rfl fun d d0 d1 => o_mul ⟨.inl ⟨by omega, by omega⟩, c_int (w_int (o_mod ⟨by decide, w_int (o_fdiv ⟨⟨by decide, by decide⟩, c_int (nm 1 (o_mod ⟨n0, q _ ?_ ?_⟩))⟩)⟩))⟩))))))))))
        · exact Int.emod_nonneg _ (by omega)
        · exact Int.emod_lt_of_pos _ n0
end
end K26

namespace K26
open PySem PySem.Spec PyProof.Rows L2 DD
section
variable {P : Program} {w : World} {K : PySem.W.Frag} {mg : Str → Option Value} {base : Heap} {f C : Addr} {fd : FuncData} {k : Nat}
/-! ### a drawn net -/
structure ExOk (e n : Int) (ex : List (List Int)) : Prop where
  r1 : ∀ l ∈ ex, 1 ≤ l.length ∧ l.length ≤ 3
  b : ∀ l ∈ ex, ∀ t ∈ l, -e ≤ t ∧ t < n
theorem sum_le {ex : List (List Int)} : (∀ l ∈ ex, l.length ≤ 5) → ex.flatten.length ≤ 5 * ex.length := by
  induction ex with
  | nil => intro _; exact Nat.le_refl _
  | cons l ls ih =>
    intro h
    rw [List.flatten_cons, List.length_append, List.length_cons]
    have := h l List.mem_cons_self
    have := ih fun x hx => h x (List.mem_cons_of_mem _ hx)
    omega
theorem ExOk.valid {e : Int} {n : Nat} {ex : List (List Int)} (h : ExOk e n ex) (hl : ex.length = n) (e0 : 0 ≤ e) (e6 : e ≤ 6) (n1 : 1 ≤ n) (n6 : n ≤ 12) : Valid e ex := by
  refine ⟨e0, e6, by omega, by omega, fun l hm => (h.r1 l hm).1, fun l hm => by have := (h.r1 l hm).2; omega, fun l hm t ht => (h.b l hm t ht).1, fun l hm t ht => by have := (h.b l hm t ht).2; omega, ?_⟩
  have := sum_le fun l hm => Nat.le_trans (h.r1 l hm).2 (by decide)
  omega
theorem ExOk.snoc {e n : Int} {ex : List (List Int)} {l : List Int} (h : ExOk e n ex) (l1 : 1 ≤ l.length ∧ l.length ≤ 3) (hb : ∀ t ∈ l, -e ≤ t ∧ t < n) : ExOk e n (ex ++ [l]) := by
  refine ⟨fun x hx => ?_, fun x hx => ?_⟩
  · rcases List.mem_append.mp hx with z | z
    · exact h.r1 x z
    · have : x = l := by simpa using z
      subst this; exact l1
  · rcases List.mem_append.mp hx with z | z
    · exact h.b x z
    · have : x = l := by simpa using z
      subst this; exact hb
theorem rng_mem {lo : Int} {n : Nat} {x : D} (h : x ∈ rng lo n) : ∃ t : Int, x = .int t ∧ lo ≤ t ∧ t < lo + n := by
  obtain ⟨i, hi⟩ := List.mem_iff_getElem?.mp h
  obtain ⟨a, rfl⟩ := rng_get hi
  exact ⟨_, rfl, by omega, by omega⟩
def cLset : List D → (D → Prop) → Prop := fun ds Z => ∃ e ex, ds = [.lst (rowsL ex)] ∧ Valid e ex ∧ ∀ st, ValidS ex st → Z (.lst (lI st))
theorem ok_Lsetting (T : Blt2 mg) (Fd : Df P w K mg base k "_law_draw" ["_law_pot_here", "_law_many"] (spP cDraw)) (F : Fun K "_law_setting" "_law_setting" s_Lsetting f fd) : FnOk P w K mg base CX0 (k + 1) f fd ["_law_pot_here", "_law_exits"] (spP cLset) := by
  refine fnP F c_Lsetting (fun ds Z h => ?_) (fun cdv A outer s H E ds Z hr h => ?_)
  · obtain ⟨e, ex, rfl, _⟩ := h
    rfl
  · obtain ⟨e, ex, rfl, v, q⟩ := h
    refine ss_cons (setO 2 c_Lsetting (f_nil ?_))
    show WSs _ _ _ _
    refine ss_cut (fun ρ => ∃ st s3, ValidS ex st ∧ ρ = [.own false .pot, .val (.lst (rowsL ex)), .own true (.lst (lI st)), s3])
      (for1 3 c_Lsetting (wi_lst (nm 1 ⟨_, rfl, fun j ρ => ∃ st s3, ValidS (ex.take j) st ∧ ρ = [.own false .pot, .val (.lst (rowsL ex)), .own true (.lst (lI st)), s3],
        ⟨[], .un, ⟨rfl, fun i s l h _ => by cases h⟩, rfl⟩, fun j d ρi hd hI => ?_, fun ρn hI => ?_⟩))) (fun ρ' hI => ?_)
    · obtain ⟨st, s3, hst, rfl⟩ := hI
      have hj : j < ex.length := by have := (List.getElem?_eq_some_iff.mp hd).1; rw [rowsL_len] at this; exact this
      have ed : d = .lst (lI (rowAt ex j)) := by
        have z := rowsL_at ex hj
        rw [List.getD_eq_getElem?_getD, hd] at z
        exact z
      subst ed
      have hr1 := v.r1 _ (rowAt_mem hj)
      have hr6 := v.r6 _ (rowAt_mem hj)
      have hlj : (ex.take j).length = j := by rw [List.length_take]; omega
      have hls := hst.1
      have e24 := v.n24
      refine ss_one (app 2 (ds := lI st) rfl (callP 0 Fd hr (a1 (w_callB (id := "len") true rfl T.t.len (by decide +kernel) (a1 (nm 3 (c_lenL ⟨rfl, _, rfl, ⟨?_, ?_⟩, fun r r0 r1 => ⟨lI st, rfl, ?_, st ++ [r], .val (.lst (lI (rowAt ex j))), ⟨?_, ?_⟩, ?_⟩⟩)))))))
      · rw [lI_len]; omega
      · rw [lI_len]; omega
      · rw [lI_len]; omega
      · rw [List.length_append, List.length_take]; simp; omega
      · intro i s l h1 h2
        rw [List.getElem?_take] at h2
        split at h2
        · rename_i hij
          by_cases hi : i < st.length
          · rw [List.getElem?_append_left hi] at h1
            exact hst.2 i s l h1 (by rw [List.getElem?_take, if_pos (by omega)]; exact h2)
          · have hij2 : i = j := by omega
            subst hij2
            rw [List.getElem?_append_right (by omega), show i - st.length = 0 by omega] at h1
            have es : s = r := by simpa using h1.symm
            have el : l = rowAt ex i := by unfold rowAt; rw [List.getD_eq_getElem?_getD, h2]; rfl
            rw [lI_len] at r1
            subst es el
            exact ⟨r0, r1⟩
        · cases h2
      · rw [lI_snoc]; rfl
    · obtain ⟨st, s3, hst, rfl⟩ := hI
      rw [rowsL_len, List.take_length] at hst
      exact ⟨st, s3, hst, rfl⟩
    · obtain ⟨st, s3, hst, rfl⟩ := hI
      exact ss_one (s_ret (nmS 2 (q st hst)))
/-! ### drawn numbers -/
def NB (n : Nat) (m : Int) (l : List Int) : Prop := l.length = n ∧ ∀ v ∈ l, 0 ≤ v ∧ v < m
theorem NB.nums {n : Nat} {m : Int} {l : List Int} (h : NB n m l) (hm : m ≤ 1000) : Nums n l := ⟨h.1, fun v hv => by
  obtain ⟨a, b⟩ := h.2 v hv
  exact ⟨a, Int.lt_of_lt_of_le (Int.lt_of_lt_of_le b hm) (by decide)⟩⟩
theorem NB.at {n : Nat} {m : Int} {l : List Int} (h : NB n m l) {p : Nat} (hp : p < n) : 0 ≤ nth l p ∧ nth l p < m := h.2 _ (nth_mem (by rw [h.1]; exact hp))
end
end K26

namespace K26
open PySem PySem.Spec PyProof.Rows L2 DD
def forB : Stmt → List Stmt
  | .For _ _ b _ _ => b
  | _ => []
section
variable {P : Program} {w : World} {K : PySem.W.Frag} {mg : Str → Option Value} {base : Heap} {f C : Addr} {fd : FuncData} {k : Nat}
theorem insI (l : List Int) (t : Int) (n : Nat) : (lI l).take n ++ [.int t] ++ (lI l).drop n = lI (l.take n ++ [t] ++ l.drop n) := by
  unfold lI
  rw [List.map_append, List.map_append, List.map_take, List.map_drop]; rfl
def cLnt : List D → (D → Prop) → Prop := fun ds Z => ds = [.int 4] ∧ ∀ e ex, 1 ≤ e → e ≤ 2 → ex.length ≤ 4 → Valid e ex → (∀ l ∈ ex, l.length ≤ 3) → Z (.tup [.int e, .lst (rowsL ex)])
theorem ok_Lnet (T : Blt2 mg) (Fd : Df P w K mg base k "_law_draw" ["_law_pot_here", "_law_many"] (spP cDraw)) (F : Fun K "_law_net" "_law_net" s_Lnet f fd) : FnOk P w K mg base CX0 (k + 1) f fd ["_law_pot_here", "_law_most"] (spP cLnt) := by
  refine fnP F c_Lnet (fun ds Z h => ?_) (fun cdv A outer s H E ds Z hr h => ?_)
  · obtain ⟨rfl, _⟩ := h
    rfl
  · obtain ⟨rfl, q⟩ := h
    have one : (1 : Nat) ≤ sizeLine := by decide
    refine ss_cons (s_parNI 2 3 c_Lnet (by decide) (w_binG (w_int (callP 0 Fd hr (a1 (w_int ⟨rfl, 2, rfl, ⟨by decide, by decide⟩, fun u u0 u1 => o_add ?_⟩))))))
    obtain ⟨e, he⟩ : ∃ e : Int, e = 1 + u := ⟨_, rfl⟩
    rw [← he]
    show WSs _ _ [.own false .pot, .val (.int 4), .val (.int e), .own true (.lst []), .un, .un, .un, .un, .un, .un] _
    refine ss_cons (set 4 c_Lnet (w_binG (w_int (callP 0 Fd hr (a1 (nm 1 ⟨rfl, 4, rfl, ⟨by decide, by decide⟩, fun r r0 r1 => o_add ?_⟩))))))
    obtain ⟨n, hn⟩ : ∃ n : Nat, (n : Int) = 1 + r := ⟨(1 + r).toNat, by omega⟩
    rw [← hn]
    show WSs _ _ [.own false .pot, .val (.int 4), .val (.int e), .own true (.lst []), .val (.int (n : Int)), .un, .un, .un, .un, .un] _
    refine ss_cut (fun ρ => ∃ ex s5 s6 s7 s8 s9, ExOk e n ex ∧ ex.length = n ∧ ρ = [.own false .pot, .val (.int 4), .val (.int e), .own true (.lst (rowsL ex)), .val (.int (n : Int)), s5, s6, s7, s8, s9])
      (for1 5 c_Lnet (wi_rng1 rfl T.t.range (a1 (nm 4 ⟨(n : Int), rfl, ⟨by omega, by omega⟩, fun j ρ => ∃ ex s5 s6 s7 s8 s9, ExOk e n ex ∧ ex.length = j ∧ ρ = [.own false .pot, .val (.int 4), .val (.int e), .own true (.lst (rowsL ex)), .val (.int (n : Int)), s5, s6, s7, s8, s9],
        ⟨[], .un, .un, .un, .un, .un, ⟨fun l hl => absurd hl (by simp), fun l hl => absurd hl (by simp)⟩, rfl, rfl⟩, fun j d ρi hd hI => ?_, fun ρn hI => ?_⟩)))) (fun ρ' hI => ?_)
    · obtain ⟨ex, s5, s6, s7, s8, s9, hex, hlen, rfl⟩ := hI
      have hj := (List.getElem?_eq_some_iff.mp hd).1
      rw [rng_len] at hj
      rw [rng_nats] at hd
      obtain ⟨pt, hpt, rfl⟩ := lI_at hd
      rw [nats_get hj] at hpt
      cases hpt
      refine ss_cons (setO 6 c_Lnet (f_nil ?_))
      show WSs _ _ _ _
      refine ss_cut (fun ρ => ∃ l s7, l.length ≤ 2 ∧ (∀ t ∈ l, -e ≤ t ∧ t < n) ∧ ρ = [.own false .pot, .val (.int 4), .val (.int e), .own true (.lst (rowsL ex)), .val (.int (n : Int)), .val (.int (j : Int)), .own true (.lst (lI l)), s7, s8, s9])
        (for1 7 c_Lnet (wi_rng1 rfl T.t.range (a1 (callP 0 Fd hr (a1 (w_int ⟨rfl, 3, rfl, ⟨by decide, by decide⟩, fun r r0 r1 => ⟨_, rfl, ⟨by omega, by omega⟩, fun i ρ => ∃ l s7, l.length = i ∧ (∀ t ∈ l, -e ≤ t ∧ t < n) ∧ ρ = [.own false .pot, .val (.int 4), .val (.int e), .own true (.lst (rowsL ex)), .val (.int (n : Int)), .val (.int (j : Int)), .own true (.lst (lI l)), s7, s8, s9],
          ⟨[], s7, rfl, fun t ht => absurd ht (by simp), rfl⟩, fun i d2 ρi hd2 hI => ?_, fun ρn hI => ?_⟩⟩)))))) (fun ρ' hI => ?_)
      · obtain ⟨l, s7', hl, hb, rfl⟩ := hI
        have hi := (List.getElem?_eq_some_iff.mp hd2).1
        rw [rng_len] at hi
        refine ss_one (app 6 (ds := lI l) rfl (w_binG (callP 0 Fd hr (a1 (w_binG (nm 4 (nm 2 (o_add ⟨rfl, _, rfl, ⟨?_, ?_⟩, fun r r0 r1 => nm 2 (o_sub ⟨lI l, rfl, ?_, l ++ [r - e], .val d2, ?_, ?_, ?_⟩)⟩))))))))
        · omega
        · omega
        · rw [lI_len]; omega
        · rw [List.length_append]; simp [hl]
        · intro t ht
          rcases List.mem_append.mp ht with h | h
          · exact hb t h
          · have : t = r - e := by simpa using h
            omega
        · rw [lI_snoc]; rfl
      · obtain ⟨l, s7', hl, hb, rfl⟩ := hI
        rw [rng_len] at hl
        exact ⟨l, s7', by omega, hb, rfl⟩
      · obtain ⟨l, s7', hl, hb, rfl⟩ := hI
        refine ss_share (i := 6) rfl ?_
        show WSs _ _ [.own false .pot, .val (.int 4), .val (.int e), .own true (.lst (rowsL ex)), .val (.int (n : Int)), .val (.int (j : Int)), .val (.lst (lI l)), s7', s8, s9] _
        refine ss_cons (set 8 c_Lnet (callP 0 Fd hr (a1 (w_binG (w_callB (id := "len") true rfl T.t.len (by decide +kernel) (a1 (nm 6 (c_lenL (w_int (o_add ⟨rfl, _, rfl, ⟨?_, ?_⟩, fun a a0 a1 => ?_⟩))))))))))
        · rw [lI_len]; omega
        · rw [lI_len]; omega
        rw [lI_len] at a1
        obtain ⟨at0, hat⟩ : ∃ at0 : Nat, (at0 : Int) = a := ⟨a.toNat, by omega⟩
        rw [← hat]
        have atl : at0 ≤ (lI l).length := by rw [lI_len]; omega
        show WSs _ _ [.own false .pot, .val (.int 4), .val (.int e), .own true (.lst (rowsL ex)), .val (.int (n : Int)), .val (.int (j : Int)), .val (.lst (lI l)), s7', .val (.int (at0 : Int)), s9] _
        have put : ∀ t : Int, -e ≤ t → t < n → ∀ (EE : DE), (∀ ρ, (∃ ex s5 s6 s7 s8 s9, ExOk e n ex ∧ ex.length = j + 1 ∧ ρ = [.own false .pot, .val (.int 4), .val (.int e), .own true (.lst (rowsL ex)), .val (.int (n : Int)), s5, s6, s7, s8, s9]) → EE.nx ρ) → WSs (CxD P w K mg base N_Lnet "_law_net" s_Lnet f cdv A outer s H E) ((forB ((defBody s_Lnet).getD 2 (.Pass ⟨0, 0, 0, 0⟩))).drop 4)
            [.own false .pot, .val (.int 4), .val (.int e), .own true (.lst (rowsL ex)), .val (.int (n : Int)), .val (.int (j : Int)), .val (.lst (lI l)), s7', .val (.int (at0 : Int)), .val (.int t)] EE := fun t t0 t1 EE hE => by
          refine ss_one (app 3 (ds := rowsL ex) rfl (w_binG (w_binG (w_slL (nm 6 ⟨_, rfl, ?_⟩)))))
          show W _ _ _ _ _ _
          refine nm 8 ⟨_, rfl, ?_⟩
          show W _ _ _ _ _ _
          rw [cut_to atl]
          refine w_lst (DD.a1 (nm 9 ⟨one, o_cat ⟨?_, w_slL (nm 6 ⟨_, rfl, ?_⟩)⟩⟩))
          · rw [List.length_take]; show _ + 1 ≤ sizeLine; exact Nat.le_trans (show _ ≤ 10 by rw [lI_len]; omega) (by decide)
          show W _ _ _ _ _ _
          refine nm 8 ⟨_, rfl, ?_⟩
          show Op2 _ _ _ _ _ _
          rw [cut_from atl]
          refine o_cat ⟨?_, ?_⟩
          · rw [List.length_append, List.length_take, List.length_drop]; show _ + 1 + _ ≤ sizeLine; exact Nat.le_trans (show _ ≤ 20 by rw [lI_len]; omega) (by decide)
          rw [insI]
          have l3 : (l.take at0 ++ [t] ++ l.drop at0).length = l.length + 1 := by
            rw [lI_len] at atl
            rw [List.length_append, List.length_append, List.length_take, List.length_drop]
            show min at0 l.length + 1 + _ = _
            omega
          refine ⟨rowsL ex, rfl, ?_, hE _ ⟨ex ++ [l.take at0 ++ [t] ++ l.drop at0], .val (.int (j : Int)), .val (.lst (lI l)), s7', .val (.int (at0 : Int)), .val (.int t), hex.snoc ⟨by omega, by omega⟩ fun x hx => ?_, ?_, ?_⟩⟩
          · rw [rowsL_len]; omega
          · rcases List.mem_append.mp hx with h | h
            · rcases List.mem_append.mp h with h | h
              · exact hb x (List.mem_of_mem_take h)
              · have : x = t := by simpa using h
                subst this; exact ⟨t0, t1⟩
            · exact hb x (List.mem_of_mem_drop h)
          · rw [List.length_append, hlen]; rfl
          · rw [rowsL_snoc]; rfl
        refine ss_cons (set 9 c_Lnet (w_if (t_cmpG (nm 5 (w_int (o_gt ⟨_, rfl, ?_⟩))))))
        by_cases hj0 : (0 : Int) < (j : Int)
        · rw [if_pos (decide_eq_true hj0)]
          exact callP 0 Fd hr (DD.a1 (nm 5 ⟨rfl, (j : Int), rfl, ⟨by omega, by omega⟩, fun x x0 x1 => put x (by omega) (by omega) _ fun _ h => h⟩))
        · rw [if_neg (by rw [decide_eq_false hj0]; decide)]
          exact w_binG (w_un (w_int (o_neg (callP 0 Fd hr (DD.a1 (nm 2 ⟨rfl, e, rfl, ⟨by omega, by omega⟩, fun x x0 x1 => o_sub (put (-1 - x) (by omega) (by omega) _ fun _ h => h)⟩))))))
    · obtain ⟨ex, s5, s6, s7, s8, s9, hex, hlen, rfl⟩ := hI
      rw [rng_len] at hlen
      exact ⟨ex, s5, s6, s7, s8, s9, hex, by omega, rfl⟩
    · obtain ⟨ex, s5, s6, s7, s8, s9, hex, hlen, rfl⟩ := hI
      refine ss_share (i := 3) rfl (ss_one (s_ret (w_tup (aG (nm 2 (DD.a1 (nm 3 ⟨by show 2 ≤ sizeLine; decide, q e ex (by omega) (by omega) (by omega) (hex.valid hlen (by omega) (by omega) (by omega) (by omega)) fun l hm => (hex.r1 l hm).2⟩)))))))
def cNs : List D → (D → Prop) → Prop := fun ds Z => ∃ (n : Nat) (m : Int), ds = [.int (n : Int), .int m] ∧ n ≤ 24 ∧ (0 ≤ m ∧ m < 1000) ∧ ∀ ns, NB n (m + 1) ns → Z (.lst (lI ns))
theorem ok_Lnumbers (T : Blt2 mg) (Fd : Df P w K mg base k "_law_draw" ["_law_pot_here", "_law_many"] (spP cDraw)) (F : Fun K "_law_numbers" "_law_numbers" s_Lnumbers f fd) : FnOk P w K mg base CX0 (k + 1) f fd ["_law_pot_here", "_law_many", "_law_most"] (spP cNs) := by
  refine fnP F c_Lnumbers (fun ds Z h => ?_) (fun cdv A outer s H E ds Z hr h => ?_)
  · obtain ⟨n, m, rfl, _⟩ := h
    rfl
  · obtain ⟨n, m, rfl, n24, ⟨m0, m1⟩, q⟩ := h
    refine ss_cons (setO 3 c_Lnumbers (f_nil ?_))
    show WSs _ _ _ _
    refine ss_cut (fun ρ => ∃ ns s4, NB n (m + 1) ns ∧ ρ = [.own false .pot, .val (.int (n : Int)), .val (.int m), .own true (.lst (lI ns)), s4])
      (for1 4 c_Lnumbers (wi_rng1 rfl T.t.range (a1 (nm 1 ⟨(n : Int), rfl, ⟨by omega, by omega⟩, fun j ρ => ∃ ns s4, NB j (m + 1) ns ∧ ρ = [.own false .pot, .val (.int (n : Int)), .val (.int m), .own true (.lst (lI ns)), s4],
        ⟨[], .un, ⟨rfl, fun v hv => absurd hv (by simp)⟩, rfl⟩, fun j d ρi hd hI => ?_, fun ρn hI => ?_⟩)))) (fun ρ' hI => ?_)
    · obtain ⟨ns, s4, hns, rfl⟩ := hI
      have hj := (List.getElem?_eq_some_iff.mp hd).1
      rw [rng_len] at hj
      have hl := hns.1
      refine ss_one (app 3 (ds := lI ns) rfl (callP 0 Fd hr (a1 (w_binG (nm 2 (w_int (o_add ⟨rfl, m + 1, rfl, ⟨by omega, by omega⟩, fun r r0 r1 => ⟨lI ns, rfl, ?_, ns ++ [r], .val d, ⟨?_, fun v hv => ?_⟩, ?_⟩⟩)))))))
      · rw [lI_len]; omega
      · rw [List.length_append, hl]; rfl
      · rcases List.mem_append.mp hv with h | h
        · exact hns.2 v h
        · have : v = r := by simpa using h
          omega
      · rw [lI_snoc]; rfl
    · obtain ⟨ns, s4, hns, rfl⟩ := hI
      rw [rng_len, Int.toNat_natCast] at hns
      exact ⟨ns, s4, hns, rfl⟩
    · obtain ⟨ns, s4, hns, rfl⟩ := hI
      exact ss_one (s_ret (nmS 3 (q ns hns)))
end
end K26

namespace K26
open PySem PySem.Spec PyProof.Rows L2 DD
section
variable {P : Program} {w : World} {K : PySem.W.Frag} {mg : Str → Option Value} {base : Heap} {f C : Addr} {fd : FuncData} {k : Nat}
/-! ### the law's own machine -/
def lcD (x : Cw) : D := .tup [.lst (lI x.1), .lst (lI x.2.1), .lst (lI x.2.2)]
theorem set_parts {l : List Int} {p : Nat} {t : Int} (h : p < l.length) : l.take p ++ [t] ++ l.drop (p + 1) = l.set p t := by
  apply List.ext_getElem?
  intro i
  rw [List.getElem?_set, List.append_assoc]
  have tl : (l.take p).length = p := by rw [List.length_take]; omega
  by_cases h1 : i < p
  · rw [List.getElem?_append_left (by omega), List.getElem?_take, if_pos h1, if_neg (by omega)]
  · rw [List.getElem?_append_right (by omega), tl]
    by_cases h2 : p = i
    · subst h2
      rw [Nat.sub_self, if_pos rfl, if_pos h]; rfl
    · rw [if_neg h2]
      obtain ⟨j, rfl⟩ : ∃ j, i = p + 1 + j := ⟨i - (p + 1), by omega⟩
      rw [show p + 1 + j - p = j + 1 by omega]
      show (l.drop (p + 1))[j]? = _
      rw [List.getElem?_drop]
def cGn : List D → (D → Prop) → Prop := fun ds Z => ∃ e ex x p, ds = [.lst (rowsL ex), .lst (lI x.2.1), .int ((p : Nat) : Int)] ∧ Valid e ex ∧ Okm e ex x p ∧ Z (.tup [.int (tgC ex x p), .lst (lI (stC ex x p))])
theorem ok_Lgone (T : Blt2 mg) (F : Fun K "_law_gone" "_law_gone" s_Lgone f fd) : FnOk P w K mg base CX0 (k + 1) f fd ["_law_exits", "_law_setting_here", "_law_point"] (spD cGn) := by
  refine fnD F c_Lgone (fun ds Z h => ?_) (fun cdv A outer s H E ds Z hr h => ?_)
  · obtain ⟨e, ex, x, p, rfl, _⟩ := h
    rfl
  · obtain ⟨e, ex, x, p, rfl, v, om, q⟩ := h
    obtain ⟨hp, lw, ls, lc, ⟨s0, s1⟩, t0, t1⟩ := om
    have n24 := v.n24
    have r1 := v.r1 _ (rowAt_mem hp)
    have one : (1 : Nat) ≤ sizeLine := by decide
    have at2 : atI (lI x.2.1) ((p : Nat) : Int) = some (.int (nth x.2.1 p)) := ints_atI (by omega) (by rw [Int.toNat_natCast]; exact nth_get (by omega))
    have hrow : atI (rowsL ex) ((p : Nat) : Int) = some (.lst (lI (rowAt ex p))) := rows_atI (by omega) (by omega)
    have htg : (rowAt ex p)[(nth x.2.1 p).toNat]? = some (tgC ex x p) := nth_get (by omega)
    have sl : (lI x.2.1).length = ex.length := by rw [lI_len, ls]
    refine ss_cons (set 3 c_Lgone (w_ix true true (fun _ _ => rfl) (.inr rfl) (nm 1 (nm 2 (x_lst at2 ?_)))))
    show WSs _ _ [.val (.lst (rowsL ex)), .val (.lst (lI x.2.1)), .val (.int (p : Int)), .val (.int (nth x.2.1 p)), .un] _
    refine ss_cons (set 4 c_Lgone (w_binG (w_binG (w_slL (nm 1 ⟨_, rfl, ?_⟩)))))
    show W _ _ _ _ _ _
    refine nm 2 ⟨_, rfl, ?_⟩
    show W _ _ _ _ _ _
    rw [cut_to (by omega)]
    refine w_lst (a1 (w_binG (w_binG (nm 3 (w_int (o_add (w_callB (id := "len") true rfl T.t.len (by decide +kernel) (a1 (w_ix true true (fun _ _ => rfl) (.inr rfl) (nm 0 (nm 2 (x_lst hrow (c_lenL (o_mod ⟨?_, one, o_cat ⟨?_, w_slL (nm 1 ⟨_, rfl, ?_⟩)⟩⟩))))))))))))))
    · rw [lI_len]; omega
    · rw [List.length_take]; show _ + 1 ≤ sizeLine; exact Nat.le_trans (show _ ≤ 30 by omega) (by decide)
    refine w_binG (nm 2 (w_int (o_add ⟨_, rfl, ?_⟩)))
    show Op2 _ _ _ _ _ _
    rw [show ((p : Nat) : Int) + 1 = ((p + 1 : Nat) : Int) by omega, cut_from (by omega)]
    refine o_cat ⟨?_, ?_⟩
    · rw [List.length_append, List.length_take, List.length_drop]; show _ + 1 + _ ≤ sizeLine; exact Nat.le_trans (show _ ≤ 60 by omega) (by decide)
    have es : (lI x.2.1).take p ++ [D.int ((nth x.2.1 p + 1) % ((lI (rowAt ex p)).length : Int))] ++ (lI x.2.1).drop (p + 1) = lI (stC ex x p) := by
      rw [lI_len]
      show _ = lI (x.2.1.set p ((nth x.2.1 p + 1) % ((rowAt ex p).length : Int)))
      rw [← set_parts (by omega)]
      unfold lI
      rw [List.map_append, List.map_append, List.map_take, List.map_drop]; rfl
    rw [es]
    show WSs _ _ [.val (.lst (rowsL ex)), .val (.lst (lI x.2.1)), .val (.int (p : Int)), .val (.int (nth x.2.1 p)), .val (.lst (lI (stC ex x p)))] _
    exact ss_one (s_ret (w_tup (aG (w_ix true true (fun _ _ => rfl) (.inr rfl) (w_ix true true (fun _ _ => rfl) (.inr rfl) (nm 0 (nm 2 (x_lst hrow (nm 3 (x_lst (ints_atI s0 htg) (a1 (nm 4 ⟨by show 2 ≤ sizeLine; decide, q⟩))))))))))))
def cLm : List D → (D → Prop) → Prop := fun ds Z => ∃ e ex x p, ds = [.lst (rowsL ex), lcD x, .int ((p : Nat) : Int)] ∧ Valid e ex ∧ Okm e ex x p ∧ Z (lcD (mvC ex x p))
theorem ok_Lmoved (T : Blt2 mg) (Fg : Df P w K mg base k "_law_gone" ["_law_exits", "_law_setting_here", "_law_point"] (spD cGn)) (F : Fun K "_law_moved" "_law_moved" s_Lmoved f fd) : FnOk P w K mg base CX0 (k + 1) f fd ["_law_exits", "_law_crowd", "_law_point"] (spD cLm) := by
  refine fnD F c_Lmoved (fun ds Z h => ?_) (fun cdv A outer s H E ds Z hr h => ?_)
  · obtain ⟨e, ex, x, p, rfl, _⟩ := h
    rfl
  · obtain ⟨e, ex, x, p, rfl, v, om, q⟩ := h
    have om2 := om
    obtain ⟨hp, lw, ls, lc, _, t0, t1⟩ := om
    have n24 := v.n24
    have e0 := v.e0
    obtain ⟨tg, htg⟩ : ∃ tg, tg = tgC ex x p := ⟨_, rfl⟩
    have three : (3 : Nat) ≤ sizeLine := by decide
    refine ss_cons (s_unp2 3 4 c_Lmoved (call Fg hr (aG (nm 0 (aG (w_ix true true (fun _ _ => rfl) (.inr rfl) (nm 1 (w_int (x_tup (d := .lst (lI x.2.1)) rfl (a1 (nm 2 ⟨e, ex, x, p, rfl, v, om2, _, _, rfl, ?_⟩)))))))))))
    rw [← htg] at t0 t1 ⊢
    show WSs _ _ [.val (.lst (rowsL ex)), .val (lcD x), .val (.int (p : Int)), .val (.int tg), .val (.lst (lI (stC ex x p))), .un, .un] _
    refine ss_cons (s_par2LL 5 6 c_Lmoved (by decide) T.t.list (w_ix true true (fun _ _ => rfl) (.inr rfl) (nm 1 (w_int (x_tup (d := .lst (lI x.1)) rfl ⟨_, .inl rfl, w_ix true true (fun _ _ => rfl) (.inr rfl) (nm 1 (w_int (x_tup (d := .lst (lI x.2.2)) rfl ⟨_, .inl rfl, ?_⟩)))⟩)))))
    show WSs _ _ [.val (.lst (rowsL ex)), .val (lcD x), .val (.int (p : Int)), .val (.int tg), .val (.lst (lI (stC ex x p))), .own true (.lst (lI x.1)), .own true (.lst (lI x.2.2))] _
    have at1 : atI (lI x.1) ((p : Nat) : Int) = some (.int (nth x.1 p)) := ints_atI (by omega) (by rw [Int.toNat_natCast]; exact nth_get (by omega))
    have ixp : ixN (lI x.1).length ((p : Nat) : Int) = some p := by
      have := ixN_in (n := (lI x.1).length) (i := (p : Int)) (by omega) (by rw [lI_len]; omega)
      rw [Int.toNat_natCast] at this
      exact this
    refine ss_cons (item 5 (w_binG (w_ixO 5 ⟨_, rfl⟩ (nm 2 ⟨_, _, _, rfl, rfl, at1, w_int (o_sub ⟨_, rfl, nm 2 ⟨_, p, rfl, ixp, ?_⟩⟩)⟩))))
    have e1 : (lI x.1).set p (.int (nth x.1 p - 1)) = lI (wlC x p) := mset _ _ _
    rw [e1]
    show WSs _ _ [.val (.lst (rowsL ex)), .val (lcD x), .val (.int (p : Int)), .val (.int tg), .val (.lst (lI (stC ex x p))), .own true (.lst (lI (wlC x p))), .own true (.lst (lI x.2.2))] _
    have lwl : (wlC x p).length = ex.length := by
      show (x.1.set p _).length = _
      rw [List.length_set]; exact lw
    have fin : ∀ y : Cw, y = mvC ex x p → y.2.1 = stC ex x p → WSs (CxD P w K mg base N_Lmoved "_law_moved" s_Lmoved f cdv A outer s H E) ((defBody s_Lmoved).drop 4) [.val (.lst (rowsL ex)), .val (lcD x), .val (.int (p : Int)), .val (.int tg), .val (.lst (lI (stC ex x p))), .own true (.lst (lI y.1)), .own true (.lst (lI y.2.2))] { nx := fun _ => Z .non, rt := Z } := fun y ey es => by
      refine ss_share (i := 5) rfl (ss_share (i := 6) rfl (ss_one (s_ret (w_tup (aG (nm 5 (aG (nm 4 (a1 (nm 6 ⟨three, ?_⟩)))))))))) 
      rw [← ey] at q
      unfold lcD at q
      rw [es] at q
      exact q
    refine ss_cons (s_if (t_cmpG (nm 3 (w_int (o_ge ⟨_, rfl, ?_⟩)))))
    by_cases ht : 0 ≤ tg
    · rw [if_pos (decide_eq_true ht)]
      have at3 : atI (lI (wlC x p)) tg = some (.int (nth (wlC x p) tg.toNat)) := ints_atI ht (nth_get (by omega))
      refine ss_one (item 5 (w_binG (w_ixO 5 ⟨_, rfl⟩ (nm 3 ⟨_, _, _, rfl, rfl, at3, w_int (o_add ⟨_, rfl, nm 3 ⟨_, tg.toNat, rfl, ixN_in ht (by rw [lI_len]; omega), ?_⟩⟩)⟩))))
      have e2 : (lI (wlC x p)).set tg.toNat (.int (nth (wlC x p) tg.toNat + 1)) = lI ((wlC x p).set tg.toNat (nth (wlC x p) tg.toNat + 1)) := mset _ _ _
      rw [e2]
      exact fin ((wlC x p).set tg.toNat (nth (wlC x p) tg.toNat + 1), stC ex x p, x.2.2) (by unfold mvC; rw [← htg, if_pos ht]) rfl
    · rw [if_neg (by rw [decide_eq_false ht]; decide)]
      have at3 : atI (lI x.2.2) (-1 - tg) = some (.int (nth x.2.2 (-1 - tg).toNat)) := ints_atI (by omega) (nth_get (by omega))
      refine ss_one (item 6 (w_binG (w_ixO 6 ⟨_, rfl⟩ (w_binG (w_un (w_int (o_neg (nm 3 (o_sub ⟨_, _, _, rfl, rfl, at3, w_int (o_add ⟨_, rfl, w_binG (w_un (w_int (o_neg (nm 3 (o_sub ⟨_, (-1 - tg).toNat, rfl, ixN_in (by omega) (by rw [lI_len]; omega), ?_⟩)))))⟩)⟩)))))))))
      have e2 : (lI x.2.2).set (-1 - tg).toNat (.int (nth x.2.2 (-1 - tg).toNat + 1)) = lI (x.2.2.set (-1 - tg).toNat (nth x.2.2 (-1 - tg).toNat + 1)) := mset _ _ _
      rw [e2]
      exact fin (wlC x p, stC ex x p, x.2.2.set (-1 - tg).toNat (nth x.2.2 (-1 - tg).toNat + 1)) (by unfold mvC; rw [← htg, if_neg ht]) rfl
def cLt : List D → (D → Prop) → Prop := fun ds Z => ∃ x : Cw, ds = [lcD x] ∧ Z (crD x)
theorem ok_Ltold (T : Blt2 mg) (F : Fun K "_law_told" "_law_told" s_Ltold f fd) : FnOk P w K mg base CX0 (k + 1) f fd ["_law_crowd"] (spD cLt) := by
  refine fnD F c_Ltold (fun ds Z h => ?_) (fun cdv A outer s H E ds Z hr h => ?_)
  · obtain ⟨x, rfl, _⟩ := h
    rfl
  · obtain ⟨x, rfl, q⟩ := h
    have three : (3 : Nat) ≤ sizeLine := by decide
    exact ss_one (s_ret (w_tup (aG (w_callTy (T := "tuple") true rfl T.t.tuple (by decide +kernel) (a1 (w_ix true true (fun _ _ => rfl) (.inr rfl) (nm 0 (w_int (x_tup (d := .lst (lI x.1)) rfl (c_tuple (aG (w_callTy (T := "tuple") true rfl T.t.tuple (by decide +kernel) (a1 (w_ix true true (fun _ _ => rfl) (.inr rfl) (nm 0 (w_int (x_tup (d := .lst (lI x.2.1)) rfl (c_tuple (a1 (w_callTy (T := "tuple") true rfl T.t.tuple (by decide +kernel) (a1 (w_ix true true (fun _ _ => rfl) (.inr rfl) (nm 0 (w_int (x_tup (d := .lst (lI x.2.2)) rfl (c_tuple ⟨three, q⟩))))))))))))))))))))))))))
def cLc : List D → (D → Prop) → Prop := fun ds Z => ∃ x : Cw, ds = [lcD x] ∧ x.1.length ≤ 24 ∧ Z (.lst (lI (canL x.1)))
theorem ok_Lcan (T : Blt2 mg) (F : Fun K "_law_can" "_law_can" s_Lcan f fd) : FnOk P w K mg base CX0 (k + 1) f fd ["_law_crowd"] (spD cLc) := by
  refine fnD F c_Lcan (fun ds Z h => ?_) (fun cdv A outer s H E ds Z hr h => ?_)
  · obtain ⟨x, rfl, _⟩ := h
    rfl
  · obtain ⟨x, rfl, h24, q⟩ := h
    refine ss_one (s_ret (lc2If 1 2 posB fst2 c_Lcan (wi_enum rfl T.t.enum (a1 (w_ix true true (fun _ _ => rfl) (.inr rfl) (nm 0 (w_int (x_tup (d := .lst (lI x.1)) rfl ⟨_, rfl, ?_, fun y hy => ?_, ?_⟩))))))))
    · rw [enum_ints, List.length_map, List.length_range]; omega
    · rw [enum_ints] at hy
      obtain ⟨i, hi, rfl⟩ := List.mem_map.mp hy
      exact ⟨_, _, rfl, fun _ _ _ _ _ => ⟨t_cmpG (nm 2 (w_int (o_gt ⟨_, rfl, rfl⟩))), fun _ => nm 1 rfl⟩⟩
    · rw [can_D]; exact q
end
end K26

namespace K26
open PySem PySem.Spec PyProof.Rows L2 DD
section
variable {P : Program} {w : World} {K : PySem.W.Frag} {mg : Str → Option Value} {base : Heap} {f C : Addr} {fd : FuncData} {k : Nat}
/-! ### sequences, drawn and by rounds -/
theorem ne_nil_c (l : List Int) : (!PyData.eqv (.list (l.map PyData.int)) (.list (([] : List Int).map PyData.int))) = !decide (l = []) := by
  show (!PyData.eqvAll _ _) = _
  rw [eqv_ints]
theorem runC_snoc (ex : List (List Int)) (x : Cw) (ps : List Nat) (p : Nat) : runC ex x (ps ++ [p]) = mvC ex (runC ex x ps) p := by rw [runC_app]; rfl
theorem pI_snoc (ps : List Nat) (p : Nat) : lI (pI ps) ++ [D.int (p : Int)] = lI (pI (ps ++ [p])) := by
  rw [lI_snoc]
  unfold pI
  rw [List.map_append]; rfl
theorem pI_len (ps : List Nat) : (lI (pI ps)).length = ps.length := by rw [lI_len, List.length_map]
def cDr : List D → (D → Prop) → Prop := fun ds Z => ∃ e ex st ss, ds = [.lst (rowsL ex), lcD (x0 e st ss), .int 130] ∧ Valid e ex ∧ ValidS ex st ∧ Nums ex.length ss ∧ ∀ ps, CanC ex (x0 e st ss) ps → ps.length ≤ 130 → Z (.tup [.lst (lI (pI ps)), lcD (runC ex (x0 e st ss) ps)])
theorem ok_Ldrawn (T : Blt2 mg) (Fd : Df P w K mg base k "_law_draw" ["_law_pot_here", "_law_many"] (spP cDraw)) (Fc : Df P w K mg base k "_law_can" ["_law_crowd"] (spD cLc)) (Fm : Df P w K mg base k "_law_moved" ["_law_exits", "_law_crowd", "_law_point"] (spD cLm)) (F : Fun K "_law_drawn" "_law_drawn" s_Ldrawn f fd) : FnOk P w K mg base CX0 (k + 1) f fd ["_law_pot_here", "_law_exits", "_law_crowd", "_law_most"] (spP cDr) := by
  refine fnP F c_Ldrawn (fun ds Z h => ?_) (fun cdv A outer s H E ds Z hr h => ?_)
  · obtain ⟨e, ex, st, ss, rfl, _⟩ := h
    rfl
  · obtain ⟨e, ex, st, ss, rfl, v, hst, hss, q⟩ := h
    have n24 := v.n24
    have hb : ∀ t ∈ ss, 0 ≤ t := fun t ht => (hss.num t ht).1
    have h0 := CrOf.new v hst hss.len hb
    refine ss_cons (setO 4 c_Ldrawn (f_nil ?_))
    show WSs _ _ _ _
    refine ss_cut (fun ρ => ∃ ps s5 s6, CanC ex (x0 e st ss) ps ∧ ps.length ≤ 130 ∧ ρ = [.own false .pot, .val (.lst (rowsL ex)), .val (lcD (runC ex (x0 e st ss) ps)), .val (.int 130), .own true (.lst (lI (pI ps))), s5, s6])
      (s_while PassesOwn.never (fun m ρ => ∃ ps s5 s6, CanC ex (x0 e st ss) ps ∧ ps.length ≤ 130 ∧ m = 130 - ps.length ∧ ρ = [.own false .pot, .val (.lst (rowsL ex)), .val (lcD (runC ex (x0 e st ss) ps)), .val (.int 130), .own true (.lst (lI (pI ps))), s5, s6])
        130 ⟨[], .un, .un, trivial, Nat.zero_le _, rfl, rfl⟩ (fun m ρ' hI => ?_)) (fun ρ' hI => ?_)
    · obtain ⟨ps, s5, s6, can, hl, rfl, rfl⟩ := hI
      obtain ⟨cr, _⟩ := h0.run _ can
      obtain ⟨x, hx⟩ : ∃ x, x = runC ex (x0 e st ss) ps := ⟨_, rfl⟩
      have lw := cr.lw
      rw [← hx] at lw cr ⊢
      refine t_bool (tb_and (t_cmpG (call Fc hr (a1 (nm 2 ⟨x, rfl, by omega, w_lst (a_nil ⟨Nat.zero_le _, o_neD hr.units (py_lI _) (py_lI []) (shaped_ints _) (shaped_ints []) ⟨_, rfl, ?_⟩⟩)⟩)))))
      rw [ne_nil_c]
      by_cases hn : canL x.1 = []
      · rw [decide_eq_true hn]
        exact ⟨ps, s5, s6, can, hl, by rw [hx]⟩
      · rw [decide_eq_false hn]
        show WTB _ _ _ _ _ _ _
        refine tb_and1 (t_cmpR (w_callB (id := "len") false rfl T.t.len (by decide +kernel) (a1 (nmO 4 (c_lenL (nm 3 (o_lt ⟨_, rfl, ?_⟩)))))))
        by_cases h130 : ((lI (pI ps)).length : Int) < 130
        · rw [if_pos (decide_eq_true h130)]
          rw [pI_len] at h130
          have cl := canL_len x.1
          have cp := List.length_pos_iff.mpr hn
          refine ss_cons (set 5 c_Ldrawn (call Fc hr (a1 (nm 2 ⟨x, rfl, by omega, ?_⟩))))
          show WSs _ _ [.own false .pot, .val (.lst (rowsL ex)), .val (lcD x), .val (.int 130), .own true (.lst (lI (pI ps))), .val (.lst (lI (canL x.1))), s6] _
          refine ss_cons (set 6 c_Ldrawn (w_ix true true (fun _ _ => rfl) (.inr rfl) (nm 5 (callP 0 Fd hr (a1 (w_callB (id := "len") true rfl T.t.len (by decide +kernel) (a1 (nm 5 (c_lenL ⟨rfl, _, rfl, ⟨?_, ?_⟩, fun r r0 r1 => ?_⟩)))))))))
          · rw [lI_len]; omega
          · rw [lI_len]; omega
          rw [lI_len] at r1
          have hm := nth_mem (l := canL x.1) (j := r.toNat) (by omega)
          refine x_lst (ints_atI r0 (nth_get (by omega))) ?_
          obtain ⟨p, hp, hw, ep⟩ := mem_canL.mp hm
          rw [ep]
          show WSs _ _ [.own false .pot, .val (.lst (rowsL ex)), .val (lcD x), .val (.int 130), .own true (.lst (lI (pI ps))), .val (.lst (lI (canL x.1))), .val (.int (p : Int))] _
          refine ss_cons (app 4 (ds := lI (pI ps)) rfl (nm 6 ⟨lI (pI ps), rfl, by rw [pI_len]; omega, ?_⟩))
          rw [pI_snoc]
          show WSs _ _ [.own false .pot, .val (.lst (rowsL ex)), .val (lcD x), .val (.int 130), .own true (.lst (lI (pI (ps ++ [p])))), .val (.lst (lI (canL x.1))), .val (.int (p : Int))] _
          have can2 := can.snoc (show p < ex.length by omega) (by rw [← hx]; exact hw)
          refine ss_one (set 2 c_Ldrawn (call Fm hr (aG (nm 1 (aG (nm 2 (a1 (nm 6 ⟨e, ex, x, p, rfl, v, cr.okm (by omega), ?_⟩))))))))
          refine ⟨130 - (ps ++ [p]).length, by rw [List.length_append, List.length_singleton]; omega, ps ++ [p], .val (.lst (lI (canL x.1))), .val (.int (p : Int)), can2, by rw [List.length_append, List.length_singleton]; omega, rfl, ?_⟩
          rw [runC_snoc, ← hx]; rfl
        · rw [if_neg (by rw [decide_eq_false h130]; decide)]
          exact ⟨ps, s5, s6, can, hl, by rw [hx]⟩
    · obtain ⟨ps, s5, s6, can, hl, rfl⟩ := hI
      exact ss_share (i := 4) rfl (ss_one (s_ret (w_tup (aG (nm 4 (a1 (nm 2 ⟨by show 2 ≤ sizeLine; decide, q ps can hl⟩)))))))
def cRo : List D → (D → Prop) → Prop := fun ds Z => ∃ e ex st ss ps, ds = [.lst (rowsL ex), lcD (x0 e st ss)] ∧ Valid e ex ∧ ValidS ex st ∧ Nums ex.length ss ∧ Full ex (x0 e st ss) ps ∧ ps.length ≤ 130 ∧ ∀ qs, Full ex (x0 e st ss) qs → Z (.tup [.lst (lI (pI qs)), lcD (runC ex (x0 e st ss) qs)])
theorem ok_Lrounds (T : Blt2 mg) (Fc : Df P w K mg base k "_law_can" ["_law_crowd"] (spD cLc)) (Fm : Df P w K mg base k "_law_moved" ["_law_exits", "_law_crowd", "_law_point"] (spD cLm)) (F : Fun K "_law_rounds" "_law_rounds" s_Lrounds f fd) : FnOk P w K mg base CX0 (k + 1) f fd ["_law_exits", "_law_crowd"] (spD cRo) := by
  refine fnD F c_Lrounds (fun ds Z h => ?_) (fun cdv A outer s H E ds Z hr h => ?_)
  · obtain ⟨e, ex, st, ss, ps, rfl, _⟩ := h
    rfl
  · obtain ⟨e, ex, st, ss, ps, rfl, v, hst, hss, full, h130, q⟩ := h
    have n24 := v.n24
    have hb : ∀ t ∈ ss, 0 ≤ t := fun t ht => (hss.num t ht).1
    have h0 := CrOf.new v hst hss.len hb
    refine ss_cons (setO 2 c_Lrounds (f_nil ?_))
    show WSs _ _ _ _
    refine ss_cut (fun ρ => ∃ qs s3, Full ex (x0 e st ss) qs ∧ ρ = [.val (.lst (rowsL ex)), .val (lcD (runC ex (x0 e st ss) qs)), .own true (.lst (lI (pI qs))), s3])
      (s_while PassesOwn.never (fun m ρ => ∃ qs s3, CanC ex (x0 e st ss) qs ∧ m = ps.length - qs.length ∧ ρ = [.val (.lst (rowsL ex)), .val (lcD (runC ex (x0 e st ss) qs)), .own true (.lst (lI (pI qs))), s3])
        ps.length ⟨[], .un, trivial, rfl, rfl⟩ (fun m ρ' hI => ?_)) (fun ρ' hI => ?_)
    · obtain ⟨qs, s3, can, rfl, rfl⟩ := hI
      obtain ⟨cr, _⟩ := h0.run _ can
      obtain ⟨x, hx⟩ : ∃ x, x = runC ex (x0 e st ss) qs := ⟨_, rfl⟩
      have lw := cr.lw
      have lq := can_le v hst hss.len hb full can
      rw [← hx] at lw cr ⊢
      refine t_cmpG (call Fc hr (a1 (nm 1 ⟨x, rfl, by omega, w_lst (a_nil ⟨Nat.zero_le _, o_neD hr.units (py_lI _) (py_lI []) (shaped_ints _) (shaped_ints []) ⟨_, rfl, ?_⟩⟩)⟩)))
      rw [ne_nil_c]
      by_cases hn : canL x.1 = []
      · rw [decide_eq_true hn]
        refine ⟨qs, s3, ⟨can, fun q hq => ?_⟩, by rw [hx]⟩
        rw [← hx]
        exact canL_nil hn (fun q hq => by rw [cr.w q (by omega)]; exact cr.I.w0 q (show q < ex.length by omega)) q (by omega)
      · rw [decide_eq_false hn]
        show WSs _ _ [.val (.lst (rowsL ex)), .val (lcD x), .own true (.lst (lI (pI qs))), s3] _
        refine ss_one (for1 3 c_Lrounds (wi_rng1 rfl T.t.range (a1 (w_callB (id := "len") true rfl T.t.len (by decide +kernel) (a1 (nm 0 (c_lenL ⟨_, rfl, ⟨?_, ?_⟩, fun j ρ => ∃ q2 s3, CanC ex (x0 e st ss) q2 ∧ (qs.length < q2.length ∨ (q2 = qs ∧ ∀ i, i < j → ¬ 0 < nth x.1 i)) ∧ ρ = [.val (.lst (rowsL ex)), .val (lcD (runC ex (x0 e st ss) q2)), .own true (.lst (lI (pI q2))), s3],
          ⟨qs, s3, can, .inr ⟨rfl, fun i hi => by omega⟩, by rw [hx]⟩, fun j d ρi hd hI => ?_, fun ρn hI => ?_⟩)))))))
        · rw [rowsL_len]; omega
        · rw [rowsL_len]; omega
        · obtain ⟨q2, s3', can2, prog, rfl⟩ := hI
          have hj := (List.getElem?_eq_some_iff.mp hd).1
          rw [rng_len, rowsL_len, Int.toNat_natCast] at hj
          rw [rowsL_len, Int.toNat_natCast, rng_nats] at hd
          obtain ⟨pt, hpt, rfl⟩ := lI_at hd
          rw [nats_get hj] at hpt
          cases hpt
          obtain ⟨cr2, _⟩ := h0.run _ can2
          obtain ⟨y, hy⟩ : ∃ y, y = runC ex (x0 e st ss) q2 := ⟨_, rfl⟩
          have lw2 := cr2.lw
          rw [← hy] at lw2 cr2 ⊢
          have at1 : atI (lI y.1) ((j : Nat) : Int) = some (.int (nth y.1 j)) := ints_atI (by omega) (by rw [Int.toNat_natCast]; exact nth_get (by omega))
          show WSs _ _ [.val (.lst (rowsL ex)), .val (lcD y), .own true (.lst (lI (pI q2))), .val (.int (j : Int))] _
          refine ss_one (s_if (t_cmpG (w_ix true true (fun _ _ => rfl) (.inr rfl) (w_ix true true (fun _ _ => rfl) (.inr rfl) (nm 1 (w_int (x_tup (d := .lst (lI y.1)) rfl (nm 3 (x_lst at1 (w_int (o_gt ⟨_, rfl, ?_⟩))))))))))) 
          by_cases hw : 0 < nth y.1 j
          · rw [if_pos (decide_eq_true hw)]
            have can3 := can2.snoc hj (by rw [← hy]; exact hw)
            have l3 := can_le v hst hss.len hb full can3
            rw [List.length_append, List.length_singleton] at l3
            refine ss_cons (app 2 (ds := lI (pI q2)) rfl (nm 3 ⟨lI (pI q2), rfl, by rw [pI_len]; omega, ?_⟩))
            rw [pI_snoc]
            show WSs _ _ [.val (.lst (rowsL ex)), .val (lcD y), .own true (.lst (lI (pI (q2 ++ [j])))), .val (.int (j : Int))] _
            refine ss_one (set 1 c_Lrounds (call Fm hr (aG (nm 0 (aG (nm 1 (a1 (nm 3 ⟨e, ex, y, j, rfl, v, cr2.okm hj, ?_⟩))))))))
            refine ⟨q2 ++ [j], .val (.int (j : Int)), can3, .inl ?_, ?_⟩
            · rw [List.length_append, List.length_singleton]
              rcases prog with z | ⟨z, _⟩
              · omega
              · rw [z]; omega
            · rw [runC_snoc, ← hy]; rfl
          · rw [if_neg (by rw [decide_eq_false hw]; decide)]
            refine ss_nil ⟨q2, .val (.int (j : Int)), can2, prog.imp id fun z => ⟨z.1, fun i hi => ?_⟩, by rw [hy]⟩
            by_cases hij : i = j
            · subst hij
              rw [hx, ← z.1, ← hy]; exact hw
            · exact z.2 i (by omega)
        · obtain ⟨q2, s3', can2, prog, rfl⟩ := hI
          have l2 := can_le v hst hss.len hb full can2
          have lt : qs.length < q2.length := by
            rcases prog with z | ⟨z, hz⟩
            · exact z
            · rw [rng_len, rowsL_len, Int.toNat_natCast] at hz
              obtain ⟨t, ht⟩ := List.exists_mem_of_ne_nil _ hn
              obtain ⟨p, hp, hw, _⟩ := mem_canL.mp ht
              exact absurd hw (hz p (by omega))
          exact ⟨ps.length - q2.length, by omega, q2, s3', can2, rfl, rfl⟩
    · obtain ⟨qs, s3, fq, rfl⟩ := hI
      exact ss_share (i := 2) rfl (ss_one (s_ret (w_tup (aG (nm 2 (a1 (nm 1 ⟨by show 2 ≤ sizeLine; decide, q qs fq⟩)))))))
end
end K26

namespace K26
open PySem PySem.Spec PyProof.Rows L2 DD
/-! ### f(e, .., k = v), so many by position -/
def gA {α : Type} (n : Nat) (us ws : List α) : List α := if us.length = n then us ++ ws else []
structure DfA2 (P : Program) (w : World) (K : PySem.W.Frag) (mg : Str → Option Value) (base : Heap) (k : Nat) (x : Str) (ps ks : List Str) (n : Nat) (sp : Sp) : Prop where
  ex : ∃ f fd, FnOk P w K mg base CX0 k f fd ps sp ∧ mg x = some (.ref f) ∧ PySem.W.keepIn K (.ref f) = true ∧ KBinds K fd ps ks (gA n) (gA n)
theorem vals_gA {n : Nat} {vs : List V} {us : List Value} {zs : List V} {ws : List Value} (h1 : Vals vs us) (h2 : Vals zs ws) : Vals (gA n vs zs) (gA n us ws) := by
  unfold gA
  by_cases h : us.length = n
  · rw [if_pos h, if_pos (by rw [h1.length]; exact h)]; exact h1.append h2
  · rw [if_neg h, if_neg (by rw [h1.length]; exact h)]; exact .nil
theorem callA2 {X : Cx} {ρ : Rho} {pos : Pos} {ps : List Str} {x : Str} {p g : Bool} {Q : D → Rho → Prop} {k n : Nat} {ks : List Str} {c : List D → (D → Prop) → Prop} {pp : Pos} {e : Expr} {es : List Expr} {kws : List Keyword} (F : DfA2 X.prog X.w X.K X.mg X.base k x ps ks n (spD c)) (hr : Room k X.A)
    (h : WA p true X (e :: es) ρ fun ds ρ1 => ds.length = n ∧ WK p true X kws ρ1 fun es ρ' => c (ds ++ es) fun d => Q d ρ') (hg : Gl X x := by rfl) (hdb : (x == ("__debug__" : Str)) = false := by decide)
    (hall : (backToKw pos (keywordEach kws X.env)).all (·.1.isSome) = true := by rfl) (hks : (backToKw pos (keywordEach kws X.env)).filterMap (·.1) = ks := by rfl) (he : starEach (e :: es) X.env = (false, eval e X.env) :: starEach es X.env := by rfl)
    (hpl : ((backTo pos (starEach (e :: es) X.env)).any (·.1) || (backToKw pos (keywordEach kws X.env)).any (·.1.isNone)) = false := by rfl) : W p g X (.Call (.Name x pp) (e :: es) kws pos) ρ Q := fun B σ G H S R r => by
  obtain ⟨f, fd, F, hm, hk, hb⟩ := F.ex
  refine wE_of (pe_callK F hr hg hm hk hb pass0 pa_w pk_w hall hks hdb he hpl) ?_
  refine h B σ G H S _ fun vs ds ρ1 G1 H1 q1 S1 x1 pu1 i1 => ?_
  obtain ⟨hn, q1⟩ := q1
  refine q1 B σ G1 H1 S1 _ fun zs fs ρ' G' H' q S' x2 pu2 i2 => ?_
  have ev : gA n vs zs = vs ++ zs := if_pos (by rw [i1.length]; exact hn)
  refine ⟨G', ds ++ fs, fun d => Q d ρ', S'.ex, by rw [ev]; exact (IsA.mono x2 _ _ i1).append i2, q, fun v d G2 H2 z gr iz => ?_⟩
  exact r v d ρ' G2 H2 z (S'.grow gr) ((x1.trans x2).trans gr.g) (fun w => ⟨(pu2 w).1.trans (pu1 w).1, ((pu1 w).2.trans (pu2 w).2).trans gr⟩) (is_h (S'.grow gr) iz)
theorem cut_toA {xs : List D} {n : Nat} : DD.cutD xs none (some (n : Int)) = xs.take n := by
  by_cases h : n ≤ xs.length
  · exact cut_to h
  · unfold DD.cutD
    rw [HT.sIx_none, HT.sIx_nat, List.drop_zero, Nat.min_eq_right (by omega), Nat.sub_zero, List.take_of_length_le (Nat.le_refl _), List.take_of_length_le (by omega)]
/-! ### crowds compared -/
theorem py_tI (l : List Int) : py (.tup (lI l)) = some (.tuple (l.map PyData.int)) := by
  show (pyA (l.map D.int)).map PyData.tuple = _
  rw [pyA_ints]; rfl
def pyC (x : Cw) : PyData := .tuple [.tuple (x.1.map PyData.int), .tuple (x.2.1.map PyData.int), .tuple (x.2.2.map PyData.int)]
theorem py_cr (x : Cw) : py (crD x) = some (pyC x) := by
  show ((py (.tup (lI x.1))).bind fun p => Option.map (p :: ·) ((py (.tup (lI x.2.1))).bind fun p => Option.map (p :: ·) ((py (.tup (lI x.2.2))).bind fun p => Option.map (p :: ·) (some [])))).map PyData.tuple = _
  rw [py_tI, py_tI, py_tI]; rfl
theorem shaped_cr (x : Cw) : SeqAt.shaped (pyC x) = true := by
  refine shaped_of ?_ ?_
  · show (PyData.canLayAll0 (x.1.map PyData.int) && (PyData.canLayAll0 (x.2.1.map PyData.int) && (PyData.canLayAll0 (x.2.2.map PyData.int) && true))) = true
    rw [lay_ints, lay_ints, lay_ints]; rfl
  · have d1 := dep_ints x.1
    have d2 := dep_ints x.2.1
    have d3 := dep_ints x.2.2
    show max (PyData.depthAll (x.1.map PyData.int) + 1) (max (PyData.depthAll (x.2.1.map PyData.int) + 1) (max (PyData.depthAll (x.2.2.map PyData.int) + 1) 0)) + 1 ≤ 64
    omega
theorem eqv_cr (x : Cw) : PyData.eqv (pyC x) (pyC x) = true := by
  show (PyData.eqvAll (x.1.map PyData.int) (x.1.map PyData.int) && (PyData.eqvAll (x.2.1.map PyData.int) (x.2.1.map PyData.int) && (PyData.eqvAll (x.2.2.map PyData.int) (x.2.2.map PyData.int) && true))) = true
  rw [eqv_ints, eqv_ints, eqv_ints, decide_eq_true rfl, decide_eq_true rfl, decide_eq_true rfl]; rfl
theorem ne_cr (x : Cw) : (!PyData.eqv (pyC x) (pyC x)) = false := by rw [eqv_cr]; rfl
def pyCn (x : Cw) (n : Int) : PyData := .tuple [pyC x, .int n]
theorem py_cn (x : Cw) (n : Int) : py (.tup [crD x, .int n]) = some (pyCn x n) := by
  show ((py (crD x)).bind fun p => Option.map (p :: ·) (some [PyData.int n])).map PyData.tuple = _
  rw [py_cr]; rfl
theorem shaped_cn (x : Cw) (n : Int) : SeqAt.shaped (pyCn x n) = true := by
  refine shaped_of ?_ ?_
  · show (PyData.canLay0 (pyC x) && true) = true
    show ((PyData.canLayAll0 (x.1.map PyData.int) && (PyData.canLayAll0 (x.2.1.map PyData.int) && (PyData.canLayAll0 (x.2.2.map PyData.int) && true))) && true) = true
    rw [lay_ints, lay_ints, lay_ints]; rfl
  · have d1 := dep_ints x.1
    have d2 := dep_ints x.2.1
    have d3 := dep_ints x.2.2
    show max (max (PyData.depthAll (x.1.map PyData.int) + 1) (max (PyData.depthAll (x.2.1.map PyData.int) + 1) (max (PyData.depthAll (x.2.2.map PyData.int) + 1) 0)) + 1) (max 0 0) + 1 ≤ 64
    omega
theorem ne_cn (x : Cw) (n : Int) : (!PyData.eqv (pyCn x n) (pyCn x n)) = false := by
  show (!(PyData.eqv (pyC x) (pyC x) && (n == n && true))) = false
  rw [eqv_cr]; simp
/-! ### sums and bounds -/
theorem sum_nn : ∀ {l : List Int}, (∀ t ∈ l, 0 ≤ t) → 0 ≤ l.sum
  | [], _ => Int.le_refl _
  | a :: l, h => by
    have := sum_nn fun t ht => h t (List.mem_cons_of_mem _ ht)
    have := h a List.mem_cons_self
    rw [List.sum_cons]; omega
theorem sum_zero : ∀ {l : List Int}, (∀ t ∈ l, 0 ≤ t) → l.sum = 0 → ∀ t ∈ l, t = 0
  | [], _, _, t, ht => by cases ht
  | a :: l, h, hs, t, ht => by
    have h1 := sum_nn fun t ht => h t (List.mem_cons_of_mem _ ht)
    have h2 := h a List.mem_cons_self
    rw [List.sum_cons] at hs
    rcases List.mem_cons.mp ht with rfl | ht
    · omega
    · exact sum_zero (fun t ht => h t (List.mem_cons_of_mem _ ht)) (by omega) t ht
theorem zero_sum : ∀ {l : List Int}, (∀ t ∈ l, t = 0) → l.sum = 0
  | [], _ => rfl
  | a :: l, h => by rw [List.sum_cons, h a List.mem_cons_self, zero_sum fun t ht => h t (List.mem_cons_of_mem _ ht)]; rfl
theorem can_sum {l : List Int} (h : ∀ t ∈ l, 0 ≤ t) : (canL l).isEmpty = decide (l.sum = 0) := by
  by_cases z : l.sum = 0
  · rw [decide_eq_true z, canL_none fun q hq => sum_zero h z _ (nth_mem hq)]; rfl
  · rw [decide_eq_false z]
    cases hc : canL l with
    | cons a b => rfl
    | nil =>
      refine absurd (zero_sum fun t ht => ?_) z
      obtain ⟨i, hi⟩ := List.mem_iff_getElem?.mp ht
      have hl := (List.getElem?_eq_some_iff.mp hi).1
      have := canL_nil hc (fun q hq => h _ (nth_mem hq)) i hl
      rw [nth_of hi] at this
      exact this
theorem nth_le {l : List Int} {m : Int} (m0 : 0 ≤ m) (h : ∀ t ∈ l, t ≤ m) (q : Nat) : nth l q ≤ m := by
  by_cases z : q < l.length
  · exact h _ (nth_mem z)
  · unfold nth
    rw [List.getD_eq_getElem?_getD, List.getElem?_eq_none (by omega)]; exact m0
theorem all_nth {l : List Int} {P : Int → Prop} (h : ∀ i, i < l.length → P (nth l i)) : ∀ t ∈ l, P t := fun t ht => by
  obtain ⟨i, hi⟩ := List.mem_iff_getElem?.mp ht
  have := h i (List.getElem?_eq_some_iff.mp hi).1
  rw [nth_of hi] at this
  exact this
theorem okC_run {e : Int} {ex : List (List Int)} (v : Valid e ex) {st ss : List Int} (hst : ValidS ex st) (hss : NB ex.length 3 ss) {ps : List Nat} (can : CanC ex (x0 e st ss) ps) (hl : ps.length ≤ 1000) : OkC e ex (runC ex (x0 e st ss) ps) := by
  have h0 := CrOf.new v hst hss.1 fun t ht => (hss.2 t ht).1
  obtain ⟨cr, _⟩ := h0.run _ can
  have b0 : CwB 2 (x0 e st ss) := ⟨by decide, nth_le (by decide) fun t ht => by have := (hss.2 t ht).2; omega, nth_le (by decide) fun t ht => by have := (List.mem_replicate.mp ht).2; omega⟩
  obtain ⟨_, b1, b2⟩ := b0.run (ex := ex) ps
  have big : (2 + 1000 : Int) < 10 ^ 30 := by decide
  have lw := cr.lw
  have ls := cr.ls
  have lc := cr.lc
  refine ⟨⟨lw, all_nth fun i hi => ?_⟩, ⟨ls, fun i s l h1 h2 => ?_⟩, ⟨lc, all_nth fun i hi => ?_⟩⟩
  · have a := cr.w i (by omega)
    have b := cr.I.w0 i (show i < ex.length by omega)
    have c := b1 i
    exact ⟨by omega, by omega⟩
  · have hi : i < ex.length := (List.getElem?_eq_some_iff.mp h2).1
    have el : l = rowAt ex i := by rw [rowAt_get hi] at h2; cases h2; rfl
    have es : s = nth (runC ex (x0 e st ss) ps).2.1 i := (nth_of h1).symm
    have r1 := v.r1 _ (rowAt_mem hi)
    rw [es, el, cr.s i hi]
    exact ⟨Int.emod_nonneg _ (by omega), Int.emod_lt_of_pos _ (by omega)⟩
  · have a := cr.co i (by omega)
    have b : 0 ≤ nth (runC ex (x0 e st ss) ps).2.2 i := by
      rw [a]
      refine sumN_nn fun p hp => sumN_nn fun j _ => ?_
      have hd := (ntOf ex st ss v.r1).hd p hp
      have := cnt_nn (d := (ntOf ex st ss v.r1).d p) (s := (ntOf ex st ss v.r1).s p) (e := (j : Int)) (by omega) (cr.I.v0 p hp)
      split <;> omega
    have c := b2 i
    exact ⟨b, by omega⟩
section
variable {P : Program} {w : World} {K : PySem.W.Frag} {mg : Str → Option Value} {base : Heap} {f C : Addr} {fd : FuncData} {k : Nat}
def cR : List D → (D → Prop) → Prop := fun ds Z => ds = [] ∧ Z (.bl true)
structure Gs (P : Program) (w : World) (K : PySem.W.Frag) (mg : Str → Option Value) (base : Heap) (C : Addr) (k : Nat) : Prop where
  draw : Df P w K mg base k "_law_draw" ["_law_pot_here", "_law_many"] (spP cDraw)
  net : Df P w K mg base k "_law_net" ["_law_pot_here", "_law_most"] (spP cLnt)
  set : Df P w K mg base k "_law_setting" ["_law_pot_here", "_law_exits"] (spP cLset)
  num : Df P w K mg base k "_law_numbers" ["_law_pot_here", "_law_many", "_law_most"] (spP cNs)
  mvd : Df P w K mg base k "_law_moved" ["_law_exits", "_law_crowd", "_law_point"] (spD cLm)
  told : Df P w K mg base k "_law_told" ["_law_crowd"] (spD cLt)
  can : Df P w K mg base k "_law_can" ["_law_crowd"] (spD cLc)
  drawn : Df P w K mg base k "_law_drawn" ["_law_pot_here", "_law_exits", "_law_crowd", "_law_most"] (spP cDr)
  rounds : Df P w K mg base k "_law_rounds" ["_law_exits", "_law_crowd"] (spD cRo)
  co : Df P w K mg base k "crowd_of" ["net", "setting", "starts"] (spD (cCo C))
  coR : DfR P w K mg base k "crowd_of" ["net", "setting", "starts"] (spD (cCo C))
  emp : Df P w K mg base k "is_empty" ["net", "crowd"] (spD (cCr C fun _ _ x => .bl (canL x.1).isEmpty))
  mvs : Df P w K mg base k "moves" ["net", "crowd"] (spD (cCr C fun _ _ x => .lst (lI (canL x.1))))
  mvsR : DfR P w K mg base k "moves" ["net", "crowd"] (spD (cCr C fun _ _ x => .lst (lI (canL x.1))))
  mdA : DfA2 P w K mg base k "moved" ["net", "crowd", "point"] ["point"] 2 (spD (cMd C))
  bs : Df P w K mg base k "by_sequence" ["net", "crowd", "sequence"] (spD (cBs C))
  bsR : DfR P w K mg base k "by_sequence" ["net", "crowd", "sequence"] (spD (cBs C))
  fin : Df P w K mg base k "finished" ["net", "crowd", "rule", "most"] (spD (cFd C))
  vbR : DfR P w K mg base k "visits_by" ["net", "crowd", "rule", "most"] (spD (cVb C))
abbrev lcS (e : Int) (st ss : List Int) : D := .tup [.lst (lI ss), .lst (lI st), .lst (lI (List.replicate e.toNat 0))]
theorem sort_eq {a b c d : List Int} (h1 : c.Perm a) (h2 : d.Perm b) (hp : a.Perm b) (s1 : c.Pairwise (· ≤ ·)) (s2 : d.Pairwise (· ≤ ·)) : c = d := PySem.W.os_sorted_one (h1.trans (hp.trans h2.symm)) s1 s2
theorem ok_Lright {j : Nat} (T : Blt2 mg) (N : NetP P w K mg base C j) (hj : j + 1 ≤ k) (G : Gs P w K mg base C k) (F : Fun K "_law_right" "_law_right" s_Lright f fd) : FnG P w K mg base (k + 1) f fd ["_law_pot_here"] (spP cR) := by
  refine fnPG F c_Lright (fun ds Z h => ?_) (fun cdv A outer s H E ds Z hG hr h => ?_)
  · obtain ⟨rfl, _⟩ := h
    rfl
  · obtain ⟨rfl, q⟩ := h
    have one : (1 : Nat) ≤ sizeLine := by decide
    have two2 : (2 : Nat) ≤ sizeLine := by decide
    have three : (3 : Nat) ≤ sizeLine := by decide
    refine ss_cons (s_unp2 1 2 c_Lright (callP 0 G.net hr (a1 (w_int ⟨rfl, rfl, fun e ex e1 e2 n4 v r3 => ⟨_, _, rfl, ?_⟩⟩))))
    have n24 := v.n24
    have e0 := v.e0
    show WSs _ _ [.own false .pot, .val (.int e), .val (.lst (rowsL ex)), .un, .un, .un, .un, .un, .un, .un, .un, .un, .un, .un, .un] _
    refine ss_cons (s_par (i := 3) (j := 4) rfl c_Lright.nd rfl rfl (by decide) rfl rfl (aG (w_net N (hr.mono hj) (aG (nm 1 (a1 (nm 2 ⟨e, _, ex, rfl, ⟨_, .inl rfl, rowsA_L ex⟩, v, a1 (callP 0 G.set hr (a1 (nm 2 ⟨rfl, e, ex, rfl, v, fun st hst => ⟨_, _, rfl, ?_⟩⟩)))⟩)))))))
    show WSs _ _ _ _
    refine ss_cons (set 5 c_Lright (callP 0 G.num hr (aG (w_callB (id := "len") true rfl T.t.len (by decide +kernel) (a1 (nm 2 (c_lenL (a1 (w_int ⟨rfl, (rowsL ex).length, 2, rfl, by rw [rowsL_len]; exact n24, ⟨by decide, by decide⟩, fun ss hss => ?_⟩)))))))))
    rw [rowsL_len] at hss
    have hss : NB ex.length 3 ss := hss
    have hnum : Nums ex.length ss := hss.nums (by decide)
    have hb : ∀ t ∈ ss, 0 ≤ t := fun t ht => (hss.2 t ht).1
    have h0 := CrOf.new v hst hss.1 hb
    have ex0 : lcD (x0 e st ss) = lcS e st ss := rfl
    show WSs _ _ [.own false .pot, .val (.int e), .val (.lst (rowsL ex)), .val (netD C e ex), .val (.lst (lI st)), .val (.lst (lI ss)), .un, .un, .un, .un, .un, .un, .un, .un, .un] _
    have zer : (List.replicate e.toNat [D.int 0]).flatten = lI (List.replicate e.toNat 0) := by
      have := rep0 e.toNat
      rw [Int.toNat_natCast] at this
      exact this
    refine ss_cons (set 6 c_Lright (w_tup (aG (nm 5 (aG (nm 4 (a1 (w_binG (w_lst (a1 (w_int ⟨one, nm 1 (o_rep ⟨⟨?_, ?_, ?_⟩, three, ?_⟩)⟩)))))))))))
    · omega
    · omega
    · show 1 * e.toNat ≤ sizeLine; exact Nat.le_trans (show _ ≤ 2 by omega) (by decide)
    rw [zer]
    show WSs _ _ [.own false .pot, .val (.int e), .val (.lst (rowsL ex)), .val (netD C e ex), .val (.lst (lI st)), .val (.lst (lI ss)), .val (lcD (x0 e st ss)), .un, .un, .un, .un, .un, .un, .un, .un] _
    refine ss_cons (set 7 c_Lright (callRv G.coR hr (k_cons (nm 5 (k_cons (w_callTy (T := "tuple") true rfl T.t.tuple (by decide +kernel) (a1 (nm 4 (c_tuple (k_cons (nm 3 (k_nil ⟨e, ex, _, st, _, ss, rfl, .inr rfl, .inl rfl, v, e1, hst, hnum, ?_⟩))))))))))))
    show WSs _ _ [.own false .pot, .val (.int e), .val (.lst (rowsL ex)), .val (netD C e ex), .val (.lst (lI st)), .val (.lst (lI ss)), .val (lcD (x0 e st ss)), .val (crD (x0 e st ss)), .un, .un, .un, .un, .un, .un, .un] _
    have lss : ss.length ≤ 24 := by rw [hss.1]; exact n24
    refine ss_cons (s_if (t_bool (tb_or (t_cmpG (nm 7 (call G.told hr (a1 (nm 6 ⟨_, rfl, o_neD hr.units (py_cr _) (py_cr _) (shaped_cr _) (shaped_cr _) ⟨_, rfl, ?_⟩⟩))))))))
    rw [ne_cr]
    show WTB _ _ _ _ _ _ _
    refine tb_or (t_cmpG (w_callB (id := "repr") true rfl T.repr (by decide +kernel) (a1 (call G.emp hr (aG (nm 3 (a1 (nm 7 ⟨e, ex, _, rfl, v, x0_ok v hst hnum, c_reprB (w_callB (id := "repr") true rfl T.repr (by decide +kernel) (a1 (w_cmpG (w_callB (id := "sum") true rfl T.t.sum (by decide +kernel) (a1 (nm 5 (c_sum (ns := ss) rfl (w_int (o_eq (c_reprB (o_nes ⟨_, rfl, ?_⟩)))))))))))⟩))))))))
    rw [show (canL (x0 e st ss).1).isEmpty = decide (ss.sum = 0) from can_sum hb, decide_eq_true rfl]
    show WTB _ _ _ _ _ _ _
    refine tb_or1 (t_cmpG (call G.mvs hr (aG (nm 3 (a1 (nm 7 ⟨e, ex, _, rfl, v, x0_ok v hst hnum, call G.can hr (a1 (nm 6 ⟨_, rfl, lss, o_neD hr.units (py_lI _) (py_lI _) (shaped_ints _) (shaped_ints _) ⟨_, rfl, ?_⟩⟩))⟩))))))
    rw [ne_self_i]
    show WSs _ [] _ _
    refine ss_nil ?_
    show WSs _ _ _ _
    refine ss_cons (s_unp2 8 9 c_Lright (callP 0 G.drawn hr (aG (nm 2 (aG (nm 6 (a1 (w_int ⟨rfl, e, ex, st, ss, rfl, v, hst, hnum, fun ps can hl => ⟨_, _, rfl, ?_⟩⟩))))))))
    show WSs _ _ [.own false .pot, .val (.int e), .val (.lst (rowsL ex)), .val (netD C e ex), .val (.lst (lI st)), .val (.lst (lI ss)), .val (lcD (x0 e st ss)), .val (crD (x0 e st ss)), .val (.lst (lI (pI ps))), .val (lcD (runC ex (x0 e st ss) ps)), .un, .un, .un, .un, .un] _
    obtain ⟨cr, _⟩ := h0.run _ can
    have lw := cr.lw
    obtain ⟨x, hx⟩ : ∃ x, x = runC ex (x0 e st ss) ps := ⟨_, rfl⟩
    have okx : OkC e ex x := by rw [hx]; exact okC_run v hst hss can (by omega)
    rw [← hx] at cr lw ⊢
    refine ss_cons (s_if (t_cmpG (call G.can hr (a1 (nm 9 ⟨x, rfl, by rw [lw]; exact n24, w_lst (a_nil ⟨Nat.zero_le _, o_neD hr.units (py_lI _) (py_lI []) (shaped_ints _) (shaped_ints []) ⟨_, rfl, ?_⟩⟩)⟩)))))
    rw [ne_nil_c]
    by_cases hn : canL x.1 = []
    · rw [decide_eq_true hn]
      have full : Full ex (x0 e st ss) ps := ⟨can, fun q hq => by
        rw [← hx]
        exact canL_nil hn (fun q hq => by rw [cr.w q (by omega)]; exact cr.I.w0 q (show q < ex.length by omega)) q (by omega)⟩
      show WSs _ [] _ _
      refine ss_nil ?_
      show WSs _ _ _ _
      refine ss_cut (fun ρ => ∃ s6 s7 s10, ρ = [.own false .pot, .val (.int e), .val (.lst (rowsL ex)), .val (netD C e ex), .val (.lst (lI st)), .val (.lst (lI ss)), s6, s7, .val (.lst (lI (pI ps))), .val (lcD x), s10, .un, .un, .un, .un])
        (for1 10 c_Lright (wi_lst (w_slL (nm 8 ⟨_, rfl, ?_⟩)))) (fun ρ' hI => ?_)
      · show WO _ _ _ _
        refine w_int ⟨4, rfl, _, rfl, fun j ρ => ∃ s10, ρ = [.own false .pot, .val (.int e), .val (.lst (rowsL ex)), .val (netD C e ex), .val (.lst (lI st)), .val (.lst (lI ss)), .val (lcD (runC ex (x0 e st ss) (ps.take j))), .val (crD (runC ex (x0 e st ss) (ps.take j))), .val (.lst (lI (pI ps))), .val (lcD x), s10, .un, .un, .un, .un], ⟨.un, rfl⟩, fun j d ρi hd hI => ?_, fun ρn hI => ?_⟩
        · obtain ⟨s10, rfl⟩ := hI
          rw [show (4 : Int) = ((4 : Nat) : Int) from rfl, cut_toA] at hd
          rw [List.getElem?_take] at hd
          split at hd
          · obtain ⟨t, ht, rfl⟩ := lI_at hd
            rw [List.getElem?_map] at ht
            cases hpj : ps[j]? with
            | none => rw [hpj] at ht; cases ht
            | some p =>
              rw [hpj] at ht
              cases ht
              obtain ⟨cn, hp, hw⟩ := can.take hpj
              obtain ⟨cr2, _⟩ := h0.run _ cn
              have can2 := cn.snoc hp hw
              have okn := okC_run v hst hss cn (by rw [List.length_take]; omega)
              have okn2 := okC_run v hst hss can2 (by rw [List.length_append, List.length_take, List.length_singleton]; omega)
              obtain ⟨cr3, _⟩ := h0.run _ can2
              have lw3 := cr3.lw
              have et : runC ex (x0 e st ss) (ps.take (j + 1)) = mvC ex (runC ex (x0 e st ss) (ps.take j)) p := by rw [take_snoc hpj, runC_snoc]
              rw [runC_snoc] at okn2 lw3
              obtain ⟨y, hy⟩ : ∃ y, y = runC ex (x0 e st ss) (ps.take j) := ⟨_, rfl⟩
              rw [← hy] at cr2 hw okn okn2 lw3 et ⊢
              show WSs _ _ [.own false .pot, .val (.int e), .val (.lst (rowsL ex)), .val (netD C e ex), .val (.lst (lI st)), .val (.lst (lI ss)), .val (lcD y), .val (crD y), .val (.lst (lI (pI ps))), .val (lcD x), .val (.int (p : Int)), .un, .un, .un, .un] _
              refine ss_cons (set 6 c_Lright (call G.mvd hr (aG (nm 2 (aG (nm 6 (a1 (nm 10 ⟨e, ex, y, p, rfl, v, cr2.okm hp, ?_⟩))))))))
              show WSs _ _ _ _
              refine ss_cons (set 7 c_Lright (callA2 G.mdA hr (aG (nm 3 (a1 (nm 7 ⟨rfl, k_cons (nm 10 (k_nil ⟨e, ex, y, p, rfl, v, okn, cr2.okm hp, by omega, ?_⟩))⟩))))))
              show WSs _ _ [.own false .pot, .val (.int e), .val (.lst (rowsL ex)), .val (netD C e ex), .val (.lst (lI st)), .val (.lst (lI ss)), .val (lcD (mvC ex y p)), .val (crD (mvC ex y p)), .val (.lst (lI (pI ps))), .val (lcD x), .val (.int (p : Int)), .un, .un, .un, .un] _
              refine ss_one (s_if (t_bool (tb_or (t_cmpG (nm 7 (call G.told hr (a1 (nm 6 ⟨_, rfl, o_neD hr.units (py_cr _) (py_cr _) (shaped_cr _) (shaped_cr _) ⟨_, rfl, ?_⟩⟩))))))))
              rw [ne_cr]
              show WTB _ _ _ _ _ _ _
              refine tb_or1 (t_cmpG (callRv G.mvsR hr (k_cons (nm 7 (k_cons (nm 3 (k_nil ⟨e, ex, _, rfl, v, okn2, call G.can hr (a1 (nm 6 ⟨mvC ex y p, rfl, by rw [lw3]; exact n24, o_neD hr.units (py_lI _) (py_lI _) (shaped_ints _) (shaped_ints _) ⟨_, rfl, ?_⟩⟩))⟩)))))))
              rw [ne_self_i]
              show WSs _ [] _ _
              refine ss_nil ⟨.val (.int (p : Int)), ?_⟩
              rw [et]
          · cases hd
        · obtain ⟨s10, rfl⟩ := hI
          exact ⟨_, _, s10, rfl⟩
      · obtain ⟨s6, s7, s10, rfl⟩ := hI
        refine ss_cons (set 11 c_Lright (call G.co hr (aG (nm 3 (aG (nm 4 (a1 (nm 5 ⟨e, ex, _, st, _, ss, rfl, .inl rfl, .inl rfl, v, e1, hst, hnum, ?_⟩))))))))
        show WSs _ _ [.own false .pot, .val (.int e), .val (.lst (rowsL ex)), .val (netD C e ex), .val (.lst (lI st)), .val (.lst (lI ss)), s6, s7, .val (.lst (lI (pI ps))), .val (lcD x), s10, .val (crD (x0 e st ss)), .un, .un, .un] _
        refine ss_cons (s_if (t_bool (tb_or (t_cmpG (call G.bs hr (aG (nm 3 (aG (nm 11 (a1 (w_callTy (T := "tuple") true rfl T.t.tuple (by decide +kernel) (a1 (nm 8 (c_tuple ⟨e, ex, st, ss, _, ps, rfl, .inr rfl, by omega, v, hst, hnum, can, call G.told hr (a1 (nm 9 ⟨_, rfl, o_neD hr.units (py_cr _) (py_cr _) (shaped_cr _) (shaped_cr _) ⟨_, rfl, ?_⟩⟩))⟩))))))))))))))
        rw [← hx, ne_cr]
        show WTB _ _ _ _ _ _ _
        refine tb_or1 (t_cmpG (call G.emp hr (aG (nm 3 (a1 (call G.told hr (a1 (nm 9 ⟨_, rfl, e, ex, x, rfl, v, okx, w_bl (o_isnotB ⟨_, rfl, ?_⟩)⟩))))))))
        rw [hn]
        show WSs _ [] _ _
        refine ss_nil ?_
        show WSs _ _ _ _
        have zer2 := zer
        refine ss_cons (set 12 c_Lright (call G.rounds hr (aG (nm 2 (a1 (w_tup (aG (nm 5 (aG (nm 4 (a1 (w_binG (w_lst (a1 (w_int ⟨one, nm 1 (o_rep ⟨⟨?_, ?_, ?_⟩, three, ?_⟩)⟩)))))))))))))))
        · omega
        · omega
        · show 1 * e.toNat ≤ sizeLine; exact Nat.le_trans (show _ ≤ 2 by omega) (by decide)
        rw [zer2]
        refine ⟨e, ex, st, ss, ps, rfl, v, hst, hnum, full, hl, fun qs fq => ?_⟩
        obtain ⟨_, cx, cl⟩ := full_one v hst hss.1 hb fq full
        have pm := full_perm v hst hss.1 hb fq full
        rw [cx, ← hx]
        show WSs _ _ [.own false .pot, .val (.int e), .val (.lst (rowsL ex)), .val (netD C e ex), .val (.lst (lI st)), .val (.lst (lI ss)), s6, s7, .val (.lst (lI (pI ps))), .val (lcD x), s10, .val (crD (x0 e st ss)), .val (.tup [.lst (lI (pI qs)), lcD x]), .un, .un] _
        refine ss_cons (s_if (t_bool (tb_or (t_cmpG (call G.told hr (a1 (w_ix true true (fun _ _ => rfl) (.inr rfl) (nm 12 (w_int (x_tup (d := lcD x) rfl ⟨_, rfl, call G.told hr (a1 (nm 9 ⟨_, rfl, o_neD hr.units (py_cr _) (py_cr _) (shaped_cr _) (shaped_cr _) ⟨_, rfl, ?_⟩⟩))⟩)))))))))) 
        rw [ne_cr]
        show WTB _ _ _ _ _ _ _
        refine tb_or1 (t_cmpG (w_callB (id := "sorted") true rfl T.t.sorted (by decide +kernel) (a1 (w_ix true true (fun _ _ => rfl) (.inr rfl) (nm 12 (w_int (x_tup (d := .lst (lI (pI qs))) rfl (c_sorted (ns := pI qs) fun ms pm1 pw1 => w_callB (id := "sorted") true rfl T.t.sorted (by decide +kernel) (a1 (nm 8 (c_sorted (ns := pI ps) fun ms2 pm2 pw2 => o_neD hr.units (py_lI _) (py_lI _) (shaped_ints _) (shaped_ints _) ⟨_, rfl, ?_⟩))))))))))) 
        rw [sort_eq pm1 pm2 (pm.map _) pw1 pw2, ne_self_i]
        show WSs _ [] _ _
        refine ss_nil ?_
        show WSs _ _ _ _
        refine ss_cons (s_if (t_cmpG (callRv G.bsR hr (k_cons (w_ix true true (fun _ _ => rfl) (.inr rfl) (nm 12 (w_int (x_tup (d := .lst (lI (pI qs))) rfl (k_cons (nm 11 (k_cons (nm 3 (k_nil ⟨e, ex, st, ss, _, qs, rfl, .inl rfl, by omega, v, hst, hnum, fq.can, call G.told hr (a1 (nm 9 ⟨_, rfl, o_neD hr.units (py_cr _) (py_cr _) (shaped_cr _) (shaped_cr _) ⟨_, rfl, ?_⟩⟩))⟩)))))))))))))
        rw [cx, ← hx, ne_cr]
        show WSs _ [] _ _
        refine ss_nil ?_
        show WSs _ _ _ _
        refine ss_cons (setO 13 c_Lright (f_rep (w_lst (a1 (w_int ⟨one, w_callB (id := "len") true rfl T.t.len (by decide +kernel) (a1 (nm 2 (c_lenL ⟨[.int 0], _, rfl, rfl, ⟨?_, ?_, ?_⟩, ?_⟩)))⟩)))))
        · omega
        · rw [rowsL_len]; omega
        · rw [rowsL_len, Int.toNat_natCast]; show 1 * ex.length ≤ sizeLine; exact Nat.le_trans (show _ ≤ 24 by omega) (by decide)
        rw [rowsL_len, rep0, ← visC_nil]
        show WSs _ _ [.own false .pot, .val (.int e), .val (.lst (rowsL ex)), .val (netD C e ex), .val (.lst (lI st)), .val (.lst (lI ss)), s6, s7, .val (.lst (lI (pI ps))), .val (lcD x), s10, .val (crD (x0 e st ss)), .val (.tup [.lst (lI (pI qs)), lcD x]), .own true (.lst (lI (visC ex.length []))), .un] _
        refine ss_cut (fun ρ => ∃ s10, ρ = [.own false .pot, .val (.int e), .val (.lst (rowsL ex)), .val (netD C e ex), .val (.lst (lI st)), .val (.lst (lI ss)), s6, s7, .val (.lst (lI (pI ps))), .val (lcD x), s10, .val (crD (x0 e st ss)), .val (.tup [.lst (lI (pI qs)), lcD x]), .own true (.lst (lI (visC ex.length ps))), .un])
          (for1 10 c_Lright (wi_lst (nm 8 ⟨_, rfl, fun j ρ => ∃ s10, ρ = [.own false .pot, .val (.int e), .val (.lst (rowsL ex)), .val (netD C e ex), .val (.lst (lI st)), .val (.lst (lI ss)), s6, s7, .val (.lst (lI (pI ps))), .val (lcD x), s10, .val (crD (x0 e st ss)), .val (.tup [.lst (lI (pI qs)), lcD x]), .own true (.lst (lI (visC ex.length (ps.take j)))), .un], ⟨s10, by rw [List.take_zero]⟩, fun j d ρi hd hI => ?_, fun ρn hI => ?_⟩))) (fun ρ' hI => ?_)
        · obtain ⟨s10', rfl⟩ := hI
          obtain ⟨t, ht, rfl⟩ := lI_at hd
          rw [List.getElem?_map] at ht
          cases hpj : ps[j]? with
          | none => rw [hpj] at ht; cases ht
          | some p =>
            rw [hpj] at ht
            cases ht
            have hp := (can.take hpj).2.1
            have at1 : atI (lI (visC ex.length (ps.take j))) ((p : Nat) : Int) = some (.int ((ps.take j).count p : Int)) := ints_atI (by omega) (by rw [Int.toNat_natCast]; exact visC_at hp)
            have ixp : ixN (lI (visC ex.length (ps.take j))).length ((p : Nat) : Int) = some p := by
              have := ixN_in (n := (lI (visC ex.length (ps.take j))).length) (i := (p : Int)) (by omega) (by rw [lI_len, visC_len]; omega)
              rw [Int.toNat_natCast] at this
              exact this
            refine ss_one (item 13 (w_binG (w_ixO 13 ⟨_, rfl⟩ (nm 10 ⟨_, _, _, rfl, rfl, at1, w_int (o_add ⟨_, rfl, nm 10 ⟨_, p, rfl, ixp, .val (.int (p : Int)), ?_⟩⟩)⟩))))
            have es : (lI (visC ex.length (ps.take j))).set p (.int (((ps.take j).count p : Int) + 1)) = lI (visC ex.length (ps.take (j + 1))) := by
              rw [take_snoc hpj, ← visC_snoc]
              exact mset _ _ _
            rw [es]; rfl
        · obtain ⟨s10', rfl⟩ := hI
          rw [pI_len, List.take_length]
          exact ⟨s10', rfl⟩
        · obtain ⟨s10', rfl⟩ := hI
          refine ss_share (i := 13) rfl ?_
          show WSs _ _ [.own false .pot, .val (.int e), .val (.lst (rowsL ex)), .val (netD C e ex), .val (.lst (lI st)), .val (.lst (lI ss)), s6, s7, .val (.lst (lI (pI ps))), .val (lcD x), s10', .val (crD (x0 e st ss)), .val (.tup [.lst (lI (pI qs)), lcD x]), .val (.lst (lI (visC ex.length ps))), .un] _
          refine ss_cut (fun ρ => True)
            (for1 14 c_Lright (wi_lst (w_lst (aG (w_str (aG (w_str (a1 (w_str ⟨three, _, rfl, fun j ρ => ∃ s14, ρ = [.own false .pot, .val (.int e), .val (.lst (rowsL ex)), .val (netD C e ex), .val (.lst (lI st)), .val (.lst (lI ss)), s6, s7, .val (.lst (lI (pI ps))), .val (lcD x), s10', .val (crD (x0 e st ss)), .val (.tup [.lst (lI (pI qs)), lcD x]), .val (.lst (lI (visC ex.length ps))), s14], ⟨.un, rfl⟩, fun j d ρi hd hI => ?_, fun ρn hI => trivial⟩)))))))) ) (fun ρ' _ => ss_one (s_ret (w_bl q)))
          obtain ⟨s14, rfl⟩ := hI
          have hd2 : ∃ r, d = .str r ∧ r ∈ rls := by
            have m := List.mem_of_getElem? hd
            rcases (show d = .str "least" ∨ d = .str "greatest" ∨ d = .str "rounds" by simpa using m) with rfl | rfl | rfl <;> exact ⟨_, rfl, by simp [rls]⟩
          obtain ⟨r, rfl, hrl⟩ := hd2
          show WSs _ _ [.own false .pot, .val (.int e), .val (.lst (rowsL ex)), .val (netD C e ex), .val (.lst (lI st)), .val (.lst (lI ss)), s6, s7, .val (.lst (lI (pI ps))), .val (lcD x), s10', .val (crD (x0 e st ss)), .val (.tup [.lst (lI (pI qs)), lcD x]), .val (.lst (lI (visC ex.length ps))), .val (.str r)] _
          refine ss_cons (s_if (t_cmpG (call G.fin hr (aG (nm 3 (aG (nm 11 (aG (nm 14 (a1 (w_int ⟨e, ex, st, ss, r, 300, ps, rfl, hrl, by decide, v, hst, hnum, full, by omega, w_tup (aG (call G.told hr (a1 (nm 9 ⟨_, rfl, a1 (w_callB (id := "len") true rfl T.t.len (by decide +kernel) (a1 (nm 8 (c_lenL ⟨two2, ?_⟩))))⟩))))⟩)))))))))))
          rw [pI_len]
          refine o_neD hr.units (py_cn _ _) (py_cn _ _) (shaped_cn _ _) (shaped_cn _ _) ⟨_, rfl, ?_⟩
          rw [← hx, ne_cn]
          show WSs _ [] _ _
          refine ss_nil ?_
          show WSs _ _ _ _
          refine ss_one (s_if (t_cmpG (callRv G.vbR hr (k_cons (w_callB (id := "len") true rfl T.t.len (by decide +kernel) (a1 (nm 8 (c_lenL (k_cons (nm 14 (k_cons (nm 11 (k_cons (nm 3 (k_nil ⟨e, ex, st, ss, r, (lI (pI ps)).length, ps, rfl, hrl, by rw [pI_len]; omega, v, hst, hnum, full, by rw [pI_len]; exact Nat.le_refl _, nm 13 (o_neD hr.units (py_lI _) (py_lI _) (shaped_ints _) (shaped_ints _) ⟨_, rfl, ?_⟩)⟩)))))))))))))))
          rw [ne_self_i]
          show WSs _ [] _ _
          exact ss_nil ⟨.val (.str r), rfl⟩
    · rw [decide_eq_false hn]
      show WSs _ _ _ _
      exact ss_one (s_ret (w_bl q))
def cLaw (K : PySem.W.Frag) : List D → (D → Prop) → Prop := fun ds Z => ∃ ns : List Int, ds = [.scr K ns] ∧ ns.length < 1000 ∧ Z (.bl true)
theorem ok_law (Fp : Df P w K mg base k "_law_pot" ["_law_script", "_law_k"] (spF (cPot K))) (Fr : DfG P w K mg base k "_law_right" ["_law_pot_here"] (spP cR)) (F : Fun K "law" "law" s_law f fd) : FnG P w K mg base (k + 1) f fd ["_law_script"] (spD (cLaw K)) := by
  refine fnDG F c_law (fun ds Z h => ?_) (fun cdv A outer s H E ds Z hG hr h => ?_)
  · obtain ⟨ns, rfl, _⟩ := h
    rfl
  · obtain ⟨ns, rfl, hl, q⟩ := h
    exact ss_one (s_ret (callNewP Fp Fr hG hr hr (aG (nm 0 (a1 (w_int ⟨⟨ns, rfl, hl⟩, rfl, q⟩))))))
end
end K26

namespace K26
open PySem PySem.Spec PyProof.Rows L2 DD
section
variable {P : Program} {w : World} {K : PySem.W.Frag} {mg : Str → Option Value} {base : Heap}
theorem Df.mono {j k : Nat} {x : Str} {ps : List Str} {sp : Sp} (F : Df P w K mg base j x ps sp) (h : j ≤ k) : Df P w K mg base k x ps sp := by
  obtain ⟨f, fd, F, r⟩ := F.ex
  exact ⟨f, fd, F.mono h, r⟩
theorem sw2_len {α : Type} (l : List α) : (sw2 l).length = l.length := by
  rcases l with _ | ⟨a, _ | ⟨b, _ | ⟨c, r⟩⟩⟩ <;> rfl
/-- a def's cell -/
def Fa (K : PySem.W.Frag) (x qual : Str) (st : Stmt) (f : Addr) : Prop := ∃ (oc : Value) (od : Option Addr) (kV doc pm : Value) (an : Option Addr) (cdv ct : Value) (osl : Array (Option Value)),
  K.lookup f = some ⟨oc, od, .func (PySem.W.fnOf x qual (defArgs st) (defBody st) (defScope st) .none kV doc pm an cdv ct), osl⟩ ∧ PySem.W.codeIn K cdv qual = true ∧ PySem.W.keepIn K (.ref f) = true
theorem Fa.fn {x qual : Str} {st : Stmt} {f : Addr} (h : Fa K x qual st f) : ∃ fd, Fun K x qual st f fd := by
  obtain ⟨oc, od, kV, doc, pm, an, cdv, ct, osl, l, c, k⟩ := h
  exact ⟨_, fun_mk l c k⟩
/-- how a def's arguments bind -/
def Bd (x qual : Str) (st : Stmt) (ps : List Str) : Prop := ∀ (kV doc pm : Value) (an : Option Addr) (cdv ct : Value) (us : List Value), us.length = ps.length → bindArgs (PySem.W.fnOf x qual (defArgs st) (defBody st) (defScope st) .none kV doc pm an cdv ct) ⟨us, []⟩ = pure (ps.zip us)
/-- a def of the top -/
def Tp (K : PySem.W.Frag) (x : Str) (st : Stmt) : Prop := ∃ f, PySem.W.nsIn K mainGlobals x = some (some (.ref f)) ∧ Fa K x x st f
theorem Tp.df {h : Heap} {x : Str} {st : Stmt} {ps : List Str} {sp : Sp} {k : Nat} (T : Tp K x st) (X : K.In h) (G : h.Ns mainGlobals mg) (hb : Bd x x st ps) (F : ∀ f fd, Fun K x x st f fd → FnOk P w K mg base CX0 k f fd ps sp) : Df P w K mg base k x ps sp := by
  obtain ⟨f, a, fa⟩ := T
  obtain ⟨fd, fn⟩ := fa.fn
  obtain ⟨_, _, _, _, _, _, _, _, _, _, _, k⟩ := fa
  exact ⟨f, fd, F f fd fn, PySem.W.mg_of X G a, k, fn.binds hb⟩
theorem Tp.dfK {h : Heap} {x : Str} {st : Stmt} {ps ks : List Str} {sp : Sp} {k : Nat} (T : Tp K x st) (X : K.In h) (G : h.Ns mainGlobals mg)
    (hb : ∀ (kV doc pm : Value) (an : Option Addr) (cdv ct : Value) (us ws : List Value), (us ++ sw2 ws).length = ps.length → bindArgs (PySem.W.fnOf x x (defArgs st) (defBody st) (defScope st) .none kV doc pm an cdv ct) ⟨us, ks.zip ws⟩ = pure (ps.zip (us ++ sw2 ws)))
    (F : ∀ f fd, Fun K x x st f fd → FnOk P w K mg base CX0 k f fd ps sp) : DfK P w K mg base k x ps ks sp := by
  obtain ⟨f, a, fa⟩ := T
  obtain ⟨oc, od, kV, doc, pm, an, cdv, ct, osl, l, c, k⟩ := fa
  exact ⟨f, _, F f _ (fun_mk l c k), PySem.W.mg_of X G a, k, ⟨fun s us ws _ hl => .of_eq (hb kV doc pm an cdv ct us ws hl), fun r1 r2 => r1.append (vals_sw r2)⟩⟩
theorem Tp.dfI {h : Heap} {x : Str} {st : Stmt} {ps : List Str} {sp : Sp} {k : Nat} (T : Tp K x st) (X : K.In h) (G : h.Ns mainGlobals mg)
    (hb : ∀ (kV doc pm : Value) (an : Option Addr) (cdv ct : Value) (ws : List Value), ws.length = ps.length → bindArgs (PySem.W.fnOf x x (defArgs st) (defBody st) (defScope st) .none kV doc pm an cdv ct) ⟨[], ps.zip ws⟩ = pure (ps.zip ws))
    (F : ∀ f fd, Fun K x x st f fd → FnOk P w K mg base CX0 k f fd ps sp) : DfI P w K mg base k x ps sp := by
  obtain ⟨f, a, fa⟩ := T
  obtain ⟨oc, od, kV, doc, pm, an, cdv, ct, osl, l, c, k⟩ := fa
  exact ⟨f, _, F f _ (fun_mk l c k), PySem.W.mg_of X G a, k, ⟨fun s us ws _ hl => by
    cases us with
    | nil => exact .of_eq (hb kV doc pm an cdv ct ws hl)
    | cons u r =>
      have hl : (List.replicate (ps.length + 1) u).length = ps.length := hl
      rw [List.length_replicate] at hl
      omega, fun r1 r2 => vals_onlyK r1 r2⟩⟩
theorem Tp.dfR {h : Heap} {x : Str} {st : Stmt} {ps : List Str} {sp : Sp} {k : Nat} (T : Tp K x st) (X : K.In h) (G : h.Ns mainGlobals mg)
    (hb : ∀ (kV doc pm : Value) (an : Option Addr) (cdv ct : Value) (ws : List Value), ws.length = ps.length → bindArgs (PySem.W.fnOf x x (defArgs st) (defBody st) (defScope st) .none kV doc pm an cdv ct) ⟨[], ps.reverse.zip ws⟩ = pure (ps.zip ws.reverse))
    (F : ∀ f fd, Fun K x x st f fd → FnOk P w K mg base CX0 k f fd ps sp) : DfR P w K mg base k x ps sp := by
  obtain ⟨f, a, fa⟩ := T
  obtain ⟨oc, od, kV, doc, pm, an, cdv, ct, osl, l, c, k⟩ := fa
  exact ⟨f, _, F f _ (fun_mk l c k), PySem.W.mg_of X G a, k, ⟨fun s us ws _ hl => by
    cases us with
    | nil =>
      have hl : ws.reverse.length = ps.length := hl
      rw [List.length_reverse] at hl
      exact .of_eq (hb kV doc pm an cdv ct ws hl)
    | cons u r =>
      have hl : (List.replicate (ps.length + 1) u).length = ps.length := hl
      rw [List.length_replicate] at hl
      omega, fun r1 r2 => vals_revK r1 r2⟩⟩
theorem Tp.dfG {h : Heap} {x : Str} {st : Stmt} {ps : List Str} {sp : Sp} {k : Nat} (T : Tp K x st) (X : K.In h) (G : h.Ns mainGlobals mg) (hb : Bd x x st ps) (F : ∀ f fd, Fun K x x st f fd → FnG P w K mg base k f fd ps sp) : DfG P w K mg base k x ps sp := by
  obtain ⟨f, a, fa⟩ := T
  obtain ⟨fd, fn⟩ := fa.fn
  obtain ⟨_, _, _, _, _, _, _, _, _, _, _, k⟩ := fa
  exact ⟨f, fd, F f fd fn, PySem.W.mg_of X G a, k, fn.binds hb⟩
theorem Tp.dfA2 {h : Heap} {x : Str} {st : Stmt} {ps ks : List Str} {n : Nat} {sp : Sp} {k : Nat} (T : Tp K x st) (X : K.In h) (G : h.Ns mainGlobals mg)
    (hb : ∀ (kV doc pm : Value) (an : Option Addr) (cdv ct : Value) (us ws : List Value), us.length = n → (us ++ ws).length = ps.length → bindArgs (PySem.W.fnOf x x (defArgs st) (defBody st) (defScope st) .none kV doc pm an cdv ct) ⟨us, ks.zip ws⟩ = pure (ps.zip (us ++ ws)))
    (hn : 0 < ps.length) (F : ∀ f fd, Fun K x x st f fd → FnOk P w K mg base CX0 k f fd ps sp) : DfA2 P w K mg base k x ps ks n sp := by
  obtain ⟨f, a, fa⟩ := T
  obtain ⟨oc, od, kV, doc, pm, an, cdv, ct, osl, l, c, k⟩ := fa
  exact ⟨f, _, F f _ (fun_mk l c k), PySem.W.mg_of X G a, k, ⟨fun s us ws _ hl => by
    by_cases q : us.length = n
    · have e : gA n us ws = us ++ ws := if_pos q
      rw [e] at hl ⊢
      exact .of_eq (hb kV doc pm an cdv ct us ws q hl)
    · have e : gA n us ws = [] := if_neg q
      rw [e] at hl
      have hl : 0 = ps.length := hl
      omega, fun r1 r2 => vals_gA r1 r2⟩⟩
/-- a method -/
def Mt (K : PySem.W.Frag) (C : Addr) (m qual : Str) (st : Stmt) : Prop := ∃ f, PySem.W.findIn K (.ref C) m = some (some (.ref f)) ∧ PySem.W.isFn K (.ref f) = true ∧ Fa K m qual st f
/-- a property -/
def Pp (K : PySem.W.Frag) (C : Addr) (m qual : Str) (st : Stmt) : Prop := ∃ p g rest, PySem.W.findIn K (.ref C) m = some (some (.ref p)) ∧ PySem.W.specialIn K (.ref p) "__get__" = some (some (.builtin "property.__get__")) ∧ PySem.W.takesIn K (.ref p) = some true ∧
  PySem.W.recIn K p "property" = some (.ref g :: rest) ∧ Fa K m qual st g
section
variable {x qual m : Str} {st : Stmt} {f C p g : Addr} {oc kV doc pm cdv ct : Value} {od an : Option Addr} {osl : Array (Option Value)} {rest : List Value}
theorem tp_mk (a : PySem.W.nsIn K mainGlobals x = some (some (.ref f))) (l : K.lookup f = some ⟨oc, od, .func (PySem.W.fnOf x x (defArgs st) (defBody st) (defScope st) .none kV doc pm an cdv ct), osl⟩) (c : PySem.W.codeIn K cdv x = true) (k : PySem.W.keepIn K (.ref f) = true) : Tp K x st :=
  ⟨f, a, oc, od, kV, doc, pm, an, cdv, ct, osl, l, c, k⟩
theorem mt_mk (a : PySem.W.findIn K (.ref C) m = some (some (.ref f))) (i : PySem.W.isFn K (.ref f) = true) (l : K.lookup f = some ⟨oc, od, .func (PySem.W.fnOf m qual (defArgs st) (defBody st) (defScope st) .none kV doc pm an cdv ct), osl⟩) (c : PySem.W.codeIn K cdv qual = true) (k : PySem.W.keepIn K (.ref f) = true) : Mt K C m qual st :=
  ⟨f, a, i, oc, od, kV, doc, pm, an, cdv, ct, osl, l, c, k⟩
theorem pp_mk (a : PySem.W.findIn K (.ref C) m = some (some (.ref p))) (b : PySem.W.specialIn K (.ref p) "__get__" = some (some (.builtin "property.__get__"))) (t : PySem.W.takesIn K (.ref p) = some true) (r : PySem.W.recIn K p "property" = some (.ref g :: rest))
    (l : K.lookup g = some ⟨oc, od, .func (PySem.W.fnOf m qual (defArgs st) (defBody st) (defScope st) .none kV doc pm an cdv ct), osl⟩) (c : PySem.W.codeIn K cdv qual = true) (k : PySem.W.keepIn K (.ref g) = true) : Pp K C m qual st :=
  ⟨p, g, rest, a, b, t, r, oc, od, kV, doc, pm, an, cdv, ct, osl, l, c, k⟩
end
structure NetX (K : PySem.W.Frag) (C : Addr) : Prop where
  pg : PySem.W.plainGet K C Str.empty = true
  hd : PySem.W.hasDictIn K C = true
  po : PySem.W.plainOver K C = true
  sa : PySem.W.findIn K (.ref C) "__setattr__" = some (some (.builtin "object.__setattr__"))
  ha : PySem.W.findIn K (.ref C) "__class__" = some (some (.builtin "object.__class__"))
  hn : PySem.W.specialIn K (.builtin "object.__class__") "__get__" = some (some (.builtin "getset_descriptor.__get__"))
  ht : PySem.W.takesIn K (.builtin "object.__class__") = some true
  hm : PySem.W.mroIn K C (.type "object") = some true
  nE : PySem.W.findIn K (.ref C) "_ends" = some none
  nX : PySem.W.findIn K (.ref C) "_exits" = some none
  nT : PySem.W.findIn K (.ref C) "_targets" = some none
  ne : PySem.W.findIn K (.ref C) "__ne__" = some (some (.builtin "object.__ne__"))
  sub : PySem.W.subIn K (.ref C) (.type "object") = some true
  mkI : PySem.W.makesIn K C = true
  kC : PySem.W.keepIn K (.ref C) = true
  ini : Mt K C "__init__" "Net.__init__" s_Net_init_
  eq : Mt K C "__eq__" "Net.__eq__" s_Net_eq_
  exits : Mt K C "exits" "Net.exits" s_Net_exits
  ends : Pp K C "ends" "Net.ends" s_Net_ends
  points : Pp K C "points" "Net.points" s_Net_points
  many : Pp K C "many" "Net.many" s_Net_many
  targets : Mt K C "targets" "Net.targets" s_Net_targets
  ka : PySem.W.isClsIn K C = true
  kb : PySem.W.typeIn K (.ref C) = some (.type "type")
  kc : PySem.W.subIn K (.type "list") (.ref C) = some false
  nf : PySem.W.notFirst K C (.type "list") = true
theorem kit_no {C : Addr} (a : PySem.W.isClsIn K C = true) (b : PySem.W.typeIn K (.ref C) = some (.type "type")) (c : PySem.W.subIn K (.type "list") (.ref C) = some false) : PySem.W.kitOne K (.type "list") (.ref C) = some false := by
  unfold PySem.W.kitOne PySem.W.kitCls
  have a : (PySem.W.clsIn K C).isSome = true := a
  rw [if_neg (show ¬ (Value.type "list" == Value.ref C) = true from Bool.false_ne_true)]
  show (if ((PySem.W.clsIn K C).isSome && PySem.W.typeIn K (.ref C) == some (.type "type")) = true then PySem.W.subIn K (.type "list") (.ref C) else none) = some false
  rw [a, b, c]
  rfl
/-- the module's tuple of the rules' words -/
def Rules (K : PySem.W.Frag) : Prop := ∃ a, PySem.W.nsIn K mainGlobals "RULES" = some (some (.ref a)) ∧ ∀ H, SqT K H a (rls.map V.str)
theorem rules_mk {a : Addr} {od : Option Addr} {n : Nat} {t0 t1 t2 : Tok} {osl : Array (Option Value)} (h1 : PySem.W.nsIn K mainGlobals "RULES" = some (some (.ref a)))
    (h2 : K.lookup a = some ⟨.type "tuple", od, .seq #[.str "least" t0, .str "greatest" t1, .str "rounds" t2] n, osl⟩) : Rules K :=
  ⟨a, h1, fun H => .inr ⟨_, _, _, h2, rfl, rfl, (by show 3 ≤ sizeLine; decide), .cons ⟨_, rfl⟩ (.cons ⟨_, rfl⟩ (.cons ⟨_, rfl⟩ .nil))⟩⟩
structure TopX (K : PySem.W.Frag) : Prop where
  net : ∃ C, PySem.W.nsIn K mainGlobals "Net" = some (some (.ref C)) ∧ NetX K C
  c6 : ∃ t, PySem.W.nsIn K mainGlobals "MOST_ENDS" = some (some (.int 6 t))
  c60 : ∃ t, PySem.W.nsIn K mainGlobals "MOST_TRACKS" = some (some (.int 60 t))
  c24 : ∃ t, PySem.W.nsIn K mainGlobals "MOST_POINTS" = some (some (.int 24 t))
  cx6 : ∃ t, PySem.W.nsIn K mainGlobals "MOST_EXITS" = some (some (.int 6 t))
  cS : ∃ t, PySem.W.nsIn K mainGlobals "MOST_STEPS" = some (some (.int 100000 t))
  rules : Rules K
  bs : ∀ x ∈ (["isinstance", "int", "bool", "list", "tuple", "len", "all", "any", "sum", "sorted", "range", "enumerate", "zip", "abs", "max", "divmod", "repr", "str"] : List Str), PySem.W.nsIn K mainGlobals x = some none
  t1 : Tp K "is_integer" s_is_integer
  t2 : Tp K "is_count" s_is_count
  t3 : Tp K "is_count_below" s_is_count_below
  t4 : Tp K "is_row" s_is_row
  t5 : Tp K "_is_target_of" s_is_target_of
  t6 : Tp K "_is_exit_row" s_is_exit_row
  t7 : Tp K "_are_exits" s_are_exits
  t8 : Tp K "check_net" s_check_net
  t9 : Tp K "is_point" s_is_point
  t11 : Tp K "is_setting" s_is_setting
  t12 : Tp K "check_setting" s_check_setting
  t13 : Tp K "is_number" s_is_number
  t14 : Tp K "are_numbers" s_are_numbers
  t15 : Tp K "check_starts" s_check_starts
  tct : Tp K "check_trains" s_check_trains
  tcp : Tp K "check_point" s_check_point
  tcm : Tp K "check_most" s_check_most
  u1 : Tp K "_waiting_points" s_waiting_points
  u2 : Tp K "is_crowd" s_is_crowd
  u3 : Tp K "_check_crowd" s_check_crowd
  u4 : Tp K "crowd_of" s_crowd_of
  u5 : Tp K "is_empty" s_is_empty
  u6 : Tp K "moves" s_moves
  u7 : Tp K "_opened" s_opened
  u8 : Tp K "_shut" s_shut
  u9 : Tp K "_move" s_move
  u10 : Tp K "_behind_move" s_behind_move
  u11 : Tp K "moved" s_moved
  u12 : Tp K "by_sequence" s_by_sequence
  u13 : Tp K "_next_point" s_next_point
  u14 : Tp K "_finish" s_finish
  u15 : Tp K "finished" s_finished
  u16 : Tp K "visits_by" s_visits_by
  l1 : Tp K "_law_pot" s_Lpot
  l2 : Tp K "_law_draw" s_Ldraw
  l3 : Tp K "_law_net" s_Lnet
  l4 : Tp K "_law_setting" s_Lsetting
  l5 : Tp K "_law_numbers" s_Lnumbers
  l6 : Tp K "_law_gone" s_Lgone
  l8 : Tp K "_law_moved" s_Lmoved
  l9 : Tp K "_law_told" s_Ltold
  l10 : Tp K "_law_can" s_Lcan
  l11 : Tp K "_law_drawn" s_Ldrawn
  l12 : Tp K "_law_rounds" s_Lrounds
  l13 : Tp K "_law_right" s_Lright
  l7 : Tp K "law" s_law
theorem net_mk {C : Addr} (aC : PySem.W.nsIn K mainGlobals "Net" = some (some (.ref C))) (N : NetX K C) : ∃ C, PySem.W.nsIn K mainGlobals "Net" = some (some (.ref C)) ∧ NetX K C := ⟨C, aC, N⟩
theorem con_mk {x : Str} {n : Int} {t : Tok} (a : PySem.W.nsIn K mainGlobals x = some (some (.int n t))) : ∃ t, PySem.W.nsIn K mainGlobals x = some (some (.int n t)) := ⟨t, a⟩
theorem all_mk {h : Heap} {fa : Addr} (X : K.In h) (G : h.Ns mainGlobals mg) (hfa : mg "law" = some (.ref fa)) (T : TopX K) :
    ∃ fd : FuncData, (∀ (s : Shared) (v : Value), BindsTo s fd ⟨[v], []⟩ [("_law_script", v)]) ∧ ∀ base : Heap, K.In base → base.Ns mainGlobals mg → FnG P w K mg base 13 fa fd ["_law_script"] (spD (cLaw K)) := by
  have z : ∀ x ∈ (["isinstance", "int", "bool", "list", "tuple", "len", "all", "any", "sum", "sorted", "range", "enumerate", "zip", "abs", "max", "divmod", "repr", "str"] : List Str), mg x = none := fun x hx => PySem.W.mg_none_of X G (T.bs x hx)
  have B : Blt mg := ⟨z _ (by simp), z _ (by simp), z _ (by simp), z _ (by simp), z _ (by simp), z _ (by simp), z _ (by simp), z _ (by simp), z _ (by simp), z _ (by simp), z _ (by simp), z _ (by simp), z _ (by simp)⟩
  have B2 : Blt2 mg := ⟨B, z _ (by simp), z _ (by simp), z _ (by simp), z _ (by simp), z _ (by simp)⟩
  obtain ⟨_, cS⟩ := T.cS
  have mS := PySem.W.mg_of X G cS
  obtain ⟨ra, rR, kR⟩ := T.rules
  have mR := PySem.W.mg_of X G rR
  have mr : mg "repr" = none := z _ (by simp)
  obtain ⟨C, aC, N⟩ := T.net
  obtain ⟨_, c6⟩ := T.c6
  obtain ⟨_, c60⟩ := T.c60
  obtain ⟨_, c24⟩ := T.c24
  obtain ⟨_, cx6⟩ := T.cx6
  have m6 := PySem.W.mg_of X G c6
  have m60 := PySem.W.mg_of X G c60
  have m24 := PySem.W.mg_of X G c24
  have mx6 := PySem.W.mg_of X G cx6
  have NT : NetT K mg C := ⟨⟨⟨N.pg, N.hd, N.po, N.sa⟩, N.ha, N.hn, N.ht, N.hm, if_pos (beq_self_eq_true _)⟩, N.nE, N.nX, N.nT, PySem.W.mg_of X G aC, kit_no N.ka N.kb N.kc, N.nf⟩
  obtain ⟨fl, al, fal⟩ := T.l7
  have e := hfa.symm.trans (PySem.W.mg_of X G al)
  cases e
  obtain ⟨oc, od, kV, doc, pm, an, cdv, ct, osl, ll, lc, lk⟩ := fal
  refine ⟨PySem.W.fnOf "law" "law" (defArgs s_law) (defBody s_law) (defScope s_law) .none kV doc pm an cdv ct, fun s v => .of_eq rfl, fun base _ _ => ?_⟩
  have d1 : Df P w K mg base 1 "is_integer" ["value"] (spD (c1 isI)) := T.t1.df X G (fun _ _ _ _ _ _ us hl => match us, hl with | [_], _ => rfl) fun f fd F => ok_is_integer B F
  have d2 : Df P w K mg base 2 "is_count" ["value"] (spD (c1 isC)) := T.t2.df X G (fun _ _ _ _ _ _ us hl => match us, hl with | [_], _ => rfl) fun f fd F => ok_is_count d1 F
  have d3 : Df P w K mg base 3 "is_count_below" ["value", "bound"] (spD (c2 isCB)) := T.t3.df X G (fun _ _ _ _ _ _ us hl => match us, hl with | [_, _], _ => rfl) fun f fd F => ok_is_count_below d2 F
  have d4 : Df P w K mg base 1 "is_row" ["value"] (spD (c1 isRow)) := T.t4.df X G (fun _ _ _ _ _ _ us hl => match us, hl with | [_], _ => rfl) fun f fd F => ok_is_row B F
  have d5 : Df P w K mg base 2 "_is_target_of" ["value", "ends", "points"] (spD (c3 isTg)) := T.t5.df X G (fun _ _ _ _ _ _ us hl => match us, hl with | [_, _, _], _ => rfl) fun f fd F => ok_is_target_of d1 F
  have d6 : Df P w K mg base 3 "_is_exit_row" ["value", "ends", "points"] (spD (c3R isXR)) := T.t6.df X G (fun _ _ _ _ _ _ us hl => match us, hl with | [_, _, _], _ => rfl) fun f fd F => ok_is_exit_row B mx6 (Df.mono d4 (by decide)) d5 F
  have d7 : Df P w K mg base 4 "_are_exits" ["value", "ends"] (spD (c2R isXs)) := T.t7.df X G (fun _ _ _ _ _ _ us hl => match us, hl with | [_, _], _ => rfl) fun f fd F => ok_are_exits B m24 (Df.mono d4 (by decide)) d6 F
  have NP : NetP P w K mg base C 5 := by
    obtain ⟨f1, a1, i1, fa1⟩ := N.ini
    obtain ⟨f6, a6, i6, fa6⟩ := N.targets
    obtain ⟨p7, g7, r7, a7, b7, c7, e7, fa7⟩ := N.many
    have k6 : PySem.W.keepIn K (.ref f6) = true := by
      obtain ⟨_, _, _, _, _, _, _, _, _, _, _, k⟩ := fa6
      exact k
    obtain ⟨d6', F6⟩ := fa6.fn
    obtain ⟨d7', F7⟩ := fa7.fn
    obtain ⟨f2, a2, i2, fa2⟩ := N.eq
    obtain ⟨f3, a3, i3, fa3⟩ := N.exits
    obtain ⟨p4, g4, r4, a4, b4, c4, e4, fa4⟩ := N.ends
    obtain ⟨p5, g5, r5, a5, b5, c5, e5, fa5⟩ := N.points
    have k3 : PySem.W.keepIn K (.ref f3) = true := by
      obtain ⟨_, _, _, _, _, _, _, _, _, _, _, k⟩ := fa3
      exact k
    obtain ⟨oc1, od1, kV1, doc1, pm1, an1, cdv1, ct1, osl1, l1, cc1, kk1⟩ := fa1
    have F1 := fun_mk (st := s_Net_init_) l1 cc1 kk1
    obtain ⟨d2, F2⟩ := fa2.fn
    obtain ⟨d3', F3⟩ := fa3.fn
    obtain ⟨d4, F4⟩ := fa4.fn
    obtain ⟨d5, F5⟩ := fa5.fn
    exact ⟨NT, ⟨p4, g4, d4, ⟨a4, b4, c4, _, e4⟩, (ok_ends NT F4 (k := 0)).mono (by decide), F4.binds fun _ _ _ _ _ _ us hl => match us, hl with | [_], _ => rfl⟩,
      ⟨p5, g5, d5, ⟨a5, b5, c5, _, e5⟩, (ok_points B NT F5 (k := 0)).mono (by decide), F5.binds fun _ _ _ _ _ _ us hl => match us, hl with | [_], _ => rfl⟩,
      ⟨p7, g7, d7', ⟨a7, b7, c7, _, e7⟩, (ok_many B NT F7 (k := 0)).mono (by decide), F7.binds fun _ _ _ _ _ _ us hl => match us, hl with | [_], _ => rfl⟩,
      ⟨f6, d6', ⟨a6, i6, k6⟩, (ok_targets B NT F6 (k := 0)).mono (by decide), F6.binds fun _ _ _ _ _ _ us hl => match us, hl with | [_], _ => rfl⟩,
      ⟨f3, d3', ⟨a3, i3, k3⟩, (ok_exits B NT F3 (k := 0)).mono (by decide), F3.binds fun _ _ _ _ _ _ us hl => match us, hl with | [_], _ => rfl⟩,
      ⟨f2, d2, a2, i2, (ok_eq B NT F2 (k := 0)).mono (by decide), F2.binds fun _ _ _ _ _ _ us hl => match us, hl with | [_, _], _ => rfl⟩, N.ne, N.sub,
      ⟨f1, _, ⟨N.mkI, a1, i1, N.kC⟩, ok_init B NT m6 m60 (Df.mono d3 (by decide)) d7 F1, F1.binds fun _ _ _ _ _ _ us hl => match us, hl with | [_, _, _], _ => rfl,
        ⟨fun s us ws _ h1 h2 => by
          rcases us with _ | ⟨a, _ | ⟨b, r⟩⟩ <;> rcases ws with _ | ⟨x, _ | ⟨y, _ | ⟨z, r2⟩⟩⟩ <;> first | exact .of_eq rfl | (simp at h1; done) | (simp at h2; done) | (simp at h1 h2; done), fun r1 r2 => r1.append (vals_sw r2)⟩⟩⟩
  have d8 : Df P w K mg base 1 "check_net" ["net"] (spD (cNet C fun _ _ => .non)) := T.t8.df X G (fun _ _ _ _ _ _ us hl => match us, hl with | [_], _ => rfl) fun f fd F => ok_check_net B NT F
  have d9 : Df P w K mg base 7 "is_point" ["net", "value"] (spD (cNet1 C fun d _ ex => isCB d ex.length)) := T.t9.df X G (fun _ _ _ _ _ _ us hl => match us, hl with | [_, _], _ => rfl) fun f fd F => ok_is_point NP (Nat.le_refl 5) (Df.mono d3 (by decide)) F
  have d11 : Df P w K mg base 7 "is_setting" ["net", "value"] (spD (cSet C fun _ _ _ => .bl true)) := T.t11.df X G (fun _ _ _ _ _ _ us hl => match us, hl with | [_, _], _ => rfl) fun f fd F => ok_is_setting B NP (Nat.le_refl 5) (Df.mono d8 (by decide)) (Df.mono d4 (by decide)) (Df.mono d3 (by decide)) F
  have d12 : Df P w K mg base 8 "check_setting" ["net", "setting"] (spD (cSet C fun _ _ _ => .non)) := T.t12.df X G (fun _ _ _ _ _ _ us hl => match us, hl with | [_, _], _ => rfl) fun f fd F => ok_check_setting d11 F
  have d13 : Df P w K mg base 3 "is_number" ["value"] (spD (c1 isN)) := T.t13.df X G (fun _ _ _ _ _ _ us hl => match us, hl with | [_], _ => rfl) fun f fd F => ok_is_number d2 F
  have d14 : Df P w K mg base 4 "are_numbers" ["value", "many"] (spD cAreN) := T.t14.df X G (fun _ _ _ _ _ _ us hl => match us, hl with | [_, _], _ => rfl) fun f fd F => ok_are_numbers B (Df.mono d4 (by decide)) d13 F
  have d15 : Df P w K mg base 7 "check_starts" ["net", "starts"] (spD (cNum C)) := T.t15.df X G (fun _ _ _ _ _ _ us hl => match us, hl with | [_, _], _ => rfl) fun f fd F => ok_check_starts NP (Nat.le_refl 5) (Df.mono d14 (by decide)) F
  have dct : Df P w K mg base 9 "check_trains" ["net", "setting", "starts"] (spD (cTr C)) := T.tct.df X G (fun _ _ _ _ _ _ us hl => match us, hl with | [_, _, _], _ => rfl) fun f fd F => ok_check_trains (Df.mono d8 (by decide)) d12 (Df.mono d15 (by decide)) F
  have dcp : Df P w K mg base 8 "check_point" ["net", "point"] (spD (cPt C)) := T.tcp.df X G (fun _ _ _ _ _ _ us hl => match us, hl with | [_, _], _ => rfl) fun f fd F => ok_check_point d9 F
  have dcm : Df P w K mg base 4 "check_most" ["most", "bound"] (spD cMst) := T.tcm.df X G (fun _ _ _ _ _ _ us hl => match us, hl with | [_, _], _ => rfl) fun f fd F => ok_check_most d3 F
  have g1 : Df P w K mg base 1 "_waiting_points" ["waiting"] (spD cWp) := T.u1.df X G (fun _ _ _ _ _ _ us hl => match us, hl with | [_], _ => rfl) fun f fd F => ok_waiting_points B F
  have g2 : Df P w K mg base 8 "is_crowd" ["net", "value"] (spD (cCr C fun _ _ _ => .bl true)) := T.u2.df X G (fun _ _ _ _ _ _ us hl => match us, hl with | [_, _], _ => rfl) fun f fd F => ok_is_crowd B NP (by decide : 5 + 1 ≤ 7) (Df.mono d8 (by decide)) (Df.mono d14 (by decide)) d11 F
  have g3 : Df P w K mg base 9 "_check_crowd" ["net", "crowd"] (spD (cCr C fun _ _ _ => .non)) := T.u3.df X G (fun _ _ _ _ _ _ us hl => match us, hl with | [_, _], _ => rfl) fun f fd F => ok_check_crowd (Df.mono d8 (by decide)) g2 F
  have g4 : Df P w K mg base 11 "crowd_of" ["net", "setting", "starts"] (spD (cCo C)) := T.u4.df X G (fun _ _ _ _ _ _ us hl => match us, hl with | [_, _, _], _ => rfl) fun f fd F => (ok_crowd_of B NP (by decide : 5 + 1 ≤ 9) dct F).mono (by decide)
  have g4R : DfR P w K mg base 11 "crowd_of" ["net", "setting", "starts"] (spD (cCo C)) := T.u4.dfR X G (fun _ _ _ _ _ _ ws hl => match ws, hl with | [_, _, _], _ => rfl) fun f fd F => (ok_crowd_of B NP (by decide : 5 + 1 ≤ 9) dct F).mono (by decide)
  have g5 : Df P w K mg base 10 "is_empty" ["net", "crowd"] (spD (cCr C fun _ _ x => .bl (canL x.1).isEmpty)) := T.u5.df X G (fun _ _ _ _ _ _ us hl => match us, hl with | [_, _], _ => rfl) fun f fd F => ok_is_empty g3 (Df.mono g1 (by decide)) F
  have g6 : Df P w K mg base 10 "moves" ["net", "crowd"] (spD (cCr C fun _ _ x => .lst (lI (canL x.1)))) := T.u6.df X G (fun _ _ _ _ _ _ us hl => match us, hl with | [_, _], _ => rfl) fun f fd F => ok_moves g3 (Df.mono g1 (by decide)) F
  have g6R : DfR P w K mg base 11 "moves" ["net", "crowd"] (spD (cCr C fun _ _ x => .lst (lI (canL x.1)))) := T.u6.dfR X G (fun _ _ _ _ _ _ ws hl => match ws, hl with | [_, _], _ => rfl) fun f fd F => (ok_moves g3 (Df.mono g1 (by decide)) F).mono (by decide)
  have g7 : Df P w K mg base 1 "_opened" ["crowd"] (spL cOp) := T.u7.df X G (fun _ _ _ _ _ _ us hl => match us, hl with | [_], _ => rfl) fun f fd F => ok_opened B F
  have g8 : Df P w K mg base 1 "_shut" ["parts"] (spD cSh) := T.u8.df X G (fun _ _ _ _ _ _ us hl => match us, hl with | [_], _ => rfl) fun f fd F => ok_shut B F
  have g9 : Df P w K mg base 1 "_move" ["rows", "parts", "point"] (spC cMv) := T.u9.df X G (fun _ _ _ _ _ _ us hl => match us, hl with | [_, _, _], _ => rfl) fun f fd F => ok_move B F
  have g10 : Df P w K mg base 2 "_behind_move" ["rows", "crowd", "point"] (spD cBm) := T.u10.df X G (fun _ _ _ _ _ _ us hl => match us, hl with | [_, _, _], _ => rfl) fun f fd F => ok_behind_move g7 g9 g8 F
  have g11A : DfA2 P w K mg base 11 "moved" ["net", "crowd", "point"] ["point"] 2 (spD (cMd C)) := T.u11.dfA2 X G (fun _ _ _ _ _ _ us ws h1 h2 => by
    rcases us with _ | ⟨a, _ | ⟨b, _ | ⟨c, r⟩⟩⟩ <;> first | (cases h1; done) | skip
    rcases ws with _ | ⟨d, _ | ⟨e, r⟩⟩ <;> first | rfl | (cases h2; done)) (by decide) fun f fd F => (ok_moved NP (by decide : 5 ≤ 9) g3 (Df.mono dcp (by decide)) (Df.mono g10 (by decide)) F).mono (by decide)
  have g12 : Df P w K mg base 10 "by_sequence" ["net", "crowd", "sequence"] (spD (cBs C)) := T.u12.df X G (fun _ _ _ _ _ _ us hl => match us, hl with | [_, _, _], _ => rfl) fun f fd F => ok_by_sequence B NP (by decide : 5 ≤ 9) g3 (Df.mono d4 (by decide)) (Df.mono d9 (by decide)) (Df.mono g7 (by decide)) (Df.mono g9 (by decide)) (Df.mono g8 (by decide)) F
  have g12R : DfR P w K mg base 11 "by_sequence" ["net", "crowd", "sequence"] (spD (cBs C)) := T.u12.dfR X G (fun _ _ _ _ _ _ ws hl => match ws, hl with | [_, _, _], _ => rfl) fun f fd F => (ok_by_sequence B NP (by decide : 5 ≤ 9) g3 (Df.mono d4 (by decide)) (Df.mono d9 (by decide)) (Df.mono g7 (by decide)) (Df.mono g9 (by decide)) (Df.mono g8 (by decide)) F).mono (by decide)
  have g13 : Df P w K mg base 2 "_next_point" ["waiting", "rule", "last"] (spD cNx) := T.u13.df X G (fun _ _ _ _ _ _ us hl => match us, hl with | [_, _, _], _ => rfl) fun f fd F => ok_next_point B g1 F
  have g14 : Df P w K mg base 10 "_finish" ["net", "crowd", "rule", "most"] (spD (cFi C)) := T.u14.df X G (fun _ _ _ _ _ _ us hl => match us, hl with | [_, _, _, _], _ => rfl) fun f fd F => ok_finish B B2.str mS mR kR NP (by decide : 5 + 1 ≤ 9) g3 (Df.mono dcm (by decide)) (Df.mono g13 (by decide)) (Df.mono g7 (by decide)) (Df.mono g9 (by decide)) (Df.mono g8 (by decide)) F
  have g15 : Df P w K mg base 11 "finished" ["net", "crowd", "rule", "most"] (spD (cFd C)) := T.u15.df X G (fun _ _ _ _ _ _ us hl => match us, hl with | [_, _, _, _], _ => rfl) fun f fd F => ok_finished B.sum g14 F
  have g16R : DfR P w K mg base 11 "visits_by" ["net", "crowd", "rule", "most"] (spD (cVb C)) := T.u16.dfR X G (fun _ _ _ _ _ _ ws hl => match ws, hl with | [_, _, _, _], _ => rfl) fun f fd F => ok_visits_by g14 F
  have e1 : Df P w K mg base 1 "_law_pot" ["_law_script", "_law_k"] (spF (cPot K)) := T.l1.df X G (fun _ _ _ _ _ _ us hl => match us, hl with | [_, _], _ => rfl) fun f fd F => ok_pot B2 F
  have e2 : Df P w K mg base 1 "_law_draw" ["_law_pot_here", "_law_many"] (spP cDraw) := T.l2.df X G (fun _ _ _ _ _ _ us hl => match us, hl with | [_, _], _ => rfl) fun f fd F => ok_draw B2 F
  have e3 : Df P w K mg base 2 "_law_net" ["_law_pot_here", "_law_most"] (spP cLnt) := T.l3.df X G (fun _ _ _ _ _ _ us hl => match us, hl with | [_, _], _ => rfl) fun f fd F => ok_Lnet B2 e2 F
  have e4 : Df P w K mg base 2 "_law_setting" ["_law_pot_here", "_law_exits"] (spP cLset) := T.l4.df X G (fun _ _ _ _ _ _ us hl => match us, hl with | [_, _], _ => rfl) fun f fd F => ok_Lsetting B2 e2 F
  have e5 : Df P w K mg base 2 "_law_numbers" ["_law_pot_here", "_law_many", "_law_most"] (spP cNs) := T.l5.df X G (fun _ _ _ _ _ _ us hl => match us, hl with | [_, _, _], _ => rfl) fun f fd F => ok_Lnumbers B2 e2 F
  have e6 : Df P w K mg base 1 "_law_gone" ["_law_exits", "_law_setting_here", "_law_point"] (spD cGn) := T.l6.df X G (fun _ _ _ _ _ _ us hl => match us, hl with | [_, _, _], _ => rfl) fun f fd F => ok_Lgone B2 F
  have e7 : Df P w K mg base 2 "_law_moved" ["_law_exits", "_law_crowd", "_law_point"] (spD cLm) := T.l8.df X G (fun _ _ _ _ _ _ us hl => match us, hl with | [_, _, _], _ => rfl) fun f fd F => ok_Lmoved B2 e6 F
  have e8 : Df P w K mg base 1 "_law_told" ["_law_crowd"] (spD cLt) := T.l9.df X G (fun _ _ _ _ _ _ us hl => match us, hl with | [_], _ => rfl) fun f fd F => ok_Ltold B2 F
  have e9 : Df P w K mg base 1 "_law_can" ["_law_crowd"] (spD cLc) := T.l10.df X G (fun _ _ _ _ _ _ us hl => match us, hl with | [_], _ => rfl) fun f fd F => ok_Lcan B2 F
  have e10 : Df P w K mg base 3 "_law_drawn" ["_law_pot_here", "_law_exits", "_law_crowd", "_law_most"] (spP cDr) := T.l11.df X G (fun _ _ _ _ _ _ us hl => match us, hl with | [_, _, _, _], _ => rfl) fun f fd F => ok_Ldrawn B2 (Df.mono e2 (by decide)) (Df.mono e9 (by decide)) e7 F
  have e11 : Df P w K mg base 3 "_law_rounds" ["_law_exits", "_law_crowd"] (spD cRo) := T.l12.df X G (fun _ _ _ _ _ _ us hl => match us, hl with | [_, _], _ => rfl) fun f fd F => ok_Lrounds B2 (Df.mono e9 (by decide)) e7 F
  have GS : Gs P w K mg base C 11 := ⟨(Df.mono e2 (by decide)), (Df.mono e3 (by decide)), (Df.mono e4 (by decide)), (Df.mono e5 (by decide)), (Df.mono e7 (by decide)), (Df.mono e8 (by decide)), (Df.mono e9 (by decide)), (Df.mono e10 (by decide)), (Df.mono e11 (by decide)), g4, g4R, (Df.mono g5 (by decide)), (Df.mono g6 (by decide)), g6R, g11A, (Df.mono g12 (by decide)), g12R, g15, g16R⟩
  have e12 : DfG P w K mg base 12 "_law_right" ["_law_pot_here"] (spP cR) := T.l13.dfG X G (fun _ _ _ _ _ _ us hl => match us, hl with | [_], _ => rfl) fun f fd F => ok_Lright B2 NP (by decide : 5 + 1 ≤ 11) GS F
  exact ok_law (Df.mono e1 (by decide)) e12 (fun_mk (st := s_law) ll lc lk)
end
theorem walk {l : PySem.W.OpenLaw} {q : Program} {loose : List Str} {XP : (Str → Option Value) → Heap → Prop} {YP : World → Heap → Prop} {d : DefRec} {K : Params → PySem.W.Frag} (hn : l.most = some 63) (hdf : d.params.defaults = [])
    (hY : ∀ (w : World) (h : Heap), YP w h → (K w.params).In h) (hd : d.name = "law") (T : ∀ w : World, TopX (K w.params)) : PySem.W.WalkO q loose XP YP l.row.toRowW d [] (fun f vs => PySem.call f vs) := by
  refine walkG (n := 63) (k := 13) (x := "_law_script") (sp := fun w => spD (cLaw (K w.params))) hn (by decide) hdf ⟨rfl, by decide, by decide⟩ hY (fun w mg fa h X G hmg => all_mk X G (by rw [← hd]; exact hmg) (T w)) (fun w H a ns hl hS => ?_)
  refine ⟨H, [.scr (K w.params) ns], fun d => d = .bl true, Ex.refl H, ⟨.ref a, [], rfl, ⟨a, rfl, hS⟩, rfl⟩, ⟨ns, rfl, by omega, rfl⟩, fun v d G' H' hz _ i => ?_⟩
  subst hz
  exact i
end K26

open PySem PySem.W PyProof.Rows K26
set_option maxHeartbeats 0 in
theorem PySem.Challenge.cw_flippedpoints_k26_whole_trains_in_any_se_holds : PySem.Challenge.rw_flippedpoints_k26_whole_trains_in_any_se.Holds := by
  w_on; o_law; k_head; (case hw => w_witness2)
  k_fill
  refine K26.walk (l := PySem.Challenge.rw_flippedpoints_k26_whole_trains_in_any_se) rfl rfl (fun w h Y => PySem.W.kIn_of Y) rfl fun w => ?T
  case T =>
    refine' { net := ?net, c6 := con_mk ?c6, c60 := con_mk ?c60, c24 := con_mk ?c24, cx6 := con_mk ?cx6, cS := con_mk ?cS, rules := rules_mk ?ru1 ?ru2, bs := ?bs, t1 := ?t1, t2 := ?t2, t3 := ?t3, t4 := ?t4, t5 := ?t5, t6 := ?t6, t7 := ?t7, t8 := ?t8, t9 := ?t9, t11 := ?t11, t12 := ?t12, t13 := ?t13, t14 := ?t14, t15 := ?t15, tct := ?tct, tcp := ?tcp, tcm := ?tcm, u1 := ?u1, u2 := ?u2, u3 := ?u3, u4 := ?u4, u5 := ?u5, u6 := ?u6, u7 := ?u7, u8 := ?u8, u9 := ?u9, u10 := ?u10, u11 := ?u11, u12 := ?u12, u13 := ?u13, u14 := ?u14, u15 := ?u15, u16 := ?u16, l1 := ?l1, l2 := ?l2, l3 := ?l3, l4 := ?l4, l5 := ?l5, l6 := ?l6, l8 := ?l8, l9 := ?l9, l10 := ?l10, l11 := ?l11, l12 := ?l12, l13 := ?l13, l7 := ?l7 }
    case net =>
      refine' net_mk ?zaC ?zNet
      (case zaC => k_is)
      case zNet =>
        refine' { pg := ?pg, hd := ?hd, po := ?po, sa := ?sa, ha := ?ha, hn := ?hn, ht := ?ht, hm := ?hm, nE := ?nE, nX := ?nX, nT := ?nT, ne := ?ne, sub := ?sub, mkI := ?mkI, kC := ?kC, ini := mt_mk ?i1 ?i2 ?i3 ?i4 ?i5, eq := mt_mk ?q1 ?q2 ?q3 ?q4 ?q5, exits := mt_mk ?x1 ?x2 ?x3 ?x4 ?x5, ends := pp_mk ?e1 ?e2 ?e3 ?e4 ?e5 ?e6 ?e7, points := pp_mk ?p1 ?p2 ?p3 ?p4 ?p5 ?p6 ?p7, many := pp_mk ?m1 ?m2 ?m3 ?m4 ?m5 ?m6 ?m7, targets := mt_mk ?y1 ?y2 ?y3 ?y4 ?y5, ka := ?ka, kb := ?kb, kc := ?kc, nf := ?nf }
        (case pg => k_is)
        (case hd => k_is)
        (case po => k_is)
        (case sa => k_is)
        (case ha => k_is)
        (case hn => k_is)
        (case ht => k_is)
        (case hm => k_is)
        (case nE => k_is)
        (case nX => k_is)
        (case nT => k_is)
        (case ne => k_is)
        (case sub => k_is)
        (case mkI => k_is)
        (case kC => k_is)
        (case i1 => k_is)
        (case i2 => k_is)
        (case i3 => k_is)
        (case i4 => k_is)
        (case i5 => k_is)
        (case q1 => k_is)
        (case q2 => k_is)
        (case q3 => k_is)
        (case q4 => k_is)
        (case q5 => k_is)
        (case x1 => k_is)
        (case x2 => k_is)
        (case x3 => k_is)
        (case x4 => k_is)
        (case x5 => k_is)
        (case e1 => k_is)
        (case e2 => k_is)
        (case e3 => k_is)
        (case e4 => k_is)
        (case e5 => k_is)
        (case e6 => k_is)
        (case e7 => k_is)
        (case p1 => k_is)
        (case p2 => k_is)
        (case p3 => k_is)
        (case p4 => k_is)
        (case p5 => k_is)
        (case p6 => k_is)
        (case p7 => k_is)
        (case m1 => k_is)
        (case m2 => k_is)
        (case m3 => k_is)
        (case m4 => k_is)
        (case m5 => k_is)
        (case m6 => k_is)
        (case m7 => k_is)
        (case y1 => k_is)
        (case y2 => k_is)
        (case y3 => k_is)
        (case y4 => k_is)
        (case y5 => k_is)
        (case ka => k_is)
        (case kb => k_is)
        (case kc => k_is)
        (case nf => k_is)
    (case c6 => k_is)
    (case c60 => k_is)
    (case c24 => k_is)
    (case cx6 => k_is)
    (case cS => k_is)
    (case ru1 => k_is)
    (case ru2 => k_is)
    case bs =>
      intro x hx
      rcases List.mem_cons.mp hx with rfl | hx
      · k_is
      rcases List.mem_cons.mp hx with rfl | hx
      · k_is
      rcases List.mem_cons.mp hx with rfl | hx
      · k_is
      rcases List.mem_cons.mp hx with rfl | hx
      · k_is
      rcases List.mem_cons.mp hx with rfl | hx
      · k_is
      rcases List.mem_cons.mp hx with rfl | hx
      · k_is
      rcases List.mem_cons.mp hx with rfl | hx
      · k_is
      rcases List.mem_cons.mp hx with rfl | hx
      · k_is
      rcases List.mem_cons.mp hx with rfl | hx
      · k_is
      rcases List.mem_cons.mp hx with rfl | hx
      · k_is
      rcases List.mem_cons.mp hx with rfl | hx
      · k_is
      rcases List.mem_cons.mp hx with rfl | hx
      · k_is
      rcases List.mem_cons.mp hx with rfl | hx
      · k_is
      rcases List.mem_cons.mp hx with rfl | hx
      · k_is
      rcases List.mem_cons.mp hx with rfl | hx
      · k_is
      rcases List.mem_cons.mp hx with rfl | hx
      · k_is
      rcases List.mem_cons.mp hx with rfl | hx
      · k_is
      rcases List.mem_cons.mp hx with rfl | hx
      · k_is
      cases hx
    case t1 =>
      refine' tp_mk ?a ?l ?c ?k
      (case a => k_is)
      (case l => k_is)
      (case c => k_is)
      (case k => k_is)
    case t2 =>
      refine' tp_mk ?a ?l ?c ?k
      (case a => k_is)
      (case l => k_is)
      (case c => k_is)
      (case k => k_is)
    case t3 =>
      refine' tp_mk ?a ?l ?c ?k
      (case a => k_is)
      (case l => k_is)
      (case c => k_is)
      (case k => k_is)
    case t4 =>
      refine' tp_mk ?a ?l ?c ?k
      (case a => k_is)
      (case l => k_is)
      (case c => k_is)
      (case k => k_is)
    case t5 =>
      refine' tp_mk ?a ?l ?c ?k
      (case a => k_is)
      (case l => k_is)
      (case c => k_is)
      (case k => k_is)
    case t6 =>
      refine' tp_mk ?a ?l ?c ?k
      (case a => k_is)
      (case l => k_is)
      (case c => k_is)
      (case k => k_is)
    case t7 =>
      refine' tp_mk ?a ?l ?c ?k
      (case a => k_is)
      (case l => k_is)
      (case c => k_is)
      (case k => k_is)
    case t8 =>
      refine' tp_mk ?a ?l ?c ?k
      (case a => k_is)
      (case l => k_is)
      (case c => k_is)
      (case k => k_is)
    case t9 =>
      refine' tp_mk ?a ?l ?c ?k
      (case a => k_is)
      (case l => k_is)
      (case c => k_is)
      (case k => k_is)
    case t11 =>
      refine' tp_mk ?a ?l ?c ?k
      (case a => k_is)
      (case l => k_is)
      (case c => k_is)
      (case k => k_is)
    case t12 =>
      refine' tp_mk ?a ?l ?c ?k
      (case a => k_is)
      (case l => k_is)
      (case c => k_is)
      (case k => k_is)
    case t13 =>
      refine' tp_mk ?a ?l ?c ?k
      (case a => k_is)
      (case l => k_is)
      (case c => k_is)
      (case k => k_is)
    case t14 =>
      refine' tp_mk ?a ?l ?c ?k
      (case a => k_is)
      (case l => k_is)
      (case c => k_is)
      (case k => k_is)
    case t15 =>
      refine' tp_mk ?a ?l ?c ?k
      (case a => k_is)
      (case l => k_is)
      (case c => k_is)
      (case k => k_is)
    case tct =>
      refine' tp_mk ?a ?l ?c ?k
      (case a => k_is)
      (case l => k_is)
      (case c => k_is)
      (case k => k_is)
    case tcp =>
      refine' tp_mk ?a ?l ?c ?k
      (case a => k_is)
      (case l => k_is)
      (case c => k_is)
      (case k => k_is)
    case tcm =>
      refine' tp_mk ?a ?l ?c ?k
      (case a => k_is)
      (case l => k_is)
      (case c => k_is)
      (case k => k_is)
    case u1 =>
      refine' tp_mk ?a ?l ?c ?k
      (case a => k_is)
      (case l => k_is)
      (case c => k_is)
      (case k => k_is)
    case u2 =>
      refine' tp_mk ?a ?l ?c ?k
      (case a => k_is)
      (case l => k_is)
      (case c => k_is)
      (case k => k_is)
    case u3 =>
      refine' tp_mk ?a ?l ?c ?k
      (case a => k_is)
      (case l => k_is)
      (case c => k_is)
      (case k => k_is)
    case u4 =>
      refine' tp_mk ?a ?l ?c ?k
      (case a => k_is)
      (case l => k_is)
      (case c => k_is)
      (case k => k_is)
    case u5 =>
      refine' tp_mk ?a ?l ?c ?k
      (case a => k_is)
      (case l => k_is)
      (case c => k_is)
      (case k => k_is)
    case u6 =>
      refine' tp_mk ?a ?l ?c ?k
      (case a => k_is)
      (case l => k_is)
      (case c => k_is)
      (case k => k_is)
    case u7 =>
      refine' tp_mk ?a ?l ?c ?k
      (case a => k_is)
      (case l => k_is)
      (case c => k_is)
      (case k => k_is)
    case u8 =>
      refine' tp_mk ?a ?l ?c ?k
      (case a => k_is)
      (case l => k_is)
      (case c => k_is)
      (case k => k_is)
    case u9 =>
      refine' tp_mk ?a ?l ?c ?k
      (case a => k_is)
      (case l => k_is)
      (case c => k_is)
      (case k => k_is)
    case u10 =>
      refine' tp_mk ?a ?l ?c ?k
      (case a => k_is)
      (case l => k_is)
      (case c => k_is)
      (case k => k_is)
    case u11 =>
      refine' tp_mk ?a ?l ?c ?k
      (case a => k_is)
      (case l => k_is)
      (case c => k_is)
      (case k => k_is)
    case u12 =>
      refine' tp_mk ?a ?l ?c ?k
      (case a => k_is)
      (case l => k_is)
      (case c => k_is)
      (case k => k_is)
    case u13 =>
      refine' tp_mk ?a ?l ?c ?k
      (case a => k_is)
      (case l => k_is)
      (case c => k_is)
      (case k => k_is)
    case u14 =>
      refine' tp_mk ?a ?l ?c ?k
      (case a => k_is)
      (case l => k_is)
      (case c => k_is)
      (case k => k_is)
    case u15 =>
      refine' tp_mk ?a ?l ?c ?k
      (case a => k_is)
      (case l => k_is)
      (case c => k_is)
      (case k => k_is)
    case u16 =>
      refine' tp_mk ?a ?l ?c ?k
      (case a => k_is)
      (case l => k_is)
      (case c => k_is)
      (case k => k_is)
    case l1 =>
      refine' tp_mk ?a ?l ?c ?k
      (case a => k_is)
      (case l => k_is)
      (case c => k_is)
      (case k => k_is)
    case l2 =>
      refine' tp_mk ?a ?l ?c ?k
      (case a => k_is)
      (case l => k_is)
      (case c => k_is)
      (case k => k_is)
    case l3 =>
      refine' tp_mk ?a ?l ?c ?k
      (case a => k_is)
      (case l => k_is)
      (case c => k_is)
      (case k => k_is)
    case l4 =>
      refine' tp_mk ?a ?l ?c ?k
      (case a => k_is)
      (case l => k_is)
      (case c => k_is)
      (case k => k_is)
    case l5 =>
      refine' tp_mk ?a ?l ?c ?k
      (case a => k_is)
      (case l => k_is)
      (case c => k_is)
      (case k => k_is)
    case l6 =>
      refine' tp_mk ?a ?l ?c ?k
      (case a => k_is)
      (case l => k_is)
      (case c => k_is)
      (case k => k_is)
    case l8 =>
      refine' tp_mk ?a ?l ?c ?k
      (case a => k_is)
      (case l => k_is)
      (case c => k_is)
      (case k => k_is)
    case l9 =>
      refine' tp_mk ?a ?l ?c ?k
      (case a => k_is)
      (case l => k_is)
      (case c => k_is)
      (case k => k_is)
    case l10 =>
      refine' tp_mk ?a ?l ?c ?k
      (case a => k_is)
      (case l => k_is)
      (case c => k_is)
      (case k => k_is)
    case l11 =>
      refine' tp_mk ?a ?l ?c ?k
      (case a => k_is)
      (case l => k_is)
      (case c => k_is)
      (case k => k_is)
    case l12 =>
      refine' tp_mk ?a ?l ?c ?k
      (case a => k_is)
      (case l => k_is)
      (case c => k_is)
      (case k => k_is)
    case l13 =>
      refine' tp_mk ?a ?l ?c ?k
      (case a => k_is)
      (case l => k_is)
      (case c => k_is)
      (case k => k_is)
    case l7 =>
      refine' tp_mk ?a ?l ?c ?k
      (case a => k_is)
      (case l => k_is)
      (case c => k_is)
      (case k => k_is)

