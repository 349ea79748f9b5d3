import PyProof.Rows.All
import Wide.All
import OpenK.AllK
import Wide.FinOn
import HandS.ForMost
import HandS.ForExc
import HandS.CallSlots
import HandS.TupAny
import HandS.IsInst
import HandS.SortRule
import HandS.SortInts
import HandS.Style
import HandS.Flow
import HandS.SetFor
import PyProof.ReprRoads
import KE.KDictZip
import PyProof.ListNew
import PyProof.FitsInt
import PySem.Challenge.RW_pastlay_k05_places_apart
set_option Elab.async false
section
set_option Elab.async false
set_option linter.all false
set_option maxRecDepth 100000
set_option maxHeartbeats 4000000
/-! a layer of deep values over the hand layer: what a text does to data, as a function -/
namespace DL
open PySem PySem.Spec PyProof.Rows L2

/-! ### deep values, open objects, outcomes -/
inductive D where
  | non | bl (b : Bool) | int (i : Int) | str (x : Str)
  | tup (xs : List D) | lst (xs : List D)
  | ref (k : Nat) | ty (n : String) | adr (a : Addr)
  | wl (xs : List D) | wt (xs : List D)
/-- an object that may be written: a list, an instance; a list that is read only from now on -/
inductive Ob where
  | lst (xs : List D) | ins (C : Addr) (fs : List (Str × D)) | frz (xs : List D)
abbrev Sto := List Ob
abbrev Loc := List (Option D)
abbrev Pay := Option (List (Str × D))
inductive Rs (α : Type) where
  | ok (a : α) (S : Sto)
  | exc (C : Addr) (p : Pay) (S : Sto)
  | bad
@[reducible] def E3 := Loc → Sto → Rs D
@[reducible] def T3 := Loc → Sto → Rs Bool
@[reducible] def A3 := Loc → Sto → Rs (List D)
def Rs.bind {α β : Type} (r : Rs α) (f : α → Sto → Rs β) : Rs β :=
  match r with
  | .ok a S => f a S
  | .exc C p S => .exc C p S
  | .bad => .bad
@[simp] theorem Rs.bind_ok {α β : Type} (a : α) (S : Sto) (f : α → Sto → Rs β) : (Rs.ok a S).bind f = f a S := rfl
@[simp] theorem Rs.bind_exc {α β : Type} (C : Addr) (p : Pay) (S : Sto) (f : α → Sto → Rs β) : (Rs.exc C p S : Rs α).bind f = .exc C p S := rfl
@[simp] theorem Rs.bind_bad {α β : Type} (f : α → Sto → Rs β) : (Rs.bad : Rs α).bind f = .bad := rfl

/-! ### worlds: what never changes, and where the open objects stand -/
structure Wd where
  G : Hp
  am : List Addr
  /-- what a rule keeps to itself -/
  hs : List (Addr × HO)
structure Ext (w w' : Wd) : Prop where
  same : Same w.G w'.G
  pre : w.am <+: w'.am
  hid : w'.hs = w.hs
theorem Ext.refl (w : Wd) : Ext w w := ⟨Same.refl _, List.prefix_refl _, rfl⟩
theorem Ext.trans {u v w : Wd} (a : Ext u v) (b : Ext v w) : Ext u w := ⟨a.same.trans b.same, a.pre.trans b.pre, b.hid.trans a.hid⟩
theorem get_pre {α : Type} {l l' : List α} (h : l <+: l') {k : Nat} {a : α} (e : l[k]? = some a) : l'[k]? = some a := by
  obtain ⟨r, rfl⟩ := h
  obtain ⟨hk, _⟩ := List.getElem?_eq_some_iff.mp e
  rw [List.getElem?_append_left hk]
  exact e
structure Grow (w w' : Wd) : Prop where
  same : Same w.G w'.G
  pre : w.am <+: w'.am
theorem Ext.grow {w w' : Wd} (x : Ext w w') : Grow w w' := ⟨x.same, x.pre⟩
theorem Grow.trans {u v w : Wd} (a : Grow u v) (b : Grow v w) : Grow u w := ⟨a.same.trans b.same, a.pre.trans b.pre⟩
theorem Grow.at_ {w w' : Wd} (x : Grow w w') {k : Nat} {a : Addr} (e : w.am[k]? = some a) : w'.am[k]? = some a := get_pre x.pre e

theorem seqT {K : PySem.W.Frag} {H H' : Hp} {a : Addr} {xs : List V} (s : Same H H') (h : SqT K H a xs) : SqT K H' a xs := by
  rcases h with (h | ⟨o, h⟩) | h
  · exact .inl (.inl (s _ _ h))
  · exact .inl (.inr ⟨o, s _ _ h⟩)
  · exact .inr h

section
variable (K : PySem.W.Frag) (w : Wd)
mutual
inductive Rep : V → D → Prop
  | non : Rep .non .non
  | bl (b : Bool) : Rep (.bl b) (.bl b)
  | int (i : Int) : Rep (.int i) (.int i)
  | str (x : Str) : Rep (.str x) (.str x)
  | tup {a : Addr} {vs : List V} {ds : List D} : w.G a = some (.tup vs) → RepA vs ds → Rep (.ref a) (.tup ds)
  | wt {a : Addr} {vs : List V} {ds : List D} : SqT K w.G a vs → RepA vs ds → Rep (.ref a) (.wt ds)
  | lst {a : Addr} {vs : List V} {ds : List D} : w.G a = some (.lst vs) → RepA vs ds → Rep (.ref a) (.lst ds)
  | wl {a : Addr} {vs : List V} {ds : List D} : SqL K w.G a vs → RepA vs ds → Rep (.ref a) (.wl ds)
  | ref {a : Addr} {k : Nat} : w.am[k]? = some a → Rep (.ref a) (.ref k)
  | ty (n : String) : Rep (.ty n) (.ty n)
  | adr (a : Addr) : Rep (.ref a) (.adr a)
inductive RepA : List V → List D → Prop
  | nil : RepA [] []
  | cons {v : V} {d : D} {vs : List V} {ds : List D} : Rep v d → RepA vs ds → RepA (v :: vs) (d :: ds)
end
/-- named fields -/
def RepF : List (Str × V) → List (Str × D) → Prop
  | [], [] => True
  | (f, v) :: r, (g, d) :: r' => f = g ∧ Rep K w v d ∧ RepF r r'
  | _, _ => False
def ObRep (H : Hp) (a : Addr) : Ob → Prop
  | .lst ds => w.G a = none ∧ ∃ vs, H a = some (.lst vs) ∧ RepA K w vs ds
  | .ins C fs => w.G a = none ∧ ∃ dx fv, H a = some (.ins C dx fv) ∧ RepF K w fv fs
  | .frz ds => ∃ vs, w.G a = some (.lst vs) ∧ RepA K w vs ds
structure WRel (S : Sto) (H : Hp) : Prop where
  same : Same w.G H
  len : w.am.length = S.length
  nd : w.am.Nodup
  obs : ∀ (k : Nat) (a : Addr) (o : Ob), w.am[k]? = some a → S[k]? = some o → ObRep K w H a o
  hid : ∀ p ∈ w.hs, H p.1 = some p.2 ∧ w.G p.1 = none ∧ p.1 ∉ w.am
  hnd : (w.hs.map (·.1)).Nodup
def LRel : Loc → L2.St → Prop
  | [], [] => True
  | none :: r, _ :: r' => LRel r r'
  | some d :: r, some v :: r' => Rep K w v d ∧ LRel r r'
  | _, _ => False
def PayRep (H : Hp) : Pay → Option Addr → Prop
  | none, dx => dx = none
  | some fs, dx => ∃ d fv, dx = some d ∧ H d = some (.xd fv) ∧ RepF K w fv fs
end

section
variable {K : PySem.W.Frag} {w w' : Wd}
mutual
theorem Rep.monoG (x : Grow w w') : ∀ {d : D} {v : V}, Rep K w v d → Rep K w' v d
  | .non, _, h => by cases h; exact .non
  | .bl _, _, h => by cases h; exact .bl _
  | .int _, _, h => by cases h; exact .int _
  | .str _, _, h => by cases h; exact .str _
  | .tup _, _, h => by
    cases h with
    | tup h1 h2 => exact .tup (x.same _ _ h1) (RepA.monoG x h2)
  | .wt _, _, h => by
    cases h with
    | wt h1 h2 => exact .wt (seqT x.same h1) (RepA.monoG x h2)
  | .lst _, _, h => by
    cases h with
    | lst h1 h2 => exact .lst (x.same _ _ h1) (RepA.monoG x h2)
  | .wl _, _, h => by
    cases h with
    | wl h1 h2 => exact .wl (x.same.seq h1) (RepA.monoG x h2)
  | .ref _, _, h => by
    cases h with
    | ref e => exact .ref (x.at_ e)
  | .ty _, _, h => by cases h; exact .ty _
  | .adr _, _, h => by cases h; exact .adr _
theorem RepA.monoG (x : Grow w w') : ∀ {ds : List D} {vs : List V}, RepA K w vs ds → RepA K w' vs ds
  | [], _, h => by cases h; exact .nil
  | d :: ds, _, h => by
    cases h with
    | cons h1 h2 => exact .cons (Rep.monoG x h1) (RepA.monoG x h2)
end
theorem Rep.mono (x : Ext w w') {d : D} {v : V} (h : Rep K w v d) : Rep K w' v d := h.monoG x.grow
theorem RepA.mono (x : Ext w w') {ds : List D} {vs : List V} (h : RepA K w vs ds) : RepA K w' vs ds := h.monoG x.grow
theorem RepF.monoG (x : Grow w w') : ∀ {fv : List (Str × V)} {fs : List (Str × D)}, RepF K w fv fs → RepF K w' fv fs
  | [], [], _ => trivial
  | (_, _) :: _, (_, _) :: _, h => ⟨h.1, h.2.1.monoG x, RepF.monoG x h.2.2⟩
theorem RepF.mono (x : Ext w w') {fv : List (Str × V)} {fs : List (Str × D)} (h : RepF K w fv fs) : RepF K w' fv fs := h.monoG x.grow
theorem LRel.monoG (x : Grow w w') : ∀ {σ : Loc} {s : L2.St}, LRel K w σ s → LRel K w' σ s
  | [], [], _ => trivial
  | none :: σ, _ :: s, h => LRel.monoG (σ := σ) (s := s) x h
  | some _ :: _, some _ :: _, h => ⟨h.1.monoG x, LRel.monoG x h.2⟩
theorem LRel.mono (x : Ext w w') {σ : Loc} {s : L2.St} (h : LRel K w σ s) : LRel K w' σ s := h.monoG x.grow
/-! what is kept aside does not matter to values -/
mutual
theorem Rep.alike {u u' : Wd} (g : u'.G = u.G) (m : u'.am = u.am) : ∀ {d : D} {v : V}, Rep K u v d → Rep K u' v d
  | .non, _, h => by cases h; exact .non
  | .bl _, _, h => by cases h; exact .bl _
  | .int _, _, h => by cases h; exact .int _
  | .str _, _, h => by cases h; exact .str _
  | .tup _, _, h => by
    cases h with
    | tup h1 h2 => exact .tup (g ▸ h1) (RepA.alike g m h2)
  | .wt _, _, h => by
    cases h with
    | wt h1 h2 => exact .wt (g ▸ h1) (RepA.alike g m h2)
  | .lst _, _, h => by
    cases h with
    | lst h1 h2 => exact .lst (g ▸ h1) (RepA.alike g m h2)
  | .wl _, _, h => by
    cases h with
    | wl h1 h2 => exact .wl (g ▸ h1) (RepA.alike g m h2)
  | .ref _, _, h => by
    cases h with
    | ref e => exact .ref (m ▸ e)
  | .ty _, _, h => by cases h; exact .ty _
  | .adr _, _, h => by cases h; exact .adr _
theorem RepA.alike {u u' : Wd} (g : u'.G = u.G) (m : u'.am = u.am) : ∀ {ds : List D} {vs : List V}, RepA K u vs ds → RepA K u' vs ds
  | [], _, h => by cases h; exact .nil
  | d :: ds, _, h => by
    cases h with
    | cons h1 h2 => exact .cons (Rep.alike g m h1) (RepA.alike g m h2)
end
theorem RepF.alike {u u' : Wd} (g : u'.G = u.G) (m : u'.am = u.am) : ∀ {fv : List (Str × V)} {fs : List (Str × D)}, RepF K u fv fs → RepF K u' fv fs
  | [], [], _ => trivial
  | (_, _) :: _, (_, _) :: _, h => ⟨h.1, Rep.alike g m h.2.1, RepF.alike g m h.2.2⟩
theorem LRel.alike {u u' : Wd} (g : u'.G = u.G) (m : u'.am = u.am) : ∀ {σ : Loc} {s : L2.St}, LRel K u σ s → LRel K u' σ s
  | [], [], _ => trivial
  | none :: σ, _ :: s, h => LRel.alike (σ := σ) (s := s) g m h
  | some _ :: _, some _ :: _, h => ⟨Rep.alike g m h.1, LRel.alike g m h.2⟩
theorem RepA.length : ∀ {vs : List V} {ds : List D}, RepA K w vs ds → vs.length = ds.length
  | [], _, h => by cases h; rfl
  | _ :: _, _, h => by
    cases h with
    | cons _ h2 => simp [RepA.length h2]
theorem RepA.get : ∀ {vs : List V} {ds : List D} {i : Nat} {d : D}, RepA K w vs ds → ds[i]? = some d → ∃ v, vs[i]? = some v ∧ Rep K w v d
  | _, _, _, _, .nil, e => by simp at e
  | _, _, 0, _, .cons r _, e => by simp at e; subst e; exact ⟨_, rfl, r⟩
  | _, _, i + 1, d, .cons _ t, e => by
    obtain ⟨v, h1, h2⟩ := RepA.get (i := i) (d := d) t (by simpa using e)
    exact ⟨v, by simpa using h1, h2⟩
theorem RepA.append : ∀ {vs us : List V} {ds es : List D}, RepA K w vs ds → RepA K w us es → RepA K w (vs ++ us) (ds ++ es)
  | _, _, _, _, .nil, h => h
  | _, _, _, _, .cons r t, h => .cons r (t.append h)
theorem RepA.take : ∀ {vs : List V} {ds : List D} (n : Nat), RepA K w vs ds → RepA K w (vs.take n) (ds.take n)
  | _, _, 0, _ => .nil
  | _, _, _ + 1, .nil => .nil
  | _, _, n + 1, .cons r t => .cons r (t.take n)
theorem RepA.drop : ∀ {vs : List V} {ds : List D} (n : Nat), RepA K w vs ds → RepA K w (vs.drop n) (ds.drop n)
  | _, _, 0, h => h
  | _, _, _ + 1, .nil => .nil
  | _, _, n + 1, .cons _ t => t.drop n
theorem RepA.set {v : V} {d : D} (r : Rep K w v d) : ∀ {vs : List V} {ds : List D} (i : Nat), RepA K w vs ds → RepA K w (vs.set i v) (ds.set i d)
  | _, _, _, .nil => .nil
  | _, _, 0, .cons _ t => .cons r t
  | _, _, i + 1, .cons q t => .cons q (RepA.set r i t)
theorem RepA.rev {vs : List V} {ds : List D} (h : RepA K w vs ds) : RepA K w vs.reverse ds.reverse := by
  induction vs generalizing ds with
  | nil => cases h; exact .nil
  | cons v vs ih =>
    cases h with
    | cons r t => rw [List.reverse_cons, List.reverse_cons]; exact (ih t).append (.cons r .nil)
theorem LRel.get : ∀ {σ : Loc} {s : L2.St} {i : Nat} {d : D}, LRel K w σ s → σ[i]? = some (some d) → ∃ v, s[i]? = some (some v) ∧ Rep K w v d
  | [], _, _, _, _, e => by simp at e
  | none :: _, [], _, _, h, _ => (show False from h).elim
  | none :: _, _ :: _, 0, _, _, e => by simp at e
  | none :: σ, x :: s, i + 1, d, h, e => by
    obtain ⟨v, h1, h2⟩ := LRel.get (i := i) (show LRel K w σ s from h) (by simpa using e)
    exact ⟨v, by simpa using h1, h2⟩
  | some _ :: _, [], _, _, h, _ => (show False from h).elim
  | some _ :: _, none :: _, _, _, h, _ => (show False from h).elim
  | some x :: σ, some y :: s, 0, d, h, e => by
    have e' : x = d := by simpa using e
    subst e'
    exact ⟨y, rfl, h.1⟩
  | some _ :: σ, some _ :: s, i + 1, d, h, e => by
    obtain ⟨v, h1, h2⟩ := LRel.get (i := i) h.2 (by simpa using e)
    exact ⟨v, by simpa using h1, h2⟩
theorem LRel.set {v : V} {d : D} (r : Rep K w v d) : ∀ {σ : Loc} {s : L2.St} (i : Nat), LRel K w σ s → LRel K w (σ.set i (some d)) (s.set i (some v))
  | [], [], _, _ => trivial
  | [], _ :: _, _, h => (show False from h).elim
  | none :: _, [], _, h => (show False from h).elim
  | none :: σ, x :: s, 0, h => ⟨r, h⟩
  | none :: σ, x :: s, i + 1, h => show LRel K w (σ.set i _) (s.set i _) from LRel.set r i h
  | some _ :: _, [], _, h => (show False from h).elim
  | some _ :: _, none :: _, _, h => (show False from h).elim
  | some _ :: σ, some _ :: s, 0, h => ⟨r, h.2⟩
  | some _ :: σ, some _ :: s, i + 1, h => ⟨h.1, LRel.set r i h.2⟩
theorem LRel.wipe : ∀ {σ : Loc} {s : L2.St} (i : Nat), LRel K w σ s → LRel K w (σ.set i none) (s.set i none)
  | [], [], _, _ => trivial
  | [], _ :: _, _, h => (show False from h).elim
  | none :: _, [], _, h => (show False from h).elim
  | none :: σ, x :: s, 0, h => h
  | none :: σ, x :: s, i + 1, h => show LRel K w (σ.set i _) (s.set i _) from LRel.wipe i h
  | some _ :: _, [], _, h => (show False from h).elim
  | some _ :: _, none :: _, _, h => (show False from h).elim
  | some _ :: σ, some _ :: s, 0, h => h.2
  | some _ :: σ, some _ :: s, i + 1, h => ⟨h.1, LRel.wipe i h.2⟩
theorem LRel.start : ∀ {vs : List V} {ds : List D} (n : Nat), RepA K w vs ds → LRel K w (ds.map some ++ List.replicate n none) (vs.map some ++ List.replicate n none)
  | _, _, 0, .nil => trivial
  | _, _, n + 1, .nil => by
    show LRel K w (none :: List.replicate n none) (none :: List.replicate n none)
    exact LRel.start (vs := []) (ds := []) n .nil
  | _, _, n, .cons r t => ⟨r, LRel.start n t⟩
end

/-! ### what an outcome promises -/
section
variable (K : PySem.W.Frag) {α β : Type}
def Hold (W : WX) (sv : L2.St) (R : Wd → β → α → Prop) (w : Wd) (Q : β → Hp → Prop) : Rs α → Prop
  | .ok a S' => ∀ w' H' b, Ext w w' → WRel K w' S' H' → R w' b a → Q b H'
  | .exc C p S' => ∀ w' H' dx, Ext w w' → WRel K w' S' H' → PayRep K w' H' p dx → W (.ref C) dx sv H'
  | .bad => False
end
section
variable {K : PySem.W.Frag} {α β γ δ : Type} {W : WX} {sv : L2.St} {w w1 : Wd}
theorem Hold.mono {R : Wd → β → α → Prop} {Q : β → Hp → Prop} {r : Rs α} (h : Hold K W sv R w Q r) (x : Ext w w1) : Hold K W sv R w1 Q r := by
  cases r with
  | ok a S => exact fun w' H' b y => h w' H' b (x.trans y)
  | exc C p S => exact fun w' H' dx y => h w' H' dx (x.trans y)
  | bad => exact h
theorem Hold.imp {R : Wd → β → α → Prop} {Q Q' : β → Hp → Prop} {r : Rs α} (h : Hold K W sv R w Q r) (q : ∀ b H, Q b H → Q' b H) : Hold K W sv R w Q' r := by
  cases r with
  | ok a S => exact fun w' H' b y z t => q _ _ (h w' H' b y z t)
  | exc C p S => exact h
  | bad => exact h
/-- one step, then the rest -/
theorem Hold.step {R : Wd → β → α → Prop} {R' : Wd → δ → γ → Prop} {Q : δ → Hp → Prop} {Q1 : β → Hp → Prop} {r : Rs α} {k : α → Sto → Rs γ} (h : Hold K W sv R' w Q (r.bind k))
    (hk : ∀ a S1 w1 H1 b, Ext w w1 → WRel K w1 S1 H1 → R w1 b a → Hold K W sv R' w1 Q (k a S1) → Q1 b H1) : Hold K W sv R w Q1 r := by
  cases r with
  | ok a S => exact fun w' H' b y z t => hk a S w' H' b y z t (Hold.mono (r := k a S) h y)
  | exc C p S => exact h
  | bad => exact h
theorem Hold.at_ {R : Wd → β → α → Prop} {Q : β → Hp → Prop} {a : α} {S : Sto} {H : Hp} {b : β} (h : Hold K W sv R w Q (.ok a S)) (z : WRel K w S H) (t : R w b a) : Q b H := h w H b (Ext.refl w) z t
end

/-- the reading that a function of locals and open objects gives -/
def rd {α β : Type} (K : PySem.W.Frag) (W : WX) (R : Wd → β → α → Prop) (m : Loc → Sto → Rs α) (sv : L2.St) (H : Hp) (Q : β → Hp → Prop) : Prop :=
  ∃ w σ S, LRel K w σ sv ∧ WRel K w S H ∧ Hold K W sv R w Q (m σ S)
abbrev rdE (K : PySem.W.Frag) (W : WX) (m : E3) : TE := rd K W (Rep K) m
abbrev rdT (K : PySem.W.Frag) (W : WX) (m : T3) : TT := rd K W (fun _ (b : Bool) (a : Bool) => b = a) m
abbrev rdA (K : PySem.W.Frag) (W : WX) (m : A3) : TA := rd K W (RepA K) m
def PE3 (X : Cx) (W : WX) (e : Expr) (m : E3) : Prop := PE X e (rdE X.K W m)
def PT3 (X : Cx) (W : WX) (e : Expr) (m : T3) : Prop := PT X e (rdT X.K W m)
def PA3 (X : Cx) (W : WX) (es : List Expr) (m : A3) : Prop := PA X es (rdA X.K W m)

theorem PE.imp {X : Cx} {e : Expr} {t t' : TE} (h : PE X e t) (i : ∀ s H Q, t' s H Q → t s H Q) : PE X e t' := ⟨fun pins s σ H Q I q => h.run pins s σ H Q I (i _ _ _ q)⟩
theorem PT.imp {X : Cx} {e : Expr} {t t' : TT} (h : PT X e t) (i : ∀ s H Q, t' s H Q → t s H Q) : PT X e t' := ⟨fun pins s σ H Q I q => h.run pins s σ H Q I (i _ _ _ q)⟩
theorem PA.imp {X : Cx} {es : List Expr} {t t' : TA} (h : PA X es t) (i : ∀ s H Q, t' s H Q → t s H Q) : PA X es t' := ⟨fun pos pins s σ H Q I q => h.run pos pins s σ H Q I (i _ _ _ q)⟩
theorem PS.imp {X : Cx} {st : Stmt} {t t' : TS} (h : PS X st t) (i : ∀ D s H, t' D s H → t D s H) : PS X st t' := ⟨fun pins s σ H Q I q => h.run pins s σ H Q I (i _ _ _ q)⟩
theorem PSs.imp {X : Cx} {st : List Stmt} {t t' : TS} (h : PSs X st t) (i : ∀ D s H, t' D s H → t D s H) : PSs X st t' := ⟨fun pins s σ H Q I q => h.run pins s σ H Q I (i _ _ _ q)⟩

/-! ### names and constants -/
def mC (d : D) : E3 := fun _ S => .ok d S
def mVar (i : Nat) : E3 := fun σ S => match σ[i]? with
  | some (some d) => .ok d S
  | _ => .bad
section
variable {X : Cx} {W : WX} {pos : Pos}
theorem e_const {e : Expr} {v : V} {d : D} (h : PE X e (tC v)) (r : ∀ w, Rep X.K w v d) : PE3 X W e (mC d) :=
  PE.imp h fun sv H Q ⟨w, σ, S, l, z, q⟩ => q.at_ z (r w)
theorem e_int {i : Int} {j} : PE3 X W (.Constant (.int i) j pos) (mC (.int i)) := e_const pe_int fun _ => .int i
theorem e_bl {i : Bool} {j} : PE3 X W (.Constant (.bool i) j pos) (mC (.bl i)) := e_const pe_bl fun _ => .bl i
theorem e_str {i : Str} {j} : PE3 X W (.Constant (.str i) j pos) (mC (.str i)) := e_const pe_str fun _ => .str i
theorem e_non {j} : PE3 X W (.Constant .none j pos) (mC .non) := e_const pe_non fun _ => .non
theorem e_var (i : Nat) {x : Str} (h : PE X (.Name x pos) (tVar i)) : PE3 X W (.Name x pos) (mVar i) :=
  PE.imp h fun sv H Q ⟨w, σ, S, l, z, q⟩ => by
    unfold mVar at q
    cases e : σ[i]? with
    | none => rw [e] at q; exact False.elim q
    | some o =>
      cases o with
      | none => rw [e] at q; exact False.elim q
      | some d =>
        rw [e] at q
        obtain ⟨v, hv, r⟩ := l.get e
        exact ⟨v, hv, q.at_ z r⟩
end

/-! ### operators -/
/-- a two-place operation on deep values -/
abbrev O3 := D → D → Sto → Rs D
def OpS (K : PySem.W.Frag) (r : R2) (f : O3) : Prop :=
  ∀ (W : WX) (sv : L2.St) (w : Wd) (u v : V) (d e : D) (S : Sto) (H : Hp) (Q : VK), WRel K w S H → Rep K w u d → Rep K w v e → Hold K W sv (Rep K) w Q (f d e S) → r u v H Q
def mBin (f : O3) (a b : E3) : E3 := fun σ S => (a σ S).bind fun d S1 => (b σ S1).bind fun e S2 => f d e S2
section
variable {X : Cx} {W : WX} {pos : Pos} {a b : Expr} {ma mb : E3} {f : O3} {r : R2}
theorem bin3 (s : OpS X.K r f) (sv : L2.St) (H : Hp) (Q : VK) (h : rdE X.K W (mBin f ma mb) sv H Q) : tOp r (rdE X.K W ma) (rdE X.K W mb) sv H Q := by
  obtain ⟨w, σ, S, l, z, q⟩ := h
  refine ⟨w, σ, S, l, z, Hold.step q fun d S1 w1 H1 u x1 z1 r1 q1 => ?_⟩
  refine ⟨w1, σ, S1, l.mono x1, z1, Hold.step q1 fun e S2 w2 H2 v x2 z2 r2 q2 => ?_⟩
  exact s W sv w2 u v d e S2 H2 Q z2 (r1.mono x2) r2 q2
theorem e_bin {op : Operator} (o : OpR X (binaryOp op) r) (s : OpS X.K r f) (ha : PE3 X W a ma) (hb : PE3 X W b mb) : PE3 X W (.BinOp a op b pos) (mBin f ma mb) := PE.imp (pe_op o ha hb) fun sv H Q h => bin3 s sv H Q h
theorem e_cmp {op : CmpOp} (o : OpR X (compareOp op) r) (s : OpS X.K r f) (ha : PE3 X W a ma) (hb : PE3 X W b mb) (hm : behindInMarks op b = false) : PE3 X W (.Compare a [op] [b] pos) (mBin f ma mb) :=
  PE.imp (pe_cmpR o ha hb hm) fun sv H Q h => bin3 s sv H Q h
/-- an outcome's truth where it must be a bool -/
def asB (r : Rs D) : Rs Bool := r.bind fun d S => match d with
  | .bl b => .ok b S
  | _ => .bad
theorem Hold.asB {sv : L2.St} {w : Wd} {Q : Bool → Hp → Prop} {r : Rs D} (h : Hold X.K W sv (fun _ (b : Bool) (a : Bool) => b = a) w Q (asB r)) : Hold X.K W sv (Rep X.K) w (fun x H' => ∃ k, x = .bl k ∧ Q k H') r := by
  refine Hold.step h fun d S1 w1 H1 v x1 z1 r1 q1 => ?_
  cases d with
  | bl b => cases r1; exact ⟨b, rfl, q1.at_ z1 rfl⟩
  | _ => exact False.elim q1
theorem t_cmp {op : CmpOp} (o : OpR X (compareOp op) r) (s : OpS X.K r f) (ha : PE3 X W a ma) (hb : PE3 X W b mb) (hm : behindInMarks op b = false) : PT3 X W (.Compare a [op] [b] pos) (fun σ S => asB (mBin f ma mb σ S)) :=
  PT.imp (pt_cmpR o ha hb hm) fun sv H Q ⟨w, σ, S, l, z, q⟩ => bin3 s sv H _ ⟨w, σ, S, l, z, q.asB⟩
theorem t_val {e : Expr} {m : E3} (h : PE3 X W e m) (he : ∀ whole, isTrue e X.env whole = (do let v ← whole; standAt e.pos; holding [v] (truthy v)) := by intro _; rfl) : PT3 X W e (fun σ S => asB (m σ S)) :=
  PT.imp (pt_val h he) fun sv H Q ⟨w, σ, S, l, z, q⟩ => ⟨w, σ, S, l, z, q.asB⟩
end
/-- ints -/
def oI (g : Int → Int → D) : O3 := fun d e S => match d, e with
  | .int i, .int j => .ok (g i j) S
  | _, _ => .bad
def oIc (c : Int → Int → Bool) (g : Int → Int → D) : O3 := fun d e S => match d, e with
  | .int i, .int j => if c i j then .ok (g i j) S else .bad
  | _, _ => .bad
section
variable {K : PySem.W.Frag}
theorem oI_s {g : Int → Int → V} {g' : Int → Int → D} (h : ∀ i j w, Rep K w (g i j) (g' i j)) : OpS K (rI0 g) (oI g') := by
  intro W sv w u v d e S H Q z r1 r2 q
  cases d with
  | int i =>
    cases e with
    | int j => cases r1; cases r2; exact ⟨i, j, rfl, rfl, q.at_ z (h i j w)⟩
    | _ => exact False.elim q
  | _ => exact False.elim q
theorem oIc_s {C : Int → Int → Prop} {c : Int → Int → Bool} {g : Int → Int → V} {g' : Int → Int → D} (hc : ∀ i j, c i j = true → C i j) (h : ∀ i j w, Rep K w (g i j) (g' i j)) : OpS K (rI C g) (oIc c g') := by
  intro W sv w u v d e S H Q z r1 r2 q
  cases d with
  | int i =>
    cases e with
    | int j =>
      cases r1; cases r2
      have q' : Hold K W sv (Rep K) w Q (if c i j then .ok (g' i j) S else .bad) := q
      by_cases k : c i j = true
      · rw [if_pos k] at q'
        exact ⟨i, j, rfl, rfl, hc i j k, q'.at_ z (h i j w)⟩
      · rw [if_neg k] at q'
        exact False.elim q'
    | _ => exact False.elim q
  | _ => exact False.elim q
end
def oAdd : O3 := oI fun i j => .int (i + j)
def oSub : O3 := oI fun i j => .int (i - j)
def oMul : O3 := oIc (fun i j => (decide (-(2 ^ 64) < i) && decide (i < 2 ^ 64)) || (decide (-(2 ^ 64) < j) && decide (j < 2 ^ 64))) fun i j => .int (i * j)
def oMod : O3 := oIc (fun _ j => decide (0 < j)) fun i j => .int (i % j)
def oDiv : O3 := oIc (fun _ j => decide (0 < j) && decide (j < 1073741824)) fun i j => .int (i / j)
def oPow : O3 := oIc (fun i j => decide (0 ≤ j) && decide (j ≤ 1000000) && decide (i.natAbs < 2 ^ 64)) fun i j => .int (i ^ j.toNat)
def oLt : O3 := oI fun i j => .bl (decide (i < j))
def oLe : O3 := oI fun i j => .bl (decide (i ≤ j))
def oGt : O3 := oI fun i j => .bl (decide (j < i))
def oGe : O3 := oI fun i j => .bl (decide (j ≤ i))
section
variable {K : PySem.W.Frag}
theorem oAdd_s : OpS K (rI0 fun i j => .int (i + j)) oAdd := oI_s fun _ _ _ => .int _
theorem oSub_s : OpS K (rI0 fun i j => .int (i - j)) oSub := oI_s fun _ _ _ => .int _
theorem oMul_s : OpS K (rI CMul fun i j => .int (i * j)) oMul := oIc_s (fun i j h => by simp only [Bool.or_eq_true, Bool.and_eq_true, decide_eq_true_eq] at h; exact h) fun _ _ _ => .int _
theorem oMod_s : OpS K (rI (fun _ j => 0 < j) fun i j => .int (i % j)) oMod := oIc_s (fun i j h => of_decide_eq_true h) fun _ _ _ => .int _
theorem oDiv_s : OpS K (rI CDiv fun i j => .int (i / j)) oDiv := oIc_s (fun i j h => by simp only [Bool.and_eq_true, decide_eq_true_eq] at h; exact h) fun _ _ _ => .int _
theorem oPow_s : OpS K (rI CPow fun i j => .int (i ^ j.toNat)) oPow := oIc_s (fun i j h => by simp only [Bool.and_eq_true, decide_eq_true_eq] at h; exact ⟨h.1.1, h.1.2, h.2⟩) fun _ _ _ => .int _
theorem oLt_s : OpS K (rI0 fun i j => .bl (decide (i < j))) oLt := oI_s fun _ _ _ => .bl _
theorem oLe_s : OpS K (rI0 fun i j => .bl (decide (i ≤ j))) oLe := oI_s fun _ _ _ => .bl _
theorem oGt_s : OpS K (rI0 fun i j => .bl (decide (j < i))) oGt := oI_s fun _ _ _ => .bl _
theorem oGe_s : OpS K (rI0 fun i j => .bl (decide (j ≤ i))) oGe := oI_s fun _ _ _ => .bl _
end
end DL
end

section
set_option Elab.async false
set_option linter.all false
set_option maxRecDepth 100000
set_option maxHeartbeats 4000000
namespace DL
open PySem PySem.Spec PyProof.Rows L2

/-! ### what a new object, a written object leaves -/
section
variable {K : PySem.W.Frag} {w : Wd} {S : Sto} {H : Hp} {p : Addr}
def Wd.put (w : Wd) (p : Addr) (o : HO) : Wd := ⟨upd w.G p o, w.am, w.hs⟩
def Wd.more (w : Wd) (p : Addr) : Wd := ⟨w.G, w.am ++ [p], w.hs⟩
theorem WRel.gfree (z : WRel K w S H) (n : H p = none) : w.G p = none := z.same.free n
theorem WRel.ext_put (z : WRel K w S H) (n : H p = none) (o : HO) : Ext w (w.put p o) :=
  ⟨fun b u e => by show upd w.G p o b = _; rw [upd_ne (ne_of_none e (z.gfree n))]; exact e, List.prefix_refl _, rfl⟩
theorem ObRep.held {a : Addr} {o : Ob} (r : ObRep K w H a o) (s : Same w.G H) : ∃ u, H a = some u := by
  cases o with
  | lst ds => obtain ⟨_, vs, e, _⟩ := r; exact ⟨_, e⟩
  | ins C fs => obtain ⟨_, dx, fv, e, _⟩ := r; exact ⟨_, e⟩
  | frz ds => obtain ⟨vs, e, _⟩ := r; exact ⟨_, s _ _ e⟩
theorem ObRep.stay {w' : Wd} {H' : Hp} {a : Addr} {o : Ob} (r : ObRep K w H a o) (x : Ext w w') (g : w.G a = none → w'.G a = none) (k : ∀ u, H a = some u → H' a = some u) : ObRep K w' H' a o := by
  cases o with
  | lst ds => obtain ⟨n, vs, e, q⟩ := r; exact ⟨g n, vs, k _ e, q.mono x⟩
  | ins C fs => obtain ⟨n, dx, fv, e, q⟩ := r; exact ⟨g n, dx, fv, k _ e, q.mono x⟩
  | frz ds => obtain ⟨vs, e, q⟩ := r; exact ⟨vs, x.same _ _ e, q.mono x⟩
theorem WRel.there (z : WRel K w S H) {k : Nat} {a : Addr} (e : w.am[k]? = some a) : ∃ o u, S[k]? = some o ∧ ObRep K w H a o ∧ H a = some u := by
  have hk : k < S.length := by rw [← z.len]; exact (List.getElem?_eq_some_iff.mp e).1
  have r := z.obs k a S[k] e (List.getElem?_eq_getElem hk)
  obtain ⟨u, hu⟩ := r.held z.same
  exact ⟨_, u, List.getElem?_eq_getElem hk, r, hu⟩
theorem WRel.out (z : WRel K w S H) (n : H p = none) : p ∉ w.am := fun hm => by
  obtain ⟨k, e⟩ := List.getElem?_of_mem hm
  obtain ⟨_, u, _, _, h⟩ := z.there e
  rw [n] at h; cases h
/-- a new thing that never changes -/
theorem WRel.put (z : WRel K w S H) (n : H p = none) (o : HO) : WRel K (w.put p o) S (upd H p o) where
  same := fun b u e => by
    by_cases hb : b = p
    · subst hb
      have e' : upd w.G b o b = some u := e
      rw [upd_same] at e' ⊢; exact e'
    · have e' : upd w.G p o b = some u := e
      rw [upd_ne hb] at e' ⊢; exact z.same _ _ e'
  len := z.len
  nd := z.nd
  obs := fun k a ob e1 e2 => by
    have ha : a ≠ p := fun q => z.out n (q ▸ List.mem_of_getElem? e1)
    refine (z.obs k a ob e1 e2).stay (z.ext_put n o) (fun g => ?_) fun u e => by rw [upd_ne ha]; exact e
    show upd w.G p o a = none
    rw [upd_ne ha]; exact g
  hid := fun q hq => by
    obtain ⟨e, g, m⟩ := z.hid q hq
    have hp := ne_of_none e n
    exact ⟨by rw [upd_ne hp]; exact e, by show upd w.G p o q.1 = none; rw [upd_ne hp]; exact g, m⟩
  hnd := z.hnd
theorem Wd.ext_more (w : Wd) (p : Addr) : Ext w (w.more p) := ⟨Same.refl _, List.prefix_append _ _, rfl⟩
/-- a new open object -/
theorem WRel.more (z : WRel K w S H) (n : H p = none) {o : HO} {ob : Ob} (r : ∀ w', Ext w w' → w'.G = w.G → ObRep K w' (upd H p o) p ob) : WRel K (w.more p) (S ++ [ob]) (upd H p o) where
  same := fun b u e => by rw [upd_ne (ne_of_none e (z.gfree n))]; exact z.same _ _ e
  len := by show (w.am ++ [p]).length = _; rw [List.length_append, List.length_append, z.len]; rfl
  nd := by
    refine List.nodup_append.mpr ⟨z.nd, by simp, fun a ha b hb => ?_⟩
    have e : b = p := by simpa using hb
    intro q
    subst q; subst e
    exact z.out n ha
  obs := fun k a ob' e1 e2 => by
    have e1' : (w.am ++ [p])[k]? = some a := e1
    by_cases hk : k < w.am.length
    · rw [List.getElem?_append_left hk] at e1'
      rw [List.getElem?_append_left (by rw [← z.len]; exact hk)] at e2
      have ha : a ≠ p := fun q => z.out n (q ▸ List.mem_of_getElem? e1')
      exact (z.obs k a ob' e1' e2).stay (w.ext_more p) (fun g => g) fun u e => by rw [upd_ne ha]; exact e
    · have hk' : k = w.am.length := by
        have := (List.getElem?_eq_some_iff.mp e1').1
        rw [List.length_append] at this
        simp only [List.length_cons, List.length_nil] at this
        omega
      subst hk'
      rw [List.getElem?_append_right (Nat.le_refl _), Nat.sub_self] at e1'
      rw [z.len, List.getElem?_append_right (Nat.le_refl _), Nat.sub_self] at e2
      have e3 : p = a := by simpa using e1'
      have e4 : ob = ob' := by simpa using e2
      subst e3; subst e4
      exact r (w.more p) (w.ext_more p) rfl
  hid := fun q hq => by
    obtain ⟨e, g, m⟩ := z.hid q hq
    have hp := ne_of_none e n
    refine ⟨by rw [upd_ne hp]; exact e, g, fun hm => ?_⟩
    rcases List.mem_append.mp hm with hm | hm
    · exact m hm
    · exact hp (by simpa using hm)
  hnd := z.hnd
/-- an open object is written -/
theorem WRel.write (z : WRel K w S H) {k : Nat} {a : Addr} (ha : w.am[k]? = some a) (g : w.G a = none) {o : HO} {ob : Ob} (r : ObRep K w (upd H a o) a ob) : WRel K w (S.set k ob) (upd H a o) where
  same := fun b u e => by rw [upd_ne (fun q => by subst q; rw [g] at e; cases e)]; exact z.same _ _ e
  len := by rw [List.length_set]; exact z.len
  nd := z.nd
  obs := fun j b ob' e1 e2 => by
    by_cases hj : j = k
    · subst hj
      rw [ha] at e1
      have e3 : a = b := Option.some.inj e1
      subst e3
      rw [List.getElem?_set_self (by rw [← z.len]; exact (List.getElem?_eq_some_iff.mp ha).1)] at e2
      have e4 : ob = ob' := Option.some.inj e2
      subst e4
      exact r
    · rw [List.getElem?_set_ne (Ne.symm hj)] at e2
      have hb : b ≠ a := fun q => by
        subst q
        exact hj (nd_ix z.nd e1 ha)
      exact (z.obs j b ob' e1 e2).stay (Ext.refl w) (fun x => x) fun u e => by rw [upd_ne hb]; exact e
  hid := fun q hq => by
    obtain ⟨e, g', m⟩ := z.hid q hq
    have hp : q.1 ≠ a := fun h => m (h ▸ List.mem_of_getElem? ha)
    exact ⟨by rw [upd_ne hp]; exact e, g', m⟩
  hnd := z.hnd
/-- a new object that is kept aside -/
def Wd.hide (w : Wd) (p : Addr) (o : HO) : Wd := ⟨w.G, w.am, (p, o) :: w.hs⟩
theorem WRel.hide (z : WRel K w S H) (n : H p = none) (o : HO) : WRel K (w.hide p o) S (upd H p o) where
  same := fun b u e => by rw [upd_ne (ne_of_none e (z.gfree n))]; exact z.same _ _ e
  len := z.len
  nd := z.nd
  obs := fun k a ob e1 e2 => by
    have ha : a ≠ p := fun q => z.out n (q ▸ List.mem_of_getElem? e1)
    have r := z.obs k a ob e1 e2
    cases ob with
    | lst ds => obtain ⟨g, vs, e, q⟩ := r; exact ⟨g, vs, by rw [upd_ne ha]; exact e, RepA.alike (u := w) (u' := w.hide p o) rfl rfl q⟩
    | ins C fs => obtain ⟨g, dx, fv, e, q⟩ := r; exact ⟨g, dx, fv, by rw [upd_ne ha]; exact e, RepF.alike (u := w) (u' := w.hide p o) rfl rfl q⟩
    | frz ds => obtain ⟨vs, e, q⟩ := r; exact ⟨vs, e, RepA.alike (u := w) (u' := w.hide p o) rfl rfl q⟩
  hid := fun q hq => by
    rcases List.mem_cons.mp hq with e | hq
    · subst e
      exact ⟨upd_same, z.gfree n, z.out n⟩
    · obtain ⟨e, g, m⟩ := z.hid q hq
      exact ⟨by rw [upd_ne (ne_of_none e n)]; exact e, g, m⟩
  hnd := by
    show (p :: w.hs.map (·.1)).Nodup
    refine List.nodup_cons.mpr ⟨fun hm => ?_, z.hnd⟩
    obtain ⟨q, hq, e⟩ := List.mem_map.mp hm
    have h := (z.hid q hq).1
    rw [e, n] at h; cases h
/-- what is kept aside is written -/
theorem WRel.rehide {l : List (Addr × HO)} {o o' : HO} (z : WRel K w S H) (e : w.hs = (p, o) :: l) : WRel K ⟨w.G, w.am, (p, o') :: l⟩ S (upd H p o') where
  same := fun b u h => by
    obtain ⟨_, g, _⟩ := z.hid (p, o) (by rw [e]; exact List.mem_cons_self)
    rw [upd_ne (fun q => by subst q; have h' : w.G b = some u := h; rw [show w.G b = none from g] at h'; cases h')]
    exact z.same _ _ h
  len := z.len
  nd := z.nd
  obs := fun k a ob e1 e2 => by
    obtain ⟨_, _, m⟩ := z.hid (p, o) (by rw [e]; exact List.mem_cons_self)
    have ha : a ≠ p := fun q => m (q ▸ List.mem_of_getElem? e1)
    have r := z.obs k a ob e1 e2
    cases ob with
    | lst ds => obtain ⟨g, vs, h, q⟩ := r; exact ⟨g, vs, by rw [upd_ne ha]; exact h, RepA.alike (u := w) (u' := ⟨w.G, w.am, (p, o') :: l⟩) rfl rfl q⟩
    | ins C fs => obtain ⟨g, dx, fv, h, q⟩ := r; exact ⟨g, dx, fv, by rw [upd_ne ha]; exact h, RepF.alike (u := w) (u' := ⟨w.G, w.am, (p, o') :: l⟩) rfl rfl q⟩
    | frz ds => obtain ⟨vs, h, q⟩ := r; exact ⟨vs, h, RepA.alike (u := w) (u' := ⟨w.G, w.am, (p, o') :: l⟩) rfl rfl q⟩
  hid := fun q hq => by
    have nd := z.hnd
    rw [e, List.map_cons, List.nodup_cons] at nd
    rcases List.mem_cons.mp hq with h | hq
    · subst h
      obtain ⟨_, g, m⟩ := z.hid (p, o) (by rw [e]; exact List.mem_cons_self)
      exact ⟨upd_same, g, m⟩
    · obtain ⟨h, g, m⟩ := z.hid q (by rw [e]; exact List.mem_cons_of_mem _ hq)
      have hp : q.1 ≠ p := fun h' => nd.1 (by rw [← h']; exact List.mem_map_of_mem (f := (·.1)) hq)
      exact ⟨by rw [upd_ne hp]; exact h, g, m⟩
  hnd := by
    have nd := z.hnd
    rw [e] at nd
    exact nd
/-- what was kept aside never changes from now on -/
theorem WRel.show_ {l : List (Addr × HO)} {o : HO} (z : WRel K w S H) (e : w.hs = (p, o) :: l) : WRel K ⟨upd w.G p o, w.am, l⟩ S H ∧ Grow w ⟨upd w.G p o, w.am, l⟩ := by
  obtain ⟨h0, g0, m0⟩ := z.hid (p, o) (by rw [e]; exact List.mem_cons_self)
  have x : Grow w ⟨upd w.G p o, w.am, l⟩ := ⟨fun b u h => by
    show upd w.G p o b = _
    rw [upd_ne (fun q => by subst q; rw [show w.G b = none from g0] at h; cases h)]
    exact h, List.prefix_refl _⟩
  refine ⟨⟨fun b u h => ?_, z.len, z.nd, fun k a ob e1 e2 => ?_, fun q hq => ?_, ?_⟩, x⟩
  · have h' : upd w.G p o b = some u := h
    by_cases hb : b = p
    · subst hb; rw [upd_same] at h'; cases h'; exact h0
    · rw [upd_ne hb] at h'; exact z.same _ _ h'
  · have ha : a ≠ p := fun q => m0 (q ▸ List.mem_of_getElem? e1)
    have r := z.obs k a ob e1 e2
    have gg : w.G a = none → upd w.G p o a = none := fun h => by rw [upd_ne ha]; exact h
    cases ob with
    | lst ds => obtain ⟨g, vs, h, q⟩ := r; exact ⟨gg g, vs, h, q.monoG x⟩
    | ins C fs => obtain ⟨g, dx, fv, h, q⟩ := r; exact ⟨gg g, dx, fv, h, RepF.monoG x q⟩
    | frz ds => obtain ⟨vs, h, q⟩ := r; exact ⟨vs, x.same _ _ h, q.monoG x⟩
  · have nd := z.hnd
    rw [e, List.map_cons, List.nodup_cons] at nd
    obtain ⟨h, g, m⟩ := z.hid q (by rw [e]; exact List.mem_cons_of_mem _ hq)
    have hp : q.1 ≠ p := fun h' => nd.1 (by rw [← h']; exact List.mem_map_of_mem (f := (·.1)) hq)
    exact ⟨h, by show upd w.G p o q.1 = none; rw [upd_ne hp]; exact g, m⟩
  · have nd := z.hnd
    rw [e, List.map_cons, List.nodup_cons] at nd
    exact nd.2
/-- what was kept aside is an open list from now on -/
theorem WRel.open_ {l : List (Addr × HO)} {vs : List V} {xs : List D} (z : WRel K w S H) (e : w.hs = (p, .lst vs) :: l) (r : RepA K w vs xs) : WRel K ⟨w.G, w.am ++ [p], l⟩ (S ++ [.lst xs]) H ∧ Grow w ⟨w.G, w.am ++ [p], l⟩ := by
  obtain ⟨h0, g0, m0⟩ := z.hid (p, .lst vs) (by rw [e]; exact List.mem_cons_self)
  have x : Grow w ⟨w.G, w.am ++ [p], l⟩ := ⟨Same.refl _, List.prefix_append _ _⟩
  have nd := z.hnd
  rw [e, List.map_cons, List.nodup_cons] at nd
  refine ⟨⟨z.same, ?_, ?_, fun k a ob e1 e2 => ?_, fun q hq => ?_, nd.2⟩, x⟩
  · show (w.am ++ [p]).length = _
    rw [List.length_append, List.length_append, z.len]; rfl
  · refine List.nodup_append.mpr ⟨z.nd, by simp, fun a ha b hb => ?_⟩
    have e : b = p := by simpa using hb
    intro q
    subst q; subst e
    exact m0 ha
  · have e1' : (w.am ++ [p])[k]? = some a := e1
    by_cases hk : k < w.am.length
    · rw [List.getElem?_append_left hk] at e1'
      rw [List.getElem?_append_left (by rw [← z.len]; exact hk)] at e2
      have q := z.obs k a ob e1' e2
      cases ob with
      | lst ds => obtain ⟨g, vs, h, q⟩ := q; exact ⟨g, vs, h, q.monoG x⟩
      | ins C fs => obtain ⟨g, dx, fv, h, q⟩ := q; exact ⟨g, dx, fv, h, RepF.monoG x q⟩
      | frz ds => obtain ⟨vs, h, q⟩ := q; exact ⟨vs, h, q.monoG x⟩
    · have hk' : k = w.am.length := by
        have := (List.getElem?_eq_some_iff.mp e1').1
        rw [List.length_append] at this
        simp only [List.length_cons, List.length_nil] at this
        omega
      subst hk'
      rw [List.getElem?_append_right (Nat.le_refl _), Nat.sub_self] at e1'
      rw [z.len, List.getElem?_append_right (Nat.le_refl _), Nat.sub_self] at e2
      have e3 : p = a := by simpa using e1'
      have e4 : Ob.lst xs = ob := by simpa using e2
      subst e3; subst e4
      exact ⟨g0, vs, h0, r.monoG x⟩
  · obtain ⟨h, g, m⟩ := z.hid q (by rw [e]; exact List.mem_cons_of_mem _ hq)
    have hp : q.1 ≠ p := fun h' => nd.1 (by rw [← h']; exact List.mem_map_of_mem (f := (·.1)) hq)
    refine ⟨h, g, fun hm => ?_⟩
    rcases List.mem_append.mp hm with hm | hm
    · exact m hm
    · exact hp (by simpa using hm)
end

/-! ### reading sequences -/
def itemsOf (S : Sto) : D → Option (List D)
  | .tup xs => some xs
  | .lst xs => some xs
  | .wl xs => some xs
  | .wt xs => some xs
  | .ref k => match S[k]? with
    | some (.lst xs) => some xs
    | some (.frz xs) => some xs
    | _ => none
  | _ => none
section
variable {K : PySem.W.Frag} {w : Wd} {S : Sto} {H : Hp} {v : V} {d : D}
theorem itemsOf_at (z : WRel K w S H) (r : Rep K w v d) {xs : List D} (e : itemsOf S d = some xs) : ∃ a vs, v = .ref a ∧ RepA K w vs xs ∧ (SqL K H a vs ∨ SqT K H a vs) := by
  cases d with
  | tup ys =>
    cases r with
    | tup h1 h2 => cases e; exact ⟨_, _, rfl, h2, .inr (SqT.of (z.same _ _ h1))⟩
  | wt ys =>
    cases r with
    | wt h1 h2 => cases e; exact ⟨_, _, rfl, h2, .inr (seqT z.same h1)⟩
  | lst ys =>
    cases r with
    | lst h1 h2 => cases e; exact ⟨_, _, rfl, h2, .inl (SqL.of (z.same _ _ h1))⟩
  | wl ys =>
    cases r with
    | wl h1 h2 => cases e; exact ⟨_, _, rfl, h2, .inl (z.same.seq h1)⟩
  | ref k =>
    cases r with
    | ref h1 =>
      obtain ⟨o, u, e1, q, _⟩ := z.there h1
      have e' : (match S[k]? with
        | some (.lst xs) => some xs
        | some (.frz xs) => some xs
        | _ => none) = some xs := e
      rw [e1] at e'
      cases o with
      | lst zs =>
        cases e'
        obtain ⟨_, vs, e2, q⟩ := q
        exact ⟨_, vs, rfl, q, .inl (SqL.of e2)⟩
      | frz zs =>
        cases e'
        obtain ⟨vs, e2, q⟩ := q
        exact ⟨_, vs, rfl, q, .inl (SqL.of (z.same _ _ e2))⟩
      | ins C fs => cases e'
  | _ => cases e
theorem RepA.atI : ∀ {vs : List V} {ds : List D} {i : Int} {d : D}, RepA K w vs ds → L2.atI ds i = some d → ∃ v, L2.atI vs i = some v ∧ Rep K w v d := by
  intro vs ds i d h e
  unfold L2.atI at e ⊢
  rw [h.length]
  cases q : ixN ds.length i with
  | none => rw [q] at e; cases e
  | some j =>
    rw [q] at e
    exact h.get e
end
def oIx : O3 := fun d e S => match e with
  | .int i => match d with
    | .str z => if z.length ≤ sizeLine then (match L2.atI z.cps.toList i with
      | some c => .ok (.str ⟨#[c]⟩) S
      | none => .bad) else .bad
    | _ => match itemsOf S d with
      | some xs => (match L2.atI xs i with
        | some y => .ok y S
        | none => .bad)
      | none => .bad
  | _ => .bad
theorem oIx_s {K : PySem.W.Frag} : OpS K (rIx K) oIx := by
  intro W sv w u v d e S H Q z r1 r2 q
  cases e with
  | int i =>
    cases r2
    have seq : ∀ xs, itemsOf S d = some xs → (match L2.atI xs i with
        | some y => Hold K W sv (Rep K) w Q (.ok y S)
        | none => False) → rIx K u (.int i) H Q := fun xs he hq => by
      obtain ⟨a, vs, rfl, ra, hs⟩ := itemsOf_at z r1 he
      cases ey : L2.atI xs i with
      | none => rw [ey] at hq; exact hq.elim
      | some y =>
        rw [ey] at hq
        obtain ⟨x, ex, rx⟩ := ra.atI ey
        rcases hs with hs | hs
        · exact .inl ⟨a, vs, i, x, rfl, rfl, hs, ex, Hold.at_ hq z rx⟩
        · exact .inr (.inl ⟨a, vs, i, x, rfl, rfl, hs, ex, Hold.at_ hq z rx⟩)
    have gen : (∀ x, d ≠ .str x) → rIx K u (.int i) H Q := fun hd => by
      have q' : Hold K W sv (Rep K) w Q (match itemsOf S d with
        | some xs => (match L2.atI xs i with
          | some y => .ok y S
          | none => .bad)
        | none => .bad) := by
        cases d with
        | str x => exact absurd rfl (hd x)
        | _ => exact q
      cases he : itemsOf S d with
      | none => rw [he] at q'; exact False.elim q'
      | some xs =>
        refine seq xs he ?_
        rw [he] at q'
        cases ey : L2.atI xs i with
        | none => simp only [ey] at q'; exact False.elim q'
        | some y => simp only [ey] at q'; exact q'
    cases d with
    | str x =>
      cases r1
      have q' : Hold K W sv (Rep K) w Q (if x.length ≤ sizeLine then (match L2.atI x.cps.toList i with
        | some c => .ok (.str ⟨#[c]⟩) S
        | none => .bad) else .bad) := q
      by_cases hx : x.length ≤ sizeLine
      · rw [if_pos hx] at q'
        cases ec : L2.atI x.cps.toList i with
        | none => rw [ec] at q'; exact False.elim q'
        | some c =>
          rw [ec] at q'
          exact .inr (.inr ⟨x, i, c, rfl, rfl, hx, ec, Hold.at_ q' z (.str _)⟩)
      · rw [if_neg hx] at q'; exact False.elim q'
    | _ => exact gen fun x e => by cases e
  | _ => exact False.elim q
section
variable {X : Cx} {W : WX} {pos : Pos} {a b : Expr} {ma mb : E3}
theorem e_ix (ha : PE3 X W a ma) (hb : PE3 X W b mb) (hs : PlainIx b := by exact fun _ _ => rfl) : PE3 X W (.Subscript a b pos) (mBin oIx ma mb) := PE.imp (pe_ix ix_seq ha hb hs) fun sv H Q h => bin3 oIx_s sv H Q h

/-! ### argument lists, displays -/
def mNil : A3 := fun _ S => .ok [] S
def mCons (a : E3) (r : A3) : A3 := fun σ S => (a σ S).bind fun d S1 => (r σ S1).bind fun ds S2 => .ok (d :: ds) S2
theorem a_nil : PA3 X W [] mNil := PA.imp pa_nil fun sv H Q ⟨w, σ, S, l, z, q⟩ => q.at_ z .nil
theorem a_cons {e : Expr} {es : List Expr} {m : E3} {ms : A3} (he : PE3 X W e m) (hr : PA3 X W es ms) (hs : starEach (e :: es) X.env = (false, eval e X.env) :: starEach es X.env := by rfl) : PA3 X W (e :: es) (mCons m ms) :=
  PA.imp (pa_cons he hr hs) fun sv H Q ⟨w, σ, S, l, z, q⟩ => ⟨w, σ, S, l, z, Hold.step q fun d S1 w1 H1 u x1 z1 r1 q1 => ⟨w1, σ, S1, l.mono x1, z1, Hold.step q1 fun ds S2 w2 H2 us x2 z2 r2 q2 => q2.at_ z2 (.cons (r1.mono x2) r2)⟩⟩
end
def sizeOk (n : Nat) : Bool := decide (n ≤ sizeLine)
def mkTup (ds : List D) (S : Sto) : Rs D := if sizeOk ds.length then .ok (.tup ds) S else .bad
def mkLst (ds : List D) (S : Sto) : Rs D := if sizeOk ds.length then .ok (.lst ds) S else .bad
def mkOpen (ds : List D) (S : Sto) : Rs D := if sizeOk ds.length then .ok (.ref S.length) (S ++ [.lst ds]) else .bad
section
variable {K : PySem.W.Frag} {w : Wd} {S : Sto} {H : Hp} {W : WX} {sv : L2.St} {vs : List V} {ds : List D} {Q : VK}
theorem mkTup_s (h : Hold K W sv (Rep K) w Q (mkTup ds S)) (z : WRel K w S H) (r : RepA K w vs ds) : vs.length ≤ sizeLine ∧ ∀ p, H p = none → Q (.ref p) (upd H p (.tup vs)) := by
  unfold mkTup at h
  by_cases hz : sizeOk ds.length = true
  · rw [if_pos hz] at h
    exact ⟨by rw [r.length]; exact of_decide_eq_true hz, fun p n => h _ _ _ (z.ext_put n _) (z.put n _) (.tup upd_same (r.mono (z.ext_put n _)))⟩
  · rw [if_neg hz] at h; exact False.elim h
theorem mkLst_s (h : Hold K W sv (Rep K) w Q (mkLst ds S)) (z : WRel K w S H) (r : RepA K w vs ds) : vs.length ≤ sizeLine ∧ ∀ p, H p = none → Q (.ref p) (upd H p (.lst vs)) := by
  unfold mkLst at h
  by_cases hz : sizeOk ds.length = true
  · rw [if_pos hz] at h
    exact ⟨by rw [r.length]; exact of_decide_eq_true hz, fun p n => h _ _ _ (z.ext_put n _) (z.put n _) (.lst upd_same (r.mono (z.ext_put n _)))⟩
  · rw [if_neg hz] at h; exact False.elim h
theorem mkOpen_s (h : Hold K W sv (Rep K) w Q (mkOpen ds S)) (z : WRel K w S H) (r : RepA K w vs ds) : vs.length ≤ sizeLine ∧ ∀ p, H p = none → Q (.ref p) (upd H p (.lst vs)) := by
  unfold mkOpen at h
  by_cases hz : sizeOk ds.length = true
  · rw [if_pos hz] at h
    refine ⟨by rw [r.length]; exact of_decide_eq_true hz, fun p n => h _ _ _ (w.ext_more p) (z.more n fun w' x g => ⟨by rw [g]; exact z.gfree n, vs, upd_same, r.mono x⟩) (.ref ?_)⟩
    show (w.am ++ [p])[S.length]? = some p
    rw [← z.len, List.getElem?_append_right (Nat.le_refl _), Nat.sub_self]
    rfl
  · rw [if_neg hz] at h; exact False.elim h
end
def mMake (f : List D → Sto → Rs D) (a : A3) : E3 := fun σ S => (a σ S).bind f
section
variable {X : Cx} {W : WX} {pos : Pos} {es : List Expr} {ms : A3}
theorem e_tup {k : Nat} (h : PA3 X W es ms) : PE3 X W (.Tuple es k pos) (mMake mkTup ms) :=
  PE.imp (pe_tup h) fun sv H Q ⟨w, σ, S, l, z, q⟩ => ⟨w, σ, S, l, z, Hold.step q fun ds S1 w1 H1 vs x1 z1 r1 q1 => mkTup_s q1 z1 r1⟩
theorem e_lst (h : PA3 X W es ms) : PE3 X W (.List es pos) (mMake mkLst ms) :=
  PE.imp (pe_lst h) fun sv H Q ⟨w, σ, S, l, z, q⟩ => ⟨w, σ, S, l, z, Hold.step q fun ds S1 w1 H1 vs x1 z1 r1 q1 => mkLst_s q1 z1 r1⟩
theorem e_lstO (h : PA3 X W es ms) : PE3 X W (.List es pos) (mMake mkOpen ms) :=
  PE.imp (pe_lst h) fun sv H Q ⟨w, σ, S, l, z, q⟩ => ⟨w, σ, S, l, z, Hold.step q fun ds S1 w1 H1 vs x1 z1 r1 q1 => mkOpen_s q1 z1 r1⟩
end

/-! ### calls of built-ins by their names -/
abbrev C3 := List D → Sto → Rs D
def CallS (K : PySem.W.Frag) (r : List V → Hp → VK → Prop) (f : C3) : Prop :=
  ∀ (W : WX) (sv : L2.St) (w : Wd) (us : List V) (ds : List D) (S : Sto) (H : Hp) (Q : VK), WRel K w S H → RepA K w us ds → Hold K W sv (Rep K) w Q (f ds S) → r us H Q
section
variable {X : Cx} {W : WX} {x : Str} {p pos : Pos} {e : Expr} {es : List Expr} {ms : A3} {id T : String} {r : List V → Hp → VK → Prop} {f : C3}
theorem call3 (s : CallS X.K r f) (sv : L2.St) (H : Hp) (Q : VK) (h : rdE X.K W (mMake f ms) sv H Q) : tCB r (rdA X.K W ms) sv H Q := by
  obtain ⟨w, σ, S, l, z, q⟩ := h
  exact ⟨w, σ, S, l, z, Hold.step q fun ds S1 w1 H1 vs x1 z1 r1 q1 => s W sv w1 vs ds S1 H1 Q z1 r1 q1⟩
theorem e_callB (hc : CallR X (.builtin id) r) (s : CallS X.K r f) (hg : Gl X x) (hm : X.mg x = none) (hv : bootBuiltins x = some (.builtin id)) (ha : PA3 X W (e :: es) ms) (hn : x ≠ "__name__" := by decide)
    (hdb : (x == ("__debug__" : Str)) = false := by decide) (he : starEach (e :: es) X.env = (false, eval e X.env) :: starEach es X.env := by rfl) (hpl : (backTo pos (starEach es X.env)).any (·.1) = false := by rfl) :
    PE3 X W (.Call (.Name x p) (e :: es) [] pos) (mMake f ms) := PE.imp (pe_callB hc hg hm hv ha hn hdb he hpl) fun sv H Q h => call3 s sv H Q h
theorem e_callTy (hc : CallR X (.type T) r) (s : CallS X.K r f) (hg : Gl X x) (hm : X.mg x = none) (hv : bootBuiltins x = some (.type T)) (ha : PA3 X W (e :: es) ms) (hn : x ≠ "__name__" := by decide)
    (hdb : (x == ("__debug__" : Str)) = false := by decide) (he : starEach (e :: es) X.env = (false, eval e X.env) :: starEach es X.env := by rfl) (hpl : (backTo pos (starEach es X.env)).any (·.1) = false := by rfl) :
    PE3 X W (.Call (.Name x p) (e :: es) [] pos) (mMake f ms) := PE.imp (pe_callTy hc hg hm hv ha hn hdb he hpl) fun sv H Q h => call3 s sv H Q h
end
/-- calls of one, of two things -/
def c1 (f : D → Sto → Rs D) : C3 := fun ds S => match ds with
  | [d] => f d S
  | _ => .bad
def c2 (f : D → D → Sto → Rs D) : C3 := fun ds S => match ds with
  | [d, e] => f d e S
  | _ => .bad
theorem c1_s {K : PySem.W.Frag} {r : List V → Hp → VK → Prop} {f : D → Sto → Rs D}
    (h : ∀ (W : WX) (sv : L2.St) (w : Wd) (u : V) (d : D) (S : Sto) (H : Hp) (Q : VK), WRel K w S H → Rep K w u d → Hold K W sv (Rep K) w Q (f d S) → r [u] H Q) : CallS K r (c1 f) := by
  intro W sv w us ds S H Q z ra q
  match ds, ra, q with
  | [], _, q => exact False.elim q
  | [d], .cons r1 .nil, q => exact h W sv w _ d S H Q z r1 q
  | _ :: _ :: _, _, q => exact False.elim q
theorem c2_s {K : PySem.W.Frag} {r : List V → Hp → VK → Prop} {f : D → D → Sto → Rs D}
    (h : ∀ (W : WX) (sv : L2.St) (w : Wd) (u v : V) (d e : D) (S : Sto) (H : Hp) (Q : VK), WRel K w S H → Rep K w u d → Rep K w v e → Hold K W sv (Rep K) w Q (f d e S) → r [u, v] H Q) : CallS K r (c2 f) := by
  intro W sv w us ds S H Q z ra q
  match ds, ra, q with
  | [], _, q => exact False.elim q
  | [_], _, q => exact False.elim q
  | [d, e], .cons r1 (.cons r2 .nil), q => exact h W sv w _ _ d e S H Q z r1 r2 q
  | _ :: _ :: _ :: _, _, q => exact False.elim q
/-- where a thing's items are asked -/
def withItems (d : D) (S : Sto) (k : List D → Rs D) : Rs D := match itemsOf S d with
  | some xs => k xs
  | none => .bad
theorem withItems_s {K : PySem.W.Frag} {W : WX} {sv : L2.St} {w : Wd} {u : V} {d : D} {S : Sto} {H : Hp} {Q : VK} {k : List D → Rs D} (z : WRel K w S H) (r : Rep K w u d) (h : Hold K W sv (Rep K) w Q (withItems d S k)) :
    ∃ xs a vs, itemsOf S d = some xs ∧ u = .ref a ∧ RepA K w vs xs ∧ (SqL K H a vs ∨ SqT K H a vs) ∧ Hold K W sv (Rep K) w Q (k xs) := by
  unfold withItems at h
  cases he : itemsOf S d with
  | none => rw [he] at h; exact False.elim h
  | some xs =>
    rw [he] at h
    obtain ⟨a, vs, e, ra, hs⟩ := itemsOf_at z r he
    exact ⟨xs, a, vs, rfl, e, ra, hs, h⟩
def guard (c : Bool) (r : Rs D) : Rs D := if c then r else .bad
@[simp] theorem guard_true (r : Rs D) : guard true r = r := rfl
theorem guard_s {K : PySem.W.Frag} {W : WX} {sv : L2.St} {w : Wd} {Q : VK} {c : Bool} {r : Rs D} (h : Hold K W sv (Rep K) w Q (guard c r)) : c = true ∧ Hold K W sv (Rep K) w Q r := by
  cases c with
  | true => exact ⟨rfl, h⟩
  | false => exact False.elim h
def len1 (d : D) (S : Sto) : Rs D := match d with
  | .str x => guard (sizeOk x.length) (.ok (.int x.length) S)
  | d => withItems d S fun xs => .ok (.int xs.length) S
def fLen : C3 := c1 len1
theorem fLen_s {K : PySem.W.Frag} : CallS K (fun xs H Q => ∃ x n, xs = [x] ∧ LenV K x H n ∧ Q (.int n) H) fLen := c1_s fun W sv w u d S H Q z r q => by
  have gen : Hold K W sv (Rep K) w Q (withItems d S fun xs => .ok (.int xs.length) S) → ∃ x n, [u] = [x] ∧ LenV K x H n ∧ Q (.int n) H := fun hq => by
    obtain ⟨xs, a, vs, _, rfl, ra, hs, hk⟩ := withItems_s z r hq
    refine ⟨_, xs.length, rfl, ?_, hk.at_ z (.int _)⟩
    rcases hs with hs | hs
    · exact .inl ⟨vs, hs, ra.length.symm⟩
    · exact .inr ⟨vs, hs, ra.length.symm⟩
  cases d with
  | str x =>
    cases r
    obtain ⟨hz, hk⟩ := guard_s (show Hold K W sv (Rep K) w Q (guard (sizeOk x.length) (.ok (.int x.length) S)) from q)
    exact ⟨_, x.length, rfl, ⟨of_decide_eq_true hz, rfl⟩, hk.at_ z (.int _)⟩
  | _ => exact gen q
end DL
end

section
set_option Elab.async false
set_option linter.all false
set_option maxRecDepth 100000
set_option maxHeartbeats 4000000
namespace DL
open PySem PySem.Spec PyProof.Rows L2

/-! ### list(x), tuple(x) -/
def fList : C3 := c1 fun d S => withItems d S fun xs => mkLst xs S
def fListO : C3 := c1 fun d S => withItems d S fun xs => mkOpen xs S
/-- a list's copy as a tuple; a tuple is itself -/
def isTupD : D → Bool
  | .tup _ => true
  | .wt _ => true
  | _ => false
def fTuple : C3 := c1 fun d S => if isTupD d then .ok d S else withItems d S fun xs => mkTup xs S
section
variable {K : PySem.W.Frag}
theorem fList_s : CallS K (fun xs H Q => ∃ p ys, xs = [.ref p] ∧ (SqL K H p ys ∨ SqT K H p ys) ∧ ∀ l, H l = none → Q (.ref l) (upd H l (.lst ys))) fList := c1_s fun W sv w u d S H Q z r q => by
  obtain ⟨xs, a, vs, _, rfl, ra, hs, hk⟩ := withItems_s z r q
  exact ⟨a, vs, rfl, hs, (mkLst_s hk z ra).2⟩
theorem fListO_s : CallS K (fun xs H Q => ∃ p ys, xs = [.ref p] ∧ (SqL K H p ys ∨ SqT K H p ys) ∧ ∀ l, H l = none → Q (.ref l) (upd H l (.lst ys))) fListO := c1_s fun W sv w u d S H Q z r q => by
  obtain ⟨xs, a, vs, _, rfl, ra, hs, hk⟩ := withItems_s z r q
  exact ⟨a, vs, rfl, hs, (mkOpen_s hk z ra).2⟩
theorem Rep.seqT_of {w : Wd} {S : Sto} {H : Hp} {v : V} {d : D} (z : WRel K w S H) (r : Rep K w v d) (t : isTupD d = true) : ∃ a vs, v = .ref a ∧ SqT K H a vs := by
  cases d with
  | tup xs =>
    cases r with
    | tup h1 h2 => exact ⟨_, _, rfl, SqT.of (z.same _ _ h1)⟩
  | wt xs =>
    cases r with
    | wt h1 h2 => exact ⟨_, _, rfl, seqT z.same h1⟩
  | _ => exact absurd t Bool.false_ne_true
theorem items_tup {w : Wd} {S : Sto} {H : Hp} {v : V} {d : D} (z : WRel K w S H) (r : Rep K w v d) {xs : List D} (e : itemsOf S d = some xs) (t : isTupD d = true) : ∃ a vs, v = .ref a ∧ RepA K w vs xs ∧ SqT K H a vs := by
  cases d with
  | tup ys =>
    cases r with
    | tup h1 h2 => cases e; exact ⟨_, _, rfl, h2, SqT.of (z.same _ _ h1)⟩
  | wt ys =>
    cases r with
    | wt h1 h2 => cases e; exact ⟨_, _, rfl, h2, seqT z.same h1⟩
  | _ => exact absurd t Bool.false_ne_true
theorem items_list {w : Wd} {S : Sto} {H : Hp} {v : V} {d : D} (z : WRel K w S H) (r : Rep K w v d) {xs : List D} (e : itemsOf S d = some xs) (t : isTupD d = false) : ∃ a vs, v = .ref a ∧ RepA K w vs xs ∧ SqL K H a vs := by
  cases d with
  | tup ys => exact absurd t (Ne.symm Bool.false_ne_true)
  | wt ys => exact absurd t (Ne.symm Bool.false_ne_true)
  | lst ys =>
    cases r with
    | lst h1 h2 => cases e; exact ⟨_, _, rfl, h2, SqL.of (z.same _ _ h1)⟩
  | wl ys =>
    cases r with
    | wl h1 h2 => cases e; exact ⟨_, _, rfl, h2, z.same.seq h1⟩
  | ref k =>
    cases r with
    | ref h1 =>
      obtain ⟨o, u, e1, q, _⟩ := z.there h1
      have e' : (match S[k]? with
        | some (.lst xs) => some xs
        | some (.frz xs) => some xs
        | _ => none) = some xs := e
      rw [e1] at e'
      cases o with
      | lst zs =>
        cases e'
        obtain ⟨_, vs, e2, q⟩ := q
        exact ⟨_, vs, rfl, q, SqL.of e2⟩
      | frz zs =>
        cases e'
        obtain ⟨vs, e2, q⟩ := q
        exact ⟨_, vs, rfl, q, SqL.of (z.same _ _ e2)⟩
      | ins C fs => cases e'
  | _ => cases e
theorem fTuple_s : CallS K (fun xs H Q => ∃ p ys, xs = [.ref p] ∧ ((SqL K H p ys ∧ ∀ l, H l = none → Q (.ref l) (upd H l (.tup ys))) ∨ (SqT K H p ys ∧ Q (.ref p) H))) fTuple := c1_s fun W sv w u d S H Q z r q => by
  by_cases t : isTupD d = true
  · have q' : Hold K W sv (Rep K) w Q (if isTupD d = true then .ok d S else withItems d S fun xs => mkTup xs S) := q
    rw [if_pos t] at q'
    obtain ⟨a, vs, rfl, hs⟩ := r.seqT_of z t
    exact ⟨a, vs, rfl, .inr ⟨hs, q'.at_ z r⟩⟩
  · have q' : Hold K W sv (Rep K) w Q (if isTupD d = true then .ok d S else withItems d S fun xs => mkTup xs S) := q
    rw [if_neg t] at q'
    obtain ⟨xs, _, _, he, _, _, _, hk⟩ := withItems_s z r q'
    obtain ⟨a, vs, rfl, ra, hs⟩ := items_list z r he (by simpa using t)
    exact ⟨a, vs, rfl, .inl ⟨hs, (mkTup_s hk z ra).2⟩⟩
end

/-! ### tests -/
def mAnd (a b : E3) : E3 := fun σ S => (a σ S).bind fun d S1 => match d with
  | .bl true => b σ S1
  | .bl false => .ok (.bl false) S1
  | _ => .bad
def mOr (a b : E3) : E3 := fun σ S => (a σ S).bind fun d S1 => match d with
  | .bl true => .ok (.bl true) S1
  | .bl false => b σ S1
  | _ => .bad
def mNot (a : E3) : E3 := fun σ S => (a σ S).bind fun d S1 => match d with
  | .bl c => .ok (.bl (!c)) S1
  | _ => .bad
def tAnd3 (a b : T3) : T3 := fun σ S => (a σ S).bind fun c S1 => if c then b σ S1 else .ok false S1
def tOr3 (a b : T3) : T3 := fun σ S => (a σ S).bind fun c S1 => if c then .ok true S1 else b σ S1
def tNot3 (a : T3) : T3 := fun σ S => (a σ S).bind fun c S1 => .ok (!c) S1
def mIf3 (t : T3) (a b : E3) : E3 := fun σ S => (t σ S).bind fun c S1 => if c then a σ S1 else b σ S1
section
variable {X : Cx} {W : WX} {pos : Pos} {a b c : Expr} {rest : List Expr} {ma mb : E3} {ta tb : T3}
theorem e_and (ha : PE3 X W a ma) (hb : PE3 X W (.BoolOp .And (b :: rest) pos) mb) : PE3 X W (.BoolOp .And (a :: b :: rest) pos) (mAnd ma mb) :=
  PE.imp (pe_and ha hb) fun sv H Q ⟨w, σ, S, l, z, q⟩ => ⟨w, σ, S, l, z, Hold.step q fun d S1 w1 H1 u x1 z1 r1 q1 => by
    cases d with
    | bl k =>
      cases r1
      refine ⟨k, rfl, ?_⟩
      cases k with
      | true => exact iteT ⟨w1, σ, S1, l.mono x1, z1, q1⟩
      | false => exact iteF (Hold.at_ q1 z1 (.bl _))
    | _ => exact False.elim q1⟩
theorem e_or (ha : PE3 X W a ma) (hb : PE3 X W (.BoolOp .Or (b :: rest) pos) mb) : PE3 X W (.BoolOp .Or (a :: b :: rest) pos) (mOr ma mb) :=
  PE.imp (pe_or ha hb) fun sv H Q ⟨w, σ, S, l, z, q⟩ => ⟨w, σ, S, l, z, Hold.step q fun d S1 w1 H1 u x1 z1 r1 q1 => by
    cases d with
    | bl k =>
      cases r1
      refine ⟨k, rfl, ?_⟩
      cases k with
      | false => exact iteF ⟨w1, σ, S1, l.mono x1, z1, q1⟩
      | true => exact iteT (Hold.at_ q1 z1 (.bl _))
    | _ => exact False.elim q1⟩
theorem e_one {op} (h : PE3 X W a ma) : PE3 X W (.BoolOp op [a] pos) ma := pe_one h
theorem e_not (ha : PE3 X W a ma) : PE3 X W (.UnaryOp .Not a pos) (mNot ma) :=
  PE.imp (pe_not ha) fun sv H Q ⟨w, σ, S, l, z, q⟩ => ⟨w, σ, S, l, z, Hold.step q fun d S1 w1 H1 u x1 z1 r1 q1 => by
    cases d with
    | bl k => cases r1; exact ⟨k, rfl, q1.at_ z1 (.bl _)⟩
    | _ => exact False.elim q1⟩
/-- a test within and, or: whatever its whole is -/
def PW3 (X : Cx) (W : WX) (e : Expr) (m : T3) : Prop := PW X e (rdT X.K W m)
theorem PW.imp {X : Cx} {e : Expr} {t t' : TT} (h : PW X e t) (i : ∀ s H Q, t' s H Q → t s H Q) : PW X e t' := ⟨fun wh pins s σ H Q I q => h.run wh pins s σ H Q I (i _ _ _ q)⟩
theorem PW3.pt (h : PW3 X W a ta) : PT3 X W a ta := PW.pt h
theorem w_and1 (h : PT3 X W a ta) : PW3 X W (.BoolOp .And [a] pos) ta := pw_and1 h
theorem w_or1 (h : PT3 X W a ta) : PW3 X W (.BoolOp .Or [a] pos) ta := pw_or1 h
theorem w_and (ha : PT3 X W a ta) (hb : PW3 X W (.BoolOp .And (b :: rest) pos) tb) : PW3 X W (.BoolOp .And (a :: b :: rest) pos) (tAnd3 ta tb) :=
  PW.imp (pw_and ha hb) fun sv H Q ⟨w, σ, S, l, z, q⟩ => ⟨w, σ, S, l, z, Hold.step q fun k S1 w1 H1 u x1 z1 r1 q1 => by
    have r1' : u = k := r1
    subst r1'
    cases u with
    | true => exact iteT ⟨w1, σ, S1, l.mono x1, z1, q1⟩
    | false => exact iteF (Hold.at_ q1 z1 rfl)⟩
theorem w_or (ha : PT3 X W a ta) (hb : PW3 X W (.BoolOp .Or (b :: rest) pos) tb) : PW3 X W (.BoolOp .Or (a :: b :: rest) pos) (tOr3 ta tb) :=
  PW.imp (pw_or ha hb) fun sv H Q ⟨w, σ, S, l, z, q⟩ => ⟨w, σ, S, l, z, Hold.step q fun k S1 w1 H1 u x1 z1 r1 q1 => by
    have r1' : u = k := r1
    subst r1'
    cases u with
    | false => exact iteF ⟨w1, σ, S1, l.mono x1, z1, q1⟩
    | true => exact iteT (Hold.at_ q1 z1 rfl)⟩
theorem t_not (ha : PT3 X W a ta) : PT3 X W (.UnaryOp .Not a pos) (tNot3 ta) :=
  PT.imp (pt_not ha) fun sv H Q ⟨w, σ, S, l, z, q⟩ => ⟨w, σ, S, l, z, Hold.step q fun k S1 w1 H1 u x1 z1 r1 q1 => by
    have r1' : u = k := r1
    subst r1'
    exact q1.at_ z1 rfl⟩
theorem e_if {m n : E3} (hc : PT3 X W c ta) (ha : PE3 X W a m) (hb : PE3 X W b n) : PE3 X W (.IfExp c a b pos) (mIf3 ta m n) :=
  PE.imp (pe_ifExp hc ha hb) fun sv H Q ⟨w, σ, S, l, z, q⟩ => ⟨w, σ, S, l, z, Hold.step q fun k S1 w1 H1 u x1 z1 r1 q1 => by
    have r1' : u = k := r1
    subst r1'
    cases u with
    | true => exact iteT ⟨w1, σ, S1, l.mono x1, z1, q1⟩
    | false => exact iteF ⟨w1, σ, S1, l.mono x1, z1, q1⟩⟩
end
/-- a value's truth -/
def truD (d : D) (S : Sto) : Option Bool := match d with
  | .non => some false
  | .bl b => some b
  | .int i => some (i != 0)
  | .str x => if sizeOk x.length then some ((x.length : Int) != 0) else none
  | d => (itemsOf S d).map fun xs => !xs.isEmpty
def asT (r : Rs D) : Rs Bool := r.bind fun d S => match truD d S with
  | some b => .ok b S
  | none => .bad
section
variable {X : Cx} {W : WX} {pos : Pos} {a : Expr} {ma : E3}
theorem truD_s {K : PySem.W.Frag} {w : Wd} {S : Sto} {H : Hp} {v : V} {d : D} {b : Bool} (z : WRel K w S H) (r : Rep K w v d) (e : truD d S = some b) : TruV K v H b := by
  have seq : (itemsOf S d).map (fun xs => !xs.isEmpty) = some b → TruV K v H b := fun e => by
    cases he : itemsOf S d with
    | none => rw [he] at e; cases e
    | some xs =>
      rw [he] at e
      cases e
      obtain ⟨a, vs, rfl, ra, hs⟩ := itemsOf_at z r he
      have hb : (!xs.isEmpty) = !vs.isEmpty := by
        have := ra.length
        cases xs <;> cases vs <;> simp at this ⊢
      rcases hs with hs | hs
      · exact .inl ⟨vs, hs, hb⟩
      · exact .inr (.inl ⟨vs, hs, hb⟩)
  cases d with
  | non => cases r; cases e; rfl
  | bl k => cases r; cases e; rfl
  | int i => cases r; cases e; rfl
  | str x =>
    cases r
    have e' : (if sizeOk x.length = true then some ((x.length : Int) != 0) else none) = some b := e
    by_cases hz : sizeOk x.length = true
    · rw [if_pos hz] at e'
      cases e'
      exact ⟨of_decide_eq_true hz, rfl⟩
    · rw [if_neg hz] at e'; cases e'
  | _ => exact seq e
theorem t_truth (ha : PE3 X W a ma) (he : ∀ whole, isTrue a X.env whole = (do let v ← whole; standAt a.pos; holding [v] (truthy v)) := by intro _; rfl) : PT3 X W a (fun σ S => asT (ma σ S)) :=
  PT.imp (pt_truth ha he) fun sv H Q ⟨w, σ, S, l, z, q⟩ => ⟨w, σ, S, l, z, Hold.step q fun d S1 w1 H1 u x1 z1 r1 q1 => by
    cases e : truD d S1 with
    | none => simp only [e] at q1; exact False.elim q1
    | some b => simp only [e] at q1; exact ⟨b, truD_s z1 r1 e, q1.at_ z1 rfl⟩⟩
end

/-! ### slices -/
abbrev P3 := Loc → Sto → Rs (Option Int)
def rdP (K : PySem.W.Frag) (W : WX) (m : P3) : TO := rd K W (fun _ (b : Option Int) (a : Option Int) => b = a) m
def PO3 (X : Cx) (W : WX) (e : Option Expr) (m : P3) : Prop := PO X e (rdP X.K W m)
def mNoP : P3 := fun _ S => .ok none S
def mPart (a : E3) : P3 := fun σ S => (a σ S).bind fun d S1 => match d with
  | .int i => .ok (some i) S1
  | _ => .bad
theorem PO.imp {X : Cx} {e : Option Expr} {t t' : TO} (h : PO X e t) (i : ∀ s H Q, t' s H Q → t s H Q) : PO X e t' := ⟨fun pins s σ H Q I q => h.run pins s σ H Q I (i _ _ _ q)⟩
section
variable {X : Cx} {W : WX} {pos p2 : Pos} {e : Expr} {me : E3} {lo hi : Option Expr} {ml mh : P3}
theorem o_none : PO3 X W none mNoP := PO.imp po_none fun sv H Q ⟨w, σ, S, l, z, q⟩ => q.at_ z rfl
theorem o_some (h : PE3 X W e me) : PO3 X W (some e) (mPart me) := PO.imp (po_some h) fun sv H Q ⟨w, σ, S, l, z, q⟩ => ⟨w, σ, S, l, z, Hold.step q fun d S1 w1 H1 u x1 z1 r1 q1 => by
  cases d with
  | int i => cases r1; exact ⟨i, rfl, q1.at_ z1 rfl⟩
  | _ => exact False.elim q1⟩
def cutG {α : Type} (xs : List α) (lo hi : Option Int) : List α := (xs.drop (HT.sIx xs.length 0 lo)).take (HT.sIx xs.length xs.length hi - HT.sIx xs.length 0 lo)
theorem RepA.cut {K : PySem.W.Frag} {w : Wd} {vs : List V} {ds : List D} (r : RepA K w vs ds) (lo hi : Option Int) : RepA K w (cutV vs lo hi) (cutG ds lo hi) := by
  unfold cutV cutG
  rw [r.length]
  exact (r.drop _).take _
def wholeG (n : Nat) (lo hi : Option Int) : Bool := HT.sIx n 0 lo == 0 && HT.sIx n n hi == n
def slD (op : Bool) (d : D) (lo hi : Option Int) (S : Sto) : Rs D := match d with
  | .str x => guard (sizeOk x.length) (.ok (.str (cutS x lo hi)) S)
  | d => withItems d S fun xs => if isTupD d then (if wholeG xs.length lo hi then .ok d S else mkTup (cutG xs lo hi) S) else if op then mkOpen (cutG xs lo hi) S else mkLst (cutG xs lo hi) S
def mSl (op : Bool) (a : E3) (lo hi : P3) : E3 := fun σ S => (a σ S).bind fun d S1 => (lo σ S1).bind fun l S2 => (hi σ S2).bind fun h S3 => slD op d l h S3
def rSlAll (K : PySem.W.Frag) : V → Option Int → Option Int → Hp → VK → Prop := fun x lo hi H Q => rSlL K x lo hi H Q ∨ (rSlA K x lo hi H Q ∨ rSlS x lo hi H Q)
theorem slD_s {K : PySem.W.Frag} {sv : L2.St} {w : Wd} {S : Sto} {H : Hp} {v : V} {d : D} {op : Bool} {l h : Option Int} {Q : VK} (z : WRel K w S H) (r : Rep K w v d) (q : Hold K W sv (Rep K) w Q (slD op d l h S)) : rSlAll K v l h H Q := by
  have seq : Hold K W sv (Rep K) w Q (withItems d S fun xs => if isTupD d then (if wholeG xs.length l h then .ok d S else mkTup (cutG xs l h) S) else if op then mkOpen (cutG xs l h) S else mkLst (cutG xs l h) S) → rSlAll K v l h H Q := fun q => by
    obtain ⟨xs, _, _, he, _, _, _, hk⟩ := withItems_s z r q
    by_cases t : isTupD d = true
    · rw [if_pos t] at hk
      obtain ⟨a, vs, rfl, ra, hs⟩ := items_tup z r he t
      refine .inr (.inl ⟨a, vs, rfl, hs, fun hw => ?_, fun hw => ?_⟩)
      · have hg : wholeG xs.length l h = true := by
          unfold wholeG
          rw [← ra.length, Bool.and_eq_true, beq_iff_eq, beq_iff_eq]
          exact hw
        rw [if_pos hg] at hk
        exact hk.at_ z r
      · have hg : ¬ wholeG xs.length l h = true := by
          unfold wholeG
          rw [← ra.length, Bool.and_eq_true, beq_iff_eq, beq_iff_eq]
          exact hw
        rw [if_neg hg] at hk
        exact (mkTup_s hk z (ra.cut l h)).2
    · rw [if_neg t] at hk
      obtain ⟨a, vs, rfl, ra, hs⟩ := items_list z r he (by simpa using t)
      refine .inl ⟨a, vs, rfl, hs, ?_⟩
      cases op with
      | true => exact (mkOpen_s hk z (ra.cut l h)).2
      | false => exact (mkLst_s hk z (ra.cut l h)).2
  cases d with
  | str x =>
    cases r
    obtain ⟨hz, hk⟩ := guard_s (show Hold K W sv (Rep K) w Q (guard (sizeOk x.length) (.ok (.str (cutS x l h)) S)) from q)
    exact .inr (.inr ⟨x, rfl, of_decide_eq_true hz, hk.at_ z (.str _)⟩)
  | _ => exact seq q
theorem e_slice (op : Bool) (he : PE3 X W e me) (hl : PO3 X W lo ml) (hh : PO3 X W hi mh) : PE3 X W (.Subscript e (.Slice lo hi none p2) pos) (mSl op me ml mh) :=
  PE.imp (pe_slice (sl_list.or (sl_tupA.or sl_str)) he hl hh) fun sv H Q ⟨w, σ, S, l, z, q⟩ => ⟨w, σ, S, l, z, Hold.step q fun d S1 w1 H1 u x1 z1 r1 q1 =>
    ⟨w1, σ, S1, l.mono x1, z1, Hold.step q1 fun a S2 w2 H2 i x2 z2 r2 q2 => ⟨w2, σ, S2, l.mono (x1.trans x2), z2, Hold.step q2 fun b S3 w3 H3 j x3 z3 r3 q3 => by
      have e2 : i = a := r2
      have e3 : j = b := r3
      subst e2
      subst e3
      exact slD_s z3 (r1.mono (x2.trans x3)) q3⟩⟩⟩
end

/-! ### == and != of data -/
mutual
def pyD : D → Option PyData
  | .non => some .none
  | .bl b => some (.bool b)
  | .int i => some (.int i)
  | .str x => some (.str x)
  | .tup xs => (pyA xs).map .tuple
  | .wt xs => (pyA xs).map .tuple
  | .lst xs => (pyA xs).map .list
  | .wl xs => (pyA xs).map .list
  | .ref _ => none
  | .ty _ => none
  | .adr _ => none
def pyA : List D → Option (List PyData)
  | [] => some []
  | d :: ds => match pyD d, pyA ds with
    | some p, some ps => some (p :: ps)
    | _, _ => none
end
/-- .. also where it is an open list -/
def pyS (S : Sto) : D → Option PyData
  | .ref k => (itemsOf S (.ref k)).bind fun xs => (pyA xs).map .list
  | d => pyD d
section
variable {K : PySem.W.Frag} {w : Wd} {S : Sto} {H : Hp}
theorem map_some {α β : Type} {o : Option α} {f : α → β} {b : β} (h : o.map f = some b) : ∃ a, o = some a ∧ f a = b := by
  cases o with
  | none => cases h
  | some a => exact ⟨a, rfl, Option.some.inj h⟩
mutual
theorem dp_of (s : Same w.G H) : ∀ {d : D} {v : V} {p : PyData}, Rep K w v d → pyD d = some p → Dp K H v p
  | .non, _, _, r, e => by cases r; cases e; exact .non
  | .bl _, _, _, r, e => by cases r; cases e; exact .bl _
  | .int _, _, _, r, e => by cases r; cases e; exact .int _
  | .str _, _, _, r, e => by cases r; cases e; exact .str _
  | .tup xs, _, _, r, e => by
    cases r with
    | tup h1 h2 =>
      simp only [pyD] at e
      obtain ⟨ps, e1, rfl⟩ := map_some e
      exact .tup (SqT.of (s _ _ h1)) (dpA_of s h2 e1)
  | .wt xs, _, _, r, e => by
    cases r with
    | wt h1 h2 =>
      simp only [pyD] at e
      obtain ⟨ps, e1, rfl⟩ := map_some e
      exact .tup (seqT s h1) (dpA_of s h2 e1)
  | .lst xs, _, _, r, e => by
    cases r with
    | lst h1 h2 =>
      simp only [pyD] at e
      obtain ⟨ps, e1, rfl⟩ := map_some e
      exact .lst (SqL.of (s _ _ h1)) (dpA_of s h2 e1)
  | .wl xs, _, _, r, e => by
    cases r with
    | wl h1 h2 =>
      simp only [pyD] at e
      obtain ⟨ps, e1, rfl⟩ := map_some e
      exact .lst (s.seq h1) (dpA_of s h2 e1)
  | .ref _, _, _, _, e => by simp [pyD] at e
  | .ty _, _, _, _, e => by simp [pyD] at e
  | .adr _, _, _, _, e => by simp [pyD] at e
theorem dpA_of (s : Same w.G H) : ∀ {ds : List D} {vs : List V} {ps : List PyData}, RepA K w vs ds → pyA ds = some ps → DpAll K H vs ps
  | [], _, _, r, e => by
    cases r
    simp only [pyA] at e
    cases e
    exact .nil
  | d :: ds, _, _, r, e => by
    cases r with
    | cons r1 r2 =>
      simp only [pyA] at e
      cases e1 : pyD d with
      | none => rw [e1] at e; cases e
      | some p =>
        cases e2 : pyA ds with
        | none => rw [e1, e2] at e; cases e
        | some ps =>
          rw [e1, e2] at e
          cases e
          exact .cons (dp_of s r1 e1) (dpA_of s r2 e2)
end
theorem dpS_of {d : D} {v : V} {p : PyData} (z : WRel K w S H) (r : Rep K w v d) (e : pyS S d = some p) : Dp K H v p := by
  cases d with
  | ref k =>
    have e' : (itemsOf S (.ref k)).bind (fun xs => (pyA xs).map PyData.list) = some p := e
    cases he : itemsOf S (.ref k) with
    | none => rw [he] at e'; cases e'
    | some xs =>
      rw [he] at e'
      obtain ⟨ps, e1, rfl⟩ := map_some (show (pyA xs).map PyData.list = some p from e')
      obtain ⟨a, vs, rfl, ra, hs⟩ := items_list z r he rfl
      exact .lst hs (dpA_of z.same ra e1)
  | _ => exact dp_of z.same r e
end
def oEqG (f : Bool → Bool) : O3 := fun d e S => match pyS S d, pyS S e with
  | some p, some q => if SeqAt.shaped p && SeqAt.shaped q then .ok (.bl (f (PyData.eqv p q))) S else .bad
  | _, _ => .bad
def oEq : O3 := oEqG id
def oNe : O3 := oEqG not
theorem oEqG_s {K : PySem.W.Frag} {f : Bool → Bool} : OpS K (fun x y H Q => ∃ d e, Dp K H x d ∧ Dp K H y e ∧ SeqAt.shaped d = true ∧ SeqAt.shaped e = true ∧ Q (.bl (f (PyData.eqv d e))) H) (oEqG f) := by
  intro W sv w u v d e S H Q z r1 r2 q
  unfold oEqG at q
  cases e1 : pyS S d with
  | none => rw [e1] at q; exact False.elim q
  | some p =>
    cases e2 : pyS S e with
    | none => rw [e1, e2] at q; exact False.elim q
    | some p' =>
      rw [e1, e2] at q
      by_cases hs : (SeqAt.shaped p && SeqAt.shaped p') = true
      · simp only [if_pos hs] at q
        rw [Bool.and_eq_true] at hs
        exact ⟨p, p', dpS_of z r1 e1, dpS_of z r2 e2, hs.1, hs.2, q.at_ z (.bl _)⟩
      · simp only [if_neg hs] at q
        exact False.elim q
theorem oEq_s {K : PySem.W.Frag} : OpS K (rEqD K) oEq := oEqG_s
theorem oNe_s {K : PySem.W.Frag} : OpS K (rNeD K) oNe := oEqG_s

/-! ### in -/
def vOf : D → Option V
  | .non => some .non
  | .bl b => some (.bl b)
  | .int i => some (.int i)
  | .str x => some (.str x)
  | _ => none
def vsOf : List D → Option (List V)
  | [] => some []
  | d :: ds => match vOf d, vsOf ds with
    | some v, some vs => some (v :: vs)
    | _, _ => none
def oIn (neg : Bool) : O3 := fun d e S => withItems e S fun xs => match vOf d, vsOf xs with
  | some v, some vs => .ok (.bl (if neg then !inV v vs else inV v vs)) S
  | _, _ => .bad
section
variable {K : PySem.W.Frag} {w : Wd}
theorem vOf_s {d : D} {u v : V} (r : Rep K w u d) (e : vOf d = some v) : u = v ∧ flatV v = true := by
  cases d with
  | non => cases r; cases e; exact ⟨rfl, rfl⟩
  | bl _ => cases r; cases e; exact ⟨rfl, rfl⟩
  | int _ => cases r; cases e; exact ⟨rfl, rfl⟩
  | str _ => cases r; cases e; exact ⟨rfl, rfl⟩
  | _ => cases e
theorem vsOf_s : ∀ {ds : List D} {us vs : List V}, RepA K w us ds → vsOf ds = some vs → us = vs ∧ vs.all flatV = true
  | [], _, _, r, e => by cases r; cases e; exact ⟨rfl, rfl⟩
  | d :: ds, _, _, r, e => by
    cases r with
    | cons r1 r2 =>
      unfold vsOf at e
      cases e1 : vOf d with
      | none => rw [e1] at e; cases e
      | some p =>
        cases e2 : vsOf ds with
        | none => rw [e1, e2] at e; cases e
        | some ps =>
          rw [e1, e2] at e
          cases e
          obtain ⟨rfl, f1⟩ := vOf_s r1 e1
          obtain ⟨rfl, f2⟩ := vsOf_s r2 e2
          exact ⟨rfl, by rw [List.all_cons, f1, f2]; rfl⟩
theorem oIn_s (neg : Bool) : OpS K (rIn K neg) (oIn neg) := by
  intro W sv w u v d e S H Q z r1 r2 q
  obtain ⟨xs, a, vs, _, rfl, ra, hs, hk⟩ := withItems_s z r2 q
  cases e1 : vOf d with
  | none => simp only [e1] at hk; exact False.elim hk
  | some x =>
    cases e2 : vsOf xs with
    | none => simp only [e1, e2] at hk; exact False.elim hk
    | some ys =>
      simp only [e1, e2] at hk
      obtain ⟨rfl, f1⟩ := vOf_s r1 e1
      obtain ⟨rfl, f2⟩ := vsOf_s ra e2
      exact ⟨a, vs, rfl, hs, f1, f2, hk.at_ z (.bl _)⟩
end

end DL
end

section
set_option Elab.async false
set_option linter.all false
set_option maxRecDepth 100000
set_option maxHeartbeats 4000000
namespace DL
open PySem PySem.Spec PyProof.Rows L2

/-! ### + -/
section
variable {K : PySem.W.Frag}
/-- a list that stands in the heap as such -/
def isLstD : D → Bool
  | .lst _ => true
  | .ref _ => true
  | _ => false
theorem items_trk {w : Wd} {S : Sto} {H : Hp} {v : V} {d : D} (z : WRel K w S H) (r : Rep K w v d) {xs : List D} (e : itemsOf S d = some xs) (t : isLstD d = true) : ∃ a vs, v = .ref a ∧ RepA K w vs xs ∧ H a = some (.lst vs) := by
  cases d with
  | lst ys =>
    cases r with
    | lst h1 h2 => cases e; exact ⟨_, _, rfl, h2, z.same _ _ h1⟩
  | ref k =>
    cases r with
    | ref h1 =>
      obtain ⟨o, u, e1, q, _⟩ := z.there h1
      have e' : (match S[k]? with
        | some (.lst xs) => some xs
        | some (.frz xs) => some xs
        | _ => none) = some xs := e
      rw [e1] at e'
      cases o with
      | lst zs =>
        cases e'
        obtain ⟨_, vs, e2, q⟩ := q
        exact ⟨_, vs, rfl, q, e2⟩
      | frz zs =>
        cases e'
        obtain ⟨vs, e2, q⟩ := q
        exact ⟨_, vs, rfl, q, z.same _ _ e2⟩
      | ins C fs => cases e'
  | _ => exact absurd t Bool.false_ne_true
def catSeq (op : Bool) (d e : D) (S : Sto) : Rs D := withItems d S fun xs => withItems e S fun ys => guard (sizeOk (xs.length + ys.length)) (
  if isTupD d && isTupD e then (if xs.isEmpty then .ok e S else if ys.isEmpty then .ok d S else mkTup (xs ++ ys) S)
  else guard (isLstD d && isLstD e) (if op then mkOpen (xs ++ ys) S else mkLst (xs ++ ys) S))
def oCat (op : Bool) : O3 := fun d e S => match d with
  | .str x => (match e with
    | .str y => guard (sizeOk (x.length + y.length)) (.ok (.str (x ++ y)) S)
    | _ => .bad)
  | .int i => (match e with
    | .int j => .ok (.int (i + j)) S
    | _ => .bad)
  | d => catSeq op d e S
def rCatAll (K : PySem.W.Frag) : R2 := fun x y H Q => (∃ i j, x = .str i ∧ y = .str j ∧ i.length + j.length ≤ sizeLine ∧ Q (.str (i ++ j)) H) ∨ (rI0 (fun i j => .int (i + j)) x y H Q ∨ (rCatA K x y H Q ∨ rCat x y H Q))
theorem oCat_s (op : Bool) : OpS K (rCatAll K) (oCat op) := by
  intro W sv w u v d e S H Q z r1 r2 q
  have seq : Hold K W sv (Rep K) w Q (catSeq op d e S) → rCatAll K u v H Q := fun q => by
    obtain ⟨xs, _, _, he, _, _, _, q⟩ := withItems_s z r1 q
    obtain ⟨ys, _, _, he2, _, _, _, q⟩ := withItems_s z r2 q
    obtain ⟨hz, q⟩ := guard_s q
    have hz := of_decide_eq_true hz
    by_cases t : (isTupD d && isTupD e) = true
    · rw [if_pos t] at q
      rw [Bool.and_eq_true] at t
      obtain ⟨a, vs, rfl, ra, hs⟩ := items_tup z r1 he t.1
      obtain ⟨b, us, rfl, rb, hs2⟩ := items_tup z r2 he2 t.2
      refine .inr (.inr (.inl ⟨a, b, vs, us, rfl, rfl, hs, hs2, by rw [ra.length, rb.length]; exact hz, fun h => ?_, fun h h' => ?_, fun h h' => ?_⟩))
      · have : xs = [] := List.eq_nil_of_length_eq_zero (by rw [← ra.length, h]; rfl)
        subst this
        exact Hold.at_ q z r2
      · have h1 : xs.isEmpty = false := by
          cases xs with
          | nil => exact absurd (List.eq_nil_of_length_eq_zero ra.length) h
          | cons _ _ => rfl
        have h2 : ys = [] := List.eq_nil_of_length_eq_zero (by rw [← rb.length, h']; rfl)
        subst h2
        rw [h1] at q
        exact Hold.at_ q z r1
      · have h1 : xs.isEmpty = false := by
          cases xs with
          | nil => exact absurd (List.eq_nil_of_length_eq_zero ra.length) h
          | cons _ _ => rfl
        have h2 : ys.isEmpty = false := by
          cases ys with
          | nil => exact absurd (List.eq_nil_of_length_eq_zero rb.length) h'
          | cons _ _ => rfl
        rw [h1, h2] at q
        exact (mkTup_s q z (ra.append rb)).2
    · rw [if_neg t] at q
      obtain ⟨hg, q⟩ := guard_s q
      rw [Bool.and_eq_true] at hg
      obtain ⟨a, vs, rfl, ra, hs⟩ := items_trk z r1 he hg.1
      obtain ⟨b, us, rfl, rb, hs2⟩ := items_trk z r2 he2 hg.2
      refine .inr (.inr (.inr ⟨a, b, vs, us, rfl, rfl, hs, hs2, by rw [ra.length, rb.length]; exact hz, ?_⟩))
      cases op with
      | true => exact (mkOpen_s q z (ra.append rb)).2
      | false => exact (mkLst_s q z (ra.append rb)).2
  cases d with
  | str x =>
    cases e with
    | str y =>
      cases r1; cases r2
      obtain ⟨hz, hk⟩ := guard_s (show Hold K W sv (Rep K) w Q (guard (sizeOk (x.length + y.length)) (.ok (.str (x ++ y)) S)) from q)
      exact .inl ⟨x, y, rfl, rfl, of_decide_eq_true hz, hk.at_ z (.str _)⟩
    | _ => exact False.elim q
  | int i =>
    cases e with
    | int j =>
      cases r1; cases r2
      exact .inr (.inl ⟨i, j, rfl, rfl, Hold.at_ (show Hold K W sv (Rep K) w Q (.ok (.int (i + j)) S) from q) z (.int _)⟩)
    | _ => exact False.elim q
  | _ => exact seq q
end
theorem op_catAll {X : Cx} : OpR X (binaryOp .Add) (rCatAll X.K) := op_add_str.or (op_add.or (op_catA.or op_cat))

/-! ### methods of lists and texts -/
abbrev M3 := D → List D → Sto → Rs D
def MethS (K : PySem.W.Frag) (r : V → List V → Hp → VK → Prop) (f : M3) : Prop :=
  ∀ (W : WX) (sv : L2.St) (w : Wd) (u : V) (us : List V) (d : D) (ds : List D) (S : Sto) (H : Hp) (Q : VK), WRel K w S H → Rep K w u d → RepA K w us ds → Hold K W sv (Rep K) w Q (f d ds S) → r u us H Q
def isListIn (S : Sto) (d : D) : Bool := !isTupD d && (itemsOf S d).isSome
def mMethL (f : M3) (o : E3) (a : A3) : E3 := fun σ S => (o σ S).bind fun d S1 => if isListIn S1 d then (a σ S1).bind fun ds S2 => f d ds S2 else .bad
section
variable {X : Cx} {W : WX} {o e : Expr} {es : List Expr} {mo : E3} {ms : A3} {name : Str} {apos cpos : Pos} {id : String} {r : V → List V → Hp → VK → Prop} {f : M3}
theorem listIn_s {K : PySem.W.Frag} {w : Wd} {S : Sto} {H : Hp} {v : V} {d : D} (z : WRel K w S H) (r : Rep K w v d) (h : isListIn S d = true) : tyV K "list" v H := by
  unfold isListIn at h
  rw [Bool.and_eq_true] at h
  obtain ⟨xs, hx⟩ := Option.isSome_iff_exists.mp h.2
  obtain ⟨a, vs, rfl, _, hs⟩ := items_list z r hx (by simpa using h.1)
  exact .inl ⟨rfl, vs, hs⟩
theorem e_methL (slot : Slot "list" name id) (hty : typeOf (.builtin id) = pure (.type "method_descriptor")) (hm : MtR X id r) (s : MethS X.K r f) (ho : PE3 X W o mo) (ha : PA3 X W (e :: es) ms)
    (hbase : attributeBase o name X.env (eval o X.env) = eval o X.env := by rfl)
    (hfew : ((backTo cpos (starEach (e :: es) X.env)).all (fun x => !x.1) && (backToKw cpos (keywordEach [] X.env)).all (fun x => x.1.isSome)
      && decide ((e :: es).length + ([] : List Keyword).length + (if ([] : List Keyword).isEmpty then 0 else 1) < 30)) = true := by rfl)
    (hline : (apos.endLine == cpos.line) = true := by rfl) (hs : starEach (e :: es) X.env = (false, eval e X.env) :: starEach es X.env := by rfl) (hplain : (backTo cpos (starEach es X.env)).any (·.1) = false := by rfl) :
    PE3 X W (.Call (.Attribute o name apos) (e :: es) [] cpos) (mMethL f mo ms) :=
  PE.imp (pe_bm PySem.F.plainAttrs_list slot hty hm ho ha hbase hfew hline hs hplain) fun sv H Q ⟨w, σ, S, l, z, q⟩ => ⟨w, σ, S, l, z, Hold.step q fun d S1 w1 H1 u x1 z1 r1 q1 => by
    by_cases hl : isListIn S1 d = true
    · rw [if_pos hl] at q1
      exact ⟨listIn_s z1 r1 hl, w1, σ, S1, l.mono x1, z1, Hold.step q1 fun ds S2 w2 H2 us x2 z2 r2 q2 => s W sv w2 u us d ds S2 H2 Q z2 (r1.mono x2) r2 q2⟩
    · rw [if_neg hl] at q1; exact False.elim q1⟩
theorem e_methL0 (slot : Slot "list" name id) (hty : typeOf (.builtin id) = pure (.type "method_descriptor")) (hm : MtR X id r) (s : MethS X.K r f) (ho : PE3 X W o mo)
    (hbase : attributeBase o name X.env (eval o X.env) = eval o X.env := by rfl) (hline : (apos.endLine == cpos.line) = true := by rfl) :
    PE3 X W (.Call (.Attribute o name apos) [] [] cpos) (mMethL f mo mNil) :=
  PE.imp (pe_bm0 PySem.F.plainAttrs_list slot hty hm ho hbase hline) fun sv H Q ⟨w, σ, S, l, z, q⟩ => ⟨w, σ, S, l, z, Hold.step q fun d S1 w1 H1 u x1 z1 r1 q1 => by
    by_cases hl : isListIn S1 d = true
    · rw [if_pos hl] at q1
      exact ⟨listIn_s z1 r1 hl, s W sv w1 u [] d [] S1 H1 Q z1 r1 .nil q1⟩
    · rw [if_neg hl] at q1; exact False.elim q1⟩
end
/-- an open list -/
def withOpen (d : D) (S : Sto) (k : Nat → List D → Rs D) : Rs D := match d with
  | .ref j => (match S[j]? with
    | some (.lst xs) => k j xs
    | _ => .bad)
  | _ => .bad
section
variable {K : PySem.W.Frag} {W : WX} {sv : L2.St} {w : Wd} {u : V} {d : D} {S : Sto} {H : Hp} {Q : VK}
theorem withOpen_s {k : Nat → List D → Rs D} (z : WRel K w S H) (r : Rep K w u d) (h : Hold K W sv (Rep K) w Q (withOpen d S k)) :
    ∃ j xs a vs, d = .ref j ∧ u = .ref a ∧ w.am[j]? = some a ∧ w.G a = none ∧ H a = some (.lst vs) ∧ RepA K w vs xs ∧ S[j]? = some (.lst xs) ∧ Hold K W sv (Rep K) w Q (k j xs) := by
  cases d with
  | ref j =>
    cases r with
    | ref h1 =>
      obtain ⟨o, _, e1, q, _⟩ := z.there h1
      have h' : Hold K W sv (Rep K) w Q (match S[j]? with
        | some (.lst xs) => k j xs
        | _ => .bad) := h
      rw [e1] at h'
      cases o with
      | lst xs =>
        obtain ⟨g, vs, e2, q⟩ := q
        exact ⟨j, xs, _, vs, rfl, rfl, h1, g, e2, q, e1, h'⟩
      | ins C fs => exact False.elim h'
      | frz xs => exact False.elim h'
  | _ => exact False.elim h
theorem WRel.relist (z : WRel K w S H) {j : Nat} {a : Addr} (h1 : w.am[j]? = some a) (g : w.G a = none) {vs : List V} {xs : List D} (r : RepA K w vs xs) : WRel K w (S.set j (.lst xs)) (upd H a (.lst vs)) :=
  z.write h1 g ⟨g, vs, upd_same, r⟩
end
def fAppend : M3 := fun d ds S => match ds with
  | [y] => withOpen d S fun j xs => guard (decide (xs.length < sizeLine)) (.ok .non (S.set j (.lst (xs ++ [y]))))
  | _ => .bad
def fPop : M3 := fun d ds S => match ds with
  | [] => withOpen d S fun j xs => (match xs[xs.length - 1]? with
    | some y => .ok y (S.set j (.lst xs.dropLast))
    | none => .bad)
  | _ => .bad
def popAt (d : D) (i : Int) (S : Sto) : Rs D := withOpen d S fun j xs => guard (decide (-(2 ^ 63) ≤ i) && decide (i < 2 ^ 63)) (match seqIndex? i xs.length with
  | some k => (match xs[k]? with
    | some y => .ok y (S.set j (.lst (xs.eraseIdx k)))
    | none => .bad)
  | none => .bad)
def fPopAt : M3 := fun d ds S => match ds with
  | [x] => (match x with
    | .int i => popAt d i S
    | _ => .bad)
  | _ => .bad
section
variable {K : PySem.W.Frag} {w : Wd}
theorem RepA.eraseIdx : ∀ {vs : List V} {ds : List D} (i : Nat), RepA K w vs ds → RepA K w (vs.eraseIdx i) (ds.eraseIdx i)
  | _, _, _, .nil => .nil
  | _, _, 0, .cons _ t => t
  | _, _, i + 1, .cons r t => .cons r (t.eraseIdx i)
theorem RepA.dropLast {vs : List V} {ds : List D} (r : RepA K w vs ds) : RepA K w vs.dropLast ds.dropLast := by
  rw [List.dropLast_eq_take, List.dropLast_eq_take, r.length]
  exact r.take _
theorem fAppend_s : MethS K rAppend fAppend := by
  intro W sv w u us d ds S H Q z r ra q
  match ds, ra, q with
  | [], _, q => exact False.elim q
  | _ :: _ :: _, _, q => exact False.elim q
  | [y], .cons ry .nil, q =>
    obtain ⟨j, xs, a, vs, rfl, rfl, h1, g, e, rx, _, q⟩ := withOpen_s z r q
    obtain ⟨hz, q⟩ := guard_s q
    exact ⟨a, vs, _, rfl, rfl, e, by rw [rx.length]; exact of_decide_eq_true hz, q _ _ _ (Ext.refl w) (z.relist h1 g (rx.append (.cons ry .nil))) .non⟩
theorem fPop_s : MethS K rPop fPop := by
  intro W sv w u us d ds S H Q z r ra q
  match ds, ra, q with
  | _ :: _, _, q => exact False.elim q
  | [], .nil, q =>
    obtain ⟨j, xs, a, vs, rfl, rfl, h1, g, e, rx, _, q⟩ := withOpen_s z r q
    cases ey : xs[xs.length - 1]? with
    | none => simp only [ey] at q; exact False.elim q
    | some y =>
      simp only [ey] at q
      obtain ⟨v, hv, ry⟩ := rx.get ey
      exact ⟨a, vs, v, rfl, rfl, e, by rw [rx.length]; exact hv, q _ _ _ (Ext.refl w) (z.relist h1 g rx.dropLast) ry⟩
theorem fPopAt_s : MethS K rPopAt fPopAt := by
  intro W sv w u us d ds S H Q z r ra q
  match ds, ra, q with
  | [], _, q => exact False.elim q
  | _ :: _ :: _, _, q => exact False.elim q
  | [x], .cons ry .nil, q =>
    cases x with
    | int i =>
      cases ry
      obtain ⟨j, xs, a, vs, rfl, rfl, h1, g, e, rx, _, q⟩ := withOpen_s z r (show Hold K W sv (Rep K) w Q (popAt d i S) from q)
      obtain ⟨hz, q⟩ := guard_s q
      rw [Bool.and_eq_true, decide_eq_true_eq, decide_eq_true_eq] at hz
      cases ek : seqIndex? i xs.length with
      | none => simp only [ek] at q; exact False.elim q
      | some k =>
        simp only [ek] at q
        cases ey : xs[k]? with
        | none => simp only [ey] at q; exact False.elim q
        | some y =>
          simp only [ey] at q
          obtain ⟨v, hv, ry⟩ := rx.get ey
          exact ⟨a, vs, i, k, v, rfl, rfl, e, hz.1, hz.2, by rw [rx.length]; exact ek, hv, q _ _ _ (Ext.refl w) (z.relist h1 g (rx.eraseIdx k)) ry⟩
    | _ => exact False.elim q
end
end DL
end

section
set_option Elab.async false
set_option linter.all false
set_option maxRecDepth 100000
set_option maxHeartbeats 4000000
namespace DL
open PySem PySem.Spec PyProof.Rows L2

/-! ### statements -/
inductive Fl where
  | next | brk | cont | ret (d : D)
inductive Rt where
  | go (f : Fl) (σ : Loc) (S : Sto)
  | exc (C : Addr) (p : Pay) (σ : Loc) (S : Sto)
  | bad
abbrev S3 := Loc → Sto → Rt
def Rs.toS {α : Type} (r : Rs α) (σ : Loc) (k : α → Sto → Rt) : Rt := match r with
  | .ok a S => k a S
  | .exc C p S => .exc C p σ S
  | .bad => .bad
@[simp] theorem Rs.toS_ok {α : Type} (a : α) (S : Sto) (σ : Loc) (k : α → Sto → Rt) : (Rs.ok a S).toS σ k = k a S := rfl
def HoldS (K : PySem.W.Frag) (W : WX) (w : Wd) (B : Ends) : Rt → Prop
  | .go .next σ S => ∀ w' s' H', Ext w w' → LRel K w' σ s' → WRel K w' S H' → B.nx s' H'
  | .go .brk σ S => ∀ w' s' H', Ext w w' → LRel K w' σ s' → WRel K w' S H' → B.bk s' H'
  | .go .cont σ S => ∀ w' s' H', Ext w w' → LRel K w' σ s' → WRel K w' S H' → B.ct s' H'
  | .go (.ret d) _ S => ∀ w' H' v, Ext w w' → WRel K w' S H' → Rep K w' v d → B.rt v H'
  | .exc C p σ S => ∀ w' s' H' dx, Ext w w' → LRel K w' σ s' → WRel K w' S H' → PayRep K w' H' p dx → W (.ref C) dx s' H'
  | .bad => False
def rdS (K : PySem.W.Frag) (W : WX) (m : S3) : TS := fun B sv H => ∃ w σ S, LRel K w σ sv ∧ WRel K w S H ∧ HoldS K W w B (m σ S)
def PS3 (X : Cx) (W : WX) (st : Stmt) (m : S3) : Prop := PS X st (rdS X.K W m)
def PSs3 (X : Cx) (W : WX) (st : List Stmt) (m : S3) : Prop := PSs X st (rdS X.K W m)
section
variable {K : PySem.W.Frag} {W : WX} {w w1 : Wd} {B : Ends}
theorem HoldS.mono {r : Rt} (h : HoldS K W w B r) (x : Ext w w1) : HoldS K W w1 B r := by
  cases r with
  | go f σ S =>
    cases f with
    | next => exact fun w' s' H' y => h w' s' H' (x.trans y)
    | brk => exact fun w' s' H' y => h w' s' H' (x.trans y)
    | cont => exact fun w' s' H' y => h w' s' H' (x.trans y)
    | ret d => exact fun w' H' v y => h w' H' v (x.trans y)
  | exc C p σ S => exact fun w' s' H' dx y => h w' s' H' dx (x.trans y)
  | bad => exact h
theorem HoldS.step {α β : Type} {R : Wd → β → α → Prop} {Q1 : β → Hp → Prop} {r : Rs α} {σ : Loc} {sv : L2.St} {k : α → Sto → Rt} (l : LRel K w σ sv) (h : HoldS K W w B (r.toS σ k))
    (hk : ∀ a S1 w1 H1 b, Ext w w1 → WRel K w1 S1 H1 → R w1 b a → HoldS K W w1 B (k a S1) → Q1 b H1) : Hold K W sv R w Q1 r := by
  cases r with
  | ok a S => exact fun w' H' b y z t => hk a S w' H' b y z t (HoldS.mono (r := k a S) h y)
  | exc C p S => exact fun w' H' dx y z t => h w' sv H' dx y (l.mono y) z t
  | bad => exact h
end
def mNext : S3 := fun σ S => .go .next σ S
def mSeq (a b : S3) : S3 := fun σ S => match a σ S with
  | .go .next σ1 S1 => b σ1 S1
  | r => r
def mExpr (a : E3) : S3 := fun σ S => (a σ S).toS σ fun _ S1 => .go .next σ S1
def mRet (a : E3) : S3 := fun σ S => (a σ S).toS σ fun d S1 => .go (.ret d) σ S1
def mRetN : S3 := fun σ S => .go (.ret .non) σ S
def mIfS (t : T3) (a b : S3) : S3 := fun σ S => (t σ S).toS σ fun c S1 => if c then a σ S1 else b σ S1
def mBrk : S3 := fun σ S => .go .brk σ S
def mCont : S3 := fun σ S => .go .cont σ S
section
variable {X : Cx} {W : WX} {st : Stmt} {rest : List Stmt} {m n : S3} {e : Expr} {me : E3} {pos : Pos}
theorem ss_nil : PSs3 X W [] mNext := PSs.imp pss_nil fun B sv H ⟨w, σ, S, l, z, q⟩ => q w sv H (Ext.refl w) l z
theorem ss_one (h : PS3 X W st m) : PSs3 X W [st] m := pss_one h
theorem ss_cons (h : PS3 X W st m) (h2 : PSs3 X W rest n) : PSs3 X W (st :: rest) (mSeq m n) :=
  PSs.imp (pss_cons h h2) fun B sv H ⟨w, σ, S, l, z, q⟩ => ⟨w, σ, S, l, z, by
    unfold mSeq at q
    cases e : m σ S with
    | go f σ1 S1 =>
      rw [e] at q
      cases f with
      | next => exact fun w' s' H' y l' z' => ⟨w', σ1, S1, l', z', HoldS.mono q y⟩
      | brk => exact q
      | cont => exact q
      | ret d => exact q
    | exc C p σ1 S1 => rw [e] at q; exact q
    | bad => rw [e] at q; exact q⟩
theorem s_expr (he : PE3 X W e me) (hs : swapsWith e none pos.line X.env = pure false := by rfl) : PS3 X W (.Expr e pos) (mExpr me) :=
  PS.imp (ps_expr he hs) fun B sv H ⟨w, σ, S, l, z, q⟩ => ⟨w, σ, S, l, z, HoldS.step l q fun d S1 w1 H1 u x1 z1 r1 q1 => q1 w1 sv H1 (Ext.refl w1) (l.mono x1) z1⟩
theorem s_ret (he : PE3 X W e me) : PS3 X W (.Return (some e) pos) (mRet me) :=
  PS.imp (ps_ret he) fun B sv H ⟨w, σ, S, l, z, q⟩ => ⟨w, σ, S, l, z, HoldS.step l q fun d S1 w1 H1 u x1 z1 r1 q1 => q1 w1 H1 u (Ext.refl w1) z1 r1⟩
theorem s_retN : PS3 X W (.Return none pos) mRetN := PS.imp ps_retN fun B sv H ⟨w, σ, S, l, z, q⟩ => q w H .non (Ext.refl w) z .non
theorem s_pass : PS3 X W (.Pass pos) mNext := PS.imp ps_pass fun B sv H ⟨w, σ, S, l, z, q⟩ => q w sv H (Ext.refl w) l z
theorem s_brk : PS3 X W (.Break pos) mBrk := PS.imp ps_break fun B sv H ⟨w, σ, S, l, z, q⟩ => q w sv H (Ext.refl w) l z
theorem s_cont : PS3 X W (.Continue pos) mCont := PS.imp ps_continue fun B sv H ⟨w, σ, S, l, z, q⟩ => q w sv H (Ext.refl w) l z
theorem s_if {c : Expr} {a b : List Stmt} {t : T3} (hc : PT3 X W c t) (ha : PSs3 X W a m) (hb : PSs3 X W b n) : PS3 X W (.If c a b pos) (mIfS t m n) :=
  PS.imp (ps_if hc ha hb) fun B sv H ⟨w, σ, S, l, z, q⟩ => ⟨w, σ, S, l, z, HoldS.step l q fun k S1 w1 H1 u x1 z1 r1 q1 => by
    have r1' : u = k := r1
    subst r1'
    cases u with
    | true => exact iteT ⟨w1, σ, S1, l.mono x1, z1, q1⟩
    | false => exact iteF ⟨w1, σ, S1, l.mono x1, z1, q1⟩⟩
end

/-! ### targets -/
abbrev G3 := D → Loc → Option Loc
abbrev Gs3 := List D → Loc → Option Loc
/-- the slots at ps may have changed, no other -/
def But (ps : List Nat) (s s' : L2.St) : Prop := s'.length = s.length ∧ ∀ i, i ∉ ps → s'[i]? = s[i]?
def rdG (K : PySem.W.Frag) (ps : List Nat) (g : G3) : TG := fun v sv H Q => ∃ w σ S d σ', LRel K w σ sv ∧ WRel K w S H ∧ Rep K w v d ∧ g d σ = some σ' ∧ ∀ sv', But ps sv sv' → LRel K w σ' sv' → Q sv' H
def rdGs (K : PySem.W.Frag) (ps : List Nat) (g : Gs3) : TGs := fun vs sv H Q => ∃ w σ S ds σ', LRel K w σ sv ∧ WRel K w S H ∧ RepA K w vs ds ∧ g ds σ = some σ' ∧ ∀ sv', But ps sv sv' → LRel K w σ' sv' → Q sv' H
def PG3 (X : Cx) (tg : Expr) (ps : List Nat) (g : G3) : Prop := PG X tg (rdG X.K ps g)
def PGs3 (X : Cx) (ts : List Expr) (ps : List Nat) (g : Gs3) : Prop := PGs X ts (rdGs X.K ps g)
theorem But.refl (ps : List Nat) (s : L2.St) : But ps s s := ⟨rfl, fun _ _ => rfl⟩
theorem But.set (s : L2.St) (i : Nat) (v : Option V) : But [i] s (s.set i v) := ⟨List.length_set, fun j hj => List.getElem?_set_ne (fun e => hj (by simp [e]))⟩
theorem But.trans {ps qs : List Nat} {s t u : L2.St} (a : But ps s t) (b : But qs t u) : But (ps ++ qs) s u :=
  ⟨b.1.trans a.1, fun i hi => (b.2 i fun h => hi (List.mem_append_right _ h)).trans (a.2 i fun h => hi (List.mem_append_left _ h))⟩
def g3Name (i : Nat) : G3 := fun d σ => some (σ.set i (some d))
def g3Nil : Gs3 := fun ds σ => match ds with
  | [] => some σ
  | _ => none
def g3Cons (g : G3) (r : Gs3) : Gs3 := fun ds σ => match ds with
  | d :: ds => (g d σ).bind fun σ1 => r ds σ1
  | [] => none
def g3Tup (n : Nat) (g : Gs3) : G3 := fun d σ => match d with
  | .tup ds => if ds.length = n then g ds σ else none
  | .wt ds => if ds.length = n then g ds σ else none
  | _ => none
theorem PG.imp {X : Cx} {tg : Expr} {t t' : TG} (h : PG X tg t) (i : ∀ v s H Q, t' v s H Q → t v s H Q) : PG X tg t' := ⟨fun pins s σ H v u Q I r q => h.run pins s σ H v u Q I r (i _ _ _ _ q)⟩
theorem PGs.imp {X : Cx} {tg : List Expr} {t t' : TGs} (h : PGs X tg t) (i : ∀ v s H Q, t' v s H Q → t v s H Q) : PGs X tg t' := ⟨fun pins s σ H v u Q I r q => h.run pins s σ H v u Q I r (i _ _ _ _ q)⟩
section
variable {X : Cx} {pos : Pos}
theorem g_name {i : Nat} {x : Str} (h : PG X (.Name x pos) (gName i)) : PG3 X (.Name x pos) [i] (g3Name i) :=
  PG.imp h fun v sv H Q ⟨w, σ, S, d, σ', l, z, r, e, q⟩ => by
    cases e
    exact q _ (But.set sv i _) (LRel.set r i l)
theorem gs_nil : PGs3 X [] [] g3Nil := PGs.imp pgs_nil fun vs sv H Q ⟨w, σ, S, ds, σ', l, z, r, e, q⟩ => by
  cases ds with
  | nil => cases r; cases e; exact ⟨rfl, q _ (But.refl _ _) l⟩
  | cons _ _ => cases e
theorem gs_cons {e : Expr} {es : List Expr} {ps qs : List Nat} {g : G3} {gs : Gs3} (h1 : PG3 X e ps g) (h2 : PGs3 X es qs gs)
    (hs : (assignEach (e :: es) X.env).map (·.2) = assign e X.env :: (assignEach es X.env).map (·.2) := by rfl) : PGs3 X (e :: es) (ps ++ qs) (g3Cons g gs) :=
  PGs.imp (pgs_cons h1 h2 hs) fun vs sv H Q ⟨w, σ, S, ds, σ', l, z, r, e, q⟩ => by
    cases ds with
    | nil => cases e
    | cons d ds =>
      cases r with
      | cons r1 r2 =>
        have e' : (g d σ).bind (fun σ1 => gs ds σ1) = some σ' := e
        cases e1 : g d σ with
        | none => rw [e1] at e'; cases e'
        | some σ1 =>
          rw [e1] at e'
          exact ⟨_, _, rfl, w, σ, S, d, σ1, l, z, r1, e1, fun sv1 b1 l1 => ⟨w, σ1, S, ds, σ', l1, z, r2, e', fun sv2 b2 l2 => q sv2 (b1.trans b2) l2⟩⟩
theorem g_tup {es : List Expr} {k : Nat} {ps : List Nat} {g : Gs3} {n : Nat} (hc : X.calm = true) (h : PGs3 X es ps g)
    (hn : (assignEach es X.env).length = n := by rfl) (hst : (assignEach es X.env).findIdx? (·.1) = none := by rfl) : PG3 X (.Tuple es k pos) ps (g3Tup n g) :=
  PG.imp (pg_tup hc h hn hst) fun v sv H Q ⟨w, σ, S, d, σ', l, z, r, e, q⟩ => by
    have fin : ∀ ds, isTupD d = true → itemsOf S d = some ds → (if ds.length = n then g ds σ else none) = some σ' → gTup X.K n (rdGs X.K ps g) v sv H Q := fun ds t hi e => by
      by_cases hl : ds.length = n
      · rw [if_pos hl] at e
        obtain ⟨a, vs, rfl, ra, hs⟩ := items_tup z r hi t
        exact ⟨a, vs, rfl, hs, by rw [ra.length, hl], w, σ, S, ds, σ', l, z, ra, e, q⟩
      · rw [if_neg hl] at e; cases e
    cases d with
    | tup ds => exact fin ds rfl rfl e
    | wt ds => exact fin ds rfl rfl e
    | _ => cases e
end
def mAsg (a : E3) (g : G3) : S3 := fun σ S => (a σ S).toS σ fun d S1 => match g d σ with
  | some σ1 => .go .next σ1 S1
  | none => .bad
/-- o[i] = e on an open list -/
def setAt (d i v : D) (S : Sto) : Rs D := match i with
  | .int k => withOpen d S fun j xs => (match ixN xs.length k with
    | some n => .ok .non (S.set j (.lst (xs.set n v)))
    | none => .bad)
  | _ => .bad
def mSetIx (o i e : E3) : S3 := fun σ S => (e σ S).toS σ fun v S1 => (o σ S1).toS σ fun d S2 => (i σ S2).toS σ fun k S3 => (setAt d k v S3).toS σ fun _ S4 => .go .next σ S4
section
variable {X : Cx} {W : WX} {pos : Pos} {e : Expr} {me : E3}
theorem s_asg {tg : Expr} {ps : List Nat} {g : G3} (he : PE3 X W e me) (hg : PG3 X tg ps g) (hs : swapsWithSole [tg] e pos.line X.env = pure false := by rfl) (hw : swappedStores [tg] e X.env = pure none := by rfl)
    (h1 : (assignEach [tg] X.env).map (·.2) = [assign tg X.env] := by rfl) : PS3 X W (.Assign [tg] e pos) (mAsg me g) :=
  PS.imp (ps_asg he hg hs hw h1) fun B sv H ⟨w, σ, S, l, z, q⟩ => ⟨w, σ, S, l, z, HoldS.step l q fun d S1 w1 H1 u x1 z1 r1 q1 => by
    cases e1 : g d σ with
    | none => rw [e1] at q1; exact False.elim q1
    | some σ1 =>
      rw [e1] at q1
      exact ⟨w1, σ, S1, d, σ1, l.mono x1, z1, r1, e1, fun sv' _ l' => q1 w1 sv' H1 (Ext.refl w1) l' z1⟩⟩
theorem s_set {i : Nat} {x : Str} {pos' : Pos} (hN : X.N.Nodup) (hi : X.N[i]? = some x) (hx : L2.Loc X.env.scope x) (he : PE3 X W e me) (hs : swapsWith e (some (.Name x pos')) pos.line X.env = pure false := by rfl) (hf : X.fn x = true ∨ X.env.scope.names.lookup x = some .local := by first | exact .inl rfl | exact .inr rfl | assumption) :
    PS3 X W (.Assign [.Name x pos'] e pos) (mAsg me (g3Name i)) :=
  PS.imp (ps_set hN hi hx he hs hf) fun B sv H ⟨w, σ, S, l, z, q⟩ => ⟨w, σ, S, l, z, HoldS.step l q fun d S1 w1 H1 u x1 z1 r1 q1 => q1 w1 _ H1 (Ext.refl w1) (LRel.set r1 i (l.mono x1)) z1⟩
theorem s_setIx {o i : Expr} {mo mi : E3} {tp : Pos} (he : PE3 X W e me) (ho : PE3 X W o mo) (hi : PE3 X W i mi) (hs : swapsWithSole [.Subscript o i tp] e pos.line X.env = pure false := by rfl) (hw : swappedStores [.Subscript o i tp] e X.env = pure none := by rfl)
    (h1 : (assignEach [.Subscript o i tp] X.env).map (·.2) = [assign (.Subscript o i tp) X.env] := by rfl)
    (ha : ∀ v, assign (.Subscript o i tp) X.env v = (do
      let ov ← holding [v] (eval o X.env)
      let iv ← holding [v, ov] (eval i X.env)
      standAt tp
      holding [v, ov, iv] (setItem ov iv v)
      release [v, ov, iv] []) := by intro _; rfl) : PS3 X W (.Assign [.Subscript o i tp] e pos) (mSetIx mo mi me) :=
  PS.imp (ps_asg he (pg_sub ho hi set_list ha) hs hw h1) fun B sv H ⟨w, σ, S, l, z, q⟩ => ⟨w, σ, S, l, z, HoldS.step l q fun v S1 w1 H1 u x1 z1 r1 q1 =>
    ⟨w1, σ, S1, l.mono x1, z1, HoldS.step (l.mono x1) q1 fun d S2 w2 H2 p x2 z2 r2 q2 => ⟨w2, σ, S2, l.mono (x1.trans x2), z2, HoldS.step (l.mono (x1.trans x2)) q2 fun k S3 w3 H3 y x3 z3 r3 q3 => by
      cases k with
      | int n =>
        cases r3
        have q3' := HoldS.step (R := Rep X.K) (Q1 := fun v' H' => ∃ w4 S4, Ext w3 w4 ∧ WRel X.K w4 S4 H' ∧ HoldS X.K W w4 B (.go .next σ S4)) (l.mono ((x1.trans x2).trans x3)) q3 fun d' S4 w4 H4 b x4 z4 r4 q4 => ⟨w4, S4, x4, z4, q4⟩
        obtain ⟨j, xs, a, vs, rfl, rfl, h1, g, eH, rx, _, q5⟩ := withOpen_s z3 (r2.mono x3) (show Hold X.K W sv (Rep X.K) w3 (fun v' H' => ∃ w4 S4, Ext w3 w4 ∧ WRel X.K w4 S4 H' ∧ HoldS X.K W w4 B (.go .next σ S4)) (withOpen d S3 fun j xs => (match ixN xs.length n with
          | some m => .ok .non (S3.set j (.lst (xs.set m v)))
          | none => .bad)) from q3')
        cases en : ixN xs.length n with
        | none => simp only [en] at q5; exact False.elim q5
        | some m =>
          simp only [en] at q5
          obtain ⟨w4, S4, x4, z4, q6⟩ := q5 w3 _ .non (Ext.refl w3) (z3.relist h1 g (RepA.set (r1.mono (x2.trans x3)) m rx)) .non
          exact ⟨a, vs, n, m, rfl, rfl, eH, by rw [rx.length]; exact en, q6 w4 sv _ (Ext.refl w4) (l.mono (((x1.trans x2).trans x3).trans x4)) z4⟩
      | _ => exact False.elim q3⟩⟩⟩
/-- x += e -/
def mAug (i : Nat) (f : O3) (a : E3) : S3 := fun σ S => match σ[i]? with
  | some (some d) => (a σ S).toS σ fun e S1 => (f d e S1).toS σ fun v S2 => .go .next (σ.set i (some v)) S2
  | _ => .bad
theorem s_aug {i : Nat} {x : Str} {op : Operator} {ti : TIp} {f : O3} {pos' : Pos} (hN : X.N.Nodup) (hi : X.N[i]? = some x) (hx : L2.Loc X.env.scope x) (he : PE3 X W e me) (ho : PIp X op ti) (s : OpS X.K ti f) (hf : X.fn x = true ∨ X.env.scope.names.lookup x = some .local := by first | exact .inl rfl | exact .inr rfl | assumption) :
    PS3 X W (.AugAssign (.Name x pos') op e pos) (mAug i f me) :=
  PS.imp (ps_aug hN hi hx he ho hf) fun B sv H ⟨w, σ, S, l, z, q⟩ => by
    unfold mAug at q
    cases e1 : σ[i]? with
    | none => rw [e1] at q; exact False.elim q
    | some o =>
      cases o with
      | none => rw [e1] at q; exact False.elim q
      | some d =>
        rw [e1] at q
        obtain ⟨v, hv, rv⟩ := l.get e1
        refine ⟨v, hv, w, σ, S, l, z, HoldS.step l q fun e' S1 w1 H1 u x1 z1 r1 q1 => ?_⟩
        refine s W sv w1 v u d e' S1 H1 _ z1 (rv.mono x1) r1 (HoldS.step (l.mono x1) q1 fun d2 S2 w2 H2 u2 x2 z2 r2 q2 => ?_)
        exact q2 w2 _ H2 (Ext.refl w2) (LRel.set r2 i (l.mono (x1.trans x2))) z2
end

/-! ### while -/
def mWhileN (t : T3) (b : S3) : Nat → Loc → Sto → Rt
  | 0, _, _ => .bad
  | n + 1, σ, S => (t σ S).toS σ fun c S1 => if c then (match b σ S1 with
      | .go .next σ2 S2 => mWhileN t b n σ2 S2
      | .go .cont σ2 S2 => mWhileN t b n σ2 S2
      | .go .brk σ2 S2 => .go .next σ2 S2
      | r => r) else .go .next σ S1
section
variable {X : Cx} {W : WX} {pos : Pos}
theorem s_while (n : Nat) {c : Expr} {body : List Stmt} {t : T3} {m : S3} (hp : PassesOwn (model X.prog X.w) X.A X.env X.xe) (hc : PT3 X W c t) (hb : PSs3 X W body m) : PS3 X W (.While c body [] pos) (mWhileN t m n) :=
  PS.imp (ps_while hp hc hb) fun B sv H h => by
    refine ⟨fun k sv H => rdS X.K W (mWhileN t m k) B sv H, ⟨n, h⟩, ?_⟩
    rintro k sv H ⟨w, σ, S, l, z, q⟩
    cases k with
    | zero => exact False.elim q
    | succ k =>
      refine ⟨w, σ, S, l, z, HoldS.step l q fun b S1 w1 H1 u x1 z1 r1 q1 => ?_⟩
      have r1' : u = b := r1
      subst r1'
      cases u with
      | false => exact iteF (q1 w1 sv H1 (Ext.refl w1) (l.mono x1) z1)
      | true =>
        refine iteT ⟨fun sv' H' => rdS X.K W (mWhileN t m k) B sv' H', fun sv' H' h => ⟨k, Nat.lt_succ_self k, h⟩, w1, σ, S1, l.mono x1, z1, ?_⟩
        rw [if_pos rfl] at q1
        cases e : m σ S1 with
        | go f σ2 S2 =>
          rw [e] at q1
          cases f with
          | next => exact fun w' s' H' y l' z' => ⟨w', σ2, S2, l', z', HoldS.mono q1 y⟩
          | cont => exact fun w' s' H' y l' z' => ⟨w', σ2, S2, l', z', HoldS.mono q1 y⟩
          | brk => exact q1
          | ret d => exact q1
        | exc C p σ2 S2 => rw [e] at q1; exact q1
        | bad => rw [e] at q1; exact q1
end

/-! ### what is walked -/
def IsWalk (K : PySem.W.Frag) (w : Wd) (J : It) (ds : List D) : Prop :=
  ∀ i w1 S H, Grow w w1 → WRel K w1 S H → (ds.length ≤ i → J.stop i H) ∧ ∀ d, ds[i]? = some d → J.go i H ∧ ∀ x H', J.yld i H x H' → ∃ w2, Ext w1 w2 ∧ WRel K w2 S H' ∧ Rep K w2 x d
def PI3 (X : Cx) (W : WX) (tg it : Expr) (m : A3) : Prop := PI X tg it (rd X.K W (IsWalk X.K) m)
theorem PI.imp {X : Cx} {tg e : Expr} {t t' : TI} (h : PI X tg e t) (i : ∀ s H Q, t' s H Q → t s H Q) : PI X tg e t' := ⟨fun pins s σ H R I q => h.run pins s σ H R I (i _ _ _ q)⟩
/-- a thing that stays as it is: its address, its items -/
theorem walk_l {K : PySem.W.Frag} {w : Wd} {a : Addr} {vs : List V} {ds : List D} (h : SqL K w.G a vs) (r : RepA K w vs ds) : IsWalk K w (Itl K a) ds := fun i w1 S H x z => by
  have hs : SqL K H a vs := z.same.seq (x.same.seq h)
  refine ⟨fun hi => ⟨vs, hs, by rw [r.length]; exact hi⟩, fun d e => ?_⟩
  obtain ⟨v, hv, rv⟩ := r.get e
  refine ⟨⟨vs, v, hs, hv⟩, fun y H' q => ?_⟩
  obtain ⟨rfl, q⟩ := q
  have e2 : v = y := Option.some.inj (hv.symm.trans (q vs hs))
  subst e2
  exact ⟨w1, Ext.refl w1, z, rv.monoG x⟩
theorem walk_t {K : PySem.W.Frag} {w : Wd} {a : Addr} {vs : List V} {ds : List D} (h : SqT K w.G a vs) (r : RepA K w vs ds) : IsWalk K w (Itt K a) ds := fun i w1 S H x z => by
  have hs : SqT K H a vs := seqT z.same (seqT x.same h)
  refine ⟨fun hi => ⟨vs, hs, by rw [r.length]; exact hi⟩, fun d e => ?_⟩
  obtain ⟨v, hv, rv⟩ := r.get e
  refine ⟨⟨vs, v, hs, hv⟩, fun y H' q => ?_⟩
  obtain ⟨rfl, q⟩ := q
  have e2 : v = y := Option.some.inj (hv.symm.trans (q vs hs))
  subst e2
  exact ⟨w1, Ext.refl w1, z, rv.monoG x⟩
/-- rngD from lo on -/
def rngD (lo : Int) (n : Nat) : List D := (List.range n).map fun (i : Nat) => D.int (lo + (i : Int))
theorem walk_r {K : PySem.W.Frag} {w : Wd} {lo : Int} {n : Nat} : IsWalk K w (Itr lo n) (rngD lo n) := fun i w1 S H x z => by
  have hl : (rngD lo n).length = n := by unfold rngD; rw [List.length_map, List.length_range]
  refine ⟨fun hi => by rw [hl] at hi; exact hi, fun d e => ?_⟩
  have hi : i < n := by rw [← hl]; exact (List.getElem?_eq_some_iff.mp e).1
  have e2 : d = .int (lo + i) := by
    unfold rngD at e
    rw [List.getElem?_map, List.getElem?_range hi] at e
    exact (Option.some.inj e).symm
  subst e2
  refine ⟨hi, fun y H' q => ?_⟩
  obtain ⟨rfl, rfl⟩ := q
  exact ⟨w1, Ext.refl w1, z, .int _⟩
/-- a list that is read from now on only -/
theorem WRel.freeze {K : PySem.W.Frag} {w : Wd} {S : Sto} {H : Hp} (z : WRel K w S H) {k : Nat} {a : Addr} {vs : List V} {xs : List D} (h1 : w.am[k]? = some a) (g : w.G a = none) (e : H a = some (.lst vs)) (r : RepA K w vs xs) :
    WRel K (w.put a (.lst vs)) (S.set k (.frz xs)) H ∧ Ext w (w.put a (.lst vs)) := by
  have x : Ext w (w.put a (.lst vs)) := ⟨fun b u e' => by show upd w.G a _ b = _; rw [upd_ne (ne_of_none e' g)]; exact e', List.prefix_refl _, rfl⟩
  refine ⟨⟨fun b u e' => ?_, by rw [List.length_set]; exact z.len, z.nd, fun j b ob e1 e2 => ?_, fun q hq => ?_, z.hnd⟩, x⟩
  · have e'' : upd w.G a (.lst vs) b = some u := e'
    by_cases hb : b = a
    · subst hb; rw [upd_same] at e''; cases e''; exact e
    · rw [upd_ne hb] at e''; exact z.same _ _ e''
  · by_cases hj : j = k
    · subst hj
      have e3 : a = b := Option.some.inj (h1.symm.trans e1)
      subst e3
      rw [List.getElem?_set_self (by rw [← z.len]; exact (List.getElem?_eq_some_iff.mp h1).1)] at e2
      have e4 : Ob.frz xs = ob := Option.some.inj e2
      subst e4
      exact ⟨vs, upd_same, r.mono x⟩
    · rw [List.getElem?_set_ne (Ne.symm hj)] at e2
      have hb : b ≠ a := fun q => by
        subst q
        exact hj (nd_ix z.nd e1 h1)
      exact (z.obs j b ob e1 e2).stay x (fun g' => by show upd w.G a _ b = none; rw [upd_ne hb]; exact g') fun u e => e
  · obtain ⟨e', g', m⟩ := z.hid q hq
    have hp : q.1 ≠ a := fun h => m (h ▸ List.mem_of_getElem? h1)
    exact ⟨e', by show upd w.G a _ q.1 = none; rw [upd_ne hp]; exact g', m⟩
/-- what a for walks over a list: an open one is read only from then on -/
def walkL (d : D) (S : Sto) : Rs (List D) := match d with
  | .lst xs => .ok xs S
  | .wl xs => .ok xs S
  | .ref k => (match S[k]? with
    | some (.lst xs) => .ok xs (S.set k (.frz xs))
    | some (.frz xs) => .ok xs S
    | _ => .bad)
  | _ => .bad
def walkT (d : D) (S : Sto) : Rs (List D) := match d with
  | .tup xs => .ok xs S
  | .wt xs => .ok xs S
  | _ => .bad
def mWalkL (a : E3) : A3 := fun σ S => (a σ S).bind walkL
def mWalkT (a : E3) : A3 := fun σ S => (a σ S).bind walkT
def rg2 (i j : Int) (S : Sto) : Rs (List D) := if (decide (-(2 ^ 62) ≤ i) && decide (i < 2 ^ 62)) && (decide (-(2 ^ 62) ≤ j) && decide (j < 2 ^ 62)) then .ok (rngD i (j - i).toNat) S else .bad
def rgA1 : List D → Sto → Rs (List D) := fun ds S => match ds with
  | [d] => (match d with
    | .int j => rg2 0 j S
    | _ => .bad)
  | _ => .bad
def rgA2 : List D → Sto → Rs (List D) := fun ds S => match ds with
  | [d, e] => (match d with
    | .int i => (match e with
      | .int j => rg2 i j S
      | _ => .bad)
    | _ => .bad)
  | _ => .bad
def mRange1 (a : A3) : A3 := fun σ S => (a σ S).bind rgA1
def mRange2 (a : A3) : A3 := fun σ S => (a σ S).bind rgA2
section
variable {X : Cx} {W : WX} {tg e e2 : Expr} {me me2 : E3}
theorem walkL_r (sv : L2.St) (H : Hp) (Q : It → Hp → Prop) (h : rd X.K W (IsWalk X.K) (mWalkL me) sv H Q) : iList X.K (rdE X.K W me) sv H Q := by
  obtain ⟨w, σ, S, l, z, q⟩ := h
  exact ⟨w, σ, S, l, z, Hold.step q fun d S1 w1 H1 u x1 z1 r1 q1 => by
    cases d with
    | lst xs =>
      cases r1 with
      | lst h1 h2 => exact ⟨_, rfl, ⟨_, SqL.of (z1.same _ _ h1)⟩, Hold.at_ (show Hold X.K W sv (IsWalk X.K) w1 Q (.ok xs S1) from q1) z1 (walk_l (SqL.of h1) h2)⟩
    | wl xs =>
      cases r1 with
      | wl h1 h2 => exact ⟨_, rfl, ⟨_, z1.same.seq h1⟩, Hold.at_ (show Hold X.K W sv (IsWalk X.K) w1 Q (.ok xs S1) from q1) z1 (walk_l h1 h2)⟩
    | ref k =>
      cases r1 with
      | ref h1 =>
        obtain ⟨o, _, e1, q, _⟩ := z1.there h1
        have q' : Hold X.K W sv (IsWalk X.K) w1 Q (match S1[k]? with
          | some (.lst xs) => .ok xs (S1.set k (.frz xs))
          | some (.frz xs) => .ok xs S1
          | _ => .bad) := q1
        rw [e1] at q'
        cases o with
        | lst xs =>
          obtain ⟨g, vs, e2, ra⟩ := q
          obtain ⟨z2, x2⟩ := z1.freeze h1 g e2 ra
          exact ⟨_, rfl, ⟨vs, SqL.of e2⟩, q' _ _ _ x2 z2 (walk_l (SqL.of upd_same) (ra.mono x2))⟩
        | frz xs =>
          obtain ⟨vs, e2, ra⟩ := q
          exact ⟨_, rfl, ⟨vs, SqL.of (z1.same _ _ e2)⟩, Hold.at_ q' z1 (walk_l (SqL.of e2) ra)⟩
        | ins C fs => exact False.elim q'
    | _ => exact False.elim q1⟩
theorem walkT_r (sv : L2.St) (H : Hp) (Q : It → Hp → Prop) (h : rd X.K W (IsWalk X.K) (mWalkT me) sv H Q) : iTup X.K (rdE X.K W me) sv H Q := by
  obtain ⟨w, σ, S, l, z, q⟩ := h
  exact ⟨w, σ, S, l, z, Hold.step q fun d S1 w1 H1 u x1 z1 r1 q1 => by
    cases d with
    | tup xs =>
      cases r1 with
      | tup h1 h2 => exact ⟨_, rfl, ⟨_, SqT.of (z1.same _ _ h1)⟩, Hold.at_ (show Hold X.K W sv (IsWalk X.K) w1 Q (.ok xs S1) from q1) z1 (walk_t (SqT.of h1) h2)⟩
    | wt xs =>
      cases r1 with
      | wt h1 h2 => exact ⟨_, rfl, ⟨_, seqT z1.same h1⟩, Hold.at_ (show Hold X.K W sv (IsWalk X.K) w1 Q (.ok xs S1) from q1) z1 (walk_t h1 h2)⟩
    | _ => exact False.elim q1⟩
theorem i_list (h : PE3 X W e me) : PI3 X W tg e (mWalkL me) := PI.imp (pi_list h) walkL_r
theorem i_tup (h : PE3 X W e me) : PI3 X W tg e (mWalkT me) := PI.imp (pi_tup h) walkT_r
theorem rg2_s {K : PySem.W.Frag} {sv : L2.St} {w : Wd} {S : Sto} {H : Hp} {Q : It → Hp → Prop} {i j : Int} (z : WRel K w S H) (q : Hold K W sv (IsWalk K) w Q (rg2 i j S)) : (-(2 ^ 62) ≤ i ∧ i < 2 ^ 62 ∧ -(2 ^ 62) ≤ j ∧ j < 2 ^ 62) ∧ Q (Itr i (j - i).toNat) H := by
  unfold rg2 at q
  by_cases hj : ((decide (-(2 ^ 62) ≤ i) && decide (i < 2 ^ 62)) && (decide (-(2 ^ 62) ≤ j) && decide (j < 2 ^ 62))) = true
  · rw [if_pos hj] at q
    simp only [Bool.and_eq_true, decide_eq_true_eq] at hj
    exact ⟨⟨hj.1.1, hj.1.2, hj.2.1, hj.2.2⟩, Hold.at_ q z walk_r⟩
  · rw [if_neg hj] at q; exact False.elim q
theorem i_range1 {p pos : Pos} {ms : A3} (hg : Gl X "range") (hm : X.mg "range" = none) (h : PA3 X W [e] ms) (hs : starEach [e] X.env = [(false, eval e X.env)] := by rfl) : PI3 X W tg (.Call (.Name "range" p) [e] [] pos) (mRange1 ms) :=
  PI.imp (pi_range1 hg hm h hs) fun sv H Q ⟨w, σ, S, l, z, q⟩ => ⟨w, σ, S, l, z, Hold.step q fun ds S1 w1 H1 us x1 z1 r1 q1 => by
    match ds, us, r1, q1 with
    | [], _, _, q1 => exact False.elim q1
    | [d], _, .cons r2 .nil, q1 =>
      cases d with
      | int j =>
        cases r2
        obtain ⟨h1, h2⟩ := rg2_s z1 (show Hold X.K W sv (IsWalk X.K) w1 Q (rg2 0 j S1) from q1)
        exact ⟨j, rfl, h1.2.2.1, h1.2.2.2, by simpa using h2⟩
      | _ => exact False.elim q1
    | _ :: _ :: _, _, _, q1 => exact False.elim q1⟩
theorem i_range2 {p pos : Pos} {ms : A3} (hg : Gl X "range") (hm : X.mg "range" = none) (h : PA3 X W [e, e2] ms) (hs : starEach [e, e2] X.env = [(false, eval e X.env), (false, eval e2 X.env)] := by rfl) (hs2 : starEach [e2] X.env = [(false, eval e2 X.env)] := by rfl) :
    PI3 X W tg (.Call (.Name "range" p) [e, e2] [] pos) (mRange2 ms) :=
  PI.imp (pi_range2 hg hm h hs hs2) fun sv H Q ⟨w, σ, S, l, z, q⟩ => ⟨w, σ, S, l, z, Hold.step q fun ds S1 w1 H1 us x1 z1 r1 q1 => by
    match ds, us, r1, q1 with
    | [], _, _, q1 => exact False.elim q1
    | [_], _, _, q1 => exact False.elim q1
    | [d, e], _, .cons r2 (.cons r3 .nil), q1 =>
      cases d with
      | int i =>
        cases r2
        cases e with
        | int j =>
          cases r3
          obtain ⟨h1, h2⟩ := rg2_s z1 (show Hold X.K W sv (IsWalk X.K) w1 Q (rg2 i j S1) from q1)
          exact ⟨i, j, rfl, h1, h2⟩
        | _ => exact False.elim q1
      | _ => exact False.elim q1
    | _ :: _ :: _ :: _, _, _, q1 => exact False.elim q1⟩
end

/-! ### for -/
def forD (g : G3) (b : S3) : List D → Loc → Sto → Rt
  | [], σ, S => .go .next σ S
  | d :: ds, σ, S => match g d σ with
    | none => .bad
    | some σ1 => match b σ1 S with
      | .go .next σ2 S2 => forD g b ds σ2 S2
      | .go .cont σ2 S2 => forD g b ds σ2 S2
      | .go .brk σ2 S2 => .go .next σ2 S2
      | r => r
def mFor (it : A3) (g : G3) (b : S3) : S3 := fun σ S => (it σ S).toS σ fun ds S1 => forD g b ds σ S1
section
variable {X : Cx} {W : WX} {pos : Pos}
theorem s_for {tg it : Expr} {body : List Stmt} {mi : A3} {ps : List Nat} {g : G3} {m : S3} (hp : PassesOwn (model X.prog X.w) X.A X.env X.xe) (hc : X.calm = true) (hi : PI3 X W tg it mi) (hg : PG3 X tg ps g) (hb : PSs3 X W body m)
    (hs : ∀ x, foldedSetIterable it X.env x = pure x := by intro _; rfl) : PS3 X W (.For tg it body [] pos) (mFor mi g m) :=
  PS.imp (ps_for hp hc hi hg hb hs) fun B sv H ⟨w, σ, S, l, z, q⟩ => ⟨w, σ, S, l, z, HoldS.step l q fun ds S1 w1 H1 J x1 z1 j1 q1 => by
    refine ⟨fun i k sv' H' => ∃ w2 σ2 S2, Ext w1 w2 ∧ LRel X.K w2 σ2 sv' ∧ WRel X.K w2 S2 H' ∧ k = ds.length - i ∧ HoldS X.K W w2 B (forD g m (ds.drop i) σ2 S2), ⟨ds.length, w1, σ, S1, Ext.refl w1, l.mono x1, z1, by simp, by simpa using q1⟩, ?_⟩
    rintro i k sv' H' ⟨w2, σ2, S2, x2, l2, z2, rfl, q2⟩
    obtain ⟨stop, go⟩ := j1 i w2 S2 H' x2.grow z2
    by_cases hi : i < ds.length
    · have ed : ds[i]? = some ds[i] := List.getElem?_eq_getElem hi
      obtain ⟨g1, g2⟩ := go _ ed
      refine .inr ⟨g1, fun sv3 H3 => ∃ w3 σ3 S3, Ext w1 w3 ∧ LRel X.K w3 σ3 sv3 ∧ WRel X.K w3 S3 H3 ∧ HoldS X.K W w3 B (forD g m (ds.drop (i + 1)) σ3 S3),
        fun sv3 H3 ⟨w3, σ3, S3, x3, l3, z3, q3⟩ => ⟨ds.length - (i + 1), by omega, w3, σ3, S3, x3, l3, z3, rfl, q3⟩, fun y H3 hy => ?_⟩
      obtain ⟨w3, x3, z3, r3⟩ := g2 y H3 hy
      rw [List.drop_eq_getElem_cons hi] at q2
      unfold forD at q2
      cases eg : g ds[i] σ2 with
      | none => rw [eg] at q2; exact False.elim q2
      | some σ3 =>
        rw [eg] at q2
        refine ⟨w3, σ2, S2, ds[i], σ3, l2.mono x3, z3, r3, eg, fun sv4 _ l4 => ⟨w3, σ3, S2, l4, z3, ?_⟩⟩
        have q2 := HoldS.mono q2 x3
        cases em : m σ3 S2 with
        | go f σ5 S5 =>
          simp only [em] at q2
          cases f with
          | next => exact fun w' s' H' y l' z' => ⟨w', σ5, S5, (x2.trans x3).trans y, l', z', HoldS.mono q2 y⟩
          | cont => exact fun w' s' H' y l' z' => ⟨w', σ5, S5, (x2.trans x3).trans y, l', z', HoldS.mono q2 y⟩
          | brk => exact q2
          | ret d => exact q2
        | exc C p σ5 S5 => simp only [em] at q2; exact q2
        | bad => simp only [em] at q2; exact q2
    · rw [List.drop_eq_nil_of_le (by omega)] at q2
      exact .inl ⟨stop (by omega), q2 w2 sv' H' (Ext.refl w2) l2 z2⟩⟩
end
end DL
end

section
set_option Elab.async false
set_option linter.all false
set_option maxRecDepth 100000
set_option maxHeartbeats 4000000
namespace DL
open PySem PySem.Spec PyProof.Rows L2

/-! ### comprehensions -/
/-- nothing may be raised -/
def WF : WX := fun _ _ _ _ => False
def wipeD (σ : Loc) : List Nat → Loc
  | [] => σ
  | v :: vs => (wipeD σ vs).set v none
theorem LRel.wipeAll {K : PySem.W.Frag} {w : Wd} {σ : Loc} {s : L2.St} (l : LRel K w σ s) : ∀ vs : List Nat, LRel K w (wipeD σ vs) (L2.wipe s vs)
  | [] => l
  | v :: vs => LRel.wipe v (l.wipeAll vs)
theorem wipe_get (s : L2.St) (i : Nat) : ∀ vs : List Nat, i ∉ vs → (wipe s vs)[i]? = s[i]?
  | [], _ => rfl
  | v :: vs, h => by
    unfold wipe
    rw [List.getElem?_set_ne (fun e => h (by simp [e]))]
    exact wipe_get s i vs fun q => h (List.mem_cons_of_mem _ q)
theorem wipe_in (s : L2.St) (i : Nat) : ∀ vs : List Nat, i ∈ vs → i < s.length → (wipe s vs)[i]? = some none
  | [], h, _ => nomatch h
  | v :: vs, h, hl => by
    unfold wipe
    by_cases e : v = i
    · subst e
      rw [List.getElem?_set_self (by rw [wipe_length]; exact hl)]
    · rw [List.getElem?_set_ne e]
      exact wipe_in s i vs ((List.mem_cons.mp h).resolve_left fun q => e q.symm) hl
theorem wipe_but {ps vs : List Nat} {s s' : L2.St} (b : But ps (wipe s vs) s') (h : ∀ i ∈ ps, i ∈ vs) : wipe s' vs = wipe s vs := by
  have hl : s'.length = s.length := by rw [b.1, wipe_length]
  apply List.ext_getElem?
  intro i
  by_cases hi : i ∈ vs
  · by_cases hk : i < s.length
    · rw [wipe_in s' i vs hi (by omega), wipe_in s i vs hi hk]
    · rw [List.getElem?_eq_none (by rw [wipe_length]; omega), List.getElem?_eq_none (by rw [wipe_length]; omega)]
  · rw [wipe_get s' i vs hi, b.2 i fun q => hi (h i q), wipe_get s i vs hi]
def compD (g : G3) (t : T3) (e : E3) : List D → List D → Loc → Sto → Rs (List D)
  | [], acc, _, S => .ok acc S
  | d :: ds, acc, σ, S => match g d σ with
    | none => .bad
    | some σ1 => match t σ1 S with
      | .ok true S1 => (match e σ1 S1 with
        | .ok y S2 => if acc.length < sizeLine then compD g t e ds (acc ++ [y]) σ S2 else .bad
        | _ => .bad)
      | .ok false S1 => compD g t e ds acc σ S1
      | _ => .bad
def endC (op : Bool) (ys : List D) (S : Sto) : Rs D := if op then .ok (.ref S.length) (S ++ [.lst ys]) else .ok (.lst ys) S
def mComp (op : Bool) (it : A3) (g : G3) (t : T3) (e : E3) (vs : List Nat) : E3 := fun σ S => (it σ S).bind fun ds S1 => (compD g t e ds [] (wipeD σ vs) S1).bind (endC op)
def tTrue3 : T3 := fun _ S => .ok true S
theorem endC_s {K : PySem.W.Frag} {W : WX} {sv : L2.St} {w : Wd} {S : Sto} {H : Hp} {Q : VK} {op : Bool} {p : Addr} {vs : List V} {ys : List D} {l : List (Addr × HO)} (z : WRel K w S H) (e : w.hs = (p, .lst vs) :: l) (r : RepA K w vs ys)
    {w0 : Wd} (x : Grow w0 w) (hl : w0.hs = l) (h : Hold K W sv (Rep K) w0 Q (endC op ys S)) : Q (.ref p) H := by
  cases op with
  | true =>
    obtain ⟨z2, g⟩ := z.open_ e r
    refine h _ _ _ ⟨(x.trans g).same, (x.trans g).pre, hl.symm⟩ z2 (.ref ?_)
    show (w.am ++ [p])[S.length]? = some p
    rw [← z.len, List.getElem?_append_right (Nat.le_refl _), Nat.sub_self]
    rfl
  | false =>
    obtain ⟨z2, g⟩ := z.show_ e
    exact h _ _ _ ⟨(x.trans g).same, (x.trans g).pre, hl.symm⟩ z2 (.lst upd_same (r.monoG g))
theorem Hold.ofG {K : PySem.W.Frag} {W : WX} {sv : L2.St} {α β : Type} {R : Wd → β → α → Prop} {Q : β → Hp → Prop} {w w' : Wd} {r : Rs α} (h : Hold K W sv R w Q r) (x : Grow w w') (e : w'.hs = w.hs) : Hold K W sv R w' Q r := h.mono ⟨x.same, x.pre, e⟩
def PTs3 (X : Cx) (W : WX) (ifs : List Expr) (m : T3) : Prop := PTs X ifs (rdT X.K W m)
theorem PTs.imp {X : Cx} {ifs : List Expr} {t t' : TT} (h : PTs X ifs t) (i : ∀ s H Q, t' s H Q → t s H Q) : PTs X ifs t' := ⟨fun pins s σ H Q I q => h.run pins s σ H Q I (i _ _ _ q)⟩
section
variable {X : Cx} {W : WX} {pos : Pos}
theorem ts_nil : PTs3 X W [] tTrue3 := PTs.imp pts_nil fun sv H Q ⟨w, σ, S, l, z, q⟩ => q.at_ z rfl
theorem ts_one {c : Expr} {m : T3} (h : PT3 X W c m) : PTs3 X W [c] m := pts_one h
theorem comp3 {K : PySem.W.Frag} {mi : A3} {ps : List Nat} {g : G3} {mt : T3} {me : E3} {vs : List Nat} {op : Bool} (hp : ∀ i ∈ ps, i ∈ vs) (sv : L2.St) (H : Hp) (Q : VK) (h : rdE K W (mComp op mi g mt me vs) sv H Q) :
    tLc (rd K W (IsWalk K) mi) (rdG K ps g) (rdT K WF mt) (rdE K WF me) vs sv H Q := by
  obtain ⟨w, σ, S, l, z, q⟩ := h
  refine ⟨w, σ, S, l, z, Hold.step q fun ds S1 w1 H1 J x1 z1 j1 q1 p np => ?_⟩
  refine ⟨fun i m H' => ∃ w2 S2 av acc, w2.hs = (p, .lst av) :: w1.hs ∧ Grow w1 w2 ∧ WRel K w2 S2 H' ∧ RepA K w2 av acc ∧ m = ds.length - i ∧
    ∀ w3, Grow w1 w3 → w3.hs = w1.hs → Hold K W sv (Rep K) w3 Q ((compD g mt me (ds.drop i) acc (wipeD σ vs) S2).bind (endC op)),
    ⟨ds.length, w1.hide p (.lst []), S1, [], [], rfl, ⟨Same.refl _, List.prefix_refl _⟩, z1.hide np _, .nil, by simp, fun w3 g3 e3 => by simpa using Hold.ofG q1 g3 e3⟩, ?_⟩
  rintro i m H' ⟨w2, S2, av, acc, hh, g2, z2, ra, rfl, q2⟩
  obtain ⟨stop, go⟩ := j1 i w2 S2 H' g2 z2
  have keep : Grow w1 ⟨w2.G, w2.am, w1.hs⟩ := ⟨g2.same, g2.pre⟩
  by_cases hi : i < ds.length
  · have ed : ds[i]? = some ds[i] := List.getElem?_eq_getElem hi
    obtain ⟨go1, go2⟩ := go _ ed
    refine .inr ⟨go1, fun H3 => ∃ w4 S4 av4 acc4, w4.hs = (p, .lst av4) :: w1.hs ∧ Grow w1 w4 ∧ WRel K w4 S4 H3 ∧ RepA K w4 av4 acc4 ∧
        ∀ w3, Grow w1 w3 → w3.hs = w1.hs → Hold K W sv (Rep K) w3 Q ((compD g mt me (ds.drop (i + 1)) acc4 (wipeD σ vs) S4).bind (endC op)),
      fun H3 ⟨w4, S4, av4, acc4, a, b, c, d, e⟩ => ⟨ds.length - (i + 1), by omega, w4, S4, av4, acc4, a, b, c, d, rfl, e⟩, fun y H3 hy => ?_⟩
    obtain ⟨w3, x3, z3, r3⟩ := go2 y H3 hy
    have q3 := q2 w1 ⟨Same.refl _, List.prefix_refl _⟩ rfl
    rw [List.drop_eq_getElem_cons hi] at q3
    unfold compD at q3
    have q2' := q2
    rw [List.drop_eq_getElem_cons hi] at q2'
    unfold compD at q2'
    cases eg : g ds[i] (wipeD σ vs) with
    | none => simp only [eg] at q3; exact False.elim q3
    | some σ3 =>
      simp only [eg] at q3 q2'
      have lw : LRel K w3 (wipeD σ vs) (wipe sv vs) := (l.wipeAll vs).monoG (x1.grow.trans (g2.trans x3.grow))
      refine ⟨w3, wipeD σ vs, S2, ds[i], σ3, lw, z3, r3, eg, fun sv3 b3 l3 => ⟨wipe_but b3 hp, w3, σ3, S2, l3, z3, ?_⟩⟩
      cases et : mt σ3 S2 with
      | bad => simp only [et] at q3; exact False.elim q3
      | exc C pp S5 => simp only [et] at q3; exact False.elim q3
      | ok b S5 =>
        simp only [et] at q3 q2'
        intro w5 H5 b' x5 z5 eb
        have eb' : b' = b := eb
        subst eb'
        have g5 : Grow w1 w5 := g2.trans (x3.grow.trans x5.grow)
        have h5 : w5.hs = (p, .lst av) :: w1.hs := by rw [x5.hid, x3.hid]; exact hh
        cases b' with
        | false => exact iteF ⟨w5, S5, av, acc, h5, g5, z5, ra.monoG (x3.grow.trans x5.grow), q2'⟩
        | true =>
          refine iteT ⟨w5, σ3, S5, l3.mono x5, z5, ?_⟩
          cases ee : me σ3 S5 with
          | bad => simp only [ee] at q3; exact False.elim q3
          | exc C pp S6 => simp only [ee] at q3; exact False.elim q3
          | ok y6 S6 =>
            simp only [ee] at q3 q2'
            intro w6 H6 v6 x6 z6 r6
            have h6 : w6.hs = (p, .lst av) :: w1.hs := by rw [x6.hid]; exact h5
            have ra6 := ra.monoG (x3.grow.trans (x5.grow.trans x6.grow))
            have hH := (z6.hid (p, .lst av) (by rw [h6]; exact List.mem_cons_self)).1
            by_cases hz : acc.length < sizeLine
            · rw [if_pos hz] at q3
              refine ⟨av, hH, by rw [ra6.length]; exact hz, ⟨w6.G, w6.am, (p, .lst (av ++ [v6])) :: w1.hs⟩, S6, av ++ [v6], acc ++ [y6], rfl, ?_, z6.rehide h6, ?_, fun w7 g7 e7 => ?_⟩
              · have g6 := g5.trans x6.grow
                exact ⟨g6.same, g6.pre⟩
              · exact RepA.alike (u := w6) (u' := ⟨w6.G, w6.am, (p, .lst (av ++ [v6])) :: w1.hs⟩) rfl rfl (ra6.append (.cons r6 .nil))
              · have := q2' w7 g7 e7
                rw [if_pos hz] at this
                exact this
            · rw [if_neg hz] at q3; exact False.elim q3
  · refine .inl ⟨stop (by omega), ?_⟩
    have q3 := q2 w1 ⟨Same.refl _, List.prefix_refl _⟩ rfl
    rw [List.drop_eq_nil_of_le (by omega)] at q3
    exact endC_s z2 hh ra g2 rfl q3
theorem e_comp (op : Bool) {elt tg iter : Expr} {ifs : List Expr} {scope : Scope} {own : List (Str × Nat)} {mi : A3} {ps : List Nat} {g : G3} {mt : T3} {me : E3} (hc : X.calm = true) (hN : X.N.Nodup) (hi : PI3 X W tg iter mi) (ok : BlkOk X.N X.env.scope scope own)
    (hg : ∀ (s : Shared) (H : Hp) (C : Addr) (cl : List (Str × Addr)) (fp : List Addr), PG3 (X.blk s H scope (compEnvC scope cl C X.env) fp) tg ps g)
    (ht : ∀ (s : Shared) (H : Hp) (C : Addr) (cl : List (Str × Addr)) (fp : List Addr), PTs3 (X.blk s H scope (compEnvC scope cl C X.env) fp) WF ifs mt)
    (he : ∀ (s : Shared) (H : Hp) (C : Addr) (cl : List (Str × Addr)) (fp : List Addr), PE3 (X.blk s H scope (compEnvC scope cl C X.env) fp) WF elt me)
    (hp : ∀ i ∈ ps, i ∈ own.map (·.2) := by decide) (hs : ∀ x, foldedSetIterable iter X.env x = pure x := by intro _; rfl) : PE3 X W (.ListComp elt [⟨tg, iter, ifs, 0⟩] scope pos) (mComp op mi g mt me (own.map (·.2))) :=
  PE.imp (pe_lc (g := rdG X.K ps g) (tt := rdT X.K WF mt) (te := rdE X.K WF me) hc hN hi ok hg ht he hs) fun sv H Q h => comp3 hp sv H Q h
/-- y = [..] -/
theorem s_setComp (op : Bool) {i : Nat} {y : Str} {py spos : Pos} {elt tg iter : Expr} {ifs : List Expr} {scope : Scope} {own : List (Str × Nat)} {mi : A3} {ps : List Nat} {g : G3} {mt : T3} {me : E3} (hc : X.calm = true) (hN : X.N.Nodup) (hy : X.N[i]? = some y) (hyl : X.env.scope.names.lookup y = some .local)
    (hsw : swapsWith (.ListComp elt [⟨tg, iter, ifs, 0⟩] scope pos) (some (.Name y py)) spos.line X.env = pure true) (hi : PI3 X W tg iter mi) (ok : BlkOk X.N X.env.scope scope own)
    (hg : ∀ (s : Shared) (H : Hp) (C : Addr) (cl : List (Str × Addr)) (fp : List Addr), PG3 (X.blk s H scope (compEnvC scope cl C X.env) fp) tg ps g)
    (ht : ∀ (s : Shared) (H : Hp) (C : Addr) (cl : List (Str × Addr)) (fp : List Addr), PTs3 (X.blk s H scope (compEnvC scope cl C X.env) fp) WF ifs mt)
    (he : ∀ (s : Shared) (H : Hp) (C : Addr) (cl : List (Str × Addr)) (fp : List Addr), PE3 (X.blk s H scope (compEnvC scope cl C X.env) fp) WF elt me)
    (hp : ∀ i ∈ ps, i ∈ own.map (·.2) := by decide) (hs : ∀ x, foldedSetIterable iter X.env x = pure x := by intro _; rfl) :
    PS3 X W (.Assign [.Name y py] (.ListComp elt [⟨tg, iter, ifs, 0⟩] scope pos) spos) (mAsg (mComp op mi g mt me (own.map (·.2))) (g3Name i)) :=
  PS.imp (ps_setLc (g := rdG X.K ps g) (tt := rdT X.K WF mt) (te := rdE X.K WF me) hc hN hy hyl hsw hi ok hg ht he hs) fun B sv H ⟨w, σ, S, l, z, q⟩ =>
    comp3 hp sv H _ ⟨w, σ, S, l, z, HoldS.step l q fun d S1 w1 H1 u x1 z1 r1 q1 => q1 w1 _ H1 (Ext.refl w1) (LRel.set r1 i (l.mono x1)) z1⟩
end
end DL
end

section
set_option Elab.async false
set_option linter.all false
set_option maxRecDepth 100000
set_option maxHeartbeats 4000000
namespace DL
open PySem PySem.Spec PyProof.Rows L2

/-! ### what a def leaves: its own open objects go, a list of them that it tells never changes any more -/
mutual
def closedD (n : Nat) : D → Bool
  | .ref k => decide (k < n)
  | .tup xs => closedA n xs
  | .lst xs => closedA n xs
  | .wl xs => closedA n xs
  | .wt xs => closedA n xs
  | _ => true
def closedA (n : Nat) : List D → Bool
  | [] => true
  | d :: ds => closedD n d && closedA n ds
end
def closedF (n : Nat) (fs : List (Str × D)) : Bool := fs.all fun p => closedD n p.2
def Ob.closed (n : Nat) : Ob → Bool
  | .lst xs => closedA n xs
  | .frz xs => closedA n xs
  | .ins _ fs => closedF n fs
def cut (w : Wd) (n : Nat) : Wd := ⟨w.G, w.am.take n, w.hs⟩
section
variable {K : PySem.W.Frag} {w : Wd} {n : Nat}
theorem take_at {α : Type} {l : List α} {n k : Nat} {a : α} (h : l[k]? = some a) (hk : k < n) : (l.take n)[k]? = some a := by
  rw [List.getElem?_take_of_lt hk]; exact h
mutual
theorem rep_cut : ∀ {d : D} {v : V}, closedD n d = true → Rep K w v d → Rep K (cut w n) v d
  | .non, _, _, r => by cases r; exact .non
  | .bl _, _, _, r => by cases r; exact .bl _
  | .int _, _, _, r => by cases r; exact .int _
  | .str _, _, _, r => by cases r; exact .str _
  | .ty _, _, _, r => by cases r; exact .ty _
  | .adr _, _, _, r => by cases r; exact .adr _
  | .ref k, _, c, r => by
    cases r with
    | ref e => exact .ref (take_at e (by simpa [closedD] using c))
  | .tup xs, _, c, r => by
    cases r with
    | tup h1 h2 => exact .tup h1 (repA_cut (by simpa [closedD] using c) h2)
  | .lst xs, _, c, r => by
    cases r with
    | lst h1 h2 => exact .lst h1 (repA_cut (by simpa [closedD] using c) h2)
  | .wl xs, _, c, r => by
    cases r with
    | wl h1 h2 => exact .wl h1 (repA_cut (by simpa [closedD] using c) h2)
  | .wt xs, _, c, r => by
    cases r with
    | wt h1 h2 => exact .wt h1 (repA_cut (by simpa [closedD] using c) h2)
theorem repA_cut : ∀ {ds : List D} {vs : List V}, closedA n ds = true → RepA K w vs ds → RepA K (cut w n) vs ds
  | [], _, _, r => by cases r; exact .nil
  | d :: ds, _, c, r => by
    cases r with
    | cons h1 h2 =>
      simp only [closedA, Bool.and_eq_true] at c
      exact .cons (rep_cut c.1 h1) (repA_cut c.2 h2)
end
theorem repF_cut : ∀ {fs : List (Str × D)} {fv : List (Str × V)}, closedF n fs = true → RepF K w fv fs → RepF K (cut w n) fv fs
  | [], [], _, _ => trivial
  | (g, d) :: fs, (f, v) :: fv, c, h => by
    simp only [closedF, List.all_cons, Bool.and_eq_true] at c
    exact ⟨h.1, rep_cut c.1 h.2.1, repF_cut (by simpa [closedF] using c.2) h.2.2⟩
mutual
theorem closed_of : ∀ {d : D} {v : V}, Rep K w v d → closedD w.am.length d = true
  | .non, _, _ => by simp [closedD]
  | .bl _, _, _ => by simp [closedD]
  | .int _, _, _ => by simp [closedD]
  | .str _, _, _ => by simp [closedD]
  | .ty _, _, _ => by simp [closedD]
  | .adr _, _, _ => by simp [closedD]
  | .ref k, _, r => by
    cases r with
    | ref e =>
      simp only [closedD, decide_eq_true_eq]
      exact (List.getElem?_eq_some_iff.mp e).1
  | .tup xs, _, r => by
    cases r with
    | tup h1 h2 => simpa [closedD] using closedA_of h2
  | .lst xs, _, r => by
    cases r with
    | lst h1 h2 => simpa [closedD] using closedA_of h2
  | .wl xs, _, r => by
    cases r with
    | wl h1 h2 => simpa [closedD] using closedA_of h2
  | .wt xs, _, r => by
    cases r with
    | wt h1 h2 => simpa [closedD] using closedA_of h2
theorem closedA_of : ∀ {ds : List D} {vs : List V}, RepA K w vs ds → closedA w.am.length ds = true
  | [], _, _ => rfl
  | d :: ds, _, r => by
    cases r with
    | cons h1 h2 => simp only [closedA, closed_of h1, closedA_of h2, Bool.and_self]
end
theorem closedF_of : ∀ {fs : List (Str × D)} {fv : List (Str × V)}, RepF K w fv fs → closedF w.am.length fs = true
  | [], [], _ => rfl
  | (g, d) :: fs, (f, v) :: fv, h => by
    have := closedF_of h.2.2
    unfold closedF at this ⊢
    rw [List.all_cons, closed_of h.2.1, this]; rfl
theorem closedO_of {H : Hp} {a : Addr} {o : Ob} (r : ObRep K w H a o) : o.closed w.am.length = true := by
  cases o with
  | lst ds => obtain ⟨_, _, _, q⟩ := r; exact closedA_of q
  | ins C fs => obtain ⟨_, _, _, _, q⟩ := r; exact closedF_of q
  | frz ds => obtain ⟨_, _, q⟩ := r; exact closedA_of q
end
def keepOk (S S' : Sto) : Prop := S.length ≤ S'.length ∧ ∀ k, k < S.length → S'[k]? = S[k]? ∨ ∃ o, S'[k]? = some o ∧ o.closed S.length = true
theorem WRel.cut {K : PySem.W.Frag} {w w' : Wd} {S S' : Sto} {H H' : Hp} (z : WRel K w S H) (x : Ext w w') (z' : WRel K w' S' H') (k : keepOk S S') : WRel K (cut w' S.length) (S'.take S.length) H' ∧ Ext w (DL.cut w' S.length) := by
  have hpre : w.am <+: w'.am.take S.length := by
    obtain ⟨r, hr⟩ := x.pre
    rw [← hr, ← z.len, List.take_left' rfl]
    exact List.prefix_refl _
  refine ⟨⟨z'.same, ?_, z'.nd.sublist (List.take_sublist _ _), fun j a o e1 e2 => ?_, fun p hp => ?_, z'.hnd⟩, x.same, hpre, x.hid⟩
  · show (w'.am.take S.length).length = _
    rw [List.length_take, List.length_take, z'.len]
  · have e1' : (w'.am.take S.length)[j]? = some a := e1
    have hj : j < S.length := by
      have := (List.getElem?_eq_some_iff.mp e1').1
      rw [List.length_take] at this
      omega
    rw [List.getElem?_take_of_lt hj] at e1' e2
    have r := z'.obs j a o e1' e2
    have c : o.closed S.length = true := by
      rcases k.2 j hj with h | ⟨o', h, c⟩
      · rw [h] at e2
        have hj' : j < w.am.length := by rw [z.len]; exact hj
        have h3 : w.am[j]? = some w.am[j] := List.getElem?_eq_getElem hj'
        have := closedO_of (z.obs j _ o h3 e2)
        rw [z.len] at this
        exact this
      · rw [h] at e2; cases e2; exact c
    cases o with
    | lst ds => obtain ⟨g, vs, e, q⟩ := r; exact ⟨g, vs, e, repA_cut c q⟩
    | ins C fs => obtain ⟨g, dx, fv, e, q⟩ := r; exact ⟨g, dx, fv, e, repF_cut c q⟩
    | frz ds => obtain ⟨vs, e, q⟩ := r; exact ⟨vs, e, repA_cut c q⟩
  · obtain ⟨e, g, m⟩ := z'.hid p hp
    exact ⟨e, g, fun hm => m (List.mem_of_mem_take hm)⟩
open Classical in
noncomputable def fin (S : Sto) (d : D) (S' : Sto) : Rs D :=
  if S'.length = S.length then .ok d S'
  else if keepOk S S' then
    (if closedD S.length d = true then .ok d (S'.take S.length) else (match d with
      | .ref k => (match S'[k]? with
        | some (.lst ds) => if closedA S.length ds = true then .ok (.lst ds) (S'.take S.length) else .bad
        | some (.frz ds) => if closedA S.length ds = true then .ok (.lst ds) (S'.take S.length) else .bad
        | _ => .bad)
      | _ => .bad))
  else .bad
def closedP (n : Nat) : Pay → Bool
  | none => true
  | some fs => closedF n fs
open Classical in
noncomputable def finX (S : Sto) (C : Addr) (p : Pay) (S' : Sto) : Rs D :=
  if S'.length = S.length then .exc C p S'
  else if keepOk S S' then (if closedP S.length p = true then .exc C p (S'.take S.length) else .bad)
  else .bad
/-- the function of a def: keep: what it makes stays open (as a list that is handed back and written later) -/
noncomputable def defF (keep : Bool) (extra : Nat) (m : S3) : C3 := fun ds S => match m (ds.map some ++ List.replicate extra none) S with
  | .go (.ret d) _ S' => if keep then .ok d S' else fin S d S'
  | .go .next _ S' => if keep then .ok .non S' else fin S .non S'
  | .exc C p _ S' => if keep then .exc C p S' else finX S C p S'
  | _ => .bad
section
variable {K : PySem.W.Frag} {W : WX} {sv : L2.St} {w w' : Wd} {S S' : Sto} {H H' : Hp} {Q : VK} {d : D} {v : V}
theorem fin_s (z : WRel K w S H) (x : Ext w w') (z' : WRel K w' S' H') (r : Rep K w' v d) (h : Hold K W sv (Rep K) w Q (fin S d S')) : Q v H' := by
  unfold fin at h
  by_cases h1 : S'.length = S.length
  · rw [if_pos h1] at h
    exact h w' H' v x z' r
  · rw [if_neg h1] at h
    by_cases h2 : keepOk S S'
    · rw [if_pos h2] at h
      obtain ⟨z2, x2⟩ := z.cut x z' h2
      by_cases h3 : closedD S.length d = true
      · rw [if_pos h3] at h
        exact h _ H' v x2 z2 (rep_cut h3 r)
      · rw [if_neg h3] at h
        cases d with
        | ref k =>
          cases r with
          | ref e =>
            rename_i a
            obtain ⟨o, _, e1, q, _⟩ := z'.there e
            simp only [e1] at h
            have hk : ¬ k < S.length := fun q => h3 (by simpa [closedD] using q)
            have hna : a ∉ w'.am.take S.length := fun hm => by
              obtain ⟨j, ej⟩ := List.getElem?_of_mem hm
              have hj : j < S.length := by
                have := (List.getElem?_eq_some_iff.mp ej).1
                rw [List.length_take] at this
                omega
              rw [List.getElem?_take_of_lt hj] at ej
              exact hk (nd_ix z'.nd e ej ▸ hj)
            have fz : ∀ vs ds, H' a = some (.lst vs) → RepA K w' vs ds → (w'.G a = none ∨ w'.G a = some (.lst vs)) → Hold K W sv (Rep K) w Q (if closedA S.length ds = true then .ok (.lst ds) (S'.take S.length) else .bad) → Q (.ref a) H' := fun vs ds eH ra hg h => by
              by_cases h4 : closedA S.length ds = true
              · rw [if_pos h4] at h
                have x3 : Ext (DL.cut w' S.length) ((DL.cut w' S.length).put a (.lst vs)) := ⟨fun b u eb => by
                  show upd w'.G a _ b = _
                  by_cases hb : b = a
                  · subst hb
                    have eb' : w'.G b = some u := eb
                    rcases hg with hg | hg
                    · rw [hg] at eb'; cases eb'
                    · rw [hg] at eb'; cases eb'; exact upd_same
                  · rw [upd_ne hb]; exact eb, List.prefix_refl _, rfl⟩
                refine h ((DL.cut w' S.length).put a (.lst vs)) H' _ (x2.trans x3) ⟨fun b u eb => ?_, z2.len, z2.nd, fun j b ob f1 f2 => ?_, fun p hp => ?_, z2.hnd⟩ (.lst upd_same ((repA_cut h4 ra).mono x3))
                · have eb' : upd w'.G a (.lst vs) b = some u := eb
                  by_cases hb : b = a
                  · subst hb; rw [upd_same] at eb'; cases eb'; exact eH
                  · rw [upd_ne hb] at eb'; exact z'.same _ _ eb'
                · have hb : b ≠ a := fun q => hna (q ▸ List.mem_of_getElem? f1)
                  exact (z2.obs j b ob f1 f2).stay x3 (fun g => by show upd w'.G a _ b = none; rw [upd_ne hb]; exact g) fun u e => e
                · obtain ⟨e', g, m⟩ := z2.hid p hp
                  have hp' : p.1 ≠ a := fun q => (z'.hid p hp).2.2 (q ▸ List.mem_of_getElem? e)
                  exact ⟨e', by show upd w'.G a _ p.1 = none; rw [upd_ne hp']; exact g, m⟩
              · rw [if_neg h4] at h; exact False.elim h
            cases o with
            | lst ds => obtain ⟨g, vs, e2, ra⟩ := q; exact fz vs ds e2 ra (.inl g) h
            | frz ds => obtain ⟨vs, e2, ra⟩ := q; exact fz vs ds (z'.same _ _ e2) ra (.inr e2) h
            | ins C fs => exact False.elim h
        | _ => exact False.elim h
    · rw [if_neg h2] at h; exact False.elim h
theorem finX_s {C : Addr} {p : Pay} {dx : Option Addr} (z : WRel K w S H) (x : Ext w w') (z' : WRel K w' S' H') (r : PayRep K w' H' p dx) (h : Hold K W sv (Rep K) w Q (finX S C p S')) : W (.ref C) dx sv H' := by
  unfold finX at h
  by_cases h1 : S'.length = S.length
  · rw [if_pos h1] at h
    exact h w' H' dx x z' r
  · rw [if_neg h1] at h
    by_cases h2 : keepOk S S'
    · rw [if_pos h2] at h
      obtain ⟨z2, x2⟩ := z.cut x z' h2
      by_cases h3 : closedP S.length p = true
      · rw [if_pos h3] at h
        refine h _ H' dx x2 z2 ?_
        cases p with
        | none => exact r
        | some fs =>
          obtain ⟨d, fv, e1, e2, q⟩ := r
          exact ⟨d, fv, e1, e2, repF_cut h3 q⟩
      · rw [if_neg h3] at h; exact False.elim h
    · rw [if_neg h2] at h; exact False.elim h
end
end DL
end

section
set_option Elab.async false
set_option linter.all false
set_option maxRecDepth 100000
set_option maxHeartbeats 4000000
namespace DL
open PySem PySem.Spec PyProof.Rows L2

/-! ### defs and their calls -/
structure RoomG (k : Nat) (A : Around) : Prop where
  room : Room k A
  free : A.guards = some []
theorem RoomG.mono {j k : Nat} {A : Around} (r : RoomG k A) (h : j ≤ k) : RoomG j A := ⟨r.room.mono h, r.free⟩
theorem RoomG.deeper {k : Nat} {A : Around} (r : RoomG (k + 1) A) (env : Env) : RoomG k (A.deeper env) := ⟨r.room.deeper env, r.free⟩
abbrev outW (E : XK) : WX := fun c d _ H => E c d H
/-- the def at f does to data what F says -/
structure FnOk3 (P : Program) (w : World) (K : PySem.W.Frag) (mg : Str → Option Value) (base : Heap) (k : Nat) (f : Addr) (fd : FuncData) (ps : List Str) (F : C3) : Prop where
  run : ∀ (A : Around) (outer : List Env) (s : Shared) (H : Hp) (args : Args) (us : List Value) (vs : List V) (Q : VK) (E : XK) (wd : Wd) (ds : List D) (S : Sto),
    RoomG k A → Env0 P w K mg base A outer s H → BindsTo s fd args (ps.zip us) → Vals vs us → vs.length = ps.length →
    RepA K wd vs ds → WRel K wd S H → Hold K (outW E) [] (Rep K) wd Q (F ds S) →
    codeAny (model P w) A (.call (.ref f) args) (CR (L2.CX P w) outer P w H s Q E) s
theorem FnOk3.mono {P : Program} {w : World} {K : PySem.W.Frag} {mg : Str → Option Value} {base : Heap} {j k : Nat} {f : Addr} {fd : FuncData} {ps : List Str} {F : C3}
    (h : FnOk3 P w K mg base j f fd ps F) (q : j ≤ k) : FnOk3 P w K mg base k f fd ps F :=
  ⟨fun A outer s H args us vs Q E wd ds S r => h.run A outer s H args us vs Q E wd ds S (r.mono q)⟩
/-- .. by its mirror -/
theorem FnOk3.as {P : Program} {w : World} {K : PySem.W.Frag} {mg : Str → Option Value} {base : Heap} {k : Nat} {f : Addr} {fd : FuncData} {ps : List Str} {F F' : C3}
    (h : FnOk3 P w K mg base k f fd ps F) (q : ∀ ds S, F' ds S = .bad ∨ F ds S = F' ds S) : FnOk3 P w K mg base k f fd ps F' :=
  ⟨fun A outer s H args us vs Q E wd ds S r e b rv hl ra z hh => h.run A outer s H args us vs Q E wd ds S r e b rv hl ra z (by
    rcases q ds S with q | q
    · rw [q] at hh; exact False.elim hh
    · rw [q]; exact hh)⟩

section
variable {P : Program} {w : World} {K : PySem.W.Frag} {mg : Str → Option Value} {base : Heap}
/-- a def of the text: its body's term m; keep: what it makes stays open -/
theorem fn3 (keep : Bool) {x qual : Str} {st : Stmt} {f : Addr} {fd : FuncData} {N ps : List Str} {k : Nat} {m : S3} (F : Fun K x qual st f fd) (sc : FnScope N ps (defScope st))
    (body : ∀ (cdv : Value) (A : Around) (outer : List Env) (s : Shared) (H : Hp) (E : XK), RoomG k (A.deeper (envOfC qual (defScope st) s.heap.objs.size f cdv)) →
      PSs3 (cxOf (L2.CX P w) P w K mg base N qual (defScope st) f cdv A outer s H E) (outW E) (defBody st) m) :
    FnOk3 P w K mg base (k + 1) f fd ps (defF keep (N.length - ps.length) m) := by
  obtain ⟨oc, od, kV, doc, pm, an, cdv, ct, osl, rfl, lk, hcd⟩ := F.ex
  refine ⟨fun A outer s H args us vs Q E wd ds S hr e0 hb rv hl ra z hh => ?_⟩
  have KX : K.In s.heap := e0.mod.kin.keeps fun b o q => (e0.bs b o q).1
  have lim : s.heap.NoLimit := e0.mod.nolimit.keeps fun b o q => (e0.bs b o q).1
  have kinds : ∀ y ∈ ps.zip us, (defScope st).names.lookup y.1 = some .local ∨
      ((defScope st).names.lookup y.1 = some .cell ∧ ((cellsFrom (s.heap.objs.size + 1) (defScope st).names []).lookup y.1).isSome = true) := by
    rintro ⟨n, v⟩ hy
    rcases sc.par n (List.of_mem_zip hy).1 with q | q
    · exact Or.inl q
    · exact Or.inr ⟨q, PySem.W.cellsFrom_some _ _ _ (Or.inl q)⟩
  refine codeAny_call_function hr.room.depth (KX _ _ lk) rfl sc.co sc.gen rfl (PySem.W.codeRec_of KX hcd) (hb _ _ _ _ ?_)
  refine wpAny_newFunctionEnv_cells sc.kind kinds fun env he s1 hx => ?_
  subst he
  refine ⟨lim.keeps hx.toInCall.keep, codeAny_func ?_⟩
  have t := body cdv A outer s H E (hr.deeper _)
  have I : Inv (cxOf (L2.CX P w) P w K mg base N qual (defScope st) f cdv A outer s H E) [] (L2.start N vs) H s1 := inv_start sc hr.room.hd e0 hl rv hx
  have hds : ds.length = ps.length := ra.length.symm.trans hl
  have l0 : LRel K wd (ds.map some ++ List.replicate (N.length - ps.length) none) (L2.start N vs) := by
    unfold L2.start
    rw [hl]
    exact LRel.start _ ra
  have hq : rdS K (outW E) m { nx := fun _ H' => Q .non H', rt := Q } (L2.start N vs) H := by
    refine ⟨wd, _, S, l0, z, ?_⟩
    unfold defF at hh
    cases em : m (ds.map some ++ List.replicate (N.length - ps.length) none) S with
    | bad => rw [em] at hh; exact False.elim hh
    | exc C p σ' S' =>
      rw [em] at hh
      cases keep with
      | true => exact fun w' s' H' dx y _ z' r => hh w' H' dx y z' r
      | false => exact fun w' s' H' dx y _ z' r => finX_s (sv := []) (W := outW E) z y z' r hh
    | go fl σ' S' =>
      rw [em] at hh
      cases fl with
      | next =>
        cases keep with
        | true => exact fun w' s' H' y _ z' => hh w' H' .non y z' .non
        | false => exact fun w' s' H' y _ z' => fin_s z y z' .non hh
      | ret d =>
        cases keep with
        | true => exact fun w' H' v y z' r => hh w' H' v y z' r
        | false => exact fun w' H' v y z' r => fin_s z y z' r hh
      | brk => exact False.elim hh
      | cont => exact False.elim hh
  refine wpAny_mono (t.run [] s1 (L2.start N vs) H _ I hq) (fun fl s' hs => ?_) fun e s' hs => hs
  have done : ∀ {σ' : L2.St} {H' : Hp} {v : V} {u : Value}, Inv (cxOf (L2.CX P w) P w K mg base N qual (defScope st) f cdv A outer s H E) [] σ' H' s' → RelV v u → Q v H' → CE outer P w H s Q u s' := by
    intro σ' H' v u J r q
    exact ⟨v, H', J.os, J.bare, J.base, J.hok, r, q⟩
  cases fl with
  | next =>
    obtain ⟨_, _, J, q⟩ := hs
    exact done (v := .non) (u := .none) J rfl q
  | ret u =>
    obtain ⟨v, _, H', J, r, q⟩ := hs
    exact done J r q
  | brk =>
    obtain ⟨_, _, _, q⟩ := hs
    exact q.elim
  | cont =>
    obtain ⟨_, _, _, q⟩ := hs
    exact q.elim
end

section
variable {X : Cx} {W : WX} {k : Nat} {f : Addr} {fd : FuncData} {ps : List Str} {F : C3} {x : Str} {p pos : Pos} {e : Expr} {es : List Expr} {ms : A3} {dv : List V} {dd : List D} {du : List Value}
theorem run3 {pins : List (Addr × Obj)} {σ : L2.St} {H : Hp} {s : Shared} {Q : VK} {us : List Value} {vs : List V} {wd : Wd} {ds : List D} {S : Sto} (G : FnOk3 X.prog X.w X.K X.mg X.base k f fd ps F) (hr : RoomG k X.A) (tk : Takes X W)
    (hb : Binds X.K fd ps du) (hd : Vals dv du) (hl : (vs ++ dv).length = ps.length) (I : Inv X pins σ H s) (r : Vals vs us) (ra : RepA X.K wd (vs ++ dv) ds) (z : WRel X.K wd S H) (h : Hold X.K W σ (Rep X.K) wd Q (F ds S)) :
    wpAny (model X.prog X.w) X.A (call (.ref f) us) (EP X pins σ Q) X.xe s := by
  have r2 : Vals (vs ++ dv) (us ++ du) := r.append hd
  have hl2 : (us ++ du).length = ps.length := by rw [← r2.length]; exact hl
  have hh : Hold X.K (outW fun c d H => W c d σ H) [] (Rep X.K) wd Q (F ds S) := by
    cases q : F ds S with
    | ok d S' => rw [q] at h; exact h
    | exc C p S' => rw [q] at h; exact h
    | bad => rw [q] at h; exact h
  refine wpAny_call (codeAny_mono (G.run X.A X.stack s H ⟨us, []⟩ (us ++ du) (vs ++ dv) Q _ wd ds S hr I.env0 (hb s us I.kIn hl2) r2 hl ra z hh) fun res s' q => ?_)
  cases res with
  | error err => exact passAt tk σ pins H s err s' I q
  | ok fl =>
    cases fl with
    | ret u => exact I.after q
    | next => exact q.elim
    | brk => exact q.elim
    | cont => exact q.elim
def withLen (n : Nat) (F : C3) : C3 := fun ds S => if ds.length = n then F ds S else .bad
theorem e_callD (G : FnOk3 X.prog X.w X.K X.mg X.base k f fd ps F) (hr : RoomG k X.A) (tk : Takes X W) (hg : Gl X x) (hm : X.mg x = some (.ref f)) (hk : PySem.W.keepIn X.K (.ref f) = true)
    (hb : Binds X.K fd ps du) (hd : Vals dv du) (hdd : ∀ w, RepA X.K w dv dd) (ha : PA3 X W (e :: es) ms)
    (hdb : (x == ("__debug__" : Str)) = false := by decide) (he : starEach (e :: es) X.env = (false, eval e X.env) :: starEach es X.env := by rfl) (hpl : (backTo pos (starEach es X.env)).any (·.1) = false := by rfl) :
    PE3 X W (.Call (.Name x p) (e :: es) [] pos) (mMake (fun ds => withLen ps.length F (ds ++ dd)) ms) := by
  refine ⟨fun pins s σ H Q I h => ?_⟩
  obtain ⟨wd, l, S, lr, z, q⟩ := h
  refine wpAny_Call_Name_kw (ld_glob I hg hm ?_ hdb)
  refine PySem.W.callWith_K (h₀ := X.base) I.ok.mod.kin hk ?_ he hpl
  refine thn (ha.run pos pins s σ H (fun vs H1 => ∃ w1 ds S1, RepA X.K w1 vs ds ∧ WRel X.K w1 S1 H1 ∧ Hold X.K W σ (Rep X.K) w1 Q (withLen ps.length F (ds ++ dd) S1)) I ⟨wd, l, S, lr, z, ?_⟩) ?_
  · exact Hold.step q fun ds S1 w1 H1 vs x1 z1 r1 q1 => ⟨w1, ds, S1, r1, z1, q1⟩
  · rintro us s1 ⟨vs, H1, I1, r, w1, ds, S1, ra, z1, q1⟩
    refine ⟨I1.kIn, ?_⟩
    unfold withLen at q1
    by_cases hl : (ds ++ dd).length = ps.length
    · rw [if_pos hl] at q1
      have ra2 := ra.append (hdd w1)
      exact run3 G hr tk hb hd (ra2.length.trans hl) I1 r ra2 z1 q1
    · rw [if_neg hl] at q1; exact False.elim q1
/-- f(e, ..), all arguments written -/
theorem e_call (G : FnOk3 X.prog X.w X.K X.mg X.base k f fd ps F) (hr : RoomG k X.A) (tk : Takes X W) (hg : Gl X x) (hm : X.mg x = some (.ref f)) (hk : PySem.W.keepIn X.K (.ref f) = true)
    (hb : Binds X.K fd ps []) (ha : PA3 X W (e :: es) ms) (hn : (e :: es).length = ps.length) (hlen : ∀ σ S ds S', ms σ S = .ok ds S' → ds.length = (e :: es).length)
    (hdb : (x == ("__debug__" : Str)) = false := by decide) (he : starEach (e :: es) X.env = (false, eval e X.env) :: starEach es X.env := by rfl) (hpl : (backTo pos (starEach es X.env)).any (·.1) = false := by rfl) :
    PE3 X W (.Call (.Name x p) (e :: es) [] pos) (mMake F ms) := by
  have h := e_callD (dv := []) (dd := []) (du := []) (p := p) (pos := pos) G hr tk hg hm hk hb .nil (fun _ => .nil) ha hdb he hpl
  refine PE.imp h fun sv H Q ⟨w, σ, S, l, z, q⟩ => ⟨w, σ, S, l, z, ?_⟩
  unfold mMake at q ⊢
  cases ea : ms σ S with
  | bad => rw [ea] at q; exact q
  | exc C p S' => rw [ea] at q; exact q
  | ok ds S' =>
    rw [ea] at q
    have hl := hlen σ S ds S' ea
    show Hold X.K W sv (Rep X.K) w Q (withLen ps.length F (ds ++ []) S')
    unfold withLen
    rw [List.append_nil, if_pos (hl.trans hn)]
    exact q
theorem len_nil {σ : Loc} {S : Sto} {ds : List D} {S' : Sto} (h : mNil σ S = .ok ds S') : ds.length = 0 := by
  cases h; rfl
theorem len_cons {a : E3} {r : A3} {n : Nat} (hr : ∀ σ S ds S', r σ S = .ok ds S' → ds.length = n) (σ : Loc) (S : Sto) (ds : List D) (S' : Sto) (h : mCons a r σ S = .ok ds S') : ds.length = n + 1 := by
  unfold mCons at h
  cases ea : a σ S with
  | bad => rw [ea] at h; cases h
  | exc C p S1 => rw [ea] at h; cases h
  | ok d S1 =>
    rw [ea] at h
    cases er : r σ S1 with
    | bad => simp only [Rs.bind_ok, er] at h; cases h
    | exc C p S2 => simp only [Rs.bind_ok, er] at h; cases h
    | ok es S2 =>
      simp only [Rs.bind_ok, er] at h
      cases h
      rw [List.length_cons, hr σ S1 es _ er]
end

/-! ### a law -/
theorem repInts {K : PySem.W.Frag} {w : Wd} : ∀ ns : List Int, RepA K w (ns.map V.int) (ns.map D.int)
  | [] => .nil
  | n :: ns => .cons (.int n) (repInts ns)
section
variable {P : Program} {w : World} {K : PySem.W.Frag} {mg mb : Str → Option Value} {k : Nat} {fa a : Addr} {fd : FuncData} {x : Str} {F : C3} {s1 : Shared} {vs : List Value} {ns : List Int}
theorem law3 (KX : K.In s1.heap) (hns : s1.heap.Ns mainGlobals mg) (hb : s1.heap.Ns builtinsNs mb) (hbb : ∀ x : Str, x ≠ "__name__" → mb x = bootBuiltins x) (hlim : s1.heap.NoLimit) (hg : s1.gens = #[])
    (ha : s1.heap.get? a = some { cls := .type "list", data := .seq vs.toArray }) (hi : IntsAre vs ns) (hl : ns.length ≤ sizeLine) (hr : RoomG k callerA)
    (G : ∀ base : Heap, K.In base → base.Ns mainGlobals mg → FnOk3 P w K mg base k fa fd [x] F) (hbind : ∀ (s : Shared) (u : Value), BindsTo s fd ⟨[u], []⟩ [(x, u)])
    (hF : ∃ S', F [.wl (ns.map D.int)] [] = .ok (.bl true) S') :
    codeAny (model P w) callerA (.call (.ref fa) ⟨[.ref a], []⟩) (fun r s' => r = .ok (.ret (.bool true)) ∧ OldK s1.heap s'.heap ∧ s'.os = s1.os ∧ AllBare s'.gens) s1 := by
  have rv := vals_ints hi
  have core : ∀ H : Hp, Only H → SqL K H a (ns.map V.int) → HOk P w H s1.heap → (∀ b, H b ≠ none → b = a) → (H a ≠ none → K.lookup a = none) →
      codeAny (model P w) callerA (.call (.ref fa) ⟨[.ref a], []⟩)
        (fun r s' => r = .ok (.ret (.bool true)) ∧ OldK s1.heap s'.heap ∧ s'.os = s1.os ∧ AllBare s'.gens) s1 := by
    intro H hO hS hok hA hK
    have at_a : ∀ {b : Addr}, H b = none ∨ b = a := fun {b} => by
      cases q : H b with
      | none => exact Or.inl rfl
      | some u => exact Or.inr (hA b (by rw [q]; exact fun z => nomatch z))
    have dictFree : ∀ {b : Addr} {o : Obj} {en : Array DictEntry} {ep : Nat}, s1.heap.get? b = some o → o.data = .dict en ep → H b = none := by
      intro b o en ep e d
      rcases at_a (b := b) with q | q
      · exact q
      · subst q
        rw [ha] at e; cases e
        exact nomatch (show Data.seq vs.toArray _ = Data.dict en ep from d)
    have nsK : ∀ {b : Addr} {m : Str → Option Value}, s1.heap.Ns b m → (hidT s1.heap H).Ns b m := by
      rintro b m ⟨o, en, ep, e, d, r⟩
      exact ⟨o, en, ep, hidT_get e (dictFree e d), d, r⟩
    have hKb : K.In (hidT s1.heap H) := fun b o e => hidT_get (KX b o e) (by
      rcases at_a (b := b) with q | q
      · exact q
      · subst q
        cases q2 : H b with
        | none => rfl
        | some u => rw [hK (by rw [q2]; exact fun z => nomatch z)] at e; cases e)
    have hM : Mod K mg (hidT s1.heap H) := by
      obtain ⟨mc, l1, l2⟩ := hlim
      exact ⟨hKb, nsK hns, ⟨mb, nsK hb, hbb⟩, mc, nsK l1, l2⟩
    have e0 : Env0 P w K mg (hidT s1.heap H) callerA [] s1 H := ⟨rfl, hM, fun b o e => of_hidT e, Nat.le_of_eq (hidT_size _ _), trivial, (fun b z => nomatch (show b ∈ ([] : List Addr) from z)), hok, .of_eq hg⟩
    have z0 : WRel K ⟨H, [], []⟩ [] H := ⟨Same.refl _, rfl, List.nodup_nil, (fun k b o e => by simp at e), (fun p z => nomatch z), List.nodup_nil⟩
    have r0 : RepA K ⟨H, [], []⟩ [V.ref a] [D.wl (ns.map D.int)] := .cons (.wl hS (repInts ns)) .nil
    obtain ⟨S', eF⟩ := hF
    have h0 : Hold K (outW fun _ _ _ => False) [] (Rep K) ⟨H, [], []⟩ (fun v _ => v = .bl true) (F [.wl (ns.map D.int)] []) := by
      rw [eF]
      intro w' H' v _ _ r
      cases r; rfl
    refine codeAny_mono ((G _ hKb (nsK hns)).run callerA [] s1 H ⟨[.ref a], []⟩ [.ref a] [.ref a] _ _ _ _ _ hr e0 (hbind s1 (.ref a)) (.cons rfl .nil) rfl r0 z0 h0) fun res s' h => ?_
    cases res with
    | error err =>
      obtain ⟨_, _, _, _, _, _, _, _, _, _, _, _, z⟩ := h
      exact z.elim
    | ok fl =>
      cases fl with
      | ret u =>
        obtain ⟨v, H', os, bare, un, hok', r, q⟩ := h
        have q' : v = .bl true := q
        subst q'
        obtain rfl : u = Value.bool true := r
        refine ⟨rfl, OldK.of_keep (fun b o e => ?_), os, bare⟩
        rcases hO b with q | ⟨ob, xs, q⟩
        · exact un.keep b o e q (fun z => nomatch (show b ∈ ([] : List Addr) from z)) (fun z => nomatch z)
        · obtain ⟨e1, _⟩ := hok b _ q
          obtain ⟨e2, _⟩ := hok' b _ (un.frzs b ob _ q)
          rw [e] at e1; cases e1
          exact e2
      | next => exact h.elim
      | brk => exact h.elim
      | cont => exact h.elim
  cases hk : K.lookup a with
  | some o =>
    have e := KX a o hk
    rw [ha] at e
    cases e
    refine core (fun _ => none) (fun _ => Or.inl rfl) (Or.inr ⟨_, vs.toArray, _, hk, rfl, rfl, rfl, ?_, by simpa using rv⟩) (fun b u z => nomatch z) (fun b z => absurd rfl z) fun z => absurd rfl z
    rw [List.size_toArray, hi.length]; exact hl
  | none =>
    let H0 : Hp := fun b => if b = a then some (.frz { cls := .type "list", data := .seq vs.toArray } (.lst (ns.map V.int))) else none
    have h1 : H0 a = some (.frz { cls := .type "list", data := .seq vs.toArray } (.lst (ns.map V.int))) := if_pos rfl
    have h2 : ∀ b, b ≠ a → H0 b = none := fun b hb => if_neg hb
    refine core H0 (fun b => ?_) (Or.inl (Or.inr ⟨_, h1⟩)) (fun b u z => ?_) (fun b z => ?_) fun _ => hk
    · by_cases hb : b = a
      · subst hb; exact Or.inr ⟨_, _, h1⟩
      · exact Or.inl (h2 b hb)
    · by_cases hb : b = a
      · subst hb
        rw [h1] at z; cases z
        exact ⟨ha, by rw [List.length_map]; exact hl, vs, _, rv, ha⟩
      · rw [h2 b hb] at z; cases z
    · by_cases hb : b = a
      · exact hb
      · exact absurd (h2 b hb) z
end
/-- the goal that the head leaves -/
theorem walk3 {l : PySem.W.OpenLaw} {n k : Nat} {q : Program} {loose : List Str} {XP : (Str → Option Value) → Heap → Prop} {YP : World → Heap → Prop} {d : DefRec} {K : Params → PySem.W.Frag} {F : C3} {x : Str}
    (hn : l.most = some n) (hn2 : n ≤ sizeLine) (hdf : d.params.defaults = []) (hr : RoomG k callerA) (hY : ∀ (w : World) (h : Heap), YP w h → (K w.params).In h)
    (G : ∀ (w : World) (mg : Str → Option Value) (fa : Addr) (h : Heap), (K w.params).In h → h.Ns mainGlobals mg → mg d.name = some (.ref fa) →
      ∃ fd : FuncData, (∀ (s : Shared) (u : Value), BindsTo s fd ⟨[u], []⟩ [(x, u)]) ∧
        ∀ base : Heap, (K w.params).In base → base.Ns mainGlobals mg → FnOk3 l.prog w (K w.params) mg base k fa fd [x] F)
    (hF : ∀ ns : List Int, ns.length ≤ n → ∃ S', F [.wl (ns.map D.int)] [] = .ok (.bl true) S') :
    PySem.W.WalkO q loose XP YP l.row.toRowW d [] (fun f vs => PySem.call f vs) := by
  refine Att.attach_call hn hdf ?_
  intro w s0 s1 mg mb fa o pm cd doc a vs ns Gr Y ho hd hcd hmg hobj hints hlen hg
  have KX := hY w _ Y
  obtain ⟨fd, hb, hG⟩ := G w mg fa _ KX Gr.T.g hmg
  exact law3 KX Gr.T.g Gr.T.b Gr.T.builtins Gr.T.nolimit hg hobj hints (Nat.le_trans hlen hn2) hr hG hb (hF ns hlen)
end DL
end

section
set_option Elab.async false
set_option linter.all false
set_option maxRecDepth 100000
set_option maxHeartbeats 4000000
namespace DL
open PySem PySem.Spec PyProof.Rows L2

/-! ### isinstance of built-in classes -/
def tyD (S : Sto) : D → Option String
  | .non => some "NoneType"
  | .bl _ => some "bool"
  | .int _ => some "int"
  | .str _ => some "str"
  | .tup _ => some "tuple"
  | .lst _ => some "list"
  | .ref k => match S[k]? with
    | some (.lst _) => some "list"
    | some (.frz _) => some "list"
    | _ => none
  | _ => none
theorem tyD_s {K : PySem.W.Frag} {w : Wd} {S : Sto} {H : Hp} {v : V} {d : D} {t : String} (z : WRel K w S H) (r : Rep K w v d) (e : tyD S d = some t) : TyX K H v (.type t) := by
  cases d with
  | non => cases r; cases e; exact .base .non
  | bl b => cases r; cases e; exact .base (.bl b)
  | int i => cases r; cases e; exact .base (.int i)
  | str x => cases r; cases e; exact .base (.str x)
  | tup xs =>
    cases r with
    | tup h1 h2 => cases e; exact .base (.tup (z.same _ _ h1))
  | lst xs =>
    cases r with
    | lst h1 h2 => cases e; exact .base (.lst (z.same _ _ h1))
  | ref k =>
    cases r with
    | ref h1 =>
      obtain ⟨o, u, e1, q, _⟩ := z.there h1
      have e' : (match S[k]? with
        | some (.lst _) => some "list"
        | some (.frz _) => some "list"
        | _ => none) = some t := e
      rw [e1] at e'
      cases o with
      | lst zs =>
        cases e'
        obtain ⟨_, vs, e2, q⟩ := q
        exact .base (.lst e2)
      | frz zs =>
        cases e'
        obtain ⟨vs, e2, q⟩ := q
        exact .base (.lst (z.same _ _ e2))
      | ins C fs => cases e'
  | _ => cases e
/-- of one of several -/
def tysOf : List D → Option (List String)
  | [] => some []
  | d :: ds => match d, tysOf ds with
    | .ty n, some ns => some (n :: ns)
    | _, _ => none
def kitS (t : String) : List String → Option Bool
  | [] => some false
  | n :: r => match kitB t n with
    | some true => some true
    | some false => kitS t r
    | none => none
def isi (d c : D) (S : Sto) : Rs D := match tyD S d with
  | some t => (match c with
    | .ty n => (match kitB t n with
      | some b => .ok (.bl b) S
      | none => .bad)
    | .tup cs => (match (tysOf cs).bind (kitS t) with
      | some b => .ok (.bl b) S
      | none => .bad)
    | _ => .bad)
  | none => .bad
def fIsi : C3 := c2 isi
theorem tysOf_s {K : PySem.W.Frag} {w : Wd} : ∀ {cs : List D} {us : List V} {ns : List String}, RepA K w us cs → tysOf cs = some ns → Paired ClsV us (ns.map Value.type)
  | [], _, _, r, e => by cases r; cases e; exact .nil
  | c :: cs, _, _, r, e => by
    cases r with
    | cons r1 r2 =>
      unfold tysOf at e
      cases c with
      | ty n =>
        cases q : tysOf cs with
        | none => rw [q] at e; cases e
        | some ns =>
          rw [q] at e
          cases e
          cases r1
          exact .cons (.ty n) (tysOf_s r2 q)
      | _ => cases q : tysOf cs <;> rw [q] at e <;> cases e
theorem kitS_s {K : PySem.W.Frag} {t : String} : ∀ {ns : List String} {b : Bool}, kitS t ns = some b → PySem.W.kitAny K (.type t) (ns.map Value.type) = some b
  | [], _, e => by cases e; exact kitAny_nil
  | n :: ns, b, e => by
    unfold kitS at e
    cases q : kitB t n with
    | none => rw [q] at e; cases e
    | some k =>
      rw [q] at e
      cases k with
      | true =>
        cases e
        exact kitAny_cons (kit_ty q) (fun z => nomatch z) fun _ => rfl
      | false => exact kitAny_cons (kit_ty q) (fun _ => kitS_s e) fun z => nomatch z
theorem fIsi_s {K : PySem.W.Frag} : CallS K (fun xs H Q => rIsi K xs H Q ∨ rIsiT K xs H Q) fIsi := c2_s fun W sv w u v d c S H Q z r1 r2 q => by
  unfold isi at q
  cases e : tyD S d with
  | none => rw [e] at q; exact False.elim q
  | some t =>
    simp only [e] at q
    have ty := tyD_s z r1 e
    cases c with
    | ty n =>
      cases r2
      cases q2 : kitB t n with
      | none => simp only [q2] at q; exact False.elim q
      | some b =>
        simp only [q2] at q
        exact .inl ⟨u, _, _, _, b, rfl, .ty n, ty, kit_ty q2, q.at_ z (.bl _)⟩
    | tup cs =>
      cases r2 with
      | tup h1 h2 =>
        cases q2 : tysOf cs with
        | none => simp only [q2] at q; exact False.elim q
        | some ns =>
          cases q3 : kitS t ns with
          | none => simp only [q2, Option.bind_some, q3] at q; exact False.elim q
          | some b =>
            simp only [q2, Option.bind_some, q3] at q
            exact .inr ⟨u, _, _, _, _, b, rfl, z.same _ _ h1, tysOf_s h2 q2, ty, kitS_s q3, q.at_ z (.bl _)⟩
    | _ => exact False.elim q
theorem call_isiA {X : Cx} : CallR X (.builtin "isinstance") (fun xs H Q => rIsi X.K xs H Q ∨ rIsiT X.K xs H Q) := call_isi.or call_isiT
section
variable {X : Cx} {W : WX} {pos : Pos}
/-- a built-in class as a value -/
theorem e_type {x : Str} {n : String} (hg : Gl X x) (hm : X.mg x = none) (hv : bootBuiltins x = some (.type n)) (hn : x ≠ "__name__" := by decide) (hd : (x == ("__debug__" : Str)) = false := by decide) : PE3 X W (.Name x pos) (mC (.ty n)) :=
  e_const (pe_bltn (v := .ty n) hg hm hv rfl hn hd) fun _ => .ty n
/-- a module's int -/
theorem e_globI {x : Str} {i : Int} (hg : Gl X x) (hm : ∃ t, X.mg x = some (.int i t)) (hd : (x == ("__debug__" : Str)) = false := by decide) : PE3 X W (.Name x pos) (mC (.int i)) := by
  obtain ⟨t, h⟩ := hm
  exact e_const (pe_glob (v := .int i) hg h ⟨t, rfl⟩ hd) fun _ => .int i
end

/-! ### min, max of two ints; all of a list of truths -/
def fMax : C3 := c2 (oI fun i j => .int (if j > i then j else i))
def fMin : C3 := c2 (oI fun i j => .int (if j < i then j else i))
theorem fMax_s {K : PySem.W.Frag} : CallS K (fun xs H Q => ∃ i j, xs = [.int i, .int j] ∧ Q (.int (if j > i then j else i)) H) fMax := c2_s fun W sv w u v d e S H Q z r1 r2 q => by
  obtain ⟨i, j, rfl, rfl, h⟩ := oI_s (K := K) (g := fun i j => V.int (if j > i then j else i)) (fun _ _ _ => .int _) W sv w u v d e S H Q z r1 r2 q
  exact ⟨i, j, rfl, h⟩
theorem fMin_s {K : PySem.W.Frag} : CallS K (fun xs H Q => ∃ i j, xs = [.int i, .int j] ∧ Q (.int (if j < i then j else i)) H) fMin := c2_s fun W sv w u v d e S H Q z r1 r2 q => by
  obtain ⟨i, j, rfl, rfl, h⟩ := oI_s (K := K) (g := fun i j => V.int (if j < i then j else i)) (fun _ _ _ => .int _) W sv w u v d e S H Q z r1 r2 q
  exact ⟨i, j, rfl, h⟩
def blsOf : List D → Option (List Bool)
  | [] => some []
  | d :: ds => match d, blsOf ds with
    | .bl b, some bs => some (b :: bs)
    | _, _ => none
def fAll : C3 := c1 fun d S => if isTupD d then .bad else withItems d S fun xs => match blsOf xs with
  | some bs => .ok (.bl (bs.all id)) S
  | none => .bad
theorem blsOf_s {K : PySem.W.Frag} {w : Wd} : ∀ {ds : List D} {us : List V} {bs : List Bool}, RepA K w us ds → blsOf ds = some bs → us = bs.map V.bl
  | [], _, _, r, e => by cases r; cases e; rfl
  | d :: ds, _, _, r, e => by
    cases r with
    | cons r1 r2 =>
      unfold blsOf at e
      cases d with
      | bl b =>
        cases q : blsOf ds with
        | none => rw [q] at e; cases e
        | some bs =>
          rw [q] at e
          cases e
          cases r1
          rw [blsOf_s r2 q]; rfl
      | _ => cases q : blsOf ds <;> rw [q] at e <;> cases e
theorem fAll_s {K : PySem.W.Frag} : CallS K (rAll K) fAll := c1_s fun W sv w u d S H Q z r q => by
  by_cases t : isTupD d = true
  · rw [if_pos t] at q; exact False.elim q
  · rw [if_neg t] at q
    obtain ⟨xs, _, _, he, _, _, _, hk⟩ := withItems_s z r q
    obtain ⟨a, vs, rfl, ra, hs⟩ := items_list z r he (by simpa using t)
    cases e : blsOf xs with
    | none => simp only [e] at hk; exact False.elim hk
    | some bs =>
      simp only [e] at hk
      have := blsOf_s ra e
      subst this
      exact ⟨a, bs, rfl, hs, hk.at_ z (.bl _)⟩

/-! ### repr of data -/
def reprOk (p : PyData) : Bool := p.showable && !p.hasDict && decide (p.depth ≤ 60) && decide (p.shown.length ≤ sizeLine)
def fRepr : C3 := c1 fun d S => match pyS S d with
  | some p => if reprOk p then .ok (.str p.shown) S else .bad
  | none => .bad
def rRepr (K : PySem.W.Frag) : List V → Hp → VK → Prop := fun xs H Q => ∃ x p, xs = [x] ∧ Dp K H x p ∧ reprOk p = true ∧ Q (.str p.shown) H
theorem fRepr_s {K : PySem.W.Frag} : CallS K (rRepr K) fRepr := c1_s fun W sv w u d S H Q z r q => by
  cases e : pyS S d with
  | none => simp only [e] at q; exact False.elim q
  | some p =>
    simp only [e] at q
    by_cases h : reprOk p = true
    · rw [if_pos h] at q
      exact ⟨u, p, rfl, dpS_of z r e, h, q.at_ z (.str _)⟩
    · rw [if_neg h] at q; exact False.elim q
theorem call_repr3 {X : Cx} (hg : X.A.guards = some []) (hu : X.A.units + 64 < cLine) : CallR X (.builtin "repr") (rRepr X.K) := by
  intro pins s σ H xs us Q I r h
  obtain ⟨x, p, rfl, dp, ok, q⟩ := h
  obtain ⟨u, rfl, ru⟩ := vals1 r
  unfold reprOk at ok
  simp only [Bool.and_eq_true, Bool.not_eq_true', decide_eq_true_eq] at ok
  obtain ⟨⟨⟨h1, h2⟩, h3⟩, h4⟩ := ok
  obtain ⟨as, rd⟩ := Dp.reads I p x u dp ru
  have fin : ∀ (h' : Heap) (t : Tok) (tk : Nat), (∀ b o, s.heap.get? b = some o → h'.get? b = some o) → EP X pins σ Q (.str p.shown t) { s with heap := h', toks := tk } := fun h' t tk k => ⟨.str p.shown, H, I.kept k, ⟨t, rfl⟩, q⟩
  have refCase : ∀ a, u = .ref a → wpAny (model X.prog X.w) X.A (call (.builtin "repr") [u]) (EP X pins σ Q) X.xe s := fun a e => by
    subst e
    exact repr_of_reads' rd h1 (fun z => by rw [h2] at z; cases z) hg (by omega) (fun _ _ e => e) (fun h' t tk k => fin h' t tk k) h4
  cases dp with
  | non => cases ru; exact PySem.P.repr_of_none (fin _ _ _ fun _ _ e => e)
  | bl b =>
    cases ru
    refine PySem.P.repr_of_bool ?_
    have := fin s.heap s.toks (s.toks + 1) fun _ _ e => e
    simpa only [PyData.shown] using this
  | int i =>
    obtain ⟨t, rfl⟩ := ru
    refine PySem.P.repr_of_int (by simpa only [PyData.showable, decide_eq_true_eq] using h1) ?_
    have := fin s.heap s.toks (s.toks + 1) fun _ _ e => e
    simpa only [PyData.shown] using this
  | str y =>
    obtain ⟨t, rfl⟩ := ru
    refine PySem.P.repr_of_str ?_ (by simpa only [PyData.shown] using h4)
    have := fin s.heap s.toks (s.toks + 1) fun _ _ e => e
    simpa only [PyData.shown] using this
  | lst _ _ => exact refCase _ ru
  | tup _ _ => exact refCase _ ru
end DL
end

section
set_option Elab.async false
set_option linter.all false
set_option maxRecDepth 100000
set_option maxHeartbeats 4000000
/-! sorted of a list or a tuple of pairs of ints -/
namespace DL
open PySem PySem.Spec PyProof.Rows

section
variable {prog : Program} {w : World} {A : Around} {E : Value → Shared → Prop} {s : Shared}
/-- the items of a tuple, taken out -/
theorem collect_tup {l : Addr} {vs : List Value} {Q : List Value → Shared → Prop} (hl : s.heap.IsTuple l vs.toArray)
    (h : Q vs { s with heap := (s.heap.push (seqObj "list" #[] 0)).update s.heap.objs.size (Obj.mapSeq (· ++ vs.toArray)) }) (hsz : vs.length ≤ sizeLine) :
    wpAny (model prog w) A (collect (.ref l)) Q E s := by
  obtain ⟨o, ho, hc, n, hd⟩ := id hl
  unfold collect
  refine wpAny_bind (wpAny_runValue (codeAny_builtin entry_proto_collect' ?_))
  show wpAny _ _ (newList [] >>= fun l0 => again (.builtin "list.__iadd__" ⟨[l0, .ref l], []⟩)) _ _ s
  refine wpAny_bind (wpAny_newList (wpAny_pure ⟨Code.quiet_builtin _ (by decide +kernel), codeAny_builtin entry_list_iadd' ?_⟩))
  show wpAny _ _ (Builtin.List.listExtendWith (Value.ref s.heap.objs.size) (Value.ref l) (Value.ref s.heap.objs.size)) _ _ _
  unfold Builtin.List.listExtendWith
  have there : (s.heap.push (seqObj "list" #[] 0)).get? l = some o := Heap.get?_push_of_some _ ho
  refine wpAny_bind (wpAny_typeOf (T := "tuple") ⟨o, there, hc⟩ ?_)
  rw [if_pos (by rw [show (Value.type "tuple" == Value.type "tuple") = true from rfl]; simp)]
  refine wpAny_bind (listItems_at there hd ?_)
  refine wpAny_bind (listItems_at (xs := #[]) (n := 0) (Heap.get?_push_size _ rfl) rfl ?_)
  rw [if_neg (by simp)]
  refine wpAny_bind (listUpdate_at (xs := #[]) (n := 0) (Heap.get?_push_size _ rfl) rfl ?_ (Nat.zero_le _) ?_)
  · refine wpAny_pure ?_
    show wpAny (model prog w) A (load s.heap.objs.size >>= fun o => match o.data with
      | .seq xs _ => pure xs.toList
      | _ => unsupported "internal:collect") Q E { s with heap := (s.heap.push (seqObj "list" #[] 0)).update s.heap.objs.size (Obj.mapSeq (· ++ vs.toArray)) }
    refine wpAny_bind (wpAny_load (get?_update_seq (Heap.get?_push_size _ rfl) _) ?_)
    have e : ((#[] : Array Value) ++ vs.toArray).toList = vs := by simp
    show wpAny _ _ (pure ((#[] : Array Value) ++ vs.toArray).toList) Q E _
    rw [e]
    exact wpAny_pure h
  · show ((#[] : Array Value) ++ vs.toArray).size ≤ sizeLine + 1
    simp only [Array.size_append, List.size_toArray, List.length_nil]
    omega
/-- sorted(t), t a tuple -/
theorem sorted_tup {l : Addr} {vs : List Value} {lt : Value → Value → Bool} {Q : Value → Shared → Prop} (O : SrtO.Swo lt) (hl : s.heap.IsTuple l vs.toArray) (hz : vs.length ≤ sizeLine)
    (hS : 2 ≤ vs.length → ∀ (h1 : Heap) (a : Addr), h1.get? a = some (seqObj "list" vs.toArray 0) → (∀ b o, s.heap.get? b = some o → b ≠ a ∧ h1.get? b = some o) → SrtO.SortableO prog w A.in1.in1 { s with heap := h1 } a vs lt)
    (h : ∀ out : List Value, SrtO.Srtd lt out → SrtO.Stb lt out vs → Q (.ref (s.heap.objs.size + 1)) { s with heap := sortedAll s.heap vs out.toArray }) :
    wpAny (model prog w) A (call (.builtin "sorted") [.ref l]) Q E s := by
  refine Calls.call_function_entry kind_sorted plain_sorted entry_sorted (args_sorted1 _) ?_
  unfold Builtin.«sorted»
  refine wpAny_bind (m := checkCount "sorted" 1 1 _) (wpAny_pure (wpAny_bind (collect_tup hl (wpAny_bind (wpAny_newList ?_ hz)) hz)))
  let h0 := (s.heap.push (seqObj "list" #[] 0)).update s.heap.objs.size (Obj.mapSeq (· ++ vs.toArray))
  have sz : h0.objs.size = s.heap.objs.size + 1 := by
    show (Heap.update _ _ _).objs.size = _
    rw [Heap.size_update, size_push']
  have at1 : (h0.push (seqObj "list" vs.toArray 0)).get? (s.heap.objs.size + 1) = some (seqObj "list" vs.toArray 0) := by
    rw [← sz]
    exact Heap.get?_push_size _ rfl
  have kp : ∀ b o, s.heap.get? b = some o → b ≠ s.heap.objs.size + 1 ∧ (h0.push (seqObj "list" vs.toArray 0)).get? b = some o := by
    intro b o q
    have hlt := Heap.lt_size q
    refine ⟨Nat.ne_of_lt (Nat.lt_succ_of_lt hlt), Heap.get?_push_of_some _ ?_⟩
    show (Heap.update _ _ _).get? b = _
    rw [Heap.get?_update_ne _ _ _ _ (Nat.ne_of_lt hlt)]
    exact Heap.get?_push_of_some _ q
  show wpAny _ _ _ _ _ { s with heap := h0.push (seqObj "list" vs.toArray 0) }
  rw [show (Heap.objs h0).size = s.heap.objs.size + 1 from sz]
  refine wpAny_bind (wpAny_holding (wpAny_call_entry slot_list_sort ⟨_, at1, rfl⟩ entry_list_sort ?_ (args_list_sort _)))
  exact SrtO.list_sort_ord O at1 hz (fun h2 => hS h2 _ _ at1 kp) fun out a b => ⟨_, rfl, wpAny_pure ⟨_, rfl, h out a b⟩⟩
end
open L2
section
variable {X : Cx}
def rSortedPT (K : PySem.W.Frag) : List V → Hp → VK → Prop := fun vs H Q => ∃ (a : Addr) (xs : List V) (k : V → Int × Int), vs = [V.ref a] ∧ SqT K H a xs ∧ (∀ x ∈ xs, ∃ t, x = V.ref t ∧ H t = some (.tup [.int (k x).1, .int (k x).2])) ∧
  ∀ ys p, SrtO.Srtd (ltP k) ys → SrtO.Stb (ltP k) ys xs → H p = none → Q (.ref p) (upd H p (.lst ys))
theorem cr_sortedPT : CallR X (.builtin "sorted") (rSortedPT X.K) := by
  intro pins s σ H vs us Q I r h
  obtain ⟨a, xs, k, rfl, hs, hx, q⟩ := h
  obtain ⟨its, rv, hl, hz⟩ := I.tuple hs
  obtain ⟨u, rfl, ru⟩ := vals1 r
  obtain rfl : u = Value.ref a := ru
  obtain ⟨e1, e2⟩ := refs_back rv fun x m => (hx x m).imp fun t h => h.1
  have pr : ∀ v ∈ its, Srt.IsPair s.heap v (k (backV v)).1 (k (backV v)).2 := by
    intro v hv
    obtain ⟨t, rfl⟩ := e2 v hv
    have hm : V.ref t ∈ xs := by
      rw [e1]
      exact List.mem_map.mpr ⟨_, hv, rfl⟩
    obtain ⟨t', e, ht⟩ := hx _ hm
    cases e
    obtain ⟨_, its2, r2, o, ho, hc, n, hd⟩ := I.hok _ _ ht
    obtain ⟨u1, u2, rfl, ⟨t1, rfl⟩, ⟨t2, rfl⟩⟩ := vals2 r2
    exact ⟨t, o, t1, t2, n, rfl, ho, hc, hd⟩
  refine sorted_tup (SrtO.swo_lex fun u => k (backV u)) hl (by rw [← rv.length]; exact hz) (fun h2 h1 b hb kk => ?_) fun out g1 g2 => ?_
  · refine SrtO.pairs_sortableO (s := { s with heap := h1 }) (by omega) (fun v hm => (pr v hm).keeps fun b o e _ => (kk b o e).2) ?_
    intro o e c
    have e' : some o = some (seqObj "list" its.toArray 0) := e.symm.trans hb
    cases e'
    exact absurd (Value.type.inj c) (by decide)
  · have h3 : ∀ u ∈ out, ∃ a, u = Value.ref a := fun u hu => e2 u (g2.perm.mem_iff.mp hu)
    have hb : SrtO.Stb (ltP k) (out.map backV) xs := by
      rw [e1]
      exact SrtO.Stb.map (ltP_swo k) backV g2
    obtain ⟨ep, he⟩ := sortedAll_at s.heap its out.toArray
    have new := I.hok.fresh (a := s.heap.objs.size + 1) (Nat.le_succ _)
    refine ⟨.ref _, upd H (s.heap.objs.size + 1) (.lst (out.map backV)), I.laid (t' := s.toks) (fun _ _ => sortedAll_old) (Nat.le_succ _) ⟨?_, out, ep, vals_back h3, he⟩, rfl, q _ _ (SrtO.srtd_map g1) hb new⟩
    rw [hb.len]
    exact hz
end
/-! as a function of data -/
def leP (p q : Int × Int) : Bool := !SrtO.lexB q p
def sortP (ps : List (Int × Int)) : List (Int × Int) := ps.mergeSort leP
def prD (p : Int × Int) : D := .tup [.int p.1, .int p.2]
def prsOf : List D → Option (List (Int × Int))
  | [] => some []
  | d :: ds => match d, prsOf ds with
    | .tup [.int i, .int j], some ps => some ((i, j) :: ps)
    | _, _ => none
def fSortedP : C3 := c1 fun d S => withItems d S fun xs => match prsOf xs with
  | some ps => mkLst ((sortP ps).map prD) S
  | none => .bad
theorem prsOf_map : ∀ ps : List (Int × Int), prsOf (ps.map prD) = some ps
  | [] => rfl
  | p :: ps => by
    have ih := prsOf_map ps
    show (match prD p, prsOf (ps.map prD) with
      | .tup [.int i, .int j], some ps => some ((i, j) :: ps)
      | _, _ => none) = _
    rw [ih]
    rfl
theorem prOf_cases (d : D) : (∃ i j, d = .tup [.int i, .int j]) ∨ ∀ (o : Option (List (Int × Int))), (match d, o with
      | .tup [.int i, .int j], some ps => some ((i, j) :: ps)
      | _, _ => none) = none := by
  match d with
  | .tup [.int i, .int j] => exact .inl ⟨i, j, rfl⟩
  | .tup [] => exact .inr fun o => rfl
  | .tup [a] => exact .inr fun o => by cases a <;> rfl
  | .tup (a :: b :: c :: r) => exact .inr fun o => by cases a <;> cases b <;> rfl
  | .tup [a, b] =>
    cases a with
    | int i =>
      cases b with
      | int j => exact .inl ⟨i, j, rfl⟩
      | _ => exact .inr fun o => rfl
    | _ => exact .inr fun o => rfl
  | .non => exact .inr fun o => rfl
  | .bl _ => exact .inr fun o => rfl
  | .int _ => exact .inr fun o => rfl
  | .str _ => exact .inr fun o => rfl
  | .lst _ => exact .inr fun o => rfl
  | .ref _ => exact .inr fun o => rfl
  | .ty _ => exact .inr fun o => rfl
  | .adr _ => exact .inr fun o => rfl
  | .wl _ => exact .inr fun o => rfl
  | .wt _ => exact .inr fun o => rfl
theorem prsOf_eq : ∀ {ds : List D} {ps : List (Int × Int)}, prsOf ds = some ps → ds = ps.map prD
  | [], _, e => by cases e; rfl
  | d :: ds, ps, e => by
    unfold prsOf at e
    rcases prOf_cases d with ⟨i, j, rfl⟩ | h
    · cases q : prsOf ds with
      | none => rw [q] at e; cases e
      | some qs =>
        rw [q] at e
        cases e
        rw [prsOf_eq q]
        rfl
    · rw [h (prsOf ds)] at e
      cases e
section
variable {K : PySem.W.Frag} {w : Wd}
theorem pairs_rep : ∀ {ps : List (Int × Int)} {vs : List V}, RepA K w vs (ps.map prD) → ∃ k : V → Int × Int, ∀ x ∈ vs, ∃ t, x = V.ref t ∧ w.G t = some (.tup [.int (k x).1, .int (k x).2]) := by
  intro ps vs r
  have each : ∀ x ∈ vs, ∃ p : Int × Int, ∃ t, x = V.ref t ∧ w.G t = some (.tup [.int p.1, .int p.2]) := by
    intro x hx
    obtain ⟨i, ei⟩ := List.getElem?_of_mem hx
    have hi : i < ps.length := by
      have h1 := (List.getElem?_eq_some_iff.mp ei).1
      have h2 := r.length
      rw [List.length_map] at h2
      omega
    obtain ⟨v, ev, rv⟩ := r.get (i := i) (d := prD ps[i]) (by rw [List.getElem?_map, List.getElem?_eq_getElem hi]; rfl)
    rw [ei] at ev
    cases ev
    cases rv with
    | tup h1 h2 =>
      cases h2 with
      | cons a b =>
        cases b with
        | cons c e =>
          cases a; cases c; cases e
          exact ⟨ps[i], _, rfl, h1⟩
  classical
  refine ⟨fun x => if h : x ∈ vs then (each x h).choose else (0, 0), fun x hx => ?_⟩
  simp only [hx, dif_pos]
  exact (each x hx).choose_spec
theorem pairs_back {k : V → Int × Int} : ∀ {vs : List V}, (∀ x ∈ vs, ∃ t, x = V.ref t ∧ w.G t = some (.tup [.int (k x).1, .int (k x).2])) → RepA K w vs ((vs.map k).map prD)
  | [], _ => .nil
  | v :: vs, h => by
    obtain ⟨t, rfl, e⟩ := h v List.mem_cons_self
    exact .cons (.tup e (.cons (.int _) (.cons (.int _) .nil))) (pairs_back fun x hx => h x (List.mem_cons_of_mem _ hx))
theorem RepA.inj_pr : ∀ {vs : List V} {ps qs : List (Int × Int)}, RepA K w vs (ps.map prD) → RepA K w vs (qs.map prD) → ps = qs
  | _, [], [], _, _ => rfl
  | _, [], _ :: _, r, r' => by cases r; cases r'
  | _, _ :: _, [], r, r' => by cases r'; cases r
  | _, p :: ps, q :: qs, r, r' => by
    cases r with
    | cons a b =>
      cases r' with
      | cons a' b' =>
        have e := RepA.inj_pr b b'
        subst e
        cases a with
        | tup h1 h2 =>
          cases a' with
          | tup h1' h2' =>
            rw [h1] at h1'
            cases h1'
            cases h2 with
            | cons c d =>
              cases d with
              | cons e f =>
                cases h2' with
                | cons c' d' =>
                  cases d' with
                  | cons e' f' =>
                    cases f
                    obtain ⟨p1, p2⟩ := p
                    obtain ⟨q1, q2⟩ := q
                    cases c; cases e; cases c'; cases e'
                    rfl
end
theorem leP_total (a b : Int × Int) : (leP a b || leP b a) = true := by
  unfold leP
  cases h : SrtO.lexB b a with
  | false => rfl
  | true =>
    have h1 := SrtO.lexB_iff.mp h
    have h2 : SrtO.lexB a b = false := SrtO.lexB_no.mpr (by omega)
    rw [h2]; rfl
theorem leP_trans (a b c : Int × Int) (h1 : leP a b = true) (h2 : leP b c = true) : leP a c = true := by
  unfold leP at *
  rw [Bool.not_eq_true'] at *
  have a1 := SrtO.lexB_no.mp h1
  have a2 := SrtO.lexB_no.mp h2
  exact SrtO.lexB_no.mpr (by omega)
theorem leP_anti (a b : Int × Int) (h1 : leP a b = true) (h2 : leP b a = true) : a = b := by
  unfold leP at *
  rw [Bool.not_eq_true'] at *
  have a1 := SrtO.lexB_no.mp h1
  have a2 := SrtO.lexB_no.mp h2
  obtain ⟨a, a'⟩ := a
  obtain ⟨b, b'⟩ := b
  simp only at a1 a2
  have e1 : a = b := by omega
  have e2 : a' = b' := by omega
  rw [e1, e2]
/-- two sorted arrangements of one lot are one -/
theorem sorted_uniq {α : Type} {le : α → α → Prop} (anti : ∀ a b, le a b → le b a → a = b) : ∀ {l m : List α}, l.Perm m → l.Pairwise le → m.Pairwise le → l = m
  | [], m, p, _, _ => (List.nil_perm.mp p).symm
  | a :: l, m, p, h1, h2 => by
    cases m with
    | nil => exact absurd p.symm (by intro q; exact absurd (List.nil_perm.mp q) (List.cons_ne_nil _ _))
    | cons b m =>
      have e : a = b := by
        rcases List.mem_cons.mp (p.mem_iff.mp (List.mem_cons_self (a := a) (l := l))) with q | q
        · exact q
        · rcases List.mem_cons.mp (p.mem_iff.mpr (List.mem_cons_self (a := b) (l := m))) with q2 | q2
          · exact q2.symm
          · exact anti a b ((List.pairwise_cons.mp h1).1 b q2) ((List.pairwise_cons.mp h2).1 a q)
      subst e
      rw [sorted_uniq anti (List.Perm.cons_inv p) (List.pairwise_cons.mp h1).2 (List.pairwise_cons.mp h2).2]
theorem sortP_uniq {l ps : List (Int × Int)} (p : l.Perm ps) (h : l.Pairwise fun a b => leP a b = true) : l = sortP ps :=
  sorted_uniq (le := fun a b => leP a b = true) leP_anti (p.trans (List.mergeSort_perm ps leP).symm) h (List.pairwise_mergeSort leP_trans leP_total ps)
theorem fSortedP_s {K : PySem.W.Frag} : CallS K (fun xs H Q => rSortedPO K xs H Q ∨ rSortedPT K xs H Q) fSortedP := c1_s fun W sv w u d S H Q z r q => by
  obtain ⟨xs, a0, vs0, he, e0, ra0, hs0, hk⟩ := withItems_s z r q
  cases ep : prsOf xs with
  | none => simp only [ep] at hk; exact False.elim hk
  | some ps =>
    simp only [ep] at hk
    have exs := prsOf_eq ep
    subst exs
    have fin : ∀ vs : List V, RepA K w vs (ps.map prD) → ∃ k : V → Int × Int, (∀ x ∈ vs, ∃ t, x = V.ref t ∧ H t = some (.tup [.int (k x).1, .int (k x).2])) ∧
        ∀ ys p, SrtO.Srtd (ltP k) ys → SrtO.Stb (ltP k) ys vs → H p = none → Q (.ref p) (upd H p (.lst ys)) := fun vs ra => by
      obtain ⟨k, hx⟩ := pairs_rep ra
      have ek : vs.map k = ps := RepA.inj_pr (pairs_back hx) ra
      refine ⟨k, fun x hm => (hx x hm).imp fun t h => ⟨h.1, z.same _ _ h.2⟩, fun ys p g1 g2 np => ?_⟩
      have hy : ∀ x ∈ ys, ∃ t, x = V.ref t ∧ w.G t = some (.tup [.int (k x).1, .int (k x).2]) := fun x hm => hx x (g2.perm.mem_iff.mp hm)
      have ey : ys.map k = sortP ps := by
        refine sortP_uniq (by rw [← ek]; exact g2.perm.map k) (List.pairwise_map.mpr ?_)
        refine List.Pairwise.imp (fun {x y} h => ?_) g1
        unfold leP
        rw [Bool.not_eq_true']
        exact h
      have ry := pairs_back (K := K) hy
      rw [ey] at ry
      exact (mkLst_s hk z ry).2 p np
    by_cases t : isTupD d = true
    · obtain ⟨a, vs, rfl, ra, hs⟩ := items_tup z r he t
      obtain ⟨k, h1, h2⟩ := fin vs ra
      exact .inr ⟨a, vs, k, rfl, hs, h1, h2⟩
    · obtain ⟨a, vs, rfl, ra, hs⟩ := items_list z r he (by simpa using t)
      obtain ⟨k, h1, h2⟩ := fin vs ra
      exact .inl ⟨a, vs, k, rfl, hs, h1, h2⟩
theorem call_sortedP {X : Cx} : CallR X (.builtin "sorted") (fun xs H Q => rSortedPO X.K xs H Q ∨ rSortedPT X.K xs H Q) := cr_sortedPO.or cr_sortedPT
end DL
end

section
set_option Elab.async false
set_option linter.all false
set_option maxRecDepth 100000
set_option maxHeartbeats 4000000
namespace DL
open PySem PySem.Spec PyProof.Rows L2

/-! ### further expressions -/
def negD (d : D) (S : Sto) : Rs D := match d with
  | .int i => .ok (.int (-i)) S
  | _ => .bad
def mNeg (a : E3) : E3 := fun σ S => (a σ S).bind negD
/-- < and its like, of ints and of texts -/
def cmpG (f : Int → Int → Bool) (g : List Nat → List Nat → Bool) : O3 := fun d e S => match d with
  | .int i => (match e with
    | .int j => .ok (.bl (f i j)) S
    | _ => .bad)
  | .str x => (match e with
    | .str y => .ok (.bl (g x.cps.toList y.cps.toList)) S
    | _ => .bad)
  | _ => .bad
def rCmpG (f : Int → Int → Bool) (g : List Nat → List Nat → Bool) : R2 := fun x y H Q => rI0 (fun i j => .bl (f i j)) x y H Q ∨ ∃ i j, x = .str i ∧ y = .str j ∧ Q (.bl (g i.cps.toList j.cps.toList)) H
theorem cmpG_s {K : PySem.W.Frag} {f : Int → Int → Bool} {g : List Nat → List Nat → Bool} : OpS K (rCmpG f g) (cmpG f g) := by
  intro W sv w u v d e S H Q z r1 r2 q
  cases d with
  | int i =>
    cases e with
    | int j => cases r1; cases r2; exact .inl ⟨i, j, rfl, rfl, Hold.at_ (show Hold K W sv (Rep K) w Q (.ok (.bl (f i j)) S) from q) z (.bl _)⟩
    | _ => exact False.elim q
  | str x =>
    cases e with
    | str y => cases r1; cases r2; exact .inr ⟨x, y, rfl, rfl, Hold.at_ (show Hold K W sv (Rep K) w Q (.ok (.bl (g x.cps.toList y.cps.toList)) S) from q) z (.bl _)⟩
    | _ => exact False.elim q
  | _ => exact False.elim q
def ltL (a b : List Nat) : Bool := decide (a < b)
def oLtA : O3 := cmpG (fun i j => decide (i < j)) fun a b => ltL a b
def oLeA : O3 := cmpG (fun i j => decide (i ≤ j)) fun a b => !ltL b a
def oGtA : O3 := cmpG (fun i j => decide (j < i)) fun a b => ltL b a
def oGeA : O3 := cmpG (fun i j => decide (j ≤ i)) fun a b => !ltL a b
section
variable {X : Cx}
theorem op_ltA : OpR X (compareOp .Lt) (rCmpG (fun i j => decide (i < j)) fun a b => ltL a b) := op_lt.or op_lt_str
theorem op_leA : OpR X (compareOp .LtE) (rCmpG (fun i j => decide (i ≤ j)) fun a b => !ltL b a) := op_le.or op_le_str
theorem op_gtA : OpR X (compareOp .Gt) (rCmpG (fun i j => decide (j < i)) fun a b => ltL b a) := op_gt.or op_gt_str
theorem op_geA : OpR X (compareOp .GtE) (rCmpG (fun i j => decide (j ≤ i)) fun a b => !ltL a b) := op_ge.or op_ge_str
end
/-- a op b op' c -/
def mChain (f f' : O3) (a b c : E3) : E3 := fun σ S => (a σ S).bind fun x S1 => (b σ S1).bind fun y S2 => (f x y S2).bind fun k S3 => match k with
  | .bl true => (c σ S3).bind fun v S4 => f' y v S4
  | .bl false => .ok (.bl false) S3
  | _ => .bad
/-- a list, a text, so many times -/
def repSeq (d : D) (k : Int) (S : Sto) : Rs D := guard (decide (-(2 ^ 63) ≤ k) && decide (k < 2 ^ 63) && isLstD d) (withItems d S fun xs => guard (sizeOk (xs.length * k.toNat)) (mkLst (List.replicate k.toNat xs).flatten S))
def oMulA : O3 := fun d e S => match e with
  | .int k => (match d with
    | .int i => oMul (.int i) (.int k) S
    | d => repSeq d k S)
  | _ => .bad
section
variable {X : Cx} {W : WX} {pos : Pos} {a b c : Expr} {ma mb mc : E3} {f f' : O3} {r r' : R2}
theorem e_neg (h : PE3 X W a ma) : PE3 X W (.UnaryOp .USub a pos) (mNeg ma) :=
  PE.imp (pe_un un_neg h) fun sv H Q ⟨w, σ, S, l, z, q⟩ => ⟨w, σ, S, l, z, Hold.step q fun d S1 w1 H1 u x1 z1 r1 q1 => by
    cases d with
    | int i => cases r1; exact ⟨i, rfl, Hold.at_ (show Hold X.K W sv (Rep X.K) w1 Q (.ok (.int (-i)) S1) from q1) z1 (.int _)⟩
    | _ => exact False.elim q1⟩
theorem chain3 (s : OpS X.K r f) (s' : OpS X.K r' f') (sv : L2.St) (H : Hp) (Q : VK) (h : rdE X.K W (mChain f f' ma mb mc) sv H Q) : tChain r r' (rdE X.K W ma) (rdE X.K W mb) (rdE X.K W mc) sv H Q := by
  obtain ⟨w, σ, S, l, z, q⟩ := h
  refine ⟨w, σ, S, l, z, Hold.step q fun d S1 w1 H1 u x1 z1 r1 q1 => ?_⟩
  refine ⟨w1, σ, S1, l.mono x1, z1, Hold.step q1 fun e S2 w2 H2 v x2 z2 r2 q2 => ?_⟩
  refine s W sv w2 u v d e S2 H2 _ z2 (r1.mono x2) r2 (Hold.step q2 fun k S3 w3 H3 y x3 z3 r3 q3 => ?_)
  cases k with
  | bl k =>
    cases r3
    refine ⟨k, rfl, ?_⟩
    cases k with
    | true =>
      refine iteT ⟨w3, σ, S3, l.mono ((x1.trans x2).trans x3), z3, Hold.step q3 fun g S4 w4 H4 y4 x4 z4 r4 q4 => ?_⟩
      exact s' W sv w4 v y4 e g S4 H4 Q z4 (r2.mono (x3.trans x4)) r4 q4
    | false => exact iteF (Hold.at_ q3 z3 (.bl _))
  | _ => exact False.elim q3
theorem e_chain {op op' : CmpOp} (o : OpR X (compareOp op) r) (s : OpS X.K r f) (o' : OpR X (compareOp op') r') (s' : OpS X.K r' f') (ha : PE3 X W a ma) (hb : PE3 X W b mb) (hc : PE3 X W c mc)
    (hm : lastMarks [op, op'] [b, c] = false := by with_unfolding_all rfl) : PE3 X W (.Compare a [op, op'] [b, c] pos) (mChain f f' ma mb mc) :=
  PE.imp (pe_chain o o' ha hb hc hm) fun sv H Q h => chain3 s s' sv H Q h
theorem t_chain {op op' : CmpOp} (o : OpR X (compareOp op) r) (s : OpS X.K r f) (o' : OpR X (compareOp op') r') (s' : OpS X.K r' f') (ha : PE3 X W a ma) (hb : PE3 X W b mb) (hc : PE3 X W c mc)
    (hm : lastMarks [op, op'] [b, c] = false := by with_unfolding_all rfl) : PT3 X W (.Compare a [op, op'] [b, c] pos) (fun σ S => asB (mChain f f' ma mb mc σ S)) :=
  PT.imp (pt_chain o o' ha hb hc hm) fun sv H Q ⟨w, σ, S, l, z, q⟩ => chain3 s s' sv H _ ⟨w, σ, S, l, z, q.asB⟩
end
def rMulA : R2 := fun x y H Q => rI CMul (fun i j => .int (i * j)) x y H Q ∨ rRep x y H Q
theorem rep_vals {K : PySem.W.Frag} {w : Wd} {vs : List V} {ds : List D} (r : RepA K w vs ds) : ∀ k : Nat, RepA K w (List.replicate k vs).flatten (List.replicate k ds).flatten
  | 0 => .nil
  | k + 1 => by
    rw [List.replicate_succ, List.replicate_succ, List.flatten_cons, List.flatten_cons]
    exact r.append (rep_vals r k)
theorem oMulA_s {K : PySem.W.Frag} : OpS K rMulA oMulA := by
  intro W sv w u v d e S H Q z r1 r2 q
  cases e with
  | int k =>
    have seq : Hold K W sv (Rep K) w Q (repSeq d k S) → rMulA u v H Q := fun q => by
      obtain ⟨hg, q⟩ := guard_s q
      simp only [Bool.and_eq_true, decide_eq_true_eq] at hg
      obtain ⟨xs, _, _, he, _, _, _, q⟩ := withItems_s z r1 q
      obtain ⟨hz, q⟩ := guard_s q
      obtain ⟨a, vs, rfl, ra, hs⟩ := items_trk z r1 he hg.2
      cases r2
      exact .inr ⟨a, k, vs, rfl, rfl, hs, hg.1.1, hg.1.2, by rw [ra.length]; exact of_decide_eq_true hz, (mkLst_s q z (rep_vals ra _)).2⟩
    cases d with
    | int i => exact .inl (oMul_s (K := K) W sv w u v _ _ S H Q z r1 r2 q)
    | _ => exact seq q
  | _ => exact False.elim q
theorem op_mulA {X : Cx} : OpR X (binaryOp .Mult) rMulA := op_mul.or op_rep

/-! ### two names at once -/
def mPar (i j : Nat) (a : A3) : S3 := fun σ S => (a σ S).toS σ fun ds S1 => match ds with
  | [d, e] => .go .next ((σ.set i (some d)).set j (some e)) S1
  | _ => .bad
section
variable {X : Cx} {W : WX} {pos : Pos}
theorem s_par {i j : Nat} {x y : Str} {a b : Expr} {ms : A3} {px py pt : Pos} {kt k2 pt2} (hc : X.calm = true) (hN : X.N.Nodup) (hi : X.N[i]? = some x) (hj : X.N[j]? = some y) (hij : i ≠ j)
    (hx : X.env.scope.names.lookup x = some .local) (hy : X.env.scope.names.lookup y = some .local) (ha : PA3 X W [a, b] ms)
    (hw : swappedStores [.Tuple [.Name x px, .Name y py] kt pt] (.Tuple [a, b] k2 pt2) X.env = pure (some [x, y]))
    (hs : swapsWithSole [.Tuple [.Name x px, .Name y py] kt pt] (.Tuple [a, b] k2 pt2) pos.line X.env = pure false := by rfl) :
    PS3 X W (.Assign [.Tuple [.Name x px, .Name y py] kt pt] (.Tuple [a, b] k2 pt2) pos) (mPar i j ms) :=
  PS.imp (ps_par hc hN hi hj hij hx hy ha hw hs) fun B sv H ⟨w, σ, S, l, z, q⟩ => ⟨w, σ, S, l, z, HoldS.step l q fun ds S1 w1 H1 us x1 z1 r1 q1 => by
    match ds, us, r1, q1 with
    | [], _, _, q1 => exact False.elim q1
    | [_], _, _, q1 => exact False.elim q1
    | [d, e], _, .cons r2 (.cons r3 .nil), q1 => exact ⟨_, _, rfl, q1 w1 _ H1 (Ext.refl w1) (LRel.set r3 j (LRel.set r2 i (l.mono x1))) z1⟩
    | _ :: _ :: _ :: _, _, _, q1 => exact False.elim q1⟩

/-! ### what a for walks: a list, a tuple, a text -/
theorem PI.or {tg e : Expr} {t t' : TI} (h : PI X tg e t) (h' : PI X tg e t') : PI X tg e (fun s H R => t s H R ∨ t' s H R) := ⟨fun pins s σ H R I q => q.elim (h.run pins s σ H R I) (h'.run pins s σ H R I)⟩
def chD (x : Str) : List D := x.cps.toList.map fun c => D.str ⟨#[c]⟩
def walkS (d : D) (S : Sto) : Rs (List D) := match d with
  | .str x => .ok (chD x) S
  | .tup xs => .ok xs S
  | .wt xs => .ok xs S
  | d => walkL d S
def mWalk (a : E3) : A3 := fun σ S => (a σ S).bind walkS
theorem walk_s {K : PySem.W.Frag} {w : Wd} {x : Str} : IsWalk K w (Its x) (chD x) := fun i w1 S H y z => by
  have hl : (chD x).length = x.cps.size := by unfold chD; rw [List.length_map, Array.length_toList]
  refine ⟨fun hi => by rw [hl] at hi; exact hi, fun d e => ?_⟩
  have hi : i < x.cps.size := by rw [← hl]; exact (List.getElem?_eq_some_iff.mp e).1
  refine ⟨hi, fun v H' q => ?_⟩
  obtain ⟨rfl, c, hc, rfl⟩ := q
  unfold chD at e
  rw [List.getElem?_map, Array.getElem?_toList, hc] at e
  have e2 : D.str ⟨#[c]⟩ = d := Option.some.inj e
  subst e2
  exact ⟨w1, Ext.refl w1, z, .str _⟩
theorem walk_r3 {me : E3} (sv : L2.St) (H : Hp) (Q : It → Hp → Prop) (h : rd X.K W (IsWalk X.K) (mWalk me) sv H Q) :
    iList X.K (rdE X.K W me) sv H Q ∨ (iTup X.K (rdE X.K W me) sv H Q ∨ iStr (rdE X.K W me) sv H Q) := by
  obtain ⟨w, σ, S, l, z, q⟩ := h
  unfold mWalk at q
  cases e : me σ S with
  | bad => rw [e] at q; exact False.elim q
  | exc C p S1 => exact .inl (walkL_r sv H Q ⟨w, σ, S, l, z, by unfold mWalkL; rw [e] at q ⊢; exact q⟩)
  | ok d S1 =>
    rw [e] at q
    have viaL : Hold X.K W sv (IsWalk X.K) w Q (walkL d S1) → iList X.K (rdE X.K W me) sv H Q := fun q => walkL_r sv H Q ⟨w, σ, S, l, z, by unfold mWalkL; rw [e]; exact q⟩
    have viaT : Hold X.K W sv (IsWalk X.K) w Q (walkT d S1) → iTup X.K (rdE X.K W me) sv H Q := fun q => walkT_r sv H Q ⟨w, σ, S, l, z, by unfold mWalkT; rw [e]; exact q⟩
    cases d with
    | str x =>
      refine .inr (.inr ⟨w, σ, S, l, z, ?_⟩)
      rw [e]
      intro w1 H1 v x1 z1 r1
      cases r1
      exact ⟨x, rfl, Hold.at_ ((show Hold X.K W sv (IsWalk X.K) w Q (.ok (chD x) S1) from q).mono x1) z1 walk_s⟩
    | tup xs => exact .inr (.inl (viaT q))
    | wt xs => exact .inr (.inl (viaT q))
    | _ => exact .inl (viaL q)
theorem i_seq {tg e : Expr} {me : E3} (h : PE3 X W e me) : PI3 X W tg e (mWalk me) := PI.imp (PI.or (pi_list h) (PI.or (pi_tup h) (pi_str h))) walk_r3
end

/-! ### defs by their names -/
/-- a def of the module under its name, its function -/
structure Cal3 (P : Program) (w : World) (K : PySem.W.Frag) (mg : Str → Option Value) (base : Heap) (k : Nat) (x : Str) (n : Nat) (F : C3) : Prop where
  ex : ∃ f fd ps, mg x = some (.ref f) ∧ PySem.W.keepIn K (.ref f) = true ∧ Binds K fd ps [] ∧ ps.length = n ∧ FnOk3 P w K mg base k f fd ps F
section
variable {X : Cx} {W : WX} {k j : Nat} {F : C3} {x : Str} {n : Nat} {p pos : Pos} {e : Expr} {es : List Expr} {ms : A3}
theorem e_c3 (c : Cal3 X.prog X.w X.K X.mg X.base k x n F) (hr : RoomG j X.A) (hk : k ≤ j) (tk : Takes X W) (hg : Gl X x) (ha : PA3 X W (e :: es) ms)
    (hdb : (x == ("__debug__" : Str)) = false := by decide) (he : starEach (e :: es) X.env = (false, eval e X.env) :: starEach es X.env := by rfl) (hpl : (backTo pos (starEach es X.env)).any (·.1) = false := by rfl) :
    PE3 X W (.Call (.Name x p) (e :: es) [] pos) (mMake (withLen n F) ms) := by
  obtain ⟨f, fd, ps, hm, hkp, hb, rfl, G⟩ := c.ex
  have h := e_callD (dv := []) (dd := []) (du := []) (p := p) (pos := pos) G (hr.mono hk) tk hg hm hkp hb .nil (fun _ => .nil) ha hdb he hpl
  refine PE.imp h fun sv H Q ⟨w, σ, S, l, z, q⟩ => ⟨w, σ, S, l, z, ?_⟩
  unfold mMake at q ⊢
  cases ea : ms σ S with
  | bad => rw [ea] at q; exact q
  | exc C p S' => rw [ea] at q; exact q
  | ok ds S' =>
    rw [ea] at q
    show Hold X.K W sv (Rep X.K) w Q (withLen ps.length F (ds ++ []) S')
    rw [List.append_nil]
    exact q
end
/-- the built-in names that a text uses mean what they mean -/
def Free (mg : Str → Option Value) (xs : List Str) : Prop := ∀ x ∈ xs, mg x = none
end DL
end

section
set_option Elab.async false
set_option linter.all false
set_option maxRecDepth 100000
set_option maxHeartbeats 4000000
namespace DL
open PySem PySem.Spec PyProof.Rows L2

/-! ### sorted: ints, or pairs of ints -/
def leI (a b : Int) : Bool := decide (a ≤ b)
def sortI (ns : List Int) : List Int := ns.mergeSort leI
def insOf : List D → Option (List Int)
  | [] => some []
  | d :: ds => match d, insOf ds with
    | .int i, some ns => some (i :: ns)
    | _, _ => none
theorem insOf_map : ∀ ns : List Int, insOf (ns.map D.int) = some ns
  | [] => rfl
  | n :: ns => by
    have ih := insOf_map ns
    show (match D.int n, insOf (ns.map D.int) with
      | .int i, some ns => some (i :: ns)
      | _, _ => none) = _
    rw [ih]
theorem insOf_eq : ∀ {ds : List D} {ns : List Int}, insOf ds = some ns → ds = ns.map D.int
  | [], _, e => by cases e; rfl
  | d :: ds, ns, e => by
    unfold insOf at e
    cases d with
    | int i =>
      cases q : insOf ds with
      | none => rw [q] at e; cases e
      | some ms =>
        rw [q] at e
        cases e
        rw [insOf_eq q]; rfl
    | _ => cases q : insOf ds <;> rw [q] at e <;> cases e
theorem rep_ints {K : PySem.W.Frag} {w : Wd} : ∀ {ns : List Int} {vs : List V}, RepA K w vs (ns.map D.int) → vs = ns.map V.int
  | [], _, r => by cases r; rfl
  | n :: ns, _, r => by
    cases r with
    | cons a b => cases a; rw [rep_ints b]; rfl
theorem sortI_uniq {l ns : List Int} (p : l.Perm ns) (h : l.Pairwise (· ≤ ·)) : l = sortI ns := by
  refine sorted_uniq (le := fun a b => leI a b = true) (fun a b h1 h2 => Int.le_antisymm (of_decide_eq_true h1) (of_decide_eq_true h2)) (p.trans (List.mergeSort_perm ns leI).symm) ?_ ?_
  · exact h.imp fun {a b} q => decide_eq_true q
  · refine List.pairwise_mergeSort (fun a b c h1 h2 => ?_) (fun a b => ?_) ns
    · exact decide_eq_true (Int.le_trans (of_decide_eq_true h1) (of_decide_eq_true h2))
    · unfold leI
      rcases Int.le_total a b with h | h
      · rw [decide_eq_true h]; rfl
      · rw [decide_eq_true h, Bool.or_true]
def srt (d : D) (S : Sto) : Rs D := withItems d S fun xs => match prsOf xs with
  | some ps => mkLst ((sortP ps).map prD) S
  | none => (match insOf xs with
    | some ns => if isTupD d then .bad else mkLst ((sortI ns).map D.int) S
    | none => .bad)
def fSorted : C3 := c1 srt
def rSortedA (K : PySem.W.Frag) : List V → Hp → VK → Prop := fun xs H Q => rSortedI K xs H Q ∨ (rSortedPO K xs H Q ∨ rSortedPT K xs H Q)
theorem fSorted_s {K : PySem.W.Frag} : CallS K (rSortedA K) fSorted := c1_s fun W sv w u d S H Q z r q => by
  obtain ⟨xs, a0, vs0, he, e0, ra0, hs0, hk⟩ := withItems_s z r q
  cases ep : prsOf xs with
  | some ps =>
    simp only [ep] at hk
    have q2 : Hold K W sv (Rep K) w Q (withItems d S fun xs => match prsOf xs with
        | some ps => mkLst ((sortP ps).map prD) S
        | none => .bad) := by
      unfold withItems
      simp only [he, ep]
      exact hk
    exact .inr (fSortedP_s W sv w [u] [d] S H Q z (.cons r .nil) q2)
  | none =>
    simp only [ep] at hk
    cases ei : insOf xs with
    | none => simp only [ei] at hk; exact False.elim hk
    | some ns =>
      simp only [ei] at hk
      have ex := insOf_eq ei
      subst ex
      by_cases t : isTupD d = true
      · rw [if_pos t] at hk; exact False.elim hk
      · rw [if_neg t] at hk
        obtain ⟨a, vs, rfl, ra, hs⟩ := items_list z r he (by simpa using t)
        have ev := rep_ints ra
        subst ev
        exact .inl ⟨a, ns, rfl, hs, fun ns' p g1 g2 np => by
          have e := sortI_uniq g1 g2
          subst e
          exact (mkLst_s hk z (repInts _)).2 p np⟩
theorem call_sortedA {X : Cx} : CallR X (.builtin "sorted") (rSortedA X.K) := cr_sortedI.or call_sortedP
end DL
end

section
set_option Elab.async false
set_option linter.all false
set_option maxRecDepth 100000
set_option maxHeartbeats 4000000
/-! how the functions are reckoned, from the inside -/
namespace DL
open PySem PySem.Spec PyProof.Rows L2

@[simp] theorem mC_ev (d : D) (σ : Loc) (S : Sto) : mC d σ S = .ok d S := rfl
def get1 (o : Option (Option D)) (S : Sto) : Rs D := match o with
  | some (some d) => .ok d S
  | _ => .bad
@[simp] theorem mVar_ev (i : Nat) (σ : Loc) (S : Sto) : mVar i σ S = get1 σ[i]? S := rfl
@[simp] theorem get1_ev (d : D) (S : Sto) : get1 (some (some d)) S = .ok d S := rfl

def bin2 (f : O3) (d : D) (r : Rs D) : Rs D := r.bind fun e S2 => f d e S2
def bin1 (f : O3) (b : E3) (σ : Loc) (r : Rs D) : Rs D := r.bind fun d S1 => bin2 f d (b σ S1)
@[simp] theorem mBin_ev (f : O3) (a b : E3) (σ : Loc) (S : Sto) : mBin f a b σ S = bin1 f b σ (a σ S) := rfl
@[simp] theorem bin1_ev (f : O3) (b : E3) (σ : Loc) (d : D) (S : Sto) : bin1 f b σ (.ok d S) = bin2 f d (b σ S) := rfl
@[simp] theorem bin2_ev (f : O3) (d e : D) (S : Sto) : bin2 f d (.ok e S) = f d e S := rfl

def make1 (f : C3) (r : Rs (List D)) : Rs D := r.bind f
@[simp] theorem mMake_ev (f : C3) (a : A3) (σ : Loc) (S : Sto) : mMake f a σ S = make1 f (a σ S) := rfl
@[simp] theorem make1_ev (f : C3) (ds : List D) (S : Sto) : make1 f (.ok ds S) = f ds S := rfl
@[simp] theorem mNil_ev (σ : Loc) (S : Sto) : mNil σ S = .ok [] S := rfl
def cons2 (d : D) (r : Rs (List D)) : Rs (List D) := r.bind fun ds S2 => .ok (d :: ds) S2
def cons1 (b : A3) (σ : Loc) (r : Rs D) : Rs (List D) := r.bind fun d S1 => cons2 d (b σ S1)
@[simp] theorem mCons_ev (a : E3) (b : A3) (σ : Loc) (S : Sto) : mCons a b σ S = cons1 b σ (a σ S) := rfl
@[simp] theorem cons1_ev (b : A3) (σ : Loc) (d : D) (S : Sto) : cons1 b σ (.ok d S) = cons2 d (b σ S) := rfl
@[simp] theorem cons2_ev (d : D) (ds : List D) (S : Sto) : cons2 d (.ok ds S) = .ok (d :: ds) S := rfl
@[simp] theorem withLen_ev (n : Nat) (F : C3) (ds : List D) (S : Sto) (h : ds.length = n) : withLen n F ds S = F ds S := if_pos h

def asg2 (S : Sto) (o : Option Loc) : Rt := match o with
  | some σ => .go .next σ S
  | none => .bad
def asg1 (g : G3) (σ : Loc) (r : Rs D) : Rt := r.toS σ fun d S1 => asg2 S1 (g d σ)
@[simp] theorem mAsg_ev (a : E3) (g : G3) (σ : Loc) (S : Sto) : mAsg a g σ S = asg1 g σ (a σ S) := by
  unfold mAsg asg1 asg2
  rfl
@[simp] theorem asg1_ev (g : G3) (σ : Loc) (d : D) (S : Sto) : asg1 g σ (.ok d S) = asg2 S (g d σ) := rfl
@[simp] theorem asg2_ev (S : Sto) (σ : Loc) : asg2 S (some σ) = .go .next σ S := rfl
@[simp] theorem g3Name_ev (i : Nat) (d : D) (σ : Loc) : g3Name i d σ = some (σ.set i (some d)) := rfl
@[simp] theorem g3Nil_ev (σ : Loc) : g3Nil [] σ = some σ := rfl
@[simp] theorem g3Cons_ev (g : G3) (r : Gs3) (d : D) (ds : List D) (σ : Loc) : g3Cons g r (d :: ds) σ = (g d σ).bind (r ds) := rfl
@[simp] theorem g3Tup_ev (n : Nat) (g : Gs3) (ds : List D) (σ : Loc) (h : ds.length = n) : g3Tup n g (.tup ds) σ = g ds σ := if_pos h

def seq1 (b : S3) (r : Rt) : Rt := match r with
  | .go .next σ S => b σ S
  | r => r
@[simp] theorem mSeq_ev (a b : S3) (σ : Loc) (S : Sto) : mSeq a b σ S = seq1 b (a σ S) := rfl
@[simp] theorem seq1_next (b : S3) (σ : Loc) (S : Sto) : seq1 b (.go .next σ S) = b σ S := rfl
@[simp] theorem seq1_ret (b : S3) (d : D) (σ : Loc) (S : Sto) : seq1 b (.go (.ret d) σ S) = .go (.ret d) σ S := rfl
@[simp] theorem seq1_brk (b : S3) (σ : Loc) (S : Sto) : seq1 b (.go .brk σ S) = .go .brk σ S := rfl
@[simp] theorem seq1_cont (b : S3) (σ : Loc) (S : Sto) : seq1 b (.go .cont σ S) = .go .cont σ S := rfl
@[simp] theorem seq1_exc (b : S3) (C : Addr) (p : Pay) (σ : Loc) (S : Sto) : seq1 b (.exc C p σ S) = .exc C p σ S := rfl
@[simp] theorem mNext_ev (σ : Loc) (S : Sto) : mNext σ S = .go .next σ S := rfl
@[simp] theorem mBrk_ev (σ : Loc) (S : Sto) : mBrk σ S = .go .brk σ S := rfl
@[simp] theorem mCont_ev (σ : Loc) (S : Sto) : mCont σ S = .go .cont σ S := rfl
@[simp] theorem mRetN_ev (σ : Loc) (S : Sto) : mRetN σ S = .go (.ret .non) σ S := rfl
def ret1 (σ : Loc) (r : Rs D) : Rt := r.toS σ fun d S1 => .go (.ret d) σ S1
@[simp] theorem mRet_ev (a : E3) (σ : Loc) (S : Sto) : mRet a σ S = ret1 σ (a σ S) := rfl
@[simp] theorem ret1_ev (σ : Loc) (d : D) (S : Sto) : ret1 σ (.ok d S) = .go (.ret d) σ S := rfl
def expr1 (σ : Loc) (r : Rs D) : Rt := r.toS σ fun _ S1 => .go .next σ S1
@[simp] theorem mExpr_ev (a : E3) (σ : Loc) (S : Sto) : mExpr a σ S = expr1 σ (a σ S) := rfl
@[simp] theorem expr1_ev (σ : Loc) (d : D) (S : Sto) : expr1 σ (.ok d S) = .go .next σ S := rfl
def ifs1 (a b : S3) (σ : Loc) (r : Rs Bool) : Rt := r.toS σ fun c S1 => if c then a σ S1 else b σ S1
@[simp] theorem mIfS_ev (t : T3) (a b : S3) (σ : Loc) (S : Sto) : mIfS t a b σ S = ifs1 a b σ (t σ S) := rfl
@[simp] theorem ifs1_true (a b : S3) (σ : Loc) (S : Sto) : ifs1 a b σ (.ok true S) = a σ S := rfl
@[simp] theorem ifs1_false (a b : S3) (σ : Loc) (S : Sto) : ifs1 a b σ (.ok false S) = b σ S := rfl
theorem ifs1_ev (a b : S3) (σ : Loc) (S : Sto) (c : Bool) : ifs1 a b σ (.ok c S) = if c then a σ S else b σ S := rfl

@[simp] theorem asB_ev (b : Bool) (S : Sto) : asB (.ok (.bl b) S) = .ok b S := rfl
def asT1 (S : Sto) (o : Option Bool) : Rs Bool := match o with
  | some b => .ok b S
  | none => .bad
@[simp] theorem asT_ev (d : D) (S : Sto) : asT (.ok d S) = asT1 S (truD d S) := rfl
@[simp] theorem asT1_ev (b : Bool) (S : Sto) : asT1 S (some b) = .ok b S := rfl
def tand1 (b : T3) (σ : Loc) (r : Rs Bool) : Rs Bool := r.bind fun c S1 => if c then b σ S1 else .ok false S1
@[simp] theorem tAnd3_ev (a b : T3) (σ : Loc) (S : Sto) : tAnd3 a b σ S = tand1 b σ (a σ S) := rfl
@[simp] theorem tand1_true (b : T3) (σ : Loc) (S : Sto) : tand1 b σ (.ok true S) = b σ S := rfl
@[simp] theorem tand1_false (b : T3) (σ : Loc) (S : Sto) : tand1 b σ (.ok false S) = .ok false S := rfl
def tor1 (b : T3) (σ : Loc) (r : Rs Bool) : Rs Bool := r.bind fun c S1 => if c then .ok true S1 else b σ S1
@[simp] theorem tOr3_ev (a b : T3) (σ : Loc) (S : Sto) : tOr3 a b σ S = tor1 b σ (a σ S) := rfl
@[simp] theorem tor1_true (b : T3) (σ : Loc) (S : Sto) : tor1 b σ (.ok true S) = .ok true S := rfl
@[simp] theorem tor1_false (b : T3) (σ : Loc) (S : Sto) : tor1 b σ (.ok false S) = b σ S := rfl
def tnot1 (r : Rs Bool) : Rs Bool := r.bind fun c S1 => .ok (!c) S1
@[simp] theorem tNot3_ev (a : T3) (σ : Loc) (S : Sto) : tNot3 a σ S = tnot1 (a σ S) := rfl
@[simp] theorem tnot1_ev (b : Bool) (S : Sto) : tnot1 (.ok b S) = .ok (!b) S := rfl
def if1 (a b : E3) (σ : Loc) (r : Rs Bool) : Rs D := r.bind fun c S1 => if c then a σ S1 else b σ S1
@[simp] theorem mIf3_ev (t : T3) (a b : E3) (σ : Loc) (S : Sto) : mIf3 t a b σ S = if1 a b σ (t σ S) := rfl
@[simp] theorem if1_true (a b : E3) (σ : Loc) (S : Sto) : if1 a b σ (.ok true S) = a σ S := rfl
@[simp] theorem if1_false (a b : E3) (σ : Loc) (S : Sto) : if1 a b σ (.ok false S) = b σ S := rfl
theorem if1_ev (a b : E3) (σ : Loc) (S : Sto) (c : Bool) : if1 a b σ (.ok c S) = if c then a σ S else b σ S := rfl
def and1 (b : E3) (σ : Loc) (r : Rs D) : Rs D := r.bind fun d S1 => match d with
  | .bl true => b σ S1
  | .bl false => .ok (.bl false) S1
  | _ => .bad
@[simp] theorem mAnd_ev (a b : E3) (σ : Loc) (S : Sto) : mAnd a b σ S = and1 b σ (a σ S) := rfl
@[simp] theorem and1_true (b : E3) (σ : Loc) (S : Sto) : and1 b σ (.ok (.bl true) S) = b σ S := rfl
@[simp] theorem and1_false (b : E3) (σ : Loc) (S : Sto) : and1 b σ (.ok (.bl false) S) = .ok (.bl false) S := rfl
theorem and1_ev (b : E3) (σ : Loc) (S : Sto) (c : Bool) : and1 b σ (.ok (.bl c) S) = if c then b σ S else .ok (.bl false) S := by cases c <;> rfl
def or1 (b : E3) (σ : Loc) (r : Rs D) : Rs D := r.bind fun d S1 => match d with
  | .bl true => .ok (.bl true) S1
  | .bl false => b σ S1
  | _ => .bad
@[simp] theorem mOr_ev (a b : E3) (σ : Loc) (S : Sto) : mOr a b σ S = or1 b σ (a σ S) := rfl
@[simp] theorem or1_true (b : E3) (σ : Loc) (S : Sto) : or1 b σ (.ok (.bl true) S) = .ok (.bl true) S := rfl
@[simp] theorem or1_false (b : E3) (σ : Loc) (S : Sto) : or1 b σ (.ok (.bl false) S) = b σ S := rfl
theorem or1_ev (b : E3) (σ : Loc) (S : Sto) (c : Bool) : or1 b σ (.ok (.bl c) S) = if c then .ok (.bl true) S else b σ S := by cases c <;> rfl
def not1 (r : Rs D) : Rs D := r.bind fun d S1 => match d with
  | .bl c => .ok (.bl (!c)) S1
  | _ => .bad
@[simp] theorem mNot_ev (a : E3) (σ : Loc) (S : Sto) : mNot a σ S = not1 (a σ S) := rfl
@[simp] theorem not1_ev (c : Bool) (S : Sto) : not1 (.ok (.bl c) S) = .ok (.bl (!c)) S := rfl
def neg1 (r : Rs D) : Rs D := r.bind negD
@[simp] theorem mNeg_ev (a : E3) (σ : Loc) (S : Sto) : mNeg a σ S = neg1 (a σ S) := rfl
@[simp] theorem neg1_ev (i : Int) (S : Sto) : neg1 (.ok (.int i) S) = .ok (.int (-i)) S := rfl

def chn3 (f' : O3) (y : D) (r : Rs D) : Rs D := r.bind fun v S4 => f' y v S4
def chn2 (f' : O3) (c : E3) (σ : Loc) (y : D) (r : Rs D) : Rs D := r.bind fun k S3 => match k with
  | .bl true => chn3 f' y (c σ S3)
  | .bl false => .ok (.bl false) S3
  | _ => .bad
def chn1 (f f' : O3) (c : E3) (σ : Loc) (x : D) (r : Rs D) : Rs D := r.bind fun y S2 => chn2 f' c σ y (f x y S2)
def chn0 (f f' : O3) (b c : E3) (σ : Loc) (r : Rs D) : Rs D := r.bind fun x S1 => chn1 f f' c σ x (b σ S1)
@[simp] theorem mChain_ev (f f' : O3) (a b c : E3) (σ : Loc) (S : Sto) : mChain f f' a b c σ S = chn0 f f' b c σ (a σ S) := rfl
@[simp] theorem chn0_ev (f f' : O3) (b c : E3) (σ : Loc) (x : D) (S : Sto) : chn0 f f' b c σ (.ok x S) = chn1 f f' c σ x (b σ S) := rfl
@[simp] theorem chn1_ev (f f' : O3) (c : E3) (σ : Loc) (x y : D) (S : Sto) : chn1 f f' c σ x (.ok y S) = chn2 f' c σ y (f x y S) := rfl
@[simp] theorem chn2_true (f' : O3) (c : E3) (σ : Loc) (y : D) (S : Sto) : chn2 f' c σ y (.ok (.bl true) S) = chn3 f' y (c σ S) := rfl
@[simp] theorem chn2_false (f' : O3) (c : E3) (σ : Loc) (y : D) (S : Sto) : chn2 f' c σ y (.ok (.bl false) S) = .ok (.bl false) S := rfl
theorem chn2_ev (f' : O3) (c : E3) (σ : Loc) (y : D) (S : Sto) (k : Bool) : chn2 f' c σ y (.ok (.bl k) S) = if k then chn3 f' y (c σ S) else .ok (.bl false) S := by cases k <;> rfl
@[simp] theorem chn3_ev (f' : O3) (y v : D) (S : Sto) : chn3 f' y (.ok v S) = f' y v S := rfl

def set4 (σ : Loc) (r : Rs D) : Rt := r.toS σ fun _ S4 => .go .next σ S4
def set3 (v d : D) (σ : Loc) (r : Rs D) : Rt := r.toS σ fun k S3 => set4 σ (setAt d k v S3)
def set2 (v : D) (i : E3) (σ : Loc) (r : Rs D) : Rt := r.toS σ fun d S2 => set3 v d σ (i σ S2)
def set1 (o i : E3) (σ : Loc) (r : Rs D) : Rt := r.toS σ fun v S1 => set2 v i σ (o σ S1)
@[simp] theorem mSetIx_ev (o i e : E3) (σ : Loc) (S : Sto) : mSetIx o i e σ S = set1 o i σ (e σ S) := rfl
@[simp] theorem set1_ev (o i : E3) (σ : Loc) (v : D) (S : Sto) : set1 o i σ (.ok v S) = set2 v i σ (o σ S) := rfl
@[simp] theorem set2_ev (v : D) (i : E3) (σ : Loc) (d : D) (S : Sto) : set2 v i σ (.ok d S) = set3 v d σ (i σ S) := rfl
@[simp] theorem set3_ev (v d k : D) (σ : Loc) (S : Sto) : set3 v d σ (.ok k S) = set4 σ (setAt d k v S) := rfl
@[simp] theorem set4_ev (σ : Loc) (d : D) (S : Sto) : set4 σ (.ok d S) = .go .next σ S := rfl
def par1 (i j : Nat) (σ : Loc) (r : Rs (List D)) : Rt := r.toS σ fun ds S1 => match ds with
  | [d, e] => .go .next ((σ.set i (some d)).set j (some e)) S1
  | _ => .bad
@[simp] theorem mPar_ev (i j : Nat) (a : A3) (σ : Loc) (S : Sto) : mPar i j a σ S = par1 i j σ (a σ S) := rfl
@[simp] theorem par1_ev (i j : Nat) (σ : Loc) (d e : D) (S : Sto) : par1 i j σ (.ok [d, e] S) = .go .next ((σ.set i (some d)).set j (some e)) S := rfl
def aug2 (i : Nat) (σ : Loc) (r : Rs D) : Rt := r.toS σ fun v S2 => .go .next (σ.set i (some v)) S2
def aug1 (i : Nat) (f : O3) (d : D) (σ : Loc) (r : Rs D) : Rt := r.toS σ fun e S1 => aug2 i σ (f d e S1)
def aug0 (i : Nat) (f : O3) (a : E3) (σ : Loc) (S : Sto) (o : Option (Option D)) : Rt := match o with
  | some (some d) => aug1 i f d σ (a σ S)
  | _ => .bad
@[simp] theorem mAug_ev (i : Nat) (f : O3) (a : E3) (σ : Loc) (S : Sto) : mAug i f a σ S = aug0 i f a σ S σ[i]? := by
  unfold mAug aug0
  rfl
@[simp] theorem aug0_ev (i : Nat) (f : O3) (a : E3) (σ : Loc) (S : Sto) (d : D) : aug0 i f a σ S (some (some d)) = aug1 i f d σ (a σ S) := rfl
@[simp] theorem aug1_ev (i : Nat) (f : O3) (d : D) (σ : Loc) (e : D) (S : Sto) : aug1 i f d σ (.ok e S) = aug2 i σ (f d e S) := rfl
@[simp] theorem aug2_ev (i : Nat) (σ : Loc) (v : D) (S : Sto) : aug2 i σ (.ok v S) = .go .next (σ.set i (some v)) S := rfl

def for1 (g : G3) (b : S3) (σ : Loc) (r : Rs (List D)) : Rt := r.toS σ fun ds S1 => forD g b ds σ S1
@[simp] theorem mFor_ev (it : A3) (g : G3) (b : S3) (σ : Loc) (S : Sto) : mFor it g b σ S = for1 g b σ (it σ S) := rfl
@[simp] theorem for1_ev (g : G3) (b : S3) (σ : Loc) (ds : List D) (S : Sto) : for1 g b σ (.ok ds S) = forD g b ds σ S := rfl
@[simp] theorem forD_nil (g : G3) (b : S3) (σ : Loc) (S : Sto) : forD g b [] σ S = .go .next σ S := rfl
def for3 (g : G3) (b : S3) (ds : List D) (r : Rt) : Rt := match r with
  | .go .next σ2 S2 => forD g b ds σ2 S2
  | .go .cont σ2 S2 => forD g b ds σ2 S2
  | .go .brk σ2 S2 => .go .next σ2 S2
  | r => r
def for2 (g : G3) (b : S3) (ds : List D) (S : Sto) (o : Option Loc) : Rt := match o with
  | none => .bad
  | some σ1 => for3 g b ds (b σ1 S)
theorem forD_cons (g : G3) (b : S3) (d : D) (ds : List D) (σ : Loc) (S : Sto) : forD g b (d :: ds) σ S = for2 g b ds S (g d σ) := by
  rw [forD]
  unfold for2 for3
  cases g d σ with
  | none => rfl
  | some σ1 =>
    cases hb : b σ1 S with
    | go f σ2 S2 => cases f <;> simp only [hb]
    | exc C p σ2 S2 => simp only [hb]
    | bad => simp only [hb]
@[simp] theorem for2_ev (g : G3) (b : S3) (ds : List D) (S : Sto) (σ : Loc) : for2 g b ds S (some σ) = for3 g b ds (b σ S) := rfl
@[simp] theorem for3_next (g : G3) (b : S3) (ds : List D) (σ : Loc) (S : Sto) : for3 g b ds (.go .next σ S) = forD g b ds σ S := rfl
@[simp] theorem for3_cont (g : G3) (b : S3) (ds : List D) (σ : Loc) (S : Sto) : for3 g b ds (.go .cont σ S) = forD g b ds σ S := rfl
@[simp] theorem for3_brk (g : G3) (b : S3) (ds : List D) (σ : Loc) (S : Sto) : for3 g b ds (.go .brk σ S) = .go .next σ S := rfl
@[simp] theorem for3_ret (g : G3) (b : S3) (ds : List D) (d : D) (σ : Loc) (S : Sto) : for3 g b ds (.go (.ret d) σ S) = .go (.ret d) σ S := rfl
def walk1 (r : Rs D) : Rs (List D) := r.bind walkS
@[simp] theorem mWalk_ev (a : E3) (σ : Loc) (S : Sto) : mWalk a σ S = walk1 (a σ S) := rfl
@[simp] theorem walk1_tup (ds : List D) (S : Sto) : walk1 (.ok (.tup ds) S) = .ok ds S := rfl
@[simp] theorem walk1_lst (ds : List D) (S : Sto) : walk1 (.ok (.lst ds) S) = .ok ds S := rfl
@[simp] theorem walk1_str (x : Str) (S : Sto) : walk1 (.ok (.str x) S) = .ok (chD x) S := rfl
def rgs1 (r : Rs (List D)) : Rs (List D) := r.bind rgA1
def rgs2 (r : Rs (List D)) : Rs (List D) := r.bind rgA2
@[simp] theorem mRange1_ev (a : A3) (σ : Loc) (S : Sto) : mRange1 a σ S = rgs1 (a σ S) := rfl
@[simp] theorem mRange2_ev (a : A3) (σ : Loc) (S : Sto) : mRange2 a σ S = rgs2 (a σ S) := rfl
@[simp] theorem rgs1_ev (j : Int) (S : Sto) : rgs1 (.ok [.int j] S) = rg2 0 j S := rfl
@[simp] theorem rgs2_ev (i j : Int) (S : Sto) : rgs2 (.ok [.int i, .int j] S) = rg2 i j S := rfl
theorem rg2_ev {i j : Int} {S : Sto} (h1 : -1000000 ≤ i) (h2 : i ≤ 1000000) (h3 : -1000000 ≤ j) (h4 : j ≤ 1000000) : rg2 i j S = .ok (rngD i (j - i).toNat) S := by
  unfold rg2
  rw [if_pos (by simp only [Bool.and_eq_true, decide_eq_true_eq]; omega)]

def cmp2 (op : Bool) (r : Rs (List D)) : Rs D := r.bind (endC op)
def cmp1 (op : Bool) (g : G3) (t : T3) (e : E3) (vs : List Nat) (σ : Loc) (r : Rs (List D)) : Rs D := r.bind fun ds S1 => cmp2 op (compD g t e ds [] (wipeD σ vs) S1)
@[simp] theorem mComp_ev (op : Bool) (it : A3) (g : G3) (t : T3) (e : E3) (vs : List Nat) (σ : Loc) (S : Sto) : mComp op it g t e vs σ S = cmp1 op g t e vs σ (it σ S) := rfl
@[simp] theorem cmp1_ev (op : Bool) (g : G3) (t : T3) (e : E3) (vs : List Nat) (σ : Loc) (ds : List D) (S : Sto) : cmp1 op g t e vs σ (.ok ds S) = cmp2 op (compD g t e ds [] (wipeD σ vs) S) := rfl
@[simp] theorem cmp2_false (ys : List D) (S : Sto) : cmp2 false (.ok ys S) = .ok (.lst ys) S := rfl
@[simp] theorem cmp2_true (ys : List D) (S : Sto) : cmp2 true (.ok ys S) = .ok (.ref S.length) (S ++ [.lst ys]) := rfl
@[simp] theorem compD_nil (g : G3) (t : T3) (e : E3) (acc : List D) (σ : Loc) (S : Sto) : compD g t e [] acc σ S = .ok acc S := rfl
def cd3 (g : G3) (t : T3) (e : E3) (ds acc : List D) (σ : Loc) (r : Rs D) : Rs (List D) := match r with
  | .ok y S2 => if acc.length < sizeLine then compD g t e ds (acc ++ [y]) σ S2 else .bad
  | _ => .bad
def cd2 (g : G3) (t : T3) (e : E3) (ds acc : List D) (σ σ1 : Loc) (r : Rs Bool) : Rs (List D) := match r with
  | .ok true S1 => cd3 g t e ds acc σ (e σ1 S1)
  | .ok false S1 => compD g t e ds acc σ S1
  | _ => .bad
def cd1 (g : G3) (t : T3) (e : E3) (ds acc : List D) (σ : Loc) (S : Sto) (o : Option Loc) : Rs (List D) := match o with
  | none => .bad
  | some σ1 => cd2 g t e ds acc σ σ1 (t σ1 S)
theorem compD_cons (g : G3) (t : T3) (e : E3) (d : D) (ds acc : List D) (σ : Loc) (S : Sto) : compD g t e (d :: ds) acc σ S = cd1 g t e ds acc σ S (g d σ) := by
  unfold cd1 cd2 cd3
  rw [compD] <;> rfl
@[simp] theorem cd1_ev (g : G3) (t : T3) (e : E3) (ds acc : List D) (σ σ1 : Loc) (S : Sto) : cd1 g t e ds acc σ S (some σ1) = cd2 g t e ds acc σ σ1 (t σ1 S) := rfl
@[simp] theorem cd2_true (g : G3) (t : T3) (e : E3) (ds acc : List D) (σ σ1 : Loc) (S : Sto) : cd2 g t e ds acc σ σ1 (.ok true S) = cd3 g t e ds acc σ (e σ1 S) := rfl
@[simp] theorem cd2_false (g : G3) (t : T3) (e : E3) (ds acc : List D) (σ σ1 : Loc) (S : Sto) : cd2 g t e ds acc σ σ1 (.ok false S) = compD g t e ds acc σ S := rfl
theorem cd3_ev (g : G3) (t : T3) (e : E3) (ds acc : List D) (σ : Loc) (y : D) (S : Sto) (h : acc.length < 1000000) : cd3 g t e ds acc σ (.ok y S) = compD g t e ds (acc ++ [y]) σ S := by
  show (if acc.length < sizeLine then _ else _) = _
  rw [if_pos (Nat.lt_of_lt_of_le h (by decide))]
@[simp] theorem tTrue3_ev (σ : Loc) (S : Sto) : tTrue3 σ S = .ok true S := rfl

def meth2 (f : M3) (d : D) (r : Rs (List D)) : Rs D := r.bind fun ds S2 => f d ds S2
def meth1 (f : M3) (a : A3) (σ : Loc) (r : Rs D) : Rs D := r.bind fun d S1 => if isListIn S1 d then meth2 f d (a σ S1) else .bad
@[simp] theorem mMethL_ev (f : M3) (o : E3) (a : A3) (σ : Loc) (S : Sto) : mMethL f o a σ S = meth1 f a σ (o σ S) := rfl
theorem meth1_ev (f : M3) (a : A3) (σ : Loc) (d : D) (S : Sto) (h : isListIn S d = true) : meth1 f a σ (.ok d S) = meth2 f d (a σ S) := if_pos h
@[simp] theorem meth2_ev (f : M3) (d : D) (ds : List D) (S : Sto) : meth2 f d (.ok ds S) = f d ds S := rfl

def sl3 (op : Bool) (d : D) (l : Option Int) (r : Rs (Option Int)) : Rs D := r.bind fun h S3 => slD op d l h S3
def sl2 (op : Bool) (d : D) (hi : P3) (σ : Loc) (r : Rs (Option Int)) : Rs D := r.bind fun l S2 => sl3 op d l (hi σ S2)
def sl1 (op : Bool) (lo hi : P3) (σ : Loc) (r : Rs D) : Rs D := r.bind fun d S1 => sl2 op d hi σ (lo σ S1)
@[simp] theorem mSl_ev (op : Bool) (a : E3) (lo hi : P3) (σ : Loc) (S : Sto) : mSl op a lo hi σ S = sl1 op lo hi σ (a σ S) := rfl
@[simp] theorem sl1_ev (op : Bool) (lo hi : P3) (σ : Loc) (d : D) (S : Sto) : sl1 op lo hi σ (.ok d S) = sl2 op d hi σ (lo σ S) := rfl
@[simp] theorem sl2_ev (op : Bool) (d : D) (hi : P3) (σ : Loc) (l : Option Int) (S : Sto) : sl2 op d hi σ (.ok l S) = sl3 op d l (hi σ S) := rfl
@[simp] theorem sl3_ev (op : Bool) (d : D) (l h : Option Int) (S : Sto) : sl3 op d l (.ok h S) = slD op d l h S := rfl
@[simp] theorem mNoP_ev (σ : Loc) (S : Sto) : mNoP σ S = .ok none S := rfl
def part1 (r : Rs D) : Rs (Option Int) := r.bind fun d S1 => match d with
  | .int i => .ok (some i) S1
  | _ => .bad
@[simp] theorem mPart_ev (a : E3) (σ : Loc) (S : Sto) : mPart a σ S = part1 (a σ S) := rfl
@[simp] theorem part1_ev (i : Int) (S : Sto) : part1 (.ok (.int i) S) = .ok (some i) S := rfl

/-! operations -/
@[simp] theorem oCat_int (op : Bool) (i j : Int) (S : Sto) : oCat op (.int i) (.int j) S = .ok (.int (i + j)) S := rfl
@[simp] theorem oSub_ev (i j : Int) (S : Sto) : oSub (.int i) (.int j) S = .ok (.int (i - j)) S := rfl
@[simp] theorem oAdd_ev (i j : Int) (S : Sto) : oAdd (.int i) (.int j) S = .ok (.int (i + j)) S := rfl
theorem oMul_l {i j : Int} (S : Sto) (h : i.natAbs < 2 ^ 64) : oMulA (.int i) (.int j) S = .ok (.int (i * j)) S := by
  show (if _ then _ else _) = _
  rw [if_pos (by simp only [Bool.or_eq_true, Bool.and_eq_true, decide_eq_true_eq]; omega)]
theorem oMul_r {i j : Int} (S : Sto) (h : j.natAbs < 2 ^ 64) : oMulA (.int i) (.int j) S = .ok (.int (i * j)) S := by
  show (if _ then _ else _) = _
  rw [if_pos (by simp only [Bool.or_eq_true, Bool.and_eq_true, decide_eq_true_eq]; omega)]
theorem oMod_ev {i j : Int} (S : Sto) (h : 0 < j) : oMod (.int i) (.int j) S = .ok (.int (i % j)) S := if_pos (decide_eq_true h)
theorem oDiv_ev {i j : Int} (S : Sto) (h : 0 < j) (h2 : j < 1073741824) : oDiv (.int i) (.int j) S = .ok (.int (i / j)) S := by
  show (if _ then _ else _) = _
  rw [if_pos (by simp only [Bool.and_eq_true, decide_eq_true_eq]; omega)]
theorem oPow_ev {i j : Int} (S : Sto) (h : 0 ≤ j) (h1 : j ≤ 1000000) (h2 : i.natAbs < 2 ^ 64) : oPow (.int i) (.int j) S = .ok (.int (i ^ j.toNat)) S := by
  show (if _ then _ else _) = _
  rw [if_pos (by simp only [Bool.and_eq_true, decide_eq_true_eq]; omega)]
@[simp] theorem oLtA_int (i j : Int) (S : Sto) : oLtA (.int i) (.int j) S = .ok (.bl (decide (i < j))) S := rfl
@[simp] theorem oLeA_int (i j : Int) (S : Sto) : oLeA (.int i) (.int j) S = .ok (.bl (decide (i ≤ j))) S := rfl
@[simp] theorem oGtA_int (i j : Int) (S : Sto) : oGtA (.int i) (.int j) S = .ok (.bl (decide (j < i))) S := rfl
@[simp] theorem oGeA_int (i j : Int) (S : Sto) : oGeA (.int i) (.int j) S = .ok (.bl (decide (j ≤ i))) S := rfl
theorem shaped_int (i : Int) : SeqAt.shaped (.int i) = true := by
  unfold SeqAt.shaped
  simp [PyData.canLay0, PyData.depth]
theorem oEqG_ev {f : Bool → Bool} {d e : D} {S : Sto} {p q : PyData} (h1 : pyS S d = some p) (h2 : pyS S e = some q) (h3 : SeqAt.shaped p = true) (h4 : SeqAt.shaped q = true) : oEqG f d e S = .ok (.bl (f (PyData.eqv p q))) S := by
  unfold oEqG
  rw [h1, h2]
  show (if (SeqAt.shaped p && SeqAt.shaped q) = true then Rs.ok (D.bl (f (PyData.eqv p q))) S else .bad) = _
  rw [h3, h4]
  rfl
@[simp] theorem oEq_int (i j : Int) (S : Sto) : oEq (.int i) (.int j) S = .ok (.bl (i == j)) S := by
  unfold oEq
  rw [oEqG_ev (p := .int i) (q := .int j) rfl rfl (shaped_int i) (shaped_int j)]
  simp [PyData.eqv]
@[simp] theorem oNe_int (i j : Int) (S : Sto) : oNe (.int i) (.int j) S = .ok (.bl (!(i == j))) S := by
  unfold oNe
  rw [oEqG_ev (p := .int i) (q := .int j) rfl rfl (shaped_int i) (shaped_int j)]
  simp [PyData.eqv]
def ix1 (o : Option (List D)) (i : Int) (S : Sto) : Rs D := match o with
  | some xs => (match L2.atI xs i with
    | some y => .ok y S
    | none => .bad)
  | none => .bad
def ix2 (o : Option D) (S : Sto) : Rs D := match o with
  | some y => .ok y S
  | none => .bad
@[simp] theorem ix2_ev (y : D) (S : Sto) : ix2 (some y) S = .ok y S := rfl
@[simp] theorem oIx_tup (xs : List D) (i : Int) (S : Sto) : oIx (.tup xs) (.int i) S = ix2 (L2.atI xs i) S := rfl
@[simp] theorem oIx_lst (xs : List D) (i : Int) (S : Sto) : oIx (.lst xs) (.int i) S = ix2 (L2.atI xs i) S := rfl
@[simp] theorem oIx_ref (k : Nat) (i : Int) (S : Sto) : oIx (.ref k) (.int i) S = ix1 (itemsOf S (.ref k)) i S := rfl
@[simp] theorem ix1_ev (xs : List D) (i : Int) (S : Sto) : ix1 (some xs) i S = ix2 (L2.atI xs i) S := rfl
def itm (o : Option Ob) : Option (List D) := match o with
  | some (.lst xs) => some xs
  | some (.frz xs) => some xs
  | _ => none
@[simp] theorem itemsOf_refE (S : Sto) (k : Nat) : itemsOf S (.ref k) = itm S[k]? := rfl
@[simp] theorem itm_lst (xs : List D) : itm (some (.lst xs)) = some xs := rfl
@[simp] theorem itm_frz (xs : List D) : itm (some (.frz xs)) = some xs := rfl
@[simp] theorem itemsOf_tup (S : Sto) (xs : List D) : itemsOf S (.tup xs) = some xs := rfl
@[simp] theorem itemsOf_lst (S : Sto) (xs : List D) : itemsOf S (.lst xs) = some xs := rfl
@[simp] theorem itemsOf_wl (S : Sto) (xs : List D) : itemsOf S (.wl xs) = some xs := rfl
@[simp] theorem at_0 {α : Type} (a : α) (l : List α) : L2.atI (a :: l) 0 = some a := atI_nat (j := 0) rfl
@[simp] theorem at_1 {α : Type} (a b : α) (l : List α) : L2.atI (a :: b :: l) 1 = some b := atI_nat (j := 1) rfl
@[simp] theorem at_2 {α : Type} (a b c : α) (l : List α) : L2.atI (a :: b :: c :: l) 2 = some c := atI_nat (j := 2) rfl
@[simp] theorem at_last {α : Type} (l : List α) (a : α) : L2.atI (l ++ [a]) (-1) = some a := atI_last l a

@[simp] theorem fLen_lst (xs : List D) (S : Sto) : fLen [.lst xs] S = .ok (.int xs.length) S := rfl
@[simp] theorem fLen_tup (xs : List D) (S : Sto) : fLen [.tup xs] S = .ok (.int xs.length) S := rfl
def len2 (o : Option (List D)) (S : Sto) : Rs D := match o with
  | some xs => .ok (.int xs.length) S
  | none => .bad
@[simp] theorem fLen_ref (k : Nat) (S : Sto) : fLen [.ref k] S = len2 (itemsOf S (.ref k)) S := rfl
@[simp] theorem len2_ev (xs : List D) (S : Sto) : len2 (some xs) S = .ok (.int xs.length) S := rfl
def wopen (o : Option Ob) (j : Nat) (k : Nat → List D → Rs D) : Rs D := match o with
  | some (.lst xs) => k j xs
  | _ => .bad
theorem withOpen_ref (k : Nat) (S : Sto) (f : Nat → List D → Rs D) : withOpen (.ref k) S f = wopen S[k]? k f := rfl
@[simp] theorem wopen_ev (j : Nat) (xs : List D) (k : Nat → List D → Rs D) : wopen (some (.lst xs)) j k = k j xs := rfl
@[simp] theorem setAt_ev (k : Nat) (i : Int) (v : D) (S : Sto) : setAt (.ref k) (.int i) v S = wopen S[k]? k fun j xs => (match ixN xs.length i with
    | some n => .ok .non (S.set j (.lst (xs.set n v)))
    | none => .bad) := rfl
@[simp] theorem ixN_nat (n i : Nat) (h : i < n) : ixN n (i : Int) = some i := by
  unfold ixN
  rw [if_pos (by omega), if_pos (by omega)]
  simp
@[simp] theorem ixN_last (n : Nat) : ixN (n + 1) (-1) = some n := by
  unfold ixN
  rw [if_neg (by omega), if_pos (by omega)]
  congr 1
  omega
theorem size_of {n : Nat} (h : n ≤ 1000000) : sizeOk n = true := decide_eq_true (Nat.le_trans h (by decide))
theorem mkTup_ev {ds : List D} {S : Sto} (h : ds.length ≤ 1000000) : mkTup ds S = .ok (.tup ds) S := if_pos (size_of h)
theorem mkLst_ev {ds : List D} {S : Sto} (h : ds.length ≤ 1000000) : mkLst ds S = .ok (.lst ds) S := if_pos (size_of h)
theorem mkOpen_ev {ds : List D} {S : Sto} (h : ds.length ≤ 1000000) : mkOpen ds S = .ok (.ref S.length) (S ++ [.lst ds]) := if_pos (size_of h)
theorem guard_ev {c : Bool} {r : Rs D} (h : c = true) : guard c r = r := by subst h; rfl
theorem fAppend_ev {k : Nat} {xs : List D} {y : D} {S : Sto} (h : S[k]? = some (.lst xs)) (hl : xs.length < 1000000) : fAppend (.ref k) [y] S = .ok .non (S.set k (.lst (xs ++ [y]))) := by
  unfold fAppend
  simp only [withOpen_ref, h, wopen_ev]
  exact guard_ev (decide_eq_true (Nat.lt_of_lt_of_le hl (by decide)))
end DL
end

section
set_option Elab.async false
set_option linter.all false
set_option maxRecDepth 100000
set_option maxHeartbeats 4000000
/-! the ints of a list, each once, rising -/
namespace DL
open PySem PySem.Spec PyProof.Rows L2

section
variable {P : Program} {w : World} {A : Around} {E : Value → Shared → Prop} {s : Shared}
abbrev zSet (w : World) : Obj := { cls := .type "set", dict := none, data := .set #[] 0 (.fresh 0 0 (!w.params.followText "set-order")) }
abbrev zHp (w : World) (h : Heap) : Heap := h.push (zSet w)
set_option maxHeartbeats 3200000 in
theorem set_of_list {p : Addr} {vs : Array Value} (ns : List Int) {Q : Value → Shared → Prop} (hd : A.handled = none) (hp : s.heap.IsList p vs) (hv : IntsAre vs.toList ns) (hn : ns.length + 1 < scanBound)
    (h : ∀ (h' : Heap) (tk c : Nat), SetR w h' s.heap.objs.size (fun j => decide (j ∈ ns)) c → c ≤ ns.length → (∀ b o, s.heap.get? b = some o → h'.get? b = some o) → Q (.ref s.heap.objs.size) { s with heap := h', toks := tk }) :
    wpAny (model P w) A (call (.type "set") [.ref p]) Q E s := by
  have len : vs.size = ns.length := by
    have := IntsAre.length hv
    simpa using this
  obtain ⟨c0, tl0, mro0⟩ := F.called_set.mro
  have made0 := F.called_set.made
  have sub0 := F.called_set.sub
  refine wpAny_call (codeAny_of_tree ?_)
  show wpAny _ _ (callAny (.type "set") _) _ _ _
  refine wpAny_pure ⟨Code.quiet_builtin _ (by decide +kernel), codeAny_builtin F.entry_type_call ?_⟩
  rw [Around.under_plain (weight_type_call_type "set" [.ref p] []) rfl]
  have ty0 := F.called_set.notType
  have can0 := F.called_set.canCreate
  have chk0 := F.typeCall_set_1 (.ref p)
  repeat (any_goals (first | assumption | wp_step))
  refine codeAny_mono (code_set_led1 (.ref p) (E := E) (Q₁ := fun v t => v = .ref s.heap.objs.size ∧ t = { s with heap := zHp w s.heap }) ⟨rfl, rfl⟩) fun r t hr => ?_
  cases r with
  | error e => exact hr
  | ok fl =>
    cases fl with
    | ret v =>
      obtain ⟨rfl, rfl⟩ := hr
      have z1 : (zHp w s.heap).get? s.heap.objs.size = some (zSet w) := Heap.get?_push_size _ rfl
      have z2 : Shared.TypeIs { s with heap := zHp w s.heap } (.ref s.heap.objs.size) "set" := ⟨_, z1, rfl⟩
      have look0 := F.called_set.init.lookup
      have bind0 := F.called_set.init.bind (.ref s.heap.objs.size)
      repeat (any_goals (first | assumption | wp_step))
      refine codeAny_mono (codeAny_call_builtin (R := wants (fun r t => r = .none ∧ ∃ h' tk c, t = { s with heap := h', toks := tk } ∧ SetR w h' s.heap.objs.size (fun j => decide (j ∈ ns)) c ∧ c ≤ ns.length ∧
          (∀ b o, s.heap.get? b = some o → h'.get? b = some o)) E) F.called_set.init.plain F.entry_set_init (check_set_init_1 z2 ?_)) fun r t hr => ?_
      · obtain ⟨ol, gl, cl, nl, dl⟩ := hp
        obtain ⟨ocls, odict, odata, oslots⟩ := ol
        simp only at cl dl
        subst cl
        subst dl
        have gl' : (zHp w s.heap).get? p = some { cls := .type "list", dict := odict, data := .seq vs nl, slots := oslots } := Heap.get?_push_of_some _ gl
        have f1 := F.sub_list_set
        have f2 := F.sub_list_frozenset
        have f3 : (Value.type "list" == Value.type "dict") = false := by decide
        have hp1 : (zHp w s.heap).IsList p vs := ⟨_, gl', rfl, nl, rfl⟩
        unfold Builtin.«set.__init__» noKeywords Builtin.Frozenset.updateFrom
        generalize hPI : pyIter = PI
        wp_walk
        subst hPI
        refine wpAny_pyIter_list hp1 ?_
        refine wpAny_bind (wpAny_runValue ?_)
        have lt0 : p < s.heap.objs.size := Heap.lt_size gl
        have hd3 : A.in1.in1.in1.handled = none := by simp [hd]
        have ne0 : p ≠ (zHp w s.heap).objs.size := by
          rw [Heap.size_push]
          exact Nat.ne_of_lt (Nat.lt_succ_of_lt lt0)
        have nin : s.heap.objs.size ∉ [(zHp w s.heap).objs.size, p] := by
          rw [Heap.size_push]
          simp only [List.mem_cons, List.not_mem_nil, or_false, not_or]
          exact ⟨Nat.ne_of_lt (Nat.lt_succ_self _), fun e => Nat.lt_irrefl _ (e ▸ lt0)⟩
        have val0 : ∀ (i : Nat) (v : Value), vs[i]? = some v → ∃ k t, ns[i]? = some k ∧ v = .int k t := fun i v e => by
          have hi : i < ns.length := by
            rw [← len]
            exact (Array.getElem?_eq_some_iff.mp e).1
          obtain ⟨t, q⟩ := PyProof.Rows.IntsAre.int_at hv i v (by rw [Array.getElem?_toList] <;> exact e)
          refine ⟨ns[i], t, List.getElem?_eq_getElem hi, ?_⟩
          rw [q, List.getD_eq_getElem?_getD, List.getElem?_eq_getElem hi] <;> rfl
        refine set_update_ints ((Walks.list hd3 _ p ne0 vs).toS) s.heap.objs.size nin ns len hn val0 (vs.size - 0) 0 _ (by omega) (Nat.zero_le _) ⟨⟨_, Heap.get?_push_size _ rfl, rfl, rfl⟩, (hp1.push _)⟩ ?one ?two
        case one =>
          exact ⟨0, Nat.le_refl 0, setR_new_at (Heap.get?_push_of_some _ z1)⟩
        case two =>
          intro t c m hc hs
          obtain ⟨h', g2, d', tk', os'⟩ := t
          have eg : g2 = s.gens := m.gens
          have ed : d' = s.drawn := m.drawn
          have eo : os' = s.os := m.os
          subst eg ed eo
          show wpAny _ _ _ _ _ _
          refine wpAny_pure ?_
          show wpAny _ _ (ret Value.none) _ _ _
          rw [len] at hc
          refine wpAny_pure ⟨rfl, h', tk', c, rfl, hs, hc, fun b o e => ?_⟩
          have b0 : b < s.heap.objs.size := Heap.lt_size e
          have b1 : b ≠ (zHp w s.heap).objs.size := by
            rw [Heap.size_push]
            exact Nat.ne_of_lt (Nat.lt_succ_of_lt b0)
          exact m.heap b o (by simp only [List.mem_cons, List.not_mem_nil, or_false, not_or]; exact ⟨Nat.ne_of_lt b0, b1⟩) (Heap.get?_push_of_some _ (Heap.get?_push_of_some _ e))
      · cases r with
        | error e => exact hr
        | ok fl2 =>
          cases fl2 with
          | ret r =>
            obtain ⟨rfl, h', tk, c, rfl, q1, q2, q3⟩ := hr
            repeat (any_goals (first | assumption | wp_step))
            exact h _ _ _ q1 q2 q3
          | _ => exact hr.elim
    | _ => exact hr.elim
end

end DL
end

section
set_option Elab.async false
set_option linter.all false
set_option maxRecDepth 100000
set_option maxHeartbeats 4000000
namespace DL
open PySem PySem.Spec PyProof.Rows L2

/-- sorted(set(xs)), ints -/
def rSortSet (K : PySem.W.Frag) : List V → Hp → VK → Prop := fun vs H Q => ∃ (a : Addr) (ns : List Int), vs = [V.ref a] ∧ SqL K H a (ns.map V.int) ∧ ns.length < 64 ∧
  ∀ (out : List Int) (p : Addr), out.Pairwise (· < ·) → (∀ k : Int, k ∈ out ↔ k ∈ ns) → H p = none → Q (.ref p) (upd H p (.lst (out.map V.int)))
theorem pe_sortSet {X : Cx} {a : Expr} {ta : TA} {p p2 q pos : Pos} (hg : Gl X "sorted") (hm : X.mg "sorted" = none) (hg2 : Gl X "set") (hm2 : X.mg "set" = none) (ha : PA X [a] ta) (hc : X.calm = true)
    (na : starEach [a] X.env = (false, eval a X.env) :: starEach [] X.env := by rfl) : PE X (.Call (.Name "sorted" p) [.Call (.Name "set" p2) [a] [] q] [] pos) (fun σ H Q => ta σ H fun vs H1 => rSortSet X.K vs H1 Q) := by
  refine ⟨fun pins s σ H Q I h => ?_⟩
  refine Call_ (ld_blt I hg hm boot_sorted ?_)
  refine PyProof.Rows.callWith_builtin1 (PyProof.Rows.args_cons ?_ rfl) rfl rfl
  refine Call_ (ld_blt I hg2 hm2 boot_set (PyProof.Rows.callWith_type1 (thn (ha.run q pins s σ H _ I h) fun us s1 ⟨vs, H1, I1, r1, q1⟩ => ?_) na rfl))
  obtain ⟨l, ns, rfl, hq, hl, q1⟩ := q1
  rw [Vals.ref1 r1]
  obtain ⟨its, r, pl, hz⟩ := I1.list hq
  have hi : IntsAre its.toArray.toList ns := ints_of_vals r
  have hd := I1.ok.hd hc
  refine set_of_list ns hd pl.isList hi (by unfold scanBound; omega) fun h' tk c R hcn k => ?_
  refine PyProof.Rows.args_nil ?_
  have I2 : Inv X pins σ H1 { s1 with heap := h', toks := tk } := I1.kept fun b o e => k b o e
  refine sorted_set R (I2.ok.hd hc) (by omega) fun t p out n2 ns2 k2 g o hp hg2 hi2 hs hm2 hl2 => ?_
  have hlen : (ns2.map V.int).length ≤ sizeLine := by
    rw [List.length_map, hl2, sizeLine_eq]
    omega
  have hn : H1 p = none := I2.hok.fresh hp
  have J : Inv X pins σ (upd H1 p (.lst (ns2.map V.int))) { ({ s1 with heap := h', toks := tk } : Shared) with heap := t.heap, gens := t.gens, drawn := t.drawn, toks := t.toks } :=
    I2.call (ch := []) (Un.laid k2 hp hn) (I2.hok.laid k2 hp ⟨hlen, out.toList, n2, vals_of_ints hi2, hg2⟩) (by rw [g]; exact I2.bare) (fun _ z => nomatch z)
  have e : t = { s1 with heap := t.heap, gens := t.gens, drawn := t.drawn, toks := t.toks } := by
    cases t
    cases s1
    cases o
    rfl
  rw [e]
  exact ⟨.ref p, _, J, rfl, q1 ns2 p hs (fun k => by rw [hm2, decide_eq_true_eq]) hn⟩

/-- the ints of a list, each once, rising -/
def oneI (n : Int) : List Int → List Int
  | [] => [n]
  | m :: ms => if n < m then n :: m :: ms else if n = m then m :: ms else m :: oneI n ms
def setI : List Int → List Int
  | [] => []
  | n :: ns => oneI n (setI ns)
theorem oneI_mem (n k : Int) : ∀ ms : List Int, k ∈ oneI n ms ↔ k = n ∨ k ∈ ms
  | [] => by simp [oneI]
  | m :: ms => by
    unfold oneI
    split
    · simp
    · split
      · rename_i h
        subst h
        simp
      · rw [List.mem_cons, List.mem_cons, oneI_mem n k ms]
        constructor
        · rintro (h | h | h)
          · exact .inr (.inl h)
          · exact .inl h
          · exact .inr (.inr h)
        · rintro (h | h | h)
          · exact .inr (.inl h)
          · exact .inl h
          · exact .inr (.inr h)
theorem oneI_up (n : Int) : ∀ ms : List Int, ms.Pairwise (· < ·) → (oneI n ms).Pairwise (· < ·)
  | [], _ => List.pairwise_singleton _ _
  | m :: ms, h => by
    obtain ⟨h1, h2⟩ := List.pairwise_cons.mp h
    unfold oneI
    split
    · rename_i hn
      exact List.pairwise_cons.mpr ⟨fun k hk => by
        rcases List.mem_cons.mp hk with rfl | hk
        · exact hn
        · have := h1 k hk
          omega, h⟩
    · split
      · exact h
      · refine List.pairwise_cons.mpr ⟨fun k hk => ?_, oneI_up n ms h2⟩
        rcases (oneI_mem n k ms).mp hk with rfl | hk
        · omega
        · exact h1 k hk
theorem setI_mem (k : Int) : ∀ ns : List Int, k ∈ setI ns ↔ k ∈ ns
  | [] => Iff.rfl
  | n :: ns => by
    unfold setI
    rw [oneI_mem, setI_mem k ns, List.mem_cons]
theorem setI_up : ∀ ns : List Int, (setI ns).Pairwise (· < ·)
  | [] => List.Pairwise.nil
  | n :: ns => oneI_up n _ (setI_up ns)
theorem up_uniq : ∀ {a b : List Int}, a.Pairwise (· < ·) → b.Pairwise (· < ·) → (∀ k, k ∈ a ↔ k ∈ b) → a = b
  | [], [], _, _, _ => rfl
  | [], y :: b, _, _, h => absurd ((h y).mpr (List.mem_cons_self ..)) List.not_mem_nil
  | x :: a, [], _, _, h => absurd ((h x).mp (List.mem_cons_self ..)) List.not_mem_nil
  | x :: a, y :: b, ha, hb, h => by
    obtain ⟨a1, a2⟩ := List.pairwise_cons.mp ha
    obtain ⟨b1, b2⟩ := List.pairwise_cons.mp hb
    have e : x = y := by
      rcases List.mem_cons.mp ((h x).mp (List.mem_cons_self ..)) with q | q
      · exact q
      · rcases List.mem_cons.mp ((h y).mpr (List.mem_cons_self ..)) with q2 | q2
        · exact q2.symm
        · have := a1 y q2
          have := b1 x q
          omega
    subst e
    rw [up_uniq a2 b2 fun k => by
      constructor
      · intro hk
        rcases List.mem_cons.mp ((h k).mp (List.mem_cons_of_mem _ hk)) with q | q
        · have := a1 k hk
          omega
        · exact q
      · intro hk
        rcases List.mem_cons.mp ((h k).mpr (List.mem_cons_of_mem _ hk)) with q | q
        · have := b1 k hk
          omega
        · exact q]
def srtSet (d : D) (S : Sto) : Rs D := DL.withItems d S fun xs => match insOf xs with
  | some ns => if isTupD d then .bad else guard (decide (ns.length < 64)) (mkLst ((setI ns).map D.int) S)
  | none => .bad
def fSortSet : C3 := c1 srtSet
theorem fSortSet_s {K : PySem.W.Frag} : CallS K (rSortSet K) fSortSet := c1_s fun W sv w u d S H Q z r q => by
  obtain ⟨xs, a0, vs0, he, e0, ra0, hs0, hk⟩ := withItems_s z r q
  cases ei : insOf xs with
  | none => simp only [ei] at hk; exact False.elim hk
  | some ns =>
    simp only [ei] at hk
    have ex := insOf_eq ei
    subst ex
    by_cases t : isTupD d = true
    · rw [if_pos t] at hk
      exact False.elim hk
    · rw [if_neg t] at hk
      obtain ⟨hl, hk⟩ := guard_s hk
      have hl := of_decide_eq_true hl
      obtain ⟨a, vs, rfl, ra, hs⟩ := items_list z r he (by simpa using t)
      have ev := rep_ints ra
      subst ev
      refine ⟨a, ns, rfl, hs, hl, fun out p g1 g2 np => ?_⟩
      have e : out = setI ns := up_uniq g1 (setI_up ns) fun k => by rw [g2, setI_mem]
      subst e
      exact (mkLst_s hk z (repInts _)).2 p np
theorem e_sortSet {X : Cx} {W : WX} {a : Expr} {ms : A3} {p p2 q pos : Pos} (hc : X.calm = true) (hg : Gl X "sorted") (hm : X.mg "sorted" = none) (hg2 : Gl X "set") (hm2 : X.mg "set" = none) (ha : PA3 X W [a] ms)
    (na : starEach [a] X.env = (false, eval a X.env) :: starEach [] X.env := by rfl) : PE3 X W (.Call (.Name "sorted" p) [.Call (.Name "set" p2) [a] [] q] [] pos) (mMake fSortSet ms) :=
  PE.imp (pe_sortSet hg hm hg2 hm2 ha hc na) fun sv H Q h => call3 fSortSet_s sv H Q h
end DL
end

section
set_option Elab.async false
set_option linter.all false
set_option maxRecDepth 100000
set_option maxHeartbeats 4000000
/-! list(zip(xs, ys)) -/
namespace DL
open PySem PySem.Spec PyProof.Rows L2

/-- an object of ours that was not tracked is tracked from now on -/
theorem inv_own {X : Cx} {pins : List (Addr × Obj)} {σ : L2.St} {H : Hp} {s : Shared} {T : Addr} {ob : HO} (I : Inv X pins σ H s) (hf : FpOk X pins H T) (new : ObjOk X.prog X.w (upd H T ob) s.heap T ob) : Inv X pins σ (upd H T ob) s := by
  have hn : H T = none := hf.1
  have other : ∀ {b : Addr} {u : HO}, H b = some u → upd H T ob b = some u := fun {b u} e => by
    rw [upd_ne (ne_of_none e hn)]
    exact e
  have st : Inv X pins σ (upd H T ob) { s with heap := s.heap, gens := s.gens, drawn := s.drawn, toks := s.toks } := by
    refine I.step (ch := [T]) (fun b hb => ?_) (fun b o _ _ _ e _ => e) (fun b o _ _ _ e _ => ⟨o.slots, e⟩) (fun b o hc _ n => ?_) (fun b o _ e => ⟨o, e⟩) (fun b xs e => other e) (fun b o u e => other e) (fun b ps e => ⟨#[], ?_⟩) (fun m hm => hm) (fun b u e => ?_) I.bare
    · have e : b = T := List.mem_singleton.mp hb
      rw [e]
      exact ⟨hf.2.2.2.1, hf.2.1, hf.2.2.2.2.1, hf.2.2.2.2.2⟩
    · rw [upd_ne fun e => hc (List.mem_singleton.mpr e)]
      exact n
    · rw [other e]
      simp
    · by_cases hb : b = T
      · subst hb
        rw [upd_same] at e
        cases e
        exact new
      · rw [upd_ne hb] at e
        exact (I.hok b u e).stay (fun c v _ q => q) (fun c q => other q) fun c xs q => other q
  exact st

abbrev LsO (vs : Array Value) (c : Nat) : Obj := { cls := .type "list", dict := none, data := .seq vs c, slots := #[] }
/-- where a zip of two lists stands, i pairs told -/
def Zst (h : Heap) (z TI TO i1 i2 a b : Addr) (i : Nat) : Prop :=
  ((IsZip h z TI TO .none ∧ ∃ x y, IsPair h TO x y) ∨ ∃ T f oT, IsZipHeld h z TI TO T f ∧ h.get? T = some oT) ∧ IsPair h TI (.ref i1) (.ref i2) ∧ h.IsListIter i1 a i ∧ h.IsListIter i2 b i ∧ ∃ o, h.get? TO = some o
theorem zst_next {P : Program} {w : World} {A : Around} {E : Value → Shared → Prop} {s : Shared} {z TI TO i1 i2 a b : Addr} {i : Nat} {xs ys : Array Value} {x y : Value} {Q : Option Value → Shared → Prop} (D : ZipApart z TI TO i1 i2 a b)
    (st : Zst s.heap z TI TO i1 i2 a b i) (h1 : s.heap.IsList a xs) (h2 : s.heap.IsList b ys) (hx : xs[i]? = some x) (hy : ys[i]? = some y)
    (hQ : ∀ h', Zst h' z TI TO i1 i2 a b (i + 1) → IsPair h' s.heap.objs.size x y → (∀ c o, c ∉ [z, TO, i1, i2] → s.heap.get? c = some o → h'.get? c = some o) → Q (some (.ref s.heap.objs.size)) { s with heap := h' }) :
    wpAny (model P w) A (pyNext (.ref z)) Q E s := by
  obtain ⟨hz, hTI, k1, k2, oO, hO⟩ := st
  rcases hz with ⟨hz, x0, y0, hTO⟩ | ⟨T, f, oT, hz, hT⟩
  · refine wpAny_pyNext_zip_item D hz hTI hTO k1 k2 h1 h2 hx hy fun h' a1 a2 a3 a4 a5 _ a6 => ?_
    refine hQ h' ⟨.inr ⟨_, false, _, a1, a5⟩, a6 _ _ D.TIz D.TITO D.TIi1 D.TIi2 hTI, a3, a4, _, a2⟩ a5 fun c o hc e => ?_
    simp only [List.mem_cons, List.not_mem_nil, or_false, not_or] at hc
    exact a6 c o hc.1 hc.2.1 hc.2.2.1 hc.2.2.2 e
  · refine wpAny_pyNext_zip_item_held D hz hT hTI k1 k2 h1 h2 hx hy fun h' a1 a3 a4 a5 _ a6 => ?_
    have sz : ∀ {c o}, s.heap.get? c = some o → s.heap.objs.size ≠ c := fun e => Nat.ne_of_gt (Heap.lt_size e)
    have hT' : ∃ oT', h'.get? T = some oT' := by
      by_cases e1 : T = z
      · rw [e1]; exact ⟨_, a1⟩
      · by_cases e2 : T = i1
        · rw [e2]; obtain ⟨o, q, _⟩ := a3; exact ⟨o, q⟩
        · by_cases e3 : T = i2
          · rw [e3]; obtain ⟨o, q, _⟩ := a4; exact ⟨o, q⟩
          · exact ⟨_, a6 _ _ e1 e2 e3 hT⟩
    obtain ⟨oT', hT'⟩ := hT'
    refine hQ h' ⟨.inr ⟨T, true, oT', a1, hT'⟩, a6 _ _ D.TIz D.TIi1 D.TIi2 hTI, a3, a4, oO, a6 _ _ D.TOz D.TOi1 D.TOi2 hO⟩ a5 fun c o hc e => ?_
    simp only [List.mem_cons, List.not_mem_nil, or_false, not_or] at hc
    exact a6 c o hc.1 hc.2.2.1 hc.2.2.2 e
theorem zst_end {P : Program} {w : World} {A : Around} {E : Value → Shared → Prop} {s : Shared} {z TI TO i1 i2 a b : Addr} {i : Nat} {xs ys : Array Value} {Q : Option Value → Shared → Prop} (hh : A.handled = none) (D : ZipApart z TI TO i1 i2 a b)
    (st : Zst s.heap z TI TO i1 i2 a b i) (h1 : s.heap.IsList a xs) (h2 : s.heap.IsList b ys) (he : xs[i]? = none ∨ ys[i]? = none)
    (hQ : ∀ h', (∀ c o, c ∉ [z, TO, i1, i2] → s.heap.get? c = some o → h'.get? c = some o) → Q none { s with heap := h' }) :
    wpAny (model P w) A (pyNext (.ref z)) Q E s := by
  obtain ⟨hz, hTI, k1, k2, oO, hO⟩ := st
  rcases hz with ⟨hz, x0, y0, hTO⟩ | ⟨T, f, oT, hz, hT⟩
  · refine wpAny_pyNext_zip_end hh D hz hTI hTO k1 k2 h1 h2 he fun h' a6 => hQ h' fun c o hc e => ?_
    simp only [List.mem_cons, List.not_mem_nil, or_false, not_or] at hc
    exact a6 c o hc.1 hc.2.1 hc.2.2.1 hc.2.2.2 e
  · refine wpAny_pyNext_zip_end_held hh D hz hT hTI k1 k2 h1 h2 he fun h' a6 => hQ h' fun c o hc e => ?_
    simp only [List.mem_cons, List.not_mem_nil, or_false, not_or] at hc
    exact a6 c o hc.1 hc.2.2.1 hc.2.2.2 e
theorem zst_keep {h h' : Heap} {z TI TO i1 i2 a b : Addr} {i : Nat} (st : Zst h z TI TO i1 i2 a b i) (k : ∀ c o, h.get? c = some o → ∃ o', h'.get? c = some o') (k2 : ∀ c o, c ∈ [z, TI, TO, i1, i2] → h.get? c = some o → h'.get? c = some o) : Zst h' z TI TO i1 i2 a b i := by
  obtain ⟨hz, hTI, h1, h2, oO, hO⟩ := st
  refine ⟨?_, k2 _ _ (by simp) hTI, h1.at fun o e => k2 _ o (by simp) e, h2.at fun o e => k2 _ o (by simp) e, oO, k2 _ _ (by simp) hO⟩
  rcases hz with ⟨hz, x0, y0, hTO⟩ | ⟨T, f, oT, hz, hT⟩
  · exact .inl ⟨k2 _ _ (by simp) hz, x0, y0, k2 _ _ (by simp) hTO⟩
  · obtain ⟨o', e'⟩ := k _ _ hT
    exact .inr ⟨T, f, o', k2 _ _ (by simp) hz, e'⟩
end DL
end

section
set_option Elab.async false
set_option linter.all false
set_option maxRecDepth 100000
set_option maxHeartbeats 4000000
namespace DL
open PySem PySem.Spec PyProof.Rows L2

/-- what the pairs of two lists keep: told step by step -/
structure Zip2 (K : PySem.W.Frag) (a b : Addr) (xs ys : List V) (Pv : Nat → List V → Hp → Prop) : Prop where
  have_ : ∀ {i vs H}, Pv i vs H → SqL K H a xs ∧ SqL K H b ys
  step : ∀ {i vs H x y T}, Pv i vs H → xs[i]? = some x → ys[i]? = some y → H T = none → Pv (i + 1) (vs ++ [.ref T]) (upd H T (.tup [x, y]))
section
variable {X : Cx} {pins : List (Addr × Obj)} {σ : L2.St} {a b z TI TO i1 i2 l : Addr} {xs ys : List V} {Pv : Nat → List V → Hp → Prop} {n : Nat} {A : Around} {res : Value}
theorem vals_snoc {u : Value} {v : V} (r : RelV v u) : ∀ {vs : List V} {us : List Value}, Vals vs us → Vals (vs ++ [v]) (us ++ [u])
  | _, _, .nil => .cons r .nil
  | _, _, .cons q t => .cons q (vals_snoc r t)
theorem zip_loop {R : Result → Shared → Prop} (D : ZipApart z TI TO i1 i2 a b) (hd : A.handled = none) (Z : Zip2 X.K a b xs ys Pv) (hn : n = min xs.length ys.length) (hz : n ≤ sizeLine) (hl : l ∉ [z, TI, TO, i1, i2]) :
    ∀ (k i : Nat) (s : Shared) (H : Hp) (vs : List V) (us : List Value) (c : Nat), n - i = k → i ≤ n → Inv X pins σ H s → Pv i vs H → Zst s.heap z TI TO i1 i2 a b i → (∀ d ∈ [l, z, TI, TO, i1, i2], FpOk X pins H d) →
      s.heap.get? l = some (LsO us.toArray c) → Vals vs us → vs.length = i →
      (∀ s' H' vs' us' c', Inv X pins σ H' s' → Pv n vs' H' → s'.heap.get? l = some (LsO us'.toArray c') → Vals vs' us' → vs'.length = n → FpOk X pins H' l → R (.ok (.ret res)) s') →
      codeAny (model X.prog X.w) A (.builtin "list.extend.loop" ⟨[.ref l, .ref z, res], []⟩) R s := by
  have hl' : l ≠ z ∧ l ≠ TI ∧ l ≠ TO ∧ l ≠ i1 ∧ l ≠ i2 := by simpa using hl
  intro k
  induction k with
  | zero =>
    intro i s H vs us c hk hi I hp st hf hls r hvl hR
    have e : i = n := by omega
    subst e
    obtain ⟨hx, hy⟩ := Z.have_ hp
    obtain ⟨its, rv, p1, _⟩ := I.list hx
    obtain ⟨its2, rv2, p2, _⟩ := I.list hy
    have q1 := rv.length
    have q2 := rv2.length
    refine codeAny_builtin F.entry_extend_loop ?_
    rw [Around.under_plainId F.plain_extend_loop _]
    show wpAny _ A.in1 (pyNext (.ref z) >>= _) _ _ s
    refine wpAny_bind (zst_end (by simp [hd]) D st p1.isList p2.isList ?_ fun h' kk => ?_)
    · rcases Nat.le_total xs.length ys.length with q | q
      · left
        rw [Nat.min_eq_left q] at hn
        simp
        omega
      · right
        rw [Nat.min_eq_right q] at hn
        simp
        omega
    · have J : Inv X pins σ H { s with heap := h', toks := s.toks } := I.turnedL (ch := [z, TO, i1, i2]) kk fun d hd' => hf d (by
        simp only [List.mem_cons, List.not_mem_nil, or_false] at hd' ⊢
        rcases hd' with q | q | q | q <;> simp [q])
      exact wpAny_pure (hR _ _ _ _ _ J hp (kk l _ (by simp [hl']) hls) r hvl (hf l (by simp)))
  | succ k ih =>
    intro i s H vs us c hk hi I hp st hf hls r hvl hR
    have hlt : i < n := by omega
    obtain ⟨hx, hy⟩ := Z.have_ hp
    obtain ⟨its, rv, p1, _⟩ := I.list hx
    obtain ⟨its2, rv2, p2, _⟩ := I.list hy
    have hxi : i < xs.length := Nat.lt_of_lt_of_le hlt (by rw [hn]; exact Nat.min_le_left ..)
    have hyi : i < ys.length := Nat.lt_of_lt_of_le hlt (by rw [hn]; exact Nat.min_le_right ..)
    obtain ⟨u, hu, ru⟩ := rv.get (List.getElem?_eq_getElem hxi)
    obtain ⟨u2, hu2, ru2⟩ := rv2.get (List.getElem?_eq_getElem hyi)
    refine codeAny_builtin F.entry_extend_loop ?_
    rw [Around.under_plainId F.plain_extend_loop _]
    show wpAny _ A.in1 (pyNext (.ref z) >>= _) _ _ s
    refine wpAny_bind (zst_next D st p1.isList p2.isList (x := u) (y := u2) (by simpa using hu) (by simpa using hu2) fun h' st' hT kk => ?_)
    have hls' := kk l _ (by simp [hl']) hls
    show wpAny _ A.in1 (updateSeq l (·.push (.ref s.heap.objs.size)) >>= _) _ _ _
    refine wpAny_bind ?_
    have us_len : us.length = i := by rw [← r.length, hvl]
    have lsz : us.toArray.size = i := by simpa using us_len
    have lT : l ≠ s.heap.objs.size := fun e => Nat.lt_irrefl _ (e ▸ Heap.lt_size hls)
    refine wpAny_updateSeq (s := { s with heap := h' }) hls' rfl (wpAny_pure ⟨plainId_quiet F.plain_extend_loop _, ?_⟩) (by rw [lsz]; omega) (by show (us.toArray.push _).size ≤ sizeLine + 1; rw [Array.size_push, lsz]; omega)
    have ot : ∀ d o, d ≠ l → h'.get? d = some o → (h'.update l (Obj.mapSeq (·.push (Value.ref s.heap.objs.size)))).get? d = some o := fun d o hne e => (Heap.get?_update_other _ _ (Ne.symm hne)).trans e
    obtain ⟨c', lnew⟩ : ∃ c', (h'.update l (Obj.mapSeq (·.push (Value.ref s.heap.objs.size)))).get? l = some (LsO (us ++ [Value.ref s.heap.objs.size]).toArray c') := by
      rw [Heap.get?_update_self _ hls' rfl]
      exact ⟨_, by simp [Obj.mapSeq]; rfl⟩
    have tnew : (h'.update l (Obj.mapSeq (·.push (Value.ref s.heap.objs.size)))).get? s.heap.objs.size = some { cls := .type "tuple", data := .seq #[u, u2] } := ot _ _ (Ne.symm lT) hT
    have new : ObjOk X.prog X.w (upd H s.heap.objs.size (.tup [xs[i], ys[i]])) (h'.update l (Obj.mapSeq (·.push (Value.ref s.heap.objs.size)))) s.heap.objs.size (.tup [xs[i], ys[i]]) :=
      ⟨by show 2 ≤ sizeLine; decide, [u, u2], .cons ru (.cons ru2 .nil), ⟨_, tnew, rfl, _, rfl⟩⟩
    have J : Inv X pins σ (upd H s.heap.objs.size (.tup [xs[i], ys[i]])) { s with heap := h'.update l (Obj.mapSeq (·.push (Value.ref s.heap.objs.size))), toks := s.toks } :=
      I.turnedNew (ch := [l, z, TO, i1, i2]) (fun d o hd' e => by
        simp only [List.mem_cons, List.not_mem_nil, or_false, not_or] at hd'
        exact ot d o hd'.1 (kk d o (by simp [hd'.2]) e)) (fun d hd' => hf d (by
          simp only [List.mem_cons, List.not_mem_nil, or_false] at hd' ⊢
          rcases hd' with q | q | q | q | q <;> simp [q])) (Nat.le_refl _) new
    have alive : ∀ d ∈ [l, z, TI, TO, i1, i2], d < s.heap.objs.size := fun d hd' => by
      obtain ⟨hz0, hTI, ⟨o1, e1, _⟩, ⟨o2, e2, _⟩, oO, hO⟩ := st
      simp only [List.mem_cons, List.not_mem_nil, or_false] at hd'
      rcases hd' with q | q | q | q | q | q
      · rw [q]; exact Heap.lt_size hls
      · rw [q]
        rcases hz0 with ⟨hz0, _⟩ | ⟨_, _, _, hz0, _⟩ <;> exact Heap.lt_size hz0
      · rw [q]; exact Heap.lt_size hTI
      · rw [q]; exact Heap.lt_size hO
      · rw [q]; exact Heap.lt_size e1
      · rw [q]; exact Heap.lt_size e2
    refine ih (i + 1) _ _ (vs ++ [V.ref s.heap.objs.size]) (us ++ [Value.ref s.heap.objs.size]) c' (by omega) hlt J (Z.step hp (List.getElem?_eq_getElem hxi) (List.getElem?_eq_getElem hyi) (I.hok.fresh (Nat.le_refl _)))
      (zst_keep st' (fun d o e => ?_) fun d o hd' e => ?_) (fun d hd' => ?_) lnew (vals_snoc (v := V.ref s.heap.objs.size) (u := Value.ref s.heap.objs.size) rfl r) (by rw [List.length_append, hvl]; rfl) hR
    · by_cases q : d = l
      · rw [q]; exact ⟨_, lnew⟩
      · exact ⟨o, ot d o q e⟩
    · refine ot d o (fun q => hl (q ▸ hd')) e
    · have h1 := hf d hd'
      exact ⟨by rw [upd_ne (Nat.ne_of_lt (alive d hd'))]; exact h1.1, h1.2⟩
end
end DL
end

section
set_option Elab.async false
set_option linter.all false
set_option maxRecDepth 100000
set_option maxHeartbeats 4000000
namespace DL
open PySem PySem.Spec PyProof.Rows L2

theorem zip_nolen : typeLookup (.type "zip") "__len__" = pure none := by rw [typeLookup_type, builtinLookup_eq_fast]; kernel_rfl
theorem zip_nohint : typeLookup (.type "zip") "__length_hint__" = pure none := by rw [typeLookup_type, builtinLookup_eq_fast]; kernel_rfl
section
variable {X : Cx} {pins : List (Addr × Obj)} {σ : L2.St} {a b z TI TO i1 i2 l : Addr} {xs ys : List V} {Pv : Nat → List V → Hp → Prop} {n : Nat} {A : Around} {res : Value}
theorem zst_type {h : Heap} {i : Nat} (st : Zst h z TI TO i1 i2 a b i) : ∃ o, h.get? z = some o ∧ o.cls = .type "zip" := by
  rcases st.1 with ⟨q, _⟩ | ⟨_, _, _, q, _⟩
  · exact ⟨_, q, rfl⟩
  · exact ⟨_, q, rfl⟩
theorem zip_extend {R : Result → Shared → Prop} {s : Shared} {H : Hp} {c : Nat} (D : ZipApart z TI TO i1 i2 a b) (hd : A.handled = none) (Z : Zip2 X.K a b xs ys Pv) (hn : n = min xs.length ys.length) (hz : n ≤ sizeLine) (hl : l ∉ [z, TI, TO, i1, i2])
    (I : Inv X pins σ H s) (hp : Pv 0 [] H) (z0 : IsZip s.heap z TI TO .none) (st : Zst s.heap z TI TO i1 i2 a b 0) (hf : ∀ d ∈ [l, z, TI, TO, i1, i2], FpOk X pins H d) (hls : s.heap.get? l = some (LsO #[] c))
    (hR : ∀ s' H' vs' us' c', Inv X pins σ H' s' → Pv n vs' H' → s'.heap.get? l = some (LsO us'.toArray c') → Vals vs' us' → vs'.length = n → FpOk X pins H' l → R (.ok (.ret res)) s') :
    wpAny (model X.prog X.w) A.in1 (Builtin.List.listExtendWith (.ref l) (.ref z) res)
      (fun fin s' => match fin with | .done f => R (.ok f) s' | .again c' => c'.quiet = true ∧ codeAny (model X.prog X.w) A c' R s') (fun e s' => R (.error e) s') s := by
  have hl' : l ≠ z ∧ l ≠ TI ∧ l ≠ TO ∧ l ≠ i1 ∧ l ≠ i2 := by simpa using hl
  have ty : s.TypeIs (.ref z) "zip" := zst_type st
  unfold Builtin.List.listExtendWith
  refine wpAny_bind (wpAny_typeOf ty ?_)
  have n1 : Builtin.List.listSameRef (.ref l) (.ref z) = false := by simp [Builtin.List.listSameRef, hl'.1]
  have n2 : (Value.type "zip" == Value.type "list") = false := by decide
  have n3 : (Value.type "zip" == Value.type "tuple") = false := by decide
  simp only [n1, n2, n3, Bool.or_false, Bool.false_eq_true, if_false]
  refine wpAny_bind (wpAny_pyIter_zip z0 ?_)
  refine wpAny_bind (wpAny_holding ?_)
  unfold Builtin.List.listLengthHint
  refine wpAny_bind (wpAny_specialOf ty zip_nolen ?_)
  show wpAny _ A.in1 (specialOf (Value.ref z) (Str.ofString "__length_hint__") >>= _) _ _ _
  refine wpAny_bind (wpAny_specialOf ty zip_nohint ?_)
  refine wpAny_pure ?_
  show wpAny _ A.in1 (rule "list.extend.makes-room" >>= fun _ => Builtin.List.listTouch (.ref l) >>= fun _ => again (.builtin "list.extend.loop" ⟨[.ref l, .ref z, res], []⟩)) _ _ _
  refine wpAny_bind (wpAny_rule ?_)
  refine wpAny_bind ?_
  show wpAny _ A.in1 (updateSeq l (·.push .none) >>= fun _ => updateSeq l (·.pop)) _ _ _
  refine wpAny_bind (wpAny_updateSeq hls rfl ?_)
  have hls2 := Heap.get?_update_self (Obj.mapSeq (·.push Value.none)) hls rfl
  refine wpAny_updateSeq (hz := by seq_fits) hls2 rfl ?_
  have hls3 := Heap.get?_update_self (Obj.mapSeq (·.pop)) hls2 rfl
  have ot : ∀ d o, d ≠ l → s.heap.get? d = some o → ((s.heap.update l (Obj.mapSeq (·.push Value.none))).update l (Obj.mapSeq (·.pop))).get? d = some o := fun d o hne e =>
    (Heap.get?_update_other _ _ (Ne.symm hne)).trans ((Heap.get?_update_other _ _ (Ne.symm hne)).trans e)
  have J : Inv X pins σ H { s with heap := (s.heap.update l (Obj.mapSeq (·.push Value.none))).update l (Obj.mapSeq (·.pop)), toks := s.toks } :=
    I.turnedL (ch := [l]) (fun d o hd' e => ot d o (by simpa using hd') e) fun d hd' => hf d (by simp only [List.mem_singleton] at hd'; simp [hd'])
  refine wpAny_pure ⟨plainId_quiet F.plain_extend_loop _, ?_⟩
  refine zip_loop D hd Z hn hz hl n 0 _ H [] [] _ (by omega) (Nat.zero_le _) J hp (zst_keep st (fun d o e => ?_) fun d o hd' e => ot d o (fun q => hl (q ▸ hd')) e) hf hls3 .nil rfl hR
  by_cases q : d = l
  · rw [q]; exact ⟨_, hls3⟩
  · exact ⟨o, ot d o q e⟩
theorem call_listZip {s : Shared} {E : Value → Shared → Prop} {H : Hp} {Q : Value → Shared → Prop} (D : ZipApart z TI TO i1 i2 a b) (hd : A.handled = none) (Z : Zip2 X.K a b xs ys Pv) (hn : n = min xs.length ys.length) (hz : n ≤ sizeLine)
    (I : Inv X pins σ H s) (hp : Pv 0 [] H) (z0 : IsZip s.heap z TI TO .none) (st : Zst s.heap z TI TO i1 i2 a b 0) (hf : ∀ d ∈ [z, TI, TO, i1, i2], FpOk X pins H d ∧ d < s.heap.objs.size)
    (hQ : ∀ s' H' vs', Inv X pins σ (upd H' s.heap.objs.size (.lst vs')) s' → Pv n vs' H' → H' s.heap.objs.size = none → Q (.ref s.heap.objs.size) s') :
    wpAny (model X.prog X.w) A (call (.type "list") [.ref z]) Q E s := by
  have hl : s.heap.objs.size ∉ [z, TI, TO, i1, i2] := fun e => Nat.lt_irrefl _ (hf _ e).2
  refine callType_codes (Q₁ := fun obj s₁ => obj = .ref s.heap.objs.size ∧ s₁ = { s with heap := s.heap.push { cls := .type "list", data := .seq #[] } }) F.called_list (F.typeCall_list_1 _) F.entry_list_init (code_list_new _ ⟨rfl, rfl⟩) fun obj t ht => ?_
  obtain ⟨rfl, rfl⟩ := ht
  have hls : (s.heap.push { cls := .type "list", data := .seq #[] }).get? s.heap.objs.size = some { cls := .type "list", data := .seq #[] } := Heap.get?_push_size _ rfl
  have kp : ∀ d o, s.heap.get? d = some o → (s.heap.push { cls := .type "list", data := .seq #[] }).get? d = some o := fun d o e => Heap.get?_push_of_some _ e
  have J : Inv X pins σ H { s with heap := s.heap.push { cls := .type "list", data := .seq #[] }, toks := s.toks } := I.kept kp
  have fl : FpOk X pins H s.heap.objs.size := I.fpOk (Nat.le_refl _) (I.hok.fresh (Nat.le_refl _))
  refine ⟨⟨_, hls, rfl⟩, F.args_list_init_2 _ _, ?_⟩
  show wpAny _ A.in1.in1 (do let old ← Builtin.List.listItems (.ref s.heap.objs.size); Builtin.List.listUpdate (.ref s.heap.objs.size) (fun _ => #[]); letGo old.toList.reverse; Builtin.List.listExtendWith (.ref s.heap.objs.size) (.ref z) .none) _ _ _
  refine wpAny_bind ?_
  unfold Builtin.List.listItems
  refine wpAny_bind (wpAny_seqItems hls rfl (wpAny_pure ?_))
  show wpAny _ A.in1.in1 (updateSeq s.heap.objs.size (fun _ => #[]) >>= fun _ => letGo (#[] : Array Value).toList.reverse >>= fun _ => Builtin.List.listExtendWith (.ref s.heap.objs.size) (.ref z) .none) _ _ _
  refine wpAny_bind (wpAny_updateSeq hls rfl ?_)
  have hls2 := Heap.get?_update_self (Obj.mapSeq (fun _ => (#[] : Array Value))) hls rfl
  have ot : ∀ d o, d ≠ s.heap.objs.size → (s.heap.push { cls := .type "list", data := .seq #[] }).get? d = some o → ((s.heap.push { cls := .type "list", data := .seq #[] }).update s.heap.objs.size (Obj.mapSeq (fun _ => (#[] : Array Value)))).get? d = some o :=
    fun d o hne e => (Heap.get?_update_other _ _ (Ne.symm hne)).trans e
  refine wpAny_bind (wpAny_letGo ?_)
  have J2 : Inv X pins σ H { ({ s with heap := s.heap.push { cls := .type "list", data := .seq #[] } } : Shared) with heap := (s.heap.push { cls := .type "list", data := .seq #[] }).update s.heap.objs.size (Obj.mapSeq (fun _ => (#[] : Array Value))), toks := s.toks } :=
    J.turnedL (ch := [s.heap.objs.size]) (fun d o hd' e => ot d o (by simpa using hd') e) fun d hd' => by
      rw [List.mem_singleton.mp hd']
      exact fl
  refine zip_extend (A := A.in1) D (by simp [hd]) Z hn hz hl J2 hp (ot _ _ (fun q => hl (by simp [q])) (kp _ _ z0)) (zst_keep st (fun d o e => ⟨o, ot d o (Nat.ne_of_lt (Heap.lt_size e)) (kp d o e)⟩) fun d o hd' e => ot d o (fun q => hl (q ▸ hd')) (kp d o e)) (fun d hd' => ?_) hls2 fun s' H' vs' us' c' K1 K2 K3 K4 K5 K6 => ?_
  · rcases List.mem_cons.mp hd' with q | q
    · rw [q]; exact fl
    · exact (hf d q).1
  · have hlen : vs'.length ≤ sizeLine := by omega
    exact ⟨rfl, hQ s' H' vs' (inv_own K1 K6 ⟨hlen, us', c', K4, K3⟩) K2 K6.1⟩
end
end DL
end

section
set_option Elab.async false
set_option linter.all false
set_option maxRecDepth 100000
set_option maxHeartbeats 4000000
namespace DL
open PySem PySem.Spec PyProof.Rows L2

/-- list(zip(xs, ys)), two lists -/
def rListZip (K : PySem.W.Frag) : List V → Hp → VK → Prop := fun vs H Q => ∃ (a b : Addr) (xs ys : List V) (Pv : Nat → List V → Hp → Prop), vs = [V.ref a, V.ref b] ∧ SqL K H a xs ∧ SqL K H b ys ∧ min xs.length ys.length ≤ sizeLine ∧ Zip2 K a b xs ys Pv ∧ Pv 0 [] H ∧
  ∀ H' vs' p, Pv (min xs.length ys.length) vs' H' → H' p = none → Q (.ref p) (upd H' p (.lst vs'))
theorem pe_listZip {X : Cx} {e e2 : Expr} {ta : TA} {p p2 q pos : Pos} (hc : X.calm = true) (hg : Gl X "list") (hm : X.mg "list" = none) (hg2 : Gl X "zip") (hm2 : X.mg "zip" = none) (ha : PA X [e, e2] ta)
    (na : starEach [e, e2] X.env = (false, eval e X.env) :: starEach [e2] X.env := by rfl) (nb : (backTo q (starEach [e2] X.env)).any (·.1) = false := by rfl) :
    PE X (.Call (.Name "list" p) [.Call (.Name "zip" p2) [e, e2] [] q] [] pos) (fun σ H Q => ta σ H fun vs H1 => rListZip X.K vs H1 Q) := by
  refine ⟨fun pins s σ H Q I h => ?_⟩
  refine Call_ (ld_blt I hg hm boot_list ?_)
  refine PyProof.Rows.callWith_type1 (PyProof.Rows.args_cons ?_ rfl) rfl rfl
  refine Call_ (ld_blt I hg2 hm2 boot_zip (PyProof.Rows.callWith_type1 (thn (ha.run q pins s σ H _ I h) fun us s1 ⟨vs, H1, I1, r1, q1⟩ => ?_) na nb))
  obtain ⟨a, b, xs, ys, Pv, rfl, hx, hy, hz, Z, hp, q1⟩ := q1
  cases r1 with
  | cons r rr =>
    cases rr with
    | cons r' rr =>
      cases rr
      cases r
      cases r'
      obtain ⟨its, rv, k1, _⟩ := I1.list hx
      obtain ⟨its2, rv2, k2, _⟩ := I1.list hy
      have hd := I1.ok.hd hc
      refine call_zip_2 k1.isList k2.isList fun h' z0 hTI hTO h1 h2 hsz hk => PyProof.Rows.args_nil ?_
      have J : Inv X pins σ H1 { s1 with heap := h', toks := s1.toks } := I1.kept hk
      have ap := PySem.W.ktu_apart s1.heap.objs.size a b k1.lt k2.lt
      have st : Zst h' (s1.heap.objs.size + 4) (s1.heap.objs.size + 2) (s1.heap.objs.size + 3) s1.heap.objs.size (s1.heap.objs.size + 1) a b 0 := ⟨.inl ⟨z0, _, _, hTO⟩, hTI, h1, h2, _, hTO⟩
      refine call_listZip (s := { s1 with heap := h', toks := s1.toks }) ap (J.ok.hd hc) Z rfl hz J hp z0 st (fun d hd' => ?_) fun s' H' vs' K1 K2 K3 => ⟨.ref _, _, K1, rfl, q1 H' vs' _ K2 K3⟩
      have hle : s1.heap.objs.size ≤ d ∧ d < s1.heap.objs.size + 5 := by
        simp only [List.mem_cons, List.not_mem_nil, or_false] at hd'
        rcases hd' with e | e | e | e | e <;> rw [e]
        · exact ⟨Nat.le_add_right _ _, Nat.lt_succ_self _⟩
        · exact ⟨Nat.le_add_right _ _, Nat.add_lt_add_left (by decide) _⟩
        · exact ⟨Nat.le_add_right _ _, Nat.add_lt_add_left (by decide) _⟩
        · exact ⟨Nat.le_refl _, Nat.lt_add_of_pos_right (by decide)⟩
        · exact ⟨Nat.le_add_right _ _, Nat.add_lt_add_left (by decide) _⟩
      exact ⟨I1.fpOk hle.1 (I1.hok.fresh hle.1), by show d < h'.objs.size; rw [hsz]; exact hle.2⟩
def prs2 : List D → List D → List D
  | x :: xs, y :: ys => .tup [x, y] :: prs2 xs ys
  | _, _ => []
def lzip (d e : D) (S : Sto) : Rs D := DL.withItems d S fun xs => DL.withItems e S fun ys => if isTupD d || isTupD e then .bad else guard (sizeOk xs.length) (mkLst (prs2 xs ys) S)
def fListZip : C3 := c2 lzip
theorem sql_put {K : PySem.W.Frag} {H : Hp} {a T : Addr} {xs : List V} {o : HO} (h : SqL K H a xs) (n : H T = none) : SqL K (upd H T o) a xs :=
  h.elim (fun r => .inl (r.elim (fun e => .inl (by rw [upd_ne (ne_of_none e n)]; exact e)) fun ⟨u, e⟩ => .inr ⟨u, by rw [upd_ne (ne_of_none e n)]; exact e⟩)) .inr
theorem prs2_get : ∀ {xs ys : List D} {i : Nat} {x y : D}, xs[i]? = some x → ys[i]? = some y → (prs2 xs ys)[i]? = some (.tup [x, y])
  | _ :: _, _ :: _, 0, _, _, e1, e2 => by cases e1; cases e2; rfl
  | _ :: xs, _ :: ys, i + 1, _, _, e1, e2 => prs2_get (xs := xs) (ys := ys) (i := i) e1 e2
theorem prs2_len : ∀ xs ys : List D, (prs2 xs ys).length = min xs.length ys.length
  | [], _ => by simp [prs2]
  | _ :: _, [] => by simp [prs2]
  | x :: xs, y :: ys => by
    unfold prs2
    rw [List.length_cons, prs2_len xs ys, List.length_cons, List.length_cons]
    omega
theorem fListZip_s {K : PySem.W.Frag} : CallS K (rListZip K) fListZip := c2_s fun W sv w u v d e S H Q z r1 r2 q => by
  obtain ⟨xs, _, _, he, _, _, _, q⟩ := withItems_s z r1 q
  obtain ⟨ys, _, _, he2, _, _, _, q⟩ := withItems_s z r2 q
  by_cases t : (isTupD d || isTupD e) = true
  · rw [if_pos t] at q
    exact False.elim q
  · rw [if_neg t] at q
    obtain ⟨hz, q⟩ := guard_s q
    have hz := of_decide_eq_true hz
    have t : isTupD d = false ∧ isTupD e = false := by simpa using t
    obtain ⟨a, vs, rfl, ra, hs⟩ := items_list z r1 he t.1
    obtain ⟨b, us, rfl, rb, hs2⟩ := items_list z r2 he2 t.2
    have l1 := ra.length
    have l2 := rb.length
    refine ⟨a, b, vs, us, fun i ts H' => (SqL K H' a vs ∧ SqL K H' b us) ∧ ts.length = i ∧ ∃ w', Ext w w' ∧ WRel K w' S H' ∧ RepA K w' ts ((prs2 xs ys).take i), rfl, hs, hs2, by rw [l1]; exact Nat.le_trans (Nat.min_le_left ..) hz,
      ⟨fun h => h.1, ?_⟩, ⟨⟨hs, hs2⟩, rfl, w, Ext.refl w, z, by rw [List.take_zero]; exact .nil⟩, ?_⟩
    · rintro i ts H' x y T ⟨⟨h1, h2⟩, hl, w', x1, z1, rr⟩ ex ey hn
      refine ⟨⟨sql_put h1 hn, sql_put h2 hn⟩, by rw [List.length_append, hl]; rfl, w'.put T (.tup [x, y]), x1.trans (z1.ext_put hn _), z1.put hn _, ?_⟩
      have ix := (List.getElem?_eq_some_iff.mp ex).1
      have iy := (List.getElem?_eq_some_iff.mp ey).1
      have dx : xs[i]? = some xs[i] := List.getElem?_eq_getElem (by omega)
      have dy : ys[i]? = some ys[i] := List.getElem?_eq_getElem (by omega)
      obtain ⟨x', gx, rx⟩ := ra.get dx
      obtain ⟨y', gy, ry⟩ := rb.get dy
      rw [ex] at gx
      rw [ey] at gy
      cases gx
      cases gy
      have ee := x1.trans (z1.ext_put hn (.tup [x, y]))
      have et : (prs2 xs ys).take (i + 1) = (prs2 xs ys).take i ++ [.tup [xs[i], ys[i]]] := by
        rw [List.take_add_one, prs2_get dx dy]
        rfl
      rw [et]
      exact (rr.mono (z1.ext_put hn _)).append (.cons (.tup upd_same (.cons (rx.mono ee) (.cons (ry.mono ee) .nil))) .nil)
    · rintro H' ts p ⟨_, hl, w', x1, z1, rr⟩ hn
      have el : (prs2 xs ys).take (min vs.length us.length) = prs2 xs ys := List.take_of_length_le (by rw [prs2_len, l1, l2]; exact Nat.le_refl _)
      rw [el] at rr
      exact (mkLst_s (Hold.mono q x1) z1 rr).2 p hn
theorem e_listZip {X : Cx} {W : WX} {e e2 : Expr} {ms : A3} {p p2 q pos : Pos} (hc : X.calm = true) (hg : Gl X "list") (hm : X.mg "list" = none) (hg2 : Gl X "zip") (hm2 : X.mg "zip" = none) (ha : PA3 X W [e, e2] ms)
    (na : starEach [e, e2] X.env = (false, eval e X.env) :: starEach [e2] X.env := by rfl) (nb : (backTo q (starEach [e2] X.env)).any (·.1) = false := by rfl) :
    PE3 X W (.Call (.Name "list" p) [.Call (.Name "zip" p2) [e, e2] [] q] [] pos) (mMake fListZip ms) :=
  PE.imp (pe_listZip hc hg hm hg2 hm2 ha na nb) fun sv H Q h => call3 fListZip_s sv H Q h
end DL
end

section
set_option Elab.async false
set_option linter.all false
set_option maxRecDepth 100000
set_option maxHeartbeats 4000000
/-! how long a writing is, of which signs -/
namespace DL
open PySem PySem.Spec PyProof.Rows L2
open PySem.PyData (strOk)

/-- a text that is some -/
structure TxtOk (x : Str) (n : Nat) : Prop where
  ok : strOk x = true
  len : x.length ≤ n
theorem TxtOk.le {x : Str} {n m : Nat} (h : TxtOk x n) (k : n ≤ m) : TxtOk x m := ⟨h.ok, Nat.le_trans h.len k⟩
theorem txt_append {x y : Str} {n m : Nat} (h : TxtOk x n) (k : TxtOk y m) : TxtOk (x ++ y) (n + m) := by
  refine ⟨?_, by rw [strLen_append]; exact Nat.add_le_add h.len k.len⟩
  have h1 := h.ok
  have h2 := k.ok
  unfold strOk at h1 h2 ⊢
  show (x.cps ++ y.cps).all _ = true
  rw [Array.all_append, h1, h2]
  rfl
theorem txt_of (s : String) : TxtOk (Str.ofString s) s.length := by
  rw [Str.ofString_eq_toList]
  constructor
  · unfold strOk
    simp only [List.all_toArray, List.all_map, List.all_eq_true, Function.comp]
    intro c _
    have h : c.val.toNat.isValidChar := c.valid
    rw [decide_eq_true_eq]
    show c.val.toNat < 1114112
    unfold Nat.isValidChar at h
    omega
  · show ((s.toList.map Char.toNat).toArray).size ≤ _
    rw [List.size_toArray, List.length_map, String.length_toList]
    exact Nat.le_refl _
theorem txt_int {i : Int} (h : i.natAbs < 10 ^ 20) : TxtOk (PyData.shown (.int i)) 21 := by
  have e : PyData.shown (.int i) = Str.ofString (toString i) := by
    simp only [PyData.shown]
  rw [e]
  exact (txt_of _).le (int_text_length_le10 (by decide) h)
theorem txt_join : ∀ {ts : List Str} {n : Nat}, (∀ t ∈ ts, TxtOk t n) → TxtOk (Str.join ", " ts) (ts.length * (n + 2))
  | [], n, _ => ⟨by show (#[] : Array Nat).all _ = true; simp, Nat.zero_le _⟩
  | [x], n, h => (h x (by simp)).le (by simp)
  | x :: y :: r, n, h => by
    have ih := txt_join (ts := y :: r) fun t ht => h t (List.mem_cons_of_mem _ ht)
    have e : Str.join ", " (x :: y :: r) = x ++ ", " ++ Str.join ", " (y :: r) := rfl
    rw [e]
    refine (txt_append (txt_append (h x (by simp)) (txt_of ", ")) ih).le ?_
    have : (", " : String).length = 2 := by decide
    rw [this]
    simp only [List.length_cons]
    rw [Nat.add_mul (r.length + 1) 1]
    omega
theorem txt_from : ∀ {ts : List Str} {k n a : Nat} {acc : Str}, TxtOk acc a → (∀ t ∈ ts, TxtOk t n) → TxtOk (textFrom k acc ts) (a + ts.length * (n + 2))
  | [], k, n, a, acc, h, _ => h.le (by simp)
  | x :: r, k, n, a, acc, h, h2 => by
    have hs : TxtOk (if k > 0 then ", " else "" : String) 2 := by
      split
      · exact txt_of ", "
      · exact (txt_of "").le (by decide)
    have ih := txt_from (k := k + 1) (txt_append (txt_append h hs) (h2 x (by simp))) fun t ht => h2 t (List.mem_cons_of_mem _ ht)
    have e : textFrom k acc (x :: r) = textFrom (k + 1) (acc ++ (if k > 0 then ", " else "" : String) ++ x) r := rfl
    rw [e]
    refine ih.le ?_
    rw [List.length_cons, Nat.add_mul]
    omega
theorem txt_list {ts : List Str} {n : Nat} (h : ∀ t ∈ ts, TxtOk t n) : TxtOk (listText ts) (ts.length * (n + 2) + 2) := by
  have := txt_append (txt_from (k := 0) (txt_of "[") h) (txt_of "]")
  refine this.le ?_
  have h1 : ("[" : String).length = 1 := by decide
  have h2 : ("]" : String).length = 1 := by decide
  rw [h1, h2]
  omega
theorem txt_tuple {ts : List Str} {n : Nat} (h : ∀ t ∈ ts, TxtOk t n) : TxtOk (tupleText ts) (ts.length * (n + 2) + 3) := by
  have hs : TxtOk (if ts.length == 1 then ",)" else ")" : String) 2 := by
    split
    · exact txt_of ",)"
    · exact (txt_of ")").le (by decide)
  have := txt_append (txt_append (txt_of "(") (txt_join h)) hs
  refine this.le ?_
  have h1 : ("(" : String).length = 1 := by decide
  rw [h1]
  omega
end DL
end

section
set_option linter.all false
set_option maxRecDepth 100000
set_option maxHeartbeats 4000000
namespace Lw
open PySem DL
noncomputable section

def m_l_pen : S3 :=
    (mRet (mMake mkOpen (mCons (mMake fList (mCons (mSl false (mVar 0) mNoP (mPart (mC (.int 60)))) mNil)) (mCons (mC (.int 0)) (mCons (mC (.int 0)) mNil)))))
def F_l_pen : C3 := defF true 0 m_l_pen
def m_l_fresh : S3 :=
    (mSeq (mAsg (mBin oIx (mVar 0) (mC (.int 1))) (g3Name 1))
    (mSeq (mSetIx (mVar 0) (mC (.int 1)) (mBin (oCat false) (mVar 1) (mC (.int 1))))
    (mSeq (mAsg (mBin (oCat false) (mBin oMulA (mC (.int 29)) (mVar 1)) (mC (.int 13))) (g3Name 2))
    (mSeq (mIfS (fun σ S => asB (mBin oGtA (mMake fLen (mCons (mBin oIx (mVar 0) (mC (.int 0))) mNil)) (mC (.int 0)) σ S)) (mAsg (mBin oIx (mBin oIx (mVar 0) (mC (.int 0))) (mBin oMod (mVar 1) (mMake fLen (mCons (mBin oIx (mVar 0) (mC (.int 0))) mNil)))) (g3Name 2)) mNext)
    (mSeq (mIfS (tAnd3 (fun σ S => asB (mBin oLtA (mVar 1) (mMake fLen (mCons (mBin oIx (mVar 0) (mC (.int 0))) mNil)) σ S)) (fun σ S => asB (mBin oGeA (mVar 2) (mBin oPow (mC (.int 10)) (mC (.int 18))) σ S))) (mRet (mVar 2)) mNext)
    (mSeq (mAsg (mBin oMod (mBin oPow (mBin (oCat false) (mBin (oCat false) (mBin oMulA (mBin oMod (mVar 2) (mC (.int 1000000009))) (mBin (oCat false) (mVar 1) (mC (.int 3)))) (mBin oMulA (mC (.int 99991)) (mVar 1))) (mC (.int 23))) (mC (.int 3))) (mC (.int 2147483587))) (g3Name 3))
    (mSeq (mAsg (mBin oMod (mBin oPow (mBin (oCat false) (mBin (oCat false) (mBin oMulA (mVar 3) (mBin (oCat false) (mVar 1) (mC (.int 7)))) (mBin oMod (mVar 2) (mC (.int 65521)))) (mC (.int 2))) (mC (.int 5))) (mC (.int 2147483563))) (g3Name 4))
    (mSeq (mAsg (mBin oMod (mBin (oCat false) (mBin (oCat false) (mBin oMulA (mVar 4) (mVar 4)) (mVar 3)) (mBin oMulA (mC (.int 5)) (mVar 1))) (mC (.int 2147483549))) (g3Name 5))
    (mRet (mBin (oCat false) (mBin oMulA (mBin (oCat false) (mBin oMulA (mVar 5) (mC (.int 2147483587))) (mVar 4)) (mC (.int 2147483563))) (mVar 3)))))))))))
def F_l_fresh : C3 := defF false 5 m_l_fresh
def m_l_draw : S3 :=
    (mSeq (mIfS (fun σ S => asB (mBin oLtA (mBin oIx (mVar 0) (mC (.int 2))) (mVar 1) σ S)) (mSetIx (mVar 0) (mC (.int 2)) (mMake (withLen 1 F_l_fresh) (mCons (mVar 0) mNil))) mNext)
    (mSeq (mAsg (mBin oMod (mBin oIx (mVar 0) (mC (.int 2))) (mVar 1)) (g3Name 2))
    (mSeq (mSetIx (mVar 0) (mC (.int 2)) (mBin oDiv (mBin oIx (mVar 0) (mC (.int 2))) (mVar 1)))
    (mRet (mVar 2)))))
def F_l_draw : C3 := defF false 1 m_l_draw
def m_l_lot : S3 :=
    (mSeq (mAsg (mMake mkOpen mNil) (g3Name 2))
    (mSeq (mAsg (mMake (withLen 2 F_l_draw) (mCons (mVar 0) (mCons (mC (.int 3)) mNil))) (g3Name 3))
    (mSeq (mFor (mRange1 (mCons (mVar 1) mNil)) (g3Name 4) (mSeq (mExpr (mMethL fAppend (mVar 2) (mCons (mVar 3) mNil)))
    (mAsg (mBin (oCat false) (mBin (oCat false) (mVar 3) (mC (.int 1))) (mBin oIx (mMake mkLst (mCons (mC (.int 0)) (mCons (mC (.int 0)) (mCons (mC (.int 1)) (mCons (mC (.int 2)) (mCons (mC (.int 50)) (mCons (mBin oPow (mC (.int 10)) (mC (.int 7))) mNil))))))) (mMake (withLen 2 F_l_draw) (mCons (mVar 0) (mCons (mC (.int 6)) mNil))))) (g3Name 3))))
    (mSeq (mIfS (fun σ S => asB (mBin oEq (mMake (withLen 2 F_l_draw) (mCons (mVar 0) (mCons (mC (.int 3)) mNil))) (mC (.int 0)) σ S)) (mSetIx (mVar 2) (mNeg (mC (.int 1))) (mBin oPow (mC (.int 10)) (mC (.int 9)))) mNext)
    (mRet (mVar 2))))))
def F_l_lot : C3 := defF false 3 m_l_lot
def m_l_spots : S3 :=
    (mSeq (mAsg (mMake mkOpen (mCons (mC (.int 0)) mNil)) (g3Name 1))
    (mSeq (mFor (mWalk (mVar 0)) (g3Name 2) (mSeq (mExpr (mMethL fAppend (mVar 1) (mCons (mBin oIx (mVar 2) (mC (.int 0))) mNil)))
    (mIfS (fun σ S => asB (mBin oLtA (mBin oIx (mVar 2) (mC (.int 1))) (mBin oPow (mC (.int 10)) (mC (.int 9))) σ S)) (mExpr (mMethL fAppend (mVar 1) (mCons (mBin (oCat false) (mBin oIx (mVar 2) (mC (.int 1))) (mC (.int 1))) mNil))) mNext)))
    (mRet (mMake fSortSet (mCons (mVar 1) mNil)))))
def F_l_spots : C3 := defF false 2 m_l_spots
def m_l_bends : S3 :=
    (mSeq (mAsg (mMake (withLen 1 F_l_spots) (mCons (mVar 0) mNil)) (g3Name 1))
    (mSeq (mAsg (mBin (oCat false) (mComp false (mWalk (mSl false (mVar 1) (mPart (mC (.int 1))) mNoP)) (g3Name 3) tTrue3 (mBin oSub (mVar 3) (mC (.int 1))) [3]) (mMake mkLst (mCons (mBin oPow (mC (.int 10)) (mC (.int 9))) mNil))) (g3Name 2))
    (mRet (mMake fListZip (mCons (mVar 1) (mCons (mVar 2) mNil))))))
def F_l_bends : C3 := defF false 3 m_l_bends
def m_l_rowed : S3 :=
    (mSeq (mAsg (mMake mkOpen mNil) (g3Name 2))
    (mSeq (mFor (mRange1 (mCons (mMake fLen (mCons (mVar 0) mNil)) mNil)) (g3Name 3) (mIfS (tAnd3 (fun σ S => asT ((mBin oIx (mVar 1) (mVar 3)) σ S)) (tAnd3 (fun σ S => asB (mBin oGtA (mVar 3) (mC (.int 0)) σ S)) (fun σ S => asT ((mBin oIx (mVar 1) (mBin oSub (mVar 3) (mC (.int 1)))) σ S)))) (mSetIx (mVar 2) (mNeg (mC (.int 1))) (mMake mkTup (mCons (mBin oIx (mBin oIx (mVar 2) (mNeg (mC (.int 1)))) (mC (.int 0))) (mCons (mBin oIx (mBin oIx (mVar 0) (mVar 3)) (mC (.int 1))) mNil)))) (mIfS (fun σ S => asT ((mBin oIx (mVar 1) (mVar 3)) σ S)) (mExpr (mMethL fAppend (mVar 2) (mCons (mBin oIx (mVar 0) (mVar 3)) mNil))) mNext)))
    (mRet (mMake fTuple (mCons (mVar 2) mNil)))))
def F_l_rowed : C3 := defF false 2 m_l_rowed
def m_l_stretch : S3 :=
    (mSeq (mAsg (mMake fSorted (mCons (mMake mkLst (mCons (mMake (withLen 2 F_l_draw) (mCons (mVar 0) (mCons (mMake fLen (mCons (mVar 1) mNil)) mNil))) (mCons (mMake (withLen 2 F_l_draw) (mCons (mVar 0) (mCons (mMake fLen (mCons (mVar 1) mNil)) mNil))) mNil))) mNil)) (g3Name 2))
    (mRet (mMake mkTup (mCons (mBin oIx (mVar 1) (mBin oIx (mVar 2) (mC (.int 0)))) (mCons (mBin oIx (mVar 1) (mBin oIx (mVar 2) (mC (.int 1)))) mNil)))))
def F_l_stretch : C3 := defF false 1 m_l_stretch
def m_l_spans : S3 :=
    (mSeq (mAsg (mComp false (mRange1 (mCons (mMake (withLen 2 F_l_draw) (mCons (mVar 0) (mCons (mBin (oCat false) (mVar 2) (mC (.int 1))) mNil))) mNil)) (g3Name 4) tTrue3 (mMake (withLen 2 F_l_stretch) (mCons (mVar 0) (mCons (mVar 1) mNil))) [4]) (g3Name 3))
    (mRet (mIf3 (fun σ S => asB (mBin oEq (mMake (withLen 2 F_l_draw) (mCons (mVar 0) (mCons (mC (.int 2)) mNil))) (mC (.int 0)) σ S)) (mVar 3) (mMake fTuple (mCons (mVar 3) mNil)))))
def F_l_spans : C3 := defF false 2 m_l_spans
def m_joined : S3 :=
    (mSeq (mAsg (mMake mkOpen mNil) (g3Name 1))
    (mSeq (mFor (mWalk (mMake fSorted (mCons (mVar 0) mNil))) (g3Tup 2 (g3Cons (g3Name 2) (g3Cons (g3Name 3) g3Nil))) (mIfS (tAnd3 (fun σ S => asT ((mVar 1) σ S)) (fun σ S => asB (mBin oLeA (mVar 2) (mBin (oCat false) (mBin oIx (mBin oIx (mVar 1) (mNeg (mC (.int 1)))) (mC (.int 1))) (mC (.int 1))) σ S))) (mSetIx (mVar 1) (mNeg (mC (.int 1))) (mMake mkTup (mCons (mBin oIx (mBin oIx (mVar 1) (mNeg (mC (.int 1)))) (mC (.int 0))) (mCons (mMake fMax (mCons (mBin oIx (mBin oIx (mVar 1) (mNeg (mC (.int 1)))) (mC (.int 1))) (mCons (mVar 3) mNil))) mNil)))) (mExpr (mMethL fAppend (mVar 1) (mCons (mMake mkTup (mCons (mVar 2) (mCons (mVar 3) mNil))) mNil)))))
    (mRet (mMake fTuple (mCons (mVar 1) mNil)))))
def F_joined : C3 := defF false 3 m_joined
def m_both : S3 :=
    (mSeq (mAsg (mMake (withLen 1 F_joined) (mCons (mVar 0) mNil)) (g3Name 2))
    (mSeq (mAsg (mMake (withLen 1 F_joined) (mCons (mVar 1) mNil)) (g3Name 3))
    (mSeq (mAsg (mMake mkOpen mNil) (g3Name 4))
    (mSeq (mAsg (mC (.int 0)) (g3Name 5))
    (mSeq (mAsg (mC (.int 0)) (g3Name 6))
    (mSeq (mWhileN (tAnd3 (fun σ S => asB (mBin oLtA (mVar 5) (mMake fLen (mCons (mVar 2) mNil)) σ S)) (fun σ S => asB (mBin oLtA (mVar 6) (mMake fLen (mCons (mVar 3) mNil)) σ S))) (mSeq (mAsg (mMake fMax (mCons (mBin oIx (mBin oIx (mVar 2) (mVar 5)) (mC (.int 0))) (mCons (mBin oIx (mBin oIx (mVar 3) (mVar 6)) (mC (.int 0))) mNil))) (g3Name 7))
    (mSeq (mAsg (mMake fMin (mCons (mBin oIx (mBin oIx (mVar 2) (mVar 5)) (mC (.int 1))) (mCons (mBin oIx (mBin oIx (mVar 3) (mVar 6)) (mC (.int 1))) mNil))) (g3Name 8))
    (mSeq (mIfS (fun σ S => asB (mBin oLeA (mVar 7) (mVar 8) σ S)) (mExpr (mMethL fAppend (mVar 4) (mCons (mMake mkTup (mCons (mVar 7) (mCons (mVar 8) mNil))) mNil))) mNext)
    (mIfS (fun σ S => asB (mBin oLtA (mBin oIx (mBin oIx (mVar 2) (mVar 5)) (mC (.int 1))) (mBin oIx (mBin oIx (mVar 3) (mVar 6)) (mC (.int 1))) σ S)) (mAug 5 oAdd (mC (.int 1))) (mAug 6 oAdd (mC (.int 1))))))) 1000)
    (mRet (mMake fTuple (mCons (mVar 4) mNil)))))))))
def F_both : C3 := defF false 7 m_both
def m_rest : S3 :=
    (mSeq (mAsg (mMake mkOpen mNil) (g3Name 1))
    (mSeq (mAsg (mC (.int 0)) (g3Name 2))
    (mSeq (mFor (mWalk (mMake (withLen 1 F_joined) (mCons (mVar 0) mNil))) (g3Tup 2 (g3Cons (g3Name 3) (g3Cons (g3Name 4) g3Nil))) (mSeq (mIfS (fun σ S => asB (mBin oLtA (mVar 2) (mVar 3) σ S)) (mExpr (mMethL fAppend (mVar 1) (mCons (mMake mkTup (mCons (mVar 2) (mCons (mBin oSub (mVar 3) (mC (.int 1))) mNil))) mNil))) mNext)
    (mAsg (mBin (oCat false) (mVar 4) (mC (.int 1))) (g3Name 2))))
    (mSeq (mIfS (fun σ S => asB (mBin oLeA (mVar 2) (mC (.int 1000000000)) σ S)) (mExpr (mMethL fAppend (mVar 1) (mCons (mMake mkTup (mCons (mVar 2) (mCons (mC (.int 1000000000)) mNil))) mNil))) mNext)
    (mRet (mMake fTuple (mCons (mVar 1) mNil)))))))
def F_rest : C3 := defF false 4 m_rest
def m_apart : S3 :=
    (mRet (mMake (withLen 2 F_both) (mCons (mVar 0) (mCons (mMake (withLen 1 F_rest) (mCons (mVar 1) mNil)) mNil))))
def F_apart : C3 := defF false 0 m_apart
def m_l_over : S3 :=
    (mRet (mBin oNe (mComp false (mWalk (mVar 0)) (g3Name 2) (fun σ S => asB (mChain oLeA oLeA (mBin oIx (mVar 2) (mC (.int 0))) (mVar 1) (mBin oIx (mVar 2) (mC (.int 1))) σ S)) (mVar 2) [2]) (mMake mkLst mNil)))
def F_l_over : C3 := defF false 1 m_l_over
def m_law : S3 :=
    (mSeq (mAsg (mMake (withLen 1 F_l_pen) (mCons (mVar 0) mNil)) (g3Name 1))
    (mSeq (mFor (mRange1 (mCons (mC (.int 8)) mNil)) (g3Name 2) (mSeq (mAsg (mMake (withLen 2 F_l_lot) (mCons (mVar 1) (mCons (mBin (oCat false) (mC (.int 2)) (mMake (withLen 2 F_l_draw) (mCons (mVar 1) (mCons (mC (.int 8)) mNil)))) mNil))) (g3Name 4))
    (mSeq (mAsg (mMake mkTup (mCons (mMake (withLen 3 F_l_spans) (mCons (mVar 1) (mCons (mVar 4) (mCons (mC (.int 7)) mNil)))) (mCons (mMake (withLen 3 F_l_spans) (mCons (mVar 1) (mCons (mVar 4) (mCons (mC (.int 7)) mNil)))) mNil))) (g3Tup 2 (g3Cons (g3Name 9) (g3Cons (g3Name 10) g3Nil))))
    (mSeq (mAsg (mMake fRepr (mCons (mMake mkTup (mCons (mVar 9) (mCons (mVar 10) mNil))) mNil)) (g3Name 5))
    (mSeq (mAsg (mMake (withLen 1 F_l_bends) (mCons (mBin (oCat false) (mMake fList (mCons (mVar 9) mNil)) (mMake fList (mCons (mVar 10) mNil))) mNil)) (g3Name 6))
    (mSeq (mAsg (mMake (withLen 2 F_l_rowed) (mCons (mVar 6) (mCons (mComp false (mWalk (mVar 6)) (g3Tup 2 (g3Cons (g3Name 11) (g3Cons (g3Name 12) g3Nil))) tTrue3 (mAnd (mMake (withLen 2 F_l_over) (mCons (mVar 9) (mCons (mVar 11) mNil))) (mNot (mMake (withLen 2 F_l_over) (mCons (mVar 10) (mCons (mVar 11) mNil))))) [11, 12]) mNil))) (g3Name 7))
    (mFor (mRange1 (mCons (mC (.int 2)) mNil)) (g3Name 8) (mIfS (tOr3 (fun σ S => asB (mBin oNe (mMake fRepr (mCons (mMake (withLen 2 F_apart) (mCons (mVar 9) (mCons (mVar 10) mNil))) mNil)) (mMake fRepr (mCons (mVar 7) mNil)) σ S)) (fun σ S => asB (mBin oNe (mMake fRepr (mCons (mMake mkTup (mCons (mVar 9) (mCons (mVar 10) mNil))) mNil)) (mVar 5) σ S))) (mRet (mC (.bl false))) mNext))))))))
    (mSeq (mAsg (mMake mkLst (mCons (mMake mkTup (mCons (mC (.int 0)) (mCons (mBin oPow (mC (.int 10)) (mC (.int 9))) mNil))) mNil)) (g3Name 3))
    (mRet (mAnd (mBin oEq (mMake (withLen 2 F_apart) (mCons (mVar 3) (mCons (mMake mkLst (mCons (mMake mkTup (mCons (mC (.int 0)) (mCons (mC (.int 0)) mNil))) (mCons (mMake mkTup (mCons (mBin oPow (mC (.int 10)) (mC (.int 9))) (mCons (mBin oPow (mC (.int 10)) (mC (.int 9))) mNil))) mNil))) mNil))) (mMake mkTup (mCons (mMake mkTup (mCons (mC (.int 1)) (mCons (mBin oSub (mBin oPow (mC (.int 10)) (mC (.int 9))) (mC (.int 1))) mNil))) mNil))) (mBin oEq (mMake (withLen 2 F_apart) (mCons (mVar 3) (mCons (mVar 3) mNil))) (mMake mkTup mNil)))))))
def F_law : C3 := defF false 12 m_law
end
end Lw
end

section
set_option Elab.async false
set_option linter.all false
set_option maxRecDepth 100000
set_option maxHeartbeats 4000000
namespace Lw
open PySem PySem.Spec PyProof.Rows L2 DL
def topS (i : Nat) : Stmt := PySem.Challenge.pw_pastlay_k05_places_apart.main.body.getD i (.Pass ⟨0, 0, 0, 0⟩)
abbrev s_l_pen : Stmt := topS 7
abbrev n_l_pen : List Str := ["script"]
theorem sc_l_pen : FnScope n_l_pen ["script"] (defScope s_l_pen) := ⟨rfl, rfl, rfl, by decide +kernel, rfl, by decide +kernel, by decide +kernel⟩
abbrev s_l_fresh : Stmt := topS 8
abbrev n_l_fresh : List Str := ["pen", "at", "cell", "one", "two", "three"]
theorem sc_l_fresh : FnScope n_l_fresh ["pen"] (defScope s_l_fresh) := ⟨rfl, rfl, rfl, by decide +kernel, rfl, by decide +kernel, by decide +kernel⟩
abbrev s_l_draw : Stmt := topS 9
abbrev n_l_draw : List Str := ["pen", "often", "digit"]
theorem sc_l_draw : FnScope n_l_draw ["pen", "often"] (defScope s_l_draw) := ⟨rfl, rfl, rfl, by decide +kernel, rfl, by decide +kernel, by decide +kernel⟩
abbrev s_l_lot : Stmt := topS 10
abbrev n_l_lot : List Str := ["pen", "size", "found", "at", "turn"]
theorem sc_l_lot : FnScope n_l_lot ["pen", "size"] (defScope s_l_lot) := ⟨rfl, rfl, rfl, by decide +kernel, rfl, by decide +kernel, by decide +kernel⟩
abbrev s_l_spots : Stmt := topS 12
abbrev n_l_spots : List Str := ["stretches", "found", "one"]
theorem sc_l_spots : FnScope n_l_spots ["stretches"] (defScope s_l_spots) := ⟨rfl, rfl, rfl, by decide +kernel, rfl, by decide +kernel, by decide +kernel⟩
abbrev s_l_bends : Stmt := topS 13
abbrev n_l_bends : List Str := ["stretches", "some", "ends", "one"]
theorem sc_l_bends : FnScope n_l_bends ["stretches"] (defScope s_l_bends) := ⟨rfl, rfl, rfl, by decide +kernel, rfl, by decide +kernel, by decide +kernel⟩
abbrev s_l_rowed : Stmt := topS 15
abbrev n_l_rowed : List Str := ["bends", "fits", "found", "k"]
theorem sc_l_rowed : FnScope n_l_rowed ["bends", "fits"] (defScope s_l_rowed) := ⟨rfl, rfl, rfl, by decide +kernel, rfl, by decide +kernel, by decide +kernel⟩
abbrev s_l_stretch : Stmt := topS 11
abbrev n_l_stretch : List Str := ["pen", "lot", "some"]
theorem sc_l_stretch : FnScope n_l_stretch ["pen", "lot"] (defScope s_l_stretch) := ⟨rfl, rfl, rfl, by decide +kernel, rfl, by decide +kernel, by decide +kernel⟩
abbrev s_l_spans : Stmt := topS 16
abbrev n_l_spans : List Str := ["pen", "lot", "most", "some", "turn"]
theorem sc_l_spans : FnScope n_l_spans ["pen", "lot", "most"] (defScope s_l_spans) := ⟨rfl, rfl, rfl, by decide +kernel, rfl, by decide +kernel, by decide +kernel⟩
abbrev s_joined : Stmt := topS 2
abbrev n_joined : List Str := ["some", "row", "low", "high"]
theorem sc_joined : FnScope n_joined ["some"] (defScope s_joined) := ⟨rfl, rfl, rfl, by decide +kernel, rfl, by decide +kernel, by decide +kernel⟩
abbrev s_both : Stmt := topS 4
abbrev n_both : List Str := ["some", "others", "first", "second", "row", "i", "j", "low", "high"]
theorem sc_both : FnScope n_both ["some", "others"] (defScope s_both) := ⟨rfl, rfl, rfl, by decide +kernel, rfl, by decide +kernel, by decide +kernel⟩
abbrev s_rest : Stmt := topS 3
abbrev n_rest : List Str := ["some", "row", "begin", "low", "high"]
theorem sc_rest : FnScope n_rest ["some"] (defScope s_rest) := ⟨rfl, rfl, rfl, by decide +kernel, rfl, by decide +kernel, by decide +kernel⟩
abbrev s_apart : Stmt := topS 5
abbrev n_apart : List Str := ["some", "others"]
theorem sc_apart : FnScope n_apart ["some", "others"] (defScope s_apart) := ⟨rfl, rfl, rfl, by decide +kernel, rfl, by decide +kernel, by decide +kernel⟩
abbrev s_l_over : Stmt := topS 14
abbrev n_l_over : List Str := ["some", "spot", "one"]
theorem sc_l_over : FnScope n_l_over ["some", "spot"] (defScope s_l_over) := ⟨rfl, rfl, rfl, by decide +kernel, rfl, by decide +kernel, by decide +kernel⟩
abbrev s_law : Stmt := topS 17
abbrev n_law : List Str := ["script", "pen", "turn", "every", "lot", "stood", "bends", "due", "again", "some", "others", "low", "high"]
theorem sc_law : FnScope n_law ["script"] (defScope s_law) := ⟨rfl, rfl, rfl, by decide +kernel, rfl, by decide +kernel, by decide +kernel⟩
abbrev bn : List Str := ["list", "len", "range", "sorted", "set", "zip", "tuple", "max", "min", "repr"]
section
variable {P : Program} {w : World} {K : PySem.W.Frag} {mg : Str → Option Value} {base : Heap}
theorem ok_l_pen {f : Addr} {fd : FuncData} (F : Fun K "_law_pen" "_law_pen" s_l_pen f fd) (nb : Free mg bn) : FnOk3 P w K mg base 1 f fd ["script"] F_l_pen := by
  refine fn3 true F sc_l_pen fun cdv A outer s H E hr => ?_
  have tk : Takes (cxOf (L2.CX P w) P w K mg base n_l_pen "_law_pen" (defScope s_l_pen) f cdv A outer s H E) (outW E) := takes_of rfl rfl rfl rfl
  have po : PassesOwn (model P w) (A.deeper (envOfC "_law_pen" (defScope s_l_pen) s.heap.objs.size f cdv)) (envOfC "_law_pen" (defScope s_l_pen) s.heap.objs.size f cdv) (cxOf (L2.CX P w) P w K mg base n_l_pen "_law_pen" (defScope s_l_pen) f cdv A outer s H E).xe := PassesOwn.leaving
  have nd := (sc_l_pen).nd
  exact (ss_one (s_ret (e_lstO (a_cons (e_callTy call_list_of fList_s (by rfl) (nb "list" (by decide)) (by decide +kernel) (a_cons (e_slice false (e_var 0 (pv 0)) o_none (o_some e_int)) a_nil)) (a_cons e_int (a_cons e_int a_nil))))))
theorem ok_l_fresh {f : Addr} {fd : FuncData} (F : Fun K "_law_fresh" "_law_fresh" s_l_fresh f fd) (nb : Free mg bn) : FnOk3 P w K mg base 1 f fd ["pen"] F_l_fresh := by
  refine fn3 false F sc_l_fresh fun cdv A outer s H E hr => ?_
  have tk : Takes (cxOf (L2.CX P w) P w K mg base n_l_fresh "_law_fresh" (defScope s_l_fresh) f cdv A outer s H E) (outW E) := takes_of rfl rfl rfl rfl
  have po : PassesOwn (model P w) (A.deeper (envOfC "_law_fresh" (defScope s_l_fresh) s.heap.objs.size f cdv)) (envOfC "_law_fresh" (defScope s_l_fresh) s.heap.objs.size f cdv) (cxOf (L2.CX P w) P w K mg base n_l_fresh "_law_fresh" (defScope s_l_fresh) f cdv A outer s H E).xe := PassesOwn.leaving
  have nd := (sc_l_fresh).nd
  exact (ss_cons (s_set (i := 1) nd rfl (Or.inl rfl) (e_ix (e_var 0 (pv 0)) e_int))
      (ss_cons (s_setIx (e_bin op_catAll (oCat_s false) (e_var 1 (pv 1)) e_int) (e_var 0 (pv 0)) e_int)
      (ss_cons (s_set (i := 2) nd rfl (Or.inl rfl) (e_bin op_catAll (oCat_s false) (e_bin op_mulA oMulA_s e_int (e_var 1 (pv 1))) e_int))
      (ss_cons (s_if (t_cmp op_gtA cmpG_s (e_callB call_len fLen_s (by rfl) (nb "len" (by decide)) (by decide +kernel) (a_cons (e_ix (e_var 0 (pv 0)) e_int) a_nil)) e_int (nomark _)) (ss_one (s_set (i := 2) nd rfl (Or.inl rfl) (e_ix (e_ix (e_var 0 (pv 0)) e_int) (e_bin op_mod oMod_s (e_var 1 (pv 1)) (e_callB call_len fLen_s (by rfl) (nb "len" (by decide)) (by decide +kernel) (a_cons (e_ix (e_var 0 (pv 0)) e_int) a_nil)))))) ss_nil)
      (ss_cons (s_if (PW3.pt (w_and (t_cmp op_ltA cmpG_s (e_var 1 (pv 1)) (e_callB call_len fLen_s (by rfl) (nb "len" (by decide)) (by decide +kernel) (a_cons (e_ix (e_var 0 (pv 0)) e_int) a_nil)) (nomark _)) (w_and1 (t_cmp op_geA cmpG_s (e_var 2 (pv 2)) (e_bin op_pow oPow_s e_int e_int) (nomark _))))) (ss_one (s_ret (e_var 2 (pv 2)))) ss_nil)
      (ss_cons (s_set (i := 3) nd rfl (Or.inl rfl) (e_bin op_mod oMod_s (e_bin op_pow oPow_s (e_bin op_catAll (oCat_s false) (e_bin op_catAll (oCat_s false) (e_bin op_mulA oMulA_s (e_bin op_mod oMod_s (e_var 2 (pv 2)) e_int) (e_bin op_catAll (oCat_s false) (e_var 1 (pv 1)) e_int)) (e_bin op_mulA oMulA_s e_int (e_var 1 (pv 1)))) e_int) e_int) e_int))
      (ss_cons (s_set (i := 4) nd rfl (Or.inl rfl) (e_bin op_mod oMod_s (e_bin op_pow oPow_s (e_bin op_catAll (oCat_s false) (e_bin op_catAll (oCat_s false) (e_bin op_mulA oMulA_s (e_var 3 (pv 3)) (e_bin op_catAll (oCat_s false) (e_var 1 (pv 1)) e_int)) (e_bin op_mod oMod_s (e_var 2 (pv 2)) e_int)) e_int) e_int) e_int))
      (ss_cons (s_set (i := 5) nd rfl (Or.inl rfl) (e_bin op_mod oMod_s (e_bin op_catAll (oCat_s false) (e_bin op_catAll (oCat_s false) (e_bin op_mulA oMulA_s (e_var 4 (pv 4)) (e_var 4 (pv 4))) (e_var 3 (pv 3))) (e_bin op_mulA oMulA_s e_int (e_var 1 (pv 1)))) e_int))
      (ss_one (s_ret (e_bin op_catAll (oCat_s false) (e_bin op_mulA oMulA_s (e_bin op_catAll (oCat_s false) (e_bin op_mulA oMulA_s (e_var 5 (pv 5)) e_int) (e_var 4 (pv 4))) e_int) (e_var 3 (pv 3)))))))))))))
theorem ok_l_draw {f : Addr} {fd : FuncData} (F : Fun K "_law_draw" "_law_draw" s_l_draw f fd) (nb : Free mg bn) (c_l_fresh : Cal3 P w K mg base 1 "_law_fresh" 1 F_l_fresh) : FnOk3 P w K mg base 2 f fd ["pen", "often"] F_l_draw := by
  refine fn3 false F sc_l_draw fun cdv A outer s H E hr => ?_
  have tk : Takes (cxOf (L2.CX P w) P w K mg base n_l_draw "_law_draw" (defScope s_l_draw) f cdv A outer s H E) (outW E) := takes_of rfl rfl rfl rfl
  have po : PassesOwn (model P w) (A.deeper (envOfC "_law_draw" (defScope s_l_draw) s.heap.objs.size f cdv)) (envOfC "_law_draw" (defScope s_l_draw) s.heap.objs.size f cdv) (cxOf (L2.CX P w) P w K mg base n_l_draw "_law_draw" (defScope s_l_draw) f cdv A outer s H E).xe := PassesOwn.leaving
  have nd := (sc_l_draw).nd
  exact (ss_cons (s_if (t_cmp op_ltA cmpG_s (e_ix (e_var 0 (pv 0)) e_int) (e_var 1 (pv 1)) (nomark _)) (ss_one (s_setIx (e_c3 c_l_fresh hr (by decide) tk (by rfl) (a_cons (e_var 0 (pv 0)) a_nil)) (e_var 0 (pv 0)) e_int)) ss_nil)
      (ss_cons (s_set (i := 2) nd rfl (Or.inl rfl) (e_bin op_mod oMod_s (e_ix (e_var 0 (pv 0)) e_int) (e_var 1 (pv 1))))
      (ss_cons (s_setIx (e_bin op_fdiv oDiv_s (e_ix (e_var 0 (pv 0)) e_int) (e_var 1 (pv 1))) (e_var 0 (pv 0)) e_int)
      (ss_one (s_ret (e_var 2 (pv 2)))))))
theorem ok_l_lot {f : Addr} {fd : FuncData} (F : Fun K "_law_lot" "_law_lot" s_l_lot f fd) (nb : Free mg bn) (c_l_draw : Cal3 P w K mg base 2 "_law_draw" 2 F_l_draw) : FnOk3 P w K mg base 3 f fd ["pen", "size"] F_l_lot := by
  refine fn3 false F sc_l_lot fun cdv A outer s H E hr => ?_
  have tk : Takes (cxOf (L2.CX P w) P w K mg base n_l_lot "_law_lot" (defScope s_l_lot) f cdv A outer s H E) (outW E) := takes_of rfl rfl rfl rfl
  have po : PassesOwn (model P w) (A.deeper (envOfC "_law_lot" (defScope s_l_lot) s.heap.objs.size f cdv)) (envOfC "_law_lot" (defScope s_l_lot) s.heap.objs.size f cdv) (cxOf (L2.CX P w) P w K mg base n_l_lot "_law_lot" (defScope s_l_lot) f cdv A outer s H E).xe := PassesOwn.leaving
  have nd := (sc_l_lot).nd
  exact (ss_cons (s_set (i := 2) nd rfl (Or.inl rfl) (e_lstO a_nil))
      (ss_cons (s_set (i := 3) nd rfl (Or.inl rfl) (e_c3 c_l_draw hr (by decide) tk (by rfl) (a_cons (e_var 0 (pv 0)) (a_cons e_int a_nil))))
      (ss_cons (s_for po rfl (i_range1 (by rfl) (nb "range" (by decide)) (a_cons (e_var 1 (pv 1)) a_nil)) (g_name (pg_name (i := 4) nd rfl (Or.inl rfl))) (ss_cons (s_expr (e_methL PySem.F.slot_list_append PySem.F.type_list_append mt_append fAppend_s (e_var 2 (pv 2)) (a_cons (e_var 3 (pv 3)) a_nil)))
      (ss_one (s_set (i := 3) nd rfl (Or.inl rfl) (e_bin op_catAll (oCat_s false) (e_bin op_catAll (oCat_s false) (e_var 3 (pv 3)) e_int) (e_ix (e_lst (a_cons e_int (a_cons e_int (a_cons e_int (a_cons e_int (a_cons e_int (a_cons (e_bin op_pow oPow_s e_int e_int) a_nil))))))) (e_c3 c_l_draw hr (by decide) tk (by rfl) (a_cons (e_var 0 (pv 0)) (a_cons e_int a_nil)))))))))
      (ss_cons (s_if (t_cmp (op_eqD hr.room.units) oEq_s (e_c3 c_l_draw hr (by decide) tk (by rfl) (a_cons (e_var 0 (pv 0)) (a_cons e_int a_nil))) e_int (nomark _)) (ss_one (s_setIx (e_bin op_pow oPow_s e_int e_int) (e_var 2 (pv 2)) (e_neg e_int))) ss_nil)
      (ss_one (s_ret (e_var 2 (pv 2))))))))
theorem ok_l_spots {f : Addr} {fd : FuncData} (F : Fun K "_law_spots" "_law_spots" s_l_spots f fd) (nb : Free mg bn) : FnOk3 P w K mg base 1 f fd ["stretches"] F_l_spots := by
  refine fn3 false F sc_l_spots fun cdv A outer s H E hr => ?_
  have tk : Takes (cxOf (L2.CX P w) P w K mg base n_l_spots "_law_spots" (defScope s_l_spots) f cdv A outer s H E) (outW E) := takes_of rfl rfl rfl rfl
  have po : PassesOwn (model P w) (A.deeper (envOfC "_law_spots" (defScope s_l_spots) s.heap.objs.size f cdv)) (envOfC "_law_spots" (defScope s_l_spots) s.heap.objs.size f cdv) (cxOf (L2.CX P w) P w K mg base n_l_spots "_law_spots" (defScope s_l_spots) f cdv A outer s H E).xe := PassesOwn.leaving
  have nd := (sc_l_spots).nd
  exact (ss_cons (s_set (i := 1) nd rfl (Or.inl rfl) (e_lstO (a_cons e_int a_nil)))
      (ss_cons (s_for po rfl (i_seq (e_var 0 (pv 0))) (g_name (pg_name (i := 2) nd rfl (Or.inl rfl))) (ss_cons (s_expr (e_methL PySem.F.slot_list_append PySem.F.type_list_append mt_append fAppend_s (e_var 1 (pv 1)) (a_cons (e_ix (e_var 2 (pv 2)) e_int) a_nil)))
      (ss_one (s_if (t_cmp op_ltA cmpG_s (e_ix (e_var 2 (pv 2)) e_int) (e_bin op_pow oPow_s e_int e_int) (nomark _)) (ss_one (s_expr (e_methL PySem.F.slot_list_append PySem.F.type_list_append mt_append fAppend_s (e_var 1 (pv 1)) (a_cons (e_bin op_catAll (oCat_s false) (e_ix (e_var 2 (pv 2)) e_int) e_int) a_nil)))) ss_nil))))
      (ss_one (s_ret (e_sortSet rfl (by rfl) (nb "sorted" (by decide)) (by rfl) (nb "set" (by decide)) (a_cons (e_var 1 (pv 1)) a_nil))))))
theorem ok_l_bends {f : Addr} {fd : FuncData} (F : Fun K "_law_bends" "_law_bends" s_l_bends f fd) (nb : Free mg bn) (c_l_spots : Cal3 P w K mg base 1 "_law_spots" 1 F_l_spots) : FnOk3 P w K mg base 2 f fd ["stretches"] F_l_bends := by
  refine fn3 false F sc_l_bends fun cdv A outer s H E hr => ?_
  have tk : Takes (cxOf (L2.CX P w) P w K mg base n_l_bends "_law_bends" (defScope s_l_bends) f cdv A outer s H E) (outW E) := takes_of rfl rfl rfl rfl
  have po : PassesOwn (model P w) (A.deeper (envOfC "_law_bends" (defScope s_l_bends) s.heap.objs.size f cdv)) (envOfC "_law_bends" (defScope s_l_bends) s.heap.objs.size f cdv) (cxOf (L2.CX P w) P w K mg base n_l_bends "_law_bends" (defScope s_l_bends) f cdv A outer s H E).xe := PassesOwn.leaving
  have nd := (sc_l_bends).nd
  exact (ss_cons (s_set (i := 1) nd rfl (Or.inl rfl) (e_c3 c_l_spots hr (by decide) tk (by rfl) (a_cons (e_var 0 (pv 0)) a_nil)))
      (ss_cons (s_set (i := 2) nd rfl (Or.inl rfl) (e_bin op_catAll (oCat_s false) (e_comp false (own := [("one", 3)]) rfl nd (i_seq (e_slice false (e_var 1 (pv 1)) (o_some e_int) o_none)) (blkOk_by (own := [("one", 3)]) (N := n_l_bends) (sc := defScope s_l_bends) (by decide +kernel)) (fun _ _ _ _ _ => (g_name (pg_name (i := 3) nd rfl (by first | exact Or.inl rfl | exact Or.inr rfl)))) (fun _ _ _ _ _ => ts_nil) (fun _ _ _ _ _ => (e_bin op_sub oSub_s (e_var 3 (pv 3)) e_int)) (by decide)) (e_lst (a_cons (e_bin op_pow oPow_s e_int e_int) a_nil))))
      (ss_one (s_ret (e_listZip rfl (by rfl) (nb "list" (by decide)) (by rfl) (nb "zip" (by decide)) (a_cons (e_var 1 (pv 1)) (a_cons (e_var 2 (pv 2)) a_nil)))))))
theorem ok_l_rowed {f : Addr} {fd : FuncData} (F : Fun K "_law_rowed" "_law_rowed" s_l_rowed f fd) (nb : Free mg bn) : FnOk3 P w K mg base 1 f fd ["bends", "fits"] F_l_rowed := by
  refine fn3 false F sc_l_rowed fun cdv A outer s H E hr => ?_
  have tk : Takes (cxOf (L2.CX P w) P w K mg base n_l_rowed "_law_rowed" (defScope s_l_rowed) f cdv A outer s H E) (outW E) := takes_of rfl rfl rfl rfl
  have po : PassesOwn (model P w) (A.deeper (envOfC "_law_rowed" (defScope s_l_rowed) s.heap.objs.size f cdv)) (envOfC "_law_rowed" (defScope s_l_rowed) s.heap.objs.size f cdv) (cxOf (L2.CX P w) P w K mg base n_l_rowed "_law_rowed" (defScope s_l_rowed) f cdv A outer s H E).xe := PassesOwn.leaving
  have nd := (sc_l_rowed).nd
  exact (ss_cons (s_set (i := 2) nd rfl (Or.inl rfl) (e_lstO a_nil))
      (ss_cons (s_for po rfl (i_range1 (by rfl) (nb "range" (by decide)) (a_cons (e_callB call_len fLen_s (by rfl) (nb "len" (by decide)) (by decide +kernel) (a_cons (e_var 0 (pv 0)) a_nil)) a_nil)) (g_name (pg_name (i := 3) nd rfl (Or.inl rfl))) (ss_one (s_if (PW3.pt (w_and (t_truth (e_ix (e_var 1 (pv 1)) (e_var 3 (pv 3)))) (w_and (t_cmp op_gtA cmpG_s (e_var 3 (pv 3)) e_int (nomark _)) (w_and1 (t_truth (e_ix (e_var 1 (pv 1)) (e_bin op_sub oSub_s (e_var 3 (pv 3)) e_int))))))) (ss_one (s_setIx (e_tup (a_cons (e_ix (e_ix (e_var 2 (pv 2)) (e_neg e_int)) e_int) (a_cons (e_ix (e_ix (e_var 0 (pv 0)) (e_var 3 (pv 3))) e_int) a_nil))) (e_var 2 (pv 2)) (e_neg e_int))) (ss_one (s_if (t_truth (e_ix (e_var 1 (pv 1)) (e_var 3 (pv 3)))) (ss_one (s_expr (e_methL PySem.F.slot_list_append PySem.F.type_list_append mt_append fAppend_s (e_var 2 (pv 2)) (a_cons (e_ix (e_var 0 (pv 0)) (e_var 3 (pv 3))) a_nil)))) ss_nil)))))
      (ss_one (s_ret (e_callTy call_tuple_of fTuple_s (by rfl) (nb "tuple" (by decide)) (by decide +kernel) (a_cons (e_var 2 (pv 2)) a_nil))))))
theorem ok_l_stretch {f : Addr} {fd : FuncData} (F : Fun K "_law_stretch" "_law_stretch" s_l_stretch f fd) (nb : Free mg bn) (c_l_draw : Cal3 P w K mg base 2 "_law_draw" 2 F_l_draw) : FnOk3 P w K mg base 3 f fd ["pen", "lot"] F_l_stretch := by
  refine fn3 false F sc_l_stretch fun cdv A outer s H E hr => ?_
  have tk : Takes (cxOf (L2.CX P w) P w K mg base n_l_stretch "_law_stretch" (defScope s_l_stretch) f cdv A outer s H E) (outW E) := takes_of rfl rfl rfl rfl
  have po : PassesOwn (model P w) (A.deeper (envOfC "_law_stretch" (defScope s_l_stretch) s.heap.objs.size f cdv)) (envOfC "_law_stretch" (defScope s_l_stretch) s.heap.objs.size f cdv) (cxOf (L2.CX P w) P w K mg base n_l_stretch "_law_stretch" (defScope s_l_stretch) f cdv A outer s H E).xe := PassesOwn.leaving
  have nd := (sc_l_stretch).nd
  exact (ss_cons (s_set (i := 2) nd rfl (Or.inl rfl) (e_callB call_sortedA fSorted_s (by rfl) (nb "sorted" (by decide)) (by decide +kernel) (a_cons (e_lst (a_cons (e_c3 c_l_draw hr (by decide) tk (by rfl) (a_cons (e_var 0 (pv 0)) (a_cons (e_callB call_len fLen_s (by rfl) (nb "len" (by decide)) (by decide +kernel) (a_cons (e_var 1 (pv 1)) a_nil)) a_nil))) (a_cons (e_c3 c_l_draw hr (by decide) tk (by rfl) (a_cons (e_var 0 (pv 0)) (a_cons (e_callB call_len fLen_s (by rfl) (nb "len" (by decide)) (by decide +kernel) (a_cons (e_var 1 (pv 1)) a_nil)) a_nil))) a_nil))) a_nil)))
      (ss_one (s_ret (e_tup (a_cons (e_ix (e_var 1 (pv 1)) (e_ix (e_var 2 (pv 2)) e_int)) (a_cons (e_ix (e_var 1 (pv 1)) (e_ix (e_var 2 (pv 2)) e_int)) a_nil))))))
theorem ok_l_spans {f : Addr} {fd : FuncData} (F : Fun K "_law_spans" "_law_spans" s_l_spans f fd) (nb : Free mg bn) (c_l_stretch : Cal3 P w K mg base 3 "_law_stretch" 2 F_l_stretch) (c_l_draw : Cal3 P w K mg base 2 "_law_draw" 2 F_l_draw) : FnOk3 P w K mg base 4 f fd ["pen", "lot", "most"] F_l_spans := by
  refine fn3 false F sc_l_spans fun cdv A outer s H E hr => ?_
  have tk : Takes (cxOf (L2.CX P w) P w K mg base n_l_spans "_law_spans" (defScope s_l_spans) f cdv A outer s H E) (outW E) := takes_of rfl rfl rfl rfl
  have po : PassesOwn (model P w) (A.deeper (envOfC "_law_spans" (defScope s_l_spans) s.heap.objs.size f cdv)) (envOfC "_law_spans" (defScope s_l_spans) s.heap.objs.size f cdv) (cxOf (L2.CX P w) P w K mg base n_l_spans "_law_spans" (defScope s_l_spans) f cdv A outer s H E).xe := PassesOwn.leaving
  have nd := (sc_l_spans).nd
  exact (ss_cons (s_setComp false (i := 3) (own := [("turn", 4)]) rfl nd rfl rfl (sw_true rfl rfl rfl (by decide +kernel)) (i_range1 (by rfl) (nb "range" (by decide)) (a_cons (e_c3 c_l_draw hr (by decide) tk (by rfl) (a_cons (e_var 0 (pv 0)) (a_cons (e_bin op_catAll (oCat_s false) (e_var 2 (pv 2)) e_int) a_nil))) a_nil)) (blkOk_by (own := [("turn", 4)]) (N := n_l_spans) (sc := defScope s_l_spans) (by decide +kernel)) (fun _ _ _ _ _ => (g_name (pg_name (i := 4) nd rfl (by first | exact Or.inl rfl | exact Or.inr rfl)))) (fun _ _ _ _ _ => ts_nil) (fun _ _ _ _ _ => (e_c3 c_l_stretch hr (by decide) takes0 (by rfl) (a_cons (e_var 0 (pv 0)) (a_cons (e_var 1 (pv 1)) a_nil)))) (by decide))
      (ss_one (s_ret (e_if (t_cmp (op_eqD hr.room.units) oEq_s (e_c3 c_l_draw hr (by decide) tk (by rfl) (a_cons (e_var 0 (pv 0)) (a_cons e_int a_nil))) e_int (nomark _)) (e_var 3 (pv 3)) (e_callTy call_tuple_of fTuple_s (by rfl) (nb "tuple" (by decide)) (by decide +kernel) (a_cons (e_var 3 (pv 3)) a_nil))))))
theorem ok_joined {f : Addr} {fd : FuncData} (F : Fun K "joined" "joined" s_joined f fd) (nb : Free mg bn) : FnOk3 P w K mg base 1 f fd ["some"] F_joined := by
  refine fn3 false F sc_joined fun cdv A outer s H E hr => ?_
  have tk : Takes (cxOf (L2.CX P w) P w K mg base n_joined "joined" (defScope s_joined) f cdv A outer s H E) (outW E) := takes_of rfl rfl rfl rfl
  have po : PassesOwn (model P w) (A.deeper (envOfC "joined" (defScope s_joined) s.heap.objs.size f cdv)) (envOfC "joined" (defScope s_joined) s.heap.objs.size f cdv) (cxOf (L2.CX P w) P w K mg base n_joined "joined" (defScope s_joined) f cdv A outer s H E).xe := PassesOwn.leaving
  have nd := (sc_joined).nd
  exact (ss_cons (s_set (i := 1) nd rfl (Or.inl rfl) (e_lstO a_nil))
      (ss_cons (s_for po rfl (i_seq (e_callB call_sortedA fSorted_s (by rfl) (nb "sorted" (by decide)) (by decide +kernel) (a_cons (e_var 0 (pv 0)) a_nil))) (g_tup rfl (gs_cons (g_name (pg_name (i := 2) nd rfl (Or.inl rfl))) (gs_cons (g_name (pg_name (i := 3) nd rfl (Or.inl rfl))) gs_nil))) (ss_one (s_if (PW3.pt (w_and (t_truth (e_var 1 (pv 1))) (w_and1 (t_cmp op_leA cmpG_s (e_var 2 (pv 2)) (e_bin op_catAll (oCat_s false) (e_ix (e_ix (e_var 1 (pv 1)) (e_neg e_int)) e_int) e_int) (nomark _))))) (ss_one (s_setIx (e_tup (a_cons (e_ix (e_ix (e_var 1 (pv 1)) (e_neg e_int)) e_int) (a_cons (e_callB (call_max2 rfl) fMax_s (by rfl) (nb "max" (by decide)) (by decide +kernel) (a_cons (e_ix (e_ix (e_var 1 (pv 1)) (e_neg e_int)) e_int) (a_cons (e_var 3 (pv 3)) a_nil))) a_nil))) (e_var 1 (pv 1)) (e_neg e_int))) (ss_one (s_expr (e_methL PySem.F.slot_list_append PySem.F.type_list_append mt_append fAppend_s (e_var 1 (pv 1)) (a_cons (e_tup (a_cons (e_var 2 (pv 2)) (a_cons (e_var 3 (pv 3)) a_nil))) a_nil)))))))
      (ss_one (s_ret (e_callTy call_tuple_of fTuple_s (by rfl) (nb "tuple" (by decide)) (by decide +kernel) (a_cons (e_var 1 (pv 1)) a_nil))))))
theorem ok_both {f : Addr} {fd : FuncData} (F : Fun K "both" "both" s_both f fd) (nb : Free mg bn) (c_joined : Cal3 P w K mg base 1 "joined" 1 F_joined) : FnOk3 P w K mg base 2 f fd ["some", "others"] F_both := by
  refine fn3 false F sc_both fun cdv A outer s H E hr => ?_
  have tk : Takes (cxOf (L2.CX P w) P w K mg base n_both "both" (defScope s_both) f cdv A outer s H E) (outW E) := takes_of rfl rfl rfl rfl
  have po : PassesOwn (model P w) (A.deeper (envOfC "both" (defScope s_both) s.heap.objs.size f cdv)) (envOfC "both" (defScope s_both) s.heap.objs.size f cdv) (cxOf (L2.CX P w) P w K mg base n_both "both" (defScope s_both) f cdv A outer s H E).xe := PassesOwn.leaving
  have nd := (sc_both).nd
  exact (ss_cons (s_set (i := 2) nd rfl (Or.inl rfl) (e_c3 c_joined hr (by decide) tk (by rfl) (a_cons (e_var 0 (pv 0)) a_nil)))
      (ss_cons (s_set (i := 3) nd rfl (Or.inl rfl) (e_c3 c_joined hr (by decide) tk (by rfl) (a_cons (e_var 1 (pv 1)) a_nil)))
      (ss_cons (s_set (i := 4) nd rfl (Or.inl rfl) (e_lstO a_nil))
      (ss_cons (s_set (i := 5) nd rfl (Or.inl rfl) e_int)
      (ss_cons (s_set (i := 6) nd rfl (Or.inl rfl) e_int)
      (ss_cons (s_while 1000 po (PW3.pt (w_and (t_cmp op_ltA cmpG_s (e_var 5 (pv 5)) (e_callB call_len fLen_s (by rfl) (nb "len" (by decide)) (by decide +kernel) (a_cons (e_var 2 (pv 2)) a_nil)) (nomark _)) (w_and1 (t_cmp op_ltA cmpG_s (e_var 6 (pv 6)) (e_callB call_len fLen_s (by rfl) (nb "len" (by decide)) (by decide +kernel) (a_cons (e_var 3 (pv 3)) a_nil)) (nomark _))))) (ss_cons (s_set (i := 7) nd rfl (Or.inl rfl) (e_callB (call_max2 rfl) fMax_s (by rfl) (nb "max" (by decide)) (by decide +kernel) (a_cons (e_ix (e_ix (e_var 2 (pv 2)) (e_var 5 (pv 5))) e_int) (a_cons (e_ix (e_ix (e_var 3 (pv 3)) (e_var 6 (pv 6))) e_int) a_nil))))
      (ss_cons (s_set (i := 8) nd rfl (Or.inl rfl) (e_callB (call_min2 rfl) fMin_s (by rfl) (nb "min" (by decide)) (by decide +kernel) (a_cons (e_ix (e_ix (e_var 2 (pv 2)) (e_var 5 (pv 5))) e_int) (a_cons (e_ix (e_ix (e_var 3 (pv 3)) (e_var 6 (pv 6))) e_int) a_nil))))
      (ss_cons (s_if (t_cmp op_leA cmpG_s (e_var 7 (pv 7)) (e_var 8 (pv 8)) (nomark _)) (ss_one (s_expr (e_methL PySem.F.slot_list_append PySem.F.type_list_append mt_append fAppend_s (e_var 4 (pv 4)) (a_cons (e_tup (a_cons (e_var 7 (pv 7)) (a_cons (e_var 8 (pv 8)) a_nil))) a_nil)))) ss_nil)
      (ss_one (s_if (t_cmp op_ltA cmpG_s (e_ix (e_ix (e_var 2 (pv 2)) (e_var 5 (pv 5))) e_int) (e_ix (e_ix (e_var 3 (pv 3)) (e_var 6 (pv 6))) e_int) (nomark _)) (ss_one (s_aug (i := 5) nd rfl (Or.inl rfl) e_int ip_add oAdd_s)) (ss_one (s_aug (i := 6) nd rfl (Or.inl rfl) e_int ip_add oAdd_s))))))))
      (ss_one (s_ret (e_callTy call_tuple_of fTuple_s (by rfl) (nb "tuple" (by decide)) (by decide +kernel) (a_cons (e_var 4 (pv 4)) a_nil))))))))))
theorem ok_rest {f : Addr} {fd : FuncData} (F : Fun K "rest" "rest" s_rest f fd) (nb : Free mg bn) (c_joined : Cal3 P w K mg base 1 "joined" 1 F_joined) (q_LAST : ∃ t, mg "LAST" = some (.int 1000000000 t)) : FnOk3 P w K mg base 2 f fd ["some"] F_rest := by
  refine fn3 false F sc_rest fun cdv A outer s H E hr => ?_
  have tk : Takes (cxOf (L2.CX P w) P w K mg base n_rest "rest" (defScope s_rest) f cdv A outer s H E) (outW E) := takes_of rfl rfl rfl rfl
  have po : PassesOwn (model P w) (A.deeper (envOfC "rest" (defScope s_rest) s.heap.objs.size f cdv)) (envOfC "rest" (defScope s_rest) s.heap.objs.size f cdv) (cxOf (L2.CX P w) P w K mg base n_rest "rest" (defScope s_rest) f cdv A outer s H E).xe := PassesOwn.leaving
  have nd := (sc_rest).nd
  exact (ss_cons (s_set (i := 1) nd rfl (Or.inl rfl) (e_lstO a_nil))
      (ss_cons (s_set (i := 2) nd rfl (Or.inl rfl) e_int)
      (ss_cons (s_for po rfl (i_seq (e_c3 c_joined hr (by decide) tk (by rfl) (a_cons (e_var 0 (pv 0)) a_nil))) (g_tup rfl (gs_cons (g_name (pg_name (i := 3) nd rfl (Or.inl rfl))) (gs_cons (g_name (pg_name (i := 4) nd rfl (Or.inl rfl))) gs_nil))) (ss_cons (s_if (t_cmp op_ltA cmpG_s (e_var 2 (pv 2)) (e_var 3 (pv 3)) (nomark _)) (ss_one (s_expr (e_methL PySem.F.slot_list_append PySem.F.type_list_append mt_append fAppend_s (e_var 1 (pv 1)) (a_cons (e_tup (a_cons (e_var 2 (pv 2)) (a_cons (e_bin op_sub oSub_s (e_var 3 (pv 3)) e_int) a_nil))) a_nil)))) ss_nil)
      (ss_one (s_set (i := 2) nd rfl (Or.inl rfl) (e_bin op_catAll (oCat_s false) (e_var 4 (pv 4)) e_int)))))
      (ss_cons (s_if (t_cmp op_leA cmpG_s (e_var 2 (pv 2)) (e_globI (by rfl) q_LAST) (nomark _)) (ss_one (s_expr (e_methL PySem.F.slot_list_append PySem.F.type_list_append mt_append fAppend_s (e_var 1 (pv 1)) (a_cons (e_tup (a_cons (e_var 2 (pv 2)) (a_cons (e_globI (by rfl) q_LAST) a_nil))) a_nil)))) ss_nil)
      (ss_one (s_ret (e_callTy call_tuple_of fTuple_s (by rfl) (nb "tuple" (by decide)) (by decide +kernel) (a_cons (e_var 1 (pv 1)) a_nil))))))))
theorem ok_apart {f : Addr} {fd : FuncData} (F : Fun K "apart" "apart" s_apart f fd) (nb : Free mg bn) (c_both : Cal3 P w K mg base 2 "both" 2 F_both) (c_rest : Cal3 P w K mg base 2 "rest" 1 F_rest) : FnOk3 P w K mg base 3 f fd ["some", "others"] F_apart := by
  refine fn3 false F sc_apart fun cdv A outer s H E hr => ?_
  have tk : Takes (cxOf (L2.CX P w) P w K mg base n_apart "apart" (defScope s_apart) f cdv A outer s H E) (outW E) := takes_of rfl rfl rfl rfl
  have po : PassesOwn (model P w) (A.deeper (envOfC "apart" (defScope s_apart) s.heap.objs.size f cdv)) (envOfC "apart" (defScope s_apart) s.heap.objs.size f cdv) (cxOf (L2.CX P w) P w K mg base n_apart "apart" (defScope s_apart) f cdv A outer s H E).xe := PassesOwn.leaving
  have nd := (sc_apart).nd
  exact (ss_one (s_ret (e_c3 c_both hr (by decide) tk (by rfl) (a_cons (e_var 0 (pv 0)) (a_cons (e_c3 c_rest hr (by decide) tk (by rfl) (a_cons (e_var 1 (pv 1)) a_nil)) a_nil)))))
theorem ok_l_over {f : Addr} {fd : FuncData} (F : Fun K "_law_over" "_law_over" s_l_over f fd) (nb : Free mg bn) : FnOk3 P w K mg base 1 f fd ["some", "spot"] F_l_over := by
  refine fn3 false F sc_l_over fun cdv A outer s H E hr => ?_
  have tk : Takes (cxOf (L2.CX P w) P w K mg base n_l_over "_law_over" (defScope s_l_over) f cdv A outer s H E) (outW E) := takes_of rfl rfl rfl rfl
  have po : PassesOwn (model P w) (A.deeper (envOfC "_law_over" (defScope s_l_over) s.heap.objs.size f cdv)) (envOfC "_law_over" (defScope s_l_over) s.heap.objs.size f cdv) (cxOf (L2.CX P w) P w K mg base n_l_over "_law_over" (defScope s_l_over) f cdv A outer s H E).xe := PassesOwn.leaving
  have nd := (sc_l_over).nd
  exact (ss_one (s_ret (e_cmp (op_neD hr.room.units) oNe_s (e_comp false (own := [("one", 2)]) rfl nd (i_seq (e_var 0 (pv 0))) (blkOk_by (own := [("one", 2)]) (N := n_l_over) (sc := defScope s_l_over) (by decide +kernel)) (fun _ _ _ _ _ => (g_name (pg_name (i := 2) nd rfl (by first | exact Or.inl rfl | exact Or.inr rfl)))) (fun _ _ _ _ _ => (ts_one (t_chain op_leA cmpG_s op_leA cmpG_s (e_ix (e_var 2 (pv 2)) e_int) (e_var 1 (pv 1)) (e_ix (e_var 2 (pv 2)) e_int)))) (fun _ _ _ _ _ => (e_var 2 (pv 2))) (by decide)) (e_lst a_nil) (nomark _))))
theorem ok_law {f : Addr} {fd : FuncData} (F : Fun K "law" "law" s_law f fd) (nb : Free mg bn) (c_l_pen : Cal3 P w K mg base 1 "_law_pen" 1 F_l_pen) (c_l_lot : Cal3 P w K mg base 3 "_law_lot" 2 F_l_lot) (c_l_bends : Cal3 P w K mg base 2 "_law_bends" 1 F_l_bends) (c_l_rowed : Cal3 P w K mg base 1 "_law_rowed" 2 F_l_rowed) (c_l_spans : Cal3 P w K mg base 4 "_law_spans" 3 F_l_spans) (c_apart : Cal3 P w K mg base 3 "apart" 2 F_apart) (c_l_draw : Cal3 P w K mg base 2 "_law_draw" 2 F_l_draw) (c_l_over : Cal3 P w K mg base 1 "_law_over" 2 F_l_over) : FnOk3 P w K mg base 5 f fd ["script"] F_law := by
  refine fn3 false F sc_law fun cdv A outer s H E hr => ?_
  have tk : Takes (cxOf (L2.CX P w) P w K mg base n_law "law" (defScope s_law) f cdv A outer s H E) (outW E) := takes_of rfl rfl rfl rfl
  have po : PassesOwn (model P w) (A.deeper (envOfC "law" (defScope s_law) s.heap.objs.size f cdv)) (envOfC "law" (defScope s_law) s.heap.objs.size f cdv) (cxOf (L2.CX P w) P w K mg base n_law "law" (defScope s_law) f cdv A outer s H E).xe := PassesOwn.leaving
  have nd := (sc_law).nd
  exact (ss_cons (s_set (i := 1) nd rfl (Or.inl rfl) (e_c3 c_l_pen hr (by decide) tk (by rfl) (a_cons (e_var 0 (pv 0)) a_nil)))
      (ss_cons (s_for po rfl (i_range1 (by rfl) (nb "range" (by decide)) (a_cons e_int a_nil)) (g_name (pg_name (i := 2) nd rfl (Or.inl rfl))) (ss_cons (s_set (i := 4) nd rfl (Or.inl rfl) (e_c3 c_l_lot hr (by decide) tk (by rfl) (a_cons (e_var 1 (pv 1)) (a_cons (e_bin op_catAll (oCat_s false) e_int (e_c3 c_l_draw hr (by decide) tk (by rfl) (a_cons (e_var 1 (pv 1)) (a_cons e_int a_nil)))) a_nil))))
      (ss_cons (s_asg (e_tup (a_cons (e_c3 c_l_spans hr (by decide) tk (by rfl) (a_cons (e_var 1 (pv 1)) (a_cons (e_var 4 (pv 4)) (a_cons e_int a_nil)))) (a_cons (e_c3 c_l_spans hr (by decide) tk (by rfl) (a_cons (e_var 1 (pv 1)) (a_cons (e_var 4 (pv 4)) (a_cons e_int a_nil)))) a_nil))) (g_tup rfl (gs_cons (g_name (pg_name (i := 9) nd rfl (Or.inr rfl))) (gs_cons (g_name (pg_name (i := 10) nd rfl (Or.inr rfl))) gs_nil))))
      (ss_cons (s_set (i := 5) nd rfl (Or.inl rfl) (e_callB (call_repr3 hr.free hr.room.units) fRepr_s (by rfl) (nb "repr" (by decide)) (by decide +kernel) (a_cons (e_tup (a_cons (e_var 9 (pv 9)) (a_cons (e_var 10 (pv 10)) a_nil))) a_nil)))
      (ss_cons (s_set (i := 6) nd rfl (Or.inl rfl) (e_c3 c_l_bends hr (by decide) tk (by rfl) (a_cons (e_bin op_catAll (oCat_s false) (e_callTy call_list_of fList_s (by rfl) (nb "list" (by decide)) (by decide +kernel) (a_cons (e_var 9 (pv 9)) a_nil)) (e_callTy call_list_of fList_s (by rfl) (nb "list" (by decide)) (by decide +kernel) (a_cons (e_var 10 (pv 10)) a_nil))) a_nil)))
      (ss_cons (s_set (i := 7) nd rfl (Or.inl rfl) (e_c3 c_l_rowed hr (by decide) tk (by rfl) (a_cons (e_var 6 (pv 6)) (a_cons (e_comp false (own := [("low", 11), ("high", 12)]) rfl nd (i_seq (e_var 6 (pv 6))) (blkOk_by (own := [("low", 11), ("high", 12)]) (N := n_law) (sc := defScope s_law) (by decide +kernel)) (fun _ _ _ _ _ => (g_tup rfl (gs_cons (g_name (pg_name (i := 11) nd rfl (by first | exact Or.inl rfl | exact Or.inr rfl))) (gs_cons (g_name (pg_name (i := 12) nd rfl (by first | exact Or.inl rfl | exact Or.inr rfl))) gs_nil)))) (fun _ _ _ _ _ => ts_nil) (fun _ _ _ _ _ => (e_and (e_c3 c_l_over hr (by decide) takes0 (by rfl) (a_cons (e_var 9 (pv 9)) (a_cons (e_var 11 (pv 11)) a_nil))) (e_one (e_not (e_c3 c_l_over hr (by decide) takes0 (by rfl) (a_cons (e_var 10 (pv 10)) (a_cons (e_var 11 (pv 11)) a_nil))))))) (by decide)) a_nil))))
      (ss_one (s_for po rfl (i_range1 (by rfl) (nb "range" (by decide)) (a_cons e_int a_nil)) (g_name (pg_name (i := 8) nd rfl (Or.inl rfl))) (ss_one (s_if (PW3.pt (w_or (t_cmp (op_neD hr.room.units) oNe_s (e_callB (call_repr3 hr.free hr.room.units) fRepr_s (by rfl) (nb "repr" (by decide)) (by decide +kernel) (a_cons (e_c3 c_apart hr (by decide) tk (by rfl) (a_cons (e_var 9 (pv 9)) (a_cons (e_var 10 (pv 10)) a_nil))) a_nil)) (e_callB (call_repr3 hr.free hr.room.units) fRepr_s (by rfl) (nb "repr" (by decide)) (by decide +kernel) (a_cons (e_var 7 (pv 7)) a_nil)) (nomark _)) (w_or1 (t_cmp (op_neD hr.room.units) oNe_s (e_callB (call_repr3 hr.free hr.room.units) fRepr_s (by rfl) (nb "repr" (by decide)) (by decide +kernel) (a_cons (e_tup (a_cons (e_var 9 (pv 9)) (a_cons (e_var 10 (pv 10)) a_nil))) a_nil)) (e_var 5 (pv 5)) (nomark _))))) (ss_one (s_ret e_bl)) ss_nil))))))))))
      (ss_cons (s_set (i := 3) nd rfl (Or.inl rfl) (e_lst (a_cons (e_tup (a_cons e_int (a_cons (e_bin op_pow oPow_s e_int e_int) a_nil))) a_nil)))
      (ss_one (s_ret (e_and (e_cmp (op_eqD hr.room.units) oEq_s (e_c3 c_apart hr (by decide) tk (by rfl) (a_cons (e_var 3 (pv 3)) (a_cons (e_lst (a_cons (e_tup (a_cons e_int (a_cons e_int a_nil))) (a_cons (e_tup (a_cons (e_bin op_pow oPow_s e_int e_int) (a_cons (e_bin op_pow oPow_s e_int e_int) a_nil))) a_nil))) a_nil))) (e_tup (a_cons (e_tup (a_cons e_int (a_cons (e_bin op_sub oSub_s (e_bin op_pow oPow_s e_int e_int) e_int) a_nil))) a_nil)) (nomark _)) (e_one (e_cmp (op_eqD hr.room.units) oEq_s (e_c3 c_apart hr (by decide) tk (by rfl) (a_cons (e_var 3 (pv 3)) (a_cons (e_var 3 (pv 3)) a_nil))) (e_tup a_nil) (nomark _)))))))))
end
theorem all_mk {l : PySem.W.OpenLaw} {w : World} {K : PySem.W.Frag} {h : Heap} {mg : Str → Option Value} {fa : Addr} (X : K.In h) (G : h.Ns mainGlobals mg) (hfa : mg "law" = some (.ref fa))
    {oc_0 kV_0 dc_0 pm_0 cd_0 ct_0 : Value} {od_0 an_0 : Option Addr} {sl_0 : Array (Option Value)} {f_0 : Addr}
    (a_0 : PySem.W.nsIn K mainGlobals "_law_pen" = some (some (.ref f_0))) (l_0 : K.lookup f_0 = some ⟨oc_0, od_0, .func (PySem.W.fnOf "_law_pen" "_law_pen" (defArgs s_l_pen) (defBody s_l_pen) (defScope s_l_pen) .none kV_0 dc_0 pm_0 an_0 cd_0 ct_0), sl_0⟩) (e_0 : PySem.W.codeIn K cd_0 "_law_pen" = true) (k_0 : PySem.W.keepIn K (.ref f_0) = true)
    {oc_1 kV_1 dc_1 pm_1 cd_1 ct_1 : Value} {od_1 an_1 : Option Addr} {sl_1 : Array (Option Value)} {f_1 : Addr}
    (a_1 : PySem.W.nsIn K mainGlobals "_law_fresh" = some (some (.ref f_1))) (l_1 : K.lookup f_1 = some ⟨oc_1, od_1, .func (PySem.W.fnOf "_law_fresh" "_law_fresh" (defArgs s_l_fresh) (defBody s_l_fresh) (defScope s_l_fresh) .none kV_1 dc_1 pm_1 an_1 cd_1 ct_1), sl_1⟩) (e_1 : PySem.W.codeIn K cd_1 "_law_fresh" = true) (k_1 : PySem.W.keepIn K (.ref f_1) = true)
    {oc_2 kV_2 dc_2 pm_2 cd_2 ct_2 : Value} {od_2 an_2 : Option Addr} {sl_2 : Array (Option Value)} {f_2 : Addr}
    (a_2 : PySem.W.nsIn K mainGlobals "_law_draw" = some (some (.ref f_2))) (l_2 : K.lookup f_2 = some ⟨oc_2, od_2, .func (PySem.W.fnOf "_law_draw" "_law_draw" (defArgs s_l_draw) (defBody s_l_draw) (defScope s_l_draw) .none kV_2 dc_2 pm_2 an_2 cd_2 ct_2), sl_2⟩) (e_2 : PySem.W.codeIn K cd_2 "_law_draw" = true) (k_2 : PySem.W.keepIn K (.ref f_2) = true)
    {oc_3 kV_3 dc_3 pm_3 cd_3 ct_3 : Value} {od_3 an_3 : Option Addr} {sl_3 : Array (Option Value)} {f_3 : Addr}
    (a_3 : PySem.W.nsIn K mainGlobals "_law_lot" = some (some (.ref f_3))) (l_3 : K.lookup f_3 = some ⟨oc_3, od_3, .func (PySem.W.fnOf "_law_lot" "_law_lot" (defArgs s_l_lot) (defBody s_l_lot) (defScope s_l_lot) .none kV_3 dc_3 pm_3 an_3 cd_3 ct_3), sl_3⟩) (e_3 : PySem.W.codeIn K cd_3 "_law_lot" = true) (k_3 : PySem.W.keepIn K (.ref f_3) = true)
    {oc_4 kV_4 dc_4 pm_4 cd_4 ct_4 : Value} {od_4 an_4 : Option Addr} {sl_4 : Array (Option Value)} {f_4 : Addr}
    (a_4 : PySem.W.nsIn K mainGlobals "_law_spots" = some (some (.ref f_4))) (l_4 : K.lookup f_4 = some ⟨oc_4, od_4, .func (PySem.W.fnOf "_law_spots" "_law_spots" (defArgs s_l_spots) (defBody s_l_spots) (defScope s_l_spots) .none kV_4 dc_4 pm_4 an_4 cd_4 ct_4), sl_4⟩) (e_4 : PySem.W.codeIn K cd_4 "_law_spots" = true) (k_4 : PySem.W.keepIn K (.ref f_4) = true)
    {oc_5 kV_5 dc_5 pm_5 cd_5 ct_5 : Value} {od_5 an_5 : Option Addr} {sl_5 : Array (Option Value)} {f_5 : Addr}
    (a_5 : PySem.W.nsIn K mainGlobals "_law_bends" = some (some (.ref f_5))) (l_5 : K.lookup f_5 = some ⟨oc_5, od_5, .func (PySem.W.fnOf "_law_bends" "_law_bends" (defArgs s_l_bends) (defBody s_l_bends) (defScope s_l_bends) .none kV_5 dc_5 pm_5 an_5 cd_5 ct_5), sl_5⟩) (e_5 : PySem.W.codeIn K cd_5 "_law_bends" = true) (k_5 : PySem.W.keepIn K (.ref f_5) = true)
    {oc_6 kV_6 dc_6 pm_6 cd_6 ct_6 : Value} {od_6 an_6 : Option Addr} {sl_6 : Array (Option Value)} {f_6 : Addr}
    (a_6 : PySem.W.nsIn K mainGlobals "_law_rowed" = some (some (.ref f_6))) (l_6 : K.lookup f_6 = some ⟨oc_6, od_6, .func (PySem.W.fnOf "_law_rowed" "_law_rowed" (defArgs s_l_rowed) (defBody s_l_rowed) (defScope s_l_rowed) .none kV_6 dc_6 pm_6 an_6 cd_6 ct_6), sl_6⟩) (e_6 : PySem.W.codeIn K cd_6 "_law_rowed" = true) (k_6 : PySem.W.keepIn K (.ref f_6) = true)
    {oc_7 kV_7 dc_7 pm_7 cd_7 ct_7 : Value} {od_7 an_7 : Option Addr} {sl_7 : Array (Option Value)} {f_7 : Addr}
    (a_7 : PySem.W.nsIn K mainGlobals "_law_stretch" = some (some (.ref f_7))) (l_7 : K.lookup f_7 = some ⟨oc_7, od_7, .func (PySem.W.fnOf "_law_stretch" "_law_stretch" (defArgs s_l_stretch) (defBody s_l_stretch) (defScope s_l_stretch) .none kV_7 dc_7 pm_7 an_7 cd_7 ct_7), sl_7⟩) (e_7 : PySem.W.codeIn K cd_7 "_law_stretch" = true) (k_7 : PySem.W.keepIn K (.ref f_7) = true)
    {oc_8 kV_8 dc_8 pm_8 cd_8 ct_8 : Value} {od_8 an_8 : Option Addr} {sl_8 : Array (Option Value)} {f_8 : Addr}
    (a_8 : PySem.W.nsIn K mainGlobals "_law_spans" = some (some (.ref f_8))) (l_8 : K.lookup f_8 = some ⟨oc_8, od_8, .func (PySem.W.fnOf "_law_spans" "_law_spans" (defArgs s_l_spans) (defBody s_l_spans) (defScope s_l_spans) .none kV_8 dc_8 pm_8 an_8 cd_8 ct_8), sl_8⟩) (e_8 : PySem.W.codeIn K cd_8 "_law_spans" = true) (k_8 : PySem.W.keepIn K (.ref f_8) = true)
    {oc_9 kV_9 dc_9 pm_9 cd_9 ct_9 : Value} {od_9 an_9 : Option Addr} {sl_9 : Array (Option Value)} {f_9 : Addr}
    (a_9 : PySem.W.nsIn K mainGlobals "joined" = some (some (.ref f_9))) (l_9 : K.lookup f_9 = some ⟨oc_9, od_9, .func (PySem.W.fnOf "joined" "joined" (defArgs s_joined) (defBody s_joined) (defScope s_joined) .none kV_9 dc_9 pm_9 an_9 cd_9 ct_9), sl_9⟩) (e_9 : PySem.W.codeIn K cd_9 "joined" = true) (k_9 : PySem.W.keepIn K (.ref f_9) = true)
    {oc_10 kV_10 dc_10 pm_10 cd_10 ct_10 : Value} {od_10 an_10 : Option Addr} {sl_10 : Array (Option Value)} {f_10 : Addr}
    (a_10 : PySem.W.nsIn K mainGlobals "both" = some (some (.ref f_10))) (l_10 : K.lookup f_10 = some ⟨oc_10, od_10, .func (PySem.W.fnOf "both" "both" (defArgs s_both) (defBody s_both) (defScope s_both) .none kV_10 dc_10 pm_10 an_10 cd_10 ct_10), sl_10⟩) (e_10 : PySem.W.codeIn K cd_10 "both" = true) (k_10 : PySem.W.keepIn K (.ref f_10) = true)
    {oc_11 kV_11 dc_11 pm_11 cd_11 ct_11 : Value} {od_11 an_11 : Option Addr} {sl_11 : Array (Option Value)} {f_11 : Addr}
    (a_11 : PySem.W.nsIn K mainGlobals "rest" = some (some (.ref f_11))) (l_11 : K.lookup f_11 = some ⟨oc_11, od_11, .func (PySem.W.fnOf "rest" "rest" (defArgs s_rest) (defBody s_rest) (defScope s_rest) .none kV_11 dc_11 pm_11 an_11 cd_11 ct_11), sl_11⟩) (e_11 : PySem.W.codeIn K cd_11 "rest" = true) (k_11 : PySem.W.keepIn K (.ref f_11) = true)
    {oc_12 kV_12 dc_12 pm_12 cd_12 ct_12 : Value} {od_12 an_12 : Option Addr} {sl_12 : Array (Option Value)} {f_12 : Addr}
    (a_12 : PySem.W.nsIn K mainGlobals "apart" = some (some (.ref f_12))) (l_12 : K.lookup f_12 = some ⟨oc_12, od_12, .func (PySem.W.fnOf "apart" "apart" (defArgs s_apart) (defBody s_apart) (defScope s_apart) .none kV_12 dc_12 pm_12 an_12 cd_12 ct_12), sl_12⟩) (e_12 : PySem.W.codeIn K cd_12 "apart" = true) (k_12 : PySem.W.keepIn K (.ref f_12) = true)
    {oc_13 kV_13 dc_13 pm_13 cd_13 ct_13 : Value} {od_13 an_13 : Option Addr} {sl_13 : Array (Option Value)} {f_13 : Addr}
    (a_13 : PySem.W.nsIn K mainGlobals "_law_over" = some (some (.ref f_13))) (l_13 : K.lookup f_13 = some ⟨oc_13, od_13, .func (PySem.W.fnOf "_law_over" "_law_over" (defArgs s_l_over) (defBody s_l_over) (defScope s_l_over) .none kV_13 dc_13 pm_13 an_13 cd_13 ct_13), sl_13⟩) (e_13 : PySem.W.codeIn K cd_13 "_law_over" = true) (k_13 : PySem.W.keepIn K (.ref f_13) = true)
    {oc_14 kV_14 dc_14 pm_14 cd_14 ct_14 : Value} {od_14 an_14 : Option Addr} {sl_14 : Array (Option Value)} {f_14 : Addr}
    (a_14 : PySem.W.nsIn K mainGlobals "law" = some (some (.ref f_14))) (l_14 : K.lookup f_14 = some ⟨oc_14, od_14, .func (PySem.W.fnOf "law" "law" (defArgs s_law) (defBody s_law) (defScope s_law) .none kV_14 dc_14 pm_14 an_14 cd_14 ct_14), sl_14⟩) (e_14 : PySem.W.codeIn K cd_14 "law" = true) (k_14 : PySem.W.keepIn K (.ref f_14) = true)
    (z_0 : PySem.W.nsIn K mainGlobals "list" = some none)
    (z_1 : PySem.W.nsIn K mainGlobals "len" = some none)
    (z_2 : PySem.W.nsIn K mainGlobals "range" = some none)
    (z_3 : PySem.W.nsIn K mainGlobals "sorted" = some none)
    (z_4 : PySem.W.nsIn K mainGlobals "set" = some none)
    (z_5 : PySem.W.nsIn K mainGlobals "zip" = some none)
    (z_6 : PySem.W.nsIn K mainGlobals "tuple" = some none)
    (z_7 : PySem.W.nsIn K mainGlobals "max" = some none)
    (z_8 : PySem.W.nsIn K mainGlobals "min" = some none)
    (z_9 : PySem.W.nsIn K mainGlobals "repr" = some none)
    {t_0 : Tok} (y_0 : PySem.W.nsIn K mainGlobals "LAST" = some (some (.int 1000000000 t_0))) :
    ∃ fd : FuncData, (∀ (s : Shared) (v : Value), BindsTo s fd ⟨[v], []⟩ [("script", v)]) ∧ ∀ base : Heap, K.In base → base.Ns mainGlobals mg → FnOk3 l.prog w K mg base 5 fa fd ["script"] F_law := by
  have e := hfa.symm.trans (PySem.W.mg_of X G a_14)
  cases e
  have F_0 := fun_mk (st := s_l_pen) l_0 e_0 k_0
  have F_1 := fun_mk (st := s_l_fresh) l_1 e_1 k_1
  have F_2 := fun_mk (st := s_l_draw) l_2 e_2 k_2
  have F_3 := fun_mk (st := s_l_lot) l_3 e_3 k_3
  have F_4 := fun_mk (st := s_l_spots) l_4 e_4 k_4
  have F_5 := fun_mk (st := s_l_bends) l_5 e_5 k_5
  have F_6 := fun_mk (st := s_l_rowed) l_6 e_6 k_6
  have F_7 := fun_mk (st := s_l_stretch) l_7 e_7 k_7
  have F_8 := fun_mk (st := s_l_spans) l_8 e_8 k_8
  have F_9 := fun_mk (st := s_joined) l_9 e_9 k_9
  have F_10 := fun_mk (st := s_both) l_10 e_10 k_10
  have F_11 := fun_mk (st := s_rest) l_11 e_11 k_11
  have F_12 := fun_mk (st := s_apart) l_12 e_12 k_12
  have F_13 := fun_mk (st := s_l_over) l_13 e_13 k_13
  have F_14 := fun_mk (st := s_law) l_14 e_14 k_14
  have nb : Free mg bn := by
    intro x hx
    simp only [bn, List.mem_cons, List.not_mem_nil, or_false] at hx
    rcases hx with rfl | rfl | rfl | rfl | rfl | rfl | rfl | rfl | rfl | rfl
    · exact PySem.W.mg_none_of X G z_0
    · exact PySem.W.mg_none_of X G z_1
    · exact PySem.W.mg_none_of X G z_2
    · exact PySem.W.mg_none_of X G z_3
    · exact PySem.W.mg_none_of X G z_4
    · exact PySem.W.mg_none_of X G z_5
    · exact PySem.W.mg_none_of X G z_6
    · exact PySem.W.mg_none_of X G z_7
    · exact PySem.W.mg_none_of X G z_8
    · exact PySem.W.mg_none_of X G z_9
  have q_LAST : ∃ t, mg "LAST" = some (.int 1000000000 t) := ⟨t_0, PySem.W.mg_of X G y_0⟩
  refine ⟨PySem.W.fnOf "law" "law" (defArgs s_law) (defBody s_law) (defScope s_law) .none kV_14 dc_14 pm_14 an_14 cd_14 ct_14, fun s v => .of_eq rfl, fun base _ _ => ?_⟩
  have c_l_pen : Cal3 l.prog w K mg base 1 "_law_pen" 1 F_l_pen := ⟨f_0, _, _, PySem.W.mg_of X G a_0, k_0, F_0.binds (ps := ["script"]) (fun _ _ _ _ _ _ us hl => match us, hl with | [_], _ => rfl), rfl, ok_l_pen F_0 nb⟩
  have c_l_fresh : Cal3 l.prog w K mg base 1 "_law_fresh" 1 F_l_fresh := ⟨f_1, _, _, PySem.W.mg_of X G a_1, k_1, F_1.binds (ps := ["pen"]) (fun _ _ _ _ _ _ us hl => match us, hl with | [_], _ => rfl), rfl, ok_l_fresh F_1 nb⟩
  have c_l_draw : Cal3 l.prog w K mg base 2 "_law_draw" 2 F_l_draw := ⟨f_2, _, _, PySem.W.mg_of X G a_2, k_2, F_2.binds (ps := ["pen", "often"]) (fun _ _ _ _ _ _ us hl => match us, hl with | [_, _], _ => rfl), rfl, ok_l_draw F_2 nb c_l_fresh⟩
  have c_l_lot : Cal3 l.prog w K mg base 3 "_law_lot" 2 F_l_lot := ⟨f_3, _, _, PySem.W.mg_of X G a_3, k_3, F_3.binds (ps := ["pen", "size"]) (fun _ _ _ _ _ _ us hl => match us, hl with | [_, _], _ => rfl), rfl, ok_l_lot F_3 nb c_l_draw⟩
  have c_l_spots : Cal3 l.prog w K mg base 1 "_law_spots" 1 F_l_spots := ⟨f_4, _, _, PySem.W.mg_of X G a_4, k_4, F_4.binds (ps := ["stretches"]) (fun _ _ _ _ _ _ us hl => match us, hl with | [_], _ => rfl), rfl, ok_l_spots F_4 nb⟩
  have c_l_bends : Cal3 l.prog w K mg base 2 "_law_bends" 1 F_l_bends := ⟨f_5, _, _, PySem.W.mg_of X G a_5, k_5, F_5.binds (ps := ["stretches"]) (fun _ _ _ _ _ _ us hl => match us, hl with | [_], _ => rfl), rfl, ok_l_bends F_5 nb c_l_spots⟩
  have c_l_rowed : Cal3 l.prog w K mg base 1 "_law_rowed" 2 F_l_rowed := ⟨f_6, _, _, PySem.W.mg_of X G a_6, k_6, F_6.binds (ps := ["bends", "fits"]) (fun _ _ _ _ _ _ us hl => match us, hl with | [_, _], _ => rfl), rfl, ok_l_rowed F_6 nb⟩
  have c_l_stretch : Cal3 l.prog w K mg base 3 "_law_stretch" 2 F_l_stretch := ⟨f_7, _, _, PySem.W.mg_of X G a_7, k_7, F_7.binds (ps := ["pen", "lot"]) (fun _ _ _ _ _ _ us hl => match us, hl with | [_, _], _ => rfl), rfl, ok_l_stretch F_7 nb c_l_draw⟩
  have c_l_spans : Cal3 l.prog w K mg base 4 "_law_spans" 3 F_l_spans := ⟨f_8, _, _, PySem.W.mg_of X G a_8, k_8, F_8.binds (ps := ["pen", "lot", "most"]) (fun _ _ _ _ _ _ us hl => match us, hl with | [_, _, _], _ => rfl), rfl, ok_l_spans F_8 nb c_l_stretch c_l_draw⟩
  have c_joined : Cal3 l.prog w K mg base 1 "joined" 1 F_joined := ⟨f_9, _, _, PySem.W.mg_of X G a_9, k_9, F_9.binds (ps := ["some"]) (fun _ _ _ _ _ _ us hl => match us, hl with | [_], _ => rfl), rfl, ok_joined F_9 nb⟩
  have c_both : Cal3 l.prog w K mg base 2 "both" 2 F_both := ⟨f_10, _, _, PySem.W.mg_of X G a_10, k_10, F_10.binds (ps := ["some", "others"]) (fun _ _ _ _ _ _ us hl => match us, hl with | [_, _], _ => rfl), rfl, ok_both F_10 nb c_joined⟩
  have c_rest : Cal3 l.prog w K mg base 2 "rest" 1 F_rest := ⟨f_11, _, _, PySem.W.mg_of X G a_11, k_11, F_11.binds (ps := ["some"]) (fun _ _ _ _ _ _ us hl => match us, hl with | [_], _ => rfl), rfl, ok_rest F_11 nb c_joined q_LAST⟩
  have c_apart : Cal3 l.prog w K mg base 3 "apart" 2 F_apart := ⟨f_12, _, _, PySem.W.mg_of X G a_12, k_12, F_12.binds (ps := ["some", "others"]) (fun _ _ _ _ _ _ us hl => match us, hl with | [_, _], _ => rfl), rfl, ok_apart F_12 nb c_both c_rest⟩
  have c_l_over : Cal3 l.prog w K mg base 1 "_law_over" 2 F_l_over := ⟨f_13, _, _, PySem.W.mg_of X G a_13, k_13, F_13.binds (ps := ["some", "spot"]) (fun _ _ _ _ _ _ us hl => match us, hl with | [_, _], _ => rfl), rfl, ok_l_over F_13 nb⟩
  exact ok_law F_14 nb c_l_pen c_l_lot c_l_bends c_l_rowed c_l_spans c_apart c_l_draw c_l_over
end Lw
end

section
set_option linter.all false
set_option maxRecDepth 100000
set_option maxHeartbeats 4000000
namespace Lw
open PySem DL

/-! ### outcomes -/
theorem fin_same {S S' : Sto} {d : D} (h : S'.length = S.length) : fin S d S' = .ok d S' := by
  unfold fin
  rw [if_pos h]
@[simp] theorem fin_cons {o o' : Ob} {S : Sto} {d : D} : fin (o :: S) d (o' :: S) = .ok d (o' :: S) := fin_same (by simp)
@[simp] theorem fin_self {S : Sto} {d : D} : fin S d S = .ok d S := fin_same rfl
noncomputable def dEnd (S : Sto) (keep : Bool) (r : Rt) : Rs D := match r with
  | .go (.ret d) _ S' => if keep then .ok d S' else fin S d S'
  | .go .next _ S' => if keep then .ok .non S' else fin S .non S'
  | .exc C p _ S' => if keep then .exc C p S' else finX S C p S'
  | _ => .bad
theorem defF_ev (keep : Bool) (extra : Nat) (m : S3) (ds : List D) (S : Sto) : defF keep extra m ds S = dEnd S keep (m (ds.map some ++ List.replicate extra none) S) := rfl
@[simp] theorem dEnd_ret (S : Sto) (d : D) (σ : DL.Loc) (S' : Sto) : dEnd S false (.go (.ret d) σ S') = fin S d S' := rfl
@[simp] theorem dEnd_keep (S : Sto) (d : D) (σ : DL.Loc) (S' : Sto) : dEnd S true (.go (.ret d) σ S') = .ok d S' := rfl
@[simp] theorem ix30 : L2.ixN 3 0 = some 0 := rfl
@[simp] theorem ix31 : L2.ixN 3 1 = some 1 := rfl
@[simp] theorem ix32 : L2.ixN 3 2 = some 2 := rfl

/-! ### the pen -/
structure Pen where
  cells : List Int
  nth : Nat
  left : Int
def penD (p : Pen) : List D := [.lst (p.cells.map D.int), .int p.nth, .int p.left]
abbrev penO (p : Pen) : Ob := .lst (penD p)

theorem pow_small {a : Int} (h0 : 0 ≤ a) (h : a < 2 ^ 64) : a.natAbs < 2 ^ 64 := by omega
theorem mul_in {a b A B : Int} (h0 : 0 ≤ a) (h1 : a ≤ A) (k0 : 0 ≤ b) (k1 : b ≤ B) : 0 ≤ a * b ∧ a * b ≤ A * B :=
  ⟨Int.mul_nonneg h0 k0, Int.mul_le_mul h1 k1 k0 (Int.le_trans h0 h1)⟩

noncomputable def fr_tail : S3 :=
  (mSeq (mAsg (mBin oMod (mBin oPow (mBin (oCat false) (mBin (oCat false) (mBin oMulA (mBin oMod (mVar 2) (mC (.int 1000000009))) (mBin (oCat false) (mVar 1) (mC (.int 3)))) (mBin oMulA (mC (.int 99991)) (mVar 1))) (mC (.int 23))) (mC (.int 3))) (mC (.int 2147483587))) (g3Name 3))
    (mSeq (mAsg (mBin oMod (mBin oPow (mBin (oCat false) (mBin (oCat false) (mBin oMulA (mVar 3) (mBin (oCat false) (mVar 1) (mC (.int 7)))) (mBin oMod (mVar 2) (mC (.int 65521)))) (mC (.int 2))) (mC (.int 5))) (mC (.int 2147483563))) (g3Name 4))
    (mSeq (mAsg (mBin oMod (mBin (oCat false) (mBin (oCat false) (mBin oMulA (mVar 4) (mVar 4)) (mVar 3)) (mBin oMulA (mC (.int 5)) (mVar 1))) (mC (.int 2147483549))) (g3Name 5))
    (mRet (mBin (oCat false) (mBin oMulA (mBin (oCat false) (mBin oMulA (mVar 5) (mC (.int 2147483587))) (mVar 4)) (mC (.int 2147483563))) (mVar 3))))))
noncomputable def fr_test : S3 :=
  (mIfS (tAnd3 (fun σ S => asB (mBin oLtA (mVar 1) (mMake fLen (mCons (mBin oIx (mVar 0) (mC (.int 0))) mNil)) σ S)) (fun σ S => asB (mBin oGeA (mVar 2) (mBin oPow (mC (.int 10)) (mC (.int 18))) σ S))) (mRet (mVar 2)) mNext)
noncomputable def fr_cell : S3 :=
  (mIfS (fun σ S => asB (mBin oGtA (mMake fLen (mCons (mBin oIx (mVar 0) (mC (.int 0))) mNil)) (mC (.int 0)) σ S)) (mAsg (mBin oIx (mBin oIx (mVar 0) (mC (.int 0))) (mBin oMod (mVar 1) (mMake fLen (mCons (mBin oIx (mVar 0) (mC (.int 0))) mNil)))) (g3Name 2)) mNext)
theorem m_fresh_eq : m_l_fresh = mSeq (mAsg (mBin oIx (mVar 0) (mC (.int 1))) (g3Name 1))
    (mSeq (mSetIx (mVar 0) (mC (.int 1)) (mBin (oCat false) (mVar 1) (mC (.int 1))))
    (mSeq (mAsg (mBin (oCat false) (mBin oMulA (mC (.int 29)) (mVar 1)) (mC (.int 13))) (g3Name 2)) (mSeq fr_cell (mSeq fr_test fr_tail)))) := rfl
theorem one_in (n : Nat) (hn : n < 2 ^ 31) (c : Int) : (c % 1000000009).natAbs < 2 ^ 64 ∧ (c % 1000000009 * ((n : Int) + 3) + 99991 * (n : Int) + 23).natAbs < 2 ^ 64 := by
  have a1 := Int.emod_nonneg c (b := 1000000009) (by decide)
  have a2 := Int.emod_lt_of_pos c (b := 1000000009) (by decide)
  have hm := mul_in (A := 1000000009) (B := 2147483651) (b := (n : Int) + 3) a1 (by omega) (by omega) (by omega)
  generalize c % 1000000009 * ((n : Int) + 3) = m at *
  constructor <;> omega
theorem two_in (n : Nat) (hn : n < 2 ^ 31) (c one : Int) (b1 : 0 ≤ one) (b2 : one < 2147483587) : one.natAbs < 2 ^ 64 ∧ (one * ((n : Int) + 7) + c % 65521 + 2).natAbs < 2 ^ 64 := by
  have hm2 := mul_in (A := 2147483587) (B := 2147483655) (b := (n : Int) + 7) b1 (by omega) (by omega) (by omega)
  have d1 := Int.emod_nonneg c (b := 65521) (by decide)
  have d2 := Int.emod_lt_of_pos c (b := 65521) (by decide)
  generalize one * ((n : Int) + 7) = m at *
  generalize c % 65521 = m2 at *
  constructor <;> omega
theorem lim_in (a m : Int) (hm : 0 < m) (hm2 : m < 2 ^ 32) : 0 ≤ a % m ∧ a % m < m := ⟨Int.emod_nonneg a (by omega), Int.emod_lt_of_pos a hm⟩
theorem tail_ok (n : Nat) (hn : n < 2 ^ 31) (c : Int) (S : Sto) : ∃ v σ, fr_tail [some (.ref 0), some (.int n), some (.int c), none, none, none] S = .go (.ret (.int v)) σ S := by
    obtain ⟨h1, h2⟩ := one_in n hn c
    obtain ⟨b1, b2⟩ := lim_in ((c % 1000000009 * ((n : Int) + 3) + 99991 * (n : Int) + 23) ^ 3) 2147483587 (by decide) (by decide)
    generalize h4 : (c % 1000000009 * ((n : Int) + 3) + 99991 * (n : Int) + 23) ^ 3 % 2147483587 = one at *
    obtain ⟨h5, h6⟩ := two_in n hn c one b1 b2
    obtain ⟨c1, c2⟩ := lim_in ((one * ((n : Int) + 7) + c % 65521 + 2) ^ 5) 2147483563 (by decide) (by decide)
    generalize h7 : (one * ((n : Int) + 7) + c % 65521 + 2) ^ 5 % 2147483563 = two at *
    have h8 : two.natAbs < 2 ^ 64 := by omega
    unfold fr_tail
    simp -implicitDefEqProofs [oMul_l, oMul_r, oMod_ev, oPow_ev, h1, h2, h4, h5, h6, h7, h8]
theorem cell_ok (p : Pen) (n : Nat) (c : Int) (S : Sto) : ∃ c', fr_cell [some (.ref 0), some (.int n), some (.int c), none, none, none] (penO p :: S) = .go .next [some (.ref 0), some (.int n), some (.int c'), none, none, none] (penO p :: S) := by
  unfold fr_cell
  by_cases hc : p.cells.length = 0
  · exact ⟨c, by simp [penD, hc]⟩
  · have hp : 0 < p.cells.length := Nat.pos_of_ne_zero hc
    have lt := Nat.mod_lt n hp
    have e1 : ((n : Int) % (p.cells.length : Int)) = ((n % p.cells.length : Nat) : Int) := by omega
    have e2 : L2.atI (List.map D.int p.cells) ((n : Int) % (p.cells.length : Int)) = some (.int (p.cells[n % p.cells.length])) := by
      rw [e1, L2.atI_nat (v := .int (p.cells[n % p.cells.length]))]
      simp
    exact ⟨p.cells[n % p.cells.length], by simp [penD, hp, e2, oMod_ev]⟩
theorem big18 : (10 : Int) ^ 18 = 1000000000000000000 := by decide
theorem test_ok (p : Pen) (n : Nat) (c : Int) (S : Sto) : fr_test [some (.ref 0), some (.int n), some (.int c), none, none, none] (penO p :: S) = .go .next [some (.ref 0), some (.int n), some (.int c), none, none, none] (penO p :: S) ∨
    fr_test [some (.ref 0), some (.int n), some (.int c), none, none, none] (penO p :: S) = .go (.ret (.int c)) [some (.ref 0), some (.int n), some (.int c), none, none, none] (penO p :: S) := by
  unfold fr_test
  by_cases h1 : n < p.cells.length
  · by_cases h2 : (1000000000000000000 : Int) ≤ c
    · right
      simp [penD, h1, oPow_ev, h2, big18]
    · left
      simp [penD, h1, oPow_ev, h2, big18]
  · left
    simp [penD, h1]
theorem fresh_ok (p : Pen) (S : Sto) (hn : p.nth < 2 ^ 31) : ∃ v, F_l_fresh [.ref 0] (penO p :: S) = .ok (.int v) (penO { p with nth := p.nth + 1 } :: S) := by
  obtain ⟨c, hc⟩ := cell_ok { p with nth := p.nth + 1 } p.nth (29 * p.nth + 13) S
  obtain ⟨v, σ, ht⟩ := tail_ok p.nth hn c (penO { p with nth := p.nth + 1 } :: S)
  unfold F_l_fresh
  rw [defF_ev, m_fresh_eq]
  rcases test_ok { p with nth := p.nth + 1 } p.nth c S with h | h
  · refine ⟨v, ?_⟩
    simp [penO, penD, oMul_l] at hc ht h ⊢
    simp [hc, ht, h]
  · refine ⟨c, ?_⟩
    simp [penO, penD, oMul_l] at hc ht h ⊢
    simp [hc, h]

theorem draw_ok (b : Nat) (p : Pen) (S : Sto) (n : Int) (hb : b < 2 ^ 31) (hp : p.nth ≤ b) (n0 : 0 < n) (n1 : n < 1073741824) :
    ∃ d p', F_l_draw [.ref 0, .int n] (penO p :: S) = .ok (.int d) (penO p' :: S) ∧ 0 ≤ d ∧ d < n ∧ p'.nth ≤ b + 1 := by
  have fin2 : ∀ q : Pen, q.nth ≤ b + 1 → ∃ d p', dEnd (penO p :: S) false (mSeq (mAsg (mBin oMod (mBin oIx (mVar 0) (mC (.int 2))) (mVar 1)) (g3Name 2))
    (mSeq (mSetIx (mVar 0) (mC (.int 2)) (mBin oDiv (mBin oIx (mVar 0) (mC (.int 2))) (mVar 1)))
    (mRet (mVar 2))) [some (.ref 0), some (.int n), none] (penO q :: S)) = .ok (.int d) (penO p' :: S) ∧ 0 ≤ d ∧ d < n ∧ p'.nth ≤ b + 1 := by
    intro q hq
    refine ⟨q.left % n, { q with left := q.left / n }, ?_, Int.emod_nonneg _ (by omega), Int.emod_lt_of_pos _ n0, hq⟩
    simp [penO, penD, oMod_ev, oDiv_ev, n0, n1]
  unfold F_l_draw
  rw [defF_ev]
  unfold m_l_draw
  by_cases hl : p.left < n
  · obtain ⟨v, hv⟩ := fresh_ok p S (by omega)
    obtain ⟨d, p', h1, h2⟩ := fin2 { p with nth := p.nth + 1, left := v } (by simp; omega)
    refine ⟨d, p', ?_, h2⟩
    rw [← h1]
    simp [penO, penD] at hv ⊢
    simp [hl, hv]
  · obtain ⟨d, p', h1, h2⟩ := fin2 p (by omega)
    refine ⟨d, p', ?_, h2⟩
    rw [← h1]
    simp [penO, penD, hl]

/-! ### a lot of places -/
theorem jump_ok (d : Int) (h0 : 0 ≤ d) (h1 : d < 6) : ∃ g, L2.atI [D.int 0, D.int 0, D.int 1, D.int 2, D.int 50, D.int 10000000] d = some (.int g) ∧ 0 ≤ g ∧ g ≤ 10000000 := by
  have : d = 0 ∨ d = 1 ∨ d = 2 ∨ d = 3 ∨ d = 4 ∨ d = 5 := by omega
  rcases this with rfl | rfl | rfl | rfl | rfl | rfl
  · exact ⟨0, L2.atI_nat (j := 0) rfl, by decide, by decide⟩
  · exact ⟨0, L2.atI_nat (j := 1) rfl, by decide, by decide⟩
  · exact ⟨1, L2.atI_nat (j := 2) rfl, by decide, by decide⟩
  · exact ⟨2, L2.atI_nat (j := 3) rfl, by decide, by decide⟩
  · exact ⟨50, L2.atI_nat (j := 4) rfl, by decide, by decide⟩
  · exact ⟨10000000, L2.atI_nat (j := 5) rfl, by decide, by decide⟩
noncomputable def lot_body : S3 := (mSeq (mExpr (mMethL fAppend (mVar 2) (mCons (mVar 3) mNil)))
    (mAsg (mBin (oCat false) (mBin (oCat false) (mVar 3) (mC (.int 1))) (mBin oIx (mMake mkLst (mCons (mC (.int 0)) (mCons (mC (.int 0)) (mCons (mC (.int 1)) (mCons (mC (.int 2)) (mCons (mC (.int 50)) (mCons (mBin oPow (mC (.int 10)) (mC (.int 7))) mNil))))))) (mMake (withLen 2 F_l_draw) (mCons (mVar 0) (mCons (mC (.int 6)) mNil))))) (g3Name 3)))
abbrev lotO (xs : List Int) : Ob := .lst (xs.map D.int)
theorem isListIn_1 (o : Ob) (xs : List D) : isListIn [o, .lst xs] (.ref 1) = true := rfl
theorem lot_turn (b : Nat) (p : Pen) (sz x at_ : Int) (o : Option D) (xs : List Int) (hb : b < 2 ^ 31) (hp : p.nth ≤ b) (hl : xs.length < 1000) :
    ∃ p' g, lot_body [some (.ref 0), some (.int sz), some (.ref 1), some (.int at_), o] [penO p, lotO xs] = .go .next [some (.ref 0), some (.int sz), some (.ref 1), some (.int (at_ + 1 + g)), o] [penO p', lotO (xs ++ [at_])] ∧ p'.nth ≤ b + 1 ∧ 0 ≤ g ∧ g ≤ 10000000 := by
  obtain ⟨d, p', e, d0, d1, hp'⟩ := draw_ok b p [lotO (xs ++ [at_])] 6 hb hp (by decide) (by decide)
  obtain ⟨g, eg, g0, g1⟩ := jump_ok d d0 d1
  refine ⟨p', g, ?_, hp', g0, g1⟩
  have ha : fAppend (.ref 1) [.int at_] [penO p, lotO xs] = .ok .non [penO p, lotO (xs ++ [at_])] := by
    rw [fAppend_ev (xs := xs.map D.int) rfl (by simp; omega)]
    simp
  have hm : isListIn [penO p, lotO xs] (.ref 1) = true := rfl
  unfold lot_body
  simp [meth1_ev _ _ _ _ _ hm, ha, oPow_ev, mkLst_ev, e, eg]
theorem lot_loop : ∀ (n k : Nat) (b : Nat) (p : Pen) (sz at_ : Int) (o : Option D) (xs : List Int), b + n < 2 ^ 31 → p.nth ≤ b → xs.length + n < 1000 → (∀ x ∈ xs, 0 ≤ x ∧ x < at_) → xs.Pairwise (· < ·) → 0 ≤ at_ →
    ∃ p' at' o' ys, forD (g3Name 4) lot_body ((List.range' k n).map fun (i : Nat) => D.int ((i : Nat) : Int)) [some (.ref 0), some (.int sz), some (.ref 1), some (.int at_), o] [penO p, lotO xs] =
      .go .next [some (.ref 0), some (.int sz), some (.ref 1), some (.int at'), o'] [penO p', lotO ys] ∧ p'.nth ≤ b + n ∧ ys.length = xs.length + n ∧ (∀ x ∈ ys, 0 ≤ x ∧ x < at') ∧ ys.Pairwise (· < ·) ∧ at_ ≤ at' ∧ at' ≤ at_ + n * 10000001
  | 0, k, b, p, sz, at_, o, xs, _, hp, _, h1, h2, _ => ⟨p, at_, o, xs, rfl, hp, by omega, h1, h2, by omega, by omega⟩
  | n + 1, k, b, p, sz, at_, o, xs, hb, hp, hl, h1, h2, h0 => by
    obtain ⟨p1, g, e, hp1, g0, g1⟩ := lot_turn b p sz k at_ (some (.int k)) xs (by omega) hp (by omega)
    obtain ⟨p', at', o', ys, e2, q1, q2, q3, q4, q5, q6⟩ := lot_loop n (k + 1) (b + 1) p1 sz (at_ + 1 + g) (some (.int k)) (xs ++ [at_]) (by omega) hp1 (by simp; omega)
      (by intro x hx; rcases List.mem_append.mp hx with hx | hx
          · have := h1 x hx; omega
          · have := List.mem_singleton.mp hx; omega)
      (List.pairwise_append.mpr ⟨h2, List.pairwise_singleton _ _, fun a ha c hc => by have := h1 a ha; have := List.mem_singleton.mp hc; omega⟩) (by omega)
    refine ⟨p', at', o', ys, ?_, by omega, by simp at q2; omega, q3, q4, by omega, by omega⟩
    rw [List.range'_succ, List.map_cons, forD_cons]
    simp only [g3Name_ev, for2_ev, List.set_cons_succ, List.set_cons_zero, e, for3_next]
    exact e2

theorem closed_ints (n : Nat) : ∀ xs : List Int, closedA n (xs.map D.int) = true
  | [] => rfl
  | x :: xs => closed_ints n xs
theorem closed_pen (n : Nat) (p : Pen) : (penO p).closed n = true := by
  show closedA n [.lst (p.cells.map D.int), .int p.nth, .int p.left] = true
  simp [closedA, closedD, closed_ints]
theorem fin_lst {o o' : Ob} {ds : List D} (h : o'.closed 1 = true) (h2 : closedA 1 ds = true) : fin [o] (.ref 1) [o', .lst ds] = .ok (.lst ds) [o'] := by
  have k : keepOk [o] [o', .lst ds] := ⟨by simp, fun k hk => by
    have : k = 0 := by simpa using hk
    subst this
    exact .inr ⟨o', rfl, h⟩⟩
  unfold fin
  rw [if_neg (by simp), if_pos k, if_neg (by simp [closedD])]
  simp [h2]
theorem ixN_end {n : Nat} (h : 0 < n) : L2.ixN n (-1) = some (n - 1) := by
  obtain ⟨m, rfl⟩ : ∃ m, n = m + 1 := ⟨n - 1, by omega⟩
  rw [ixN_last]
  simp

structure Lot (ys : List Int) : Prop where
  all : ∀ x ∈ ys, 0 ≤ x ∧ x ≤ 1000000000
  up : ys.Pairwise (· < ·)

theorem lot_ok (b n : Nat) (p : Pen) (hb : b + n + 2 < 2 ^ 31) (hp : p.nth ≤ b) (n0 : 0 < n) (n1 : n < 90) :
    ∃ p' ys, F_l_lot [.ref 0, .int n] [penO p] = .ok (.lst (ys.map D.int)) [penO p'] ∧ p'.nth ≤ b + n + 2 ∧ ys.length = n ∧ Lot ys := by
  obtain ⟨a, p1, e1, a0, a1, hp1⟩ := draw_ok b p [lotO []] 3 (by omega) hp (by decide) (by decide)
  obtain ⟨p2, at', o', ys, e2, hp2, hl, q3, q4, q5, q6⟩ := lot_loop n 0 (b + 1) p1 n a none [] (by omega) hp1 (by simp; omega) (by simp) (by simp) a0
  obtain ⟨d, p3, e3, d0, d1, hp3⟩ := draw_ok (b + 1 + n) p2 [lotO ys] 3 (by omega) hp2 (by decide) (by decide)
  simp at hl
  have er : rg2 0 n [penO p1, lotO []] = .ok ((List.range' 0 n).map fun (i : Nat) => D.int ((i : Nat) : Int)) [penO p1, lotO []] := by
    rw [rg2_ev (by decide) (by decide) (by omega) (by omega)]
    congr 1
    unfold rngD
    rw [List.range_eq_range']
    simp
  have e1' : F_l_draw [.ref 0, .int 3] [penO p, .lst []] = .ok (.int a) [penO p1, .lst []] := e1
  have er' : rg2 0 n [penO p1, .lst []] = .ok ((List.range' 0 n).map fun (i : Nat) => D.int ((i : Nat) : Int)) [penO p1, .lst []] := er
  have e2' : forD (g3Name 4) lot_body ((List.range' 0 n).map fun (i : Nat) => D.int ((i : Nat) : Int)) [some (.ref 0), some (.int n), some (.ref 1), some (.int a), none] [penO p1, .lst []] =
    .go .next [some (.ref 0), some (.int n), some (.ref 1), some (.int at'), o'] [penO p2, lotO ys] := e2
  unfold F_l_lot
  rw [defF_ev]
  have em : m_l_lot = mSeq (mAsg (mMake mkOpen mNil) (g3Name 2))
    (mSeq (mAsg (mMake (withLen 2 F_l_draw) (mCons (mVar 0) (mCons (mC (.int 3)) mNil))) (g3Name 3))
    (mSeq (mFor (mRange1 (mCons (mVar 1) mNil)) (g3Name 4) lot_body)
    (mSeq (mIfS (fun σ S => asB (mBin oEq (mMake (withLen 2 F_l_draw) (mCons (mVar 0) (mCons (mC (.int 3)) mNil))) (mC (.int 0)) σ S)) (mSetIx (mVar 2) (mNeg (mC (.int 1))) (mBin oPow (mC (.int 10)) (mC (.int 9)))) mNext)
    (mRet (mVar 2))))) := rfl
  by_cases hd : d = 0
  · refine ⟨p3, ys.set (n - 1) 1000000000, ?_, by omega, by simp [hl], ?_⟩
    · rw [em]
      simp -implicitDefEqProofs [mkOpen_ev, e1', e2', e3, er', hd, oPow_ev, hl, ixN_end n0, ← List.map_set, fin_lst (closed_pen 1 p3) (closed_ints 1 _)]
    · have hm : ∀ x ∈ ys.take (n - 1), 0 ≤ x ∧ x < 1000000000 := fun x hx => by
        have := q3 x (List.mem_of_mem_take hx)
        omega
      have e : ys.set (n - 1) 1000000000 = ys.take (n - 1) ++ [1000000000] := by
        rw [List.set_eq_take_append_cons_drop, if_pos (by omega), List.drop_of_length_le (by omega)]
      rw [e]
      refine ⟨fun x hx => ?_, List.pairwise_append.mpr ⟨q4.sublist (List.take_sublist _ _), List.pairwise_singleton _ _, fun a ha c hc => ?_⟩⟩
      · rcases List.mem_append.mp hx with hx | hx
        · have := hm x hx
          omega
        · have := List.mem_singleton.mp hx
          omega
      · have := hm a ha
        have := List.mem_singleton.mp hc
        omega
  · refine ⟨p3, ys, ?_, by omega, hl, ⟨fun x hx => by have := q3 x hx; omega, q4⟩⟩
    rw [em]
    have hd' : (d == 0) = false := by simp [hd]
    simp -implicitDefEqProofs [mkOpen_ev, e1', e2', e3, er', hd', fin_lst (closed_pen 1 p3) (closed_ints 1 _)]

/-! ### stretches between a lot's places -/
theorem insOf_two (i j : Int) (S : Sto) : fSorted [.lst [.int i, .int j]] S = .ok (.lst ((sortI [i, j]).map D.int)) S := by
  have hl : ((sortI [i, j]).map D.int).length ≤ 1000000 := by
    have hp : (sortI [i, j]).length = 2 := (List.mergeSort_perm [i, j] leI).length_eq
    rw [List.length_map, hp]
    decide
  have e : fSorted [.lst [.int i, .int j]] S = mkLst ((sortI [i, j]).map D.int) S := rfl
  rw [e]
  exact mkLst_ev hl
theorem sortI_two (i j : Int) : sortI [i, j] = if i ≤ j then [i, j] else [j, i] := by
  by_cases h : i ≤ j
  · rw [if_pos h]
    exact (sortI_uniq (List.Perm.refl _) (by simp [h])).symm
  · rw [if_neg h]
    exact (sortI_uniq (List.Perm.swap i j []) (by simp; omega)).symm
theorem lot_get {ys : List Int} {i : Int} (h0 : 0 ≤ i) (h1 : i < ys.length) : ∃ v, L2.atI (ys.map D.int) i = some (.int v) ∧ ys[i.toNat]? = some v := by
  obtain ⟨n, rfl⟩ : ∃ n : Nat, i = (n : Int) := ⟨i.toNat, by omega⟩
  have hl : n < ys.length := by omega
  refine ⟨ys[n], L2.atI_nat ?_, ?_⟩
  · rw [List.getElem?_map, List.getElem?_eq_getElem hl]
    rfl
  · rw [Int.toNat_natCast]
    exact List.getElem?_eq_getElem hl
theorem lot_le {ys : List Int} (hl : Lot ys) {i j : Nat} {v u : Int} (h : i ≤ j) (h1 : ys[i]? = some v) (h2 : ys[j]? = some u) : v ≤ u := by
  obtain ⟨k1, rfl⟩ := List.getElem?_eq_some_iff.mp h1
  obtain ⟨k2, rfl⟩ := List.getElem?_eq_some_iff.mp h2
  by_cases e : i = j
  · subst e
    exact Int.le_refl _
  · exact Int.le_of_lt (List.pairwise_iff_getElem.mp hl.up i j k1 k2 (by omega))
theorem stretch_ok (b : Nat) (p : Pen) (ys : List Int) (hl : Lot ys) (hb : b + 2 < 2 ^ 31) (hp : p.nth ≤ b) (h0 : 0 < ys.length) (h1 : ys.length < 1000) :
    ∃ p' q, F_l_stretch [.ref 0, .lst (ys.map D.int)] [penO p] = .ok (prD q) [penO p'] ∧ p'.nth ≤ b + 2 ∧ 0 ≤ q.1 ∧ q.1 ≤ q.2 ∧ q.2 ≤ 1000000000 := by
  obtain ⟨i, p1, e1, i0, i1, k1⟩ := draw_ok b p [] ys.length (by omega) hp (by omega) (by omega)
  obtain ⟨j, p2, e2, j0, j1, k2⟩ := draw_ok (b + 1) p1 [] ys.length (by omega) k1 (by omega) (by omega)
  obtain ⟨v, v1, v2⟩ := lot_get i0 i1
  obtain ⟨u, u1, u2⟩ := lot_get j0 j1
  have vb := hl.all v (List.mem_of_getElem? v2)
  have ub := hl.all u (List.mem_of_getElem? u2)
  have hs := insOf_two i j [penO p2]
  rw [sortI_two] at hs
  have hf : ∀ d, fin [penO p] d [penO p2] = .ok d [penO p2] := fun d => fin_same rfl
  by_cases hij : i ≤ j
  · rw [if_pos hij] at hs
    have hs' : fSorted [.lst [.int i, .int j]] [penO p2] = .ok (.lst [.int i, .int j]) [penO p2] := hs
    refine ⟨p2, (v, u), ?_, k2, vb.1, lot_le hl (by omega) v2 u2, ub.2⟩
    unfold F_l_stretch m_l_stretch
    rw [defF_ev]
    simp -implicitDefEqProofs [e1, e2, mkLst_ev, mkTup_ev, hs', u1, v1, hf, prD]
  · rw [if_neg hij] at hs
    have hs' : fSorted [.lst [.int i, .int j]] [penO p2] = .ok (.lst [.int j, .int i]) [penO p2] := hs
    refine ⟨p2, (u, v), ?_, k2, ub.1, lot_le hl (by omega) u2 v2, vb.2⟩
    unfold F_l_stretch m_l_stretch
    rw [defF_ev]
    simp -implicitDefEqProofs [e1, e2, mkLst_ev, mkTup_ev, hs', u1, v1, hf, prD]

noncomputable abbrev spE : E3 := (mMake (withLen 2 F_l_stretch) (mCons (mVar 0) (mCons (mVar 1) mNil)))
theorem spans_loop (ys : List Int) (hl : Lot ys) (h0 : 0 < ys.length) (h1 : ys.length < 1000) (m : D) : ∀ (ds : List D) (b : Nat) (p : Pen) (acc : List (Int × Int)), b + 2 * ds.length < 2 ^ 31 → p.nth ≤ b → acc.length + ds.length < 1000 → (∀ q ∈ acc, 0 ≤ q.1 ∧ q.1 ≤ q.2 ∧ q.2 ≤ 1000000000) →
    ∃ (p' : Pen) (ps : List (Int × Int)), compD (g3Name 4) tTrue3 spE ds (acc.map prD) [some (.ref 0), some (.lst (ys.map D.int)), some m, none, none] [penO p] = .ok (ps.map prD) [penO p'] ∧ p'.nth ≤ b + 2 * ds.length ∧ ps.length = acc.length + ds.length ∧ ∀ q ∈ ps, 0 ≤ q.1 ∧ q.1 ≤ q.2 ∧ q.2 ≤ 1000000000
  | [], b, p, acc, _, hp, _, ha => ⟨p, acc, rfl, hp, rfl, ha⟩
  | d :: ds, b, p, acc, hb, hp, hn, ha => by
    simp only [List.length_cons] at hb hn
    obtain ⟨p1, q, e, k1, k2⟩ := stretch_ok b p ys hl (by omega) hp h0 h1
    obtain ⟨p', ps, e2, j1, j2, j3⟩ := spans_loop ys hl h0 h1 m ds (b + 2) p1 (acc ++ [q]) (by omega) k1 (by rw [List.length_append, List.length_singleton]; omega)
      (fun r hr => (List.mem_append.mp hr).elim (ha r) fun h => by rw [List.mem_singleton.mp h]; exact k2)
    refine ⟨p', ps, ?_, by rw [List.length_cons]; omega, by rw [j2, List.length_append, List.length_singleton, List.length_cons]; omega, j3⟩
    rw [compD_cons, g3Name_ev, cd1_ev, tTrue3_ev, cd2_true]
    simp only [mMake_ev, mCons_ev, mNil_ev, mVar_ev, List.set_cons_succ, List.set_cons_zero, List.getElem?_cons_zero, List.getElem?_cons_succ, get1_ev, cons1_ev, cons2_ev, make1_ev]
    rw [withLen_ev 2 F_l_stretch _ _ rfl, e, cd3_ev _ _ _ _ _ _ _ _ (by rw [List.length_map]; omega)]
    rw [List.map_append] at e2
    exact e2
/-- a thing whose items are these stretches -/
def Given (d : D) (ps : List (Int × Int)) : Prop := (d = .lst (ps.map prD) ∨ d = .tup (ps.map prD)) ∧ ps.length ≤ 10 ∧ ∀ q ∈ ps, 0 ≤ q.1 ∧ q.1 ≤ q.2 ∧ q.2 ≤ 1000000000
theorem spans_ok (b : Nat) (p : Pen) (ys : List Int) (hl : Lot ys) (m : Nat) (hb : b + 24 < 2 ^ 31) (hp : p.nth ≤ b) (h0 : 0 < ys.length) (h1 : ys.length < 1000) (hm : m ≤ 9) :
    ∃ (p' : Pen) (d : D) (ps : List (Int × Int)), F_l_spans [.ref 0, .lst (ys.map D.int), .int m] [penO p] = .ok d [penO p'] ∧ p'.nth ≤ b + 24 ∧ Given d ps := by
  obtain ⟨k, p1, e1, i0, i1, k1⟩ := draw_ok b p [] ((m : Int) + 1) (by omega) hp (by omega) (by omega)
  obtain ⟨n, rfl⟩ : ∃ n : Nat, k = (n : Int) := ⟨k.toNat, by omega⟩
  have hr : (rngD 0 n).length = n := by
    unfold rngD
    simp
  have er : rg2 0 (n : Int) [penO p1] = .ok (rngD 0 n) [penO p1] := by
    rw [rg2_ev (by decide) (by decide) (by omega) (by omega)]
    congr 2
  obtain ⟨p2, ps, e2, j1, j2, j3⟩ := spans_loop ys hl h0 h1 (.int m) (rngD 0 n) (b + 1) p1 [] (by omega) k1 (by rw [List.length_nil]; omega) (fun _ h => nomatch h)
  rw [hr] at j1 j2
  rw [List.length_nil] at j2
  have e2' : compD (g3Name 4) tTrue3 spE (rngD 0 n) [] [some (.ref 0), some (.lst (ys.map D.int)), some (.int m), none, none] [penO p1] = .ok (ps.map prD) [penO p2] := e2
  obtain ⟨c, p3, e3, _, _, k3⟩ := draw_ok (b + 1 + 2 * n) p2 [] 2 (by omega) j1 (by decide) (by decide)
  have hf : ∀ d, fin [penO p] d [penO p3] = .ok d [penO p3] := fun d => fin_same rfl
  have hw : wipeD [some (.ref 0), some (.lst (ys.map D.int)), some (.int m), none, none] [4] = [some (.ref 0), some (.lst (ys.map D.int)), some (.int m), none, none] := rfl
  have ht : fTuple [.lst (ps.map prD)] [penO p3] = .ok (.tup (ps.map prD)) [penO p3] := mkTup_ev (by rw [List.length_map]; omega)
  by_cases hc : c = 0
  · refine ⟨p3, .lst (ps.map prD), ps, ?_, by omega, .inl rfl, by omega, j3⟩
    unfold F_l_spans m_l_spans
    rw [defF_ev]
    simp -implicitDefEqProofs [e1, er, hw, e2', e3, hc, hf]
  · refine ⟨p3, .tup (ps.map prD), ps, ?_, by omega, .inr rfl, by omega, j3⟩
    have hc' : (c == 0) = false := by simp [hc]
    unfold F_l_spans m_l_spans
    rw [defF_ev]
    simp -implicitDefEqProofs [e1, er, hw, e2', e3, hc', hf, ht]
end Lw
end

section
set_option linter.all false
set_option maxRecDepth 100000
set_option maxHeartbeats 4000000
namespace Lw
open PySem DL

/-! ### rows of places -/
abbrev Pr := Int × Int
def Cov (ps : List Pr) (x : Int) : Prop := ∃ p, p ∈ ps ∧ p.1 ≤ x ∧ x ≤ p.2
structure Str1 (p : Pr) : Prop where
  lo : 0 ≤ p.1
  le : p.1 ≤ p.2
  hi : p.2 ≤ 1000000000
abbrev Strs (ps : List Pr) : Prop := ∀ p ∈ ps, Str1 p
structure Row (ps : List Pr) : Prop where
  ok : Strs ps
  gap : ps.Pairwise fun a b => a.2 + 1 < b.1

theorem cov_nil (x : Int) : ¬ Cov [] x := fun ⟨_, h, _⟩ => by cases h
theorem cov_cons (p : Pr) (ps : List Pr) (x : Int) : Cov (p :: ps) x ↔ (p.1 ≤ x ∧ x ≤ p.2) ∨ Cov ps x := by
  unfold Cov
  simp only [List.mem_cons]
  constructor
  · rintro ⟨q, rfl | h, h1⟩
    · exact .inl h1
    · exact .inr ⟨q, h, h1⟩
  · rintro (h | ⟨q, h, h1⟩)
    · exact ⟨p, .inl rfl, h⟩
    · exact ⟨q, .inr h, h1⟩
theorem cov_append (ps qs : List Pr) (x : Int) : Cov (ps ++ qs) x ↔ Cov ps x ∨ Cov qs x := by
  induction ps with
  | nil => simp [cov_nil]
  | cons p ps ih => rw [List.cons_append, cov_cons, cov_cons, ih, or_assoc]
theorem cov_one (p : Pr) (x : Int) : Cov [p] x ↔ p.1 ≤ x ∧ x ≤ p.2 := by
  rw [cov_cons]
  simp [cov_nil]
theorem cov_perm {ps qs : List Pr} (h : ps.Perm qs) (x : Int) : Cov ps x ↔ Cov qs x := by
  unfold Cov
  simp only [h.mem_iff]
theorem cov_in {ps : List Pr} (h : Strs ps) {x : Int} (c : Cov ps x) : 0 ≤ x ∧ x ≤ 1000000000 := by
  obtain ⟨p, hp, h1, h2⟩ := c
  have := h p hp
  have h3 := this.lo
  have h4 := this.hi
  omega
theorem row_nil : Row [] := ⟨(fun _ h => nomatch h), List.Pairwise.nil⟩
theorem Row.tail {p : Pr} {ps : List Pr} (h : Row (p :: ps)) : Row ps := ⟨fun q hq => h.ok q (List.mem_cons_of_mem _ hq), (List.pairwise_cons.mp h.gap).2⟩
theorem Row.head {p : Pr} {ps : List Pr} (h : Row (p :: ps)) : Str1 p := h.ok p (List.mem_cons_self ..)
theorem Row.past {p : Pr} {ps : List Pr} (h : Row (p :: ps)) {x : Int} (c : Cov ps x) : p.2 + 1 < x := by
  obtain ⟨q, hq, h1, h2⟩ := c
  have := (List.pairwise_cons.mp h.gap).1 q hq
  omega
theorem Row.cons {p : Pr} {ps : List Pr} (hp : Str1 p) (h : Row ps) (g : ∀ q ∈ ps, p.2 + 1 < q.1) : Row (p :: ps) :=
  ⟨fun q hq => (List.mem_cons.mp hq).elim (fun e => e ▸ hp) (h.ok q), List.pairwise_cons.mpr ⟨g, h.gap⟩⟩
/-- of its places a row is the only row -/
theorem row_uniq : ∀ {r s : List Pr}, Row r → Row s → (∀ x, Cov r x ↔ Cov s x) → r = s
  | [], [], _, _, _ => rfl
  | [], q :: s, _, hs, h => absurd ((h q.1).mpr ((cov_cons ..).mpr (.inl ⟨Int.le_refl _, hs.head.le⟩))) (cov_nil _)
  | p :: r, [], hr, _, h => absurd ((h p.1).mp ((cov_cons ..).mpr (.inl ⟨Int.le_refl _, hr.head.le⟩))) (cov_nil _)
  | p :: r, q :: s, hr, hs, h => by
    have a1 := hr.head.le
    have b1 := hs.head.le
    have low : ∀ {p q : Pr} {r s : List Pr}, Row (p :: r) → Row (q :: s) → (∀ x, Cov (p :: r) x ↔ Cov (q :: s) x) → p.1 ≤ q.1 := fun {p q r s} hr hs h => by
      have c := (h q.1).mpr ((cov_cons ..).mpr (.inl ⟨Int.le_refl _, hs.head.le⟩))
      rcases (cov_cons ..).mp c with c | c
      · exact c.1
      · have := hr.past c
        have := hr.head.le
        omega
    have e1 : p.1 = q.1 := Int.le_antisymm (low hr hs h) (low hs hr fun x => (h x).symm)
    have top : ∀ {p q : Pr} {r s : List Pr}, Row (p :: r) → Row (q :: s) → (∀ x, Cov (p :: r) x ↔ Cov (q :: s) x) → p.1 = q.1 → q.2 ≤ p.2 := fun {p q r s} hr hs h e => by
      have h1 := hr.head.le
      have h2 := hs.head.le
      by_cases hlt : q.2 ≤ p.2
      · exact hlt
      · have c := (h (p.2 + 1)).mpr ((cov_cons ..).mpr (.inl ⟨by omega, by omega⟩))
        rcases (cov_cons ..).mp c with c | c
        · omega
        · have := hr.past c
          omega
    have e2 : p.2 = q.2 := Int.le_antisymm (top hs hr (fun x => (h x).symm) e1.symm) (top hr hs h e1)
    have e : p = q := Prod.ext e1 e2
    subst e
    have t : r = s := row_uniq hr.tail hs.tail fun x => by
      have hx := h x
      rw [cov_cons, cov_cons] at hx
      constructor
      · intro c
        rcases hx.mp (.inr c) with k | k
        · have := hr.past c
          omega
        · exact k
      · intro c
        rcases hx.mpr (.inr c) with k | k
        · have := hs.past c
          omega
        · exact k
    rw [t]

/-! one more stretch at a row's end -/
theorem row_put {xs : List Pr} {l q : Pr} (h : Row (xs ++ [l])) (hq : Str1 q) (ho : l.1 ≤ q.1) (hg : ¬ q.1 ≤ l.2 + 1) : Row (xs ++ [l] ++ [q]) := by
  refine ⟨fun p hp => ?_, List.pairwise_append.mpr ⟨h.gap, List.pairwise_singleton _ _, fun a ha b hb => ?_⟩⟩
  · rcases List.mem_append.mp hp with hp | hp
    · exact h.ok p hp
    · rw [List.mem_singleton.mp hp]; exact hq
  · rw [List.mem_singleton.mp hb]
    rcases List.mem_append.mp ha with ha | ha
    · have := (List.pairwise_append.mp h.gap).2.2 a ha l (List.mem_singleton.mpr rfl)
      omega
    · rw [List.mem_singleton.mp ha]; omega
theorem row_join {xs : List Pr} {l q : Pr} {m : Int} (h : Row (xs ++ [l])) (hq : Str1 q) (h1 : l.2 ≤ m) (h2 : m = l.2 ∨ m = q.2) : Row (xs ++ [(l.1, m)]) := by
  have hl := h.ok l (by simp)
  refine ⟨fun p hp => ?_, List.pairwise_append.mpr ⟨(List.pairwise_append.mp h.gap).1, List.pairwise_singleton _ _, fun a ha b hb => ?_⟩⟩
  · rcases List.mem_append.mp hp with hp | hp
    · exact h.ok p (List.mem_append_left _ hp)
    · rw [List.mem_singleton.mp hp]
      have := hl.lo
      have := hl.le
      have := hl.hi
      have := hq.hi
      exact ⟨by assumption, by show l.1 ≤ m; omega, by show m ≤ 1000000000; omega⟩
  · rw [List.mem_singleton.mp hb]
    exact (List.pairwise_append.mp h.gap).2.2 a ha l (List.mem_singleton.mpr rfl)
theorem cov_join {xs : List Pr} {l q : Pr} {m : Int} (hl : l.1 ≤ l.2) (ho : l.1 ≤ q.1) (hq : q.1 ≤ q.2) (hg : q.1 ≤ l.2 + 1) (hm : m = if q.2 > l.2 then q.2 else l.2) (x : Int) : Cov (xs ++ [(l.1, m)]) x ↔ Cov (xs ++ [l]) x ∨ (q.1 ≤ x ∧ x ≤ q.2) := by
  rw [cov_append, cov_append, cov_one, cov_one, or_assoc]
  refine or_congr Iff.rfl ?_
  show l.1 ≤ x ∧ x ≤ m ↔ _
  rw [hm]
  split <;> omega

/-! two rows, at their heads -/
theorem in_step {p q : Pr} {a b out : List Pr} {lo hi : Int} (ha : Row (p :: a)) (hb : Row (q :: b)) (ho : Row out) (hlo : lo = if q.1 > p.1 then q.1 else p.1) (hhi : hi = if q.2 < p.2 then q.2 else p.2)
    (h : (p.2 < q.2 ∧ ∀ x, Cov out x ↔ Cov a x ∧ Cov (q :: b) x) ∨ (¬ p.2 < q.2 ∧ ∀ x, Cov out x ↔ Cov (p :: a) x ∧ Cov b x)) :
    Row ((if lo ≤ hi then [(lo, hi)] else []) ++ out) ∧ ∀ x, Cov ((if lo ≤ hi then [(lo, hi)] else []) ++ out) x ↔ Cov (p :: a) x ∧ Cov (q :: b) x := by
  have p1 := ha.head.lo
  have p2 := ha.head.le
  have p3 := ha.head.hi
  have q1 := hb.head.lo
  have q2 := hb.head.le
  have q3 := hb.head.hi
  have past : ∀ x, Cov out x → hi + 1 < x := fun x c => by
    rcases h with ⟨h1, h2⟩ | ⟨h1, h2⟩
    · have := ha.past ((h2 x).mp c).1
      rw [hhi]
      split <;> omega
    · have := hb.past ((h2 x).mp c).2
      rw [hhi]
      split <;> omega
  have cov : ∀ x, Cov (p :: a) x ∧ Cov (q :: b) x ↔ (lo ≤ x ∧ x ≤ hi) ∨ Cov out x := fun x => by
    have pa : Cov a x → p.2 + 1 < x := ha.past
    have pb : Cov b x → q.2 + 1 < x := hb.past
    rw [hlo, hhi]
    rcases h with ⟨h1, h2⟩ | ⟨h1, h2⟩
    · rw [h2, cov_cons, cov_cons]
      by_cases A : Cov a x
      · have := pa A
        simp only [A, or_true, true_and]
        constructor
        · exact fun k => .inr k
        · rintro (k | k)
          · split at k <;> split at k <;> omega
          · exact k
      · simp only [A, or_false, false_and]
        by_cases B : Cov b x
        · have := pb B
          simp only [B, or_true, and_true]
          split <;> split <;> omega
        · simp only [B, or_false]
          split <;> split <;> omega
    · rw [h2, cov_cons, cov_cons]
      by_cases B : Cov b x
      · have := pb B
        simp only [B, or_true, and_true]
        constructor
        · exact fun k => .inr k
        · rintro (k | k)
          · split at k <;> split at k <;> omega
          · exact k
      · simp only [B, or_false, and_false]
        by_cases A : Cov a x
        · have := pa A
          simp only [A, or_true, true_and]
          split <;> split <;> omega
        · simp only [A, or_false]
          split <;> split <;> omega
  by_cases hc : lo ≤ hi
  · rw [if_pos hc]
    refine ⟨Row.cons ⟨?_, hc, ?_⟩ ho fun e he => past e.1 ⟨e, he, Int.le_refl _, (ho.ok e he).le⟩, fun x => ?_⟩
    · show 0 ≤ lo
      rw [hlo]
      split <;> omega
    · show hi ≤ 1000000000
      rw [hhi]
      split <;> omega
    · rw [cov, List.cons_append, cov_cons, List.nil_append]
  · rw [if_neg hc]
    refine ⟨ho, fun x => ?_⟩
    rw [cov, List.nil_append]
    constructor
    · exact .inr
    · rintro (k | k)
      · omega
      · exact k

/-! what lies between -/
theorem re_step {p : Pr} {a out : List Pr} {left top : Int} (ha : Row (p :: a)) (ho : Row out) (h0 : 0 ≤ left) (hl : left ≤ p.1)
    (h : ∀ x, Cov out x ↔ p.2 + 1 ≤ x ∧ x < top ∧ ¬ Cov a x) (ht : p.2 < top) :
    Row ((if left < p.1 then [(left, p.1 - 1)] else []) ++ out) ∧ ∀ x, Cov ((if left < p.1 then [(left, p.1 - 1)] else []) ++ out) x ↔ left ≤ x ∧ x < top ∧ ¬ Cov (p :: a) x := by
  have p2 := ha.head.le
  have p3 := ha.head.hi
  have past : ∀ x, Cov out x → p.1 < x := fun x c => by
    have := ((h x).mp c).1
    omega
  have cov : ∀ x, left ≤ x ∧ x < top ∧ ¬ Cov (p :: a) x ↔ (left ≤ x ∧ x ≤ p.1 - 1) ∨ Cov out x := fun x => by
    have pa : Cov a x → p.2 + 1 < x := ha.past
    rw [h, cov_cons]
    by_cases A : Cov a x
    · have := pa A
      simp only [A, or_true, not_true_eq_false, and_false, or_false]
      exact ⟨fun k => k.elim, fun k => by omega⟩
    · simp only [A, or_false, not_false_eq_true, and_true]
      constructor
      · rintro ⟨k1, k2, k3⟩
        by_cases k : p.1 ≤ x
        · have : ¬ x ≤ p.2 := fun k4 => k3 ⟨k, k4⟩
          omega
        · omega
      · rintro (⟨k1, k2⟩ | ⟨k1, k2⟩)
        · exact ⟨k1, by omega, fun k => by omega⟩
        · exact ⟨by omega, k2, fun k => by omega⟩
  by_cases hc : left < p.1
  · rw [if_pos hc]
    refine ⟨Row.cons ⟨h0, ?_, ?_⟩ ho fun e he => ?_, fun x => ?_⟩
    · show left ≤ p.1 - 1
      omega
    · show p.1 - 1 ≤ 1000000000
      omega
    · have := past e.1 ⟨e, he, Int.le_refl _, (ho.ok e he).le⟩
      show p.1 - 1 + 1 < e.1
      omega
    · rw [cov, List.cons_append, cov_cons, List.nil_append]
  · rw [if_neg hc]
    refine ⟨ho, fun x => ?_⟩
    rw [cov, List.nil_append]
    constructor
    · exact .inr
    · rintro (k | k)
      · omega
      · exact k
end Lw
end

section
set_option linter.all false
set_option maxRecDepth 100000
set_option maxHeartbeats 4000000
namespace Lw
open PySem DL

/-! ### a def's own objects go -/
theorem fin_data (S T : Sto) (d : D) (h : closedD S.length d = true) : fin S d (S ++ T) = .ok d S := by
  unfold fin
  by_cases e : (S ++ T).length = S.length
  · rw [if_pos e]
    have : T = [] := by
      rw [List.length_append] at e
      exact List.eq_nil_of_length_eq_zero (by omega)
    rw [this, List.append_nil]
  · rw [if_neg e]
    have k : keepOk S (S ++ T) := ⟨by simp, fun k hk => .inl (List.getElem?_append_left hk)⟩
    rw [if_pos k, if_pos h, List.take_left' rfl]
theorem closed_prs (n : Nat) : ∀ ps : List Pr, closedA n (ps.map prD) = true
  | [] => rfl
  | p :: ps => by
    show (closedD n (prD p) && closedA n (ps.map prD)) = true
    rw [closed_prs n ps]
    rfl
abbrev rowD (ps : List Pr) : D := .tup (ps.map prD)
theorem fin_row (S T : Sto) (ps : List Pr) : fin S (rowD ps) (S ++ T) = .ok (rowD ps) S := fin_data S T _ (closed_prs _ ps)
abbrev prO (ps : List Pr) : Ob := .lst (ps.map prD)
@[simp] theorem end_get (S : Sto) (o : Ob) : (S ++ [o])[S.length]? = some o := by simp
@[simp] theorem end_set (S : Sto) (o o' : Ob) : (S ++ [o]).set S.length o' = S ++ [o'] := by
  rw [List.set_append_right _ _ (Nat.le_refl _)]
  simp

/-! ### joined -/
noncomputable def jo_body : S3 := (mIfS (tAnd3 (fun σ S => asT ((mVar 1) σ S)) (fun σ S => asB (mBin oLeA (mVar 2) (mBin (oCat false) (mBin oIx (mBin oIx (mVar 1) (mNeg (mC (.int 1)))) (mC (.int 1))) (mC (.int 1))) σ S))) (mSetIx (mVar 1) (mNeg (mC (.int 1))) (mMake mkTup (mCons (mBin oIx (mBin oIx (mVar 1) (mNeg (mC (.int 1)))) (mC (.int 0))) (mCons (mMake fMax (mCons (mBin oIx (mBin oIx (mVar 1) (mNeg (mC (.int 1)))) (mC (.int 1))) (mCons (mVar 3) mNil))) mNil)))) (mExpr (mMethL fAppend (mVar 1) (mCons (mMake mkTup (mCons (mVar 2) (mCons (mVar 3) mNil))) mNil))))
noncomputable def jo_tgt : G3 := (g3Tup 2 (g3Cons (g3Name 2) (g3Cons (g3Name 3) g3Nil)))
theorem m_joined_eq : m_joined = (mSeq (mAsg (mMake mkOpen mNil) (g3Name 1))
    (mSeq (mFor (mWalk (mMake fSorted (mCons (mVar 0) mNil))) jo_tgt jo_body)
    (mRet (mMake fTuple (mCons (mVar 1) mNil))))) := rfl
theorem tru_end (S : Sto) (xs : List D) : truD (.ref S.length) (S ++ [.lst xs]) = some (!xs.isEmpty) := by
  show (itemsOf (S ++ [.lst xs]) (.ref S.length)).map _ = _
  rw [itemsOf_refE, end_get]
  rfl
theorem isListIn_end (S : Sto) (xs : List D) : isListIn (S ++ [.lst xs]) (.ref S.length) = true := by
  show (!false && (itemsOf (S ++ [.lst xs]) (.ref S.length)).isSome) = true
  rw [itemsOf_refE, end_get]
  rfl
theorem append_end {S : Sto} {xs : List D} {y : D} (hl : xs.length < 1000000) : fAppend (.ref S.length) [y] (S ++ [.lst xs]) = .ok .non (S ++ [.lst (xs ++ [y])]) := by
  rw [fAppend_ev (end_get S _) hl, end_set]
@[simp] theorem fMax_ev (i j : Int) (S : Sto) : fMax [.int i, .int j] S = .ok (.int (if j > i then j else i)) S := rfl
@[simp] theorem fMin_ev (i j : Int) (S : Sto) : fMin [.int i, .int j] S = .ok (.int (if j < i then j else i)) S := rfl
theorem jo_name (a b : D) (o1 o2 : Option D) (q : Pr) : jo_tgt (prD q) [some a, some b, o1, o2] = some [some a, some b, some (.int q.1), some (.int q.2)] := by
  unfold jo_tgt
  simp [prD]
theorem jo_first (S : Sto) (a : D) (q : Pr) :
    jo_body [some a, some (.ref S.length), some (.int q.1), some (.int q.2)] (S ++ [prO []]) = .go .next [some a, some (.ref S.length), some (.int q.1), some (.int q.2)] (S ++ [prO [q]]) := by
  have ht : truD (.ref S.length) (S ++ [prO []]) = some false := tru_end S []
  have hm : isListIn (S ++ [prO []]) (.ref S.length) = true := isListIn_end S []
  have ha : fAppend (.ref S.length) [.tup [.int q.1, .int q.2]] (S ++ [prO []]) = .ok .non (S ++ [prO [q]]) := append_end (S := S) (xs := []) (by decide)
  unfold jo_body
  simp [prD, ht, meth1_ev _ _ _ _ _ hm, mkTup_ev, ha]
theorem jo_turn (S : Sto) (a : D) (xs : List Pr) (l q : Pr) (hl : xs.length < 100000) :
    jo_body [some a, some (.ref S.length), some (.int q.1), some (.int q.2)] (S ++ [prO (xs ++ [l])]) = .go .next [some a, some (.ref S.length), some (.int q.1), some (.int q.2)] (S ++ [prO (if q.1 ≤ l.2 + 1 then xs ++ [(l.1, if q.2 > l.2 then q.2 else l.2)] else xs ++ [l] ++ [q])]) := by
  have ht : truD (.ref S.length) (S ++ [prO (xs ++ [l])]) = some true := by
    rw [tru_end]
    simp
  have hm : isListIn (S ++ [prO (xs ++ [l])]) (.ref S.length) = true := isListIn_end S _
  have ha : fAppend (.ref S.length) [.tup [.int q.1, .int q.2]] (S ++ [prO (xs ++ [l])]) = .ok .non (S ++ [prO (xs ++ [l] ++ [q])]) := by
    rw [append_end (by simp; omega)]
    simp [prD]
  have hx : L2.atI ((xs ++ [l]).map prD) (-1) = some (.tup [.int l.1, .int l.2]) := by
    rw [List.map_append]
    exact at_last _ _
  have hi : L2.ixN ((xs ++ [l]).map prD).length (-1) = some xs.length := by
    have e : ((xs ++ [l]).map prD).length = xs.length + 1 := by simp
    rw [e, ixN_last]
  have hs : ∀ d : D, ((xs ++ [l]).map prD).set xs.length d = xs.map prD ++ [d] := fun d => by
    rw [List.map_append, List.set_append_right _ _ (by simp)]
    simp
  unfold jo_body
  by_cases hc : q.1 ≤ l.2 + 1
  · rw [if_pos hc]
    simp -implicitDefEqProofs [prD, ht, mkTup_ev, hx, hc, hs]
  · rw [if_neg hc]
    simp -implicitDefEqProofs [prD, ht, meth1_ev _ _ _ _ _ hm, mkTup_ev, ha, hx, hc]
theorem jo_loop (S : Sto) (a : D) : ∀ (qs : List Pr) (o1 o2 : Option D) (xs : List Pr) (l : Pr), xs.length + qs.length < 100000 → Row (xs ++ [l]) → Strs qs → (l :: qs).Pairwise (fun p q => p.1 ≤ q.1) →
    ∃ row o1' o2', forD jo_tgt jo_body (qs.map prD) [some a, some (.ref S.length), o1, o2] (S ++ [prO (xs ++ [l])]) = .go .next [some a, some (.ref S.length), o1', o2'] (S ++ [prO row]) ∧
      Row row ∧ (∀ x, Cov row x ↔ Cov (xs ++ [l]) x ∨ Cov qs x) ∧ row.length ≤ xs.length + 1 + qs.length
  | [], o1, o2, xs, l, _, hr, _, _ => ⟨xs ++ [l], o1, o2, rfl, hr, fun x => by simp [cov_nil], by simp⟩
  | q :: qs, o1, o2, xs, l, hl, hr, hq, hs => by
    simp only [List.length_cons] at hl
    obtain ⟨s1, s2⟩ := List.pairwise_cons.mp hs
    have lq := s1 q (List.mem_cons_self ..)
    have sq := hq q (List.mem_cons_self ..)
    have sl := hr.ok l (by simp)
    have e := jo_turn S a xs l q (by omega)
    by_cases hc : q.1 ≤ l.2 + 1
    · rw [if_pos hc] at e
      obtain ⟨row, o1', o2', h1, h2, h3, h4⟩ := jo_loop S a qs (some (.int q.1)) (some (.int q.2)) xs (l.1, if q.2 > l.2 then q.2 else l.2) (by omega)
        (row_join hr sq (by split <;> omega) (by split <;> simp)) (fun p hp => hq p (List.mem_cons_of_mem _ hp)) (List.pairwise_cons.mpr ⟨fun p hp => s1 p (List.mem_cons_of_mem _ hp), (List.pairwise_cons.mp s2).2⟩)
      refine ⟨row, o1', o2', ?_, h2, fun x => ?_, by simp; omega⟩
      · rw [List.map_cons, forD_cons, jo_name, for2_ev, e]
        exact h1
      · rw [h3, cov_join sl.le lq sq.le hc rfl, cov_cons, or_assoc]
    · rw [if_neg hc] at e
      obtain ⟨row, o1', o2', h1, h2, h3, h4⟩ := jo_loop S a qs (some (.int q.1)) (some (.int q.2)) (xs ++ [l]) q (by simp; omega)
        (row_put hr sq lq hc) (fun p hp => hq p (List.mem_cons_of_mem _ hp)) s2
      refine ⟨row, o1', o2', ?_, h2, fun x => ?_, by simp at h4 ⊢; omega⟩
      · rw [List.map_cons, forD_cons, jo_name, for2_ev, e]
        exact h1
      · rw [h3, cov_append (xs ++ [l]) [q], cov_one, cov_cons, or_assoc]
theorem jo_all (S : Sto) (a : D) (qs : List Pr) (hl : qs.length < 100000) (hq : Strs qs) (hs : qs.Pairwise (fun p q => p.1 ≤ q.1)) :
    ∃ row o1' o2', forD jo_tgt jo_body (qs.map prD) [some a, some (.ref S.length), none, none] (S ++ [prO []]) = .go .next [some a, some (.ref S.length), o1', o2'] (S ++ [prO row]) ∧
      Row row ∧ (∀ x, Cov row x ↔ Cov qs x) ∧ row.length ≤ qs.length := by
  cases qs with
  | nil => exact ⟨[], none, none, rfl, row_nil, fun x => Iff.rfl, Nat.le_refl _⟩
  | cons q qs =>
    have sq := hq q (List.mem_cons_self ..)
    simp only [List.length_cons] at hl
    obtain ⟨row, o1', o2', h1, h2, h3, h4⟩ := jo_loop S a qs (some (.int q.1)) (some (.int q.2)) [] q (by simp; omega) (Row.cons sq row_nil fun _ h => nomatch h) (fun p hp => hq p (List.mem_cons_of_mem _ hp)) hs
    refine ⟨row, o1', o2', ?_, h2, fun x => ?_, by simp at h4 ⊢; omega⟩
    · rw [List.map_cons, forD_cons, jo_name, for2_ev, jo_first]
      exact h1
    · rw [h3, List.nil_append, cov_one, cov_cons]
/-- a thing whose items are stretches -/
def RowD (S : Sto) (d : D) (ps : List Pr) : Prop := itemsOf S d = some (ps.map prD)
theorem sorted_prs {S : Sto} {d : D} {ps : List Pr} (h : RowD S d ps) (hl : ps.length < 100000) : fSorted [d] S = .ok (.lst ((sortP ps).map prD)) S := by
  have hp : (sortP ps).length = ps.length := (List.mergeSort_perm ps leP).length_eq
  show DL.withItems d S _ = _
  unfold DL.withItems
  rw [h]
  show (match prsOf (ps.map prD) with
    | some ps => mkLst ((sortP ps).map prD) S
    | none => (match insOf (ps.map prD) with
      | some ns => if isTupD d then .bad else mkLst ((sortI ns).map D.int) S
      | none => .bad)) = _
  rw [prsOf_map]
  exact mkLst_ev (by rw [List.length_map, hp]; omega)
theorem leP_lo {p q : Pr} (h : leP p q = true) : p.1 ≤ q.1 := by
  unfold leP at h
  rw [Bool.not_eq_true'] at h
  have := SrtO.lexB_no.mp h
  omega
theorem sortP_low (ps : List Pr) : (sortP ps).Pairwise (fun p q => p.1 ≤ q.1) :=
  (List.pairwise_mergeSort leP_trans leP_total ps).imp fun h => leP_lo h
theorem items_more {S : Sto} {d : D} {xs : List D} (T : Sto) (h : itemsOf S d = some xs) : itemsOf (S ++ T) d = some xs := by
  cases d with
  | ref k =>
    rw [itemsOf_refE] at h ⊢
    by_cases hk : k < S.length
    · rw [List.getElem?_append_left hk]
      exact h
    · rw [List.getElem?_eq_none (by omega)] at h
      cases h
  | _ => exact h
theorem joined_ok {S : Sto} {d : D} {ps : List Pr} (h : RowD S d ps) (hl : ps.length < 100000) (hq : Strs ps) :
    ∃ row, F_joined [d] S = .ok (rowD row) S ∧ Row row ∧ (∀ x, Cov row x ↔ Cov ps x) ∧ row.length ≤ ps.length := by
  have hp : (sortP ps).Perm ps := List.mergeSort_perm ps leP
  have h' : RowD (S ++ [prO []]) d ps := items_more _ h
  obtain ⟨row, o1, o2, e, h1, h2, h3⟩ := jo_all S d (sortP ps) (by rw [hp.length_eq]; exact hl) (fun p hp' => hq p (hp.mem_iff.mp hp')) (sortP_low ps)
  refine ⟨row, ?_, h1, fun x => by rw [h2, cov_perm hp], by rw [hp.length_eq] at h3; exact h3⟩
  have hw := sorted_prs h' hl
  have hit : itemsOf (S ++ [prO row]) (.ref S.length) = some (row.map prD) := by
    rw [itemsOf_refE, end_get]
    rfl
  have ht : fTuple [.ref S.length] (S ++ [prO row]) = .ok (rowD row) (S ++ [prO row]) := by
    show DL.withItems (.ref S.length) (S ++ [prO row]) _ = _
    unfold DL.withItems
    rw [hit]
    exact mkTup_ev (by rw [List.length_map]; rw [hp.length_eq] at h3; omega)
  unfold F_joined
  rw [defF_ev, m_joined_eq]
  have hw' : fSorted [d] (S ++ [.lst []]) = .ok (.lst ((sortP ps).map prD)) (S ++ [.lst []]) := hw
  have e' : forD jo_tgt jo_body ((sortP ps).map prD) [some d, some (.ref S.length), none, none] (S ++ [.lst []]) = .go .next [some d, some (.ref S.length), o1, o2] (S ++ [prO row]) := e
  simp -implicitDefEqProofs [mkOpen_ev, hw', e', ht, fin_row]

theorem tuple_end (S : Sto) (row : List Pr) (hl : row.length ≤ 1000000) : fTuple [.ref S.length] (S ++ [prO row]) = .ok (rowD row) (S ++ [prO row]) := by
  have hit : itemsOf (S ++ [prO row]) (.ref S.length) = some (row.map prD) := by
    rw [itemsOf_refE, end_get]
    rfl
  show DL.withItems (.ref S.length) (S ++ [prO row]) _ = _
  unfold DL.withItems
  rw [hit]
  exact mkTup_ev (by rw [List.length_map]; exact hl)
theorem row_rowD (S : Sto) (row : List Pr) : RowD S (rowD row) row := rfl
theorem get_pr {a : List Pr} {i : Nat} {p : Pr} (h : a[i]? = some p) : L2.atI (a.map prD) (i : Int) = some (.tup [.int p.1, .int p.2]) := by
  rw [L2.atI_nat (v := prD p)]
  · rfl
  · rw [List.getElem?_map, h]
    rfl
end Lw
end

section
set_option linter.all false
set_option maxRecDepth 100000
set_option maxHeartbeats 4000000
namespace Lw
open PySem DL
/-! ### both -/
theorem while_stop {t : T3} {b : S3} {n : Nat} {σ : DL.Loc} {S S1 : Sto} (h : t σ S = .ok false S1) : mWhileN t b (n + 1) σ S = .go .next σ S1 := by
  show (t σ S).toS σ _ = _
  rw [h]
  rfl
theorem while_go {t : T3} {b : S3} {n : Nat} {σ σ' : DL.Loc} {S S1 S' : Sto} (h : t σ S = .ok true S1) (h2 : b σ S1 = .go .next σ' S') : mWhileN t b (n + 1) σ S = mWhileN t b n σ' S' := by
  show (t σ S).toS σ _ = _
  rw [h]
  show (if true = true then (match b σ S1 with
      | .go .next σ2 S2 => mWhileN t b n σ2 S2
      | .go .cont σ2 S2 => mWhileN t b n σ2 S2
      | .go .brk σ2 S2 => .go .next σ2 S2
      | r => r) else .go .next σ S1) = _
  rw [h2]
  rfl
noncomputable def bo_test : T3 := (tAnd3 (fun σ S => asB (mBin oLtA (mVar 5) (mMake fLen (mCons (mVar 2) mNil)) σ S)) (fun σ S => asB (mBin oLtA (mVar 6) (mMake fLen (mCons (mVar 3) mNil)) σ S)))
noncomputable def bo_body : S3 := (mSeq (mAsg (mMake fMax (mCons (mBin oIx (mBin oIx (mVar 2) (mVar 5)) (mC (.int 0))) (mCons (mBin oIx (mBin oIx (mVar 3) (mVar 6)) (mC (.int 0))) mNil))) (g3Name 7))
    (mSeq (mAsg (mMake fMin (mCons (mBin oIx (mBin oIx (mVar 2) (mVar 5)) (mC (.int 1))) (mCons (mBin oIx (mBin oIx (mVar 3) (mVar 6)) (mC (.int 1))) mNil))) (g3Name 8))
    (mSeq (mIfS (fun σ S => asB (mBin oLeA (mVar 7) (mVar 8) σ S)) (mExpr (mMethL fAppend (mVar 4) (mCons (mMake mkTup (mCons (mVar 7) (mCons (mVar 8) mNil))) mNil))) mNext)
    (mIfS (fun σ S => asB (mBin oLtA (mBin oIx (mBin oIx (mVar 2) (mVar 5)) (mC (.int 1))) (mBin oIx (mBin oIx (mVar 3) (mVar 6)) (mC (.int 1))) σ S)) (mAug 5 oAdd (mC (.int 1))) (mAug 6 oAdd (mC (.int 1)))))))
theorem m_both_eq : m_both = (mSeq (mAsg (mMake (withLen 1 F_joined) (mCons (mVar 0) mNil)) (g3Name 2))
    (mSeq (mAsg (mMake (withLen 1 F_joined) (mCons (mVar 1) mNil)) (g3Name 3))
    (mSeq (mAsg (mMake mkOpen mNil) (g3Name 4))
    (mSeq (mAsg (mC (.int 0)) (g3Name 5))
    (mSeq (mAsg (mC (.int 0)) (g3Name 6))
    (mSeq (mWhileN bo_test bo_body 1000)
    (mRet (mMake fTuple (mCons (mVar 4) mNil))))))))) := rfl
abbrev boL (S : Sto) (a b : List Pr) (x y : D) (i j : Nat) (o7 o8 : Option D) : DL.Loc := [some x, some y, some (rowD a), some (rowD b), some (.ref S.length), some (.int i), some (.int j), o7, o8]
theorem bo_test_ev (S T : Sto) (a b : List Pr) (x y : D) (i j : Nat) (o7 o8 : Option D) : bo_test (boL S a b x y i j o7 o8) T = .ok (decide (i < a.length) && decide (j < b.length)) T := by
  unfold bo_test
  by_cases h1 : i < a.length
  · by_cases h2 : j < b.length
    · simp [h1, h2]
    · simp [h1, h2]
  · simp [h1]
theorem bo_turn (S : Sto) (a b found : List Pr) (x y : D) (i j : Nat) (o7 o8 : Option D) (p q : Pr) (hp : a[i]? = some p) (hq : b[j]? = some q) (hl : found.length < 100000) :
    ∃ o7' o8', bo_body (boL S a b x y i j o7 o8) (S ++ [prO found]) = .go .next (boL S a b x y (if p.2 < q.2 then i + 1 else i) (if p.2 < q.2 then j else j + 1) o7' o8')
      (S ++ [prO (found ++ (if (if q.1 > p.1 then q.1 else p.1) ≤ (if q.2 < p.2 then q.2 else p.2) then [((if q.1 > p.1 then q.1 else p.1), (if q.2 < p.2 then q.2 else p.2))] else []))]) := by
  have e1 := get_pr hp
  have e2 := get_pr hq
  generalize hlo : (if q.1 > p.1 then q.1 else p.1) = lo
  generalize hhi : (if q.2 < p.2 then q.2 else p.2) = hi
  have m1 : ∀ T : Sto, fMax [.int p.1, .int q.1] T = .ok (.int lo) T := fun T => by rw [fMax_ev, hlo]
  have m2 : ∀ T : Sto, fMin [.int p.2, .int q.2] T = .ok (.int hi) T := fun T => by rw [fMin_ev, hhi]
  have hm : isListIn (S ++ [prO found]) (.ref S.length) = true := isListIn_end S _
  have ha : fAppend (.ref S.length) [.tup [.int lo, .int hi]] (S ++ [prO found]) = .ok .non (S ++ [prO (found ++ [(lo, hi)])]) := by
    rw [append_end (by simp; omega)]
    simp [prD]
  refine ⟨some (.int lo), some (.int hi), ?_⟩
  unfold bo_body
  by_cases hc : lo ≤ hi
  · rw [if_pos hc]
    by_cases hd : p.2 < q.2
    · rw [if_pos hd, if_pos hd]
      simp -implicitDefEqProofs [-fMax_ev, -fMin_ev, e1, e2, m1, m2, meth1_ev _ _ _ _ _ hm, mkTup_ev, ha, hc, hd]
    · rw [if_neg hd, if_neg hd]
      simp -implicitDefEqProofs [-fMax_ev, -fMin_ev, e1, e2, m1, m2, meth1_ev _ _ _ _ _ hm, mkTup_ev, ha, hc, hd]
  · rw [if_neg hc, List.append_nil]
    by_cases hd : p.2 < q.2
    · rw [if_pos hd, if_pos hd]
      simp -implicitDefEqProofs [-fMax_ev, -fMin_ev, e1, e2, m1, m2, hc, hd]
    · rw [if_neg hd, if_neg hd]
      simp -implicitDefEqProofs [-fMax_ev, -fMin_ev, e1, e2, m1, m2, hc, hd]

theorem len_if (c : Prop) [Decidable c] (z : Pr) : (if c then [z] else []).length ≤ 1 := by
  by_cases h : c
  · rw [if_pos h]
    exact Nat.le_refl _
  · rw [if_neg h]
    exact Nat.zero_le _
theorem bo_loop (S : Sto) (a b : List Pr) (x y : D) : ∀ (n i j : Nat) (found : List Pr) (o7 o8 : Option D), (a.length - i) + (b.length - j) < n → found.length + ((a.length - i) + (b.length - j)) < 100000 → Row (a.drop i) → Row (b.drop j) →
    ∃ out i' j' o7' o8', mWhileN bo_test bo_body n (boL S a b x y i j o7 o8) (S ++ [prO found]) = .go .next (boL S a b x y i' j' o7' o8') (S ++ [prO (found ++ out)]) ∧
      Row out ∧ (∀ z, Cov out z ↔ Cov (a.drop i) z ∧ Cov (b.drop j) z) ∧ out.length ≤ (a.length - i) + (b.length - j)
  | 0, i, j, found, o7, o8, hn, _, _, _ => by omega
  | n + 1, i, j, found, o7, o8, hn, hf, ha, hb => by
    have ht := bo_test_ev S (S ++ [prO found]) a b x y i j o7 o8
    by_cases h1 : i < a.length
    · by_cases h2 : j < b.length
      · have ea : a.drop i = a[i] :: a.drop (i + 1) := List.drop_eq_getElem_cons h1
        have eb : b.drop j = b[j] :: b.drop (j + 1) := List.drop_eq_getElem_cons h2
        obtain ⟨o7', o8', e⟩ := bo_turn S a b found x y i j o7 o8 a[i] b[j] (List.getElem?_eq_getElem h1) (List.getElem?_eq_getElem h2) (by omega)
        rw [ea] at ha ⊢
        rw [eb] at hb ⊢
        generalize a[i] = p at *
        generalize b[j] = q at *
        generalize hpt : (if (if q.1 > p.1 then q.1 else p.1) ≤ (if q.2 < p.2 then q.2 else p.2) then [((if q.1 > p.1 then q.1 else p.1), (if q.2 < p.2 then q.2 else p.2))] else []) = pt at *
        have lpt : pt.length ≤ 1 := by
          rw [← hpt]
          exact len_if _ _
        have st : bo_test (boL S a b x y i j o7 o8) (S ++ [prO found]) = .ok true (S ++ [prO found]) := by
          rw [ht]
          simp [h1, h2]
        by_cases hd : p.2 < q.2
        · rw [if_pos hd, if_pos hd] at e
          obtain ⟨out, i', j', o7'', o8'', k1, k2, k3, k4⟩ := bo_loop S a b x y n (i + 1) j (found ++ pt) o7' o8' (by omega) (by rw [List.length_append]; omega) ha.tail (by rw [eb]; exact hb)
          have kk := in_step ha hb k2 rfl rfl (.inl ⟨hd, fun z => by rw [k3, eb]⟩)
          rw [hpt] at kk
          refine ⟨pt ++ out, i', j', o7'', o8'', ?_, kk.1, kk.2, by rw [List.length_append]; omega⟩
          rw [while_go st e, k1, List.append_assoc]
        · rw [if_neg hd, if_neg hd] at e
          obtain ⟨out, i', j', o7'', o8'', k1, k2, k3, k4⟩ := bo_loop S a b x y n i (j + 1) (found ++ pt) o7' o8' (by omega) (by rw [List.length_append]; omega) (by rw [ea]; exact ha) hb.tail
          have kk := in_step ha hb k2 rfl rfl (.inr ⟨hd, fun z => by rw [k3, ea]⟩)
          rw [hpt] at kk
          refine ⟨pt ++ out, i', j', o7'', o8'', ?_, kk.1, kk.2, by rw [List.length_append]; omega⟩
          rw [while_go st e, k1, List.append_assoc]
      · have st : bo_test (boL S a b x y i j o7 o8) (S ++ [prO found]) = .ok false (S ++ [prO found]) := by
          rw [ht]
          simp [h2]
        refine ⟨[], i, j, o7, o8, by rw [while_stop st, List.append_nil], row_nil, fun z => ?_, by simp⟩
        rw [List.drop_of_length_le (l := b) (by omega)]
        simp [cov_nil]
    · have st : bo_test (boL S a b x y i j o7 o8) (S ++ [prO found]) = .ok false (S ++ [prO found]) := by
        rw [ht]
        simp [h1]
      refine ⟨[], i, j, o7, o8, by rw [while_stop st, List.append_nil], row_nil, fun z => ?_, by simp⟩
      rw [List.drop_of_length_le (l := a) (by omega)]
      simp [cov_nil]
theorem both_ok {S : Sto} {d e : D} {ps qs : List Pr} (h : RowD S d ps) (h' : RowD S e qs) (hl : ps.length + qs.length < 900) (hp : Strs ps) (hq : Strs qs) :
    ∃ row, F_both [d, e] S = .ok (rowD row) S ∧ Row row ∧ (∀ x, Cov row x ↔ Cov ps x ∧ Cov qs x) ∧ row.length ≤ ps.length + qs.length := by
  obtain ⟨a, a1, a2, a3, a4⟩ := joined_ok h (by omega) hp
  obtain ⟨b, b1, b2, b3, b4⟩ := joined_ok h' (by omega) hq
  obtain ⟨row, i', j', o7, o8, c1, c2, c3, c4⟩ := bo_loop S a b d e 1000 0 0 [] none none (by omega) (by simp; omega) a2 b2
  simp only [List.nil_append, List.drop_zero] at c1 c3
  refine ⟨row, ?_, c2, fun x => by rw [c3, a3, b3], by omega⟩
  have c1' : mWhileN bo_test bo_body 1000 [some d, some e, some (rowD a), some (rowD b), some (.ref S.length), some (.int 0), some (.int 0), none, none] (S ++ [.lst []]) = .go .next (boL S a b d e i' j' o7 o8) (S ++ [prO row]) := c1
  have ht := tuple_end S row (by omega)
  unfold F_both
  rw [defF_ev, m_both_eq]
  simp -implicitDefEqProofs [mkOpen_ev, a1, b1, c1', ht, fin_row]

end Lw
end

section
set_option linter.all false
set_option maxRecDepth 100000
set_option maxHeartbeats 4000000
namespace Lw
open PySem DL
/-! ### rest -/
noncomputable def re_body : S3 := (mSeq (mIfS (fun σ S => asB (mBin oLtA (mVar 2) (mVar 3) σ S)) (mExpr (mMethL fAppend (mVar 1) (mCons (mMake mkTup (mCons (mVar 2) (mCons (mBin oSub (mVar 3) (mC (.int 1))) mNil))) mNil))) mNext)
    (mAsg (mBin (oCat false) (mVar 4) (mC (.int 1))) (g3Name 2)))
noncomputable def re_tgt : G3 := (g3Tup 2 (g3Cons (g3Name 3) (g3Cons (g3Name 4) g3Nil)))
theorem m_rest_eq : m_rest = (mSeq (mAsg (mMake mkOpen mNil) (g3Name 1))
    (mSeq (mAsg (mC (.int 0)) (g3Name 2))
    (mSeq (mFor (mWalk (mMake (withLen 1 F_joined) (mCons (mVar 0) mNil))) re_tgt re_body)
    (mSeq (mIfS (fun σ S => asB (mBin oLeA (mVar 2) (mC (.int 1000000000)) σ S)) (mExpr (mMethL fAppend (mVar 1) (mCons (mMake mkTup (mCons (mVar 2) (mCons (mC (.int 1000000000)) mNil))) mNil))) mNext)
    (mRet (mMake fTuple (mCons (mVar 1) mNil))))))) := rfl
theorem append_pr {S : Sto} {found : List Pr} {i j : Int} (hl : found.length < 1000000) : fAppend (.ref S.length) [.tup [.int i, .int j]] (S ++ [prO found]) = .ok .non (S ++ [prO (found ++ [(i, j)])]) := by
  rw [append_end (by simp; omega)]
  simp [prD]
theorem re_turn (S : Sto) (a : D) (left : Int) (q : Pr) (found : List Pr) (hl : found.length < 100000) :
    re_body [some a, some (.ref S.length), some (.int left), some (.int q.1), some (.int q.2)] (S ++ [prO found]) =
      .go .next [some a, some (.ref S.length), some (.int (q.2 + 1)), some (.int q.1), some (.int q.2)] (S ++ [prO (found ++ (if left < q.1 then [(left, q.1 - 1)] else []))]) := by
  have hm : isListIn (S ++ [prO found]) (.ref S.length) = true := isListIn_end S _
  have ha := append_pr (S := S) (found := found) (i := left) (j := q.1 - 1) (by omega)
  unfold re_body
  by_cases hc : left < q.1
  · rw [if_pos hc]
    simp -implicitDefEqProofs [meth1_ev _ _ _ _ _ hm, mkTup_ev, ha, hc]
  · rw [if_neg hc, List.append_nil]
    simp -implicitDefEqProofs [hc]
theorem re_name (a b c : D) (o1 o2 : Option D) (q : Pr) : re_tgt (prD q) [some a, some b, some c, o1, o2] = some [some a, some b, some c, some (.int q.1), some (.int q.2)] := by
  unfold re_tgt
  simp [prD]
theorem re_loop (S : Sto) (a : D) : ∀ (qs : List Pr) (left : Int) (o1 o2 : Option D) (found : List Pr), found.length + qs.length < 100000 → Row qs → 0 ≤ left → (∀ q ∈ qs, left ≤ q.1) → left ≤ 1000000001 →
    ∃ out top o1' o2', forD re_tgt re_body (qs.map prD) [some a, some (.ref S.length), some (.int left), o1, o2] (S ++ [prO found]) = .go .next [some a, some (.ref S.length), some (.int top), o1', o2'] (S ++ [prO (found ++ out)]) ∧
      Row out ∧ (∀ x, Cov out x ↔ left ≤ x ∧ x < top ∧ ¬ Cov qs x) ∧ out.length ≤ qs.length ∧ left ≤ top ∧ top ≤ 1000000001 ∧ (∀ q ∈ qs, q.2 < top) ∧ (∀ q ∈ out, q.2 + 1 < top)
  | [], left, o1, o2, found, _, _, _, _, ht => ⟨[], left, o1, o2, by rw [List.append_nil]; rfl, row_nil, fun x => by
      constructor
      · exact fun c => absurd c (cov_nil x)
      · exact fun c => by omega, by simp, by omega, ht, (fun _ h => nomatch h), (fun _ h => nomatch h)⟩
  | q :: qs, left, o1, o2, found, hl, hq, h0, hle, ht => by
    simp only [List.length_cons] at hl
    have q1 := hq.head.le
    have q2 := hq.head.hi
    have l1 := hle q (List.mem_cons_self ..)
    have lp : (if left < q.1 then [(left, q.1 - 1)] else []).length ≤ 1 := len_if _ _
    obtain ⟨out, top, o1', o2', e, k1, k2, k3, k4, k5, k6, k7⟩ := re_loop S a qs (q.2 + 1) (some (.int q.1)) (some (.int q.2)) (found ++ (if left < q.1 then [(left, q.1 - 1)] else [])) (by rw [List.length_append]; omega) hq.tail (by have := hq.head.lo; omega)
      (fun p hp => by have := (List.pairwise_cons.mp hq.gap).1 p hp; omega) (by omega)
    have kk := re_step (left := left) hq k1 h0 l1 k2 (by omega)
    refine ⟨(if left < q.1 then [(left, q.1 - 1)] else []) ++ out, top, o1', o2', ?_, kk.1, kk.2, by rw [List.length_append, List.length_cons]; omega, by omega, k5, fun p hp => ?_, fun p hp => ?_⟩
    · rw [List.map_cons, forD_cons, re_name, for2_ev, re_turn S a left q found (by omega), for3_next, e, List.append_assoc]
    · rcases List.mem_cons.mp hp with rfl | hp
      · omega
      · exact k6 p hp
    · rcases List.mem_append.mp hp with hp | hp
      · by_cases hc : left < q.1
        · rw [if_pos hc] at hp
          rw [List.mem_singleton.mp hp]
          show q.1 - 1 + 1 < top
          omega
        · rw [if_neg hc] at hp
          exact nomatch hp
      · exact k7 p hp
theorem rest_ok {S : Sto} {d : D} {ps : List Pr} (h : RowD S d ps) (hl : ps.length < 900) (hp : Strs ps) :
    ∃ row, F_rest [d] S = .ok (rowD row) S ∧ Row row ∧ (∀ x, Cov row x ↔ 0 ≤ x ∧ x ≤ 1000000000 ∧ ¬ Cov ps x) ∧ row.length ≤ ps.length + 1 := by
  have h' : RowD (S ++ [prO []]) d ps := items_more _ h
  obtain ⟨a, a1, a2, a3, a4⟩ := joined_ok h' (by omega) hp
  have a1' : F_joined [d] (S ++ [.lst []]) = .ok (rowD a) (S ++ [.lst []]) := a1
  obtain ⟨out, top, o1, o2, e, k1, k2, k3, k4, k5, k6, k7⟩ := re_loop S d a 0 none none [] (by rw [List.length_nil]; omega) a2 (by omega) (fun q hq => (a2.ok q hq).lo) (by omega)
  have e' : forD re_tgt re_body (a.map prD) [some d, some (.ref S.length), some (.int 0), none, none] (S ++ [.lst []]) = .go .next [some d, some (.ref S.length), some (.int top), o1, o2] (S ++ [prO out]) := e
  have hm : isListIn (S ++ [prO out]) (.ref S.length) = true := isListIn_end S _
  have ha := append_pr (S := S) (found := out) (i := top) (j := 1000000000) (by omega)
  by_cases hc : top ≤ 1000000000
  · refine ⟨out ++ [(top, 1000000000)], ?_, ⟨fun p hp => ?_, List.pairwise_append.mpr ⟨k1.gap, List.pairwise_singleton _ _, fun p hp q hq => ?_⟩⟩, fun x => ?_, by rw [List.length_append, List.length_singleton]; omega⟩
    · have ht := tuple_end S (out ++ [(top, 1000000000)]) (by rw [List.length_append, List.length_singleton]; omega)
      unfold F_rest
      rw [defF_ev, m_rest_eq]
      simp -implicitDefEqProofs [mkOpen_ev, a1', e', hc, meth1_ev _ _ _ _ _ hm, mkTup_ev, ha, ht, fin_row]
    · rcases List.mem_append.mp hp with hp | hp
      · exact k1.ok p hp
      · rw [List.mem_singleton.mp hp]
        exact ⟨k4, hc, Int.le_refl _⟩
    · rw [List.mem_singleton.mp hq]
      exact k7 p hp
    · rw [cov_append, cov_one, k2, ← a3]
      have past : Cov a x → x < top := fun ⟨p, hp, c1, c2⟩ => by
        have := k6 p hp
        omega
      by_cases A : Cov a x
      · have := past A
        simp only [A, not_true_eq_false, and_false, false_or, iff_false]
        omega
      · simp only [A, not_false_eq_true, and_true]
        omega
  · refine ⟨out, ?_, k1, fun x => ?_, by omega⟩
    · have ht := tuple_end S out (by omega)
      unfold F_rest
      rw [defF_ev, m_rest_eq]
      simp -implicitDefEqProofs [mkOpen_ev, a1', e', hc, ht, fin_row]
    · rw [k2, ← a3]
      constructor
      · rintro ⟨c1, c2, c3⟩
        exact ⟨c1, by omega, c3⟩
      · rintro ⟨c1, c2, c3⟩
        exact ⟨c1, by omega, c3⟩

/-! ### apart -/
theorem apart_ok {S : Sto} {d e : D} {ps qs : List Pr} (h : RowD S d ps) (h' : RowD S e qs) (hl : ps.length + qs.length < 800) (hp : Strs ps) (hq : Strs qs) :
    ∃ row, F_apart [d, e] S = .ok (rowD row) S ∧ Row row ∧ (∀ x, Cov row x ↔ Cov ps x ∧ ¬ Cov qs x) ∧ row.length ≤ ps.length + qs.length + 1 := by
  obtain ⟨a, a1, a2, a3, a4⟩ := rest_ok h' (by omega) hq
  obtain ⟨row, b1, b2, b3, b4⟩ := both_ok h (row_rowD S a) (by omega) hp a2.ok
  refine ⟨row, ?_, b2, fun x => ?_, by omega⟩
  · have hf : fin S (rowD row) S = .ok (rowD row) S := by simp
    unfold F_apart m_apart
    rw [defF_ev]
    simp -implicitDefEqProofs [a1, b1, hf]
  · rw [b3, a3]
    constructor
    · rintro ⟨c1, _, _, c2⟩
      exact ⟨c1, c2⟩
    · rintro ⟨c1, c2⟩
      have := cov_in hp c1
      exact ⟨c1, this.1, this.2, c2⟩
end Lw
end

section
set_option linter.all false
set_option maxRecDepth 100000
set_option maxHeartbeats 4000000
namespace Lw
open PySem DL
/-! ### rows are equal where they are the same -/
def prP (p : Pr) : PyData := .tuple [.int p.1, .int p.2]
theorem pyA_prs : ∀ ps : List Pr, pyA (ps.map prD) = some (ps.map prP)
  | [] => rfl
  | p :: ps => by
    show (match pyD (prD p), pyA (ps.map prD) with
      | some q, some qs => some (q :: qs)
      | _, _ => none) = _
    rw [pyA_prs ps]
    rfl
theorem pyS_row (S : Sto) (ps : List Pr) : pyS S (rowD ps) = some (.tuple (ps.map prP)) := by
  show (pyA (ps.map prD)).map PyData.tuple = _
  rw [pyA_prs]
  rfl
theorem eqv_prs : ∀ ps : List Pr, PyData.eqvAll (ps.map prP) (ps.map prP) = true
  | [] => by simp [PyData.eqvAll]
  | p :: ps => by simp [PyData.eqvAll, PyData.eqv, prP, eqv_prs ps]
theorem can_prs : ∀ ps : List Pr, PyData.canLayAll0 (ps.map prP) = true
  | [] => by simp [PyData.canLayAll0]
  | p :: ps => by simp [PyData.canLayAll0, PyData.canLay0, prP, can_prs ps]
theorem dep_prs : ∀ ps : List Pr, PyData.depthAll (ps.map prP) ≤ 1
  | [] => by simp [PyData.depthAll]
  | p :: ps => by
    have := dep_prs ps
    simp [PyData.depthAll, PyData.depth, prP]
    omega
theorem shaped_row (ps : List Pr) : SeqAt.shaped (.tuple (ps.map prP)) = true := by
  unfold SeqAt.shaped
  have := dep_prs ps
  rw [Bool.and_eq_true, decide_eq_true_eq]
  constructor
  · simp [PyData.canLay0, can_prs ps]
  · simp [PyData.depth]
    omega
theorem oEq_row (S : Sto) (ps : List Pr) : oEq (rowD ps) (rowD ps) S = .ok (.bl true) S := by
  unfold oEq
  rw [oEqG_ev (pyS_row S ps) (pyS_row S ps) (shaped_row ps) (shaped_row ps)]
  simp [PyData.eqv, eqv_prs]
theorem oNe_row (S : Sto) (ps : List Pr) : oNe (rowD ps) (rowD ps) S = .ok (.bl false) S := by
  unfold oNe
  rw [oEqG_ev (pyS_row S ps) (pyS_row S ps) (shaped_row ps) (shaped_row ps)]
  simp [PyData.eqv, eqv_prs]
theorem oNe_nil (S : Sto) : oNe (rowD []) (.tup []) S = .ok (.bl false) S := oNe_row S []
theorem oEq_lnil (S : Sto) : oEq (.lst []) (.lst []) S = .ok (.bl true) S := by
  unfold oEq
  rw [oEqG_ev (p := .list []) (q := .list []) rfl rfl (by decide) (by decide)]
  simp [PyData.eqv, PyData.eqvAll]

theorem fin_bl (b : Bool) (S : Sto) : fin S (.bl b) S = .ok (.bl b) S := fin_self
theorem compD_map (g : G3) (t : T3) (e : E3) (f : D → D) (σ : DL.Loc) (S : Sto) : ∀ (ds acc : List D), (∀ d ∈ ds, ∃ σ1, g d σ = some σ1 ∧ t σ1 S = .ok true S ∧ e σ1 S = .ok (f d) S) → acc.length + ds.length < 1000000 →
    compD g t e ds acc σ S = .ok (acc ++ ds.map f) S
  | [], acc, _, _ => by rw [List.map_nil, List.append_nil]; rfl
  | d :: ds, acc, h, hl => by
    rw [List.length_cons] at hl
    obtain ⟨σ1, e1, e2, e3⟩ := h d (List.mem_cons_self ..)
    rw [compD_cons, e1, cd1_ev, e2, cd2_true, e3, cd3_ev _ _ _ _ _ _ _ _ (by omega), compD_map g t e f σ S ds (acc ++ [f d]) (fun x hx => h x (List.mem_cons_of_mem _ hx)) (by rw [List.length_append, List.length_singleton]; omega), List.map_cons, List.append_assoc]
    rfl
theorem compD_none (g : G3) (t : T3) (e : E3) (σ : DL.Loc) (S : Sto) : ∀ (ds acc : List D), (∀ d ∈ ds, ∃ σ1, g d σ = some σ1 ∧ t σ1 S = .ok false S) → compD g t e ds acc σ S = .ok acc S
  | [], acc, _ => rfl
  | d :: ds, acc, h => by
    obtain ⟨σ1, e1, e2⟩ := h d (List.mem_cons_self ..)
    rw [compD_cons, e1, cd1_ev, e2, cd2_false, compD_none g t e σ S ds acc fun x hx => h x (List.mem_cons_of_mem _ hx)]
end Lw
end

section
set_option linter.all false
set_option maxRecDepth 100000
set_option maxHeartbeats 4000000
namespace Lw
open PySem DL
theorem joined_is {S : Sto} {d : D} {ps row : List Pr} (h : RowD S d ps) (hl : ps.length < 200) (hp : Strs ps) (hr : Row row) (hc : ∀ x, Cov ps x ↔ Cov row x) : F_joined [d] S = .ok (rowD row) S := by
  obtain ⟨r, a1, a2, a3, _⟩ := joined_ok h (by omega) hp
  rw [a1, row_uniq a2 hr fun x => (a3 x).trans (hc x)]
theorem list_ev {S : Sto} {d : D} {ps : List Pr} (h : RowD S d ps) (hl : ps.length < 200) : fList [d] S = .ok (.lst (ps.map prD)) S := by
  have e : fList [d] S = DL.withItems d S fun xs => mkLst xs S := rfl
  rw [e]
  unfold DL.withItems
  rw [h]
  exact mkLst_ev (by rw [List.length_map]; omega)
theorem cat_row {S : Sto} {a b : List Pr} (h : a.length + b.length < 1000000) : oCat false (rowD a) (rowD b) S = .ok (rowD (a ++ b)) S := by
  have e : oCat false (rowD a) (rowD b) S = DL.guard (sizeOk ((a.map prD).length + (b.map prD).length)) (if (a.map prD).isEmpty then .ok (rowD b) S else if (b.map prD).isEmpty then .ok (rowD a) S else mkTup (a.map prD ++ b.map prD) S) := rfl
  rw [e, guard_ev (size_of (by rw [List.length_map, List.length_map]; omega))]
  cases a with
  | nil => rfl
  | cons p a =>
    cases b with
    | nil => rw [List.append_nil]; rfl
    | cons q b =>
      rw [← List.map_append]
      exact mkTup_ev (by rw [List.length_map, List.length_append]; omega)
theorem cat_lst {S : Sto} {a b : List Pr} (h : a.length + b.length < 1000000) : oCat false (.lst (a.map prD)) (.lst (b.map prD)) S = .ok (.lst ((a ++ b).map prD)) S := by
  have e : oCat false (.lst (a.map prD)) (.lst (b.map prD)) S = DL.guard (sizeOk ((a.map prD).length + (b.map prD).length)) (mkLst (a.map prD ++ b.map prD) S) := rfl
  rw [e, guard_ev (size_of (by rw [List.length_map, List.length_map]; omega)), ← List.map_append]
  exact mkLst_ev (by rw [List.length_map, List.length_append]; omega)
theorem strs_append {a b : List Pr} (h : Strs a) (h' : Strs b) : Strs (a ++ b) := fun p hp => (List.mem_append.mp hp).elim (h p) (h' p)
theorem lst_rowD (S : Sto) (ps : List Pr) : RowD S (.lst (ps.map prD)) ps := rfl
end Lw
end

section
set_option linter.all false
set_option maxRecDepth 100000
set_option maxHeartbeats 4000000
namespace Lw
open PySem DL
theorem both_is {S : Sto} {d e : D} {ps qs row : List Pr} (h : RowD S d ps) (h' : RowD S e qs) (hl : ps.length < 200) (hl' : qs.length < 200) (hp : Strs ps) (hq : Strs qs) (hr : Row row) (hc : ∀ x, (Cov ps x ∧ Cov qs x) ↔ Cov row x) :
    F_both [d, e] S = .ok (rowD row) S := by
  obtain ⟨r, a1, a2, a3, _⟩ := both_ok h h' (by omega) hp hq
  rw [a1, row_uniq a2 hr fun x => (a3 x).trans (hc x)]
end Lw
end

section
set_option linter.all false
set_option maxRecDepth 100000
set_option maxHeartbeats 4000000
namespace Lw
open PySem DL
theorem apart_is {S : Sto} {d e : D} {ps qs row : List Pr} (h : RowD S d ps) (h' : RowD S e qs) (hl : ps.length < 200) (hl' : qs.length < 200) (hp : Strs ps) (hq : Strs qs) (hr : Row row) (hc : ∀ x, (Cov ps x ∧ ¬ Cov qs x) ↔ Cov row x) :
    F_apart [d, e] S = .ok (rowD row) S := by
  obtain ⟨r, a1, a2, a3, _⟩ := apart_ok h h' (by omega) hp hq
  rw [a1, row_uniq a2 hr fun x => (a3 x).trans (hc x)]
end Lw
end

section
set_option linter.all false
set_option maxRecDepth 100000
set_option maxHeartbeats 4000000
namespace Lw
open PySem DL

/-! ### how rows are written -/
structure Dat (p : PyData) (n m : Nat) : Prop where
  sh : p.showable = true
  nd : p.hasDict = false
  dp : p.depth ≤ m
  tx : TxtOk p.shown n
theorem Dat.rep {p : PyData} {n m : Nat} (h : Dat p n m) (hm : m ≤ 60) (hn : n ≤ 1000000) : reprOk p = true := by
  have h1 := h.tx.len
  have h2 := h.dp
  unfold reprOk
  rw [h.sh, h.nd, decide_eq_true (by omega : p.depth ≤ 60), decide_eq_true (by rw [sizeLine_eq]; omega : p.shown.length ≤ sizeLine)]
  rfl
theorem dat_int {i : Int} (h : i.natAbs < 10 ^ 20) : Dat (.int i) 21 0 := by
  refine ⟨?_, by simp [PyData.hasDict], by simp [PyData.depth], txt_int h⟩
  simp only [PyData.showable, decide_eq_true_eq]
  by_cases h0 : i.natAbs = 0
  · rw [h0]
    decide
  · exact (Nat.log2_lt h0).mpr (Nat.lt_of_lt_of_le h (Nat.le_of_lt (by decide +kernel)))
structure Dats (ps : List PyData) (n m : Nat) : Prop where
  sh : PyData.showableAll ps = true
  nd : PyData.hasDictAll ps = false
  dp : PyData.depthAll ps ≤ m
  tx : ∀ t ∈ PyData.shownAll ps, TxtOk t n
  ln : (PyData.shownAll ps).length = ps.length
theorem dats_nil (n m : Nat) : Dats [] n m := ⟨by simp [PyData.showableAll], by simp [PyData.hasDictAll], by simp [PyData.depthAll], by simp [PyData.shownAll], by simp [PyData.shownAll]⟩
theorem dats_cons {p : PyData} {ps : List PyData} {n m : Nat} (h : Dat p n m) (k : Dats ps n m) : Dats (p :: ps) n m := by
  refine ⟨by simp [PyData.showableAll, h.sh, k.sh], by simp [PyData.hasDictAll, h.nd, k.nd], ?_, fun t ht => ?_, by simp [PyData.shownAll, k.ln]⟩
  · simp only [PyData.depthAll]
    exact Nat.max_le.mpr ⟨h.dp, k.dp⟩
  · simp only [PyData.shownAll] at ht
    rcases List.mem_cons.mp ht with rfl | ht
    · exact h.tx
    · exact k.tx t ht
theorem dat_tuple {ps : List PyData} {n m : Nat} (k : Dats ps n m) : Dat (.tuple ps) (ps.length * (n + 2) + 3) (m + 1) := by
  refine ⟨by simp [PyData.showable, k.sh], by simp [PyData.hasDict, k.nd], by simp only [PyData.depth]; have := k.dp; omega, ?_⟩
  simp only [PyData.shown]
  rw [← k.ln]
  exact txt_tuple k.tx
theorem dat_list {ps : List PyData} {n m : Nat} (k : Dats ps n m) : Dat (.list ps) (ps.length * (n + 2) + 3) (m + 1) := by
  refine ⟨by simp [PyData.showable, k.sh], by simp [PyData.hasDict, k.nd], by simp only [PyData.depth]; have := k.dp; omega, ?_⟩
  simp only [PyData.shown]
  rw [← k.ln]
  exact (txt_list k.tx).le (by omega)
theorem dat_pr {q : Pr} (h : Str1 q) : Dat (prP q) 49 1 := by
  have h1 := h.lo
  have h2 := h.le
  have h3 := h.hi
  have big : (1000000000 : Nat) < 10 ^ 20 := by decide +kernel
  exact dat_tuple (dats_cons (dat_int (by omega)) (dats_cons (dat_int (by omega)) (dats_nil 21 0)))
theorem dats_prs : ∀ {ps : List Pr}, Strs ps → Dats (ps.map prP) 49 1
  | [], _ => dats_nil 49 1
  | q :: ps, h => dats_cons (dat_pr (h q (List.mem_cons_self ..))) (dats_prs fun p hp => h p (List.mem_cons_of_mem _ hp))
theorem pyS_lst (S : Sto) (ps : List Pr) : pyS S (.lst (ps.map prD)) = some (.list (ps.map prP)) := by
  show (pyA (ps.map prD)).map PyData.list = _
  rw [pyA_prs]
  rfl
theorem repr_ev {S : Sto} {d : D} {p : PyData} {n m : Nat} (e : pyS S d = some p) (h : Dat p n m) (hm : m ≤ 60) (hn : n ≤ 1000000) : fRepr [d] S = .ok (.str p.shown) S := by
  have q : fRepr [d] S = (match pyS S d with
    | some p => if reprOk p then .ok (.str p.shown) S else .bad
    | none => .bad) := rfl
  rw [q, e]
  exact if_pos (h.rep hm hn)
theorem shaped_str {x : Str} {n : Nat} (h : TxtOk x n) : SeqAt.shaped (.str x) = true := by
  unfold SeqAt.shaped
  have := h.ok
  simp [PyData.canLay0, PyData.depth, this]
theorem oNe_str {x : Str} {n : Nat} (h : TxtOk x n) (S : Sto) : oNe (.str x) (.str x) S = .ok (.bl false) S := by
  unfold oNe
  rw [oEqG_ev (p := .str x) (q := .str x) rfl rfl (shaped_str h) (shaped_str h)]
  simp [PyData.eqv]
theorem repr_row {ps : List Pr} (h : Strs ps) (hl : ps.length < 1000) : ∃ x n, TxtOk x n ∧ (∀ S, fRepr [rowD ps] S = .ok (.str x) S) := by
  have k := dat_tuple (dats_prs h)
  rw [List.length_map] at k
  exact ⟨_, _, k.tx, fun S => repr_ev (pyS_row S ps) k (by decide) (by omega)⟩
theorem given_dat {d : D} {ps : List Pr} (h : Given d ps) : ∃ p, (∀ S, pyS S d = some p) ∧ pyD d = some p ∧ Dat p 513 2 := by
  obtain ⟨h1, h2, h3⟩ := h
  have k := dats_prs (ps := ps) fun q hq => ⟨(h3 q hq).1, (h3 q hq).2.1, (h3 q hq).2.2⟩
  have wide : ∀ {p : PyData} {n : Nat}, Dat p n 2 → n ≤ 513 → Dat p 513 2 := fun h e => ⟨h.sh, h.nd, h.dp, h.tx.le e⟩
  rcases h1 with rfl | rfl
  · exact ⟨_, fun S => pyS_lst S ps, pyS_lst [] ps, wide (dat_list k) (by rw [List.length_map]; omega)⟩
  · exact ⟨_, fun S => pyS_row S ps, pyS_row [] ps, wide (dat_tuple k) (by rw [List.length_map]; omega)⟩
theorem repr_given {d : D} {ps : List Pr} (h : Given d ps) : ∃ x n, TxtOk x n ∧ (∀ S, fRepr [d] S = .ok (.str x) S) := by
  obtain ⟨p, e, _, k⟩ := given_dat h
  exact ⟨_, _, k.tx, fun S => repr_ev (e S) k (by decide) (by decide)⟩
theorem repr_two {d e : D} {ps qs : List Pr} (h : Given d ps) (h' : Given e qs) : ∃ x n, TxtOk x n ∧ (∀ S, fRepr [.tup [d, e]] S = .ok (.str x) S) := by
  obtain ⟨p, _, e1, k⟩ := given_dat h
  obtain ⟨q, _, e2, k'⟩ := given_dat h'
  have kk := dat_tuple (dats_cons k (dats_cons k' (dats_nil 513 2)))
  refine ⟨_, _, kk.tx, fun S => repr_ev ?_ kk (by decide) (by simp)⟩
  show (pyA [d, e]).map PyData.tuple = _
  simp [pyA, e1, e2]
end Lw
end

section
set_option linter.all false
set_option maxRecDepth 100000
set_option maxHeartbeats 4000000
namespace Lw
open PySem DL

/-! ### the wall in tiles -/
/-- tiles from a place on to the last one -/
def Tiles : Int → List Pr → Prop
  | c, [] => c = 1000000001
  | c, q :: ts => q.1 = c ∧ q.1 ≤ q.2 ∧ Tiles (q.2 + 1) ts
theorem Tiles.low : ∀ {c : Int} {ts : List Pr}, Tiles c ts → c ≤ 1000000001
  | c, [], h => by have : c = 1000000001 := h; omega
  | c, q :: ts, h => by
    have := Tiles.low h.2.2
    have := h.1
    have := h.2.1
    omega
/-- a thing is the same all over each tile -/
def Flat (P : Int → Prop) (ts : List Pr) : Prop := ∀ q ∈ ts, ∀ x, q.1 ≤ x → x ≤ q.2 → (P x ↔ P q.1)
/-- the tiles that fit, as places -/
theorem tile_cov (P : Int → Prop) : ∀ {c : Int} {ts : List Pr}, Tiles c ts → Flat P ts → ∀ x, c ≤ x → x ≤ 1000000000 → (P x ↔ ∃ q ∈ ts, P q.1 ∧ q.1 ≤ x ∧ x ≤ q.2)
  | c, [], h, _, x, h1, h2 => by
    have : c = 1000000001 := h
    omega
  | c, q :: ts, h, f, x, h1, h2 => by
    obtain ⟨a1, a2, a3⟩ := h
    have ih := tile_cov P a3 fun p hp => f p (List.mem_cons_of_mem _ hp)
    have fq := f q (List.mem_cons_self ..)
    have out : ∀ p ∈ ts, q.2 + 1 ≤ p.1 := by
      intro p hp
      have low : ∀ {c : Int} {ts : List Pr}, Tiles c ts → ∀ p ∈ ts, c ≤ p.1 := by
        intro c ts
        induction ts generalizing c with
        | nil => intro _ p hp; cases hp
        | cons r ts ih =>
          intro h p hp
          rcases List.mem_cons.mp hp with rfl | hp
          · have := h.1
            omega
          · have := ih h.2.2 p hp
            have := h.1
            have := h.2.1
            omega
      exact low a3 p hp
    by_cases k : x ≤ q.2
    · rw [fq x (by omega) k]
      constructor
      · exact fun hp => ⟨q, List.mem_cons_self .., hp, by omega, k⟩
      · rintro ⟨p, hp, b1, b2, b3⟩
        rcases List.mem_cons.mp hp with rfl | hp
        · exact b1
        · have := out p hp
          omega
    · rw [ih x (by omega) h2]
      constructor
      · exact fun ⟨p, hp, b⟩ => ⟨p, List.mem_cons_of_mem _ hp, b⟩
      · rintro ⟨p, hp, b1, b2, b3⟩
        rcases List.mem_cons.mp hp with rfl | hp
        · omega
        · exact ⟨p, hp, b1, b2, b3⟩

/-- tiles between spots -/
def bd : List Int → List Pr
  | [] => []
  | [s] => [(s, 1000000000)]
  | s :: t :: r => (s, t - 1) :: bd (t :: r)
theorem bd_tiles : ∀ {s : Int} {r : List Int}, (s :: r).Pairwise (· < ·) → (∀ x ∈ s :: r, x ≤ 1000000000) → Tiles s (bd (s :: r))
  | s, [], _, h => ⟨rfl, h s (by simp), rfl⟩
  | s, t :: r, hp, h => by
    obtain ⟨h1, h2⟩ := List.pairwise_cons.mp hp
    have := h1 t (List.mem_cons_self ..)
    refine ⟨rfl, by show s ≤ t - 1; omega, ?_⟩
    have e : (s, t - 1).2 + 1 = t := by show t - 1 + 1 = t; omega
    rw [e]
    exact bd_tiles h2 fun x hx => h x (List.mem_cons_of_mem _ hx)
theorem bd_in : ∀ {s : Int} {r : List Int}, (s :: r).Pairwise (· < ·) → ∀ q ∈ bd (s :: r), ∀ x ∈ s :: r, x ≤ q.1 ∨ q.2 < x
  | s, [], _, q, hq, x, hx => by
    have e : q = (s, 1000000000) := List.mem_singleton.mp hq
    have e2 : x = s := List.mem_singleton.mp hx
    rw [e, e2]
    exact .inl (Int.le_refl _)
  | s, t :: r, hp, q, hq, x, hx => by
    obtain ⟨h1, h2⟩ := List.pairwise_cons.mp hp
    have st := h1 t (List.mem_cons_self ..)
    have low : ∀ {s : Int} {r : List Int}, (s :: r).Pairwise (· < ·) → ∀ q ∈ bd (s :: r), s ≤ q.1 := by
      intro s r
      induction r generalizing s with
      | nil =>
        intro _ q hq
        have e : q = (s, 1000000000) := List.mem_singleton.mp hq
        rw [e]
        exact Int.le_refl _
      | cons t r ih =>
        intro hp q hq
        obtain ⟨h1, h2⟩ := List.pairwise_cons.mp hp
        have := h1 t (List.mem_cons_self ..)
        rcases List.mem_cons.mp hq with rfl | hq
        · exact Int.le_refl _
        · have := ih h2 q hq
          omega
    rcases List.mem_cons.mp hq with rfl | hq'
    · rcases List.mem_cons.mp hx with rfl | hx
      · exact .inl (Int.le_refl _)
      · right
        show t - 1 < x
        rcases List.mem_cons.mp hx with rfl | hx
        · omega
        · have := (List.pairwise_cons.mp h2).1 x hx
          omega
    · rcases List.mem_cons.mp hx with rfl | hx
      · left
        have := low h2 q hq'
        omega
      · exact bd_in h2 q hq' x hx

/-! the spots of stretches -/
def sp : List Pr → List Int
  | [] => []
  | p :: ps => p.1 :: (if p.2 < 1000000000 then [p.2 + 1] else []) ++ sp ps
theorem sp_mem {p : Pr} : ∀ {ps : List Pr}, p ∈ ps → p.1 ∈ sp ps ∧ (p.2 < 1000000000 → p.2 + 1 ∈ sp ps)
  | q :: ps, h => by
    unfold sp
    rcases List.mem_cons.mp h with rfl | h
    · refine ⟨by simp, fun k => ?_⟩
      rw [if_pos k]
      simp
    · obtain ⟨h1, h2⟩ := sp_mem h
      exact ⟨List.mem_append_right _ h1, fun k => List.mem_append_right _ (h2 k)⟩
theorem sp_in : ∀ {ps : List Pr}, Strs ps → ∀ x ∈ sp ps, 0 ≤ x ∧ x ≤ 1000000000
  | [], _, x, h => by cases h
  | p :: ps, hs, x, h => by
    have hp := hs p (List.mem_cons_self ..)
    have h1 := hp.lo
    have h2 := hp.le
    have h3 := hp.hi
    unfold sp at h
    rcases List.mem_append.mp h with h | h
    · rcases List.mem_cons.mp h with rfl | h
      · omega
      · by_cases k : p.2 < 1000000000
        · rw [if_pos k] at h
          have := List.mem_singleton.mp h
          omega
        · rw [if_neg k] at h
          cases h
    · exact sp_in (fun q hq => hs q (List.mem_cons_of_mem _ hq)) x h
theorem sp_len : ∀ ps : List Pr, (sp ps).length ≤ 2 * ps.length
  | [] => Nat.le_refl _
  | p :: ps => by
    have := sp_len ps
    unfold sp
    rw [List.length_append, List.length_cons, List.length_cons]
    split <;> simp <;> omega
def spots (ps : List Pr) : List Int := setI (0 :: sp ps)
theorem spots_head {ps : List Pr} (h : Strs ps) : ∃ r, spots ps = 0 :: r ∧ (0 :: r).Pairwise (· < ·) ∧ (∀ x ∈ 0 :: r, x ≤ 1000000000) ∧ ∀ x, x ∈ 0 :: r ↔ x = 0 ∨ x ∈ sp ps := by
  have up := setI_up (0 :: sp ps)
  have mem := fun x => setI_mem x (0 :: sp ps)
  unfold spots
  cases e : setI (0 :: sp ps) with
  | nil =>
    have := (mem 0).mpr (by simp)
    rw [e] at this
    cases this
  | cons s r =>
    rw [e] at up mem
    have m0 := (mem 0).mpr (by simp)
    have ms := (mem s).mp (by simp)
    have s0 : s = 0 := by
      rcases List.mem_cons.mp ms with k | k
      · exact k
      · have := (sp_in h s k).1
        rcases List.mem_cons.mp m0 with q | q
        · exact q.symm
        · have := (List.pairwise_cons.mp up).1 0 q
          omega
    subst s0
    refine ⟨r, rfl, up, fun x hx => ?_, fun x => by rw [mem, List.mem_cons]⟩
    rcases List.mem_cons.mp ((mem x).mp hx) with k | k
    · omega
    · exact (sp_in h x k).2
/-- whether a place is in some, is the same on each tile between their spots -/
theorem cov_flat {ps qs : List Pr} (h : Strs ps) (hq : ∀ p ∈ qs, p ∈ ps) : Flat (Cov qs) (bd (spots ps)) := by
  obtain ⟨r, e, up, hi, mem⟩ := spots_head h
  rw [e]
  intro q hq2 x h1 h2
  have b := bd_in up q hq2
  have one : ∀ p ∈ ps, (p.1 ≤ x ∧ x ≤ p.2 ↔ p.1 ≤ q.1 ∧ q.1 ≤ p.2) := fun p hp => by
    obtain ⟨m1, m2⟩ := sp_mem hp
    have k1 := b p.1 ((mem _).mpr (.inr m1))
    have hh := h p hp
    have hh2 := hh.hi
    by_cases k : p.2 < 1000000000
    · have k2 := b (p.2 + 1) ((mem _).mpr (.inr (m2 k)))
      omega
    · have low : q.2 ≤ 1000000000 := by
        have top : ∀ {c : Int} {ts : List Pr}, Tiles c ts → ∀ p ∈ ts, p.2 ≤ 1000000000 := by
          intro c ts
          induction ts generalizing c with
          | nil => intro _ p hp; cases hp
          | cons r ts ih =>
            intro h p hp
            rcases List.mem_cons.mp hp with rfl | hp
            · have := h.2.2.low
              omega
            · exact ih h.2.2 p hp
        exact top (bd_tiles up hi) q hq2
      omega
  unfold Cov
  constructor
  · rintro ⟨p, hp, k⟩
    exact ⟨p, hp, (one p (hq p hp)).mp k⟩
  · rintro ⟨p, hp, k⟩
    exact ⟨p, hp, (one p (hq p hp)).mpr k⟩
end Lw
end

section
set_option linter.all false
set_option maxRecDepth 100000
set_option maxHeartbeats 4000000
namespace Lw
open PySem DL

/-! ### spots -/
def Walk (d : D) (ps : List Pr) : Prop := (∀ S, RowD S d ps) ∧ ∀ S, walk1 (.ok d S) = .ok (ps.map prD) S
theorem walk_lst (ps : List Pr) : Walk (.lst (ps.map prD)) ps := ⟨fun _ => rfl, fun _ => rfl⟩
theorem walk_tup (ps : List Pr) : Walk (.tup (ps.map prD)) ps := ⟨fun _ => rfl, fun _ => rfl⟩
theorem given_walk {d : D} {ps : List Pr} (h : Given d ps) : Walk d ps ∧ ps.length ≤ 10 ∧ Strs ps := by
  obtain ⟨h1, h2, h3⟩ := h
  refine ⟨?_, h2, fun p hp => ⟨(h3 p hp).1, (h3 p hp).2.1, (h3 p hp).2.2⟩⟩
  rcases h1 with rfl | rfl
  · exact walk_lst ps
  · exact walk_tup ps
theorem append_int {S : Sto} {xs : List Int} {i : Int} (hl : xs.length < 100000) : fAppend (.ref S.length) [.int i] (S ++ [lotO xs]) = .ok .non (S ++ [lotO (xs ++ [i])]) := by
  rw [append_end (by rw [List.length_map]; omega)]
  simp
noncomputable def sp_body : S3 := (mSeq (mExpr (mMethL fAppend (mVar 1) (mCons (mBin oIx (mVar 2) (mC (.int 0))) mNil)))
    (mIfS (fun σ S => asB (mBin oLtA (mBin oIx (mVar 2) (mC (.int 1))) (mBin oPow (mC (.int 10)) (mC (.int 9))) σ S)) (mExpr (mMethL fAppend (mVar 1) (mCons (mBin (oCat false) (mBin oIx (mVar 2) (mC (.int 1))) (mC (.int 1))) mNil))) mNext))
theorem m_spots_eq : m_l_spots = (mSeq (mAsg (mMake mkOpen (mCons (mC (.int 0)) mNil)) (g3Name 1))
    (mSeq (mFor (mWalk (mVar 0)) (g3Name 2) sp_body)
    (mRet (mMake fSortSet (mCons (mVar 1) mNil))))) := rfl
theorem sp_turn (S : Sto) (d : D) (q : Pr) (xs : List Int) (hl : xs.length < 1000) : sp_body [some d, some (.ref S.length), some (prD q)] (S ++ [lotO xs]) =
    .go .next [some d, some (.ref S.length), some (prD q)] (S ++ [lotO (xs ++ (q.1 :: if q.2 < 1000000000 then [q.2 + 1] else []))]) := by
  have m1 : isListIn (S ++ [lotO xs]) (.ref S.length) = true := isListIn_end S _
  have m2 : isListIn (S ++ [lotO (xs ++ [q.1])]) (.ref S.length) = true := isListIn_end S _
  have a1 := append_int (S := S) (xs := xs) (i := q.1) (by omega)
  have a2 := append_int (S := S) (xs := xs ++ [q.1]) (i := q.2 + 1) (by rw [List.length_append, List.length_singleton]; omega)
  unfold sp_body
  by_cases hc : q.2 < 1000000000
  · rw [if_pos hc]
    have e : xs ++ q.1 :: [q.2 + 1] = xs ++ [q.1] ++ [q.2 + 1] := by simp
    rw [e]
    simp -implicitDefEqProofs [-List.map_append, -List.append_assoc, prD, meth1_ev _ _ _ _ _ m1, meth1_ev _ _ _ _ _ m2, a1, a2, oPow_ev, hc]
  · rw [if_neg hc]
    simp -implicitDefEqProofs [-List.map_append, -List.append_assoc, prD, meth1_ev _ _ _ _ _ m1, a1, oPow_ev, hc]
theorem sp_loop (S : Sto) (d : D) : ∀ (ps : List Pr) (o : Option D) (xs : List Int), xs.length + 2 * ps.length < 1000 →
    ∃ o', forD (g3Name 2) sp_body (ps.map prD) [some d, some (.ref S.length), o] (S ++ [lotO xs]) = .go .next [some d, some (.ref S.length), o'] (S ++ [lotO (xs ++ sp ps)])
  | [], o, xs, _ => ⟨o, by unfold sp; rw [List.append_nil]; rfl⟩
  | q :: ps, o, xs, hl => by
    rw [List.length_cons] at hl
    obtain ⟨o', e⟩ := sp_loop S d ps (some (prD q)) (xs ++ (q.1 :: if q.2 < 1000000000 then [q.2 + 1] else [])) (by
      rw [List.length_append, List.length_cons]
      split <;> simp <;> omega)
    refine ⟨o', ?_⟩
    rw [List.map_cons, forD_cons, g3Name_ev, for2_ev]
    simp only [List.set_cons_succ, List.set_cons_zero]
    rw [sp_turn S d q xs (by omega), for3_next, e]
    have es : sp (q :: ps) = (q.1 :: if q.2 < 1000000000 then [q.2 + 1] else []) ++ sp ps := rfl
    rw [es, List.append_assoc]
theorem sortSet_end (S : Sto) (xs : List Int) (hl : xs.length < 64) (hs : (setI xs).length ≤ 1000000) : fSortSet [.ref S.length] (S ++ [lotO xs]) = .ok (.lst ((setI xs).map D.int)) (S ++ [lotO xs]) := by
  have hit : itemsOf (S ++ [lotO xs]) (.ref S.length) = some (xs.map D.int) := by
    rw [itemsOf_refE, end_get]
    rfl
  have e : fSortSet [.ref S.length] (S ++ [lotO xs]) = DL.withItems (.ref S.length) (S ++ [lotO xs]) fun xs' => match insOf xs' with
    | some ns => if isTupD (.ref S.length) then .bad else DL.guard (decide (ns.length < 64)) (mkLst ((setI ns).map D.int) (S ++ [lotO xs]))
    | none => .bad := rfl
  rw [e]
  unfold DL.withItems
  rw [hit]
  simp only [insOf_map]
  rw [if_neg (show ¬ isTupD (.ref S.length) = true from Bool.false_ne_true), guard_ev (decide_eq_true hl)]
  exact mkLst_ev (by rw [List.length_map]; exact hs)
theorem setI_len : ∀ xs : List Int, (setI xs).length ≤ xs.length
  | [] => Nat.le_refl _
  | x :: xs => by
    have one : ∀ (n : Int) (ms : List Int), (oneI n ms).length ≤ ms.length + 1 := by
      intro n ms
      induction ms with
      | nil => exact Nat.le_refl _
      | cons m ms ih =>
        unfold oneI
        split
        · exact Nat.le_refl _
        · split
          · exact Nat.le_succ _
          · rw [List.length_cons, List.length_cons]
            omega
    have := setI_len xs
    have := one x (setI xs)
    unfold setI
    rw [List.length_cons]
    omega
theorem spots_ok {S : Sto} {d : D} {ps : List Pr} (h : Walk d ps) (hl : ps.length ≤ 30) : F_l_spots [d] S = .ok (.lst ((spots ps).map D.int)) S := by
  obtain ⟨o', e⟩ := sp_loop S d ps none [0] (by rw [List.length_singleton]; omega)
  have l1 := sp_len ps
  have l2 := setI_len (0 :: sp ps)
  rw [List.length_cons] at l2
  have hs := sortSet_end S (0 :: sp ps) (by rw [List.length_cons]; omega) (by omega)
  have e' : forD (g3Name 2) sp_body (ps.map prD) [some d, some (.ref S.length), none] (S ++ [.lst [.int 0]]) = .go .next [some d, some (.ref S.length), o'] (S ++ [lotO (0 :: sp ps)]) := e
  have hw := h.2 (S ++ [.lst [.int 0]])
  have hf : fin S (.lst ((spots ps).map D.int)) (S ++ [lotO (0 :: sp ps)]) = .ok (.lst ((spots ps).map D.int)) S := fin_data S _ _ (closed_ints _ _)
  have hs' : fSortSet [.ref S.length] (S ++ [lotO (0 :: sp ps)]) = .ok (.lst ((spots ps).map D.int)) (S ++ [lotO (0 :: sp ps)]) := hs
  unfold F_l_spots
  rw [defF_ev, m_spots_eq]
  simp -implicitDefEqProofs [mkOpen_ev, hw, e', hs', hf]

/-! ### bends -/
theorem prs2_bd : ∀ (s : Int) (r : List Int), prs2 ((s :: r).map D.int) (r.map (fun x => D.int (x - 1)) ++ [.int 1000000000]) = (bd (s :: r)).map prD
  | s, [] => rfl
  | s, t :: r => by
    have ih := prs2_bd t r
    show D.tup [.int s, .int (t - 1)] :: prs2 ((t :: r).map D.int) (r.map (fun x => D.int (x - 1)) ++ [.int 1000000000]) = prD (s, t - 1) :: (bd (t :: r)).map prD
    rw [ih]
    rfl
theorem bends_ok {S : Sto} {d : D} {ps : List Pr} (h : Walk d ps) (hl : ps.length ≤ 30) (hs : Strs ps) : F_l_bends [d] S = .ok (.lst ((bd (spots ps)).map prD)) S := by
  have e1 := spots_ok (S := S) h hl
  obtain ⟨r, er, up, hi, mem⟩ := spots_head hs
  have l1 := sp_len ps
  have l2 := setI_len (0 :: sp ps)
  have l3 : (spots ps).length ≤ 1 + 2 * ps.length := by
    rw [List.length_cons] at l2
    show (setI (0 :: sp ps)).length ≤ _
    omega
  rw [er] at e1 l3 ⊢
  rw [List.length_cons] at l3
  have sl : slD false (.lst ((0 :: r).map D.int)) (some 1) none S = .ok (.lst (r.map D.int)) S := by
    have q : slD false (.lst ((0 :: r).map D.int)) (some 1) none S = mkLst (cutG ((0 :: r).map D.int) (some 1) none) S := rfl
    have c : cutG ((0 :: r).map D.int) (some 1) none = r.map D.int := by
      unfold cutG
      rw [HT.sIx_none, show ((1 : Int)) = ((1 : Nat) : Int) from rfl, HT.sIx_nat]
      have m : min 1 ((0 :: r).map D.int).length = 1 := by
        rw [List.length_map, List.length_cons]
        omega
      rw [m]
      show (r.map D.int).take _ = _
      rw [List.take_of_length_le (by simp)]
    rw [q, c]
    exact mkLst_ev (by rw [List.length_map]; omega)
  have cm : compD (g3Name 3) tTrue3 (mBin oSub (mVar 3) (mC (.int 1))) (r.map D.int) [] [some d, some (.lst ((0 :: r).map D.int)), none, none] S = .ok (r.map (fun x => D.int (x - 1))) S := by
    rw [compD_map _ _ _ (fun v => match v with | .int x => .int (x - 1) | v => v) _ _ _ _ (fun v hv => ?_) (by rw [List.length_map, List.length_nil]; omega), List.map_map, List.nil_append]
    · rfl
    · obtain ⟨x, _, rfl⟩ := List.mem_map.mp hv
      exact ⟨_, rfl, rfl, rfl⟩
  have ct : oCat false (.lst (r.map (fun x => D.int (x - 1)))) (.lst [.int 1000000000]) S = .ok (.lst (r.map (fun x => D.int (x - 1)) ++ [.int 1000000000])) S := by
    have q : oCat false (.lst (r.map (fun x => D.int (x - 1)))) (.lst [.int 1000000000]) S = DL.guard (sizeOk ((r.map (fun x => D.int (x - 1))).length + 1)) (mkLst (r.map (fun x => D.int (x - 1)) ++ [.int 1000000000]) S) := rfl
    rw [q, guard_ev (size_of (by rw [List.length_map]; omega))]
    exact mkLst_ev (by rw [List.length_append, List.length_map, List.length_singleton]; omega)
  have bl : (bd (0 :: r)).length ≤ 1000 := by
    rw [← List.length_map (f := prD), ← prs2_bd, prs2_len, List.length_map, List.length_cons]
    omega
  have zp : fListZip [.lst ((0 :: r).map D.int), .lst (r.map (fun x => D.int (x - 1)) ++ [.int 1000000000])] S = .ok (.lst ((bd (0 :: r)).map prD)) S := by
    have q : fListZip [.lst ((0 :: r).map D.int), .lst (r.map (fun x => D.int (x - 1)) ++ [.int 1000000000])] S = DL.guard (sizeOk ((0 :: r).map D.int).length) (mkLst (prs2 ((0 :: r).map D.int) (r.map (fun x => D.int (x - 1)) ++ [.int 1000000000])) S) := rfl
    rw [q, guard_ev (size_of (by rw [List.length_map, List.length_cons]; omega)), prs2_bd]
    exact mkLst_ev (by rw [List.length_map]; omega)
  have w : wipeD [some d, some (.lst ((0 :: r).map D.int)), none, none] [3] = [some d, some (.lst ((0 :: r).map D.int)), none, none] := rfl
  have hf : ∀ v, fin S v S = .ok v S := fun v => fin_same rfl
  clear er up hi mem l1 l2 l3 bl
  generalize (0 :: r).map D.int = A at *
  unfold F_l_bends m_l_bends
  rw [defF_ev]
  simp -implicitDefEqProofs [e1, sl, w, cm, mkLst_ev, oPow_ev, ct, zp, hf]
end Lw
end

section
set_option linter.all false
set_option maxRecDepth 100000
set_option maxHeartbeats 4000000
namespace Lw
open PySem DL

/-! ### whether a place is in some -/
theorem compD_filter (g : G3) (t : T3) (e : E3) (c : Pr → Bool) (σ : DL.Loc) (S : Sto) : ∀ (ps acc : List Pr), (∀ q : Pr, ∃ σ1, g (prD q) σ = some σ1 ∧ t σ1 S = .ok (c q) S ∧ e σ1 S = .ok (prD q) S) → acc.length + ps.length < 1000000 →
    compD g t e (ps.map prD) (acc.map prD) σ S = .ok ((acc ++ ps.filter c).map prD) S
  | [], acc, _, _ => by rw [List.filter_nil, List.append_nil]; rfl
  | q :: ps, acc, h, hl => by
    rw [List.length_cons] at hl
    obtain ⟨σ1, e1, e2, e3⟩ := h q
    rw [List.map_cons, compD_cons, e1, cd1_ev, e2]
    cases hc : c q with
    | true =>
      rw [cd2_true, e3, cd3_ev _ _ _ _ _ _ _ _ (by rw [List.length_map]; omega), List.filter_cons_of_pos hc]
      have ih := compD_filter g t e c σ S ps (acc ++ [q]) h (by rw [List.length_append, List.length_singleton]; omega)
      rw [List.map_append] at ih
      rw [List.append_assoc] at ih
      exact ih
    | false =>
      rw [cd2_false, List.filter_cons_of_neg (by simp [hc])]
      exact compD_filter g t e c σ S ps acc h (by omega)
def inP (x : Int) (q : Pr) : Bool := decide (q.1 ≤ x) && decide (x ≤ q.2)
def covB (ps : List Pr) (x : Int) : Bool := !(ps.filter (inP x)).isEmpty
theorem covB_iff (ps : List Pr) (x : Int) : covB ps x = true ↔ Cov ps x := by
  unfold covB Cov
  rw [Bool.not_eq_true', List.isEmpty_eq_false_iff_exists_mem]
  simp only [List.mem_filter, inP, Bool.and_eq_true, decide_eq_true_eq]
theorem shaped_lst (ps : List Pr) : SeqAt.shaped (.list (ps.map prP)) = true := by
  unfold SeqAt.shaped
  have := dep_prs ps
  rw [Bool.and_eq_true, decide_eq_true_eq]
  constructor
  · simp [PyData.canLay0, can_prs ps]
  · simp [PyData.depth]
    omega
theorem oNe_none (ps : List Pr) (S : Sto) : oNe (.lst (ps.map prD)) (.lst []) S = .ok (.bl (!ps.isEmpty)) S := by
  unfold oNe
  rw [oEqG_ev (q := .list []) (pyS_lst S ps) rfl (shaped_lst ps) (by decide)]
  cases ps with
  | nil => simp [PyData.eqv, PyData.eqvAll]
  | cons p ps => simp [PyData.eqv, PyData.eqvAll]
noncomputable def ov_test : T3 := (fun σ S => asB (mChain oLeA oLeA (mBin oIx (mVar 2) (mC (.int 0))) (mVar 1) (mBin oIx (mVar 2) (mC (.int 1))) σ S))
theorem m_over_eq : m_l_over = (mRet (mBin oNe (mComp false (mWalk (mVar 0)) (g3Name 2) ov_test (mVar 2) [2]) (mMake mkLst mNil))) := rfl
theorem over_ok {S : Sto} {d : D} {ps : List Pr} (h : Walk d ps) (hl : ps.length < 1000) (x : Int) : F_l_over [d, .int x] S = .ok (.bl (covB ps x)) S := by
  have cm : compD (g3Name 2) ov_test (mVar 2) (ps.map prD) [] [some d, some (.int x), none] S = .ok ((ps.filter (inP x)).map prD) S := by
    refine compD_filter (g3Name 2) ov_test (mVar 2) (inP x) _ S ps [] (fun q => ⟨[some d, some (.int x), some (prD q)], rfl, ?_, rfl⟩) (by rw [List.length_nil]; omega)
    unfold ov_test inP prD
    by_cases k : q.1 ≤ x
    · simp [k]
    · simp [k]
  have hw := h.2 S
  have w : wipeD [some d, some (.int x), none] [2] = [some d, some (.int x), none] := rfl
  have ne := oNe_none (ps.filter (inP x)) S
  unfold F_l_over covB
  generalize ps.filter (inP x) = fs at *
  rw [defF_ev, m_over_eq]
  simp -implicitDefEqProofs [hw, w, cm, mkLst_ev, ne, fin_bl]

/-! ### the tiles that fit, as a row -/
theorem append_pr' {S : Sto} {found : List Pr} {i j : Int} (hl : found.length < 1000000) : fAppend (.ref S.length) [.tup [.int i, .int j]] (S ++ [prO found]) = .ok .non (S ++ [prO (found ++ [(i, j)])]) := by
  rw [append_end (by simp; omega)]
  simp [prD]
noncomputable def ro_body : S3 := (mIfS (tAnd3 (fun σ S => asT ((mBin oIx (mVar 1) (mVar 3)) σ S)) (tAnd3 (fun σ S => asB (mBin oGtA (mVar 3) (mC (.int 0)) σ S)) (fun σ S => asT ((mBin oIx (mVar 1) (mBin oSub (mVar 3) (mC (.int 1)))) σ S)))) (mSetIx (mVar 2) (mNeg (mC (.int 1))) (mMake mkTup (mCons (mBin oIx (mBin oIx (mVar 2) (mNeg (mC (.int 1)))) (mC (.int 0))) (mCons (mBin oIx (mBin oIx (mVar 0) (mVar 3)) (mC (.int 1))) mNil)))) (mIfS (fun σ S => asT ((mBin oIx (mVar 1) (mVar 3)) σ S)) (mExpr (mMethL fAppend (mVar 2) (mCons (mBin oIx (mVar 0) (mVar 3)) mNil))) mNext))
theorem m_lrowed_eq : m_l_rowed = (mSeq (mAsg (mMake mkOpen mNil) (g3Name 2))
    (mSeq (mFor (mRange1 (mCons (mMake fLen (mCons (mVar 0) mNil)) mNil)) (g3Name 3) ro_body)
    (mRet (mMake fTuple (mCons (mVar 2) mNil))))) := rfl
abbrev roL (S : Sto) (T : List Pr) (fs : List Bool) (k : Nat) : DL.Loc := [some (.lst (T.map prD)), some (.lst (fs.map D.bl)), some (.ref S.length), some (.int k)]
theorem get_bl {fs : List Bool} {i : Nat} {b : Bool} (h : fs[i]? = some b) : L2.atI (fs.map D.bl) (i : Int) = some (.bl b) := by
  rw [L2.atI_nat (v := .bl b)]
  rw [List.getElem?_map, h]
  rfl
theorem ro_skip (S : Sto) (T : List Pr) (fs : List Bool) (k : Nat) (found : List Pr) (hf : fs[k]? = some false) : ro_body (roL S T fs k) (S ++ [prO found]) = .go .next (roL S T fs k) (S ++ [prO found]) := by
  have e := get_bl hf
  unfold ro_body
  simp -implicitDefEqProofs [e, truD]
theorem ro_put (S : Sto) (T : List Pr) (fs : List Bool) (k : Nat) (found : List Pr) (q : Pr) (hf : fs[k]? = some true) (hq : T[k]? = some q) (hl : found.length < 100000) (hp : k = 0 ∨ ∃ j, k = j + 1 ∧ fs[j]? = some false) :
    ro_body (roL S T fs k) (S ++ [prO found]) = .go .next (roL S T fs k) (S ++ [prO (found ++ [q])]) := by
  have e := get_bl hf
  have eq := get_pr hq
  have hm : isListIn (S ++ [prO found]) (.ref S.length) = true := isListIn_end S _
  have ha := append_pr' (S := S) (found := found) (i := q.1) (j := q.2) (by omega)
  unfold ro_body
  rcases hp with rfl | ⟨j, rfl, hj⟩
  · have e' : L2.atI (fs.map D.bl) 0 = some (.bl true) := e
    have eq' : L2.atI (T.map prD) 0 = some (.tup [.int q.1, .int q.2]) := eq
    simp -implicitDefEqProofs [e', eq', truD, meth1_ev _ _ _ _ _ hm, ha]
  · have ej := get_bl hj
    have k1 : ((j + 1 : Nat) : Int) - 1 = (j : Int) := by omega
    have k2 : (0 : Int) < ((j + 1 : Nat) : Int) := by omega
    generalize hkk : ((j + 1 : Nat) : Int) = kk at *
    unfold roL
    rw [hkk]
    simp -implicitDefEqProofs [e, eq, ej, k1, k2, truD, meth1_ev _ _ _ _ _ hm, ha]
theorem ro_join (S : Sto) (T : List Pr) (fs : List Bool) (j : Nat) (xs : List Pr) (l q : Pr) (hf : fs[j + 1]? = some true) (hj : fs[j]? = some true) (hq : T[j + 1]? = some q) :
    ro_body (roL S T fs (j + 1)) (S ++ [prO (xs ++ [l])]) = .go .next (roL S T fs (j + 1)) (S ++ [prO (xs ++ [(l.1, q.2)])]) := by
  have e := get_bl hf
  have ej := get_bl hj
  have eq := get_pr hq
  have k1 : ((j + 1 : Nat) : Int) - 1 = (j : Int) := by omega
  have k2 : (0 : Int) < ((j + 1 : Nat) : Int) := by omega
  have hx : L2.atI ((xs ++ [l]).map prD) (-1) = some (.tup [.int l.1, .int l.2]) := by
    rw [List.map_append]
    exact at_last _ _
  have hi : L2.ixN ((xs ++ [l]).map prD).length (-1) = some xs.length := by
    have e : ((xs ++ [l]).map prD).length = xs.length + 1 := by simp
    rw [e, ixN_last]
  have hs : ∀ d : D, ((xs ++ [l]).map prD).set xs.length d = xs.map prD ++ [d] := fun d => by
    rw [List.map_append, List.set_append_right _ _ (by simp)]
    simp
  generalize hkk : ((j + 1 : Nat) : Int) = kk at *
  unfold ro_body roL
  rw [hkk]
  simp -implicitDefEqProofs [prD, e, ej, eq, k1, k2, truD, mkTup_ev, hx, hs]
/-- where the tiles' row stands -/
structure Sofar (pv : Bool) (c : Int) (found : List Pr) : Prop where
  row : Row found
  on : pv = true → ∃ xs l, found = xs ++ [l] ∧ l.2 + 1 = c
  off : pv = false → ∀ p ∈ found, p.2 + 1 < c
theorem Sofar.lt {pv : Bool} {c : Int} {found : List Pr} (h : Sofar pv c found) : ∀ p ∈ found, p.2 < c := by
  intro p hp
  cases pv with
  | false => have := h.off rfl p hp; omega
  | true =>
    obtain ⟨xs, l, e, k⟩ := h.on rfl
    have r := h.row
    rw [e] at hp r
    rcases List.mem_append.mp hp with hp | hp
    · have := (List.pairwise_append.mp r.gap).2.2 p hp l (List.mem_singleton.mpr rfl)
      have := (r.ok l (by simp)).le
      omega
    · rw [List.mem_singleton.mp hp]
      omega
theorem ro_loop (S : Sto) (T : List Pr) (fs : List Bool) : ∀ (ts : List Pr) (bs : List Bool) (k : Nat) (c : Int) (pv : Bool) (found : List Pr) (o : Option D), T.drop k = ts → fs.drop k = bs → ts.length = bs.length → Tiles c ts → 0 ≤ c → Sofar pv c found →
      ((k = 0 ∧ pv = false) ∨ ∃ j, k = j + 1 ∧ fs[j]? = some pv) → found.length + ts.length < 10000 →
    ∃ row o', forD (g3Name 3) ro_body ((List.range' k ts.length).map fun (i : Nat) => D.int ((i : Nat) : Int)) [some (.lst (T.map prD)), some (.lst (fs.map D.bl)), some (.ref S.length), o] (S ++ [prO found]) =
      .go .next [some (.lst (T.map prD)), some (.lst (fs.map D.bl)), some (.ref S.length), o'] (S ++ [prO row]) ∧ Row row ∧ (∀ x, Cov row x ↔ Cov found x ∨ ∃ (j : Nat) (q : Pr), ts[j]? = some q ∧ bs[j]? = some true ∧ q.1 ≤ x ∧ x ≤ q.2) ∧ row.length ≤ found.length + ts.length
  | [], bs, k, c, pv, found, o, _, _, _, _, _, h, _, _ => ⟨found, o, rfl, h.row, fun x => by simp, Nat.le_refl _⟩
  | q :: ts, [], k, c, pv, found, o, _, _, hl, _, _, _, _, _ => by cases hl
  | q :: ts, f :: bs, k, c, pv, found, o, hT, hF, hl, ht, hc, h, hp, hn => by
    obtain ⟨t1, t2, t3⟩ := ht
    have hk : T[k]? = some q := by
      have := congrArg (fun l => l[0]?) hT
      simpa using this
    have hfk : fs[k]? = some f := by
      have := congrArg (fun l => l[0]?) hF
      simpa using this
    have hT' : T.drop (k + 1) = ts := by rw [← List.drop_drop, hT]; rfl
    have hF' : fs.drop (k + 1) = bs := by rw [← List.drop_drop, hF]; rfl
    have sq : Str1 q := ⟨by omega, t2, by have := t3.low; omega⟩
    have hl' : ts.length = bs.length := by simpa using hl
    rw [List.length_cons] at hn
    have go : ∀ (found' : List Pr), ro_body (roL S T fs k) (S ++ [prO found]) = .go .next (roL S T fs k) (S ++ [prO found']) → Sofar f (q.2 + 1) found' → found'.length ≤ found.length + 1 →
        (∀ x, Cov found' x ↔ Cov found x ∨ (f = true ∧ q.1 ≤ x ∧ x ≤ q.2)) →
        ∃ row o', forD (g3Name 3) ro_body ((List.range' k (q :: ts).length).map fun (i : Nat) => D.int ((i : Nat) : Int)) [some (.lst (T.map prD)), some (.lst (fs.map D.bl)), some (.ref S.length), o] (S ++ [prO found]) =
          .go .next [some (.lst (T.map prD)), some (.lst (fs.map D.bl)), some (.ref S.length), o'] (S ++ [prO row]) ∧ Row row ∧ (∀ x, Cov row x ↔ Cov found x ∨ ∃ (j : Nat) (r : Pr), (q :: ts)[j]? = some r ∧ (f :: bs)[j]? = some true ∧ r.1 ≤ x ∧ x ≤ r.2) ∧ row.length ≤ found.length + (q :: ts).length := by
      intro found' e h' hlen hcov
      obtain ⟨row, o', e2, r1, r2, r3⟩ := ro_loop S T fs ts bs (k + 1) (q.2 + 1) f found' (some (.int k)) hT' hF' hl' t3 (by omega) h' (.inr ⟨k, rfl, hfk⟩) (by omega)
      refine ⟨row, o', ?_, r1, fun x => ?_, by rw [List.length_cons]; omega⟩
      · rw [List.length_cons, List.range'_succ, List.map_cons, forD_cons]
        simp only [g3Name_ev, for2_ev, List.set_cons_succ, List.set_cons_zero]
        rw [show ro_body [some (.lst (T.map prD)), some (.lst (fs.map D.bl)), some (.ref S.length), some (.int k)] (S ++ [prO found]) = _ from e, for3_next]
        exact e2
      · rw [r2, hcov, or_assoc]
        refine or_congr Iff.rfl ?_
        constructor
        · rintro (⟨k1, k2, k3⟩ | ⟨j, r, k1, k2, k3, k4⟩)
          · exact ⟨0, q, rfl, by rw [k1]; rfl, k2, k3⟩
          · exact ⟨j + 1, r, k1, k2, k3, k4⟩
        · rintro ⟨j, r, k1, k2, k3, k4⟩
          cases j with
          | zero =>
            have e1 : q = r := Option.some.inj k1
            have e2 : f = true := Option.some.inj k2
            subst e1
            exact .inl ⟨e2, k3, k4⟩
          | succ j => exact .inr ⟨j, r, k1, k2, k3, k4⟩
    have lt := h.lt
    cases f with
    | false =>
      refine go found (ro_skip S T fs k found hfk) ⟨h.row, (fun e => by cases e), fun _ p hp' => ?_⟩ (Nat.le_succ _) (fun x => by simp)
      have := lt p hp'
      omega
    | true =>
      cases pv with
      | false =>
        have off := h.off rfl
        refine go (found ++ [q]) (ro_put S T fs k found q hfk hk (by omega) ?_) ⟨⟨fun p hp' => ?_, List.pairwise_append.mpr ⟨h.row.gap, List.pairwise_singleton _ _, fun a ha b hb => ?_⟩⟩, (fun _ => ⟨found, q, rfl, rfl⟩), (fun e => by cases e)⟩ (by rw [List.length_append]; exact Nat.le_refl _) (fun x => by rw [cov_append, cov_one]; simp)
        · rcases hp with ⟨k1, _⟩ | ⟨j, k1, k2⟩
          · exact .inl k1
          · exact .inr ⟨j, k1, k2⟩
        · rcases List.mem_append.mp hp' with q1 | q1
          · exact h.row.ok p q1
          · rw [List.mem_singleton.mp q1]; exact sq
        · rw [List.mem_singleton.mp hb]
          have := off a ha
          omega
      | true =>
        obtain ⟨xs, l, e, e1⟩ := h.on rfl
        subst e
        rcases hp with ⟨_, k2⟩ | ⟨j, k1, k2⟩
        · cases k2
        · subst k1
          have hr := h.row
          have sl := hr.ok l (by simp)
          have s1 := sl.le
          refine go (xs ++ [(l.1, q.2)]) (ro_join S T fs j xs l q hfk k2 hk) ⟨row_join hr sq (by omega) (.inr rfl), (fun _ => ⟨xs, _, rfl, rfl⟩), (fun e => by cases e)⟩ (by rw [List.length_append, List.length_append]; exact Nat.le_succ _) (fun x => ?_)
          rw [cov_append, cov_append, cov_one, cov_one, or_assoc]
          refine or_congr Iff.rfl ?_
          show l.1 ≤ x ∧ x ≤ q.2 ↔ _
          constructor
          · rintro ⟨a1, a2⟩
            by_cases b : x ≤ l.2
            · exact .inl ⟨a1, b⟩
            · exact .inr ⟨rfl, by omega, a2⟩
          · rintro (⟨a1, a2⟩ | ⟨_, a1, a2⟩)
            · exact ⟨a1, by omega⟩
            · exact ⟨by omega, a2⟩
end Lw
end

section
set_option linter.all false
set_option maxRecDepth 100000
set_option maxHeartbeats 4000000
namespace Lw
open PySem DL

theorem bd_len : ∀ ss : List Int, (bd ss).length = ss.length
  | [] => rfl
  | [s] => rfl
  | s :: t :: r => by
    have ih := bd_len (t :: r)
    show (bd (t :: r)).length + 1 = _
    rw [ih]
    rfl
theorem spots_len (ps : List Pr) : (spots ps).length ≤ 2 * ps.length + 1 := by
  have l1 := sp_len ps
  have l2 := setI_len (0 :: sp ps)
  rw [List.length_cons] at l2
  show (setI (0 :: sp ps)).length ≤ _
  omega
theorem compD_tiles (g : G3) (e : E3) (f : Int → Bool) (σ : DL.Loc) (S : Sto) (T : List Pr) (h : ∀ q : Pr, ∃ σ1, g (prD q) σ = some σ1 ∧ e σ1 S = .ok (.bl (f q.1)) S) (hl : T.length < 1000000) :
    compD g tTrue3 e (T.map prD) [] σ S = .ok ((T.map fun q => f q.1).map D.bl) S := by
  rw [compD_map g tTrue3 e (fun v => match v with | .tup [.int a, _] => .bl (f a) | v => v) σ S _ _ (fun d hd => ?_) (by rw [List.length_map, List.length_nil]; omega), List.map_map, List.map_map, List.nil_append]
  · rfl
  · obtain ⟨q, _, rfl⟩ := List.mem_map.mp hd
    obtain ⟨σ1, e1, e2⟩ := h q
    exact ⟨σ1, e1, rfl, e2⟩
theorem due_ok {S : Sto} {ps : List Pr} (hs : Strs ps) (hl : ps.length ≤ 30) (P : Int → Prop) (f : Int → Bool) (hf : ∀ x, f x = true ↔ P x) (flat : Flat P (bd (spots ps))) :
    ∃ row, F_l_rowed [.lst ((bd (spots ps)).map prD), .lst (((bd (spots ps)).map fun q => f q.1).map D.bl)] S = .ok (rowD row) S ∧ Row row ∧ (∀ x, Cov row x ↔ (0 ≤ x ∧ x ≤ 1000000000) ∧ P x) ∧ row.length < 1000 := by
  obtain ⟨r, er, up, hi, mem⟩ := spots_head hs
  have ti : Tiles 0 (bd (spots ps)) := by
    rw [er]
    exact bd_tiles up hi
  have ln : (bd (spots ps)).length ≤ 61 := by
    rw [bd_len]
    have := spots_len ps
    omega
  generalize bd (spots ps) = T at *
  obtain ⟨row, o', e, r1, r2, r3⟩ := ro_loop S T (T.map fun q => f q.1) T (T.map fun q => f q.1) 0 0 false [] none rfl rfl (by rw [List.length_map]) ti (Int.le_refl _) ⟨row_nil, (fun e => by cases e), fun _ _ h => nomatch h⟩ (.inl ⟨rfl, rfl⟩) (by rw [List.length_nil]; omega)
  rw [List.length_nil] at r3
  refine ⟨row, ?_, r1, fun x => ?_, by omega⟩
  · have hr : rg2 0 (T.length : Int) (S ++ [.lst []]) = .ok ((List.range' 0 T.length).map fun (i : Nat) => D.int ((i : Nat) : Int)) (S ++ [.lst []]) := by
      rw [rg2_ev (by decide) (by decide) (by omega) (by omega)]
      congr 1
      unfold rngD
      rw [List.range_eq_range']
      simp
    have e' : forD (g3Name 3) ro_body ((List.range' 0 T.length).map fun (i : Nat) => D.int ((i : Nat) : Int)) [some (.lst (T.map prD)), some (.lst ((T.map fun q => f q.1).map D.bl)), some (.ref S.length), none] (S ++ [.lst []]) =
      .go .next [some (.lst (T.map prD)), some (.lst ((T.map fun q => f q.1).map D.bl)), some (.ref S.length), o'] (S ++ [prO row]) := e
    have ht := tuple_end S row (by omega)
    have hll : ∀ S, fLen [.lst (T.map prD)] S = .ok (.int T.length) S := fun S => by
      rw [fLen_lst, List.length_map]
    generalize (T.map fun q => f q.1).map D.bl = FS at *
    generalize T.map prD = TS at *
    unfold F_l_rowed
    rw [defF_ev, m_lrowed_eq]
    simp -implicitDefEqProofs [-fLen_lst, mkOpen_ev, hll, hr, e', ht, fin_row]
  · rw [r2]
    constructor
    · rintro (h | ⟨j, q, h1, h2, h3, h4⟩)
      · exact absurd h (cov_nil x)
      · have hm : q ∈ T := List.mem_of_getElem? h1
        rw [List.getElem?_map, h1] at h2
        have fq : f q.1 = true := Option.some.inj h2
        have b : Row row := r1
        have cx : Cov row x := (r2 x).mpr (.inr ⟨j, q, h1, by rw [List.getElem?_map, h1]; exact h2, h3, h4⟩)
        exact ⟨cov_in r1.ok cx, (flat q hm x h3 h4).mpr ((hf _).mp fq)⟩
    · rintro ⟨⟨h1, h2⟩, h3⟩
      obtain ⟨q, hq, k1, k2, k3⟩ := (tile_cov P ti flat x h1 h2).mp h3
      obtain ⟨j, hj⟩ := List.mem_iff_getElem?.mp hq
      exact .inr ⟨j, q, hj, by rw [List.getElem?_map, hj]; exact congrArg some ((hf _).mpr k1), k2, k3⟩
end Lw
end

section
set_option linter.all false
set_option maxRecDepth 100000
set_option maxHeartbeats 4000000
namespace Lw
open PySem DL

theorem pen_ok (ns : List Int) (hl : ns.length ≤ 63) : F_l_pen [.wl (ns.map D.int)] [] = .ok (.ref 0) [penO ⟨ns.take 60, 0, 0⟩] := by
  unfold F_l_pen m_l_pen
  rw [defF_ev]
  have h : slD false (.wl (ns.map D.int)) none (some 60) [] = .ok (.lst ((ns.take 60).map D.int)) [] := by
    have e : slD false (.wl (ns.map D.int)) none (some 60) [] = mkLst (cutG (ns.map D.int) none (some 60)) [] := rfl
    have c : cutG (ns.map D.int) none (some 60) = (ns.take 60).map D.int := by
      unfold cutG
      rw [HT.sIx_none, show ((60 : Int)) = ((60 : Nat) : Int) from rfl, HT.sIx_nat, List.drop_zero, List.map_take, Nat.sub_zero, List.length_map, Nat.min_comm]
      by_cases k : ns.length ≤ 60
      · rw [Nat.min_eq_left k, List.take_of_length_le (by rw [List.length_map]; omega), List.take_of_length_le (by rw [List.length_map]; omega)]
      · rw [Nat.min_eq_right (by omega)]
    rw [e, c]
    exact mkLst_ev (by rw [List.length_map, List.length_take]; omega)
  have hf : fList [.lst ((ns.take 60).map D.int)] [] = .ok (.lst ((ns.take 60).map D.int)) [] := by
    have e : fList [.lst ((ns.take 60).map D.int)] [] = mkLst ((ns.take 60).map D.int) [] := rfl
    rw [e]
    exact mkLst_ev (by rw [List.length_map, List.length_take]; omega)
  simp -implicitDefEqProofs [-List.map_take, h, hf, mkOpen_ev, penD]
theorem take2 {p : Pen} {o : Ob} {d : D} : fin [] d [o] = fin [] d ([] ++ [o]) := rfl
theorem lot2_ok (b m : Nat) (p : Pen) (hb : b + m + 4 < 2 ^ 31) (hp : p.nth ≤ b) (hm : m < 80) :
    ∃ p' ys, F_l_lot [.ref 0, .int (2 + (m : Int))] [penO p] = .ok (.lst (ys.map D.int)) [penO p'] ∧ p'.nth ≤ b + m + 4 ∧ ys.length = m + 2 ∧ Lot ys := by
  obtain ⟨p', ys, e, n, l, y⟩ := lot_ok b (m + 2) p (by omega) hp (by omega) (by omega)
  refine ⟨p', ys, ?_, by omega, l, y⟩
  have : (2 + (m : Int)) = ((m + 2 : Nat) : Int) := by omega
  rw [this]
  exact e
theorem one_row {a b : Int} (h : 0 ≤ a ∧ a ≤ b ∧ b ≤ 1000000000) : Row [(a, b)] := Row.cons ⟨h.1, h.2.1, h.2.2⟩ row_nil fun _ h => nomatch h
theorem strs_one {a b : Int} (h : 0 ≤ a ∧ a ≤ b ∧ b ≤ 1000000000) {ps : List Pr} (k : Strs ps) : Strs ((a, b) :: ps) := fun p hp => (List.mem_cons.mp hp).elim (fun e => e ▸ ⟨h.1, h.2.1, h.2.2⟩) (k p)
end Lw
end

section
set_option linter.all false
set_option maxRecDepth 100000
set_option maxHeartbeats 4000000
namespace Lw
open PySem DL

noncomputable def k5_fit : E3 := (mAnd (mMake (withLen 2 F_l_over) (mCons (mVar 9) (mCons (mVar 11) mNil))) (mNot (mMake (withLen 2 F_l_over) (mCons (mVar 10) (mCons (mVar 11) mNil)))))
noncomputable def k5_tgt : G3 := (g3Tup 2 (g3Cons (g3Name 11) (g3Cons (g3Name 12) g3Nil)))
noncomputable def k5_in : S3 := (mIfS (tOr3 (fun σ S => asB (mBin oNe (mMake fRepr (mCons (mMake (withLen 2 F_apart) (mCons (mVar 9) (mCons (mVar 10) mNil))) mNil)) (mMake fRepr (mCons (mVar 7) mNil)) σ S)) (fun σ S => asB (mBin oNe (mMake fRepr (mCons (mMake mkTup (mCons (mVar 9) (mCons (mVar 10) mNil))) mNil)) (mVar 5) σ S))) (mRet (mC (.bl false))) mNext)
noncomputable def k5_body : S3 := (mSeq (mAsg (mMake (withLen 2 F_l_lot) (mCons (mVar 1) (mCons (mBin (oCat false) (mC (.int 2)) (mMake (withLen 2 F_l_draw) (mCons (mVar 1) (mCons (mC (.int 8)) mNil)))) mNil))) (g3Name 4))
    (mSeq (mAsg (mMake mkTup (mCons (mMake (withLen 3 F_l_spans) (mCons (mVar 1) (mCons (mVar 4) (mCons (mC (.int 7)) mNil)))) (mCons (mMake (withLen 3 F_l_spans) (mCons (mVar 1) (mCons (mVar 4) (mCons (mC (.int 7)) mNil)))) mNil))) (g3Tup 2 (g3Cons (g3Name 9) (g3Cons (g3Name 10) g3Nil))))
    (mSeq (mAsg (mMake fRepr (mCons (mMake mkTup (mCons (mVar 9) (mCons (mVar 10) mNil))) mNil)) (g3Name 5))
    (mSeq (mAsg (mMake (withLen 1 F_l_bends) (mCons (mBin (oCat false) (mMake fList (mCons (mVar 9) mNil)) (mMake fList (mCons (mVar 10) mNil))) mNil)) (g3Name 6))
    (mSeq (mAsg (mMake (withLen 2 F_l_rowed) (mCons (mVar 6) (mCons (mComp false (mWalk (mVar 6)) k5_tgt tTrue3 k5_fit [11, 12]) mNil))) (g3Name 7))
    (mFor (mRange1 (mCons (mC (.int 2)) mNil)) (g3Name 8) k5_in))))))
noncomputable def k5_last : S3 := (mSeq (mAsg (mMake mkLst (mCons (mMake mkTup (mCons (mC (.int 0)) (mCons (mBin oPow (mC (.int 10)) (mC (.int 9))) mNil))) mNil)) (g3Name 3))
    (mRet (mAnd (mBin oEq (mMake (withLen 2 F_apart) (mCons (mVar 3) (mCons (mMake mkLst (mCons (mMake mkTup (mCons (mC (.int 0)) (mCons (mC (.int 0)) mNil))) (mCons (mMake mkTup (mCons (mBin oPow (mC (.int 10)) (mC (.int 9))) (mCons (mBin oPow (mC (.int 10)) (mC (.int 9))) mNil))) mNil))) mNil))) (mMake mkTup (mCons (mMake mkTup (mCons (mC (.int 1)) (mCons (mBin oSub (mBin oPow (mC (.int 10)) (mC (.int 9))) (mC (.int 1))) mNil))) mNil))) (mBin oEq (mMake (withLen 2 F_apart) (mCons (mVar 3) (mCons (mVar 3) mNil))) (mMake mkTup mNil)))))
theorem m_law_eq : m_law = (mSeq (mAsg (mMake (withLen 1 F_l_pen) (mCons (mVar 0) mNil)) (g3Name 1))
    (mSeq (mFor (mRange1 (mCons (mC (.int 8)) mNil)) (g3Name 2) k5_body) k5_last)) := rfl
theorem k5_turn (b : Nat) (p : Pen) (s t : D) (o4 o5 o6 o7 o8 o9 o10 : Option D) (hb : b + 100 < 2 ^ 31) (hp : p.nth ≤ b) :
    ∃ (p' : Pen) (d4 d5 d6 d7 d8 d9 d10 : D), k5_body [some s, some (.ref 0), some t, none, o4, o5, o6, o7, o8, o9, o10, none, none] [penO p] = .go .next [some s, some (.ref 0), some t, none, some d4, some d5, some d6, some d7, some d8, some d9, some d10, none, none] [penO p'] ∧ p'.nth ≤ b + 100 := by
  obtain ⟨k, p1, e1, k0, k1, n1⟩ := draw_ok b p [] 8 (by omega) hp (by decide) (by decide)
  obtain ⟨m, rfl⟩ : ∃ m : Nat, k = (m : Int) := ⟨k.toNat, by omega⟩
  obtain ⟨p2, ys, e2, n2, hl, ly⟩ := lot2_ok (b + 1) m p1 (by omega) n1 (by omega)
  obtain ⟨p3, x, ps, e3, n3, g⟩ := spans_ok (b + 15) p2 ys ly 7 (by omega) (by omega) (by omega) (by omega) (by decide)
  obtain ⟨p4, y, qs, e4, n4, g'⟩ := spans_ok (b + 39) p3 ys ly 7 (by omega) (by omega) (by omega) (by omega) (by decide)
  have e3' : F_l_spans [.ref 0, .lst (ys.map D.int), .int 7] [penO p2] = .ok x [penO p3] := e3
  have e4' : F_l_spans [.ref 0, .lst (ys.map D.int), .int 7] [penO p3] = .ok y [penO p4] := e4
  obtain ⟨w, l1, s1⟩ := given_walk g
  obtain ⟨w', l2, s2⟩ := given_walk g'
  obtain ⟨tx, tn, tok, er⟩ := repr_two g g'
  have g1 := list_ev (S := [penO p4]) (w.1 _) (by omega)
  have g2 := list_ev (S := [penO p4]) (w'.1 _) (by omega)
  have gc := cat_lst (S := [penO p4]) (a := ps) (b := qs) (by omega)
  have s3 := strs_append s1 s2
  have l3 : (ps ++ qs).length ≤ 20 := by rw [List.length_append]; omega
  have eb := bends_ok (S := [penO p4]) (walk_lst (ps ++ qs)) (by omega) s3
  have fl1 := cov_flat (qs := ps) s3 fun p hp => List.mem_append_left _ hp
  have fl2 := cov_flat (qs := qs) s3 fun p hp => List.mem_append_right _ hp
  obtain ⟨row, ed, r1, r2, r3⟩ := due_ok (S := [penO p4]) s3 (by omega) (fun z => Cov ps z ∧ ¬ Cov qs z) (fun z => covB ps z && !covB qs z) (fun z => by rw [Bool.and_eq_true, covB_iff, Bool.not_eq_true', ← Bool.not_eq_true, covB_iff])
    (fun q hq z h1 h2 => and_congr (fl1 q hq z h1 h2) (not_congr (fl2 q hq z h1 h2)))
  have ej := apart_is (S := [penO p4]) (w.1 _) (w'.1 _) (by omega) (by omega) s1 s2 r1 fun z => by
    rw [r2]
    exact ⟨fun c => ⟨cov_in s1 c.1, c⟩, fun c => c.2⟩
  obtain ⟨rx, rn, rok, err⟩ := repr_row r1.ok r3
  have bl : (bd (spots (ps ++ qs))).length < 1000000 := by
    rw [bd_len]
    have := spots_len (ps ++ qs)
    omega
  have ec := compD_tiles k5_tgt k5_fit (fun z => covB ps z && !covB qs z) [some s, some (.ref 0), some t, none, some (.lst (ys.map D.int)), some (.str tx), some (.lst ((bd (spots (ps ++ qs))).map prD)), o7, o8, some x, some y, none, none] [penO p4] (bd (spots (ps ++ qs))) (fun q => ⟨[some s, some (.ref 0), some t, none, some (.lst (ys.map D.int)), some (.str tx), some (.lst ((bd (spots (ps ++ qs))).map prD)), o7, o8, some x, some y, some (.int q.1), some (.int q.2)], by unfold k5_tgt prD; simp, by
    unfold k5_fit
    have h1 := over_ok (S := [penO p4]) w (by omega) q.1
    have h2 := over_ok (S := [penO p4]) w' (by omega) q.1
    cases hc : covB ps q.1 with
    | true =>
      rw [hc] at h1
      simp [h1, h2]
    | false =>
      rw [hc] at h1
      simp [h1]⟩) bl
  have ww : wipeD [some s, some (.ref 0), some t, none, some (.lst (ys.map D.int)), some (.str tx), some (.lst ((bd (spots (ps ++ qs))).map prD)), o7, o8, some x, some y, none, none] [11, 12] = [some s, some (.ref 0), some t, none, some (.lst (ys.map D.int)), some (.str tx), some (.lst ((bd (spots (ps ++ qs))).map prD)), o7, o8, some x, some y, none, none] := rfl
  have n1' := oNe_str tok [penO p4]
  have n2' := oNe_str rok [penO p4]
  have hr : rg2 0 2 [penO p4] = .ok [.int 0, .int 1] [penO p4] := rfl
  have inn : ∀ (dd bb : D), k5_in [some s, some (.ref 0), some t, none, some (.lst (ys.map D.int)), some (.str tx), some bb, some (rowD row), some dd, some x, some y, none, none] [penO p4] = .go .next [some s, some (.ref 0), some t, none, some (.lst (ys.map D.int)), some (.str tx), some bb, some (rowD row), some dd, some x, some y, none, none] [penO p4] := fun dd bb => by
    unfold k5_in
    simp -implicitDefEqProofs [ej, er, err, n1', n2', mkTup_ev]
  refine ⟨p4, .lst (ys.map D.int), .str tx, .lst ((bd (spots (ps ++ qs))).map prD), rowD row, .int 1, x, y, ?_, by omega⟩
  generalize (((bd (spots (ps ++ qs))).map fun q => covB ps q.1 && !covB qs q.1).map D.bl) = FS at *
  generalize (bd (spots (ps ++ qs))).map prD = TS at *
  unfold k5_body
  simp -implicitDefEqProofs [-List.map_append, e1, e2, e3', e4', mkTup_ev, er, g1, g2, gc, eb, ww, ec, ed, hr, forD_cons, inn]
theorem k5_loop (s : D) : ∀ (ds : List D) (b : Nat) (p : Pen) (o2 o4 o5 o6 o7 o8 o9 o10 : Option D), b + 100 * ds.length < 2 ^ 31 → p.nth ≤ b →
    ∃ (o2' o4' o5' o6' o7' o8' o9' o10' : Option D) (p' : Pen), forD (g3Name 2) k5_body ds [some s, some (.ref 0), o2, none, o4, o5, o6, o7, o8, o9, o10, none, none] [penO p] = .go .next [some s, some (.ref 0), o2', none, o4', o5', o6', o7', o8', o9', o10', none, none] [penO p']
  | [], b, p, _, _, _, _, _, _, _, _, _, _ => ⟨_, _, _, _, _, _, _, _, p, rfl⟩
  | d :: ds, b, p, o2, o4, o5, o6, o7, o8, o9, o10, hb, hp => by
    rw [List.length_cons] at hb
    obtain ⟨p1, d4, d5, d6, d7, d8, d9, d10, e, n⟩ := k5_turn b p s d o4 o5 o6 o7 o8 o9 o10 (by omega) hp
    obtain ⟨a2, a4, a5, a6, a7, a8, a9, a10, p', e2⟩ := k5_loop s ds (b + 100) p1 (some d) (some d4) (some d5) (some d6) (some d7) (some d8) (some d9) (some d10) (by omega) n
    refine ⟨a2, a4, a5, a6, a7, a8, a9, a10, p', ?_⟩
    rw [forD_cons, g3Name_ev, for2_ev]
    simp only [List.set_cons_succ, List.set_cons_zero]
    rw [e, for3_next]
    exact e2
theorem k5_end (s : D) (o2 o4 o5 o6 o7 o8 o9 o10 : Option D) (p : Pen) : ∃ σ, k5_last [some s, some (.ref 0), o2, none, o4, o5, o6, o7, o8, o9, o10, none, none] [penO p] = .go (.ret (.bl true)) σ [penO p] := by
  have n0 : Strs [] := fun _ h => nomatch h
  have j1 := apart_is (S := [penO p]) (d := .lst [.tup [.int 0, .int 1000000000]]) (e := .lst [.tup [.int 0, .int 0], .tup [.int 1000000000, .int 1000000000]]) (ps := [(0, 1000000000)]) (qs := [(0, 0), (1000000000, 1000000000)]) (row := [(1, 999999999)]) rfl rfl (by decide) (by decide) (strs_one (by omega) n0) (strs_one (by omega) (strs_one (by omega) n0)) (one_row (by omega)) fun x => by
    simp only [cov_cons, cov_nil, or_false]
    omega
  have j2 := apart_is (S := [penO p]) (d := .lst [.tup [.int 0, .int 1000000000]]) (e := .lst [.tup [.int 0, .int 1000000000]]) (ps := [(0, 1000000000)]) (qs := [(0, 1000000000)]) (row := []) rfl rfl (by decide) (by decide) (strs_one (by omega) n0) (strs_one (by omega) n0) row_nil fun x => by
    simp only [cov_nil, iff_false]
    exact fun h => h.2 h.1
  have q1 : oEq (rowD [(1, 999999999)]) (.tup [.tup [.int 1, .int 999999999]]) [penO p] = .ok (.bl true) [penO p] := oEq_row [penO p] [(1, 999999999)]
  have q2 : oEq (rowD []) (.tup []) [penO p] = .ok (.bl true) [penO p] := oEq_row [penO p] []
  refine ⟨[some s, some (.ref 0), o2, some (.lst [.tup [.int 0, .int 1000000000]]), o4, o5, o6, o7, o8, o9, o10, none, none], ?_⟩
  unfold k5_last
  simp -implicitDefEqProofs [mkTup_ev, mkLst_ev, oPow_ev, j1, j2, q1, q2]
theorem law_true (ns : List Int) (hl : ns.length ≤ 63) : ∃ S', F_law [.wl (ns.map D.int)] [] = .ok (.bl true) S' := by
  obtain ⟨a2, a4, a5, a6, a7, a8, a9, a10, p', e⟩ := k5_loop (.wl (ns.map D.int)) [.int 0, .int 1, .int 2, .int 3, .int 4, .int 5, .int 6, .int 7] 0 ⟨ns.take 60, 0, 0⟩ none none none none none none none none (by decide) (Nat.le_refl _)
  have hr : rg2 0 8 [penO ⟨ns.take 60, 0, 0⟩] = .ok [.int 0, .int 1, .int 2, .int 3, .int 4, .int 5, .int 6, .int 7] [penO ⟨ns.take 60, 0, 0⟩] := rfl
  have hf : fin [] (.bl true) [penO p'] = .ok (.bl true) [] := fin_data [] [penO p'] (.bl true) rfl
  have hp := pen_ok ns hl
  obtain ⟨σ, he⟩ := k5_end (.wl (ns.map D.int)) a2 a4 a5 a6 a7 a8 a9 a10 p'
  refine ⟨[], ?_⟩
  unfold F_law
  rw [defF_ev, m_law_eq]
  simp -implicitDefEqProofs [hp, hr, e, he, hf]
end Lw
end

open PySem PySem.W PyProof.Rows
set_option maxHeartbeats 0 in
theorem PySem.Challenge.cw_pastlay_k05_places_apart_holds : PySem.Challenge.rw_pastlay_k05_places_apart.Holds := by
  w_on; o_law; k_head; (case hw => w_witness2)
  k_fill
  refine DL.walk3 (l := PySem.Challenge.rw_pastlay_k05_places_apart) (n := 63) (k := 5) (x := "script") (F := Lw.F_law) rfl (by decide) rfl ⟨⟨rfl, by decide, by decide⟩, rfl⟩ (fun w h Y => PySem.W.kIn_of Y) ?G (fun ns hl => Lw.law_true ns hl)
  case G =>
    intro w mg fa h KX G hmg
    refine' Lw.all_mk KX G hmg ?a_0 ?l_0 ?e_0 ?k_0 ?a_1 ?l_1 ?e_1 ?k_1 ?a_2 ?l_2 ?e_2 ?k_2 ?a_3 ?l_3 ?e_3 ?k_3 ?a_4 ?l_4 ?e_4 ?k_4 ?a_5 ?l_5 ?e_5 ?k_5 ?a_6 ?l_6 ?e_6 ?k_6 ?a_7 ?l_7 ?e_7 ?k_7 ?a_8 ?l_8 ?e_8 ?k_8 ?a_9 ?l_9 ?e_9 ?k_9 ?a_10 ?l_10 ?e_10 ?k_10 ?a_11 ?l_11 ?e_11 ?k_11 ?a_12 ?l_12 ?e_12 ?k_12 ?a_13 ?l_13 ?e_13 ?k_13 ?a_14 ?l_14 ?e_14 ?k_14 ?z_0 ?z_1 ?z_2 ?z_3 ?z_4 ?z_5 ?z_6 ?z_7 ?z_8 ?z_9 ?y_0
    (case a_0 => k_is); (case l_0 => k_is); (case e_0 => k_is); (case k_0 => k_is); (case a_1 => k_is); (case l_1 => k_is); (case e_1 => k_is); (case k_1 => k_is); (case a_2 => k_is); (case l_2 => k_is); (case e_2 => k_is); (case k_2 => k_is); (case a_3 => k_is); (case l_3 => k_is); (case e_3 => k_is); (case k_3 => k_is); (case a_4 => k_is); (case l_4 => k_is); (case e_4 => k_is); (case k_4 => k_is); (case a_5 => k_is); (case l_5 => k_is); (case e_5 => k_is); (case k_5 => k_is); (case a_6 => k_is); (case l_6 => k_is); (case e_6 => k_is); (case k_6 => k_is); (case a_7 => k_is); (case l_7 => k_is); (case e_7 => k_is); (case k_7 => k_is); (case a_8 => k_is); (case l_8 => k_is); (case e_8 => k_is); (case k_8 => k_is); (case a_9 => k_is); (case l_9 => k_is); (case e_9 => k_is); (case k_9 => k_is); (case a_10 => k_is); (case l_10 => k_is); (case e_10 => k_is); (case k_10 => k_is); (case a_11 => k_is); (case l_11 => k_is); (case e_11 => k_is); (case k_11 => k_is); (case a_12 => k_is); (case l_12 => k_is); (case e_12 => k_is); (case k_12 => k_is); (case a_13 => k_is); (case l_13 => k_is); (case e_13 => k_is); (case k_13 => k_is); (case a_14 => k_is); (case l_14 => k_is); (case e_14 => k_is); (case k_14 => k_is); (case z_0 => k_is); (case z_1 => k_is); (case z_2 => k_is); (case z_3 => k_is); (case z_4 => k_is); (case z_5 => k_is); (case z_6 => k_is); (case z_7 => k_is); (case z_8 => k_is); (case z_9 => k_is); (case y_0 => k_is)
