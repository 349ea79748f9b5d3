import PyProof.Rows.All
import Wide.All
import OpenK.AllK
import Wide.FinOn
import HandS.ForMost
import HandS.ForExc
import HandS.CallSlots
import HandS.TupAny
import HandS.IsInst
import HandS.SortRule
import HandS.SortInts
import HandS.Style
import HandS.Flow
import HandS.SetFor
import PyProof.ReprRoads
import KE.KDictZip
import PyProof.ListNew
import PyProof.FitsInt
import HandS.FStr
import HandS.Text
import OpenK.KOps
import HandS.Defaults
import HandS.RevRange
import HandS.Strs
import HandS.Conv
import KE.GoesEnum
import OpenK.KWalk
import HandS.More
import KE.KRevSl
import HandS.List
import HandS.ExcIs
import HandS.Deep
import PyProof.RowDictHeap
import HandS.TupMul
import PyProof.ListStr
import HandS.Zip
import KE.DataAny
import HandS.TryOnly
import PyProof.Rows.ChunkLeaf
import PyProof.StrOps2
import PySem.Challenge.RW_pastlay_k12_writings_read
set_option Elab.async false
section
set_option Elab.async false
set_option linter.all false
set_option maxRecDepth 100000
set_option maxHeartbeats 4000000
/-! a layer of deep values over the hand layer: what a text does to data, as a function -/
namespace DL
open PySem PySem.Spec PyProof.Rows L2

/-! ### deep values, open objects, outcomes -/
inductive D where
  | non | bl (b : Bool) | int (i : Int) | str (x : Str)
  | tup (xs : List D) | lst (xs : List D)
  | ref (k : Nat) | ty (n : String) | adr (a : Addr)
  | wl (xs : List D) | wt (xs : List D)
  /-- a dict that nobody writes: its keys, its values; an exception that was caught: its class, its number -/
  | dct (ks : List Key) (xs : List D) | err (C : Addr) (n : Option Int)
/-- an object that may be written: a list, an instance; a list that is read only from now on -/
inductive Ob where
  | lst (xs : List D) | ins (C : Addr) (fs : List (Str × D)) | frz (xs : List D)
abbrev Sto := List Ob
abbrev Loc := List (Option D)
abbrev Pay := Option (List (Str × D))
inductive Rs (α : Type) where
  | ok (a : α) (S : Sto)
  | exc (C : Addr) (p : Pay) (S : Sto)
  | bad
@[reducible] def E3 := Loc → Sto → Rs D
@[reducible] def T3 := Loc → Sto → Rs Bool
@[reducible] def A3 := Loc → Sto → Rs (List D)
def Rs.bind {α β : Type} (r : Rs α) (f : α → Sto → Rs β) : Rs β :=
  match r with
  | .ok a S => f a S
  | .exc C p S => .exc C p S
  | .bad => .bad
@[simp] theorem Rs.bind_ok {α β : Type} (a : α) (S : Sto) (f : α → Sto → Rs β) : (Rs.ok a S).bind f = f a S := rfl
@[simp] theorem Rs.bind_exc {α β : Type} (C : Addr) (p : Pay) (S : Sto) (f : α → Sto → Rs β) : (Rs.exc C p S : Rs α).bind f = .exc C p S := rfl
@[simp] theorem Rs.bind_bad {α β : Type} (f : α → Sto → Rs β) : (Rs.bad : Rs α).bind f = .bad := rfl

/-! ### worlds: what never changes, and where the open objects stand -/
structure Wd where
  G : Hp
  am : List Addr
  /-- what a rule keeps to itself -/
  hs : List (Addr × HO)
structure Ext (w w' : Wd) : Prop where
  same : Same w.G w'.G
  pre : w.am <+: w'.am
  hid : w'.hs = w.hs
theorem Ext.refl (w : Wd) : Ext w w := ⟨Same.refl _, List.prefix_refl _, rfl⟩
theorem Ext.trans {u v w : Wd} (a : Ext u v) (b : Ext v w) : Ext u w := ⟨a.same.trans b.same, a.pre.trans b.pre, b.hid.trans a.hid⟩
theorem get_pre {α : Type} {l l' : List α} (h : l <+: l') {k : Nat} {a : α} (e : l[k]? = some a) : l'[k]? = some a := by
  obtain ⟨r, rfl⟩ := h
  obtain ⟨hk, _⟩ := List.getElem?_eq_some_iff.mp e
  rw [List.getElem?_append_left hk]
  exact e
structure Grow (w w' : Wd) : Prop where
  same : Same w.G w'.G
  pre : w.am <+: w'.am
theorem Ext.grow {w w' : Wd} (x : Ext w w') : Grow w w' := ⟨x.same, x.pre⟩
theorem Grow.trans {u v w : Wd} (a : Grow u v) (b : Grow v w) : Grow u w := ⟨a.same.trans b.same, a.pre.trans b.pre⟩
theorem Grow.at_ {w w' : Wd} (x : Grow w w') {k : Nat} {a : Addr} (e : w.am[k]? = some a) : w'.am[k]? = some a := get_pre x.pre e

theorem seqT {K : PySem.W.Frag} {H H' : Hp} {a : Addr} {xs : List V} (s : Same H H') (h : SqT K H a xs) : SqT K H' a xs := by
  rcases h with (h | ⟨o, h⟩) | h
  · exact .inl (.inl (s _ _ h))
  · exact .inl (.inr ⟨o, s _ _ h⟩)
  · exact .inr h

/-- an exception's object that was caught: its class, its own dict -/
def ErO (cls : Value) (d : Option Addr) (a : Addr) : HO := .ext fun h => ∃ (oe : Obj) (vs : Array Value), h.get? a = some oe ∧ Zc cls d oe ∧ oe.data = .fields vs
section
variable (K : PySem.W.Frag) (w : Wd)
mutual
inductive Rep : V → D → Prop
  | non : Rep .non .non
  | bl (b : Bool) : Rep (.bl b) (.bl b)
  | int (i : Int) : Rep (.int i) (.int i)
  | str (x : Str) : Rep (.str x) (.str x)
  | tup {a : Addr} {vs : List V} {ds : List D} : w.G a = some (.tup vs) → RepA vs ds → Rep (.ref a) (.tup ds)
  | wt {a : Addr} {vs : List V} {ds : List D} : SqT K w.G a vs → RepA vs ds → Rep (.ref a) (.wt ds)
  | lst {a : Addr} {vs : List V} {ds : List D} : w.G a = some (.lst vs) → RepA vs ds → Rep (.ref a) (.lst ds)
  | wl {a : Addr} {vs : List V} {ds : List D} : SqL K w.G a vs → RepA vs ds → Rep (.ref a) (.wl ds)
  | ref {a : Addr} {k : Nat} : w.am[k]? = some a → Rep (.ref a) (.ref k)
  | ty (n : String) : Rep (.ty n) (.ty n)
  | adr (a : Addr) : Rep (.ref a) (.adr a)
  | dct {a : Addr} {vs : List V} {ks : List Key} {ds : List D} : w.G a = some (.dK (ks.zip vs)) → ks.length = ds.length → RepA vs ds → Rep (.ref a) (.dct ks ds)
  | err {a C : Addr} : w.G a = some (ErO (.ref C) none a) → Rep (.ref a) (.err C none)
  | errN {a C d : Addr} {n : Int} : w.G a = some (ErO (.ref C) (some d) a) → w.G d = some (.xd [("at", .int n)]) → Rep (.ref a) (.err C (some n))
inductive RepA : List V → List D → Prop
  | nil : RepA [] []
  | cons {v : V} {d : D} {vs : List V} {ds : List D} : Rep v d → RepA vs ds → RepA (v :: vs) (d :: ds)
end
/-- named fields -/
def RepF : List (Str × V) → List (Str × D) → Prop
  | [], [] => True
  | (f, v) :: r, (g, d) :: r' => f = g ∧ Rep K w v d ∧ RepF r r'
  | _, _ => False
def ObRep (H : Hp) (a : Addr) : Ob → Prop
  | .lst ds => w.G a = none ∧ ∃ vs, H a = some (.lst vs) ∧ RepA K w vs ds
  | .ins C fs => w.G a = none ∧ ∃ dx fv, H a = some (.ins C dx fv) ∧ RepF K w fv fs
  | .frz ds => ∃ vs, w.G a = some (.lst vs) ∧ RepA K w vs ds
structure WRel (S : Sto) (H : Hp) : Prop where
  same : Same w.G H
  len : w.am.length = S.length
  nd : w.am.Nodup
  obs : ∀ (k : Nat) (a : Addr) (o : Ob), w.am[k]? = some a → S[k]? = some o → ObRep K w H a o
  hid : ∀ p ∈ w.hs, H p.1 = some p.2 ∧ w.G p.1 = none ∧ p.1 ∉ w.am
  hnd : (w.hs.map (·.1)).Nodup
def LRel : Loc → L2.St → Prop
  | [], [] => True
  | none :: r, _ :: r' => LRel r r'
  | some d :: r, some v :: r' => Rep K w v d ∧ LRel r r'
  | _, _ => False
def PayRep (H : Hp) : Pay → Option Addr → Prop
  | none, dx => dx = none
  | some fs, dx => ∃ d fv, dx = some d ∧ H d = some (.xd fv) ∧ RepF K w fv fs
end

section
variable {K : PySem.W.Frag} {w w' : Wd}
mutual
theorem Rep.monoG (x : Grow w w') : ∀ {d : D} {v : V}, Rep K w v d → Rep K w' v d
  | .non, _, h => by cases h; exact .non
  | .bl _, _, h => by cases h; exact .bl _
  | .int _, _, h => by cases h; exact .int _
  | .str _, _, h => by cases h; exact .str _
  | .tup _, _, h => by
    cases h with
    | tup h1 h2 => exact .tup (x.same _ _ h1) (RepA.monoG x h2)
  | .wt _, _, h => by
    cases h with
    | wt h1 h2 => exact .wt (seqT x.same h1) (RepA.monoG x h2)
  | .lst _, _, h => by
    cases h with
    | lst h1 h2 => exact .lst (x.same _ _ h1) (RepA.monoG x h2)
  | .wl _, _, h => by
    cases h with
    | wl h1 h2 => exact .wl (x.same.seq h1) (RepA.monoG x h2)
  | .ref _, _, h => by
    cases h with
    | ref e => exact .ref (x.at_ e)
  | .ty _, _, h => by cases h; exact .ty _
  | .adr _, _, h => by cases h; exact .adr _
  | .dct _ _, _, h => by
    cases h with
    | dct h1 hl h2 => exact .dct (x.same _ _ h1) hl (RepA.monoG x h2)
  | .err _ none, _, h => by
    cases h with
    | err h1 => exact .err (x.same _ _ h1)
  | .err _ (some _), _, h => by
    cases h with
    | errN h1 h2 => exact .errN (x.same _ _ h1) (x.same _ _ h2)
theorem RepA.monoG (x : Grow w w') : ∀ {ds : List D} {vs : List V}, RepA K w vs ds → RepA K w' vs ds
  | [], _, h => by cases h; exact .nil
  | d :: ds, _, h => by
    cases h with
    | cons h1 h2 => exact .cons (Rep.monoG x h1) (RepA.monoG x h2)
end
theorem Rep.mono (x : Ext w w') {d : D} {v : V} (h : Rep K w v d) : Rep K w' v d := h.monoG x.grow
theorem RepA.mono (x : Ext w w') {ds : List D} {vs : List V} (h : RepA K w vs ds) : RepA K w' vs ds := h.monoG x.grow
theorem RepF.monoG (x : Grow w w') : ∀ {fv : List (Str × V)} {fs : List (Str × D)}, RepF K w fv fs → RepF K w' fv fs
  | [], [], _ => trivial
  | (_, _) :: _, (_, _) :: _, h => ⟨h.1, h.2.1.monoG x, RepF.monoG x h.2.2⟩
theorem RepF.mono (x : Ext w w') {fv : List (Str × V)} {fs : List (Str × D)} (h : RepF K w fv fs) : RepF K w' fv fs := h.monoG x.grow
theorem LRel.monoG (x : Grow w w') : ∀ {σ : Loc} {s : L2.St}, LRel K w σ s → LRel K w' σ s
  | [], [], _ => trivial
  | none :: σ, _ :: s, h => LRel.monoG (σ := σ) (s := s) x h
  | some _ :: _, some _ :: _, h => ⟨h.1.monoG x, LRel.monoG x h.2⟩
theorem LRel.mono (x : Ext w w') {σ : Loc} {s : L2.St} (h : LRel K w σ s) : LRel K w' σ s := h.monoG x.grow
/-! what is kept aside does not matter to values -/
mutual
theorem Rep.alike {u u' : Wd} (g : u'.G = u.G) (m : u'.am = u.am) : ∀ {d : D} {v : V}, Rep K u v d → Rep K u' v d
  | .non, _, h => by cases h; exact .non
  | .bl _, _, h => by cases h; exact .bl _
  | .int _, _, h => by cases h; exact .int _
  | .str _, _, h => by cases h; exact .str _
  | .tup _, _, h => by
    cases h with
    | tup h1 h2 => exact .tup (g ▸ h1) (RepA.alike g m h2)
  | .wt _, _, h => by
    cases h with
    | wt h1 h2 => exact .wt (g ▸ h1) (RepA.alike g m h2)
  | .lst _, _, h => by
    cases h with
    | lst h1 h2 => exact .lst (g ▸ h1) (RepA.alike g m h2)
  | .wl _, _, h => by
    cases h with
    | wl h1 h2 => exact .wl (g ▸ h1) (RepA.alike g m h2)
  | .ref _, _, h => by
    cases h with
    | ref e => exact .ref (m ▸ e)
  | .ty _, _, h => by cases h; exact .ty _
  | .adr _, _, h => by cases h; exact .adr _
  | .dct _ _, _, h => by
    cases h with
    | dct h1 hl h2 => exact .dct (g ▸ h1) hl (RepA.alike g m h2)
  | .err _ none, _, h => by
    cases h with
    | err h1 => exact .err (g ▸ h1)
  | .err _ (some _), _, h => by
    cases h with
    | errN h1 h2 => exact .errN (g ▸ h1) (g ▸ h2)
theorem RepA.alike {u u' : Wd} (g : u'.G = u.G) (m : u'.am = u.am) : ∀ {ds : List D} {vs : List V}, RepA K u vs ds → RepA K u' vs ds
  | [], _, h => by cases h; exact .nil
  | d :: ds, _, h => by
    cases h with
    | cons h1 h2 => exact .cons (Rep.alike g m h1) (RepA.alike g m h2)
end
theorem RepF.alike {u u' : Wd} (g : u'.G = u.G) (m : u'.am = u.am) : ∀ {fv : List (Str × V)} {fs : List (Str × D)}, RepF K u fv fs → RepF K u' fv fs
  | [], [], _ => trivial
  | (_, _) :: _, (_, _) :: _, h => ⟨h.1, Rep.alike g m h.2.1, RepF.alike g m h.2.2⟩
theorem LRel.alike {u u' : Wd} (g : u'.G = u.G) (m : u'.am = u.am) : ∀ {σ : Loc} {s : L2.St}, LRel K u σ s → LRel K u' σ s
  | [], [], _ => trivial
  | none :: σ, _ :: s, h => LRel.alike (σ := σ) (s := s) g m h
  | some _ :: _, some _ :: _, h => ⟨Rep.alike g m h.1, LRel.alike g m h.2⟩
theorem RepA.length : ∀ {vs : List V} {ds : List D}, RepA K w vs ds → vs.length = ds.length
  | [], _, h => by cases h; rfl
  | _ :: _, _, h => by
    cases h with
    | cons _ h2 => simp [RepA.length h2]
theorem RepA.get : ∀ {vs : List V} {ds : List D} {i : Nat} {d : D}, RepA K w vs ds → ds[i]? = some d → ∃ v, vs[i]? = some v ∧ Rep K w v d
  | _, _, _, _, .nil, e => by simp at e
  | _, _, 0, _, .cons r _, e => by simp at e; subst e; exact ⟨_, rfl, r⟩
  | _, _, i + 1, d, .cons _ t, e => by
    obtain ⟨v, h1, h2⟩ := RepA.get (i := i) (d := d) t (by simpa using e)
    exact ⟨v, by simpa using h1, h2⟩
theorem RepA.append : ∀ {vs us : List V} {ds es : List D}, RepA K w vs ds → RepA K w us es → RepA K w (vs ++ us) (ds ++ es)
  | _, _, _, _, .nil, h => h
  | _, _, _, _, .cons r t, h => .cons r (t.append h)
theorem RepA.take : ∀ {vs : List V} {ds : List D} (n : Nat), RepA K w vs ds → RepA K w (vs.take n) (ds.take n)
  | _, _, 0, _ => .nil
  | _, _, _ + 1, .nil => .nil
  | _, _, n + 1, .cons r t => .cons r (t.take n)
theorem RepA.drop : ∀ {vs : List V} {ds : List D} (n : Nat), RepA K w vs ds → RepA K w (vs.drop n) (ds.drop n)
  | _, _, 0, h => h
  | _, _, _ + 1, .nil => .nil
  | _, _, n + 1, .cons _ t => t.drop n
theorem RepA.set {v : V} {d : D} (r : Rep K w v d) : ∀ {vs : List V} {ds : List D} (i : Nat), RepA K w vs ds → RepA K w (vs.set i v) (ds.set i d)
  | _, _, _, .nil => .nil
  | _, _, 0, .cons _ t => .cons r t
  | _, _, i + 1, .cons q t => .cons q (RepA.set r i t)
theorem RepA.rev {vs : List V} {ds : List D} (h : RepA K w vs ds) : RepA K w vs.reverse ds.reverse := by
  induction vs generalizing ds with
  | nil => cases h; exact .nil
  | cons v vs ih =>
    cases h with
    | cons r t => rw [List.reverse_cons, List.reverse_cons]; exact (ih t).append (.cons r .nil)
theorem LRel.get : ∀ {σ : Loc} {s : L2.St} {i : Nat} {d : D}, LRel K w σ s → σ[i]? = some (some d) → ∃ v, s[i]? = some (some v) ∧ Rep K w v d
  | [], _, _, _, _, e => by simp at e
  | none :: _, [], _, _, h, _ => (show False from h).elim
  | none :: _, _ :: _, 0, _, _, e => by simp at e
  | none :: σ, x :: s, i + 1, d, h, e => by
    obtain ⟨v, h1, h2⟩ := LRel.get (i := i) (show LRel K w σ s from h) (by simpa using e)
    exact ⟨v, by simpa using h1, h2⟩
  | some _ :: _, [], _, _, h, _ => (show False from h).elim
  | some _ :: _, none :: _, _, _, h, _ => (show False from h).elim
  | some x :: σ, some y :: s, 0, d, h, e => by
    have e' : x = d := by simpa using e
    subst e'
    exact ⟨y, rfl, h.1⟩
  | some _ :: σ, some _ :: s, i + 1, d, h, e => by
    obtain ⟨v, h1, h2⟩ := LRel.get (i := i) h.2 (by simpa using e)
    exact ⟨v, by simpa using h1, h2⟩
theorem LRel.set {v : V} {d : D} (r : Rep K w v d) : ∀ {σ : Loc} {s : L2.St} (i : Nat), LRel K w σ s → LRel K w (σ.set i (some d)) (s.set i (some v))
  | [], [], _, _ => trivial
  | [], _ :: _, _, h => (show False from h).elim
  | none :: _, [], _, h => (show False from h).elim
  | none :: σ, x :: s, 0, h => ⟨r, h⟩
  | none :: σ, x :: s, i + 1, h => show LRel K w (σ.set i _) (s.set i _) from LRel.set r i h
  | some _ :: _, [], _, h => (show False from h).elim
  | some _ :: _, none :: _, _, h => (show False from h).elim
  | some _ :: σ, some _ :: s, 0, h => ⟨r, h.2⟩
  | some _ :: σ, some _ :: s, i + 1, h => ⟨h.1, LRel.set r i h.2⟩
theorem LRel.wipe : ∀ {σ : Loc} {s : L2.St} (i : Nat), LRel K w σ s → LRel K w (σ.set i none) (s.set i none)
  | [], [], _, _ => trivial
  | [], _ :: _, _, h => (show False from h).elim
  | none :: _, [], _, h => (show False from h).elim
  | none :: σ, x :: s, 0, h => h
  | none :: σ, x :: s, i + 1, h => show LRel K w (σ.set i _) (s.set i _) from LRel.wipe i h
  | some _ :: _, [], _, h => (show False from h).elim
  | some _ :: _, none :: _, _, h => (show False from h).elim
  | some _ :: σ, some _ :: s, 0, h => h.2
  | some _ :: σ, some _ :: s, i + 1, h => ⟨h.1, LRel.wipe i h.2⟩
theorem LRel.start : ∀ {vs : List V} {ds : List D} (n : Nat), RepA K w vs ds → LRel K w (ds.map some ++ List.replicate n none) (vs.map some ++ List.replicate n none)
  | _, _, 0, .nil => trivial
  | _, _, n + 1, .nil => by
    show LRel K w (none :: List.replicate n none) (none :: List.replicate n none)
    exact LRel.start (vs := []) (ds := []) n .nil
  | _, _, n, .cons r t => ⟨r, LRel.start n t⟩
end

/-! ### what an outcome promises -/
section
variable (K : PySem.W.Frag) {α β : Type}
def Hold (W : WX) (sv : L2.St) (R : Wd → β → α → Prop) (w : Wd) (Q : β → Hp → Prop) : Rs α → Prop
  | .ok a S' => ∀ w' H' b, Ext w w' → WRel K w' S' H' → R w' b a → Q b H'
  | .exc C p S' => ∀ w' H' dx, Ext w w' → WRel K w' S' H' → PayRep K w' H' p dx → W (.ref C) dx sv H'
  | .bad => False
end
section
variable {K : PySem.W.Frag} {α β γ δ : Type} {W : WX} {sv : L2.St} {w w1 : Wd}
theorem Hold.mono {R : Wd → β → α → Prop} {Q : β → Hp → Prop} {r : Rs α} (h : Hold K W sv R w Q r) (x : Ext w w1) : Hold K W sv R w1 Q r := by
  cases r with
  | ok a S => exact fun w' H' b y => h w' H' b (x.trans y)
  | exc C p S => exact fun w' H' dx y => h w' H' dx (x.trans y)
  | bad => exact h
theorem Hold.imp {R : Wd → β → α → Prop} {Q Q' : β → Hp → Prop} {r : Rs α} (h : Hold K W sv R w Q r) (q : ∀ b H, Q b H → Q' b H) : Hold K W sv R w Q' r := by
  cases r with
  | ok a S => exact fun w' H' b y z t => q _ _ (h w' H' b y z t)
  | exc C p S => exact h
  | bad => exact h
/-- one step, then the rest -/
theorem Hold.step {R : Wd → β → α → Prop} {R' : Wd → δ → γ → Prop} {Q : δ → Hp → Prop} {Q1 : β → Hp → Prop} {r : Rs α} {k : α → Sto → Rs γ} (h : Hold K W sv R' w Q (r.bind k))
    (hk : ∀ a S1 w1 H1 b, Ext w w1 → WRel K w1 S1 H1 → R w1 b a → Hold K W sv R' w1 Q (k a S1) → Q1 b H1) : Hold K W sv R w Q1 r := by
  cases r with
  | ok a S => exact fun w' H' b y z t => hk a S w' H' b y z t (Hold.mono (r := k a S) h y)
  | exc C p S => exact h
  | bad => exact h
theorem Hold.at_ {R : Wd → β → α → Prop} {Q : β → Hp → Prop} {a : α} {S : Sto} {H : Hp} {b : β} (h : Hold K W sv R w Q (.ok a S)) (z : WRel K w S H) (t : R w b a) : Q b H := h w H b (Ext.refl w) z t
end

/-- the reading that a function of locals and open objects gives -/
def rd {α β : Type} (K : PySem.W.Frag) (W : WX) (R : Wd → β → α → Prop) (m : Loc → Sto → Rs α) (sv : L2.St) (H : Hp) (Q : β → Hp → Prop) : Prop :=
  ∃ w σ S, LRel K w σ sv ∧ WRel K w S H ∧ Hold K W sv R w Q (m σ S)
abbrev rdE (K : PySem.W.Frag) (W : WX) (m : E3) : TE := rd K W (Rep K) m
abbrev rdT (K : PySem.W.Frag) (W : WX) (m : T3) : TT := rd K W (fun _ (b : Bool) (a : Bool) => b = a) m
abbrev rdA (K : PySem.W.Frag) (W : WX) (m : A3) : TA := rd K W (RepA K) m
def PE3 (X : Cx) (W : WX) (e : Expr) (m : E3) : Prop := PE X e (rdE X.K W m)
def PT3 (X : Cx) (W : WX) (e : Expr) (m : T3) : Prop := PT X e (rdT X.K W m)
def PA3 (X : Cx) (W : WX) (es : List Expr) (m : A3) : Prop := PA X es (rdA X.K W m)

theorem PE.imp {X : Cx} {e : Expr} {t t' : TE} (h : PE X e t) (i : ∀ s H Q, t' s H Q → t s H Q) : PE X e t' := ⟨fun pins s σ H Q I q => h.run pins s σ H Q I (i _ _ _ q)⟩
theorem PT.imp {X : Cx} {e : Expr} {t t' : TT} (h : PT X e t) (i : ∀ s H Q, t' s H Q → t s H Q) : PT X e t' := ⟨fun pins s σ H Q I q => h.run pins s σ H Q I (i _ _ _ q)⟩
theorem PA.imp {X : Cx} {es : List Expr} {t t' : TA} (h : PA X es t) (i : ∀ s H Q, t' s H Q → t s H Q) : PA X es t' := ⟨fun pos pins s σ H Q I q => h.run pos pins s σ H Q I (i _ _ _ q)⟩
theorem PS.imp {X : Cx} {st : Stmt} {t t' : TS} (h : PS X st t) (i : ∀ D s H, t' D s H → t D s H) : PS X st t' := ⟨fun pins s σ H Q I q => h.run pins s σ H Q I (i _ _ _ q)⟩
theorem PSs.imp {X : Cx} {st : List Stmt} {t t' : TS} (h : PSs X st t) (i : ∀ D s H, t' D s H → t D s H) : PSs X st t' := ⟨fun pins s σ H Q I q => h.run pins s σ H Q I (i _ _ _ q)⟩

/-! ### names and constants -/
def mC (d : D) : E3 := fun _ S => .ok d S
def mVar (i : Nat) : E3 := fun σ S => match σ[i]? with
  | some (some d) => .ok d S
  | _ => .bad
section
variable {X : Cx} {W : WX} {pos : Pos}
theorem e_const {e : Expr} {v : V} {d : D} (h : PE X e (tC v)) (r : ∀ w, Rep X.K w v d) : PE3 X W e (mC d) :=
  PE.imp h fun sv H Q ⟨w, σ, S, l, z, q⟩ => q.at_ z (r w)
theorem e_int {i : Int} {j} : PE3 X W (.Constant (.int i) j pos) (mC (.int i)) := e_const pe_int fun _ => .int i
theorem e_bl {i : Bool} {j} : PE3 X W (.Constant (.bool i) j pos) (mC (.bl i)) := e_const pe_bl fun _ => .bl i
theorem e_str {i : Str} {j} : PE3 X W (.Constant (.str i) j pos) (mC (.str i)) := e_const pe_str fun _ => .str i
theorem e_non {j} : PE3 X W (.Constant .none j pos) (mC .non) := e_const pe_non fun _ => .non
theorem e_var (i : Nat) {x : Str} (h : PE X (.Name x pos) (tVar i)) : PE3 X W (.Name x pos) (mVar i) :=
  PE.imp h fun sv H Q ⟨w, σ, S, l, z, q⟩ => by
    unfold mVar at q
    cases e : σ[i]? with
    | none => rw [e] at q; exact False.elim q
    | some o =>
      cases o with
      | none => rw [e] at q; exact False.elim q
      | some d =>
        rw [e] at q
        obtain ⟨v, hv, r⟩ := l.get e
        exact ⟨v, hv, q.at_ z r⟩
end

/-! ### operators -/
/-- a two-place operation on deep values -/
abbrev O3 := D → D → Sto → Rs D
def OpS (K : PySem.W.Frag) (r : R2) (f : O3) : Prop :=
  ∀ (W : WX) (sv : L2.St) (w : Wd) (u v : V) (d e : D) (S : Sto) (H : Hp) (Q : VK), WRel K w S H → Rep K w u d → Rep K w v e → Hold K W sv (Rep K) w Q (f d e S) → r u v H Q
def mBin (f : O3) (a b : E3) : E3 := fun σ S => (a σ S).bind fun d S1 => (b σ S1).bind fun e S2 => f d e S2
section
variable {X : Cx} {W : WX} {pos : Pos} {a b : Expr} {ma mb : E3} {f : O3} {r : R2}
theorem bin3 (s : OpS X.K r f) (sv : L2.St) (H : Hp) (Q : VK) (h : rdE X.K W (mBin f ma mb) sv H Q) : tOp r (rdE X.K W ma) (rdE X.K W mb) sv H Q := by
  obtain ⟨w, σ, S, l, z, q⟩ := h
  refine ⟨w, σ, S, l, z, Hold.step q fun d S1 w1 H1 u x1 z1 r1 q1 => ?_⟩
  refine ⟨w1, σ, S1, l.mono x1, z1, Hold.step q1 fun e S2 w2 H2 v x2 z2 r2 q2 => ?_⟩
  exact s W sv w2 u v d e S2 H2 Q z2 (r1.mono x2) r2 q2
theorem e_bin {op : Operator} (o : OpR X (binaryOp op) r) (s : OpS X.K r f) (ha : PE3 X W a ma) (hb : PE3 X W b mb) : PE3 X W (.BinOp a op b pos) (mBin f ma mb) := PE.imp (pe_op o ha hb) fun sv H Q h => bin3 s sv H Q h
theorem e_cmp {op : CmpOp} (o : OpR X (compareOp op) r) (s : OpS X.K r f) (ha : PE3 X W a ma) (hb : PE3 X W b mb) (hm : behindInMarks op b = false) : PE3 X W (.Compare a [op] [b] pos) (mBin f ma mb) :=
  PE.imp (pe_cmpR o ha hb hm) fun sv H Q h => bin3 s sv H Q h
/-- an outcome's truth where it must be a bool -/
def asB (r : Rs D) : Rs Bool := r.bind fun d S => match d with
  | .bl b => .ok b S
  | _ => .bad
theorem Hold.asB {sv : L2.St} {w : Wd} {Q : Bool → Hp → Prop} {r : Rs D} (h : Hold X.K W sv (fun _ (b : Bool) (a : Bool) => b = a) w Q (asB r)) : Hold X.K W sv (Rep X.K) w (fun x H' => ∃ k, x = .bl k ∧ Q k H') r := by
  refine Hold.step h fun d S1 w1 H1 v x1 z1 r1 q1 => ?_
  cases d with
  | bl b => cases r1; exact ⟨b, rfl, q1.at_ z1 rfl⟩
  | _ => exact False.elim q1
theorem t_cmp {op : CmpOp} (o : OpR X (compareOp op) r) (s : OpS X.K r f) (ha : PE3 X W a ma) (hb : PE3 X W b mb) (hm : behindInMarks op b = false) : PT3 X W (.Compare a [op] [b] pos) (fun σ S => asB (mBin f ma mb σ S)) :=
  PT.imp (pt_cmpR o ha hb hm) fun sv H Q ⟨w, σ, S, l, z, q⟩ => bin3 s sv H _ ⟨w, σ, S, l, z, q.asB⟩
theorem t_val {e : Expr} {m : E3} (h : PE3 X W e m) (he : ∀ whole, isTrue e X.env whole = (do let v ← whole; standAt e.pos; holding [v] (truthy v)) := by intro _; rfl) : PT3 X W e (fun σ S => asB (m σ S)) :=
  PT.imp (pt_val h he) fun sv H Q ⟨w, σ, S, l, z, q⟩ => ⟨w, σ, S, l, z, q.asB⟩
end
/-- ints -/
def oI (g : Int → Int → D) : O3 := fun d e S => match d, e with
  | .int i, .int j => .ok (g i j) S
  | _, _ => .bad
def oIc (c : Int → Int → Bool) (g : Int → Int → D) : O3 := fun d e S => match d, e with
  | .int i, .int j => if c i j then .ok (g i j) S else .bad
  | _, _ => .bad
section
variable {K : PySem.W.Frag}
theorem oI_s {g : Int → Int → V} {g' : Int → Int → D} (h : ∀ i j w, Rep K w (g i j) (g' i j)) : OpS K (rI0 g) (oI g') := by
  intro W sv w u v d e S H Q z r1 r2 q
  cases d with
  | int i =>
    cases e with
    | int j => cases r1; cases r2; exact ⟨i, j, rfl, rfl, q.at_ z (h i j w)⟩
    | _ => exact False.elim q
  | _ => exact False.elim q
theorem oIc_s {C : Int → Int → Prop} {c : Int → Int → Bool} {g : Int → Int → V} {g' : Int → Int → D} (hc : ∀ i j, c i j = true → C i j) (h : ∀ i j w, Rep K w (g i j) (g' i j)) : OpS K (rI C g) (oIc c g') := by
  intro W sv w u v d e S H Q z r1 r2 q
  cases d with
  | int i =>
    cases e with
    | int j =>
      cases r1; cases r2
      have q' : Hold K W sv (Rep K) w Q (if c i j then .ok (g' i j) S else .bad) := q
      by_cases k : c i j = true
      · rw [if_pos k] at q'
        exact ⟨i, j, rfl, rfl, hc i j k, q'.at_ z (h i j w)⟩
      · rw [if_neg k] at q'
        exact False.elim q'
    | _ => exact False.elim q
  | _ => exact False.elim q
end
def oAdd : O3 := oI fun i j => .int (i + j)
def oSub : O3 := oI fun i j => .int (i - j)
def oMul : O3 := oIc (fun i j => (decide (-(2 ^ 64) < i) && decide (i < 2 ^ 64)) || (decide (-(2 ^ 64) < j) && decide (j < 2 ^ 64))) fun i j => .int (i * j)
def oMod : O3 := oIc (fun _ j => decide (0 < j)) fun i j => .int (i % j)
def oDiv : O3 := oIc (fun _ j => decide (0 < j) && decide (j < 1073741824)) fun i j => .int (i / j)
def oPow : O3 := oIc (fun i j => decide (0 ≤ j) && decide (j ≤ 1000000) && decide (i.natAbs < 2 ^ 64)) fun i j => .int (i ^ j.toNat)
def oLt : O3 := oI fun i j => .bl (decide (i < j))
def oLe : O3 := oI fun i j => .bl (decide (i ≤ j))
def oGt : O3 := oI fun i j => .bl (decide (j < i))
def oGe : O3 := oI fun i j => .bl (decide (j ≤ i))
section
variable {K : PySem.W.Frag}
theorem oAdd_s : OpS K (rI0 fun i j => .int (i + j)) oAdd := oI_s fun _ _ _ => .int _
theorem oSub_s : OpS K (rI0 fun i j => .int (i - j)) oSub := oI_s fun _ _ _ => .int _
theorem oMul_s : OpS K (rI CMul fun i j => .int (i * j)) oMul := oIc_s (fun i j h => by simp only [Bool.or_eq_true, Bool.and_eq_true, decide_eq_true_eq] at h; exact h) fun _ _ _ => .int _
theorem oMod_s : OpS K (rI (fun _ j => 0 < j) fun i j => .int (i % j)) oMod := oIc_s (fun i j h => of_decide_eq_true h) fun _ _ _ => .int _
theorem oDiv_s : OpS K (rI CDiv fun i j => .int (i / j)) oDiv := oIc_s (fun i j h => by simp only [Bool.and_eq_true, decide_eq_true_eq] at h; exact h) fun _ _ _ => .int _
theorem oPow_s : OpS K (rI CPow fun i j => .int (i ^ j.toNat)) oPow := oIc_s (fun i j h => by simp only [Bool.and_eq_true, decide_eq_true_eq] at h; exact ⟨h.1.1, h.1.2, h.2⟩) fun _ _ _ => .int _
theorem oLt_s : OpS K (rI0 fun i j => .bl (decide (i < j))) oLt := oI_s fun _ _ _ => .bl _
theorem oLe_s : OpS K (rI0 fun i j => .bl (decide (i ≤ j))) oLe := oI_s fun _ _ _ => .bl _
theorem oGt_s : OpS K (rI0 fun i j => .bl (decide (j < i))) oGt := oI_s fun _ _ _ => .bl _
theorem oGe_s : OpS K (rI0 fun i j => .bl (decide (j ≤ i))) oGe := oI_s fun _ _ _ => .bl _
end
end DL
end

section
set_option Elab.async false
set_option linter.all false
set_option maxRecDepth 100000
set_option maxHeartbeats 4000000
namespace DL
open PySem PySem.Spec PyProof.Rows L2

/-! ### what a new object, a written object leaves -/
section
variable {K : PySem.W.Frag} {w : Wd} {S : Sto} {H : Hp} {p : Addr}
def Wd.put (w : Wd) (p : Addr) (o : HO) : Wd := ⟨upd w.G p o, w.am, w.hs⟩
def Wd.more (w : Wd) (p : Addr) : Wd := ⟨w.G, w.am ++ [p], w.hs⟩
theorem WRel.gfree (z : WRel K w S H) (n : H p = none) : w.G p = none := z.same.free n
theorem WRel.ext_put (z : WRel K w S H) (n : H p = none) (o : HO) : Ext w (w.put p o) :=
  ⟨fun b u e => by show upd w.G p o b = _; rw [upd_ne (ne_of_none e (z.gfree n))]; exact e, List.prefix_refl _, rfl⟩
theorem ObRep.held {a : Addr} {o : Ob} (r : ObRep K w H a o) (s : Same w.G H) : ∃ u, H a = some u := by
  cases o with
  | lst ds => obtain ⟨_, vs, e, _⟩ := r; exact ⟨_, e⟩
  | ins C fs => obtain ⟨_, dx, fv, e, _⟩ := r; exact ⟨_, e⟩
  | frz ds => obtain ⟨vs, e, _⟩ := r; exact ⟨_, s _ _ e⟩
theorem ObRep.stay {w' : Wd} {H' : Hp} {a : Addr} {o : Ob} (r : ObRep K w H a o) (x : Ext w w') (g : w.G a = none → w'.G a = none) (k : ∀ u, H a = some u → H' a = some u) : ObRep K w' H' a o := by
  cases o with
  | lst ds => obtain ⟨n, vs, e, q⟩ := r; exact ⟨g n, vs, k _ e, q.mono x⟩
  | ins C fs => obtain ⟨n, dx, fv, e, q⟩ := r; exact ⟨g n, dx, fv, k _ e, q.mono x⟩
  | frz ds => obtain ⟨vs, e, q⟩ := r; exact ⟨vs, x.same _ _ e, q.mono x⟩
theorem WRel.there (z : WRel K w S H) {k : Nat} {a : Addr} (e : w.am[k]? = some a) : ∃ o u, S[k]? = some o ∧ ObRep K w H a o ∧ H a = some u := by
  have hk : k < S.length := by rw [← z.len]; exact (List.getElem?_eq_some_iff.mp e).1
  have r := z.obs k a S[k] e (List.getElem?_eq_getElem hk)
  obtain ⟨u, hu⟩ := r.held z.same
  exact ⟨_, u, List.getElem?_eq_getElem hk, r, hu⟩
theorem WRel.out (z : WRel K w S H) (n : H p = none) : p ∉ w.am := fun hm => by
  obtain ⟨k, e⟩ := List.getElem?_of_mem hm
  obtain ⟨_, u, _, _, h⟩ := z.there e
  rw [n] at h; cases h
/-- a new thing that never changes -/
theorem WRel.put (z : WRel K w S H) (n : H p = none) (o : HO) : WRel K (w.put p o) S (upd H p o) where
  same := fun b u e => by
    by_cases hb : b = p
    · subst hb
      have e' : upd w.G b o b = some u := e
      rw [upd_same] at e' ⊢; exact e'
    · have e' : upd w.G p o b = some u := e
      rw [upd_ne hb] at e' ⊢; exact z.same _ _ e'
  len := z.len
  nd := z.nd
  obs := fun k a ob e1 e2 => by
    have ha : a ≠ p := fun q => z.out n (q ▸ List.mem_of_getElem? e1)
    refine (z.obs k a ob e1 e2).stay (z.ext_put n o) (fun g => ?_) fun u e => by rw [upd_ne ha]; exact e
    show upd w.G p o a = none
    rw [upd_ne ha]; exact g
  hid := fun q hq => by
    obtain ⟨e, g, m⟩ := z.hid q hq
    have hp := ne_of_none e n
    exact ⟨by rw [upd_ne hp]; exact e, by show upd w.G p o q.1 = none; rw [upd_ne hp]; exact g, m⟩
  hnd := z.hnd
theorem Wd.ext_more (w : Wd) (p : Addr) : Ext w (w.more p) := ⟨Same.refl _, List.prefix_append _ _, rfl⟩
/-- a new open object -/
theorem WRel.more (z : WRel K w S H) (n : H p = none) {o : HO} {ob : Ob} (r : ∀ w', Ext w w' → w'.G = w.G → ObRep K w' (upd H p o) p ob) : WRel K (w.more p) (S ++ [ob]) (upd H p o) where
  same := fun b u e => by rw [upd_ne (ne_of_none e (z.gfree n))]; exact z.same _ _ e
  len := by show (w.am ++ [p]).length = _; rw [List.length_append, List.length_append, z.len]; rfl
  nd := by
    refine List.nodup_append.mpr ⟨z.nd, by simp, fun a ha b hb => ?_⟩
    have e : b = p := by simpa using hb
    intro q
    subst q; subst e
    exact z.out n ha
  obs := fun k a ob' e1 e2 => by
    have e1' : (w.am ++ [p])[k]? = some a := e1
    by_cases hk : k < w.am.length
    · rw [List.getElem?_append_left hk] at e1'
      rw [List.getElem?_append_left (by rw [← z.len]; exact hk)] at e2
      have ha : a ≠ p := fun q => z.out n (q ▸ List.mem_of_getElem? e1')
      exact (z.obs k a ob' e1' e2).stay (w.ext_more p) (fun g => g) fun u e => by rw [upd_ne ha]; exact e
    · have hk' : k = w.am.length := by
        have := (List.getElem?_eq_some_iff.mp e1').1
        rw [List.length_append] at this
        simp only [List.length_cons, List.length_nil] at this
        omega
      subst hk'
      rw [List.getElem?_append_right (Nat.le_refl _), Nat.sub_self] at e1'
      rw [z.len, List.getElem?_append_right (Nat.le_refl _), Nat.sub_self] at e2
      have e3 : p = a := by simpa using e1'
      have e4 : ob = ob' := by simpa using e2
      subst e3; subst e4
      exact r (w.more p) (w.ext_more p) rfl
  hid := fun q hq => by
    obtain ⟨e, g, m⟩ := z.hid q hq
    have hp := ne_of_none e n
    refine ⟨by rw [upd_ne hp]; exact e, g, fun hm => ?_⟩
    rcases List.mem_append.mp hm with hm | hm
    · exact m hm
    · exact hp (by simpa using hm)
  hnd := z.hnd
/-- an open object is written -/
theorem WRel.write (z : WRel K w S H) {k : Nat} {a : Addr} (ha : w.am[k]? = some a) (g : w.G a = none) {o : HO} {ob : Ob} (r : ObRep K w (upd H a o) a ob) : WRel K w (S.set k ob) (upd H a o) where
  same := fun b u e => by rw [upd_ne (fun q => by subst q; rw [g] at e; cases e)]; exact z.same _ _ e
  len := by rw [List.length_set]; exact z.len
  nd := z.nd
  obs := fun j b ob' e1 e2 => by
    by_cases hj : j = k
    · subst hj
      rw [ha] at e1
      have e3 : a = b := Option.some.inj e1
      subst e3
      rw [List.getElem?_set_self (by rw [← z.len]; exact (List.getElem?_eq_some_iff.mp ha).1)] at e2
      have e4 : ob = ob' := Option.some.inj e2
      subst e4
      exact r
    · rw [List.getElem?_set_ne (Ne.symm hj)] at e2
      have hb : b ≠ a := fun q => by
        subst q
        exact hj (nd_ix z.nd e1 ha)
      exact (z.obs j b ob' e1 e2).stay (Ext.refl w) (fun x => x) fun u e => by rw [upd_ne hb]; exact e
  hid := fun q hq => by
    obtain ⟨e, g', m⟩ := z.hid q hq
    have hp : q.1 ≠ a := fun h => m (h ▸ List.mem_of_getElem? ha)
    exact ⟨by rw [upd_ne hp]; exact e, g', m⟩
  hnd := z.hnd
/-- a new object that is kept aside -/
def Wd.hide (w : Wd) (p : Addr) (o : HO) : Wd := ⟨w.G, w.am, (p, o) :: w.hs⟩
theorem WRel.hide (z : WRel K w S H) (n : H p = none) (o : HO) : WRel K (w.hide p o) S (upd H p o) where
  same := fun b u e => by rw [upd_ne (ne_of_none e (z.gfree n))]; exact z.same _ _ e
  len := z.len
  nd := z.nd
  obs := fun k a ob e1 e2 => by
    have ha : a ≠ p := fun q => z.out n (q ▸ List.mem_of_getElem? e1)
    have r := z.obs k a ob e1 e2
    cases ob with
    | lst ds => obtain ⟨g, vs, e, q⟩ := r; exact ⟨g, vs, by rw [upd_ne ha]; exact e, RepA.alike (u := w) (u' := w.hide p o) rfl rfl q⟩
    | ins C fs => obtain ⟨g, dx, fv, e, q⟩ := r; exact ⟨g, dx, fv, by rw [upd_ne ha]; exact e, RepF.alike (u := w) (u' := w.hide p o) rfl rfl q⟩
    | frz ds => obtain ⟨vs, e, q⟩ := r; exact ⟨vs, e, RepA.alike (u := w) (u' := w.hide p o) rfl rfl q⟩
  hid := fun q hq => by
    rcases List.mem_cons.mp hq with e | hq
    · subst e
      exact ⟨upd_same, z.gfree n, z.out n⟩
    · obtain ⟨e, g, m⟩ := z.hid q hq
      exact ⟨by rw [upd_ne (ne_of_none e n)]; exact e, g, m⟩
  hnd := by
    show (p :: w.hs.map (·.1)).Nodup
    refine List.nodup_cons.mpr ⟨fun hm => ?_, z.hnd⟩
    obtain ⟨q, hq, e⟩ := List.mem_map.mp hm
    have h := (z.hid q hq).1
    rw [e, n] at h; cases h
/-- what is kept aside is written -/
theorem WRel.rehide {l : List (Addr × HO)} {o o' : HO} (z : WRel K w S H) (e : w.hs = (p, o) :: l) : WRel K ⟨w.G, w.am, (p, o') :: l⟩ S (upd H p o') where
  same := fun b u h => by
    obtain ⟨_, g, _⟩ := z.hid (p, o) (by rw [e]; exact List.mem_cons_self)
    rw [upd_ne (fun q => by subst q; have h' : w.G b = some u := h; rw [show w.G b = none from g] at h'; cases h')]
    exact z.same _ _ h
  len := z.len
  nd := z.nd
  obs := fun k a ob e1 e2 => by
    obtain ⟨_, _, m⟩ := z.hid (p, o) (by rw [e]; exact List.mem_cons_self)
    have ha : a ≠ p := fun q => m (q ▸ List.mem_of_getElem? e1)
    have r := z.obs k a ob e1 e2
    cases ob with
    | lst ds => obtain ⟨g, vs, h, q⟩ := r; exact ⟨g, vs, by rw [upd_ne ha]; exact h, RepA.alike (u := w) (u' := ⟨w.G, w.am, (p, o') :: l⟩) rfl rfl q⟩
    | ins C fs => obtain ⟨g, dx, fv, h, q⟩ := r; exact ⟨g, dx, fv, by rw [upd_ne ha]; exact h, RepF.alike (u := w) (u' := ⟨w.G, w.am, (p, o') :: l⟩) rfl rfl q⟩
    | frz ds => obtain ⟨vs, h, q⟩ := r; exact ⟨vs, h, RepA.alike (u := w) (u' := ⟨w.G, w.am, (p, o') :: l⟩) rfl rfl q⟩
  hid := fun q hq => by
    have nd := z.hnd
    rw [e, List.map_cons, List.nodup_cons] at nd
    rcases List.mem_cons.mp hq with h | hq
    · subst h
      obtain ⟨_, g, m⟩ := z.hid (p, o) (by rw [e]; exact List.mem_cons_self)
      exact ⟨upd_same, g, m⟩
    · obtain ⟨h, g, m⟩ := z.hid q (by rw [e]; exact List.mem_cons_of_mem _ hq)
      have hp : q.1 ≠ p := fun h' => nd.1 (by rw [← h']; exact List.mem_map_of_mem (f := (·.1)) hq)
      exact ⟨by rw [upd_ne hp]; exact h, g, m⟩
  hnd := by
    have nd := z.hnd
    rw [e] at nd
    exact nd
/-- what was kept aside never changes from now on -/
theorem WRel.show_ {l : List (Addr × HO)} {o : HO} (z : WRel K w S H) (e : w.hs = (p, o) :: l) : WRel K ⟨upd w.G p o, w.am, l⟩ S H ∧ Grow w ⟨upd w.G p o, w.am, l⟩ := by
  obtain ⟨h0, g0, m0⟩ := z.hid (p, o) (by rw [e]; exact List.mem_cons_self)
  have x : Grow w ⟨upd w.G p o, w.am, l⟩ := ⟨fun b u h => by
    show upd w.G p o b = _
    rw [upd_ne (fun q => by subst q; rw [show w.G b = none from g0] at h; cases h)]
    exact h, List.prefix_refl _⟩
  refine ⟨⟨fun b u h => ?_, z.len, z.nd, fun k a ob e1 e2 => ?_, fun q hq => ?_, ?_⟩, x⟩
  · have h' : upd w.G p o b = some u := h
    by_cases hb : b = p
    · subst hb; rw [upd_same] at h'; cases h'; exact h0
    · rw [upd_ne hb] at h'; exact z.same _ _ h'
  · have ha : a ≠ p := fun q => m0 (q ▸ List.mem_of_getElem? e1)
    have r := z.obs k a ob e1 e2
    have gg : w.G a = none → upd w.G p o a = none := fun h => by rw [upd_ne ha]; exact h
    cases ob with
    | lst ds => obtain ⟨g, vs, h, q⟩ := r; exact ⟨gg g, vs, h, q.monoG x⟩
    | ins C fs => obtain ⟨g, dx, fv, h, q⟩ := r; exact ⟨gg g, dx, fv, h, RepF.monoG x q⟩
    | frz ds => obtain ⟨vs, h, q⟩ := r; exact ⟨vs, x.same _ _ h, q.monoG x⟩
  · have nd := z.hnd
    rw [e, List.map_cons, List.nodup_cons] at nd
    obtain ⟨h, g, m⟩ := z.hid q (by rw [e]; exact List.mem_cons_of_mem _ hq)
    have hp : q.1 ≠ p := fun h' => nd.1 (by rw [← h']; exact List.mem_map_of_mem (f := (·.1)) hq)
    exact ⟨h, by show upd w.G p o q.1 = none; rw [upd_ne hp]; exact g, m⟩
  · have nd := z.hnd
    rw [e, List.map_cons, List.nodup_cons] at nd
    exact nd.2
/-- what was kept aside is an open list from now on -/
theorem WRel.open_ {l : List (Addr × HO)} {vs : List V} {xs : List D} (z : WRel K w S H) (e : w.hs = (p, .lst vs) :: l) (r : RepA K w vs xs) : WRel K ⟨w.G, w.am ++ [p], l⟩ (S ++ [.lst xs]) H ∧ Grow w ⟨w.G, w.am ++ [p], l⟩ := by
  obtain ⟨h0, g0, m0⟩ := z.hid (p, .lst vs) (by rw [e]; exact List.mem_cons_self)
  have x : Grow w ⟨w.G, w.am ++ [p], l⟩ := ⟨Same.refl _, List.prefix_append _ _⟩
  have nd := z.hnd
  rw [e, List.map_cons, List.nodup_cons] at nd
  refine ⟨⟨z.same, ?_, ?_, fun k a ob e1 e2 => ?_, fun q hq => ?_, nd.2⟩, x⟩
  · show (w.am ++ [p]).length = _
    rw [List.length_append, List.length_append, z.len]; rfl
  · refine List.nodup_append.mpr ⟨z.nd, by simp, fun a ha b hb => ?_⟩
    have e : b = p := by simpa using hb
    intro q
    subst q; subst e
    exact m0 ha
  · have e1' : (w.am ++ [p])[k]? = some a := e1
    by_cases hk : k < w.am.length
    · rw [List.getElem?_append_left hk] at e1'
      rw [List.getElem?_append_left (by rw [← z.len]; exact hk)] at e2
      have q := z.obs k a ob e1' e2
      cases ob with
      | lst ds => obtain ⟨g, vs, h, q⟩ := q; exact ⟨g, vs, h, q.monoG x⟩
      | ins C fs => obtain ⟨g, dx, fv, h, q⟩ := q; exact ⟨g, dx, fv, h, RepF.monoG x q⟩
      | frz ds => obtain ⟨vs, h, q⟩ := q; exact ⟨vs, h, q.monoG x⟩
    · have hk' : k = w.am.length := by
        have := (List.getElem?_eq_some_iff.mp e1').1
        rw [List.length_append] at this
        simp only [List.length_cons, List.length_nil] at this
        omega
      subst hk'
      rw [List.getElem?_append_right (Nat.le_refl _), Nat.sub_self] at e1'
      rw [z.len, List.getElem?_append_right (Nat.le_refl _), Nat.sub_self] at e2
      have e3 : p = a := by simpa using e1'
      have e4 : Ob.lst xs = ob := by simpa using e2
      subst e3; subst e4
      exact ⟨g0, vs, h0, r.monoG x⟩
  · obtain ⟨h, g, m⟩ := z.hid q (by rw [e]; exact List.mem_cons_of_mem _ hq)
    have hp : q.1 ≠ p := fun h' => nd.1 (by rw [← h']; exact List.mem_map_of_mem (f := (·.1)) hq)
    refine ⟨h, g, fun hm => ?_⟩
    rcases List.mem_append.mp hm with hm | hm
    · exact m hm
    · exact hp (by simpa using hm)
end

/-! ### reading sequences -/
def itemsOf (S : Sto) : D → Option (List D)
  | .tup xs => some xs
  | .lst xs => some xs
  | .wl xs => some xs
  | .wt xs => some xs
  | .ref k => match S[k]? with
    | some (.lst xs) => some xs
    | some (.frz xs) => some xs
    | _ => none
  | _ => none
section
variable {K : PySem.W.Frag} {w : Wd} {S : Sto} {H : Hp} {v : V} {d : D}
theorem itemsOf_at (z : WRel K w S H) (r : Rep K w v d) {xs : List D} (e : itemsOf S d = some xs) : ∃ a vs, v = .ref a ∧ RepA K w vs xs ∧ (SqL K H a vs ∨ SqT K H a vs) := by
  cases d with
  | tup ys =>
    cases r with
    | tup h1 h2 => cases e; exact ⟨_, _, rfl, h2, .inr (SqT.of (z.same _ _ h1))⟩
  | wt ys =>
    cases r with
    | wt h1 h2 => cases e; exact ⟨_, _, rfl, h2, .inr (seqT z.same h1)⟩
  | lst ys =>
    cases r with
    | lst h1 h2 => cases e; exact ⟨_, _, rfl, h2, .inl (SqL.of (z.same _ _ h1))⟩
  | wl ys =>
    cases r with
    | wl h1 h2 => cases e; exact ⟨_, _, rfl, h2, .inl (z.same.seq h1)⟩
  | ref k =>
    cases r with
    | ref h1 =>
      obtain ⟨o, u, e1, q, _⟩ := z.there h1
      have e' : (match S[k]? with
        | some (.lst xs) => some xs
        | some (.frz xs) => some xs
        | _ => none) = some xs := e
      rw [e1] at e'
      cases o with
      | lst zs =>
        cases e'
        obtain ⟨_, vs, e2, q⟩ := q
        exact ⟨_, vs, rfl, q, .inl (SqL.of e2)⟩
      | frz zs =>
        cases e'
        obtain ⟨vs, e2, q⟩ := q
        exact ⟨_, vs, rfl, q, .inl (SqL.of (z.same _ _ e2))⟩
      | ins C fs => cases e'
  | _ => cases e
theorem RepA.atI : ∀ {vs : List V} {ds : List D} {i : Int} {d : D}, RepA K w vs ds → L2.atI ds i = some d → ∃ v, L2.atI vs i = some v ∧ Rep K w v d := by
  intro vs ds i d h e
  unfold L2.atI at e ⊢
  rw [h.length]
  cases q : ixN ds.length i with
  | none => rw [q] at e; cases e
  | some j =>
    rw [q] at e
    exact h.get e
end
def oIx : O3 := fun d e S => match e with
  | .int i => match d with
    | .str z => if z.length ≤ sizeLine then (match L2.atI z.cps.toList i with
      | some c => .ok (.str ⟨#[c]⟩) S
      | none => .bad) else .bad
    | _ => match itemsOf S d with
      | some xs => (match L2.atI xs i with
        | some y => .ok y S
        | none => .bad)
      | none => .bad
  | _ => .bad
theorem oIx_s {K : PySem.W.Frag} : OpS K (rIx K) oIx := by
  intro W sv w u v d e S H Q z r1 r2 q
  cases e with
  | int i =>
    cases r2
    have seq : ∀ xs, itemsOf S d = some xs → (match L2.atI xs i with
        | some y => Hold K W sv (Rep K) w Q (.ok y S)
        | none => False) → rIx K u (.int i) H Q := fun xs he hq => by
      obtain ⟨a, vs, rfl, ra, hs⟩ := itemsOf_at z r1 he
      cases ey : L2.atI xs i with
      | none => rw [ey] at hq; exact hq.elim
      | some y =>
        rw [ey] at hq
        obtain ⟨x, ex, rx⟩ := ra.atI ey
        rcases hs with hs | hs
        · exact .inl ⟨a, vs, i, x, rfl, rfl, hs, ex, Hold.at_ hq z rx⟩
        · exact .inr (.inl ⟨a, vs, i, x, rfl, rfl, hs, ex, Hold.at_ hq z rx⟩)
    have gen : (∀ x, d ≠ .str x) → rIx K u (.int i) H Q := fun hd => by
      have q' : Hold K W sv (Rep K) w Q (match itemsOf S d with
        | some xs => (match L2.atI xs i with
          | some y => .ok y S
          | none => .bad)
        | none => .bad) := by
        cases d with
        | str x => exact absurd rfl (hd x)
        | _ => exact q
      cases he : itemsOf S d with
      | none => rw [he] at q'; exact False.elim q'
      | some xs =>
        refine seq xs he ?_
        rw [he] at q'
        cases ey : L2.atI xs i with
        | none => simp only [ey] at q'; exact False.elim q'
        | some y => simp only [ey] at q'; exact q'
    cases d with
    | str x =>
      cases r1
      have q' : Hold K W sv (Rep K) w Q (if x.length ≤ sizeLine then (match L2.atI x.cps.toList i with
        | some c => .ok (.str ⟨#[c]⟩) S
        | none => .bad) else .bad) := q
      by_cases hx : x.length ≤ sizeLine
      · rw [if_pos hx] at q'
        cases ec : L2.atI x.cps.toList i with
        | none => rw [ec] at q'; exact False.elim q'
        | some c =>
          rw [ec] at q'
          exact .inr (.inr ⟨x, i, c, rfl, rfl, hx, ec, Hold.at_ q' z (.str _)⟩)
      · rw [if_neg hx] at q'; exact False.elim q'
    | _ => exact gen fun x e => by cases e
  | _ => exact False.elim q
section
variable {X : Cx} {W : WX} {pos : Pos} {a b : Expr} {ma mb : E3}
theorem e_ix (ha : PE3 X W a ma) (hb : PE3 X W b mb) (hs : PlainIx b := by exact fun _ _ => rfl) : PE3 X W (.Subscript a b pos) (mBin oIx ma mb) := PE.imp (pe_ix ix_seq ha hb hs) fun sv H Q h => bin3 oIx_s sv H Q h

/-! ### argument lists, displays -/
def mNil : A3 := fun _ S => .ok [] S
def mCons (a : E3) (r : A3) : A3 := fun σ S => (a σ S).bind fun d S1 => (r σ S1).bind fun ds S2 => .ok (d :: ds) S2
theorem a_nil : PA3 X W [] mNil := PA.imp pa_nil fun sv H Q ⟨w, σ, S, l, z, q⟩ => q.at_ z .nil
theorem a_cons {e : Expr} {es : List Expr} {m : E3} {ms : A3} (he : PE3 X W e m) (hr : PA3 X W es ms) (hs : starEach (e :: es) X.env = (false, eval e X.env) :: starEach es X.env := by rfl) : PA3 X W (e :: es) (mCons m ms) :=
  PA.imp (pa_cons he hr hs) fun sv H Q ⟨w, σ, S, l, z, q⟩ => ⟨w, σ, S, l, z, Hold.step q fun d S1 w1 H1 u x1 z1 r1 q1 => ⟨w1, σ, S1, l.mono x1, z1, Hold.step q1 fun ds S2 w2 H2 us x2 z2 r2 q2 => q2.at_ z2 (.cons (r1.mono x2) r2)⟩⟩
end
def sizeOk (n : Nat) : Bool := decide (n ≤ sizeLine)
def mkTup (ds : List D) (S : Sto) : Rs D := if sizeOk ds.length then .ok (.tup ds) S else .bad
def mkLst (ds : List D) (S : Sto) : Rs D := if sizeOk ds.length then .ok (.lst ds) S else .bad
def mkOpen (ds : List D) (S : Sto) : Rs D := if sizeOk ds.length then .ok (.ref S.length) (S ++ [.lst ds]) else .bad
section
variable {K : PySem.W.Frag} {w : Wd} {S : Sto} {H : Hp} {W : WX} {sv : L2.St} {vs : List V} {ds : List D} {Q : VK}
theorem mkTup_s (h : Hold K W sv (Rep K) w Q (mkTup ds S)) (z : WRel K w S H) (r : RepA K w vs ds) : vs.length ≤ sizeLine ∧ ∀ p, H p = none → Q (.ref p) (upd H p (.tup vs)) := by
  unfold mkTup at h
  by_cases hz : sizeOk ds.length = true
  · rw [if_pos hz] at h
    exact ⟨by rw [r.length]; exact of_decide_eq_true hz, fun p n => h _ _ _ (z.ext_put n _) (z.put n _) (.tup upd_same (r.mono (z.ext_put n _)))⟩
  · rw [if_neg hz] at h; exact False.elim h
theorem mkLst_s (h : Hold K W sv (Rep K) w Q (mkLst ds S)) (z : WRel K w S H) (r : RepA K w vs ds) : vs.length ≤ sizeLine ∧ ∀ p, H p = none → Q (.ref p) (upd H p (.lst vs)) := by
  unfold mkLst at h
  by_cases hz : sizeOk ds.length = true
  · rw [if_pos hz] at h
    exact ⟨by rw [r.length]; exact of_decide_eq_true hz, fun p n => h _ _ _ (z.ext_put n _) (z.put n _) (.lst upd_same (r.mono (z.ext_put n _)))⟩
  · rw [if_neg hz] at h; exact False.elim h
theorem mkOpen_s (h : Hold K W sv (Rep K) w Q (mkOpen ds S)) (z : WRel K w S H) (r : RepA K w vs ds) : vs.length ≤ sizeLine ∧ ∀ p, H p = none → Q (.ref p) (upd H p (.lst vs)) := by
  unfold mkOpen at h
  by_cases hz : sizeOk ds.length = true
  · rw [if_pos hz] at h
    refine ⟨by rw [r.length]; exact of_decide_eq_true hz, fun p n => h _ _ _ (w.ext_more p) (z.more n fun w' x g => ⟨by rw [g]; exact z.gfree n, vs, upd_same, r.mono x⟩) (.ref ?_)⟩
    show (w.am ++ [p])[S.length]? = some p
    rw [← z.len, List.getElem?_append_right (Nat.le_refl _), Nat.sub_self]
    rfl
  · rw [if_neg hz] at h; exact False.elim h
end
def mMake (f : List D → Sto → Rs D) (a : A3) : E3 := fun σ S => (a σ S).bind f
section
variable {X : Cx} {W : WX} {pos : Pos} {es : List Expr} {ms : A3}
theorem e_tup {k : Nat} (h : PA3 X W es ms) : PE3 X W (.Tuple es k pos) (mMake mkTup ms) :=
  PE.imp (pe_tup h) fun sv H Q ⟨w, σ, S, l, z, q⟩ => ⟨w, σ, S, l, z, Hold.step q fun ds S1 w1 H1 vs x1 z1 r1 q1 => mkTup_s q1 z1 r1⟩
theorem e_lst (h : PA3 X W es ms) : PE3 X W (.List es pos) (mMake mkLst ms) :=
  PE.imp (pe_lst h) fun sv H Q ⟨w, σ, S, l, z, q⟩ => ⟨w, σ, S, l, z, Hold.step q fun ds S1 w1 H1 vs x1 z1 r1 q1 => mkLst_s q1 z1 r1⟩
theorem e_lstO (h : PA3 X W es ms) : PE3 X W (.List es pos) (mMake mkOpen ms) :=
  PE.imp (pe_lst h) fun sv H Q ⟨w, σ, S, l, z, q⟩ => ⟨w, σ, S, l, z, Hold.step q fun ds S1 w1 H1 vs x1 z1 r1 q1 => mkOpen_s q1 z1 r1⟩
end

/-! ### calls of built-ins by their names -/
abbrev C3 := List D → Sto → Rs D
def CallS (K : PySem.W.Frag) (r : List V → Hp → VK → Prop) (f : C3) : Prop :=
  ∀ (W : WX) (sv : L2.St) (w : Wd) (us : List V) (ds : List D) (S : Sto) (H : Hp) (Q : VK), WRel K w S H → RepA K w us ds → Hold K W sv (Rep K) w Q (f ds S) → r us H Q
section
variable {X : Cx} {W : WX} {x : Str} {p pos : Pos} {e : Expr} {es : List Expr} {ms : A3} {id T : String} {r : List V → Hp → VK → Prop} {f : C3}
theorem call3 (s : CallS X.K r f) (sv : L2.St) (H : Hp) (Q : VK) (h : rdE X.K W (mMake f ms) sv H Q) : tCB r (rdA X.K W ms) sv H Q := by
  obtain ⟨w, σ, S, l, z, q⟩ := h
  exact ⟨w, σ, S, l, z, Hold.step q fun ds S1 w1 H1 vs x1 z1 r1 q1 => s W sv w1 vs ds S1 H1 Q z1 r1 q1⟩
theorem e_callB (hc : CallR X (.builtin id) r) (s : CallS X.K r f) (hg : Gl X x) (hm : X.mg x = none) (hv : bootBuiltins x = some (.builtin id)) (ha : PA3 X W (e :: es) ms) (hn : x ≠ "__name__" := by decide)
    (hdb : (x == ("__debug__" : Str)) = false := by decide) (he : starEach (e :: es) X.env = (false, eval e X.env) :: starEach es X.env := by rfl) (hpl : (backTo pos (starEach es X.env)).any (·.1) = false := by rfl) :
    PE3 X W (.Call (.Name x p) (e :: es) [] pos) (mMake f ms) := PE.imp (pe_callB hc hg hm hv ha hn hdb he hpl) fun sv H Q h => call3 s sv H Q h
theorem e_callTy (hc : CallR X (.type T) r) (s : CallS X.K r f) (hg : Gl X x) (hm : X.mg x = none) (hv : bootBuiltins x = some (.type T)) (ha : PA3 X W (e :: es) ms) (hn : x ≠ "__name__" := by decide)
    (hdb : (x == ("__debug__" : Str)) = false := by decide) (he : starEach (e :: es) X.env = (false, eval e X.env) :: starEach es X.env := by rfl) (hpl : (backTo pos (starEach es X.env)).any (·.1) = false := by rfl) :
    PE3 X W (.Call (.Name x p) (e :: es) [] pos) (mMake f ms) := PE.imp (pe_callTy hc hg hm hv ha hn hdb he hpl) fun sv H Q h => call3 s sv H Q h
end
/-- calls of one, of two things -/
def c1 (f : D → Sto → Rs D) : C3 := fun ds S => match ds with
  | [d] => f d S
  | _ => .bad
def c2 (f : D → D → Sto → Rs D) : C3 := fun ds S => match ds with
  | [d, e] => f d e S
  | _ => .bad
theorem c1_s {K : PySem.W.Frag} {r : List V → Hp → VK → Prop} {f : D → Sto → Rs D}
    (h : ∀ (W : WX) (sv : L2.St) (w : Wd) (u : V) (d : D) (S : Sto) (H : Hp) (Q : VK), WRel K w S H → Rep K w u d → Hold K W sv (Rep K) w Q (f d S) → r [u] H Q) : CallS K r (c1 f) := by
  intro W sv w us ds S H Q z ra q
  match ds, ra, q with
  | [], _, q => exact False.elim q
  | [d], .cons r1 .nil, q => exact h W sv w _ d S H Q z r1 q
  | _ :: _ :: _, _, q => exact False.elim q
theorem c2_s {K : PySem.W.Frag} {r : List V → Hp → VK → Prop} {f : D → D → Sto → Rs D}
    (h : ∀ (W : WX) (sv : L2.St) (w : Wd) (u v : V) (d e : D) (S : Sto) (H : Hp) (Q : VK), WRel K w S H → Rep K w u d → Rep K w v e → Hold K W sv (Rep K) w Q (f d e S) → r [u, v] H Q) : CallS K r (c2 f) := by
  intro W sv w us ds S H Q z ra q
  match ds, ra, q with
  | [], _, q => exact False.elim q
  | [_], _, q => exact False.elim q
  | [d, e], .cons r1 (.cons r2 .nil), q => exact h W sv w _ _ d e S H Q z r1 r2 q
  | _ :: _ :: _ :: _, _, q => exact False.elim q
/-- where a thing's items are asked -/
def withItems (d : D) (S : Sto) (k : List D → Rs D) : Rs D := match itemsOf S d with
  | some xs => k xs
  | none => .bad
theorem withItems_s {K : PySem.W.Frag} {W : WX} {sv : L2.St} {w : Wd} {u : V} {d : D} {S : Sto} {H : Hp} {Q : VK} {k : List D → Rs D} (z : WRel K w S H) (r : Rep K w u d) (h : Hold K W sv (Rep K) w Q (withItems d S k)) :
    ∃ xs a vs, itemsOf S d = some xs ∧ u = .ref a ∧ RepA K w vs xs ∧ (SqL K H a vs ∨ SqT K H a vs) ∧ Hold K W sv (Rep K) w Q (k xs) := by
  unfold withItems at h
  cases he : itemsOf S d with
  | none => rw [he] at h; exact False.elim h
  | some xs =>
    rw [he] at h
    obtain ⟨a, vs, e, ra, hs⟩ := itemsOf_at z r he
    exact ⟨xs, a, vs, rfl, e, ra, hs, h⟩
def guard (c : Bool) (r : Rs D) : Rs D := if c then r else .bad
@[simp] theorem guard_true (r : Rs D) : guard true r = r := rfl
theorem guard_s {K : PySem.W.Frag} {W : WX} {sv : L2.St} {w : Wd} {Q : VK} {c : Bool} {r : Rs D} (h : Hold K W sv (Rep K) w Q (guard c r)) : c = true ∧ Hold K W sv (Rep K) w Q r := by
  cases c with
  | true => exact ⟨rfl, h⟩
  | false => exact False.elim h
def len1 (d : D) (S : Sto) : Rs D := match d with
  | .str x => guard (sizeOk x.length) (.ok (.int x.length) S)
  | d => withItems d S fun xs => .ok (.int xs.length) S
def fLen : C3 := c1 len1
theorem fLen_s {K : PySem.W.Frag} : CallS K (fun xs H Q => ∃ x n, xs = [x] ∧ LenV K x H n ∧ Q (.int n) H) fLen := c1_s fun W sv w u d S H Q z r q => by
  have gen : Hold K W sv (Rep K) w Q (withItems d S fun xs => .ok (.int xs.length) S) → ∃ x n, [u] = [x] ∧ LenV K x H n ∧ Q (.int n) H := fun hq => by
    obtain ⟨xs, a, vs, _, rfl, ra, hs, hk⟩ := withItems_s z r hq
    refine ⟨_, xs.length, rfl, ?_, hk.at_ z (.int _)⟩
    rcases hs with hs | hs
    · exact .inl ⟨vs, hs, ra.length.symm⟩
    · exact .inr ⟨vs, hs, ra.length.symm⟩
  cases d with
  | str x =>
    cases r
    obtain ⟨hz, hk⟩ := guard_s (show Hold K W sv (Rep K) w Q (guard (sizeOk x.length) (.ok (.int x.length) S)) from q)
    exact ⟨_, x.length, rfl, ⟨of_decide_eq_true hz, rfl⟩, hk.at_ z (.int _)⟩
  | _ => exact gen q
end DL
end

section
set_option Elab.async false
set_option linter.all false
set_option maxRecDepth 100000
set_option maxHeartbeats 4000000
namespace DL
open PySem PySem.Spec PyProof.Rows L2

/-! ### list(x), tuple(x) -/
def fList : C3 := c1 fun d S => withItems d S fun xs => mkLst xs S
def fListO : C3 := c1 fun d S => withItems d S fun xs => mkOpen xs S
/-- a list's copy as a tuple; a tuple is itself -/
def isTupD : D → Bool
  | .tup _ => true
  | .wt _ => true
  | _ => false
def fTuple : C3 := c1 fun d S => if isTupD d then .ok d S else withItems d S fun xs => mkTup xs S
section
variable {K : PySem.W.Frag}
theorem fList_s : CallS K (fun xs H Q => ∃ p ys, xs = [.ref p] ∧ (SqL K H p ys ∨ SqT K H p ys) ∧ ∀ l, H l = none → Q (.ref l) (upd H l (.lst ys))) fList := c1_s fun W sv w u d S H Q z r q => by
  obtain ⟨xs, a, vs, _, rfl, ra, hs, hk⟩ := withItems_s z r q
  exact ⟨a, vs, rfl, hs, (mkLst_s hk z ra).2⟩
theorem fListO_s : CallS K (fun xs H Q => ∃ p ys, xs = [.ref p] ∧ (SqL K H p ys ∨ SqT K H p ys) ∧ ∀ l, H l = none → Q (.ref l) (upd H l (.lst ys))) fListO := c1_s fun W sv w u d S H Q z r q => by
  obtain ⟨xs, a, vs, _, rfl, ra, hs, hk⟩ := withItems_s z r q
  exact ⟨a, vs, rfl, hs, (mkOpen_s hk z ra).2⟩
theorem Rep.seqT_of {w : Wd} {S : Sto} {H : Hp} {v : V} {d : D} (z : WRel K w S H) (r : Rep K w v d) (t : isTupD d = true) : ∃ a vs, v = .ref a ∧ SqT K H a vs := by
  cases d with
  | tup xs =>
    cases r with
    | tup h1 h2 => exact ⟨_, _, rfl, SqT.of (z.same _ _ h1)⟩
  | wt xs =>
    cases r with
    | wt h1 h2 => exact ⟨_, _, rfl, seqT z.same h1⟩
  | _ => exact absurd t Bool.false_ne_true
theorem items_tup {w : Wd} {S : Sto} {H : Hp} {v : V} {d : D} (z : WRel K w S H) (r : Rep K w v d) {xs : List D} (e : itemsOf S d = some xs) (t : isTupD d = true) : ∃ a vs, v = .ref a ∧ RepA K w vs xs ∧ SqT K H a vs := by
  cases d with
  | tup ys =>
    cases r with
    | tup h1 h2 => cases e; exact ⟨_, _, rfl, h2, SqT.of (z.same _ _ h1)⟩
  | wt ys =>
    cases r with
    | wt h1 h2 => cases e; exact ⟨_, _, rfl, h2, seqT z.same h1⟩
  | _ => exact absurd t Bool.false_ne_true
theorem items_list {w : Wd} {S : Sto} {H : Hp} {v : V} {d : D} (z : WRel K w S H) (r : Rep K w v d) {xs : List D} (e : itemsOf S d = some xs) (t : isTupD d = false) : ∃ a vs, v = .ref a ∧ RepA K w vs xs ∧ SqL K H a vs := by
  cases d with
  | tup ys => exact absurd t (Ne.symm Bool.false_ne_true)
  | wt ys => exact absurd t (Ne.symm Bool.false_ne_true)
  | lst ys =>
    cases r with
    | lst h1 h2 => cases e; exact ⟨_, _, rfl, h2, SqL.of (z.same _ _ h1)⟩
  | wl ys =>
    cases r with
    | wl h1 h2 => cases e; exact ⟨_, _, rfl, h2, z.same.seq h1⟩
  | ref k =>
    cases r with
    | ref h1 =>
      obtain ⟨o, u, e1, q, _⟩ := z.there h1
      have e' : (match S[k]? with
        | some (.lst xs) => some xs
        | some (.frz xs) => some xs
        | _ => none) = some xs := e
      rw [e1] at e'
      cases o with
      | lst zs =>
        cases e'
        obtain ⟨_, vs, e2, q⟩ := q
        exact ⟨_, vs, rfl, q, SqL.of e2⟩
      | frz zs =>
        cases e'
        obtain ⟨vs, e2, q⟩ := q
        exact ⟨_, vs, rfl, q, SqL.of (z.same _ _ e2)⟩
      | ins C fs => cases e'
  | _ => cases e
theorem fTuple_s : CallS K (fun xs H Q => ∃ p ys, xs = [.ref p] ∧ ((SqL K H p ys ∧ ∀ l, H l = none → Q (.ref l) (upd H l (.tup ys))) ∨ (SqT K H p ys ∧ Q (.ref p) H))) fTuple := c1_s fun W sv w u d S H Q z r q => by
  by_cases t : isTupD d = true
  · have q' : Hold K W sv (Rep K) w Q (if isTupD d = true then .ok d S else withItems d S fun xs => mkTup xs S) := q
    rw [if_pos t] at q'
    obtain ⟨a, vs, rfl, hs⟩ := r.seqT_of z t
    exact ⟨a, vs, rfl, .inr ⟨hs, q'.at_ z r⟩⟩
  · have q' : Hold K W sv (Rep K) w Q (if isTupD d = true then .ok d S else withItems d S fun xs => mkTup xs S) := q
    rw [if_neg t] at q'
    obtain ⟨xs, _, _, he, _, _, _, hk⟩ := withItems_s z r q'
    obtain ⟨a, vs, rfl, ra, hs⟩ := items_list z r he (by simpa using t)
    exact ⟨a, vs, rfl, .inl ⟨hs, (mkTup_s hk z ra).2⟩⟩
end

/-! ### tests -/
def mAnd (a b : E3) : E3 := fun σ S => (a σ S).bind fun d S1 => match d with
  | .bl true => b σ S1
  | .bl false => .ok (.bl false) S1
  | _ => .bad
def mOr (a b : E3) : E3 := fun σ S => (a σ S).bind fun d S1 => match d with
  | .bl true => .ok (.bl true) S1
  | .bl false => b σ S1
  | _ => .bad
def mNot (a : E3) : E3 := fun σ S => (a σ S).bind fun d S1 => match d with
  | .bl c => .ok (.bl (!c)) S1
  | _ => .bad
def tAnd3 (a b : T3) : T3 := fun σ S => (a σ S).bind fun c S1 => if c then b σ S1 else .ok false S1
def tOr3 (a b : T3) : T3 := fun σ S => (a σ S).bind fun c S1 => if c then .ok true S1 else b σ S1
def tNot3 (a : T3) : T3 := fun σ S => (a σ S).bind fun c S1 => .ok (!c) S1
def mIf3 (t : T3) (a b : E3) : E3 := fun σ S => (t σ S).bind fun c S1 => if c then a σ S1 else b σ S1
section
variable {X : Cx} {W : WX} {pos : Pos} {a b c : Expr} {rest : List Expr} {ma mb : E3} {ta tb : T3}
theorem e_and (ha : PE3 X W a ma) (hb : PE3 X W (.BoolOp .And (b :: rest) pos) mb) : PE3 X W (.BoolOp .And (a :: b :: rest) pos) (mAnd ma mb) :=
  PE.imp (pe_and ha hb) fun sv H Q ⟨w, σ, S, l, z, q⟩ => ⟨w, σ, S, l, z, Hold.step q fun d S1 w1 H1 u x1 z1 r1 q1 => by
    cases d with
    | bl k =>
      cases r1
      refine ⟨k, rfl, ?_⟩
      cases k with
      | true => exact iteT ⟨w1, σ, S1, l.mono x1, z1, q1⟩
      | false => exact iteF (Hold.at_ q1 z1 (.bl _))
    | _ => exact False.elim q1⟩
theorem e_or (ha : PE3 X W a ma) (hb : PE3 X W (.BoolOp .Or (b :: rest) pos) mb) : PE3 X W (.BoolOp .Or (a :: b :: rest) pos) (mOr ma mb) :=
  PE.imp (pe_or ha hb) fun sv H Q ⟨w, σ, S, l, z, q⟩ => ⟨w, σ, S, l, z, Hold.step q fun d S1 w1 H1 u x1 z1 r1 q1 => by
    cases d with
    | bl k =>
      cases r1
      refine ⟨k, rfl, ?_⟩
      cases k with
      | false => exact iteF ⟨w1, σ, S1, l.mono x1, z1, q1⟩
      | true => exact iteT (Hold.at_ q1 z1 (.bl _))
    | _ => exact False.elim q1⟩
theorem e_one {op} (h : PE3 X W a ma) : PE3 X W (.BoolOp op [a] pos) ma := pe_one h
theorem e_not (ha : PE3 X W a ma) : PE3 X W (.UnaryOp .Not a pos) (mNot ma) :=
  PE.imp (pe_not ha) fun sv H Q ⟨w, σ, S, l, z, q⟩ => ⟨w, σ, S, l, z, Hold.step q fun d S1 w1 H1 u x1 z1 r1 q1 => by
    cases d with
    | bl k => cases r1; exact ⟨k, rfl, q1.at_ z1 (.bl _)⟩
    | _ => exact False.elim q1⟩
/-- a test within and, or: whatever its whole is -/
def PW3 (X : Cx) (W : WX) (e : Expr) (m : T3) : Prop := PW X e (rdT X.K W m)
theorem PW.imp {X : Cx} {e : Expr} {t t' : TT} (h : PW X e t) (i : ∀ s H Q, t' s H Q → t s H Q) : PW X e t' := ⟨fun wh pins s σ H Q I q => h.run wh pins s σ H Q I (i _ _ _ q)⟩
theorem PW3.pt (h : PW3 X W a ta) : PT3 X W a ta := PW.pt h
theorem w_and1 (h : PT3 X W a ta) : PW3 X W (.BoolOp .And [a] pos) ta := pw_and1 h
theorem w_or1 (h : PT3 X W a ta) : PW3 X W (.BoolOp .Or [a] pos) ta := pw_or1 h
theorem w_and (ha : PT3 X W a ta) (hb : PW3 X W (.BoolOp .And (b :: rest) pos) tb) : PW3 X W (.BoolOp .And (a :: b :: rest) pos) (tAnd3 ta tb) :=
  PW.imp (pw_and ha hb) fun sv H Q ⟨w, σ, S, l, z, q⟩ => ⟨w, σ, S, l, z, Hold.step q fun k S1 w1 H1 u x1 z1 r1 q1 => by
    have r1' : u = k := r1
    subst r1'
    cases u with
    | true => exact iteT ⟨w1, σ, S1, l.mono x1, z1, q1⟩
    | false => exact iteF (Hold.at_ q1 z1 rfl)⟩
theorem w_or (ha : PT3 X W a ta) (hb : PW3 X W (.BoolOp .Or (b :: rest) pos) tb) : PW3 X W (.BoolOp .Or (a :: b :: rest) pos) (tOr3 ta tb) :=
  PW.imp (pw_or ha hb) fun sv H Q ⟨w, σ, S, l, z, q⟩ => ⟨w, σ, S, l, z, Hold.step q fun k S1 w1 H1 u x1 z1 r1 q1 => by
    have r1' : u = k := r1
    subst r1'
    cases u with
    | false => exact iteF ⟨w1, σ, S1, l.mono x1, z1, q1⟩
    | true => exact iteT (Hold.at_ q1 z1 rfl)⟩
theorem t_not (ha : PT3 X W a ta) : PT3 X W (.UnaryOp .Not a pos) (tNot3 ta) :=
  PT.imp (pt_not ha) fun sv H Q ⟨w, σ, S, l, z, q⟩ => ⟨w, σ, S, l, z, Hold.step q fun k S1 w1 H1 u x1 z1 r1 q1 => by
    have r1' : u = k := r1
    subst r1'
    exact q1.at_ z1 rfl⟩
theorem e_if {m n : E3} (hc : PT3 X W c ta) (ha : PE3 X W a m) (hb : PE3 X W b n) : PE3 X W (.IfExp c a b pos) (mIf3 ta m n) :=
  PE.imp (pe_ifExp hc ha hb) fun sv H Q ⟨w, σ, S, l, z, q⟩ => ⟨w, σ, S, l, z, Hold.step q fun k S1 w1 H1 u x1 z1 r1 q1 => by
    have r1' : u = k := r1
    subst r1'
    cases u with
    | true => exact iteT ⟨w1, σ, S1, l.mono x1, z1, q1⟩
    | false => exact iteF ⟨w1, σ, S1, l.mono x1, z1, q1⟩⟩
end
/-- a value's truth -/
def truD (d : D) (S : Sto) : Option Bool := match d with
  | .non => some false
  | .bl b => some b
  | .int i => some (i != 0)
  | .str x => if sizeOk x.length then some ((x.length : Int) != 0) else none
  | d => (itemsOf S d).map fun xs => !xs.isEmpty
def asT (r : Rs D) : Rs Bool := r.bind fun d S => match truD d S with
  | some b => .ok b S
  | none => .bad
section
variable {X : Cx} {W : WX} {pos : Pos} {a : Expr} {ma : E3}
theorem truD_s {K : PySem.W.Frag} {w : Wd} {S : Sto} {H : Hp} {v : V} {d : D} {b : Bool} (z : WRel K w S H) (r : Rep K w v d) (e : truD d S = some b) : TruV K v H b := by
  have seq : (itemsOf S d).map (fun xs => !xs.isEmpty) = some b → TruV K v H b := fun e => by
    cases he : itemsOf S d with
    | none => rw [he] at e; cases e
    | some xs =>
      rw [he] at e
      cases e
      obtain ⟨a, vs, rfl, ra, hs⟩ := itemsOf_at z r he
      have hb : (!xs.isEmpty) = !vs.isEmpty := by
        have := ra.length
        cases xs <;> cases vs <;> simp at this ⊢
      rcases hs with hs | hs
      · exact .inl ⟨vs, hs, hb⟩
      · exact .inr (.inl ⟨vs, hs, hb⟩)
  cases d with
  | non => cases r; cases e; rfl
  | bl k => cases r; cases e; rfl
  | int i => cases r; cases e; rfl
  | str x =>
    cases r
    have e' : (if sizeOk x.length = true then some ((x.length : Int) != 0) else none) = some b := e
    by_cases hz : sizeOk x.length = true
    · rw [if_pos hz] at e'
      cases e'
      exact ⟨of_decide_eq_true hz, rfl⟩
    · rw [if_neg hz] at e'; cases e'
  | _ => exact seq e
theorem t_truth (ha : PE3 X W a ma) (he : ∀ whole, isTrue a X.env whole = (do let v ← whole; standAt a.pos; holding [v] (truthy v)) := by intro _; rfl) : PT3 X W a (fun σ S => asT (ma σ S)) :=
  PT.imp (pt_truth ha he) fun sv H Q ⟨w, σ, S, l, z, q⟩ => ⟨w, σ, S, l, z, Hold.step q fun d S1 w1 H1 u x1 z1 r1 q1 => by
    cases e : truD d S1 with
    | none => simp only [e] at q1; exact False.elim q1
    | some b => simp only [e] at q1; exact ⟨b, truD_s z1 r1 e, q1.at_ z1 rfl⟩⟩
end

/-! ### slices -/
abbrev P3 := Loc → Sto → Rs (Option Int)
def rdP (K : PySem.W.Frag) (W : WX) (m : P3) : TO := rd K W (fun _ (b : Option Int) (a : Option Int) => b = a) m
def PO3 (X : Cx) (W : WX) (e : Option Expr) (m : P3) : Prop := PO X e (rdP X.K W m)
def mNoP : P3 := fun _ S => .ok none S
def mPart (a : E3) : P3 := fun σ S => (a σ S).bind fun d S1 => match d with
  | .int i => .ok (some i) S1
  | _ => .bad
theorem PO.imp {X : Cx} {e : Option Expr} {t t' : TO} (h : PO X e t) (i : ∀ s H Q, t' s H Q → t s H Q) : PO X e t' := ⟨fun pins s σ H Q I q => h.run pins s σ H Q I (i _ _ _ q)⟩
section
variable {X : Cx} {W : WX} {pos p2 : Pos} {e : Expr} {me : E3} {lo hi : Option Expr} {ml mh : P3}
theorem o_none : PO3 X W none mNoP := PO.imp po_none fun sv H Q ⟨w, σ, S, l, z, q⟩ => q.at_ z rfl
theorem o_some (h : PE3 X W e me) : PO3 X W (some e) (mPart me) := PO.imp (po_some h) fun sv H Q ⟨w, σ, S, l, z, q⟩ => ⟨w, σ, S, l, z, Hold.step q fun d S1 w1 H1 u x1 z1 r1 q1 => by
  cases d with
  | int i => cases r1; exact ⟨i, rfl, q1.at_ z1 rfl⟩
  | _ => exact False.elim q1⟩
def cutG {α : Type} (xs : List α) (lo hi : Option Int) : List α := (xs.drop (HT.sIx xs.length 0 lo)).take (HT.sIx xs.length xs.length hi - HT.sIx xs.length 0 lo)
theorem RepA.cut {K : PySem.W.Frag} {w : Wd} {vs : List V} {ds : List D} (r : RepA K w vs ds) (lo hi : Option Int) : RepA K w (cutV vs lo hi) (cutG ds lo hi) := by
  unfold cutV cutG
  rw [r.length]
  exact (r.drop _).take _
def wholeG (n : Nat) (lo hi : Option Int) : Bool := HT.sIx n 0 lo == 0 && HT.sIx n n hi == n
def slD (op : Bool) (d : D) (lo hi : Option Int) (S : Sto) : Rs D := match d with
  | .str x => guard (sizeOk x.length) (.ok (.str (cutS x lo hi)) S)
  | d => withItems d S fun xs => if isTupD d then (if wholeG xs.length lo hi then .ok d S else mkTup (cutG xs lo hi) S) else if op then mkOpen (cutG xs lo hi) S else mkLst (cutG xs lo hi) S
def mSl (op : Bool) (a : E3) (lo hi : P3) : E3 := fun σ S => (a σ S).bind fun d S1 => (lo σ S1).bind fun l S2 => (hi σ S2).bind fun h S3 => slD op d l h S3
def rSlAll (K : PySem.W.Frag) : V → Option Int → Option Int → Hp → VK → Prop := fun x lo hi H Q => rSlL K x lo hi H Q ∨ (rSlA K x lo hi H Q ∨ rSlS x lo hi H Q)
theorem slD_s {K : PySem.W.Frag} {sv : L2.St} {w : Wd} {S : Sto} {H : Hp} {v : V} {d : D} {op : Bool} {l h : Option Int} {Q : VK} (z : WRel K w S H) (r : Rep K w v d) (q : Hold K W sv (Rep K) w Q (slD op d l h S)) : rSlAll K v l h H Q := by
  have seq : Hold K W sv (Rep K) w Q (withItems d S fun xs => if isTupD d then (if wholeG xs.length l h then .ok d S else mkTup (cutG xs l h) S) else if op then mkOpen (cutG xs l h) S else mkLst (cutG xs l h) S) → rSlAll K v l h H Q := fun q => by
    obtain ⟨xs, _, _, he, _, _, _, hk⟩ := withItems_s z r q
    by_cases t : isTupD d = true
    · rw [if_pos t] at hk
      obtain ⟨a, vs, rfl, ra, hs⟩ := items_tup z r he t
      refine .inr (.inl ⟨a, vs, rfl, hs, fun hw => ?_, fun hw => ?_⟩)
      · have hg : wholeG xs.length l h = true := by
          unfold wholeG
          rw [← ra.length, Bool.and_eq_true, beq_iff_eq, beq_iff_eq]
          exact hw
        rw [if_pos hg] at hk
        exact hk.at_ z r
      · have hg : ¬ wholeG xs.length l h = true := by
          unfold wholeG
          rw [← ra.length, Bool.and_eq_true, beq_iff_eq, beq_iff_eq]
          exact hw
        rw [if_neg hg] at hk
        exact (mkTup_s hk z (ra.cut l h)).2
    · rw [if_neg t] at hk
      obtain ⟨a, vs, rfl, ra, hs⟩ := items_list z r he (by simpa using t)
      refine .inl ⟨a, vs, rfl, hs, ?_⟩
      cases op with
      | true => exact (mkOpen_s hk z (ra.cut l h)).2
      | false => exact (mkLst_s hk z (ra.cut l h)).2
  cases d with
  | str x =>
    cases r
    obtain ⟨hz, hk⟩ := guard_s (show Hold K W sv (Rep K) w Q (guard (sizeOk x.length) (.ok (.str (cutS x l h)) S)) from q)
    exact .inr (.inr ⟨x, rfl, of_decide_eq_true hz, hk.at_ z (.str _)⟩)
  | _ => exact seq q
theorem e_slice (op : Bool) (he : PE3 X W e me) (hl : PO3 X W lo ml) (hh : PO3 X W hi mh) : PE3 X W (.Subscript e (.Slice lo hi none p2) pos) (mSl op me ml mh) :=
  PE.imp (pe_slice (sl_list.or (sl_tupA.or sl_str)) he hl hh) fun sv H Q ⟨w, σ, S, l, z, q⟩ => ⟨w, σ, S, l, z, Hold.step q fun d S1 w1 H1 u x1 z1 r1 q1 =>
    ⟨w1, σ, S1, l.mono x1, z1, Hold.step q1 fun a S2 w2 H2 i x2 z2 r2 q2 => ⟨w2, σ, S2, l.mono (x1.trans x2), z2, Hold.step q2 fun b S3 w3 H3 j x3 z3 r3 q3 => by
      have e2 : i = a := r2
      have e3 : j = b := r3
      subst e2
      subst e3
      exact slD_s z3 (r1.mono (x2.trans x3)) q3⟩⟩⟩
end

/-! ### == and != of data -/
mutual
def pyD : D → Option PyData
  | .non => some .none
  | .bl b => some (.bool b)
  | .int i => some (.int i)
  | .str x => some (.str x)
  | .tup xs => (pyA xs).map .tuple
  | .wt xs => (pyA xs).map .tuple
  | .lst xs => (pyA xs).map .list
  | .wl xs => (pyA xs).map .list
  | .ref _ => none
  | .ty _ => none
  | .adr _ => none
  | .dct _ _ => none
  | .err _ _ => none
def pyA : List D → Option (List PyData)
  | [] => some []
  | d :: ds => match pyD d, pyA ds with
    | some p, some ps => some (p :: ps)
    | _, _ => none
end
/-- .. also where it is an open list -/
def pyS (S : Sto) : D → Option PyData
  | .ref k => (itemsOf S (.ref k)).bind fun xs => (pyA xs).map .list
  | d => pyD d
section
variable {K : PySem.W.Frag} {w : Wd} {S : Sto} {H : Hp}
theorem map_some {α β : Type} {o : Option α} {f : α → β} {b : β} (h : o.map f = some b) : ∃ a, o = some a ∧ f a = b := by
  cases o with
  | none => cases h
  | some a => exact ⟨a, rfl, Option.some.inj h⟩
mutual
theorem dp_of (s : Same w.G H) : ∀ {d : D} {v : V} {p : PyData}, Rep K w v d → pyD d = some p → Dp K H v p
  | .non, _, _, r, e => by cases r; cases e; exact .non
  | .bl _, _, _, r, e => by cases r; cases e; exact .bl _
  | .int _, _, _, r, e => by cases r; cases e; exact .int _
  | .str _, _, _, r, e => by cases r; cases e; exact .str _
  | .tup xs, _, _, r, e => by
    cases r with
    | tup h1 h2 =>
      simp only [pyD] at e
      obtain ⟨ps, e1, rfl⟩ := map_some e
      exact .tup (SqT.of (s _ _ h1)) (dpA_of s h2 e1)
  | .wt xs, _, _, r, e => by
    cases r with
    | wt h1 h2 =>
      simp only [pyD] at e
      obtain ⟨ps, e1, rfl⟩ := map_some e
      exact .tup (seqT s h1) (dpA_of s h2 e1)
  | .lst xs, _, _, r, e => by
    cases r with
    | lst h1 h2 =>
      simp only [pyD] at e
      obtain ⟨ps, e1, rfl⟩ := map_some e
      exact .lst (SqL.of (s _ _ h1)) (dpA_of s h2 e1)
  | .wl xs, _, _, r, e => by
    cases r with
    | wl h1 h2 =>
      simp only [pyD] at e
      obtain ⟨ps, e1, rfl⟩ := map_some e
      exact .lst (s.seq h1) (dpA_of s h2 e1)
  | .ref _, _, _, _, e => by simp [pyD] at e
  | .ty _, _, _, _, e => by simp [pyD] at e
  | .adr _, _, _, _, e => by simp [pyD] at e
  | .dct _ _, _, _, _, e => by simp [pyD] at e
  | .err _ _, _, _, _, e => by simp [pyD] at e
theorem dpA_of (s : Same w.G H) : ∀ {ds : List D} {vs : List V} {ps : List PyData}, RepA K w vs ds → pyA ds = some ps → DpAll K H vs ps
  | [], _, _, r, e => by
    cases r
    simp only [pyA] at e
    cases e
    exact .nil
  | d :: ds, _, _, r, e => by
    cases r with
    | cons r1 r2 =>
      simp only [pyA] at e
      cases e1 : pyD d with
      | none => rw [e1] at e; cases e
      | some p =>
        cases e2 : pyA ds with
        | none => rw [e1, e2] at e; cases e
        | some ps =>
          rw [e1, e2] at e
          cases e
          exact .cons (dp_of s r1 e1) (dpA_of s r2 e2)
end
theorem dpS_of {d : D} {v : V} {p : PyData} (z : WRel K w S H) (r : Rep K w v d) (e : pyS S d = some p) : Dp K H v p := by
  cases d with
  | ref k =>
    have e' : (itemsOf S (.ref k)).bind (fun xs => (pyA xs).map PyData.list) = some p := e
    cases he : itemsOf S (.ref k) with
    | none => rw [he] at e'; cases e'
    | some xs =>
      rw [he] at e'
      obtain ⟨ps, e1, rfl⟩ := map_some (show (pyA xs).map PyData.list = some p from e')
      obtain ⟨a, vs, rfl, ra, hs⟩ := items_list z r he rfl
      exact .lst hs (dpA_of z.same ra e1)
  | _ => exact dp_of z.same r e
end
def oEqG (f : Bool → Bool) : O3 := fun d e S => match pyS S d, pyS S e with
  | some p, some q => if SeqAt.shaped p && SeqAt.shaped q then .ok (.bl (f (PyData.eqv p q))) S else .bad
  | _, _ => .bad
def oEq : O3 := oEqG id
def oNe : O3 := oEqG not
theorem oEqG_s {K : PySem.W.Frag} {f : Bool → Bool} : OpS K (fun x y H Q => ∃ d e, Dp K H x d ∧ Dp K H y e ∧ SeqAt.shaped d = true ∧ SeqAt.shaped e = true ∧ Q (.bl (f (PyData.eqv d e))) H) (oEqG f) := by
  intro W sv w u v d e S H Q z r1 r2 q
  unfold oEqG at q
  cases e1 : pyS S d with
  | none => rw [e1] at q; exact False.elim q
  | some p =>
    cases e2 : pyS S e with
    | none => rw [e1, e2] at q; exact False.elim q
    | some p' =>
      rw [e1, e2] at q
      by_cases hs : (SeqAt.shaped p && SeqAt.shaped p') = true
      · simp only [if_pos hs] at q
        rw [Bool.and_eq_true] at hs
        exact ⟨p, p', dpS_of z r1 e1, dpS_of z r2 e2, hs.1, hs.2, q.at_ z (.bl _)⟩
      · simp only [if_neg hs] at q
        exact False.elim q
theorem oEq_s {K : PySem.W.Frag} : OpS K (rEqD K) oEq := oEqG_s
theorem oNe_s {K : PySem.W.Frag} : OpS K (rNeD K) oNe := oEqG_s

/-! ### in -/
def vOf : D → Option V
  | .non => some .non
  | .bl b => some (.bl b)
  | .int i => some (.int i)
  | .str x => some (.str x)
  | _ => none
def vsOf : List D → Option (List V)
  | [] => some []
  | d :: ds => match vOf d, vsOf ds with
    | some v, some vs => some (v :: vs)
    | _, _ => none
def oIn (neg : Bool) : O3 := fun d e S => withItems e S fun xs => match vOf d, vsOf xs with
  | some v, some vs => .ok (.bl (if neg then !inV v vs else inV v vs)) S
  | _, _ => .bad
section
variable {K : PySem.W.Frag} {w : Wd}
theorem vOf_s {d : D} {u v : V} (r : Rep K w u d) (e : vOf d = some v) : u = v ∧ flatV v = true := by
  cases d with
  | non => cases r; cases e; exact ⟨rfl, rfl⟩
  | bl _ => cases r; cases e; exact ⟨rfl, rfl⟩
  | int _ => cases r; cases e; exact ⟨rfl, rfl⟩
  | str _ => cases r; cases e; exact ⟨rfl, rfl⟩
  | _ => cases e
theorem vsOf_s : ∀ {ds : List D} {us vs : List V}, RepA K w us ds → vsOf ds = some vs → us = vs ∧ vs.all flatV = true
  | [], _, _, r, e => by cases r; cases e; exact ⟨rfl, rfl⟩
  | d :: ds, _, _, r, e => by
    cases r with
    | cons r1 r2 =>
      unfold vsOf at e
      cases e1 : vOf d with
      | none => rw [e1] at e; cases e
      | some p =>
        cases e2 : vsOf ds with
        | none => rw [e1, e2] at e; cases e
        | some ps =>
          rw [e1, e2] at e
          cases e
          obtain ⟨rfl, f1⟩ := vOf_s r1 e1
          obtain ⟨rfl, f2⟩ := vsOf_s r2 e2
          exact ⟨rfl, by rw [List.all_cons, f1, f2]; rfl⟩
theorem oIn_s (neg : Bool) : OpS K (rIn K neg) (oIn neg) := by
  intro W sv w u v d e S H Q z r1 r2 q
  obtain ⟨xs, a, vs, _, rfl, ra, hs, hk⟩ := withItems_s z r2 q
  cases e1 : vOf d with
  | none => simp only [e1] at hk; exact False.elim hk
  | some x =>
    cases e2 : vsOf xs with
    | none => simp only [e1, e2] at hk; exact False.elim hk
    | some ys =>
      simp only [e1, e2] at hk
      obtain ⟨rfl, f1⟩ := vOf_s r1 e1
      obtain ⟨rfl, f2⟩ := vsOf_s ra e2
      exact ⟨a, vs, rfl, hs, f1, f2, hk.at_ z (.bl _)⟩
end

end DL
end

section
set_option Elab.async false
set_option linter.all false
set_option maxRecDepth 100000
set_option maxHeartbeats 4000000
namespace DL
open PySem PySem.Spec PyProof.Rows L2

/-! ### + -/
section
variable {K : PySem.W.Frag}
/-- a list that stands in the heap as such -/
def isLstD : D → Bool
  | .lst _ => true
  | .ref _ => true
  | _ => false
theorem items_trk {w : Wd} {S : Sto} {H : Hp} {v : V} {d : D} (z : WRel K w S H) (r : Rep K w v d) {xs : List D} (e : itemsOf S d = some xs) (t : isLstD d = true) : ∃ a vs, v = .ref a ∧ RepA K w vs xs ∧ H a = some (.lst vs) := by
  cases d with
  | lst ys =>
    cases r with
    | lst h1 h2 => cases e; exact ⟨_, _, rfl, h2, z.same _ _ h1⟩
  | ref k =>
    cases r with
    | ref h1 =>
      obtain ⟨o, u, e1, q, _⟩ := z.there h1
      have e' : (match S[k]? with
        | some (.lst xs) => some xs
        | some (.frz xs) => some xs
        | _ => none) = some xs := e
      rw [e1] at e'
      cases o with
      | lst zs =>
        cases e'
        obtain ⟨_, vs, e2, q⟩ := q
        exact ⟨_, vs, rfl, q, e2⟩
      | frz zs =>
        cases e'
        obtain ⟨vs, e2, q⟩ := q
        exact ⟨_, vs, rfl, q, z.same _ _ e2⟩
      | ins C fs => cases e'
  | _ => exact absurd t Bool.false_ne_true
def catSeq (op : Bool) (d e : D) (S : Sto) : Rs D := withItems d S fun xs => withItems e S fun ys => guard (sizeOk (xs.length + ys.length)) (
  if isTupD d && isTupD e then (if xs.isEmpty then .ok e S else if ys.isEmpty then .ok d S else mkTup (xs ++ ys) S)
  else guard (isLstD d && isLstD e) (if op then mkOpen (xs ++ ys) S else mkLst (xs ++ ys) S))
def oCat (op : Bool) : O3 := fun d e S => match d with
  | .str x => (match e with
    | .str y => guard (sizeOk (x.length + y.length)) (.ok (.str (x ++ y)) S)
    | _ => .bad)
  | .int i => (match e with
    | .int j => .ok (.int (i + j)) S
    | _ => .bad)
  | d => catSeq op d e S
def rCatAll (K : PySem.W.Frag) : R2 := fun x y H Q => (∃ i j, x = .str i ∧ y = .str j ∧ i.length + j.length ≤ sizeLine ∧ Q (.str (i ++ j)) H) ∨ (rI0 (fun i j => .int (i + j)) x y H Q ∨ (rCatA K x y H Q ∨ rCat x y H Q))
theorem oCat_s (op : Bool) : OpS K (rCatAll K) (oCat op) := by
  intro W sv w u v d e S H Q z r1 r2 q
  have seq : Hold K W sv (Rep K) w Q (catSeq op d e S) → rCatAll K u v H Q := fun q => by
    obtain ⟨xs, _, _, he, _, _, _, q⟩ := withItems_s z r1 q
    obtain ⟨ys, _, _, he2, _, _, _, q⟩ := withItems_s z r2 q
    obtain ⟨hz, q⟩ := guard_s q
    have hz := of_decide_eq_true hz
    by_cases t : (isTupD d && isTupD e) = true
    · rw [if_pos t] at q
      rw [Bool.and_eq_true] at t
      obtain ⟨a, vs, rfl, ra, hs⟩ := items_tup z r1 he t.1
      obtain ⟨b, us, rfl, rb, hs2⟩ := items_tup z r2 he2 t.2
      refine .inr (.inr (.inl ⟨a, b, vs, us, rfl, rfl, hs, hs2, by rw [ra.length, rb.length]; exact hz, fun h => ?_, fun h h' => ?_, fun h h' => ?_⟩))
      · have : xs = [] := List.eq_nil_of_length_eq_zero (by rw [← ra.length, h]; rfl)
        subst this
        exact Hold.at_ q z r2
      · have h1 : xs.isEmpty = false := by
          cases xs with
          | nil => exact absurd (List.eq_nil_of_length_eq_zero ra.length) h
          | cons _ _ => rfl
        have h2 : ys = [] := List.eq_nil_of_length_eq_zero (by rw [← rb.length, h']; rfl)
        subst h2
        rw [h1] at q
        exact Hold.at_ q z r1
      · have h1 : xs.isEmpty = false := by
          cases xs with
          | nil => exact absurd (List.eq_nil_of_length_eq_zero ra.length) h
          | cons _ _ => rfl
        have h2 : ys.isEmpty = false := by
          cases ys with
          | nil => exact absurd (List.eq_nil_of_length_eq_zero rb.length) h'
          | cons _ _ => rfl
        rw [h1, h2] at q
        exact (mkTup_s q z (ra.append rb)).2
    · rw [if_neg t] at q
      obtain ⟨hg, q⟩ := guard_s q
      rw [Bool.and_eq_true] at hg
      obtain ⟨a, vs, rfl, ra, hs⟩ := items_trk z r1 he hg.1
      obtain ⟨b, us, rfl, rb, hs2⟩ := items_trk z r2 he2 hg.2
      refine .inr (.inr (.inr ⟨a, b, vs, us, rfl, rfl, hs, hs2, by rw [ra.length, rb.length]; exact hz, ?_⟩))
      cases op with
      | true => exact (mkOpen_s q z (ra.append rb)).2
      | false => exact (mkLst_s q z (ra.append rb)).2
  cases d with
  | str x =>
    cases e with
    | str y =>
      cases r1; cases r2
      obtain ⟨hz, hk⟩ := guard_s (show Hold K W sv (Rep K) w Q (guard (sizeOk (x.length + y.length)) (.ok (.str (x ++ y)) S)) from q)
      exact .inl ⟨x, y, rfl, rfl, of_decide_eq_true hz, hk.at_ z (.str _)⟩
    | _ => exact False.elim q
  | int i =>
    cases e with
    | int j =>
      cases r1; cases r2
      exact .inr (.inl ⟨i, j, rfl, rfl, Hold.at_ (show Hold K W sv (Rep K) w Q (.ok (.int (i + j)) S) from q) z (.int _)⟩)
    | _ => exact False.elim q
  | _ => exact seq q
end
theorem op_catAll {X : Cx} : OpR X (binaryOp .Add) (rCatAll X.K) := op_add_str.or (op_add.or (op_catA.or op_cat))

/-! ### methods of lists and texts -/
abbrev M3 := D → List D → Sto → Rs D
def MethS (K : PySem.W.Frag) (r : V → List V → Hp → VK → Prop) (f : M3) : Prop :=
  ∀ (W : WX) (sv : L2.St) (w : Wd) (u : V) (us : List V) (d : D) (ds : List D) (S : Sto) (H : Hp) (Q : VK), WRel K w S H → Rep K w u d → RepA K w us ds → Hold K W sv (Rep K) w Q (f d ds S) → r u us H Q
def isListIn (S : Sto) (d : D) : Bool := !isTupD d && (itemsOf S d).isSome
def mMethL (f : M3) (o : E3) (a : A3) : E3 := fun σ S => (o σ S).bind fun d S1 => if isListIn S1 d then (a σ S1).bind fun ds S2 => f d ds S2 else .bad
section
variable {X : Cx} {W : WX} {o e : Expr} {es : List Expr} {mo : E3} {ms : A3} {name : Str} {apos cpos : Pos} {id : String} {r : V → List V → Hp → VK → Prop} {f : M3}
theorem listIn_s {K : PySem.W.Frag} {w : Wd} {S : Sto} {H : Hp} {v : V} {d : D} (z : WRel K w S H) (r : Rep K w v d) (h : isListIn S d = true) : tyV K "list" v H := by
  unfold isListIn at h
  rw [Bool.and_eq_true] at h
  obtain ⟨xs, hx⟩ := Option.isSome_iff_exists.mp h.2
  obtain ⟨a, vs, rfl, _, hs⟩ := items_list z r hx (by simpa using h.1)
  exact .inl ⟨rfl, vs, hs⟩
theorem e_methL (slot : Slot "list" name id) (hty : typeOf (.builtin id) = pure (.type "method_descriptor")) (hm : MtR X id r) (s : MethS X.K r f) (ho : PE3 X W o mo) (ha : PA3 X W (e :: es) ms)
    (hbase : attributeBase o name X.env (eval o X.env) = eval o X.env := by rfl)
    (hfew : ((backTo cpos (starEach (e :: es) X.env)).all (fun x => !x.1) && (backToKw cpos (keywordEach [] X.env)).all (fun x => x.1.isSome)
      && decide ((e :: es).length + ([] : List Keyword).length + (if ([] : List Keyword).isEmpty then 0 else 1) < 30)) = true := by rfl)
    (hline : (apos.endLine == cpos.line) = true := by rfl) (hs : starEach (e :: es) X.env = (false, eval e X.env) :: starEach es X.env := by rfl) (hplain : (backTo cpos (starEach es X.env)).any (·.1) = false := by rfl) :
    PE3 X W (.Call (.Attribute o name apos) (e :: es) [] cpos) (mMethL f mo ms) :=
  PE.imp (pe_bm PySem.F.plainAttrs_list slot hty hm ho ha hbase hfew hline hs hplain) fun sv H Q ⟨w, σ, S, l, z, q⟩ => ⟨w, σ, S, l, z, Hold.step q fun d S1 w1 H1 u x1 z1 r1 q1 => by
    by_cases hl : isListIn S1 d = true
    · rw [if_pos hl] at q1
      exact ⟨listIn_s z1 r1 hl, w1, σ, S1, l.mono x1, z1, Hold.step q1 fun ds S2 w2 H2 us x2 z2 r2 q2 => s W sv w2 u us d ds S2 H2 Q z2 (r1.mono x2) r2 q2⟩
    · rw [if_neg hl] at q1; exact False.elim q1⟩
theorem e_methL0 (slot : Slot "list" name id) (hty : typeOf (.builtin id) = pure (.type "method_descriptor")) (hm : MtR X id r) (s : MethS X.K r f) (ho : PE3 X W o mo)
    (hbase : attributeBase o name X.env (eval o X.env) = eval o X.env := by rfl) (hline : (apos.endLine == cpos.line) = true := by rfl) :
    PE3 X W (.Call (.Attribute o name apos) [] [] cpos) (mMethL f mo mNil) :=
  PE.imp (pe_bm0 PySem.F.plainAttrs_list slot hty hm ho hbase hline) fun sv H Q ⟨w, σ, S, l, z, q⟩ => ⟨w, σ, S, l, z, Hold.step q fun d S1 w1 H1 u x1 z1 r1 q1 => by
    by_cases hl : isListIn S1 d = true
    · rw [if_pos hl] at q1
      exact ⟨listIn_s z1 r1 hl, s W sv w1 u [] d [] S1 H1 Q z1 r1 .nil q1⟩
    · rw [if_neg hl] at q1; exact False.elim q1⟩
end
/-- an open list -/
def withOpen (d : D) (S : Sto) (k : Nat → List D → Rs D) : Rs D := match d with
  | .ref j => (match S[j]? with
    | some (.lst xs) => k j xs
    | _ => .bad)
  | _ => .bad
section
variable {K : PySem.W.Frag} {W : WX} {sv : L2.St} {w : Wd} {u : V} {d : D} {S : Sto} {H : Hp} {Q : VK}
theorem withOpen_s {k : Nat → List D → Rs D} (z : WRel K w S H) (r : Rep K w u d) (h : Hold K W sv (Rep K) w Q (withOpen d S k)) :
    ∃ j xs a vs, d = .ref j ∧ u = .ref a ∧ w.am[j]? = some a ∧ w.G a = none ∧ H a = some (.lst vs) ∧ RepA K w vs xs ∧ S[j]? = some (.lst xs) ∧ Hold K W sv (Rep K) w Q (k j xs) := by
  cases d with
  | ref j =>
    cases r with
    | ref h1 =>
      obtain ⟨o, _, e1, q, _⟩ := z.there h1
      have h' : Hold K W sv (Rep K) w Q (match S[j]? with
        | some (.lst xs) => k j xs
        | _ => .bad) := h
      rw [e1] at h'
      cases o with
      | lst xs =>
        obtain ⟨g, vs, e2, q⟩ := q
        exact ⟨j, xs, _, vs, rfl, rfl, h1, g, e2, q, e1, h'⟩
      | ins C fs => exact False.elim h'
      | frz xs => exact False.elim h'
  | _ => exact False.elim h
theorem WRel.relist (z : WRel K w S H) {j : Nat} {a : Addr} (h1 : w.am[j]? = some a) (g : w.G a = none) {vs : List V} {xs : List D} (r : RepA K w vs xs) : WRel K w (S.set j (.lst xs)) (upd H a (.lst vs)) :=
  z.write h1 g ⟨g, vs, upd_same, r⟩
end
def fAppend : M3 := fun d ds S => match ds with
  | [y] => withOpen d S fun j xs => guard (decide (xs.length < sizeLine)) (.ok .non (S.set j (.lst (xs ++ [y]))))
  | _ => .bad
def fPop : M3 := fun d ds S => match ds with
  | [] => withOpen d S fun j xs => (match xs[xs.length - 1]? with
    | some y => .ok y (S.set j (.lst xs.dropLast))
    | none => .bad)
  | _ => .bad
def popAt (d : D) (i : Int) (S : Sto) : Rs D := withOpen d S fun j xs => guard (decide (-(2 ^ 63) ≤ i) && decide (i < 2 ^ 63)) (match seqIndex? i xs.length with
  | some k => (match xs[k]? with
    | some y => .ok y (S.set j (.lst (xs.eraseIdx k)))
    | none => .bad)
  | none => .bad)
def fPopAt : M3 := fun d ds S => match ds with
  | [x] => (match x with
    | .int i => popAt d i S
    | _ => .bad)
  | _ => .bad
section
variable {K : PySem.W.Frag} {w : Wd}
theorem RepA.eraseIdx : ∀ {vs : List V} {ds : List D} (i : Nat), RepA K w vs ds → RepA K w (vs.eraseIdx i) (ds.eraseIdx i)
  | _, _, _, .nil => .nil
  | _, _, 0, .cons _ t => t
  | _, _, i + 1, .cons r t => .cons r (t.eraseIdx i)
theorem RepA.dropLast {vs : List V} {ds : List D} (r : RepA K w vs ds) : RepA K w vs.dropLast ds.dropLast := by
  rw [List.dropLast_eq_take, List.dropLast_eq_take, r.length]
  exact r.take _
theorem fAppend_s : MethS K rAppend fAppend := by
  intro W sv w u us d ds S H Q z r ra q
  match ds, ra, q with
  | [], _, q => exact False.elim q
  | _ :: _ :: _, _, q => exact False.elim q
  | [y], .cons ry .nil, q =>
    obtain ⟨j, xs, a, vs, rfl, rfl, h1, g, e, rx, _, q⟩ := withOpen_s z r q
    obtain ⟨hz, q⟩ := guard_s q
    exact ⟨a, vs, _, rfl, rfl, e, by rw [rx.length]; exact of_decide_eq_true hz, q _ _ _ (Ext.refl w) (z.relist h1 g (rx.append (.cons ry .nil))) .non⟩
theorem fPop_s : MethS K rPop fPop := by
  intro W sv w u us d ds S H Q z r ra q
  match ds, ra, q with
  | _ :: _, _, q => exact False.elim q
  | [], .nil, q =>
    obtain ⟨j, xs, a, vs, rfl, rfl, h1, g, e, rx, _, q⟩ := withOpen_s z r q
    cases ey : xs[xs.length - 1]? with
    | none => simp only [ey] at q; exact False.elim q
    | some y =>
      simp only [ey] at q
      obtain ⟨v, hv, ry⟩ := rx.get ey
      exact ⟨a, vs, v, rfl, rfl, e, by rw [rx.length]; exact hv, q _ _ _ (Ext.refl w) (z.relist h1 g rx.dropLast) ry⟩
theorem fPopAt_s : MethS K rPopAt fPopAt := by
  intro W sv w u us d ds S H Q z r ra q
  match ds, ra, q with
  | [], _, q => exact False.elim q
  | _ :: _ :: _, _, q => exact False.elim q
  | [x], .cons ry .nil, q =>
    cases x with
    | int i =>
      cases ry
      obtain ⟨j, xs, a, vs, rfl, rfl, h1, g, e, rx, _, q⟩ := withOpen_s z r (show Hold K W sv (Rep K) w Q (popAt d i S) from q)
      obtain ⟨hz, q⟩ := guard_s q
      rw [Bool.and_eq_true, decide_eq_true_eq, decide_eq_true_eq] at hz
      cases ek : seqIndex? i xs.length with
      | none => simp only [ek] at q; exact False.elim q
      | some k =>
        simp only [ek] at q
        cases ey : xs[k]? with
        | none => simp only [ey] at q; exact False.elim q
        | some y =>
          simp only [ey] at q
          obtain ⟨v, hv, ry⟩ := rx.get ey
          exact ⟨a, vs, i, k, v, rfl, rfl, e, hz.1, hz.2, by rw [rx.length]; exact ek, hv, q _ _ _ (Ext.refl w) (z.relist h1 g (rx.eraseIdx k)) ry⟩
    | _ => exact False.elim q
end
end DL
end

section
set_option Elab.async false
set_option linter.all false
set_option maxRecDepth 100000
set_option maxHeartbeats 4000000
namespace DL
open PySem PySem.Spec PyProof.Rows L2

/-! ### statements -/
inductive Fl where
  | next | brk | cont | ret (d : D)
inductive Rt where
  | go (f : Fl) (σ : Loc) (S : Sto)
  | exc (C : Addr) (p : Pay) (σ : Loc) (S : Sto)
  | bad
abbrev S3 := Loc → Sto → Rt
def Rs.toS {α : Type} (r : Rs α) (σ : Loc) (k : α → Sto → Rt) : Rt := match r with
  | .ok a S => k a S
  | .exc C p S => .exc C p σ S
  | .bad => .bad
@[simp] theorem Rs.toS_ok {α : Type} (a : α) (S : Sto) (σ : Loc) (k : α → Sto → Rt) : (Rs.ok a S).toS σ k = k a S := rfl
def HoldS (K : PySem.W.Frag) (W : WX) (w : Wd) (B : Ends) : Rt → Prop
  | .go .next σ S => ∀ w' s' H', Ext w w' → LRel K w' σ s' → WRel K w' S H' → B.nx s' H'
  | .go .brk σ S => ∀ w' s' H', Ext w w' → LRel K w' σ s' → WRel K w' S H' → B.bk s' H'
  | .go .cont σ S => ∀ w' s' H', Ext w w' → LRel K w' σ s' → WRel K w' S H' → B.ct s' H'
  | .go (.ret d) _ S => ∀ w' H' v, Ext w w' → WRel K w' S H' → Rep K w' v d → B.rt v H'
  | .exc C p σ S => ∀ w' s' H' dx, Ext w w' → LRel K w' σ s' → WRel K w' S H' → PayRep K w' H' p dx → W (.ref C) dx s' H'
  | .bad => False
def rdS (K : PySem.W.Frag) (W : WX) (m : S3) : TS := fun B sv H => ∃ w σ S, LRel K w σ sv ∧ WRel K w S H ∧ HoldS K W w B (m σ S)
def PS3 (X : Cx) (W : WX) (st : Stmt) (m : S3) : Prop := PS X st (rdS X.K W m)
def PSs3 (X : Cx) (W : WX) (st : List Stmt) (m : S3) : Prop := PSs X st (rdS X.K W m)
section
variable {K : PySem.W.Frag} {W : WX} {w w1 : Wd} {B : Ends}
theorem HoldS.mono {r : Rt} (h : HoldS K W w B r) (x : Ext w w1) : HoldS K W w1 B r := by
  cases r with
  | go f σ S =>
    cases f with
    | next => exact fun w' s' H' y => h w' s' H' (x.trans y)
    | brk => exact fun w' s' H' y => h w' s' H' (x.trans y)
    | cont => exact fun w' s' H' y => h w' s' H' (x.trans y)
    | ret d => exact fun w' H' v y => h w' H' v (x.trans y)
  | exc C p σ S => exact fun w' s' H' dx y => h w' s' H' dx (x.trans y)
  | bad => exact h
theorem HoldS.step {α β : Type} {R : Wd → β → α → Prop} {Q1 : β → Hp → Prop} {r : Rs α} {σ : Loc} {sv : L2.St} {k : α → Sto → Rt} (l : LRel K w σ sv) (h : HoldS K W w B (r.toS σ k))
    (hk : ∀ a S1 w1 H1 b, Ext w w1 → WRel K w1 S1 H1 → R w1 b a → HoldS K W w1 B (k a S1) → Q1 b H1) : Hold K W sv R w Q1 r := by
  cases r with
  | ok a S => exact fun w' H' b y z t => hk a S w' H' b y z t (HoldS.mono (r := k a S) h y)
  | exc C p S => exact fun w' H' dx y z t => h w' sv H' dx y (l.mono y) z t
  | bad => exact h
end
def mNext : S3 := fun σ S => .go .next σ S
def mSeq (a b : S3) : S3 := fun σ S => match a σ S with
  | .go .next σ1 S1 => b σ1 S1
  | r => r
def mExpr (a : E3) : S3 := fun σ S => (a σ S).toS σ fun _ S1 => .go .next σ S1
def mRet (a : E3) : S3 := fun σ S => (a σ S).toS σ fun d S1 => .go (.ret d) σ S1
def mRetN : S3 := fun σ S => .go (.ret .non) σ S
def mIfS (t : T3) (a b : S3) : S3 := fun σ S => (t σ S).toS σ fun c S1 => if c then a σ S1 else b σ S1
def mBrk : S3 := fun σ S => .go .brk σ S
def mCont : S3 := fun σ S => .go .cont σ S
section
variable {X : Cx} {W : WX} {st : Stmt} {rest : List Stmt} {m n : S3} {e : Expr} {me : E3} {pos : Pos}
theorem ss_nil : PSs3 X W [] mNext := PSs.imp pss_nil fun B sv H ⟨w, σ, S, l, z, q⟩ => q w sv H (Ext.refl w) l z
theorem ss_one (h : PS3 X W st m) : PSs3 X W [st] m := pss_one h
theorem ss_cons (h : PS3 X W st m) (h2 : PSs3 X W rest n) : PSs3 X W (st :: rest) (mSeq m n) :=
  PSs.imp (pss_cons h h2) fun B sv H ⟨w, σ, S, l, z, q⟩ => ⟨w, σ, S, l, z, by
    unfold mSeq at q
    cases e : m σ S with
    | go f σ1 S1 =>
      rw [e] at q
      cases f with
      | next => exact fun w' s' H' y l' z' => ⟨w', σ1, S1, l', z', HoldS.mono q y⟩
      | brk => exact q
      | cont => exact q
      | ret d => exact q
    | exc C p σ1 S1 => rw [e] at q; exact q
    | bad => rw [e] at q; exact q⟩
theorem s_expr (he : PE3 X W e me) (hs : swapsWith e none pos.line X.env = pure false := by rfl) : PS3 X W (.Expr e pos) (mExpr me) :=
  PS.imp (ps_expr he hs) fun B sv H ⟨w, σ, S, l, z, q⟩ => ⟨w, σ, S, l, z, HoldS.step l q fun d S1 w1 H1 u x1 z1 r1 q1 => q1 w1 sv H1 (Ext.refl w1) (l.mono x1) z1⟩
theorem s_ret (he : PE3 X W e me) : PS3 X W (.Return (some e) pos) (mRet me) :=
  PS.imp (ps_ret he) fun B sv H ⟨w, σ, S, l, z, q⟩ => ⟨w, σ, S, l, z, HoldS.step l q fun d S1 w1 H1 u x1 z1 r1 q1 => q1 w1 H1 u (Ext.refl w1) z1 r1⟩
theorem s_retN : PS3 X W (.Return none pos) mRetN := PS.imp ps_retN fun B sv H ⟨w, σ, S, l, z, q⟩ => q w H .non (Ext.refl w) z .non
theorem s_pass : PS3 X W (.Pass pos) mNext := PS.imp ps_pass fun B sv H ⟨w, σ, S, l, z, q⟩ => q w sv H (Ext.refl w) l z
theorem s_brk : PS3 X W (.Break pos) mBrk := PS.imp ps_break fun B sv H ⟨w, σ, S, l, z, q⟩ => q w sv H (Ext.refl w) l z
theorem s_cont : PS3 X W (.Continue pos) mCont := PS.imp ps_continue fun B sv H ⟨w, σ, S, l, z, q⟩ => q w sv H (Ext.refl w) l z
theorem s_if {c : Expr} {a b : List Stmt} {t : T3} (hc : PT3 X W c t) (ha : PSs3 X W a m) (hb : PSs3 X W b n) : PS3 X W (.If c a b pos) (mIfS t m n) :=
  PS.imp (ps_if hc ha hb) fun B sv H ⟨w, σ, S, l, z, q⟩ => ⟨w, σ, S, l, z, HoldS.step l q fun k S1 w1 H1 u x1 z1 r1 q1 => by
    have r1' : u = k := r1
    subst r1'
    cases u with
    | true => exact iteT ⟨w1, σ, S1, l.mono x1, z1, q1⟩
    | false => exact iteF ⟨w1, σ, S1, l.mono x1, z1, q1⟩⟩
end

/-! ### targets -/
abbrev G3 := D → Loc → Option Loc
abbrev Gs3 := List D → Loc → Option Loc
/-- the slots at ps may have changed, no other -/
def But (ps : List Nat) (s s' : L2.St) : Prop := s'.length = s.length ∧ ∀ i, i ∉ ps → s'[i]? = s[i]?
def rdG (K : PySem.W.Frag) (ps : List Nat) (g : G3) : TG := fun v sv H Q => ∃ w σ S d σ', LRel K w σ sv ∧ WRel K w S H ∧ Rep K w v d ∧ g d σ = some σ' ∧ ∀ sv', But ps sv sv' → LRel K w σ' sv' → Q sv' H
def rdGs (K : PySem.W.Frag) (ps : List Nat) (g : Gs3) : TGs := fun vs sv H Q => ∃ w σ S ds σ', LRel K w σ sv ∧ WRel K w S H ∧ RepA K w vs ds ∧ g ds σ = some σ' ∧ ∀ sv', But ps sv sv' → LRel K w σ' sv' → Q sv' H
def PG3 (X : Cx) (tg : Expr) (ps : List Nat) (g : G3) : Prop := PG X tg (rdG X.K ps g)
def PGs3 (X : Cx) (ts : List Expr) (ps : List Nat) (g : Gs3) : Prop := PGs X ts (rdGs X.K ps g)
theorem But.refl (ps : List Nat) (s : L2.St) : But ps s s := ⟨rfl, fun _ _ => rfl⟩
theorem But.set (s : L2.St) (i : Nat) (v : Option V) : But [i] s (s.set i v) := ⟨List.length_set, fun j hj => List.getElem?_set_ne (fun e => hj (by simp [e]))⟩
theorem But.trans {ps qs : List Nat} {s t u : L2.St} (a : But ps s t) (b : But qs t u) : But (ps ++ qs) s u :=
  ⟨b.1.trans a.1, fun i hi => (b.2 i fun h => hi (List.mem_append_right _ h)).trans (a.2 i fun h => hi (List.mem_append_left _ h))⟩
def g3Name (i : Nat) : G3 := fun d σ => some (σ.set i (some d))
def g3Nil : Gs3 := fun ds σ => match ds with
  | [] => some σ
  | _ => none
def g3Cons (g : G3) (r : Gs3) : Gs3 := fun ds σ => match ds with
  | d :: ds => (g d σ).bind fun σ1 => r ds σ1
  | [] => none
def g3Tup (n : Nat) (g : Gs3) : G3 := fun d σ => match d with
  | .tup ds => if ds.length = n then g ds σ else none
  | .wt ds => if ds.length = n then g ds σ else none
  | _ => none
theorem PG.imp {X : Cx} {tg : Expr} {t t' : TG} (h : PG X tg t) (i : ∀ v s H Q, t' v s H Q → t v s H Q) : PG X tg t' := ⟨fun pins s σ H v u Q I r q => h.run pins s σ H v u Q I r (i _ _ _ _ q)⟩
theorem PGs.imp {X : Cx} {tg : List Expr} {t t' : TGs} (h : PGs X tg t) (i : ∀ v s H Q, t' v s H Q → t v s H Q) : PGs X tg t' := ⟨fun pins s σ H v u Q I r q => h.run pins s σ H v u Q I r (i _ _ _ _ q)⟩
section
variable {X : Cx} {pos : Pos}
theorem g_name {i : Nat} {x : Str} (h : PG X (.Name x pos) (gName i)) : PG3 X (.Name x pos) [i] (g3Name i) :=
  PG.imp h fun v sv H Q ⟨w, σ, S, d, σ', l, z, r, e, q⟩ => by
    cases e
    exact q _ (But.set sv i _) (LRel.set r i l)
theorem gs_nil : PGs3 X [] [] g3Nil := PGs.imp pgs_nil fun vs sv H Q ⟨w, σ, S, ds, σ', l, z, r, e, q⟩ => by
  cases ds with
  | nil => cases r; cases e; exact ⟨rfl, q _ (But.refl _ _) l⟩
  | cons _ _ => cases e
theorem gs_cons {e : Expr} {es : List Expr} {ps qs : List Nat} {g : G3} {gs : Gs3} (h1 : PG3 X e ps g) (h2 : PGs3 X es qs gs)
    (hs : (assignEach (e :: es) X.env).map (·.2) = assign e X.env :: (assignEach es X.env).map (·.2) := by rfl) : PGs3 X (e :: es) (ps ++ qs) (g3Cons g gs) :=
  PGs.imp (pgs_cons h1 h2 hs) fun vs sv H Q ⟨w, σ, S, ds, σ', l, z, r, e, q⟩ => by
    cases ds with
    | nil => cases e
    | cons d ds =>
      cases r with
      | cons r1 r2 =>
        have e' : (g d σ).bind (fun σ1 => gs ds σ1) = some σ' := e
        cases e1 : g d σ with
        | none => rw [e1] at e'; cases e'
        | some σ1 =>
          rw [e1] at e'
          exact ⟨_, _, rfl, w, σ, S, d, σ1, l, z, r1, e1, fun sv1 b1 l1 => ⟨w, σ1, S, ds, σ', l1, z, r2, e', fun sv2 b2 l2 => q sv2 (b1.trans b2) l2⟩⟩
theorem g_tup {es : List Expr} {k : Nat} {ps : List Nat} {g : Gs3} {n : Nat} (hc : X.calm = true) (h : PGs3 X es ps g)
    (hn : (assignEach es X.env).length = n := by rfl) (hst : (assignEach es X.env).findIdx? (·.1) = none := by rfl) : PG3 X (.Tuple es k pos) ps (g3Tup n g) :=
  PG.imp (pg_tup hc h hn hst) fun v sv H Q ⟨w, σ, S, d, σ', l, z, r, e, q⟩ => by
    have fin : ∀ ds, isTupD d = true → itemsOf S d = some ds → (if ds.length = n then g ds σ else none) = some σ' → gTup X.K n (rdGs X.K ps g) v sv H Q := fun ds t hi e => by
      by_cases hl : ds.length = n
      · rw [if_pos hl] at e
        obtain ⟨a, vs, rfl, ra, hs⟩ := items_tup z r hi t
        exact ⟨a, vs, rfl, hs, by rw [ra.length, hl], w, σ, S, ds, σ', l, z, ra, e, q⟩
      · rw [if_neg hl] at e; cases e
    cases d with
    | tup ds => exact fin ds rfl rfl e
    | wt ds => exact fin ds rfl rfl e
    | _ => cases e
end
def mAsg (a : E3) (g : G3) : S3 := fun σ S => (a σ S).toS σ fun d S1 => match g d σ with
  | some σ1 => .go .next σ1 S1
  | none => .bad
/-- o[i] = e on an open list -/
def setAt (d i v : D) (S : Sto) : Rs D := match i with
  | .int k => withOpen d S fun j xs => (match ixN xs.length k with
    | some n => .ok .non (S.set j (.lst (xs.set n v)))
    | none => .bad)
  | _ => .bad
def mSetIx (o i e : E3) : S3 := fun σ S => (e σ S).toS σ fun v S1 => (o σ S1).toS σ fun d S2 => (i σ S2).toS σ fun k S3 => (setAt d k v S3).toS σ fun _ S4 => .go .next σ S4
section
variable {X : Cx} {W : WX} {pos : Pos} {e : Expr} {me : E3}
theorem s_asg {tg : Expr} {ps : List Nat} {g : G3} (he : PE3 X W e me) (hg : PG3 X tg ps g) (hs : swapsWithSole [tg] e pos.line X.env = pure false := by rfl) (hw : swappedStores [tg] e X.env = pure none := by rfl)
    (h1 : (assignEach [tg] X.env).map (·.2) = [assign tg X.env] := by rfl) : PS3 X W (.Assign [tg] e pos) (mAsg me g) :=
  PS.imp (ps_asg he hg hs hw h1) fun B sv H ⟨w, σ, S, l, z, q⟩ => ⟨w, σ, S, l, z, HoldS.step l q fun d S1 w1 H1 u x1 z1 r1 q1 => by
    cases e1 : g d σ with
    | none => rw [e1] at q1; exact False.elim q1
    | some σ1 =>
      rw [e1] at q1
      exact ⟨w1, σ, S1, d, σ1, l.mono x1, z1, r1, e1, fun sv' _ l' => q1 w1 sv' H1 (Ext.refl w1) l' z1⟩⟩
theorem s_set {i : Nat} {x : Str} {pos' : Pos} (hN : X.N.Nodup) (hi : X.N[i]? = some x) (hx : L2.Loc X.env.scope x) (he : PE3 X W e me) (hs : swapsWith e (some (.Name x pos')) pos.line X.env = pure false := by rfl) (hf : X.fn x = true ∨ X.env.scope.names.lookup x = some .local := by first | exact .inl rfl | exact .inr rfl | assumption) :
    PS3 X W (.Assign [.Name x pos'] e pos) (mAsg me (g3Name i)) :=
  PS.imp (ps_set hN hi hx he hs hf) fun B sv H ⟨w, σ, S, l, z, q⟩ => ⟨w, σ, S, l, z, HoldS.step l q fun d S1 w1 H1 u x1 z1 r1 q1 => q1 w1 _ H1 (Ext.refl w1) (LRel.set r1 i (l.mono x1)) z1⟩
theorem s_setIx {o i : Expr} {mo mi : E3} {tp : Pos} (he : PE3 X W e me) (ho : PE3 X W o mo) (hi : PE3 X W i mi) (hs : swapsWithSole [.Subscript o i tp] e pos.line X.env = pure false := by rfl) (hw : swappedStores [.Subscript o i tp] e X.env = pure none := by rfl)
    (h1 : (assignEach [.Subscript o i tp] X.env).map (·.2) = [assign (.Subscript o i tp) X.env] := by rfl)
    (ha : ∀ v, assign (.Subscript o i tp) X.env v = (do
      let ov ← holding [v] (eval o X.env)
      let iv ← holding [v, ov] (eval i X.env)
      standAt tp
      holding [v, ov, iv] (setItem ov iv v)
      release [v, ov, iv] []) := by intro _; rfl) : PS3 X W (.Assign [.Subscript o i tp] e pos) (mSetIx mo mi me) :=
  PS.imp (ps_asg he (pg_sub ho hi set_list ha) hs hw h1) fun B sv H ⟨w, σ, S, l, z, q⟩ => ⟨w, σ, S, l, z, HoldS.step l q fun v S1 w1 H1 u x1 z1 r1 q1 =>
    ⟨w1, σ, S1, l.mono x1, z1, HoldS.step (l.mono x1) q1 fun d S2 w2 H2 p x2 z2 r2 q2 => ⟨w2, σ, S2, l.mono (x1.trans x2), z2, HoldS.step (l.mono (x1.trans x2)) q2 fun k S3 w3 H3 y x3 z3 r3 q3 => by
      cases k with
      | int n =>
        cases r3
        have q3' := HoldS.step (R := Rep X.K) (Q1 := fun v' H' => ∃ w4 S4, Ext w3 w4 ∧ WRel X.K w4 S4 H' ∧ HoldS X.K W w4 B (.go .next σ S4)) (l.mono ((x1.trans x2).trans x3)) q3 fun d' S4 w4 H4 b x4 z4 r4 q4 => ⟨w4, S4, x4, z4, q4⟩
        obtain ⟨j, xs, a, vs, rfl, rfl, h1, g, eH, rx, _, q5⟩ := withOpen_s z3 (r2.mono x3) (show Hold X.K W sv (Rep X.K) w3 (fun v' H' => ∃ w4 S4, Ext w3 w4 ∧ WRel X.K w4 S4 H' ∧ HoldS X.K W w4 B (.go .next σ S4)) (withOpen d S3 fun j xs => (match ixN xs.length n with
          | some m => .ok .non (S3.set j (.lst (xs.set m v)))
          | none => .bad)) from q3')
        cases en : ixN xs.length n with
        | none => simp only [en] at q5; exact False.elim q5
        | some m =>
          simp only [en] at q5
          obtain ⟨w4, S4, x4, z4, q6⟩ := q5 w3 _ .non (Ext.refl w3) (z3.relist h1 g (RepA.set (r1.mono (x2.trans x3)) m rx)) .non
          exact ⟨a, vs, n, m, rfl, rfl, eH, by rw [rx.length]; exact en, q6 w4 sv _ (Ext.refl w4) (l.mono (((x1.trans x2).trans x3).trans x4)) z4⟩
      | _ => exact False.elim q3⟩⟩⟩
/-- x += e -/
def mAug (i : Nat) (f : O3) (a : E3) : S3 := fun σ S => match σ[i]? with
  | some (some d) => (a σ S).toS σ fun e S1 => (f d e S1).toS σ fun v S2 => .go .next (σ.set i (some v)) S2
  | _ => .bad
theorem s_aug {i : Nat} {x : Str} {op : Operator} {ti : TIp} {f : O3} {pos' : Pos} (hN : X.N.Nodup) (hi : X.N[i]? = some x) (hx : L2.Loc X.env.scope x) (he : PE3 X W e me) (ho : PIp X op ti) (s : OpS X.K ti f) (hf : X.fn x = true ∨ X.env.scope.names.lookup x = some .local := by first | exact .inl rfl | exact .inr rfl | assumption) :
    PS3 X W (.AugAssign (.Name x pos') op e pos) (mAug i f me) :=
  PS.imp (ps_aug hN hi hx he ho hf) fun B sv H ⟨w, σ, S, l, z, q⟩ => by
    unfold mAug at q
    cases e1 : σ[i]? with
    | none => rw [e1] at q; exact False.elim q
    | some o =>
      cases o with
      | none => rw [e1] at q; exact False.elim q
      | some d =>
        rw [e1] at q
        obtain ⟨v, hv, rv⟩ := l.get e1
        refine ⟨v, hv, w, σ, S, l, z, HoldS.step l q fun e' S1 w1 H1 u x1 z1 r1 q1 => ?_⟩
        refine s W sv w1 v u d e' S1 H1 _ z1 (rv.mono x1) r1 (HoldS.step (l.mono x1) q1 fun d2 S2 w2 H2 u2 x2 z2 r2 q2 => ?_)
        exact q2 w2 _ H2 (Ext.refl w2) (LRel.set r2 i (l.mono (x1.trans x2))) z2
end

/-! ### while -/
def mWhileN (t : T3) (b : S3) : Nat → Loc → Sto → Rt
  | 0, _, _ => .bad
  | n + 1, σ, S => (t σ S).toS σ fun c S1 => if c then (match b σ S1 with
      | .go .next σ2 S2 => mWhileN t b n σ2 S2
      | .go .cont σ2 S2 => mWhileN t b n σ2 S2
      | .go .brk σ2 S2 => .go .next σ2 S2
      | r => r) else .go .next σ S1
section
variable {X : Cx} {W : WX} {pos : Pos}
theorem s_while (n : Nat) {c : Expr} {body : List Stmt} {t : T3} {m : S3} (hp : PassesOwn (model X.prog X.w) X.A X.env X.xe) (hc : PT3 X W c t) (hb : PSs3 X W body m) : PS3 X W (.While c body [] pos) (mWhileN t m n) :=
  PS.imp (ps_while hp hc hb) fun B sv H h => by
    refine ⟨fun k sv H => rdS X.K W (mWhileN t m k) B sv H, ⟨n, h⟩, ?_⟩
    rintro k sv H ⟨w, σ, S, l, z, q⟩
    cases k with
    | zero => exact False.elim q
    | succ k =>
      refine ⟨w, σ, S, l, z, HoldS.step l q fun b S1 w1 H1 u x1 z1 r1 q1 => ?_⟩
      have r1' : u = b := r1
      subst r1'
      cases u with
      | false => exact iteF (q1 w1 sv H1 (Ext.refl w1) (l.mono x1) z1)
      | true =>
        refine iteT ⟨fun sv' H' => rdS X.K W (mWhileN t m k) B sv' H', fun sv' H' h => ⟨k, Nat.lt_succ_self k, h⟩, w1, σ, S1, l.mono x1, z1, ?_⟩
        rw [if_pos rfl] at q1
        cases e : m σ S1 with
        | go f σ2 S2 =>
          rw [e] at q1
          cases f with
          | next => exact fun w' s' H' y l' z' => ⟨w', σ2, S2, l', z', HoldS.mono q1 y⟩
          | cont => exact fun w' s' H' y l' z' => ⟨w', σ2, S2, l', z', HoldS.mono q1 y⟩
          | brk => exact q1
          | ret d => exact q1
        | exc C p σ2 S2 => rw [e] at q1; exact q1
        | bad => rw [e] at q1; exact q1
end

/-! ### what is walked -/
def IsWalk (K : PySem.W.Frag) (w : Wd) (J : It) (ds : List D) : Prop :=
  ∀ i w1 S H, Grow w w1 → WRel K w1 S H → (ds.length ≤ i → J.stop i H) ∧ ∀ d, ds[i]? = some d → J.go i H ∧ ∀ x H', J.yld i H x H' → ∃ w2, Ext w1 w2 ∧ WRel K w2 S H' ∧ Rep K w2 x d
def PI3 (X : Cx) (W : WX) (tg it : Expr) (m : A3) : Prop := PI X tg it (rd X.K W (IsWalk X.K) m)
theorem PI.imp {X : Cx} {tg e : Expr} {t t' : TI} (h : PI X tg e t) (i : ∀ s H Q, t' s H Q → t s H Q) : PI X tg e t' := ⟨fun pins s σ H R I q => h.run pins s σ H R I (i _ _ _ q)⟩
/-- a thing that stays as it is: its address, its items -/
theorem walk_l {K : PySem.W.Frag} {w : Wd} {a : Addr} {vs : List V} {ds : List D} (h : SqL K w.G a vs) (r : RepA K w vs ds) : IsWalk K w (Itl K a) ds := fun i w1 S H x z => by
  have hs : SqL K H a vs := z.same.seq (x.same.seq h)
  refine ⟨fun hi => ⟨vs, hs, by rw [r.length]; exact hi⟩, fun d e => ?_⟩
  obtain ⟨v, hv, rv⟩ := r.get e
  refine ⟨⟨vs, v, hs, hv⟩, fun y H' q => ?_⟩
  obtain ⟨rfl, q⟩ := q
  have e2 : v = y := Option.some.inj (hv.symm.trans (q vs hs))
  subst e2
  exact ⟨w1, Ext.refl w1, z, rv.monoG x⟩
theorem walk_t {K : PySem.W.Frag} {w : Wd} {a : Addr} {vs : List V} {ds : List D} (h : SqT K w.G a vs) (r : RepA K w vs ds) : IsWalk K w (Itt K a) ds := fun i w1 S H x z => by
  have hs : SqT K H a vs := seqT z.same (seqT x.same h)
  refine ⟨fun hi => ⟨vs, hs, by rw [r.length]; exact hi⟩, fun d e => ?_⟩
  obtain ⟨v, hv, rv⟩ := r.get e
  refine ⟨⟨vs, v, hs, hv⟩, fun y H' q => ?_⟩
  obtain ⟨rfl, q⟩ := q
  have e2 : v = y := Option.some.inj (hv.symm.trans (q vs hs))
  subst e2
  exact ⟨w1, Ext.refl w1, z, rv.monoG x⟩
/-- rngD from lo on -/
def rngD (lo : Int) (n : Nat) : List D := (List.range n).map fun (i : Nat) => D.int (lo + (i : Int))
theorem walk_r {K : PySem.W.Frag} {w : Wd} {lo : Int} {n : Nat} : IsWalk K w (Itr lo n) (rngD lo n) := fun i w1 S H x z => by
  have hl : (rngD lo n).length = n := by unfold rngD; rw [List.length_map, List.length_range]
  refine ⟨fun hi => by rw [hl] at hi; exact hi, fun d e => ?_⟩
  have hi : i < n := by rw [← hl]; exact (List.getElem?_eq_some_iff.mp e).1
  have e2 : d = .int (lo + i) := by
    unfold rngD at e
    rw [List.getElem?_map, List.getElem?_range hi] at e
    exact (Option.some.inj e).symm
  subst e2
  refine ⟨hi, fun y H' q => ?_⟩
  obtain ⟨rfl, rfl⟩ := q
  exact ⟨w1, Ext.refl w1, z, .int _⟩
/-- a list that is read from now on only -/
theorem WRel.freeze {K : PySem.W.Frag} {w : Wd} {S : Sto} {H : Hp} (z : WRel K w S H) {k : Nat} {a : Addr} {vs : List V} {xs : List D} (h1 : w.am[k]? = some a) (g : w.G a = none) (e : H a = some (.lst vs)) (r : RepA K w vs xs) :
    WRel K (w.put a (.lst vs)) (S.set k (.frz xs)) H ∧ Ext w (w.put a (.lst vs)) := by
  have x : Ext w (w.put a (.lst vs)) := ⟨fun b u e' => by show upd w.G a _ b = _; rw [upd_ne (ne_of_none e' g)]; exact e', List.prefix_refl _, rfl⟩
  refine ⟨⟨fun b u e' => ?_, by rw [List.length_set]; exact z.len, z.nd, fun j b ob e1 e2 => ?_, fun q hq => ?_, z.hnd⟩, x⟩
  · have e'' : upd w.G a (.lst vs) b = some u := e'
    by_cases hb : b = a
    · subst hb; rw [upd_same] at e''; cases e''; exact e
    · rw [upd_ne hb] at e''; exact z.same _ _ e''
  · by_cases hj : j = k
    · subst hj
      have e3 : a = b := Option.some.inj (h1.symm.trans e1)
      subst e3
      rw [List.getElem?_set_self (by rw [← z.len]; exact (List.getElem?_eq_some_iff.mp h1).1)] at e2
      have e4 : Ob.frz xs = ob := Option.some.inj e2
      subst e4
      exact ⟨vs, upd_same, r.mono x⟩
    · rw [List.getElem?_set_ne (Ne.symm hj)] at e2
      have hb : b ≠ a := fun q => by
        subst q
        exact hj (nd_ix z.nd e1 h1)
      exact (z.obs j b ob e1 e2).stay x (fun g' => by show upd w.G a _ b = none; rw [upd_ne hb]; exact g') fun u e => e
  · obtain ⟨e', g', m⟩ := z.hid q hq
    have hp : q.1 ≠ a := fun h => m (h ▸ List.mem_of_getElem? h1)
    exact ⟨e', by show upd w.G a _ q.1 = none; rw [upd_ne hp]; exact g', m⟩
/-- what a for walks over a list: an open one is read only from then on -/
def walkL (d : D) (S : Sto) : Rs (List D) := match d with
  | .lst xs => .ok xs S
  | .wl xs => .ok xs S
  | .ref k => (match S[k]? with
    | some (.lst xs) => .ok xs (S.set k (.frz xs))
    | some (.frz xs) => .ok xs S
    | _ => .bad)
  | _ => .bad
def walkT (d : D) (S : Sto) : Rs (List D) := match d with
  | .tup xs => .ok xs S
  | .wt xs => .ok xs S
  | _ => .bad
def mWalkL (a : E3) : A3 := fun σ S => (a σ S).bind walkL
def mWalkT (a : E3) : A3 := fun σ S => (a σ S).bind walkT
def rg2 (i j : Int) (S : Sto) : Rs (List D) := if (decide (-(2 ^ 62) ≤ i) && decide (i < 2 ^ 62)) && (decide (-(2 ^ 62) ≤ j) && decide (j < 2 ^ 62)) then .ok (rngD i (j - i).toNat) S else .bad
def rgA1 : List D → Sto → Rs (List D) := fun ds S => match ds with
  | [d] => (match d with
    | .int j => rg2 0 j S
    | _ => .bad)
  | _ => .bad
def rgA2 : List D → Sto → Rs (List D) := fun ds S => match ds with
  | [d, e] => (match d with
    | .int i => (match e with
      | .int j => rg2 i j S
      | _ => .bad)
    | _ => .bad)
  | _ => .bad
def mRange1 (a : A3) : A3 := fun σ S => (a σ S).bind rgA1
def mRange2 (a : A3) : A3 := fun σ S => (a σ S).bind rgA2
section
variable {X : Cx} {W : WX} {tg e e2 : Expr} {me me2 : E3}
theorem walkL_r (sv : L2.St) (H : Hp) (Q : It → Hp → Prop) (h : rd X.K W (IsWalk X.K) (mWalkL me) sv H Q) : iList X.K (rdE X.K W me) sv H Q := by
  obtain ⟨w, σ, S, l, z, q⟩ := h
  exact ⟨w, σ, S, l, z, Hold.step q fun d S1 w1 H1 u x1 z1 r1 q1 => by
    cases d with
    | lst xs =>
      cases r1 with
      | lst h1 h2 => exact ⟨_, rfl, ⟨_, SqL.of (z1.same _ _ h1)⟩, Hold.at_ (show Hold X.K W sv (IsWalk X.K) w1 Q (.ok xs S1) from q1) z1 (walk_l (SqL.of h1) h2)⟩
    | wl xs =>
      cases r1 with
      | wl h1 h2 => exact ⟨_, rfl, ⟨_, z1.same.seq h1⟩, Hold.at_ (show Hold X.K W sv (IsWalk X.K) w1 Q (.ok xs S1) from q1) z1 (walk_l h1 h2)⟩
    | ref k =>
      cases r1 with
      | ref h1 =>
        obtain ⟨o, _, e1, q, _⟩ := z1.there h1
        have q' : Hold X.K W sv (IsWalk X.K) w1 Q (match S1[k]? with
          | some (.lst xs) => .ok xs (S1.set k (.frz xs))
          | some (.frz xs) => .ok xs S1
          | _ => .bad) := q1
        rw [e1] at q'
        cases o with
        | lst xs =>
          obtain ⟨g, vs, e2, ra⟩ := q
          obtain ⟨z2, x2⟩ := z1.freeze h1 g e2 ra
          exact ⟨_, rfl, ⟨vs, SqL.of e2⟩, q' _ _ _ x2 z2 (walk_l (SqL.of upd_same) (ra.mono x2))⟩
        | frz xs =>
          obtain ⟨vs, e2, ra⟩ := q
          exact ⟨_, rfl, ⟨vs, SqL.of (z1.same _ _ e2)⟩, Hold.at_ q' z1 (walk_l (SqL.of e2) ra)⟩
        | ins C fs => exact False.elim q'
    | _ => exact False.elim q1⟩
theorem walkT_r (sv : L2.St) (H : Hp) (Q : It → Hp → Prop) (h : rd X.K W (IsWalk X.K) (mWalkT me) sv H Q) : iTup X.K (rdE X.K W me) sv H Q := by
  obtain ⟨w, σ, S, l, z, q⟩ := h
  exact ⟨w, σ, S, l, z, Hold.step q fun d S1 w1 H1 u x1 z1 r1 q1 => by
    cases d with
    | tup xs =>
      cases r1 with
      | tup h1 h2 => exact ⟨_, rfl, ⟨_, SqT.of (z1.same _ _ h1)⟩, Hold.at_ (show Hold X.K W sv (IsWalk X.K) w1 Q (.ok xs S1) from q1) z1 (walk_t (SqT.of h1) h2)⟩
    | wt xs =>
      cases r1 with
      | wt h1 h2 => exact ⟨_, rfl, ⟨_, seqT z1.same h1⟩, Hold.at_ (show Hold X.K W sv (IsWalk X.K) w1 Q (.ok xs S1) from q1) z1 (walk_t h1 h2)⟩
    | _ => exact False.elim q1⟩
theorem i_list (h : PE3 X W e me) : PI3 X W tg e (mWalkL me) := PI.imp (pi_list h) walkL_r
theorem i_tup (h : PE3 X W e me) : PI3 X W tg e (mWalkT me) := PI.imp (pi_tup h) walkT_r
theorem rg2_s {K : PySem.W.Frag} {sv : L2.St} {w : Wd} {S : Sto} {H : Hp} {Q : It → Hp → Prop} {i j : Int} (z : WRel K w S H) (q : Hold K W sv (IsWalk K) w Q (rg2 i j S)) : (-(2 ^ 62) ≤ i ∧ i < 2 ^ 62 ∧ -(2 ^ 62) ≤ j ∧ j < 2 ^ 62) ∧ Q (Itr i (j - i).toNat) H := by
  unfold rg2 at q
  by_cases hj : ((decide (-(2 ^ 62) ≤ i) && decide (i < 2 ^ 62)) && (decide (-(2 ^ 62) ≤ j) && decide (j < 2 ^ 62))) = true
  · rw [if_pos hj] at q
    simp only [Bool.and_eq_true, decide_eq_true_eq] at hj
    exact ⟨⟨hj.1.1, hj.1.2, hj.2.1, hj.2.2⟩, Hold.at_ q z walk_r⟩
  · rw [if_neg hj] at q; exact False.elim q
theorem i_range1 {p pos : Pos} {ms : A3} (hg : Gl X "range") (hm : X.mg "range" = none) (h : PA3 X W [e] ms) (hs : starEach [e] X.env = [(false, eval e X.env)] := by rfl) : PI3 X W tg (.Call (.Name "range" p) [e] [] pos) (mRange1 ms) :=
  PI.imp (pi_range1 hg hm h hs) fun sv H Q ⟨w, σ, S, l, z, q⟩ => ⟨w, σ, S, l, z, Hold.step q fun ds S1 w1 H1 us x1 z1 r1 q1 => by
    match ds, us, r1, q1 with
    | [], _, _, q1 => exact False.elim q1
    | [d], _, .cons r2 .nil, q1 =>
      cases d with
      | int j =>
        cases r2
        obtain ⟨h1, h2⟩ := rg2_s z1 (show Hold X.K W sv (IsWalk X.K) w1 Q (rg2 0 j S1) from q1)
        exact ⟨j, rfl, h1.2.2.1, h1.2.2.2, by simpa using h2⟩
      | _ => exact False.elim q1
    | _ :: _ :: _, _, _, q1 => exact False.elim q1⟩
theorem i_range2 {p pos : Pos} {ms : A3} (hg : Gl X "range") (hm : X.mg "range" = none) (h : PA3 X W [e, e2] ms) (hs : starEach [e, e2] X.env = [(false, eval e X.env), (false, eval e2 X.env)] := by rfl) (hs2 : starEach [e2] X.env = [(false, eval e2 X.env)] := by rfl) :
    PI3 X W tg (.Call (.Name "range" p) [e, e2] [] pos) (mRange2 ms) :=
  PI.imp (pi_range2 hg hm h hs hs2) fun sv H Q ⟨w, σ, S, l, z, q⟩ => ⟨w, σ, S, l, z, Hold.step q fun ds S1 w1 H1 us x1 z1 r1 q1 => by
    match ds, us, r1, q1 with
    | [], _, _, q1 => exact False.elim q1
    | [_], _, _, q1 => exact False.elim q1
    | [d, e], _, .cons r2 (.cons r3 .nil), q1 =>
      cases d with
      | int i =>
        cases r2
        cases e with
        | int j =>
          cases r3
          obtain ⟨h1, h2⟩ := rg2_s z1 (show Hold X.K W sv (IsWalk X.K) w1 Q (rg2 i j S1) from q1)
          exact ⟨i, j, rfl, h1, h2⟩
        | _ => exact False.elim q1
      | _ => exact False.elim q1
    | _ :: _ :: _ :: _, _, _, q1 => exact False.elim q1⟩
end

/-! ### for -/
def forD (g : G3) (b : S3) : List D → Loc → Sto → Rt
  | [], σ, S => .go .next σ S
  | d :: ds, σ, S => match g d σ with
    | none => .bad
    | some σ1 => match b σ1 S with
      | .go .next σ2 S2 => forD g b ds σ2 S2
      | .go .cont σ2 S2 => forD g b ds σ2 S2
      | .go .brk σ2 S2 => .go .next σ2 S2
      | r => r
def mFor (it : A3) (g : G3) (b : S3) : S3 := fun σ S => (it σ S).toS σ fun ds S1 => forD g b ds σ S1
section
variable {X : Cx} {W : WX} {pos : Pos}
theorem s_for {tg it : Expr} {body : List Stmt} {mi : A3} {ps : List Nat} {g : G3} {m : S3} (hp : PassesOwn (model X.prog X.w) X.A X.env X.xe) (hc : X.calm = true) (hi : PI3 X W tg it mi) (hg : PG3 X tg ps g) (hb : PSs3 X W body m)
    (hs : ∀ x, foldedSetIterable it X.env x = pure x := by intro _; rfl) : PS3 X W (.For tg it body [] pos) (mFor mi g m) :=
  PS.imp (ps_for hp hc hi hg hb hs) fun B sv H ⟨w, σ, S, l, z, q⟩ => ⟨w, σ, S, l, z, HoldS.step l q fun ds S1 w1 H1 J x1 z1 j1 q1 => by
    refine ⟨fun i k sv' H' => ∃ w2 σ2 S2, Ext w1 w2 ∧ LRel X.K w2 σ2 sv' ∧ WRel X.K w2 S2 H' ∧ k = ds.length - i ∧ HoldS X.K W w2 B (forD g m (ds.drop i) σ2 S2), ⟨ds.length, w1, σ, S1, Ext.refl w1, l.mono x1, z1, by simp, by simpa using q1⟩, ?_⟩
    rintro i k sv' H' ⟨w2, σ2, S2, x2, l2, z2, rfl, q2⟩
    obtain ⟨stop, go⟩ := j1 i w2 S2 H' x2.grow z2
    by_cases hi : i < ds.length
    · have ed : ds[i]? = some ds[i] := List.getElem?_eq_getElem hi
      obtain ⟨g1, g2⟩ := go _ ed
      refine .inr ⟨g1, fun sv3 H3 => ∃ w3 σ3 S3, Ext w1 w3 ∧ LRel X.K w3 σ3 sv3 ∧ WRel X.K w3 S3 H3 ∧ HoldS X.K W w3 B (forD g m (ds.drop (i + 1)) σ3 S3),
        fun sv3 H3 ⟨w3, σ3, S3, x3, l3, z3, q3⟩ => ⟨ds.length - (i + 1), by omega, w3, σ3, S3, x3, l3, z3, rfl, q3⟩, fun y H3 hy => ?_⟩
      obtain ⟨w3, x3, z3, r3⟩ := g2 y H3 hy
      rw [List.drop_eq_getElem_cons hi] at q2
      unfold forD at q2
      cases eg : g ds[i] σ2 with
      | none => rw [eg] at q2; exact False.elim q2
      | some σ3 =>
        rw [eg] at q2
        refine ⟨w3, σ2, S2, ds[i], σ3, l2.mono x3, z3, r3, eg, fun sv4 _ l4 => ⟨w3, σ3, S2, l4, z3, ?_⟩⟩
        have q2 := HoldS.mono q2 x3
        cases em : m σ3 S2 with
        | go f σ5 S5 =>
          simp only [em] at q2
          cases f with
          | next => exact fun w' s' H' y l' z' => ⟨w', σ5, S5, (x2.trans x3).trans y, l', z', HoldS.mono q2 y⟩
          | cont => exact fun w' s' H' y l' z' => ⟨w', σ5, S5, (x2.trans x3).trans y, l', z', HoldS.mono q2 y⟩
          | brk => exact q2
          | ret d => exact q2
        | exc C p σ5 S5 => simp only [em] at q2; exact q2
        | bad => simp only [em] at q2; exact q2
    · rw [List.drop_eq_nil_of_le (by omega)] at q2
      exact .inl ⟨stop (by omega), q2 w2 sv' H' (Ext.refl w2) l2 z2⟩⟩
end
end DL
end

section
set_option Elab.async false
set_option linter.all false
set_option maxRecDepth 100000
set_option maxHeartbeats 4000000
namespace DL
open PySem PySem.Spec PyProof.Rows L2

/-! ### comprehensions -/
/-- nothing may be raised -/
def WF : WX := fun _ _ _ _ => False
def wipeD (σ : Loc) : List Nat → Loc
  | [] => σ
  | v :: vs => (wipeD σ vs).set v none
theorem LRel.wipeAll {K : PySem.W.Frag} {w : Wd} {σ : Loc} {s : L2.St} (l : LRel K w σ s) : ∀ vs : List Nat, LRel K w (wipeD σ vs) (L2.wipe s vs)
  | [] => l
  | v :: vs => LRel.wipe v (l.wipeAll vs)
theorem wipe_get (s : L2.St) (i : Nat) : ∀ vs : List Nat, i ∉ vs → (wipe s vs)[i]? = s[i]?
  | [], _ => rfl
  | v :: vs, h => by
    unfold wipe
    rw [List.getElem?_set_ne (fun e => h (by simp [e]))]
    exact wipe_get s i vs fun q => h (List.mem_cons_of_mem _ q)
theorem wipe_in (s : L2.St) (i : Nat) : ∀ vs : List Nat, i ∈ vs → i < s.length → (wipe s vs)[i]? = some none
  | [], h, _ => nomatch h
  | v :: vs, h, hl => by
    unfold wipe
    by_cases e : v = i
    · subst e
      rw [List.getElem?_set_self (by rw [wipe_length]; exact hl)]
    · rw [List.getElem?_set_ne e]
      exact wipe_in s i vs ((List.mem_cons.mp h).resolve_left fun q => e q.symm) hl
theorem wipe_but {ps vs : List Nat} {s s' : L2.St} (b : But ps (wipe s vs) s') (h : ∀ i ∈ ps, i ∈ vs) : wipe s' vs = wipe s vs := by
  have hl : s'.length = s.length := by rw [b.1, wipe_length]
  apply List.ext_getElem?
  intro i
  by_cases hi : i ∈ vs
  · by_cases hk : i < s.length
    · rw [wipe_in s' i vs hi (by omega), wipe_in s i vs hi hk]
    · rw [List.getElem?_eq_none (by rw [wipe_length]; omega), List.getElem?_eq_none (by rw [wipe_length]; omega)]
  · rw [wipe_get s' i vs hi, b.2 i fun q => hi (h i q), wipe_get s i vs hi]
def compD (g : G3) (t : T3) (e : E3) : List D → List D → Loc → Sto → Rs (List D)
  | [], acc, _, S => .ok acc S
  | d :: ds, acc, σ, S => match g d σ with
    | none => .bad
    | some σ1 => match t σ1 S with
      | .ok true S1 => (match e σ1 S1 with
        | .ok y S2 => if acc.length < sizeLine then compD g t e ds (acc ++ [y]) σ S2 else .bad
        | _ => .bad)
      | .ok false S1 => compD g t e ds acc σ S1
      | _ => .bad
def endC (op : Bool) (ys : List D) (S : Sto) : Rs D := if op then .ok (.ref S.length) (S ++ [.lst ys]) else .ok (.lst ys) S
def mComp (op : Bool) (it : A3) (g : G3) (t : T3) (e : E3) (vs : List Nat) : E3 := fun σ S => (it σ S).bind fun ds S1 => (compD g t e ds [] (wipeD σ vs) S1).bind (endC op)
def tTrue3 : T3 := fun _ S => .ok true S
theorem endC_s {K : PySem.W.Frag} {W : WX} {sv : L2.St} {w : Wd} {S : Sto} {H : Hp} {Q : VK} {op : Bool} {p : Addr} {vs : List V} {ys : List D} {l : List (Addr × HO)} (z : WRel K w S H) (e : w.hs = (p, .lst vs) :: l) (r : RepA K w vs ys)
    {w0 : Wd} (x : Grow w0 w) (hl : w0.hs = l) (h : Hold K W sv (Rep K) w0 Q (endC op ys S)) : Q (.ref p) H := by
  cases op with
  | true =>
    obtain ⟨z2, g⟩ := z.open_ e r
    refine h _ _ _ ⟨(x.trans g).same, (x.trans g).pre, hl.symm⟩ z2 (.ref ?_)
    show (w.am ++ [p])[S.length]? = some p
    rw [← z.len, List.getElem?_append_right (Nat.le_refl _), Nat.sub_self]
    rfl
  | false =>
    obtain ⟨z2, g⟩ := z.show_ e
    exact h _ _ _ ⟨(x.trans g).same, (x.trans g).pre, hl.symm⟩ z2 (.lst upd_same (r.monoG g))
theorem Hold.ofG {K : PySem.W.Frag} {W : WX} {sv : L2.St} {α β : Type} {R : Wd → β → α → Prop} {Q : β → Hp → Prop} {w w' : Wd} {r : Rs α} (h : Hold K W sv R w Q r) (x : Grow w w') (e : w'.hs = w.hs) : Hold K W sv R w' Q r := h.mono ⟨x.same, x.pre, e⟩
def PTs3 (X : Cx) (W : WX) (ifs : List Expr) (m : T3) : Prop := PTs X ifs (rdT X.K W m)
theorem PTs.imp {X : Cx} {ifs : List Expr} {t t' : TT} (h : PTs X ifs t) (i : ∀ s H Q, t' s H Q → t s H Q) : PTs X ifs t' := ⟨fun pins s σ H Q I q => h.run pins s σ H Q I (i _ _ _ q)⟩
section
variable {X : Cx} {W : WX} {pos : Pos}
theorem ts_nil : PTs3 X W [] tTrue3 := PTs.imp pts_nil fun sv H Q ⟨w, σ, S, l, z, q⟩ => q.at_ z rfl
theorem ts_one {c : Expr} {m : T3} (h : PT3 X W c m) : PTs3 X W [c] m := pts_one h
theorem comp3 {K : PySem.W.Frag} {mi : A3} {ps : List Nat} {g : G3} {mt : T3} {me : E3} {vs : List Nat} {op : Bool} (hp : ∀ i ∈ ps, i ∈ vs) (sv : L2.St) (H : Hp) (Q : VK) (h : rdE K W (mComp op mi g mt me vs) sv H Q) :
    tLc (rd K W (IsWalk K) mi) (rdG K ps g) (rdT K WF mt) (rdE K WF me) vs sv H Q := by
  obtain ⟨w, σ, S, l, z, q⟩ := h
  refine ⟨w, σ, S, l, z, Hold.step q fun ds S1 w1 H1 J x1 z1 j1 q1 p np => ?_⟩
  refine ⟨fun i m H' => ∃ w2 S2 av acc, w2.hs = (p, .lst av) :: w1.hs ∧ Grow w1 w2 ∧ WRel K w2 S2 H' ∧ RepA K w2 av acc ∧ m = ds.length - i ∧
    ∀ w3, Grow w1 w3 → w3.hs = w1.hs → Hold K W sv (Rep K) w3 Q ((compD g mt me (ds.drop i) acc (wipeD σ vs) S2).bind (endC op)),
    ⟨ds.length, w1.hide p (.lst []), S1, [], [], rfl, ⟨Same.refl _, List.prefix_refl _⟩, z1.hide np _, .nil, by simp, fun w3 g3 e3 => by simpa using Hold.ofG q1 g3 e3⟩, ?_⟩
  rintro i m H' ⟨w2, S2, av, acc, hh, g2, z2, ra, rfl, q2⟩
  obtain ⟨stop, go⟩ := j1 i w2 S2 H' g2 z2
  have keep : Grow w1 ⟨w2.G, w2.am, w1.hs⟩ := ⟨g2.same, g2.pre⟩
  by_cases hi : i < ds.length
  · have ed : ds[i]? = some ds[i] := List.getElem?_eq_getElem hi
    obtain ⟨go1, go2⟩ := go _ ed
    refine .inr ⟨go1, fun H3 => ∃ w4 S4 av4 acc4, w4.hs = (p, .lst av4) :: w1.hs ∧ Grow w1 w4 ∧ WRel K w4 S4 H3 ∧ RepA K w4 av4 acc4 ∧
        ∀ w3, Grow w1 w3 → w3.hs = w1.hs → Hold K W sv (Rep K) w3 Q ((compD g mt me (ds.drop (i + 1)) acc4 (wipeD σ vs) S4).bind (endC op)),
      fun H3 ⟨w4, S4, av4, acc4, a, b, c, d, e⟩ => ⟨ds.length - (i + 1), by omega, w4, S4, av4, acc4, a, b, c, d, rfl, e⟩, fun y H3 hy => ?_⟩
    obtain ⟨w3, x3, z3, r3⟩ := go2 y H3 hy
    have q3 := q2 w1 ⟨Same.refl _, List.prefix_refl _⟩ rfl
    rw [List.drop_eq_getElem_cons hi] at q3
    unfold compD at q3
    have q2' := q2
    rw [List.drop_eq_getElem_cons hi] at q2'
    unfold compD at q2'
    cases eg : g ds[i] (wipeD σ vs) with
    | none => simp only [eg] at q3; exact False.elim q3
    | some σ3 =>
      simp only [eg] at q3 q2'
      have lw : LRel K w3 (wipeD σ vs) (wipe sv vs) := (l.wipeAll vs).monoG (x1.grow.trans (g2.trans x3.grow))
      refine ⟨w3, wipeD σ vs, S2, ds[i], σ3, lw, z3, r3, eg, fun sv3 b3 l3 => ⟨wipe_but b3 hp, w3, σ3, S2, l3, z3, ?_⟩⟩
      cases et : mt σ3 S2 with
      | bad => simp only [et] at q3; exact False.elim q3
      | exc C pp S5 => simp only [et] at q3; exact False.elim q3
      | ok b S5 =>
        simp only [et] at q3 q2'
        intro w5 H5 b' x5 z5 eb
        have eb' : b' = b := eb
        subst eb'
        have g5 : Grow w1 w5 := g2.trans (x3.grow.trans x5.grow)
        have h5 : w5.hs = (p, .lst av) :: w1.hs := by rw [x5.hid, x3.hid]; exact hh
        cases b' with
        | false => exact iteF ⟨w5, S5, av, acc, h5, g5, z5, ra.monoG (x3.grow.trans x5.grow), q2'⟩
        | true =>
          refine iteT ⟨w5, σ3, S5, l3.mono x5, z5, ?_⟩
          cases ee : me σ3 S5 with
          | bad => simp only [ee] at q3; exact False.elim q3
          | exc C pp S6 => simp only [ee] at q3; exact False.elim q3
          | ok y6 S6 =>
            simp only [ee] at q3 q2'
            intro w6 H6 v6 x6 z6 r6
            have h6 : w6.hs = (p, .lst av) :: w1.hs := by rw [x6.hid]; exact h5
            have ra6 := ra.monoG (x3.grow.trans (x5.grow.trans x6.grow))
            have hH := (z6.hid (p, .lst av) (by rw [h6]; exact List.mem_cons_self)).1
            by_cases hz : acc.length < sizeLine
            · rw [if_pos hz] at q3
              refine ⟨av, hH, by rw [ra6.length]; exact hz, ⟨w6.G, w6.am, (p, .lst (av ++ [v6])) :: w1.hs⟩, S6, av ++ [v6], acc ++ [y6], rfl, ?_, z6.rehide h6, ?_, fun w7 g7 e7 => ?_⟩
              · have g6 := g5.trans x6.grow
                exact ⟨g6.same, g6.pre⟩
              · exact RepA.alike (u := w6) (u' := ⟨w6.G, w6.am, (p, .lst (av ++ [v6])) :: w1.hs⟩) rfl rfl (ra6.append (.cons r6 .nil))
              · have := q2' w7 g7 e7
                rw [if_pos hz] at this
                exact this
            · rw [if_neg hz] at q3; exact False.elim q3
  · refine .inl ⟨stop (by omega), ?_⟩
    have q3 := q2 w1 ⟨Same.refl _, List.prefix_refl _⟩ rfl
    rw [List.drop_eq_nil_of_le (by omega)] at q3
    exact endC_s z2 hh ra g2 rfl q3
theorem e_comp (op : Bool) {elt tg iter : Expr} {ifs : List Expr} {scope : Scope} {own : List (Str × Nat)} {mi : A3} {ps : List Nat} {g : G3} {mt : T3} {me : E3} (hc : X.calm = true) (hN : X.N.Nodup) (hi : PI3 X W tg iter mi) (ok : BlkOk X.N X.env.scope scope own)
    (hg : ∀ (s : Shared) (H : Hp) (C : Addr) (cl : List (Str × Addr)) (fp : List Addr), PG3 (X.blk s H scope (compEnvC scope cl C X.env) fp) tg ps g)
    (ht : ∀ (s : Shared) (H : Hp) (C : Addr) (cl : List (Str × Addr)) (fp : List Addr), PTs3 (X.blk s H scope (compEnvC scope cl C X.env) fp) WF ifs mt)
    (he : ∀ (s : Shared) (H : Hp) (C : Addr) (cl : List (Str × Addr)) (fp : List Addr), PE3 (X.blk s H scope (compEnvC scope cl C X.env) fp) WF elt me)
    (hp : ∀ i ∈ ps, i ∈ own.map (·.2) := by decide) (hs : ∀ x, foldedSetIterable iter X.env x = pure x := by intro _; rfl) : PE3 X W (.ListComp elt [⟨tg, iter, ifs, 0⟩] scope pos) (mComp op mi g mt me (own.map (·.2))) :=
  PE.imp (pe_lc (g := rdG X.K ps g) (tt := rdT X.K WF mt) (te := rdE X.K WF me) hc hN hi ok hg ht he hs) fun sv H Q h => comp3 hp sv H Q h
/-- y = [..] -/
theorem s_setComp (op : Bool) {i : Nat} {y : Str} {py spos : Pos} {elt tg iter : Expr} {ifs : List Expr} {scope : Scope} {own : List (Str × Nat)} {mi : A3} {ps : List Nat} {g : G3} {mt : T3} {me : E3} (hc : X.calm = true) (hN : X.N.Nodup) (hy : X.N[i]? = some y) (hyl : X.env.scope.names.lookup y = some .local)
    (hsw : swapsWith (.ListComp elt [⟨tg, iter, ifs, 0⟩] scope pos) (some (.Name y py)) spos.line X.env = pure true) (hi : PI3 X W tg iter mi) (ok : BlkOk X.N X.env.scope scope own)
    (hg : ∀ (s : Shared) (H : Hp) (C : Addr) (cl : List (Str × Addr)) (fp : List Addr), PG3 (X.blk s H scope (compEnvC scope cl C X.env) fp) tg ps g)
    (ht : ∀ (s : Shared) (H : Hp) (C : Addr) (cl : List (Str × Addr)) (fp : List Addr), PTs3 (X.blk s H scope (compEnvC scope cl C X.env) fp) WF ifs mt)
    (he : ∀ (s : Shared) (H : Hp) (C : Addr) (cl : List (Str × Addr)) (fp : List Addr), PE3 (X.blk s H scope (compEnvC scope cl C X.env) fp) WF elt me)
    (hp : ∀ i ∈ ps, i ∈ own.map (·.2) := by decide) (hs : ∀ x, foldedSetIterable iter X.env x = pure x := by intro _; rfl) :
    PS3 X W (.Assign [.Name y py] (.ListComp elt [⟨tg, iter, ifs, 0⟩] scope pos) spos) (mAsg (mComp op mi g mt me (own.map (·.2))) (g3Name i)) :=
  PS.imp (ps_setLc (g := rdG X.K ps g) (tt := rdT X.K WF mt) (te := rdE X.K WF me) hc hN hy hyl hsw hi ok hg ht he hs) fun B sv H ⟨w, σ, S, l, z, q⟩ =>
    comp3 hp sv H _ ⟨w, σ, S, l, z, HoldS.step l q fun d S1 w1 H1 u x1 z1 r1 q1 => q1 w1 _ H1 (Ext.refl w1) (LRel.set r1 i (l.mono x1)) z1⟩
end
end DL
end

section
set_option Elab.async false
set_option linter.all false
set_option maxRecDepth 100000
set_option maxHeartbeats 4000000
namespace DL
open PySem PySem.Spec PyProof.Rows L2

/-! ### what a def leaves: its own open objects go, a list of them that it tells never changes any more -/
mutual
def closedD (n : Nat) : D → Bool
  | .ref k => decide (k < n)
  | .tup xs => closedA n xs
  | .lst xs => closedA n xs
  | .wl xs => closedA n xs
  | .wt xs => closedA n xs
  | .dct _ xs => closedA n xs
  | _ => true
def closedA (n : Nat) : List D → Bool
  | [] => true
  | d :: ds => closedD n d && closedA n ds
end
def closedF (n : Nat) (fs : List (Str × D)) : Bool := fs.all fun p => closedD n p.2
def Ob.closed (n : Nat) : Ob → Bool
  | .lst xs => closedA n xs
  | .frz xs => closedA n xs
  | .ins _ fs => closedF n fs
def cut (w : Wd) (n : Nat) : Wd := ⟨w.G, w.am.take n, w.hs⟩
section
variable {K : PySem.W.Frag} {w : Wd} {n : Nat}
theorem take_at {α : Type} {l : List α} {n k : Nat} {a : α} (h : l[k]? = some a) (hk : k < n) : (l.take n)[k]? = some a := by
  rw [List.getElem?_take_of_lt hk]; exact h
mutual
theorem rep_cut : ∀ {d : D} {v : V}, closedD n d = true → Rep K w v d → Rep K (cut w n) v d
  | .non, _, _, r => by cases r; exact .non
  | .bl _, _, _, r => by cases r; exact .bl _
  | .int _, _, _, r => by cases r; exact .int _
  | .str _, _, _, r => by cases r; exact .str _
  | .ty _, _, _, r => by cases r; exact .ty _
  | .adr _, _, _, r => by cases r; exact .adr _
  | .dct _ _, _, c, r => by
    cases r with
    | dct h1 hl h2 => exact .dct h1 hl (repA_cut (by simpa [closedD] using c) h2)
  | .err _ none, _, _, r => by
    cases r with
    | err h1 => exact .err h1
  | .err _ (some _), _, _, r => by
    cases r with
    | errN h1 h2 => exact .errN h1 h2
  | .ref k, _, c, r => by
    cases r with
    | ref e => exact .ref (take_at e (by simpa [closedD] using c))
  | .tup xs, _, c, r => by
    cases r with
    | tup h1 h2 => exact .tup h1 (repA_cut (by simpa [closedD] using c) h2)
  | .lst xs, _, c, r => by
    cases r with
    | lst h1 h2 => exact .lst h1 (repA_cut (by simpa [closedD] using c) h2)
  | .wl xs, _, c, r => by
    cases r with
    | wl h1 h2 => exact .wl h1 (repA_cut (by simpa [closedD] using c) h2)
  | .wt xs, _, c, r => by
    cases r with
    | wt h1 h2 => exact .wt h1 (repA_cut (by simpa [closedD] using c) h2)
theorem repA_cut : ∀ {ds : List D} {vs : List V}, closedA n ds = true → RepA K w vs ds → RepA K (cut w n) vs ds
  | [], _, _, r => by cases r; exact .nil
  | d :: ds, _, c, r => by
    cases r with
    | cons h1 h2 =>
      simp only [closedA, Bool.and_eq_true] at c
      exact .cons (rep_cut c.1 h1) (repA_cut c.2 h2)
end
theorem repF_cut : ∀ {fs : List (Str × D)} {fv : List (Str × V)}, closedF n fs = true → RepF K w fv fs → RepF K (cut w n) fv fs
  | [], [], _, _ => trivial
  | (g, d) :: fs, (f, v) :: fv, c, h => by
    simp only [closedF, List.all_cons, Bool.and_eq_true] at c
    exact ⟨h.1, rep_cut c.1 h.2.1, repF_cut (by simpa [closedF] using c.2) h.2.2⟩
mutual
theorem closed_of : ∀ {d : D} {v : V}, Rep K w v d → closedD w.am.length d = true
  | .non, _, _ => by simp [closedD]
  | .bl _, _, _ => by simp [closedD]
  | .int _, _, _ => by simp [closedD]
  | .str _, _, _ => by simp [closedD]
  | .ty _, _, _ => by simp [closedD]
  | .adr _, _, _ => by simp [closedD]
  | .dct _ _, _, r => by
    cases r with
    | dct h1 hl h2 => simpa [closedD] using closedA_of h2
  | .err _ _, _, _ => by simp [closedD]
  | .ref k, _, r => by
    cases r with
    | ref e =>
      simp only [closedD, decide_eq_true_eq]
      exact (List.getElem?_eq_some_iff.mp e).1
  | .tup xs, _, r => by
    cases r with
    | tup h1 h2 => simpa [closedD] using closedA_of h2
  | .lst xs, _, r => by
    cases r with
    | lst h1 h2 => simpa [closedD] using closedA_of h2
  | .wl xs, _, r => by
    cases r with
    | wl h1 h2 => simpa [closedD] using closedA_of h2
  | .wt xs, _, r => by
    cases r with
    | wt h1 h2 => simpa [closedD] using closedA_of h2
theorem closedA_of : ∀ {ds : List D} {vs : List V}, RepA K w vs ds → closedA w.am.length ds = true
  | [], _, _ => rfl
  | d :: ds, _, r => by
    cases r with
    | cons h1 h2 => simp only [closedA, closed_of h1, closedA_of h2, Bool.and_self]
end
theorem closedF_of : ∀ {fs : List (Str × D)} {fv : List (Str × V)}, RepF K w fv fs → closedF w.am.length fs = true
  | [], [], _ => rfl
  | (g, d) :: fs, (f, v) :: fv, h => by
    have := closedF_of h.2.2
    unfold closedF at this ⊢
    rw [List.all_cons, closed_of h.2.1, this]; rfl
theorem closedO_of {H : Hp} {a : Addr} {o : Ob} (r : ObRep K w H a o) : o.closed w.am.length = true := by
  cases o with
  | lst ds => obtain ⟨_, _, _, q⟩ := r; exact closedA_of q
  | ins C fs => obtain ⟨_, _, _, _, q⟩ := r; exact closedF_of q
  | frz ds => obtain ⟨_, _, q⟩ := r; exact closedA_of q
end
def keepOk (S S' : Sto) : Prop := S.length ≤ S'.length ∧ ∀ k, k < S.length → S'[k]? = S[k]? ∨ ∃ o, S'[k]? = some o ∧ o.closed S.length = true
theorem WRel.cut {K : PySem.W.Frag} {w w' : Wd} {S S' : Sto} {H H' : Hp} (z : WRel K w S H) (x : Ext w w') (z' : WRel K w' S' H') (k : keepOk S S') : WRel K (cut w' S.length) (S'.take S.length) H' ∧ Ext w (DL.cut w' S.length) := by
  have hpre : w.am <+: w'.am.take S.length := by
    obtain ⟨r, hr⟩ := x.pre
    rw [← hr, ← z.len, List.take_left' rfl]
    exact List.prefix_refl _
  refine ⟨⟨z'.same, ?_, z'.nd.sublist (List.take_sublist _ _), fun j a o e1 e2 => ?_, fun p hp => ?_, z'.hnd⟩, x.same, hpre, x.hid⟩
  · show (w'.am.take S.length).length = _
    rw [List.length_take, List.length_take, z'.len]
  · have e1' : (w'.am.take S.length)[j]? = some a := e1
    have hj : j < S.length := by
      have := (List.getElem?_eq_some_iff.mp e1').1
      rw [List.length_take] at this
      omega
    rw [List.getElem?_take_of_lt hj] at e1' e2
    have r := z'.obs j a o e1' e2
    have c : o.closed S.length = true := by
      rcases k.2 j hj with h | ⟨o', h, c⟩
      · rw [h] at e2
        have hj' : j < w.am.length := by rw [z.len]; exact hj
        have h3 : w.am[j]? = some w.am[j] := List.getElem?_eq_getElem hj'
        have := closedO_of (z.obs j _ o h3 e2)
        rw [z.len] at this
        exact this
      · rw [h] at e2; cases e2; exact c
    cases o with
    | lst ds => obtain ⟨g, vs, e, q⟩ := r; exact ⟨g, vs, e, repA_cut c q⟩
    | ins C fs => obtain ⟨g, dx, fv, e, q⟩ := r; exact ⟨g, dx, fv, e, repF_cut c q⟩
    | frz ds => obtain ⟨vs, e, q⟩ := r; exact ⟨vs, e, repA_cut c q⟩
  · obtain ⟨e, g, m⟩ := z'.hid p hp
    exact ⟨e, g, fun hm => m (List.mem_of_mem_take hm)⟩
open Classical in
noncomputable def fin (S : Sto) (d : D) (S' : Sto) : Rs D :=
  if S'.length = S.length then .ok d S'
  else if keepOk S S' then
    (if closedD S.length d = true then .ok d (S'.take S.length) else (match d with
      | .ref k => (match S'[k]? with
        | some (.lst ds) => if closedA S.length ds = true then .ok (.lst ds) (S'.take S.length) else .bad
        | some (.frz ds) => if closedA S.length ds = true then .ok (.lst ds) (S'.take S.length) else .bad
        | _ => .bad)
      | _ => .bad))
  else .bad
def closedP (n : Nat) : Pay → Bool
  | none => true
  | some fs => closedF n fs
open Classical in
noncomputable def finX (S : Sto) (C : Addr) (p : Pay) (S' : Sto) : Rs D :=
  if S'.length = S.length then .exc C p S'
  else if keepOk S S' then (if closedP S.length p = true then .exc C p (S'.take S.length) else .bad)
  else .bad
/-- the function of a def: keep: what it makes stays open (as a list that is handed back and written later) -/
noncomputable def defF (keep : Bool) (extra : Nat) (m : S3) : C3 := fun ds S => match m (ds.map some ++ List.replicate extra none) S with
  | .go (.ret d) _ S' => if keep then .ok d S' else fin S d S'
  | .go .next _ S' => if keep then .ok .non S' else fin S .non S'
  | .exc C p _ S' => if keep then .exc C p S' else finX S C p S'
  | _ => .bad
section
variable {K : PySem.W.Frag} {W : WX} {sv : L2.St} {w w' : Wd} {S S' : Sto} {H H' : Hp} {Q : VK} {d : D} {v : V}
theorem fin_s (z : WRel K w S H) (x : Ext w w') (z' : WRel K w' S' H') (r : Rep K w' v d) (h : Hold K W sv (Rep K) w Q (fin S d S')) : Q v H' := by
  unfold fin at h
  by_cases h1 : S'.length = S.length
  · rw [if_pos h1] at h
    exact h w' H' v x z' r
  · rw [if_neg h1] at h
    by_cases h2 : keepOk S S'
    · rw [if_pos h2] at h
      obtain ⟨z2, x2⟩ := z.cut x z' h2
      by_cases h3 : closedD S.length d = true
      · rw [if_pos h3] at h
        exact h _ H' v x2 z2 (rep_cut h3 r)
      · rw [if_neg h3] at h
        cases d with
        | ref k =>
          cases r with
          | ref e =>
            rename_i a
            obtain ⟨o, _, e1, q, _⟩ := z'.there e
            simp only [e1] at h
            have hk : ¬ k < S.length := fun q => h3 (by simpa [closedD] using q)
            have hna : a ∉ w'.am.take S.length := fun hm => by
              obtain ⟨j, ej⟩ := List.getElem?_of_mem hm
              have hj : j < S.length := by
                have := (List.getElem?_eq_some_iff.mp ej).1
                rw [List.length_take] at this
                omega
              rw [List.getElem?_take_of_lt hj] at ej
              exact hk (nd_ix z'.nd e ej ▸ hj)
            have fz : ∀ vs ds, H' a = some (.lst vs) → RepA K w' vs ds → (w'.G a = none ∨ w'.G a = some (.lst vs)) → Hold K W sv (Rep K) w Q (if closedA S.length ds = true then .ok (.lst ds) (S'.take S.length) else .bad) → Q (.ref a) H' := fun vs ds eH ra hg h => by
              by_cases h4 : closedA S.length ds = true
              · rw [if_pos h4] at h
                have x3 : Ext (DL.cut w' S.length) ((DL.cut w' S.length).put a (.lst vs)) := ⟨fun b u eb => by
                  show upd w'.G a _ b = _
                  by_cases hb : b = a
                  · subst hb
                    have eb' : w'.G b = some u := eb
                    rcases hg with hg | hg
                    · rw [hg] at eb'; cases eb'
                    · rw [hg] at eb'; cases eb'; exact upd_same
                  · rw [upd_ne hb]; exact eb, List.prefix_refl _, rfl⟩
                refine h ((DL.cut w' S.length).put a (.lst vs)) H' _ (x2.trans x3) ⟨fun b u eb => ?_, z2.len, z2.nd, fun j b ob f1 f2 => ?_, fun p hp => ?_, z2.hnd⟩ (.lst upd_same ((repA_cut h4 ra).mono x3))
                · have eb' : upd w'.G a (.lst vs) b = some u := eb
                  by_cases hb : b = a
                  · subst hb; rw [upd_same] at eb'; cases eb'; exact eH
                  · rw [upd_ne hb] at eb'; exact z'.same _ _ eb'
                · have hb : b ≠ a := fun q => hna (q ▸ List.mem_of_getElem? f1)
                  exact (z2.obs j b ob f1 f2).stay x3 (fun g => by show upd w'.G a _ b = none; rw [upd_ne hb]; exact g) fun u e => e
                · obtain ⟨e', g, m⟩ := z2.hid p hp
                  have hp' : p.1 ≠ a := fun q => (z'.hid p hp).2.2 (q ▸ List.mem_of_getElem? e)
                  exact ⟨e', by show upd w'.G a _ p.1 = none; rw [upd_ne hp']; exact g, m⟩
              · rw [if_neg h4] at h; exact False.elim h
            cases o with
            | lst ds => obtain ⟨g, vs, e2, ra⟩ := q; exact fz vs ds e2 ra (.inl g) h
            | frz ds => obtain ⟨vs, e2, ra⟩ := q; exact fz vs ds (z'.same _ _ e2) ra (.inr e2) h
            | ins C fs => exact False.elim h
        | _ => exact False.elim h
    · rw [if_neg h2] at h; exact False.elim h
theorem finX_s {C : Addr} {p : Pay} {dx : Option Addr} (z : WRel K w S H) (x : Ext w w') (z' : WRel K w' S' H') (r : PayRep K w' H' p dx) (h : Hold K W sv (Rep K) w Q (finX S C p S')) : W (.ref C) dx sv H' := by
  unfold finX at h
  by_cases h1 : S'.length = S.length
  · rw [if_pos h1] at h
    exact h w' H' dx x z' r
  · rw [if_neg h1] at h
    by_cases h2 : keepOk S S'
    · rw [if_pos h2] at h
      obtain ⟨z2, x2⟩ := z.cut x z' h2
      by_cases h3 : closedP S.length p = true
      · rw [if_pos h3] at h
        refine h _ H' dx x2 z2 ?_
        cases p with
        | none => exact r
        | some fs =>
          obtain ⟨d, fv, e1, e2, q⟩ := r
          exact ⟨d, fv, e1, e2, repF_cut h3 q⟩
      · rw [if_neg h3] at h; exact False.elim h
    · rw [if_neg h2] at h; exact False.elim h
end
end DL
end

section
set_option Elab.async false
set_option linter.all false
set_option maxRecDepth 100000
set_option maxHeartbeats 4000000
namespace DL
open PySem PySem.Spec PyProof.Rows L2

/-! ### defs and their calls -/
structure RoomG (k : Nat) (A : Around) : Prop where
  room : Room k A
  free : A.guards = some []
theorem RoomG.mono {j k : Nat} {A : Around} (r : RoomG k A) (h : j ≤ k) : RoomG j A := ⟨r.room.mono h, r.free⟩
theorem RoomG.deeper {k : Nat} {A : Around} (r : RoomG (k + 1) A) (env : Env) : RoomG k (A.deeper env) := ⟨r.room.deeper env, r.free⟩
abbrev outW (E : XK) : WX := fun c d _ H => E c d H
/-- the def at f does to data what F says -/
structure FnOk3 (P : Program) (w : World) (K : PySem.W.Frag) (mg : Str → Option Value) (base : Heap) (k : Nat) (f : Addr) (fd : FuncData) (ps : List Str) (F : C3) : Prop where
  run : ∀ (A : Around) (outer : List Env) (s : Shared) (H : Hp) (args : Args) (us : List Value) (vs : List V) (Q : VK) (E : XK) (wd : Wd) (ds : List D) (S : Sto),
    RoomG k A → Env0 P w K mg base A outer s H → BindsTo s fd args (ps.zip us) → Vals vs us → vs.length = ps.length →
    RepA K wd vs ds → WRel K wd S H → Hold K (outW E) [] (Rep K) wd Q (F ds S) →
    codeAny (model P w) A (.call (.ref f) args) (CR (L2.CX P w) outer P w H s Q E) s
theorem FnOk3.mono {P : Program} {w : World} {K : PySem.W.Frag} {mg : Str → Option Value} {base : Heap} {j k : Nat} {f : Addr} {fd : FuncData} {ps : List Str} {F : C3}
    (h : FnOk3 P w K mg base j f fd ps F) (q : j ≤ k) : FnOk3 P w K mg base k f fd ps F :=
  ⟨fun A outer s H args us vs Q E wd ds S r => h.run A outer s H args us vs Q E wd ds S (r.mono q)⟩
/-- .. by its mirror -/
theorem FnOk3.as {P : Program} {w : World} {K : PySem.W.Frag} {mg : Str → Option Value} {base : Heap} {k : Nat} {f : Addr} {fd : FuncData} {ps : List Str} {F F' : C3}
    (h : FnOk3 P w K mg base k f fd ps F) (q : ∀ ds S, F' ds S = .bad ∨ F ds S = F' ds S) : FnOk3 P w K mg base k f fd ps F' :=
  ⟨fun A outer s H args us vs Q E wd ds S r e b rv hl ra z hh => h.run A outer s H args us vs Q E wd ds S r e b rv hl ra z (by
    rcases q ds S with q | q
    · rw [q] at hh; exact False.elim hh
    · rw [q]; exact hh)⟩

section
variable {P : Program} {w : World} {K : PySem.W.Frag} {mg : Str → Option Value} {base : Heap}
/-- a def of the text: its body's term m; keep: what it makes stays open -/
theorem fn3x (keep : Bool) {x qual : Str} {st : Stmt} {f : Addr} {fd : FuncData} {N ps : List Str} {k : Nat} {m : S3} (ex : ∃ (oc : Value) (od : Option Addr) (dV kV doc pm : Value) (an : Option Addr) (cdv ct : Value) (osl : Array (Option Value)), fd = PySem.W.fnOf x qual (defArgs st) (defBody st) (defScope st) dV kV doc pm an cdv ct ∧ K.lookup f = some ⟨oc, od, .func fd, osl⟩ ∧ PySem.W.codeIn K cdv qual = true) (sc : FnScope N ps (defScope st))
    (body : ∀ (cdv : Value) (A : Around) (outer : List Env) (s : Shared) (H : Hp) (E : XK), RoomG k (A.deeper (envOfC qual (defScope st) s.heap.objs.size f cdv)) →
      PSs3 (cxOf (L2.CX P w) P w K mg base N qual (defScope st) f cdv A outer s H E) (outW E) (defBody st) m) :
    FnOk3 P w K mg base (k + 1) f fd ps (defF keep (N.length - ps.length) m) := by
  obtain ⟨oc, od, dV, kV, doc, pm, an, cdv, ct, osl, rfl, lk, hcd⟩ := ex
  refine ⟨fun A outer s H args us vs Q E wd ds S hr e0 hb rv hl ra z hh => ?_⟩
  have KX : K.In s.heap := e0.mod.kin.keeps fun b o q => (e0.bs b o q).1
  have lim : s.heap.NoLimit := e0.mod.nolimit.keeps fun b o q => (e0.bs b o q).1
  have kinds : ∀ y ∈ ps.zip us, (defScope st).names.lookup y.1 = some .local ∨
      ((defScope st).names.lookup y.1 = some .cell ∧ ((cellsFrom (s.heap.objs.size + 1) (defScope st).names []).lookup y.1).isSome = true) := by
    rintro ⟨n, v⟩ hy
    rcases sc.par n (List.of_mem_zip hy).1 with q | q
    · exact Or.inl q
    · exact Or.inr ⟨q, PySem.W.cellsFrom_some _ _ _ (Or.inl q)⟩
  refine codeAny_call_function hr.room.depth (KX _ _ lk) rfl sc.co sc.gen rfl (PySem.W.codeRec_of KX hcd) (hb _ _ _ _ ?_)
  refine wpAny_newFunctionEnv_cells sc.kind kinds fun env he s1 hx => ?_
  subst he
  refine ⟨lim.keeps hx.toInCall.keep, codeAny_func ?_⟩
  have t := body cdv A outer s H E (hr.deeper _)
  have I : Inv (cxOf (L2.CX P w) P w K mg base N qual (defScope st) f cdv A outer s H E) [] (L2.start N vs) H s1 := inv_start sc hr.room.hd e0 hl rv hx
  have hds : ds.length = ps.length := ra.length.symm.trans hl
  have l0 : LRel K wd (ds.map some ++ List.replicate (N.length - ps.length) none) (L2.start N vs) := by
    unfold L2.start
    rw [hl]
    exact LRel.start _ ra
  have hq : rdS K (outW E) m { nx := fun _ H' => Q .non H', rt := Q } (L2.start N vs) H := by
    refine ⟨wd, _, S, l0, z, ?_⟩
    unfold defF at hh
    cases em : m (ds.map some ++ List.replicate (N.length - ps.length) none) S with
    | bad => rw [em] at hh; exact False.elim hh
    | exc C p σ' S' =>
      rw [em] at hh
      cases keep with
      | true => exact fun w' s' H' dx y _ z' r => hh w' H' dx y z' r
      | false => exact fun w' s' H' dx y _ z' r => finX_s (sv := []) (W := outW E) z y z' r hh
    | go fl σ' S' =>
      rw [em] at hh
      cases fl with
      | next =>
        cases keep with
        | true => exact fun w' s' H' y _ z' => hh w' H' .non y z' .non
        | false => exact fun w' s' H' y _ z' => fin_s z y z' .non hh
      | ret d =>
        cases keep with
        | true => exact fun w' H' v y z' r => hh w' H' v y z' r
        | false => exact fun w' H' v y z' r => fin_s z y z' r hh
      | brk => exact False.elim hh
      | cont => exact False.elim hh
  refine wpAny_mono (t.run [] s1 (L2.start N vs) H _ I hq) (fun fl s' hs => ?_) fun e s' hs => hs
  have done : ∀ {σ' : L2.St} {H' : Hp} {v : V} {u : Value}, Inv (cxOf (L2.CX P w) P w K mg base N qual (defScope st) f cdv A outer s H E) [] σ' H' s' → RelV v u → Q v H' → CE outer P w H s Q u s' := by
    intro σ' H' v u J r q
    exact ⟨v, H', J.os, J.bare, J.base, J.hok, r, q⟩
  cases fl with
  | next =>
    obtain ⟨_, _, J, q⟩ := hs
    exact done (v := .non) (u := .none) J rfl q
  | ret u =>
    obtain ⟨v, _, H', J, r, q⟩ := hs
    exact done J r q
  | brk =>
    obtain ⟨_, _, _, q⟩ := hs
    exact q.elim
  | cont =>
    obtain ⟨_, _, _, q⟩ := hs
    exact q.elim
theorem fn3 (keep : Bool) {x qual : Str} {st : Stmt} {f : Addr} {fd : FuncData} {N ps : List Str} {k : Nat} {m : S3} (F : Fun K x qual st f fd) (sc : FnScope N ps (defScope st))
    (body : ∀ (cdv : Value) (A : Around) (outer : List Env) (s : Shared) (H : Hp) (E : XK), RoomG k (A.deeper (envOfC qual (defScope st) s.heap.objs.size f cdv)) →
      PSs3 (cxOf (L2.CX P w) P w K mg base N qual (defScope st) f cdv A outer s H E) (outW E) (defBody st) m) :
    FnOk3 P w K mg base (k + 1) f fd ps (defF keep (N.length - ps.length) m) :=
  fn3x keep (let ⟨oc, od, kV, doc, pm, an, cdv, ct, osl, h1, h2, h3⟩ := F.ex; ⟨oc, od, .none, kV, doc, pm, an, cdv, ct, osl, h1, h2, h3⟩) sc body
end

section
variable {X : Cx} {W : WX} {k : Nat} {f : Addr} {fd : FuncData} {ps : List Str} {F : C3} {x : Str} {p pos : Pos} {e : Expr} {es : List Expr} {ms : A3} {dv : List V} {dd : List D} {du : List Value}
theorem run3 {pins : List (Addr × Obj)} {σ : L2.St} {H : Hp} {s : Shared} {Q : VK} {us : List Value} {vs : List V} {wd : Wd} {ds : List D} {S : Sto} (G : FnOk3 X.prog X.w X.K X.mg X.base k f fd ps F) (hr : RoomG k X.A) (tk : Takes X W)
    (hb : Binds X.K fd ps du) (hd : Vals dv du) (hl : (vs ++ dv).length = ps.length) (I : Inv X pins σ H s) (r : Vals vs us) (ra : RepA X.K wd (vs ++ dv) ds) (z : WRel X.K wd S H) (h : Hold X.K W σ (Rep X.K) wd Q (F ds S)) :
    wpAny (model X.prog X.w) X.A (call (.ref f) us) (EP X pins σ Q) X.xe s := by
  have r2 : Vals (vs ++ dv) (us ++ du) := r.append hd
  have hl2 : (us ++ du).length = ps.length := by rw [← r2.length]; exact hl
  have hh : Hold X.K (outW fun c d H => W c d σ H) [] (Rep X.K) wd Q (F ds S) := by
    cases q : F ds S with
    | ok d S' => rw [q] at h; exact h
    | exc C p S' => rw [q] at h; exact h
    | bad => rw [q] at h; exact h
  refine wpAny_call (codeAny_mono (G.run X.A X.stack s H ⟨us, []⟩ (us ++ du) (vs ++ dv) Q _ wd ds S hr I.env0 (hb s us I.kIn hl2) r2 hl ra z hh) fun res s' q => ?_)
  cases res with
  | error err => exact passAt tk σ pins H s err s' I q
  | ok fl =>
    cases fl with
    | ret u => exact I.after q
    | next => exact q.elim
    | brk => exact q.elim
    | cont => exact q.elim
def withLen (n : Nat) (F : C3) : C3 := fun ds S => if ds.length = n then F ds S else .bad
theorem e_callD (G : FnOk3 X.prog X.w X.K X.mg X.base k f fd ps F) (hr : RoomG k X.A) (tk : Takes X W) (hg : Gl X x) (hm : X.mg x = some (.ref f)) (hk : PySem.W.keepIn X.K (.ref f) = true)
    (hb : Binds X.K fd ps du) (hd : Vals dv du) (hdd : ∀ w, RepA X.K w dv dd) (ha : PA3 X W (e :: es) ms)
    (hdb : (x == ("__debug__" : Str)) = false := by decide) (he : starEach (e :: es) X.env = (false, eval e X.env) :: starEach es X.env := by rfl) (hpl : (backTo pos (starEach es X.env)).any (·.1) = false := by rfl) :
    PE3 X W (.Call (.Name x p) (e :: es) [] pos) (mMake (fun ds => withLen ps.length F (ds ++ dd)) ms) := by
  refine ⟨fun pins s σ H Q I h => ?_⟩
  obtain ⟨wd, l, S, lr, z, q⟩ := h
  refine wpAny_Call_Name_kw (ld_glob I hg hm ?_ hdb)
  refine PySem.W.callWith_K (h₀ := X.base) I.ok.mod.kin hk ?_ he hpl
  refine thn (ha.run pos pins s σ H (fun vs H1 => ∃ w1 ds S1, RepA X.K w1 vs ds ∧ WRel X.K w1 S1 H1 ∧ Hold X.K W σ (Rep X.K) w1 Q (withLen ps.length F (ds ++ dd) S1)) I ⟨wd, l, S, lr, z, ?_⟩) ?_
  · exact Hold.step q fun ds S1 w1 H1 vs x1 z1 r1 q1 => ⟨w1, ds, S1, r1, z1, q1⟩
  · rintro us s1 ⟨vs, H1, I1, r, w1, ds, S1, ra, z1, q1⟩
    refine ⟨I1.kIn, ?_⟩
    unfold withLen at q1
    by_cases hl : (ds ++ dd).length = ps.length
    · rw [if_pos hl] at q1
      have ra2 := ra.append (hdd w1)
      exact run3 G hr tk hb hd (ra2.length.trans hl) I1 r ra2 z1 q1
    · rw [if_neg hl] at q1; exact False.elim q1
/-- f(e, ..), all arguments written -/
theorem e_call (G : FnOk3 X.prog X.w X.K X.mg X.base k f fd ps F) (hr : RoomG k X.A) (tk : Takes X W) (hg : Gl X x) (hm : X.mg x = some (.ref f)) (hk : PySem.W.keepIn X.K (.ref f) = true)
    (hb : Binds X.K fd ps []) (ha : PA3 X W (e :: es) ms) (hn : (e :: es).length = ps.length) (hlen : ∀ σ S ds S', ms σ S = .ok ds S' → ds.length = (e :: es).length)
    (hdb : (x == ("__debug__" : Str)) = false := by decide) (he : starEach (e :: es) X.env = (false, eval e X.env) :: starEach es X.env := by rfl) (hpl : (backTo pos (starEach es X.env)).any (·.1) = false := by rfl) :
    PE3 X W (.Call (.Name x p) (e :: es) [] pos) (mMake F ms) := by
  have h := e_callD (dv := []) (dd := []) (du := []) (p := p) (pos := pos) G hr tk hg hm hk hb .nil (fun _ => .nil) ha hdb he hpl
  refine PE.imp h fun sv H Q ⟨w, σ, S, l, z, q⟩ => ⟨w, σ, S, l, z, ?_⟩
  unfold mMake at q ⊢
  cases ea : ms σ S with
  | bad => rw [ea] at q; exact q
  | exc C p S' => rw [ea] at q; exact q
  | ok ds S' =>
    rw [ea] at q
    have hl := hlen σ S ds S' ea
    show Hold X.K W sv (Rep X.K) w Q (withLen ps.length F (ds ++ []) S')
    unfold withLen
    rw [List.append_nil, if_pos (hl.trans hn)]
    exact q
theorem len_nil {σ : Loc} {S : Sto} {ds : List D} {S' : Sto} (h : mNil σ S = .ok ds S') : ds.length = 0 := by
  cases h; rfl
theorem len_cons {a : E3} {r : A3} {n : Nat} (hr : ∀ σ S ds S', r σ S = .ok ds S' → ds.length = n) (σ : Loc) (S : Sto) (ds : List D) (S' : Sto) (h : mCons a r σ S = .ok ds S') : ds.length = n + 1 := by
  unfold mCons at h
  cases ea : a σ S with
  | bad => rw [ea] at h; cases h
  | exc C p S1 => rw [ea] at h; cases h
  | ok d S1 =>
    rw [ea] at h
    cases er : r σ S1 with
    | bad => simp only [Rs.bind_ok, er] at h; cases h
    | exc C p S2 => simp only [Rs.bind_ok, er] at h; cases h
    | ok es S2 =>
      simp only [Rs.bind_ok, er] at h
      cases h
      rw [List.length_cons, hr σ S1 es _ er]
end

/-! ### a law -/
theorem repInts {K : PySem.W.Frag} {w : Wd} : ∀ ns : List Int, RepA K w (ns.map V.int) (ns.map D.int)
  | [] => .nil
  | n :: ns => .cons (.int n) (repInts ns)
section
variable {P : Program} {w : World} {K : PySem.W.Frag} {mg mb : Str → Option Value} {k : Nat} {fa a : Addr} {fd : FuncData} {x : Str} {F : C3} {s1 : Shared} {vs : List Value} {ns : List Int}
theorem law3 (KX : K.In s1.heap) (hns : s1.heap.Ns mainGlobals mg) (hb : s1.heap.Ns builtinsNs mb) (hbb : ∀ x : Str, x ≠ "__name__" → mb x = bootBuiltins x) (hlim : s1.heap.NoLimit) (hg : s1.gens = #[])
    (ha : s1.heap.get? a = some { cls := .type "list", data := .seq vs.toArray }) (hi : IntsAre vs ns) (hl : ns.length ≤ sizeLine) (hr : RoomG k callerA)
    (G : ∀ base : Heap, K.In base → base.Ns mainGlobals mg → FnOk3 P w K mg base k fa fd [x] F) (hbind : ∀ (s : Shared) (u : Value), BindsTo s fd ⟨[u], []⟩ [(x, u)])
    (hF : ∃ S', F [.wl (ns.map D.int)] [] = .ok (.bl true) S') :
    codeAny (model P w) callerA (.call (.ref fa) ⟨[.ref a], []⟩) (fun r s' => r = .ok (.ret (.bool true)) ∧ OldK s1.heap s'.heap ∧ s'.os = s1.os ∧ AllBare s'.gens) s1 := by
  have rv := vals_ints hi
  have core : ∀ H : Hp, Only H → SqL K H a (ns.map V.int) → HOk P w H s1.heap → (∀ b, H b ≠ none → b = a) → (H a ≠ none → K.lookup a = none) →
      codeAny (model P w) callerA (.call (.ref fa) ⟨[.ref a], []⟩)
        (fun r s' => r = .ok (.ret (.bool true)) ∧ OldK s1.heap s'.heap ∧ s'.os = s1.os ∧ AllBare s'.gens) s1 := by
    intro H hO hS hok hA hK
    have at_a : ∀ {b : Addr}, H b = none ∨ b = a := fun {b} => by
      cases q : H b with
      | none => exact Or.inl rfl
      | some u => exact Or.inr (hA b (by rw [q]; exact fun z => nomatch z))
    have dictFree : ∀ {b : Addr} {o : Obj} {en : Array DictEntry} {ep : Nat}, s1.heap.get? b = some o → o.data = .dict en ep → H b = none := by
      intro b o en ep e d
      rcases at_a (b := b) with q | q
      · exact q
      · subst q
        rw [ha] at e; cases e
        exact nomatch (show Data.seq vs.toArray _ = Data.dict en ep from d)
    have nsK : ∀ {b : Addr} {m : Str → Option Value}, s1.heap.Ns b m → (hidT s1.heap H).Ns b m := by
      rintro b m ⟨o, en, ep, e, d, r⟩
      exact ⟨o, en, ep, hidT_get e (dictFree e d), d, r⟩
    have hKb : K.In (hidT s1.heap H) := fun b o e => hidT_get (KX b o e) (by
      rcases at_a (b := b) with q | q
      · exact q
      · subst q
        cases q2 : H b with
        | none => rfl
        | some u => rw [hK (by rw [q2]; exact fun z => nomatch z)] at e; cases e)
    have hM : Mod K mg (hidT s1.heap H) := by
      obtain ⟨mc, l1, l2⟩ := hlim
      exact ⟨hKb, nsK hns, ⟨mb, nsK hb, hbb⟩, mc, nsK l1, l2⟩
    have e0 : Env0 P w K mg (hidT s1.heap H) callerA [] s1 H := ⟨rfl, hM, fun b o e => of_hidT e, Nat.le_of_eq (hidT_size _ _), trivial, (fun b z => nomatch (show b ∈ ([] : List Addr) from z)), hok, .of_eq hg⟩
    have z0 : WRel K ⟨H, [], []⟩ [] H := ⟨Same.refl _, rfl, List.nodup_nil, (fun k b o e => by simp at e), (fun p z => nomatch z), List.nodup_nil⟩
    have r0 : RepA K ⟨H, [], []⟩ [V.ref a] [D.wl (ns.map D.int)] := .cons (.wl hS (repInts ns)) .nil
    obtain ⟨S', eF⟩ := hF
    have h0 : Hold K (outW fun _ _ _ => False) [] (Rep K) ⟨H, [], []⟩ (fun v _ => v = .bl true) (F [.wl (ns.map D.int)] []) := by
      rw [eF]
      intro w' H' v _ _ r
      cases r; rfl
    refine codeAny_mono ((G _ hKb (nsK hns)).run callerA [] s1 H ⟨[.ref a], []⟩ [.ref a] [.ref a] _ _ _ _ _ hr e0 (hbind s1 (.ref a)) (.cons rfl .nil) rfl r0 z0 h0) fun res s' h => ?_
    cases res with
    | error err =>
      obtain ⟨_, _, _, _, _, _, _, _, _, _, _, _, z⟩ := h
      exact z.elim
    | ok fl =>
      cases fl with
      | ret u =>
        obtain ⟨v, H', os, bare, un, hok', r, q⟩ := h
        have q' : v = .bl true := q
        subst q'
        obtain rfl : u = Value.bool true := r
        refine ⟨rfl, OldK.of_keep (fun b o e => ?_), os, bare⟩
        rcases hO b with q | ⟨ob, xs, q⟩
        · exact un.keep b o e q (fun z => nomatch (show b ∈ ([] : List Addr) from z)) (fun z => nomatch z)
        · obtain ⟨e1, _⟩ := hok b _ q
          obtain ⟨e2, _⟩ := hok' b _ (un.frzs b ob _ q)
          rw [e] at e1; cases e1
          exact e2
      | next => exact h.elim
      | brk => exact h.elim
      | cont => exact h.elim
  cases hk : K.lookup a with
  | some o =>
    have e := KX a o hk
    rw [ha] at e
    cases e
    refine core (fun _ => none) (fun _ => Or.inl rfl) (Or.inr ⟨_, vs.toArray, _, hk, rfl, rfl, rfl, ?_, by simpa using rv⟩) (fun b u z => nomatch z) (fun b z => absurd rfl z) fun z => absurd rfl z
    rw [List.size_toArray, hi.length]; exact hl
  | none =>
    let H0 : Hp := fun b => if b = a then some (.frz { cls := .type "list", data := .seq vs.toArray } (.lst (ns.map V.int))) else none
    have h1 : H0 a = some (.frz { cls := .type "list", data := .seq vs.toArray } (.lst (ns.map V.int))) := if_pos rfl
    have h2 : ∀ b, b ≠ a → H0 b = none := fun b hb => if_neg hb
    refine core H0 (fun b => ?_) (Or.inl (Or.inr ⟨_, h1⟩)) (fun b u z => ?_) (fun b z => ?_) fun _ => hk
    · by_cases hb : b = a
      · subst hb; exact Or.inr ⟨_, _, h1⟩
      · exact Or.inl (h2 b hb)
    · by_cases hb : b = a
      · subst hb
        rw [h1] at z; cases z
        exact ⟨ha, by rw [List.length_map]; exact hl, vs, _, rv, ha⟩
      · rw [h2 b hb] at z; cases z
    · by_cases hb : b = a
      · exact hb
      · exact absurd (h2 b hb) z
end
/-- the goal that the head leaves -/
theorem walk3 {l : PySem.W.OpenLaw} {n k : Nat} {q : Program} {loose : List Str} {XP : (Str → Option Value) → Heap → Prop} {YP : World → Heap → Prop} {d : DefRec} {K : Params → PySem.W.Frag} {F : C3} {x : Str}
    (hn : l.most = some n) (hn2 : n ≤ sizeLine) (hdf : d.params.defaults = []) (hr : RoomG k callerA) (hY : ∀ (w : World) (h : Heap), YP w h → (K w.params).In h)
    (G : ∀ (w : World) (mg : Str → Option Value) (fa : Addr) (h : Heap), (K w.params).In h → h.Ns mainGlobals mg → mg d.name = some (.ref fa) →
      ∃ fd : FuncData, (∀ (s : Shared) (u : Value), BindsTo s fd ⟨[u], []⟩ [(x, u)]) ∧
        ∀ base : Heap, (K w.params).In base → base.Ns mainGlobals mg → FnOk3 l.prog w (K w.params) mg base k fa fd [x] F)
    (hF : ∀ ns : List Int, ns.length ≤ n → ∃ S', F [.wl (ns.map D.int)] [] = .ok (.bl true) S') :
    PySem.W.WalkO q loose XP YP l.row.toRowW d [] (fun f vs => PySem.call f vs) := by
  refine Att.attach_call hn hdf ?_
  intro w s0 s1 mg mb fa o pm cd doc a vs ns Gr Y ho hd hcd hmg hobj hints hlen hg
  have KX := hY w _ Y
  obtain ⟨fd, hb, hG⟩ := G w mg fa _ KX Gr.T.g hmg
  exact law3 KX Gr.T.g Gr.T.b Gr.T.builtins Gr.T.nolimit hg hobj hints (Nat.le_trans hlen hn2) hr hG hb (hF ns hlen)
end DL
end

section
set_option Elab.async false
set_option linter.all false
set_option maxRecDepth 100000
set_option maxHeartbeats 4000000
namespace DL
open PySem PySem.Spec PyProof.Rows L2

/-! ### isinstance of built-in classes -/
def tyD (S : Sto) : D → Option String
  | .non => some "NoneType"
  | .bl _ => some "bool"
  | .int _ => some "int"
  | .str _ => some "str"
  | .tup _ => some "tuple"
  | .lst _ => some "list"
  | .ref k => match S[k]? with
    | some (.lst _) => some "list"
    | some (.frz _) => some "list"
    | _ => none
  | .wt _ => some "tuple"
  | .dct _ _ => some "dict"
  | _ => none
theorem tyD_s {K : PySem.W.Frag} {w : Wd} {S : Sto} {H : Hp} {v : V} {d : D} {t : String} (z : WRel K w S H) (r : Rep K w v d) (e : tyD S d = some t) : TyX K H v (.type t) := by
  cases d with
  | non => cases r; cases e; exact .base .non
  | bl b => cases r; cases e; exact .base (.bl b)
  | int i => cases r; cases e; exact .base (.int i)
  | str x => cases r; cases e; exact .base (.str x)
  | tup xs =>
    cases r with
    | tup h1 h2 => cases e; exact .base (.tup (z.same _ _ h1))
  | lst xs =>
    cases r with
    | lst h1 h2 => cases e; exact .base (.lst (z.same _ _ h1))
  | ref k =>
    cases r with
    | ref h1 =>
      obtain ⟨o, u, e1, q, _⟩ := z.there h1
      have e' : (match S[k]? with
        | some (.lst _) => some "list"
        | some (.frz _) => some "list"
        | _ => none) = some t := e
      rw [e1] at e'
      cases o with
      | lst zs =>
        cases e'
        obtain ⟨_, vs, e2, q⟩ := q
        exact .base (.lst e2)
      | frz zs =>
        cases e'
        obtain ⟨vs, e2, q⟩ := q
        exact .base (.lst (z.same _ _ e2))
      | ins C fs => cases e'
  | dct ks xs =>
    cases r with
    | dct h1 hl h2 => cases e; exact .base (.dK (z.same _ _ h1))
  | wt xs =>
    cases r with
    | wt h1 h2 =>
      cases e
      rcases seqT z.same h1 with h | ⟨o, its, n, h, c, _⟩
      · rcases h with h | ⟨o, h⟩
        · exact .base (.tup h)
        · exact .fTuple h
      · exact .kTuple h c
  | _ => cases e
/-- of one of several -/
def tysOf : List D → Option (List String)
  | [] => some []
  | d :: ds => match d, tysOf ds with
    | .ty n, some ns => some (n :: ns)
    | _, _ => none
def kitS (t : String) : List String → Option Bool
  | [] => some false
  | n :: r => match kitB t n with
    | some true => some true
    | some false => kitS t r
    | none => none
def isi (d c : D) (S : Sto) : Rs D := match tyD S d with
  | some t => (match c with
    | .ty n => (match kitB t n with
      | some b => .ok (.bl b) S
      | none => .bad)
    | .tup cs => (match (tysOf cs).bind (kitS t) with
      | some b => .ok (.bl b) S
      | none => .bad)
    | _ => .bad)
  | none => .bad
def fIsi : C3 := c2 isi
theorem tysOf_s {K : PySem.W.Frag} {w : Wd} : ∀ {cs : List D} {us : List V} {ns : List String}, RepA K w us cs → tysOf cs = some ns → Paired ClsV us (ns.map Value.type)
  | [], _, _, r, e => by cases r; cases e; exact .nil
  | c :: cs, _, _, r, e => by
    cases r with
    | cons r1 r2 =>
      unfold tysOf at e
      cases c with
      | ty n =>
        cases q : tysOf cs with
        | none => rw [q] at e; cases e
        | some ns =>
          rw [q] at e
          cases e
          cases r1
          exact .cons (.ty n) (tysOf_s r2 q)
      | _ => cases q : tysOf cs <;> rw [q] at e <;> cases e
theorem kitS_s {K : PySem.W.Frag} {t : String} : ∀ {ns : List String} {b : Bool}, kitS t ns = some b → PySem.W.kitAny K (.type t) (ns.map Value.type) = some b
  | [], _, e => by cases e; exact kitAny_nil
  | n :: ns, b, e => by
    unfold kitS at e
    cases q : kitB t n with
    | none => rw [q] at e; cases e
    | some k =>
      rw [q] at e
      cases k with
      | true =>
        cases e
        exact kitAny_cons (kit_ty q) (fun z => nomatch z) fun _ => rfl
      | false => exact kitAny_cons (kit_ty q) (fun _ => kitS_s e) fun z => nomatch z
theorem fIsi_s {K : PySem.W.Frag} : CallS K (fun xs H Q => rIsi K xs H Q ∨ rIsiT K xs H Q) fIsi := c2_s fun W sv w u v d c S H Q z r1 r2 q => by
  unfold isi at q
  cases e : tyD S d with
  | none => rw [e] at q; exact False.elim q
  | some t =>
    simp only [e] at q
    have ty := tyD_s z r1 e
    cases c with
    | ty n =>
      cases r2
      cases q2 : kitB t n with
      | none => simp only [q2] at q; exact False.elim q
      | some b =>
        simp only [q2] at q
        exact .inl ⟨u, _, _, _, b, rfl, .ty n, ty, kit_ty q2, q.at_ z (.bl _)⟩
    | tup cs =>
      cases r2 with
      | tup h1 h2 =>
        cases q2 : tysOf cs with
        | none => simp only [q2] at q; exact False.elim q
        | some ns =>
          cases q3 : kitS t ns with
          | none => simp only [q2, Option.bind_some, q3] at q; exact False.elim q
          | some b =>
            simp only [q2, Option.bind_some, q3] at q
            exact .inr ⟨u, _, _, _, _, b, rfl, z.same _ _ h1, tysOf_s h2 q2, ty, kitS_s q3, q.at_ z (.bl _)⟩
    | _ => exact False.elim q
theorem call_isiA {X : Cx} : CallR X (.builtin "isinstance") (fun xs H Q => rIsi X.K xs H Q ∨ rIsiT X.K xs H Q) := call_isi.or call_isiT
section
variable {X : Cx} {W : WX} {pos : Pos}
/-- a built-in class as a value -/
theorem e_type {x : Str} {n : String} (hg : Gl X x) (hm : X.mg x = none) (hv : bootBuiltins x = some (.type n)) (hn : x ≠ "__name__" := by decide) (hd : (x == ("__debug__" : Str)) = false := by decide) : PE3 X W (.Name x pos) (mC (.ty n)) :=
  e_const (pe_bltn (v := .ty n) hg hm hv rfl hn hd) fun _ => .ty n
/-- a module's int -/
theorem e_globI {x : Str} {i : Int} (hg : Gl X x) (hm : ∃ t, X.mg x = some (.int i t)) (hd : (x == ("__debug__" : Str)) = false := by decide) : PE3 X W (.Name x pos) (mC (.int i)) := by
  obtain ⟨t, h⟩ := hm
  exact e_const (pe_glob (v := .int i) hg h ⟨t, rfl⟩ hd) fun _ => .int i
end

/-! ### min, max of two ints; all of a list of truths -/
def fMax : C3 := c2 (oI fun i j => .int (if j > i then j else i))
def fMin : C3 := c2 (oI fun i j => .int (if j < i then j else i))
theorem fMax_s {K : PySem.W.Frag} : CallS K (fun xs H Q => ∃ i j, xs = [.int i, .int j] ∧ Q (.int (if j > i then j else i)) H) fMax := c2_s fun W sv w u v d e S H Q z r1 r2 q => by
  obtain ⟨i, j, rfl, rfl, h⟩ := oI_s (K := K) (g := fun i j => V.int (if j > i then j else i)) (fun _ _ _ => .int _) W sv w u v d e S H Q z r1 r2 q
  exact ⟨i, j, rfl, h⟩
theorem fMin_s {K : PySem.W.Frag} : CallS K (fun xs H Q => ∃ i j, xs = [.int i, .int j] ∧ Q (.int (if j < i then j else i)) H) fMin := c2_s fun W sv w u v d e S H Q z r1 r2 q => by
  obtain ⟨i, j, rfl, rfl, h⟩ := oI_s (K := K) (g := fun i j => V.int (if j < i then j else i)) (fun _ _ _ => .int _) W sv w u v d e S H Q z r1 r2 q
  exact ⟨i, j, rfl, h⟩
def blsOf : List D → Option (List Bool)
  | [] => some []
  | d :: ds => match d, blsOf ds with
    | .bl b, some bs => some (b :: bs)
    | _, _ => none
def fAll : C3 := c1 fun d S => if isTupD d then .bad else withItems d S fun xs => match blsOf xs with
  | some bs => .ok (.bl (bs.all id)) S
  | none => .bad
theorem blsOf_s {K : PySem.W.Frag} {w : Wd} : ∀ {ds : List D} {us : List V} {bs : List Bool}, RepA K w us ds → blsOf ds = some bs → us = bs.map V.bl
  | [], _, _, r, e => by cases r; cases e; rfl
  | d :: ds, _, _, r, e => by
    cases r with
    | cons r1 r2 =>
      unfold blsOf at e
      cases d with
      | bl b =>
        cases q : blsOf ds with
        | none => rw [q] at e; cases e
        | some bs =>
          rw [q] at e
          cases e
          cases r1
          rw [blsOf_s r2 q]; rfl
      | _ => cases q : blsOf ds <;> rw [q] at e <;> cases e
theorem fAll_s {K : PySem.W.Frag} : CallS K (rAll K) fAll := c1_s fun W sv w u d S H Q z r q => by
  by_cases t : isTupD d = true
  · rw [if_pos t] at q; exact False.elim q
  · rw [if_neg t] at q
    obtain ⟨xs, _, _, he, _, _, _, hk⟩ := withItems_s z r q
    obtain ⟨a, vs, rfl, ra, hs⟩ := items_list z r he (by simpa using t)
    cases e : blsOf xs with
    | none => simp only [e] at hk; exact False.elim hk
    | some bs =>
      simp only [e] at hk
      have := blsOf_s ra e
      subst this
      exact ⟨a, bs, rfl, hs, hk.at_ z (.bl _)⟩

/-! ### repr of data -/
def reprOk (p : PyData) : Bool := p.showable && !p.hasDict && decide (p.depth ≤ 60) && decide (p.shown.length ≤ sizeLine)
def fRepr : C3 := c1 fun d S => match pyS S d with
  | some p => if reprOk p then .ok (.str p.shown) S else .bad
  | none => .bad
def rRepr (K : PySem.W.Frag) : List V → Hp → VK → Prop := fun xs H Q => ∃ x p, xs = [x] ∧ Dp K H x p ∧ reprOk p = true ∧ Q (.str p.shown) H
theorem fRepr_s {K : PySem.W.Frag} : CallS K (rRepr K) fRepr := c1_s fun W sv w u d S H Q z r q => by
  cases e : pyS S d with
  | none => simp only [e] at q; exact False.elim q
  | some p =>
    simp only [e] at q
    by_cases h : reprOk p = true
    · rw [if_pos h] at q
      exact ⟨u, p, rfl, dpS_of z r e, h, q.at_ z (.str _)⟩
    · rw [if_neg h] at q; exact False.elim q
theorem call_repr3 {X : Cx} (hg : X.A.guards = some []) (hu : X.A.units + 64 < cLine) : CallR X (.builtin "repr") (rRepr X.K) := by
  intro pins s σ H xs us Q I r h
  obtain ⟨x, p, rfl, dp, ok, q⟩ := h
  obtain ⟨u, rfl, ru⟩ := vals1 r
  unfold reprOk at ok
  simp only [Bool.and_eq_true, Bool.not_eq_true', decide_eq_true_eq] at ok
  obtain ⟨⟨⟨h1, h2⟩, h3⟩, h4⟩ := ok
  obtain ⟨as, rd⟩ := Dp.reads I p x u dp ru
  have fin : ∀ (h' : Heap) (t : Tok) (tk : Nat), (∀ b o, s.heap.get? b = some o → h'.get? b = some o) → EP X pins σ Q (.str p.shown t) { s with heap := h', toks := tk } := fun h' t tk k => ⟨.str p.shown, H, I.kept k, ⟨t, rfl⟩, q⟩
  have refCase : ∀ a, u = .ref a → wpAny (model X.prog X.w) X.A (call (.builtin "repr") [u]) (EP X pins σ Q) X.xe s := fun a e => by
    subst e
    exact repr_of_reads' rd h1 (fun z => by rw [h2] at z; cases z) hg (by omega) (fun _ _ e => e) (fun h' t tk k => fin h' t tk k) h4
  cases dp with
  | non => cases ru; exact PySem.P.repr_of_none (fin _ _ _ fun _ _ e => e)
  | bl b =>
    cases ru
    refine PySem.P.repr_of_bool ?_
    have := fin s.heap s.toks (s.toks + 1) fun _ _ e => e
    simpa only [PyData.shown] using this
  | int i =>
    obtain ⟨t, rfl⟩ := ru
    refine PySem.P.repr_of_int (by simpa only [PyData.showable, decide_eq_true_eq] using h1) ?_
    have := fin s.heap s.toks (s.toks + 1) fun _ _ e => e
    simpa only [PyData.shown] using this
  | str y =>
    obtain ⟨t, rfl⟩ := ru
    refine PySem.P.repr_of_str ?_ (by simpa only [PyData.shown] using h4)
    have := fin s.heap s.toks (s.toks + 1) fun _ _ e => e
    simpa only [PyData.shown] using this
  | lst _ _ => exact refCase _ ru
  | tup _ _ => exact refCase _ ru
end DL
end

section
set_option Elab.async false
set_option linter.all false
set_option maxRecDepth 100000
set_option maxHeartbeats 4000000
/-! sorted of a list or a tuple of pairs of ints -/
namespace DL
open PySem PySem.Spec PyProof.Rows

section
variable {prog : Program} {w : World} {A : Around} {E : Value → Shared → Prop} {s : Shared}
/-- the items of a tuple, taken out -/
theorem collect_tup {l : Addr} {vs : List Value} {Q : List Value → Shared → Prop} (hl : s.heap.IsTuple l vs.toArray)
    (h : Q vs { s with heap := (s.heap.push (seqObj "list" #[] 0)).update s.heap.objs.size (Obj.mapSeq (· ++ vs.toArray)) }) (hsz : vs.length ≤ sizeLine) :
    wpAny (model prog w) A (collect (.ref l)) Q E s := by
  obtain ⟨o, ho, hc, n, hd⟩ := id hl
  unfold collect
  refine wpAny_bind (wpAny_runValue (codeAny_builtin entry_proto_collect' ?_))
  show wpAny _ _ (newList [] >>= fun l0 => again (.builtin "list.__iadd__" ⟨[l0, .ref l], []⟩)) _ _ s
  refine wpAny_bind (wpAny_newList (wpAny_pure ⟨Code.quiet_builtin _ (by decide +kernel), codeAny_builtin entry_list_iadd' ?_⟩))
  show wpAny _ _ (Builtin.List.listExtendWith (Value.ref s.heap.objs.size) (Value.ref l) (Value.ref s.heap.objs.size)) _ _ _
  unfold Builtin.List.listExtendWith
  have there : (s.heap.push (seqObj "list" #[] 0)).get? l = some o := Heap.get?_push_of_some _ ho
  refine wpAny_bind (wpAny_typeOf (T := "tuple") ⟨o, there, hc⟩ ?_)
  rw [if_pos (by rw [show (Value.type "tuple" == Value.type "tuple") = true from rfl]; simp)]
  refine wpAny_bind (listItems_at there hd ?_)
  refine wpAny_bind (listItems_at (xs := #[]) (n := 0) (Heap.get?_push_size _ rfl) rfl ?_)
  rw [if_neg (by simp)]
  refine wpAny_bind (listUpdate_at (xs := #[]) (n := 0) (Heap.get?_push_size _ rfl) rfl ?_ (Nat.zero_le _) ?_)
  · refine wpAny_pure ?_
    show wpAny (model prog w) A (load s.heap.objs.size >>= fun o => match o.data with
      | .seq xs _ => pure xs.toList
      | _ => unsupported "internal:collect") Q E { s with heap := (s.heap.push (seqObj "list" #[] 0)).update s.heap.objs.size (Obj.mapSeq (· ++ vs.toArray)) }
    refine wpAny_bind (wpAny_load (get?_update_seq (Heap.get?_push_size _ rfl) _) ?_)
    have e : ((#[] : Array Value) ++ vs.toArray).toList = vs := by simp
    show wpAny _ _ (pure ((#[] : Array Value) ++ vs.toArray).toList) Q E _
    rw [e]
    exact wpAny_pure h
  · show ((#[] : Array Value) ++ vs.toArray).size ≤ sizeLine + 1
    simp only [Array.size_append, List.size_toArray, List.length_nil]
    omega
/-- sorted(t), t a tuple -/
theorem sorted_tup {l : Addr} {vs : List Value} {lt : Value → Value → Bool} {Q : Value → Shared → Prop} (O : SrtO.Swo lt) (hl : s.heap.IsTuple l vs.toArray) (hz : vs.length ≤ sizeLine)
    (hS : 2 ≤ vs.length → ∀ (h1 : Heap) (a : Addr), h1.get? a = some (seqObj "list" vs.toArray 0) → (∀ b o, s.heap.get? b = some o → b ≠ a ∧ h1.get? b = some o) → SrtO.SortableO prog w A.in1.in1 { s with heap := h1 } a vs lt)
    (h : ∀ out : List Value, SrtO.Srtd lt out → SrtO.Stb lt out vs → Q (.ref (s.heap.objs.size + 1)) { s with heap := sortedAll s.heap vs out.toArray }) :
    wpAny (model prog w) A (call (.builtin "sorted") [.ref l]) Q E s := by
  refine Calls.call_function_entry kind_sorted plain_sorted entry_sorted (args_sorted1 _) ?_
  unfold Builtin.«sorted»
  refine wpAny_bind (m := checkCount "sorted" 1 1 _) (wpAny_pure (wpAny_bind (collect_tup hl (wpAny_bind (wpAny_newList ?_ hz)) hz)))
  let h0 := (s.heap.push (seqObj "list" #[] 0)).update s.heap.objs.size (Obj.mapSeq (· ++ vs.toArray))
  have sz : h0.objs.size = s.heap.objs.size + 1 := by
    show (Heap.update _ _ _).objs.size = _
    rw [Heap.size_update, size_push']
  have at1 : (h0.push (seqObj "list" vs.toArray 0)).get? (s.heap.objs.size + 1) = some (seqObj "list" vs.toArray 0) := by
    rw [← sz]
    exact Heap.get?_push_size _ rfl
  have kp : ∀ b o, s.heap.get? b = some o → b ≠ s.heap.objs.size + 1 ∧ (h0.push (seqObj "list" vs.toArray 0)).get? b = some o := by
    intro b o q
    have hlt := Heap.lt_size q
    refine ⟨Nat.ne_of_lt (Nat.lt_succ_of_lt hlt), Heap.get?_push_of_some _ ?_⟩
    show (Heap.update _ _ _).get? b = _
    rw [Heap.get?_update_ne _ _ _ _ (Nat.ne_of_lt hlt)]
    exact Heap.get?_push_of_some _ q
  show wpAny _ _ _ _ _ { s with heap := h0.push (seqObj "list" vs.toArray 0) }
  rw [show (Heap.objs h0).size = s.heap.objs.size + 1 from sz]
  refine wpAny_bind (wpAny_holding (wpAny_call_entry slot_list_sort ⟨_, at1, rfl⟩ entry_list_sort ?_ (args_list_sort _)))
  exact SrtO.list_sort_ord O at1 hz (fun h2 => hS h2 _ _ at1 kp) fun out a b => ⟨_, rfl, wpAny_pure ⟨_, rfl, h out a b⟩⟩
end
open L2
section
variable {X : Cx}
def rSortedPT (K : PySem.W.Frag) : List V → Hp → VK → Prop := fun vs H Q => ∃ (a : Addr) (xs : List V) (k : V → Int × Int), vs = [V.ref a] ∧ SqT K H a xs ∧ (∀ x ∈ xs, ∃ t, x = V.ref t ∧ H t = some (.tup [.int (k x).1, .int (k x).2])) ∧
  ∀ ys p, SrtO.Srtd (ltP k) ys → SrtO.Stb (ltP k) ys xs → H p = none → Q (.ref p) (upd H p (.lst ys))
theorem cr_sortedPT : CallR X (.builtin "sorted") (rSortedPT X.K) := by
  intro pins s σ H vs us Q I r h
  obtain ⟨a, xs, k, rfl, hs, hx, q⟩ := h
  obtain ⟨its, rv, hl, hz⟩ := I.tuple hs
  obtain ⟨u, rfl, ru⟩ := vals1 r
  obtain rfl : u = Value.ref a := ru
  obtain ⟨e1, e2⟩ := refs_back rv fun x m => (hx x m).imp fun t h => h.1
  have pr : ∀ v ∈ its, Srt.IsPair s.heap v (k (backV v)).1 (k (backV v)).2 := by
    intro v hv
    obtain ⟨t, rfl⟩ := e2 v hv
    have hm : V.ref t ∈ xs := by
      rw [e1]
      exact List.mem_map.mpr ⟨_, hv, rfl⟩
    obtain ⟨t', e, ht⟩ := hx _ hm
    cases e
    obtain ⟨_, its2, r2, o, ho, hc, n, hd⟩ := I.hok _ _ ht
    obtain ⟨u1, u2, rfl, ⟨t1, rfl⟩, ⟨t2, rfl⟩⟩ := vals2 r2
    exact ⟨t, o, t1, t2, n, rfl, ho, hc, hd⟩
  refine sorted_tup (SrtO.swo_lex fun u => k (backV u)) hl (by rw [← rv.length]; exact hz) (fun h2 h1 b hb kk => ?_) fun out g1 g2 => ?_
  · refine SrtO.pairs_sortableO (s := { s with heap := h1 }) (by omega) (fun v hm => (pr v hm).keeps fun b o e _ => (kk b o e).2) ?_
    intro o e c
    have e' : some o = some (seqObj "list" its.toArray 0) := e.symm.trans hb
    cases e'
    exact absurd (Value.type.inj c) (by decide)
  · have h3 : ∀ u ∈ out, ∃ a, u = Value.ref a := fun u hu => e2 u (g2.perm.mem_iff.mp hu)
    have hb : SrtO.Stb (ltP k) (out.map backV) xs := by
      rw [e1]
      exact SrtO.Stb.map (ltP_swo k) backV g2
    obtain ⟨ep, he⟩ := sortedAll_at s.heap its out.toArray
    have new := I.hok.fresh (a := s.heap.objs.size + 1) (Nat.le_succ _)
    refine ⟨.ref _, upd H (s.heap.objs.size + 1) (.lst (out.map backV)), I.laid (t' := s.toks) (fun _ _ => sortedAll_old) (Nat.le_succ _) ⟨?_, out, ep, vals_back h3, he⟩, rfl, q _ _ (SrtO.srtd_map g1) hb new⟩
    rw [hb.len]
    exact hz
end
/-! as a function of data -/
def leP (p q : Int × Int) : Bool := !SrtO.lexB q p
def sortP (ps : List (Int × Int)) : List (Int × Int) := ps.mergeSort leP
def prD (p : Int × Int) : D := .tup [.int p.1, .int p.2]
def prsOf : List D → Option (List (Int × Int))
  | [] => some []
  | d :: ds => match d, prsOf ds with
    | .tup [.int i, .int j], some ps => some ((i, j) :: ps)
    | _, _ => none
def fSortedP : C3 := c1 fun d S => withItems d S fun xs => match prsOf xs with
  | some ps => mkLst ((sortP ps).map prD) S
  | none => .bad
theorem prsOf_map : ∀ ps : List (Int × Int), prsOf (ps.map prD) = some ps
  | [] => rfl
  | p :: ps => by
    have ih := prsOf_map ps
    show (match prD p, prsOf (ps.map prD) with
      | .tup [.int i, .int j], some ps => some ((i, j) :: ps)
      | _, _ => none) = _
    rw [ih]
    rfl
theorem prOf_cases (d : D) : (∃ i j, d = .tup [.int i, .int j]) ∨ ∀ (o : Option (List (Int × Int))), (match d, o with
      | .tup [.int i, .int j], some ps => some ((i, j) :: ps)
      | _, _ => none) = none := by
  match d with
  | .tup [.int i, .int j] => exact .inl ⟨i, j, rfl⟩
  | .tup [] => exact .inr fun o => rfl
  | .tup [a] => exact .inr fun o => by cases a <;> rfl
  | .tup (a :: b :: c :: r) => exact .inr fun o => by cases a <;> cases b <;> rfl
  | .tup [a, b] =>
    cases a with
    | int i =>
      cases b with
      | int j => exact .inl ⟨i, j, rfl⟩
      | _ => exact .inr fun o => rfl
    | _ => exact .inr fun o => rfl
  | .non => exact .inr fun o => rfl
  | .bl _ => exact .inr fun o => rfl
  | .int _ => exact .inr fun o => rfl
  | .str _ => exact .inr fun o => rfl
  | .lst _ => exact .inr fun o => rfl
  | .ref _ => exact .inr fun o => rfl
  | .ty _ => exact .inr fun o => rfl
  | .adr _ => exact .inr fun o => rfl
  | .dct _ _ => exact .inr fun o => rfl
  | .err _ _ => exact .inr fun o => rfl
  | .wl _ => exact .inr fun o => rfl
  | .wt _ => exact .inr fun o => rfl
theorem prsOf_eq : ∀ {ds : List D} {ps : List (Int × Int)}, prsOf ds = some ps → ds = ps.map prD
  | [], _, e => by cases e; rfl
  | d :: ds, ps, e => by
    unfold prsOf at e
    rcases prOf_cases d with ⟨i, j, rfl⟩ | h
    · cases q : prsOf ds with
      | none => rw [q] at e; cases e
      | some qs =>
        rw [q] at e
        cases e
        rw [prsOf_eq q]
        rfl
    · rw [h (prsOf ds)] at e
      cases e
section
variable {K : PySem.W.Frag} {w : Wd}
theorem pairs_rep : ∀ {ps : List (Int × Int)} {vs : List V}, RepA K w vs (ps.map prD) → ∃ k : V → Int × Int, ∀ x ∈ vs, ∃ t, x = V.ref t ∧ w.G t = some (.tup [.int (k x).1, .int (k x).2]) := by
  intro ps vs r
  have each : ∀ x ∈ vs, ∃ p : Int × Int, ∃ t, x = V.ref t ∧ w.G t = some (.tup [.int p.1, .int p.2]) := by
    intro x hx
    obtain ⟨i, ei⟩ := List.getElem?_of_mem hx
    have hi : i < ps.length := by
      have h1 := (List.getElem?_eq_some_iff.mp ei).1
      have h2 := r.length
      rw [List.length_map] at h2
      omega
    obtain ⟨v, ev, rv⟩ := r.get (i := i) (d := prD ps[i]) (by rw [List.getElem?_map, List.getElem?_eq_getElem hi]; rfl)
    rw [ei] at ev
    cases ev
    cases rv with
    | tup h1 h2 =>
      cases h2 with
      | cons a b =>
        cases b with
        | cons c e =>
          cases a; cases c; cases e
          exact ⟨ps[i], _, rfl, h1⟩
  classical
  refine ⟨fun x => if h : x ∈ vs then (each x h).choose else (0, 0), fun x hx => ?_⟩
  simp only [hx, dif_pos]
  exact (each x hx).choose_spec
theorem pairs_back {k : V → Int × Int} : ∀ {vs : List V}, (∀ x ∈ vs, ∃ t, x = V.ref t ∧ w.G t = some (.tup [.int (k x).1, .int (k x).2])) → RepA K w vs ((vs.map k).map prD)
  | [], _ => .nil
  | v :: vs, h => by
    obtain ⟨t, rfl, e⟩ := h v List.mem_cons_self
    exact .cons (.tup e (.cons (.int _) (.cons (.int _) .nil))) (pairs_back fun x hx => h x (List.mem_cons_of_mem _ hx))
theorem RepA.inj_pr : ∀ {vs : List V} {ps qs : List (Int × Int)}, RepA K w vs (ps.map prD) → RepA K w vs (qs.map prD) → ps = qs
  | _, [], [], _, _ => rfl
  | _, [], _ :: _, r, r' => by cases r; cases r'
  | _, _ :: _, [], r, r' => by cases r'; cases r
  | _, p :: ps, q :: qs, r, r' => by
    cases r with
    | cons a b =>
      cases r' with
      | cons a' b' =>
        have e := RepA.inj_pr b b'
        subst e
        cases a with
        | tup h1 h2 =>
          cases a' with
          | tup h1' h2' =>
            rw [h1] at h1'
            cases h1'
            cases h2 with
            | cons c d =>
              cases d with
              | cons e f =>
                cases h2' with
                | cons c' d' =>
                  cases d' with
                  | cons e' f' =>
                    cases f
                    obtain ⟨p1, p2⟩ := p
                    obtain ⟨q1, q2⟩ := q
                    cases c; cases e; cases c'; cases e'
                    rfl
end
theorem leP_total (a b : Int × Int) : (leP a b || leP b a) = true := by
  unfold leP
  cases h : SrtO.lexB b a with
  | false => rfl
  | true =>
    have h1 := SrtO.lexB_iff.mp h
    have h2 : SrtO.lexB a b = false := SrtO.lexB_no.mpr (by omega)
    rw [h2]; rfl
theorem leP_trans (a b c : Int × Int) (h1 : leP a b = true) (h2 : leP b c = true) : leP a c = true := by
  unfold leP at *
  rw [Bool.not_eq_true'] at *
  have a1 := SrtO.lexB_no.mp h1
  have a2 := SrtO.lexB_no.mp h2
  exact SrtO.lexB_no.mpr (by omega)
theorem leP_anti (a b : Int × Int) (h1 : leP a b = true) (h2 : leP b a = true) : a = b := by
  unfold leP at *
  rw [Bool.not_eq_true'] at *
  have a1 := SrtO.lexB_no.mp h1
  have a2 := SrtO.lexB_no.mp h2
  obtain ⟨a, a'⟩ := a
  obtain ⟨b, b'⟩ := b
  simp only at a1 a2
  have e1 : a = b := by omega
  have e2 : a' = b' := by omega
  rw [e1, e2]
/-- two sorted arrangements of one lot are one -/
theorem sorted_uniq {α : Type} {le : α → α → Prop} (anti : ∀ a b, le a b → le b a → a = b) : ∀ {l m : List α}, l.Perm m → l.Pairwise le → m.Pairwise le → l = m
  | [], m, p, _, _ => (List.nil_perm.mp p).symm
  | a :: l, m, p, h1, h2 => by
    cases m with
    | nil => exact absurd p.symm (by intro q; exact absurd (List.nil_perm.mp q) (List.cons_ne_nil _ _))
    | cons b m =>
      have e : a = b := by
        rcases List.mem_cons.mp (p.mem_iff.mp (List.mem_cons_self (a := a) (l := l))) with q | q
        · exact q
        · rcases List.mem_cons.mp (p.mem_iff.mpr (List.mem_cons_self (a := b) (l := m))) with q2 | q2
          · exact q2.symm
          · exact anti a b ((List.pairwise_cons.mp h1).1 b q2) ((List.pairwise_cons.mp h2).1 a q)
      subst e
      rw [sorted_uniq anti (List.Perm.cons_inv p) (List.pairwise_cons.mp h1).2 (List.pairwise_cons.mp h2).2]
theorem sortP_uniq {l ps : List (Int × Int)} (p : l.Perm ps) (h : l.Pairwise fun a b => leP a b = true) : l = sortP ps :=
  sorted_uniq (le := fun a b => leP a b = true) leP_anti (p.trans (List.mergeSort_perm ps leP).symm) h (List.pairwise_mergeSort leP_trans leP_total ps)
theorem fSortedP_s {K : PySem.W.Frag} : CallS K (fun xs H Q => rSortedPO K xs H Q ∨ rSortedPT K xs H Q) fSortedP := c1_s fun W sv w u d S H Q z r q => by
  obtain ⟨xs, a0, vs0, he, e0, ra0, hs0, hk⟩ := withItems_s z r q
  cases ep : prsOf xs with
  | none => simp only [ep] at hk; exact False.elim hk
  | some ps =>
    simp only [ep] at hk
    have exs := prsOf_eq ep
    subst exs
    have fin : ∀ vs : List V, RepA K w vs (ps.map prD) → ∃ k : V → Int × Int, (∀ x ∈ vs, ∃ t, x = V.ref t ∧ H t = some (.tup [.int (k x).1, .int (k x).2])) ∧
        ∀ ys p, SrtO.Srtd (ltP k) ys → SrtO.Stb (ltP k) ys vs → H p = none → Q (.ref p) (upd H p (.lst ys)) := fun vs ra => by
      obtain ⟨k, hx⟩ := pairs_rep ra
      have ek : vs.map k = ps := RepA.inj_pr (pairs_back hx) ra
      refine ⟨k, fun x hm => (hx x hm).imp fun t h => ⟨h.1, z.same _ _ h.2⟩, fun ys p g1 g2 np => ?_⟩
      have hy : ∀ x ∈ ys, ∃ t, x = V.ref t ∧ w.G t = some (.tup [.int (k x).1, .int (k x).2]) := fun x hm => hx x (g2.perm.mem_iff.mp hm)
      have ey : ys.map k = sortP ps := by
        refine sortP_uniq (by rw [← ek]; exact g2.perm.map k) (List.pairwise_map.mpr ?_)
        refine List.Pairwise.imp (fun {x y} h => ?_) g1
        unfold leP
        rw [Bool.not_eq_true']
        exact h
      have ry := pairs_back (K := K) hy
      rw [ey] at ry
      exact (mkLst_s hk z ry).2 p np
    by_cases t : isTupD d = true
    · obtain ⟨a, vs, rfl, ra, hs⟩ := items_tup z r he t
      obtain ⟨k, h1, h2⟩ := fin vs ra
      exact .inr ⟨a, vs, k, rfl, hs, h1, h2⟩
    · obtain ⟨a, vs, rfl, ra, hs⟩ := items_list z r he (by simpa using t)
      obtain ⟨k, h1, h2⟩ := fin vs ra
      exact .inl ⟨a, vs, k, rfl, hs, h1, h2⟩
theorem call_sortedP {X : Cx} : CallR X (.builtin "sorted") (fun xs H Q => rSortedPO X.K xs H Q ∨ rSortedPT X.K xs H Q) := cr_sortedPO.or cr_sortedPT
end DL
end

section
set_option Elab.async false
set_option linter.all false
set_option maxRecDepth 100000
set_option maxHeartbeats 4000000
namespace DL
open PySem PySem.Spec PyProof.Rows L2

/-! ### further expressions -/
def negD (d : D) (S : Sto) : Rs D := match d with
  | .int i => .ok (.int (-i)) S
  | _ => .bad
def mNeg (a : E3) : E3 := fun σ S => (a σ S).bind negD
/-- < and its like, of ints and of texts -/
def cmpG (f : Int → Int → Bool) (g : List Nat → List Nat → Bool) : O3 := fun d e S => match d with
  | .int i => (match e with
    | .int j => .ok (.bl (f i j)) S
    | _ => .bad)
  | .str x => (match e with
    | .str y => .ok (.bl (g x.cps.toList y.cps.toList)) S
    | _ => .bad)
  | _ => .bad
def rCmpG (f : Int → Int → Bool) (g : List Nat → List Nat → Bool) : R2 := fun x y H Q => rI0 (fun i j => .bl (f i j)) x y H Q ∨ ∃ i j, x = .str i ∧ y = .str j ∧ Q (.bl (g i.cps.toList j.cps.toList)) H
theorem cmpG_s {K : PySem.W.Frag} {f : Int → Int → Bool} {g : List Nat → List Nat → Bool} : OpS K (rCmpG f g) (cmpG f g) := by
  intro W sv w u v d e S H Q z r1 r2 q
  cases d with
  | int i =>
    cases e with
    | int j => cases r1; cases r2; exact .inl ⟨i, j, rfl, rfl, Hold.at_ (show Hold K W sv (Rep K) w Q (.ok (.bl (f i j)) S) from q) z (.bl _)⟩
    | _ => exact False.elim q
  | str x =>
    cases e with
    | str y => cases r1; cases r2; exact .inr ⟨x, y, rfl, rfl, Hold.at_ (show Hold K W sv (Rep K) w Q (.ok (.bl (g x.cps.toList y.cps.toList)) S) from q) z (.bl _)⟩
    | _ => exact False.elim q
  | _ => exact False.elim q
def ltL (a b : List Nat) : Bool := decide (a < b)
def oLtA : O3 := cmpG (fun i j => decide (i < j)) fun a b => ltL a b
def oLeA : O3 := cmpG (fun i j => decide (i ≤ j)) fun a b => !ltL b a
def oGtA : O3 := cmpG (fun i j => decide (j < i)) fun a b => ltL b a
def oGeA : O3 := cmpG (fun i j => decide (j ≤ i)) fun a b => !ltL a b
section
variable {X : Cx}
theorem op_ltA : OpR X (compareOp .Lt) (rCmpG (fun i j => decide (i < j)) fun a b => ltL a b) := op_lt.or op_lt_str
theorem op_leA : OpR X (compareOp .LtE) (rCmpG (fun i j => decide (i ≤ j)) fun a b => !ltL b a) := op_le.or op_le_str
theorem op_gtA : OpR X (compareOp .Gt) (rCmpG (fun i j => decide (j < i)) fun a b => ltL b a) := op_gt.or op_gt_str
theorem op_geA : OpR X (compareOp .GtE) (rCmpG (fun i j => decide (j ≤ i)) fun a b => !ltL a b) := op_ge.or op_ge_str
end
/-- a op b op' c -/
def mChain (f f' : O3) (a b c : E3) : E3 := fun σ S => (a σ S).bind fun x S1 => (b σ S1).bind fun y S2 => (f x y S2).bind fun k S3 => match k with
  | .bl true => (c σ S3).bind fun v S4 => f' y v S4
  | .bl false => .ok (.bl false) S3
  | _ => .bad
/-- a list, a text, so many times -/
def repSeq (d : D) (k : Int) (S : Sto) : Rs D := guard (decide (-(2 ^ 63) ≤ k) && decide (k < 2 ^ 63) && isLstD d) (withItems d S fun xs => guard (sizeOk (xs.length * k.toNat)) (mkLst (List.replicate k.toNat xs).flatten S))
def oMulA : O3 := fun d e S => match e with
  | .int k => (match d with
    | .int i => oMul (.int i) (.int k) S
    | d => repSeq d k S)
  | _ => .bad
section
variable {X : Cx} {W : WX} {pos : Pos} {a b c : Expr} {ma mb mc : E3} {f f' : O3} {r r' : R2}
theorem e_neg (h : PE3 X W a ma) : PE3 X W (.UnaryOp .USub a pos) (mNeg ma) :=
  PE.imp (pe_un un_neg h) fun sv H Q ⟨w, σ, S, l, z, q⟩ => ⟨w, σ, S, l, z, Hold.step q fun d S1 w1 H1 u x1 z1 r1 q1 => by
    cases d with
    | int i => cases r1; exact ⟨i, rfl, Hold.at_ (show Hold X.K W sv (Rep X.K) w1 Q (.ok (.int (-i)) S1) from q1) z1 (.int _)⟩
    | _ => exact False.elim q1⟩
theorem chain3 (s : OpS X.K r f) (s' : OpS X.K r' f') (sv : L2.St) (H : Hp) (Q : VK) (h : rdE X.K W (mChain f f' ma mb mc) sv H Q) : tChain r r' (rdE X.K W ma) (rdE X.K W mb) (rdE X.K W mc) sv H Q := by
  obtain ⟨w, σ, S, l, z, q⟩ := h
  refine ⟨w, σ, S, l, z, Hold.step q fun d S1 w1 H1 u x1 z1 r1 q1 => ?_⟩
  refine ⟨w1, σ, S1, l.mono x1, z1, Hold.step q1 fun e S2 w2 H2 v x2 z2 r2 q2 => ?_⟩
  refine s W sv w2 u v d e S2 H2 _ z2 (r1.mono x2) r2 (Hold.step q2 fun k S3 w3 H3 y x3 z3 r3 q3 => ?_)
  cases k with
  | bl k =>
    cases r3
    refine ⟨k, rfl, ?_⟩
    cases k with
    | true =>
      refine iteT ⟨w3, σ, S3, l.mono ((x1.trans x2).trans x3), z3, Hold.step q3 fun g S4 w4 H4 y4 x4 z4 r4 q4 => ?_⟩
      exact s' W sv w4 v y4 e g S4 H4 Q z4 (r2.mono (x3.trans x4)) r4 q4
    | false => exact iteF (Hold.at_ q3 z3 (.bl _))
  | _ => exact False.elim q3
theorem e_chain {op op' : CmpOp} (o : OpR X (compareOp op) r) (s : OpS X.K r f) (o' : OpR X (compareOp op') r') (s' : OpS X.K r' f') (ha : PE3 X W a ma) (hb : PE3 X W b mb) (hc : PE3 X W c mc)
    (hm : lastMarks [op, op'] [b, c] = false := by with_unfolding_all rfl) : PE3 X W (.Compare a [op, op'] [b, c] pos) (mChain f f' ma mb mc) :=
  PE.imp (pe_chain o o' ha hb hc hm) fun sv H Q h => chain3 s s' sv H Q h
theorem t_chain {op op' : CmpOp} (o : OpR X (compareOp op) r) (s : OpS X.K r f) (o' : OpR X (compareOp op') r') (s' : OpS X.K r' f') (ha : PE3 X W a ma) (hb : PE3 X W b mb) (hc : PE3 X W c mc)
    (hm : lastMarks [op, op'] [b, c] = false := by with_unfolding_all rfl) : PT3 X W (.Compare a [op, op'] [b, c] pos) (fun σ S => asB (mChain f f' ma mb mc σ S)) :=
  PT.imp (pt_chain o o' ha hb hc hm) fun sv H Q ⟨w, σ, S, l, z, q⟩ => chain3 s s' sv H _ ⟨w, σ, S, l, z, q.asB⟩
end
def rMulA : R2 := fun x y H Q => rI CMul (fun i j => .int (i * j)) x y H Q ∨ rRep x y H Q
theorem rep_vals {K : PySem.W.Frag} {w : Wd} {vs : List V} {ds : List D} (r : RepA K w vs ds) : ∀ k : Nat, RepA K w (List.replicate k vs).flatten (List.replicate k ds).flatten
  | 0 => .nil
  | k + 1 => by
    rw [List.replicate_succ, List.replicate_succ, List.flatten_cons, List.flatten_cons]
    exact r.append (rep_vals r k)
theorem oMulA_s {K : PySem.W.Frag} : OpS K rMulA oMulA := by
  intro W sv w u v d e S H Q z r1 r2 q
  cases e with
  | int k =>
    have seq : Hold K W sv (Rep K) w Q (repSeq d k S) → rMulA u v H Q := fun q => by
      obtain ⟨hg, q⟩ := guard_s q
      simp only [Bool.and_eq_true, decide_eq_true_eq] at hg
      obtain ⟨xs, _, _, he, _, _, _, q⟩ := withItems_s z r1 q
      obtain ⟨hz, q⟩ := guard_s q
      obtain ⟨a, vs, rfl, ra, hs⟩ := items_trk z r1 he hg.2
      cases r2
      exact .inr ⟨a, k, vs, rfl, rfl, hs, hg.1.1, hg.1.2, by rw [ra.length]; exact of_decide_eq_true hz, (mkLst_s q z (rep_vals ra _)).2⟩
    cases d with
    | int i => exact .inl (oMul_s (K := K) W sv w u v _ _ S H Q z r1 r2 q)
    | _ => exact seq q
  | _ => exact False.elim q
theorem op_mulA {X : Cx} : OpR X (binaryOp .Mult) rMulA := op_mul.or op_rep

/-! ### two names at once -/
def mPar (i j : Nat) (a : A3) : S3 := fun σ S => (a σ S).toS σ fun ds S1 => match ds with
  | [d, e] => .go .next ((σ.set i (some d)).set j (some e)) S1
  | _ => .bad
section
variable {X : Cx} {W : WX} {pos : Pos}
theorem s_par {i j : Nat} {x y : Str} {a b : Expr} {ms : A3} {px py pt : Pos} {kt k2 pt2} (hc : X.calm = true) (hN : X.N.Nodup) (hi : X.N[i]? = some x) (hj : X.N[j]? = some y) (hij : i ≠ j)
    (hx : X.env.scope.names.lookup x = some .local) (hy : X.env.scope.names.lookup y = some .local) (ha : PA3 X W [a, b] ms)
    (hw : swappedStores [.Tuple [.Name x px, .Name y py] kt pt] (.Tuple [a, b] k2 pt2) X.env = pure (some [x, y]))
    (hs : swapsWithSole [.Tuple [.Name x px, .Name y py] kt pt] (.Tuple [a, b] k2 pt2) pos.line X.env = pure false := by rfl) :
    PS3 X W (.Assign [.Tuple [.Name x px, .Name y py] kt pt] (.Tuple [a, b] k2 pt2) pos) (mPar i j ms) :=
  PS.imp (ps_par hc hN hi hj hij hx hy ha hw hs) fun B sv H ⟨w, σ, S, l, z, q⟩ => ⟨w, σ, S, l, z, HoldS.step l q fun ds S1 w1 H1 us x1 z1 r1 q1 => by
    match ds, us, r1, q1 with
    | [], _, _, q1 => exact False.elim q1
    | [_], _, _, q1 => exact False.elim q1
    | [d, e], _, .cons r2 (.cons r3 .nil), q1 => exact ⟨_, _, rfl, q1 w1 _ H1 (Ext.refl w1) (LRel.set r3 j (LRel.set r2 i (l.mono x1))) z1⟩
    | _ :: _ :: _ :: _, _, _, q1 => exact False.elim q1⟩

/-! ### what a for walks: a list, a tuple, a text -/
theorem PI.or {tg e : Expr} {t t' : TI} (h : PI X tg e t) (h' : PI X tg e t') : PI X tg e (fun s H R => t s H R ∨ t' s H R) := ⟨fun pins s σ H R I q => q.elim (h.run pins s σ H R I) (h'.run pins s σ H R I)⟩
def chD (x : Str) : List D := x.cps.toList.map fun c => D.str ⟨#[c]⟩
def walkS (d : D) (S : Sto) : Rs (List D) := match d with
  | .str x => .ok (chD x) S
  | .tup xs => .ok xs S
  | .wt xs => .ok xs S
  | d => walkL d S
def mWalk (a : E3) : A3 := fun σ S => (a σ S).bind walkS
theorem walk_s {K : PySem.W.Frag} {w : Wd} {x : Str} : IsWalk K w (Its x) (chD x) := fun i w1 S H y z => by
  have hl : (chD x).length = x.cps.size := by unfold chD; rw [List.length_map, Array.length_toList]
  refine ⟨fun hi => by rw [hl] at hi; exact hi, fun d e => ?_⟩
  have hi : i < x.cps.size := by rw [← hl]; exact (List.getElem?_eq_some_iff.mp e).1
  refine ⟨hi, fun v H' q => ?_⟩
  obtain ⟨rfl, c, hc, rfl⟩ := q
  unfold chD at e
  rw [List.getElem?_map, Array.getElem?_toList, hc] at e
  have e2 : D.str ⟨#[c]⟩ = d := Option.some.inj e
  subst e2
  exact ⟨w1, Ext.refl w1, z, .str _⟩
theorem walk_r3 {me : E3} (sv : L2.St) (H : Hp) (Q : It → Hp → Prop) (h : rd X.K W (IsWalk X.K) (mWalk me) sv H Q) :
    iList X.K (rdE X.K W me) sv H Q ∨ (iTup X.K (rdE X.K W me) sv H Q ∨ iStr (rdE X.K W me) sv H Q) := by
  obtain ⟨w, σ, S, l, z, q⟩ := h
  unfold mWalk at q
  cases e : me σ S with
  | bad => rw [e] at q; exact False.elim q
  | exc C p S1 => exact .inl (walkL_r sv H Q ⟨w, σ, S, l, z, by unfold mWalkL; rw [e] at q ⊢; exact q⟩)
  | ok d S1 =>
    rw [e] at q
    have viaL : Hold X.K W sv (IsWalk X.K) w Q (walkL d S1) → iList X.K (rdE X.K W me) sv H Q := fun q => walkL_r sv H Q ⟨w, σ, S, l, z, by unfold mWalkL; rw [e]; exact q⟩
    have viaT : Hold X.K W sv (IsWalk X.K) w Q (walkT d S1) → iTup X.K (rdE X.K W me) sv H Q := fun q => walkT_r sv H Q ⟨w, σ, S, l, z, by unfold mWalkT; rw [e]; exact q⟩
    cases d with
    | str x =>
      refine .inr (.inr ⟨w, σ, S, l, z, ?_⟩)
      rw [e]
      intro w1 H1 v x1 z1 r1
      cases r1
      exact ⟨x, rfl, Hold.at_ ((show Hold X.K W sv (IsWalk X.K) w Q (.ok (chD x) S1) from q).mono x1) z1 walk_s⟩
    | tup xs => exact .inr (.inl (viaT q))
    | wt xs => exact .inr (.inl (viaT q))
    | _ => exact .inl (viaL q)
theorem i_seq {tg e : Expr} {me : E3} (h : PE3 X W e me) : PI3 X W tg e (mWalk me) := PI.imp (PI.or (pi_list h) (PI.or (pi_tup h) (pi_str h))) walk_r3
end

/-! ### defs by their names -/
/-- a def of the module under its name, its function -/
structure Cal3 (P : Program) (w : World) (K : PySem.W.Frag) (mg : Str → Option Value) (base : Heap) (k : Nat) (x : Str) (n : Nat) (F : C3) : Prop where
  ex : ∃ f fd ps, mg x = some (.ref f) ∧ PySem.W.keepIn K (.ref f) = true ∧ Binds K fd ps [] ∧ ps.length = n ∧ FnOk3 P w K mg base k f fd ps F
section
variable {X : Cx} {W : WX} {k j : Nat} {F : C3} {x : Str} {n : Nat} {p pos : Pos} {e : Expr} {es : List Expr} {ms : A3}
theorem e_c3 (c : Cal3 X.prog X.w X.K X.mg X.base k x n F) (hr : RoomG j X.A) (hk : k ≤ j) (tk : Takes X W) (hg : Gl X x) (ha : PA3 X W (e :: es) ms)
    (hdb : (x == ("__debug__" : Str)) = false := by decide) (he : starEach (e :: es) X.env = (false, eval e X.env) :: starEach es X.env := by rfl) (hpl : (backTo pos (starEach es X.env)).any (·.1) = false := by rfl) :
    PE3 X W (.Call (.Name x p) (e :: es) [] pos) (mMake (withLen n F) ms) := by
  obtain ⟨f, fd, ps, hm, hkp, hb, rfl, G⟩ := c.ex
  have h := e_callD (dv := []) (dd := []) (du := []) (p := p) (pos := pos) G (hr.mono hk) tk hg hm hkp hb .nil (fun _ => .nil) ha hdb he hpl
  refine PE.imp h fun sv H Q ⟨w, σ, S, l, z, q⟩ => ⟨w, σ, S, l, z, ?_⟩
  unfold mMake at q ⊢
  cases ea : ms σ S with
  | bad => rw [ea] at q; exact q
  | exc C p S' => rw [ea] at q; exact q
  | ok ds S' =>
    rw [ea] at q
    show Hold X.K W sv (Rep X.K) w Q (withLen ps.length F (ds ++ []) S')
    rw [List.append_nil]
    exact q
end
/-- the built-in names that a text uses mean what they mean -/
def Free (mg : Str → Option Value) (xs : List Str) : Prop := ∀ x ∈ xs, mg x = none
end DL
end

section
set_option Elab.async false
set_option linter.all false
set_option maxRecDepth 100000
set_option maxHeartbeats 4000000
namespace DL
open PySem PySem.Spec PyProof.Rows L2

/-! ### sorted: ints, or pairs of ints -/
def leI (a b : Int) : Bool := decide (a ≤ b)
def sortI (ns : List Int) : List Int := ns.mergeSort leI
def insOf : List D → Option (List Int)
  | [] => some []
  | d :: ds => match d, insOf ds with
    | .int i, some ns => some (i :: ns)
    | _, _ => none
theorem insOf_map : ∀ ns : List Int, insOf (ns.map D.int) = some ns
  | [] => rfl
  | n :: ns => by
    have ih := insOf_map ns
    show (match D.int n, insOf (ns.map D.int) with
      | .int i, some ns => some (i :: ns)
      | _, _ => none) = _
    rw [ih]
theorem insOf_eq : ∀ {ds : List D} {ns : List Int}, insOf ds = some ns → ds = ns.map D.int
  | [], _, e => by cases e; rfl
  | d :: ds, ns, e => by
    unfold insOf at e
    cases d with
    | int i =>
      cases q : insOf ds with
      | none => rw [q] at e; cases e
      | some ms =>
        rw [q] at e
        cases e
        rw [insOf_eq q]; rfl
    | _ => cases q : insOf ds <;> rw [q] at e <;> cases e
theorem rep_ints {K : PySem.W.Frag} {w : Wd} : ∀ {ns : List Int} {vs : List V}, RepA K w vs (ns.map D.int) → vs = ns.map V.int
  | [], _, r => by cases r; rfl
  | n :: ns, _, r => by
    cases r with
    | cons a b => cases a; rw [rep_ints b]; rfl
theorem sortI_uniq {l ns : List Int} (p : l.Perm ns) (h : l.Pairwise (· ≤ ·)) : l = sortI ns := by
  refine sorted_uniq (le := fun a b => leI a b = true) (fun a b h1 h2 => Int.le_antisymm (of_decide_eq_true h1) (of_decide_eq_true h2)) (p.trans (List.mergeSort_perm ns leI).symm) ?_ ?_
  · exact h.imp fun {a b} q => decide_eq_true q
  · refine List.pairwise_mergeSort (fun a b c h1 h2 => ?_) (fun a b => ?_) ns
    · exact decide_eq_true (Int.le_trans (of_decide_eq_true h1) (of_decide_eq_true h2))
    · unfold leI
      rcases Int.le_total a b with h | h
      · rw [decide_eq_true h]; rfl
      · rw [decide_eq_true h, Bool.or_true]
def srt (d : D) (S : Sto) : Rs D := withItems d S fun xs => match prsOf xs with
  | some ps => mkLst ((sortP ps).map prD) S
  | none => (match insOf xs with
    | some ns => if isTupD d then .bad else mkLst ((sortI ns).map D.int) S
    | none => .bad)
def fSorted : C3 := c1 srt
def rSortedA (K : PySem.W.Frag) : List V → Hp → VK → Prop := fun xs H Q => rSortedI K xs H Q ∨ (rSortedPO K xs H Q ∨ rSortedPT K xs H Q)
theorem fSorted_s {K : PySem.W.Frag} : CallS K (rSortedA K) fSorted := c1_s fun W sv w u d S H Q z r q => by
  obtain ⟨xs, a0, vs0, he, e0, ra0, hs0, hk⟩ := withItems_s z r q
  cases ep : prsOf xs with
  | some ps =>
    simp only [ep] at hk
    have q2 : Hold K W sv (Rep K) w Q (withItems d S fun xs => match prsOf xs with
        | some ps => mkLst ((sortP ps).map prD) S
        | none => .bad) := by
      unfold withItems
      simp only [he, ep]
      exact hk
    exact .inr (fSortedP_s W sv w [u] [d] S H Q z (.cons r .nil) q2)
  | none =>
    simp only [ep] at hk
    cases ei : insOf xs with
    | none => simp only [ei] at hk; exact False.elim hk
    | some ns =>
      simp only [ei] at hk
      have ex := insOf_eq ei
      subst ex
      by_cases t : isTupD d = true
      · rw [if_pos t] at hk; exact False.elim hk
      · rw [if_neg t] at hk
        obtain ⟨a, vs, rfl, ra, hs⟩ := items_list z r he (by simpa using t)
        have ev := rep_ints ra
        subst ev
        exact .inl ⟨a, ns, rfl, hs, fun ns' p g1 g2 np => by
          have e := sortI_uniq g1 g2
          subst e
          exact (mkLst_s hk z (repInts _)).2 p np⟩
theorem call_sortedA {X : Cx} : CallR X (.builtin "sorted") (rSortedA X.K) := cr_sortedI.or call_sortedP
end DL
end

section
set_option Elab.async false
set_option linter.all false
set_option maxRecDepth 100000
set_option maxHeartbeats 4000000
/-! how the functions are reckoned, from the inside -/
namespace DL
open PySem PySem.Spec PyProof.Rows L2

@[simp] theorem mC_ev (d : D) (σ : Loc) (S : Sto) : mC d σ S = .ok d S := rfl
def get1 (o : Option (Option D)) (S : Sto) : Rs D := match o with
  | some (some d) => .ok d S
  | _ => .bad
@[simp] theorem mVar_ev (i : Nat) (σ : Loc) (S : Sto) : mVar i σ S = get1 σ[i]? S := rfl
@[simp] theorem get1_ev (d : D) (S : Sto) : get1 (some (some d)) S = .ok d S := rfl

def bin2 (f : O3) (d : D) (r : Rs D) : Rs D := r.bind fun e S2 => f d e S2
def bin1 (f : O3) (b : E3) (σ : Loc) (r : Rs D) : Rs D := r.bind fun d S1 => bin2 f d (b σ S1)
@[simp] theorem mBin_ev (f : O3) (a b : E3) (σ : Loc) (S : Sto) : mBin f a b σ S = bin1 f b σ (a σ S) := rfl
@[simp] theorem bin1_ev (f : O3) (b : E3) (σ : Loc) (d : D) (S : Sto) : bin1 f b σ (.ok d S) = bin2 f d (b σ S) := rfl
@[simp] theorem bin2_ev (f : O3) (d e : D) (S : Sto) : bin2 f d (.ok e S) = f d e S := rfl

def make1 (f : C3) (r : Rs (List D)) : Rs D := r.bind f
@[simp] theorem mMake_ev (f : C3) (a : A3) (σ : Loc) (S : Sto) : mMake f a σ S = make1 f (a σ S) := rfl
@[simp] theorem make1_ev (f : C3) (ds : List D) (S : Sto) : make1 f (.ok ds S) = f ds S := rfl
@[simp] theorem mNil_ev (σ : Loc) (S : Sto) : mNil σ S = .ok [] S := rfl
def cons2 (d : D) (r : Rs (List D)) : Rs (List D) := r.bind fun ds S2 => .ok (d :: ds) S2
def cons1 (b : A3) (σ : Loc) (r : Rs D) : Rs (List D) := r.bind fun d S1 => cons2 d (b σ S1)
@[simp] theorem mCons_ev (a : E3) (b : A3) (σ : Loc) (S : Sto) : mCons a b σ S = cons1 b σ (a σ S) := rfl
@[simp] theorem cons1_ev (b : A3) (σ : Loc) (d : D) (S : Sto) : cons1 b σ (.ok d S) = cons2 d (b σ S) := rfl
@[simp] theorem cons2_ev (d : D) (ds : List D) (S : Sto) : cons2 d (.ok ds S) = .ok (d :: ds) S := rfl
@[simp] theorem withLen_ev (n : Nat) (F : C3) (ds : List D) (S : Sto) (h : ds.length = n) : withLen n F ds S = F ds S := if_pos h

def asg2 (S : Sto) (o : Option Loc) : Rt := match o with
  | some σ => .go .next σ S
  | none => .bad
def asg1 (g : G3) (σ : Loc) (r : Rs D) : Rt := r.toS σ fun d S1 => asg2 S1 (g d σ)
@[simp] theorem mAsg_ev (a : E3) (g : G3) (σ : Loc) (S : Sto) : mAsg a g σ S = asg1 g σ (a σ S) := by
  unfold mAsg asg1 asg2
  rfl
@[simp] theorem asg1_ev (g : G3) (σ : Loc) (d : D) (S : Sto) : asg1 g σ (.ok d S) = asg2 S (g d σ) := rfl
@[simp] theorem asg2_ev (S : Sto) (σ : Loc) : asg2 S (some σ) = .go .next σ S := rfl
@[simp] theorem g3Name_ev (i : Nat) (d : D) (σ : Loc) : g3Name i d σ = some (σ.set i (some d)) := rfl
@[simp] theorem g3Nil_ev (σ : Loc) : g3Nil [] σ = some σ := rfl
@[simp] theorem g3Cons_ev (g : G3) (r : Gs3) (d : D) (ds : List D) (σ : Loc) : g3Cons g r (d :: ds) σ = (g d σ).bind (r ds) := rfl
@[simp] theorem g3Tup_ev (n : Nat) (g : Gs3) (ds : List D) (σ : Loc) (h : ds.length = n) : g3Tup n g (.tup ds) σ = g ds σ := if_pos h

def seq1 (b : S3) (r : Rt) : Rt := match r with
  | .go .next σ S => b σ S
  | r => r
@[simp] theorem mSeq_ev (a b : S3) (σ : Loc) (S : Sto) : mSeq a b σ S = seq1 b (a σ S) := rfl
@[simp] theorem seq1_next (b : S3) (σ : Loc) (S : Sto) : seq1 b (.go .next σ S) = b σ S := rfl
@[simp] theorem seq1_ret (b : S3) (d : D) (σ : Loc) (S : Sto) : seq1 b (.go (.ret d) σ S) = .go (.ret d) σ S := rfl
@[simp] theorem seq1_brk (b : S3) (σ : Loc) (S : Sto) : seq1 b (.go .brk σ S) = .go .brk σ S := rfl
@[simp] theorem seq1_cont (b : S3) (σ : Loc) (S : Sto) : seq1 b (.go .cont σ S) = .go .cont σ S := rfl
@[simp] theorem seq1_exc (b : S3) (C : Addr) (p : Pay) (σ : Loc) (S : Sto) : seq1 b (.exc C p σ S) = .exc C p σ S := rfl
@[simp] theorem mNext_ev (σ : Loc) (S : Sto) : mNext σ S = .go .next σ S := rfl
@[simp] theorem mBrk_ev (σ : Loc) (S : Sto) : mBrk σ S = .go .brk σ S := rfl
@[simp] theorem mCont_ev (σ : Loc) (S : Sto) : mCont σ S = .go .cont σ S := rfl
@[simp] theorem mRetN_ev (σ : Loc) (S : Sto) : mRetN σ S = .go (.ret .non) σ S := rfl
def ret1 (σ : Loc) (r : Rs D) : Rt := r.toS σ fun d S1 => .go (.ret d) σ S1
@[simp] theorem mRet_ev (a : E3) (σ : Loc) (S : Sto) : mRet a σ S = ret1 σ (a σ S) := rfl
@[simp] theorem ret1_ev (σ : Loc) (d : D) (S : Sto) : ret1 σ (.ok d S) = .go (.ret d) σ S := rfl
def expr1 (σ : Loc) (r : Rs D) : Rt := r.toS σ fun _ S1 => .go .next σ S1
@[simp] theorem mExpr_ev (a : E3) (σ : Loc) (S : Sto) : mExpr a σ S = expr1 σ (a σ S) := rfl
@[simp] theorem expr1_ev (σ : Loc) (d : D) (S : Sto) : expr1 σ (.ok d S) = .go .next σ S := rfl
def ifs1 (a b : S3) (σ : Loc) (r : Rs Bool) : Rt := r.toS σ fun c S1 => if c then a σ S1 else b σ S1
@[simp] theorem mIfS_ev (t : T3) (a b : S3) (σ : Loc) (S : Sto) : mIfS t a b σ S = ifs1 a b σ (t σ S) := rfl
@[simp] theorem ifs1_true (a b : S3) (σ : Loc) (S : Sto) : ifs1 a b σ (.ok true S) = a σ S := rfl
@[simp] theorem ifs1_false (a b : S3) (σ : Loc) (S : Sto) : ifs1 a b σ (.ok false S) = b σ S := rfl
theorem ifs1_ev (a b : S3) (σ : Loc) (S : Sto) (c : Bool) : ifs1 a b σ (.ok c S) = if c then a σ S else b σ S := rfl

@[simp] theorem asB_ev (b : Bool) (S : Sto) : asB (.ok (.bl b) S) = .ok b S := rfl
def asT1 (S : Sto) (o : Option Bool) : Rs Bool := match o with
  | some b => .ok b S
  | none => .bad
@[simp] theorem asT_ev (d : D) (S : Sto) : asT (.ok d S) = asT1 S (truD d S) := rfl
@[simp] theorem asT1_ev (b : Bool) (S : Sto) : asT1 S (some b) = .ok b S := rfl
def tand1 (b : T3) (σ : Loc) (r : Rs Bool) : Rs Bool := r.bind fun c S1 => if c then b σ S1 else .ok false S1
@[simp] theorem tAnd3_ev (a b : T3) (σ : Loc) (S : Sto) : tAnd3 a b σ S = tand1 b σ (a σ S) := rfl
@[simp] theorem tand1_true (b : T3) (σ : Loc) (S : Sto) : tand1 b σ (.ok true S) = b σ S := rfl
@[simp] theorem tand1_false (b : T3) (σ : Loc) (S : Sto) : tand1 b σ (.ok false S) = .ok false S := rfl
def tor1 (b : T3) (σ : Loc) (r : Rs Bool) : Rs Bool := r.bind fun c S1 => if c then .ok true S1 else b σ S1
@[simp] theorem tOr3_ev (a b : T3) (σ : Loc) (S : Sto) : tOr3 a b σ S = tor1 b σ (a σ S) := rfl
@[simp] theorem tor1_true (b : T3) (σ : Loc) (S : Sto) : tor1 b σ (.ok true S) = .ok true S := rfl
@[simp] theorem tor1_false (b : T3) (σ : Loc) (S : Sto) : tor1 b σ (.ok false S) = b σ S := rfl
def tnot1 (r : Rs Bool) : Rs Bool := r.bind fun c S1 => .ok (!c) S1
@[simp] theorem tNot3_ev (a : T3) (σ : Loc) (S : Sto) : tNot3 a σ S = tnot1 (a σ S) := rfl
@[simp] theorem tnot1_ev (b : Bool) (S : Sto) : tnot1 (.ok b S) = .ok (!b) S := rfl
def if1 (a b : E3) (σ : Loc) (r : Rs Bool) : Rs D := r.bind fun c S1 => if c then a σ S1 else b σ S1
@[simp] theorem mIf3_ev (t : T3) (a b : E3) (σ : Loc) (S : Sto) : mIf3 t a b σ S = if1 a b σ (t σ S) := rfl
@[simp] theorem if1_true (a b : E3) (σ : Loc) (S : Sto) : if1 a b σ (.ok true S) = a σ S := rfl
@[simp] theorem if1_false (a b : E3) (σ : Loc) (S : Sto) : if1 a b σ (.ok false S) = b σ S := rfl
theorem if1_ev (a b : E3) (σ : Loc) (S : Sto) (c : Bool) : if1 a b σ (.ok c S) = if c then a σ S else b σ S := rfl
def and1 (b : E3) (σ : Loc) (r : Rs D) : Rs D := r.bind fun d S1 => match d with
  | .bl true => b σ S1
  | .bl false => .ok (.bl false) S1
  | _ => .bad
@[simp] theorem mAnd_ev (a b : E3) (σ : Loc) (S : Sto) : mAnd a b σ S = and1 b σ (a σ S) := rfl
@[simp] theorem and1_true (b : E3) (σ : Loc) (S : Sto) : and1 b σ (.ok (.bl true) S) = b σ S := rfl
@[simp] theorem and1_false (b : E3) (σ : Loc) (S : Sto) : and1 b σ (.ok (.bl false) S) = .ok (.bl false) S := rfl
theorem and1_ev (b : E3) (σ : Loc) (S : Sto) (c : Bool) : and1 b σ (.ok (.bl c) S) = if c then b σ S else .ok (.bl false) S := by cases c <;> rfl
def or1 (b : E3) (σ : Loc) (r : Rs D) : Rs D := r.bind fun d S1 => match d with
  | .bl true => .ok (.bl true) S1
  | .bl false => b σ S1
  | _ => .bad
@[simp] theorem mOr_ev (a b : E3) (σ : Loc) (S : Sto) : mOr a b σ S = or1 b σ (a σ S) := rfl
@[simp] theorem or1_true (b : E3) (σ : Loc) (S : Sto) : or1 b σ (.ok (.bl true) S) = .ok (.bl true) S := rfl
@[simp] theorem or1_false (b : E3) (σ : Loc) (S : Sto) : or1 b σ (.ok (.bl false) S) = b σ S := rfl
theorem or1_ev (b : E3) (σ : Loc) (S : Sto) (c : Bool) : or1 b σ (.ok (.bl c) S) = if c then .ok (.bl true) S else b σ S := by cases c <;> rfl
def not1 (r : Rs D) : Rs D := r.bind fun d S1 => match d with
  | .bl c => .ok (.bl (!c)) S1
  | _ => .bad
@[simp] theorem mNot_ev (a : E3) (σ : Loc) (S : Sto) : mNot a σ S = not1 (a σ S) := rfl
@[simp] theorem not1_ev (c : Bool) (S : Sto) : not1 (.ok (.bl c) S) = .ok (.bl (!c)) S := rfl
def neg1 (r : Rs D) : Rs D := r.bind negD
@[simp] theorem mNeg_ev (a : E3) (σ : Loc) (S : Sto) : mNeg a σ S = neg1 (a σ S) := rfl
@[simp] theorem neg1_ev (i : Int) (S : Sto) : neg1 (.ok (.int i) S) = .ok (.int (-i)) S := rfl

def chn3 (f' : O3) (y : D) (r : Rs D) : Rs D := r.bind fun v S4 => f' y v S4
def chn2 (f' : O3) (c : E3) (σ : Loc) (y : D) (r : Rs D) : Rs D := r.bind fun k S3 => match k with
  | .bl true => chn3 f' y (c σ S3)
  | .bl false => .ok (.bl false) S3
  | _ => .bad
def chn1 (f f' : O3) (c : E3) (σ : Loc) (x : D) (r : Rs D) : Rs D := r.bind fun y S2 => chn2 f' c σ y (f x y S2)
def chn0 (f f' : O3) (b c : E3) (σ : Loc) (r : Rs D) : Rs D := r.bind fun x S1 => chn1 f f' c σ x (b σ S1)
@[simp] theorem mChain_ev (f f' : O3) (a b c : E3) (σ : Loc) (S : Sto) : mChain f f' a b c σ S = chn0 f f' b c σ (a σ S) := rfl
@[simp] theorem chn0_ev (f f' : O3) (b c : E3) (σ : Loc) (x : D) (S : Sto) : chn0 f f' b c σ (.ok x S) = chn1 f f' c σ x (b σ S) := rfl
@[simp] theorem chn1_ev (f f' : O3) (c : E3) (σ : Loc) (x y : D) (S : Sto) : chn1 f f' c σ x (.ok y S) = chn2 f' c σ y (f x y S) := rfl
@[simp] theorem chn2_true (f' : O3) (c : E3) (σ : Loc) (y : D) (S : Sto) : chn2 f' c σ y (.ok (.bl true) S) = chn3 f' y (c σ S) := rfl
@[simp] theorem chn2_false (f' : O3) (c : E3) (σ : Loc) (y : D) (S : Sto) : chn2 f' c σ y (.ok (.bl false) S) = .ok (.bl false) S := rfl
theorem chn2_ev (f' : O3) (c : E3) (σ : Loc) (y : D) (S : Sto) (k : Bool) : chn2 f' c σ y (.ok (.bl k) S) = if k then chn3 f' y (c σ S) else .ok (.bl false) S := by cases k <;> rfl
@[simp] theorem chn3_ev (f' : O3) (y v : D) (S : Sto) : chn3 f' y (.ok v S) = f' y v S := rfl

def set4 (σ : Loc) (r : Rs D) : Rt := r.toS σ fun _ S4 => .go .next σ S4
def set3 (v d : D) (σ : Loc) (r : Rs D) : Rt := r.toS σ fun k S3 => set4 σ (setAt d k v S3)
def set2 (v : D) (i : E3) (σ : Loc) (r : Rs D) : Rt := r.toS σ fun d S2 => set3 v d σ (i σ S2)
def set1 (o i : E3) (σ : Loc) (r : Rs D) : Rt := r.toS σ fun v S1 => set2 v i σ (o σ S1)
@[simp] theorem mSetIx_ev (o i e : E3) (σ : Loc) (S : Sto) : mSetIx o i e σ S = set1 o i σ (e σ S) := rfl
@[simp] theorem set1_ev (o i : E3) (σ : Loc) (v : D) (S : Sto) : set1 o i σ (.ok v S) = set2 v i σ (o σ S) := rfl
@[simp] theorem set2_ev (v : D) (i : E3) (σ : Loc) (d : D) (S : Sto) : set2 v i σ (.ok d S) = set3 v d σ (i σ S) := rfl
@[simp] theorem set3_ev (v d k : D) (σ : Loc) (S : Sto) : set3 v d σ (.ok k S) = set4 σ (setAt d k v S) := rfl
@[simp] theorem set4_ev (σ : Loc) (d : D) (S : Sto) : set4 σ (.ok d S) = .go .next σ S := rfl
def par1 (i j : Nat) (σ : Loc) (r : Rs (List D)) : Rt := r.toS σ fun ds S1 => match ds with
  | [d, e] => .go .next ((σ.set i (some d)).set j (some e)) S1
  | _ => .bad
@[simp] theorem mPar_ev (i j : Nat) (a : A3) (σ : Loc) (S : Sto) : mPar i j a σ S = par1 i j σ (a σ S) := rfl
@[simp] theorem par1_ev (i j : Nat) (σ : Loc) (d e : D) (S : Sto) : par1 i j σ (.ok [d, e] S) = .go .next ((σ.set i (some d)).set j (some e)) S := rfl
def aug2 (i : Nat) (σ : Loc) (r : Rs D) : Rt := r.toS σ fun v S2 => .go .next (σ.set i (some v)) S2
def aug1 (i : Nat) (f : O3) (d : D) (σ : Loc) (r : Rs D) : Rt := r.toS σ fun e S1 => aug2 i σ (f d e S1)
def aug0 (i : Nat) (f : O3) (a : E3) (σ : Loc) (S : Sto) (o : Option (Option D)) : Rt := match o with
  | some (some d) => aug1 i f d σ (a σ S)
  | _ => .bad
@[simp] theorem mAug_ev (i : Nat) (f : O3) (a : E3) (σ : Loc) (S : Sto) : mAug i f a σ S = aug0 i f a σ S σ[i]? := by
  unfold mAug aug0
  rfl
@[simp] theorem aug0_ev (i : Nat) (f : O3) (a : E3) (σ : Loc) (S : Sto) (d : D) : aug0 i f a σ S (some (some d)) = aug1 i f d σ (a σ S) := rfl
@[simp] theorem aug1_ev (i : Nat) (f : O3) (d : D) (σ : Loc) (e : D) (S : Sto) : aug1 i f d σ (.ok e S) = aug2 i σ (f d e S) := rfl
@[simp] theorem aug2_ev (i : Nat) (σ : Loc) (v : D) (S : Sto) : aug2 i σ (.ok v S) = .go .next (σ.set i (some v)) S := rfl

def for1 (g : G3) (b : S3) (σ : Loc) (r : Rs (List D)) : Rt := r.toS σ fun ds S1 => forD g b ds σ S1
@[simp] theorem mFor_ev (it : A3) (g : G3) (b : S3) (σ : Loc) (S : Sto) : mFor it g b σ S = for1 g b σ (it σ S) := rfl
@[simp] theorem for1_ev (g : G3) (b : S3) (σ : Loc) (ds : List D) (S : Sto) : for1 g b σ (.ok ds S) = forD g b ds σ S := rfl
@[simp] theorem forD_nil (g : G3) (b : S3) (σ : Loc) (S : Sto) : forD g b [] σ S = .go .next σ S := rfl
def for3 (g : G3) (b : S3) (ds : List D) (r : Rt) : Rt := match r with
  | .go .next σ2 S2 => forD g b ds σ2 S2
  | .go .cont σ2 S2 => forD g b ds σ2 S2
  | .go .brk σ2 S2 => .go .next σ2 S2
  | r => r
def for2 (g : G3) (b : S3) (ds : List D) (S : Sto) (o : Option Loc) : Rt := match o with
  | none => .bad
  | some σ1 => for3 g b ds (b σ1 S)
theorem forD_cons (g : G3) (b : S3) (d : D) (ds : List D) (σ : Loc) (S : Sto) : forD g b (d :: ds) σ S = for2 g b ds S (g d σ) := by
  rw [forD]
  unfold for2 for3
  cases g d σ with
  | none => rfl
  | some σ1 =>
    cases hb : b σ1 S with
    | go f σ2 S2 => cases f <;> simp only [hb]
    | exc C p σ2 S2 => simp only [hb]
    | bad => simp only [hb]
@[simp] theorem for2_ev (g : G3) (b : S3) (ds : List D) (S : Sto) (σ : Loc) : for2 g b ds S (some σ) = for3 g b ds (b σ S) := rfl
@[simp] theorem for3_next (g : G3) (b : S3) (ds : List D) (σ : Loc) (S : Sto) : for3 g b ds (.go .next σ S) = forD g b ds σ S := rfl
@[simp] theorem for3_cont (g : G3) (b : S3) (ds : List D) (σ : Loc) (S : Sto) : for3 g b ds (.go .cont σ S) = forD g b ds σ S := rfl
@[simp] theorem for3_brk (g : G3) (b : S3) (ds : List D) (σ : Loc) (S : Sto) : for3 g b ds (.go .brk σ S) = .go .next σ S := rfl
@[simp] theorem for3_ret (g : G3) (b : S3) (ds : List D) (d : D) (σ : Loc) (S : Sto) : for3 g b ds (.go (.ret d) σ S) = .go (.ret d) σ S := rfl
def walk1 (r : Rs D) : Rs (List D) := r.bind walkS
@[simp] theorem mWalk_ev (a : E3) (σ : Loc) (S : Sto) : mWalk a σ S = walk1 (a σ S) := rfl
@[simp] theorem walk1_tup (ds : List D) (S : Sto) : walk1 (.ok (.tup ds) S) = .ok ds S := rfl
@[simp] theorem walk1_lst (ds : List D) (S : Sto) : walk1 (.ok (.lst ds) S) = .ok ds S := rfl
@[simp] theorem walk1_str (x : Str) (S : Sto) : walk1 (.ok (.str x) S) = .ok (chD x) S := rfl
def rgs1 (r : Rs (List D)) : Rs (List D) := r.bind rgA1
def rgs2 (r : Rs (List D)) : Rs (List D) := r.bind rgA2
@[simp] theorem mRange1_ev (a : A3) (σ : Loc) (S : Sto) : mRange1 a σ S = rgs1 (a σ S) := rfl
@[simp] theorem mRange2_ev (a : A3) (σ : Loc) (S : Sto) : mRange2 a σ S = rgs2 (a σ S) := rfl
@[simp] theorem rgs1_ev (j : Int) (S : Sto) : rgs1 (.ok [.int j] S) = rg2 0 j S := rfl
@[simp] theorem rgs2_ev (i j : Int) (S : Sto) : rgs2 (.ok [.int i, .int j] S) = rg2 i j S := rfl
theorem rg2_ev {i j : Int} {S : Sto} (h1 : -1000000 ≤ i) (h2 : i ≤ 1000000) (h3 : -1000000 ≤ j) (h4 : j ≤ 1000000) : rg2 i j S = .ok (rngD i (j - i).toNat) S := by
  unfold rg2
  rw [if_pos (by simp only [Bool.and_eq_true, decide_eq_true_eq]; omega)]

def cmp2 (op : Bool) (r : Rs (List D)) : Rs D := r.bind (endC op)
def cmp1 (op : Bool) (g : G3) (t : T3) (e : E3) (vs : List Nat) (σ : Loc) (r : Rs (List D)) : Rs D := r.bind fun ds S1 => cmp2 op (compD g t e ds [] (wipeD σ vs) S1)
@[simp] theorem mComp_ev (op : Bool) (it : A3) (g : G3) (t : T3) (e : E3) (vs : List Nat) (σ : Loc) (S : Sto) : mComp op it g t e vs σ S = cmp1 op g t e vs σ (it σ S) := rfl
@[simp] theorem cmp1_ev (op : Bool) (g : G3) (t : T3) (e : E3) (vs : List Nat) (σ : Loc) (ds : List D) (S : Sto) : cmp1 op g t e vs σ (.ok ds S) = cmp2 op (compD g t e ds [] (wipeD σ vs) S) := rfl
@[simp] theorem cmp2_false (ys : List D) (S : Sto) : cmp2 false (.ok ys S) = .ok (.lst ys) S := rfl
@[simp] theorem cmp2_true (ys : List D) (S : Sto) : cmp2 true (.ok ys S) = .ok (.ref S.length) (S ++ [.lst ys]) := rfl
@[simp] theorem compD_nil (g : G3) (t : T3) (e : E3) (acc : List D) (σ : Loc) (S : Sto) : compD g t e [] acc σ S = .ok acc S := rfl
def cd3 (g : G3) (t : T3) (e : E3) (ds acc : List D) (σ : Loc) (r : Rs D) : Rs (List D) := match r with
  | .ok y S2 => if acc.length < sizeLine then compD g t e ds (acc ++ [y]) σ S2 else .bad
  | _ => .bad
def cd2 (g : G3) (t : T3) (e : E3) (ds acc : List D) (σ σ1 : Loc) (r : Rs Bool) : Rs (List D) := match r with
  | .ok true S1 => cd3 g t e ds acc σ (e σ1 S1)
  | .ok false S1 => compD g t e ds acc σ S1
  | _ => .bad
def cd1 (g : G3) (t : T3) (e : E3) (ds acc : List D) (σ : Loc) (S : Sto) (o : Option Loc) : Rs (List D) := match o with
  | none => .bad
  | some σ1 => cd2 g t e ds acc σ σ1 (t σ1 S)
theorem compD_cons (g : G3) (t : T3) (e : E3) (d : D) (ds acc : List D) (σ : Loc) (S : Sto) : compD g t e (d :: ds) acc σ S = cd1 g t e ds acc σ S (g d σ) := by
  unfold cd1 cd2 cd3
  rw [compD] <;> rfl
@[simp] theorem cd1_ev (g : G3) (t : T3) (e : E3) (ds acc : List D) (σ σ1 : Loc) (S : Sto) : cd1 g t e ds acc σ S (some σ1) = cd2 g t e ds acc σ σ1 (t σ1 S) := rfl
@[simp] theorem cd2_true (g : G3) (t : T3) (e : E3) (ds acc : List D) (σ σ1 : Loc) (S : Sto) : cd2 g t e ds acc σ σ1 (.ok true S) = cd3 g t e ds acc σ (e σ1 S) := rfl
@[simp] theorem cd2_false (g : G3) (t : T3) (e : E3) (ds acc : List D) (σ σ1 : Loc) (S : Sto) : cd2 g t e ds acc σ σ1 (.ok false S) = compD g t e ds acc σ S := rfl
theorem cd3_ev (g : G3) (t : T3) (e : E3) (ds acc : List D) (σ : Loc) (y : D) (S : Sto) (h : acc.length < 1000000) : cd3 g t e ds acc σ (.ok y S) = compD g t e ds (acc ++ [y]) σ S := by
  show (if acc.length < sizeLine then _ else _) = _
  rw [if_pos (Nat.lt_of_lt_of_le h (by decide))]
@[simp] theorem tTrue3_ev (σ : Loc) (S : Sto) : tTrue3 σ S = .ok true S := rfl

def meth2 (f : M3) (d : D) (r : Rs (List D)) : Rs D := r.bind fun ds S2 => f d ds S2
def meth1 (f : M3) (a : A3) (σ : Loc) (r : Rs D) : Rs D := r.bind fun d S1 => if isListIn S1 d then meth2 f d (a σ S1) else .bad
@[simp] theorem mMethL_ev (f : M3) (o : E3) (a : A3) (σ : Loc) (S : Sto) : mMethL f o a σ S = meth1 f a σ (o σ S) := rfl
theorem meth1_ev (f : M3) (a : A3) (σ : Loc) (d : D) (S : Sto) (h : isListIn S d = true) : meth1 f a σ (.ok d S) = meth2 f d (a σ S) := if_pos h
@[simp] theorem meth2_ev (f : M3) (d : D) (ds : List D) (S : Sto) : meth2 f d (.ok ds S) = f d ds S := rfl

def sl3 (op : Bool) (d : D) (l : Option Int) (r : Rs (Option Int)) : Rs D := r.bind fun h S3 => slD op d l h S3
def sl2 (op : Bool) (d : D) (hi : P3) (σ : Loc) (r : Rs (Option Int)) : Rs D := r.bind fun l S2 => sl3 op d l (hi σ S2)
def sl1 (op : Bool) (lo hi : P3) (σ : Loc) (r : Rs D) : Rs D := r.bind fun d S1 => sl2 op d hi σ (lo σ S1)
@[simp] theorem mSl_ev (op : Bool) (a : E3) (lo hi : P3) (σ : Loc) (S : Sto) : mSl op a lo hi σ S = sl1 op lo hi σ (a σ S) := rfl
@[simp] theorem sl1_ev (op : Bool) (lo hi : P3) (σ : Loc) (d : D) (S : Sto) : sl1 op lo hi σ (.ok d S) = sl2 op d hi σ (lo σ S) := rfl
@[simp] theorem sl2_ev (op : Bool) (d : D) (hi : P3) (σ : Loc) (l : Option Int) (S : Sto) : sl2 op d hi σ (.ok l S) = sl3 op d l (hi σ S) := rfl
@[simp] theorem sl3_ev (op : Bool) (d : D) (l h : Option Int) (S : Sto) : sl3 op d l (.ok h S) = slD op d l h S := rfl
@[simp] theorem mNoP_ev (σ : Loc) (S : Sto) : mNoP σ S = .ok none S := rfl
def part1 (r : Rs D) : Rs (Option Int) := r.bind fun d S1 => match d with
  | .int i => .ok (some i) S1
  | _ => .bad
@[simp] theorem mPart_ev (a : E3) (σ : Loc) (S : Sto) : mPart a σ S = part1 (a σ S) := rfl
@[simp] theorem part1_ev (i : Int) (S : Sto) : part1 (.ok (.int i) S) = .ok (some i) S := rfl

/-! operations -/
@[simp] theorem oCat_int (op : Bool) (i j : Int) (S : Sto) : oCat op (.int i) (.int j) S = .ok (.int (i + j)) S := rfl
@[simp] theorem oSub_ev (i j : Int) (S : Sto) : oSub (.int i) (.int j) S = .ok (.int (i - j)) S := rfl
@[simp] theorem oAdd_ev (i j : Int) (S : Sto) : oAdd (.int i) (.int j) S = .ok (.int (i + j)) S := rfl
theorem oMul_l {i j : Int} (S : Sto) (h : i.natAbs < 2 ^ 64) : oMulA (.int i) (.int j) S = .ok (.int (i * j)) S := by
  show (if _ then _ else _) = _
  rw [if_pos (by simp only [Bool.or_eq_true, Bool.and_eq_true, decide_eq_true_eq]; omega)]
theorem oMul_r {i j : Int} (S : Sto) (h : j.natAbs < 2 ^ 64) : oMulA (.int i) (.int j) S = .ok (.int (i * j)) S := by
  show (if _ then _ else _) = _
  rw [if_pos (by simp only [Bool.or_eq_true, Bool.and_eq_true, decide_eq_true_eq]; omega)]
theorem oMod_ev {i j : Int} (S : Sto) (h : 0 < j) : oMod (.int i) (.int j) S = .ok (.int (i % j)) S := if_pos (decide_eq_true h)
theorem oDiv_ev {i j : Int} (S : Sto) (h : 0 < j) (h2 : j < 1073741824) : oDiv (.int i) (.int j) S = .ok (.int (i / j)) S := by
  show (if _ then _ else _) = _
  rw [if_pos (by simp only [Bool.and_eq_true, decide_eq_true_eq]; omega)]
theorem oPow_ev {i j : Int} (S : Sto) (h : 0 ≤ j) (h1 : j ≤ 1000000) (h2 : i.natAbs < 2 ^ 64) : oPow (.int i) (.int j) S = .ok (.int (i ^ j.toNat)) S := by
  show (if _ then _ else _) = _
  rw [if_pos (by simp only [Bool.and_eq_true, decide_eq_true_eq]; omega)]
@[simp] theorem oLtA_int (i j : Int) (S : Sto) : oLtA (.int i) (.int j) S = .ok (.bl (decide (i < j))) S := rfl
@[simp] theorem oLeA_int (i j : Int) (S : Sto) : oLeA (.int i) (.int j) S = .ok (.bl (decide (i ≤ j))) S := rfl
@[simp] theorem oGtA_int (i j : Int) (S : Sto) : oGtA (.int i) (.int j) S = .ok (.bl (decide (j < i))) S := rfl
@[simp] theorem oGeA_int (i j : Int) (S : Sto) : oGeA (.int i) (.int j) S = .ok (.bl (decide (j ≤ i))) S := rfl
theorem shaped_int (i : Int) : SeqAt.shaped (.int i) = true := by
  unfold SeqAt.shaped
  simp [PyData.canLay0, PyData.depth]
theorem oEqG_ev {f : Bool → Bool} {d e : D} {S : Sto} {p q : PyData} (h1 : pyS S d = some p) (h2 : pyS S e = some q) (h3 : SeqAt.shaped p = true) (h4 : SeqAt.shaped q = true) : oEqG f d e S = .ok (.bl (f (PyData.eqv p q))) S := by
  unfold oEqG
  rw [h1, h2]
  show (if (SeqAt.shaped p && SeqAt.shaped q) = true then Rs.ok (D.bl (f (PyData.eqv p q))) S else .bad) = _
  rw [h3, h4]
  rfl
@[simp] theorem oEq_int (i j : Int) (S : Sto) : oEq (.int i) (.int j) S = .ok (.bl (i == j)) S := by
  unfold oEq
  rw [oEqG_ev (p := .int i) (q := .int j) rfl rfl (shaped_int i) (shaped_int j)]
  simp [PyData.eqv]
@[simp] theorem oNe_int (i j : Int) (S : Sto) : oNe (.int i) (.int j) S = .ok (.bl (!(i == j))) S := by
  unfold oNe
  rw [oEqG_ev (p := .int i) (q := .int j) rfl rfl (shaped_int i) (shaped_int j)]
  simp [PyData.eqv]
def ix1 (o : Option (List D)) (i : Int) (S : Sto) : Rs D := match o with
  | some xs => (match L2.atI xs i with
    | some y => .ok y S
    | none => .bad)
  | none => .bad
def ix2 (o : Option D) (S : Sto) : Rs D := match o with
  | some y => .ok y S
  | none => .bad
@[simp] theorem ix2_ev (y : D) (S : Sto) : ix2 (some y) S = .ok y S := rfl
@[simp] theorem oIx_tup (xs : List D) (i : Int) (S : Sto) : oIx (.tup xs) (.int i) S = ix2 (L2.atI xs i) S := rfl
@[simp] theorem oIx_lst (xs : List D) (i : Int) (S : Sto) : oIx (.lst xs) (.int i) S = ix2 (L2.atI xs i) S := rfl
@[simp] theorem oIx_ref (k : Nat) (i : Int) (S : Sto) : oIx (.ref k) (.int i) S = ix1 (itemsOf S (.ref k)) i S := rfl
@[simp] theorem ix1_ev (xs : List D) (i : Int) (S : Sto) : ix1 (some xs) i S = ix2 (L2.atI xs i) S := rfl
def itm (o : Option Ob) : Option (List D) := match o with
  | some (.lst xs) => some xs
  | some (.frz xs) => some xs
  | _ => none
@[simp] theorem itemsOf_refE (S : Sto) (k : Nat) : itemsOf S (.ref k) = itm S[k]? := rfl
@[simp] theorem itm_lst (xs : List D) : itm (some (.lst xs)) = some xs := rfl
@[simp] theorem itm_frz (xs : List D) : itm (some (.frz xs)) = some xs := rfl
@[simp] theorem itemsOf_tup (S : Sto) (xs : List D) : itemsOf S (.tup xs) = some xs := rfl
@[simp] theorem itemsOf_lst (S : Sto) (xs : List D) : itemsOf S (.lst xs) = some xs := rfl
@[simp] theorem itemsOf_wl (S : Sto) (xs : List D) : itemsOf S (.wl xs) = some xs := rfl
@[simp] theorem at_0 {α : Type} (a : α) (l : List α) : L2.atI (a :: l) 0 = some a := atI_nat (j := 0) rfl
@[simp] theorem at_1 {α : Type} (a b : α) (l : List α) : L2.atI (a :: b :: l) 1 = some b := atI_nat (j := 1) rfl
@[simp] theorem at_2 {α : Type} (a b c : α) (l : List α) : L2.atI (a :: b :: c :: l) 2 = some c := atI_nat (j := 2) rfl
@[simp] theorem at_last {α : Type} (l : List α) (a : α) : L2.atI (l ++ [a]) (-1) = some a := atI_last l a

@[simp] theorem fLen_lst (xs : List D) (S : Sto) : fLen [.lst xs] S = .ok (.int xs.length) S := rfl
@[simp] theorem fLen_tup (xs : List D) (S : Sto) : fLen [.tup xs] S = .ok (.int xs.length) S := rfl
def len2 (o : Option (List D)) (S : Sto) : Rs D := match o with
  | some xs => .ok (.int xs.length) S
  | none => .bad
@[simp] theorem fLen_ref (k : Nat) (S : Sto) : fLen [.ref k] S = len2 (itemsOf S (.ref k)) S := rfl
@[simp] theorem len2_ev (xs : List D) (S : Sto) : len2 (some xs) S = .ok (.int xs.length) S := rfl
def wopen (o : Option Ob) (j : Nat) (k : Nat → List D → Rs D) : Rs D := match o with
  | some (.lst xs) => k j xs
  | _ => .bad
theorem withOpen_ref (k : Nat) (S : Sto) (f : Nat → List D → Rs D) : withOpen (.ref k) S f = wopen S[k]? k f := rfl
@[simp] theorem wopen_ev (j : Nat) (xs : List D) (k : Nat → List D → Rs D) : wopen (some (.lst xs)) j k = k j xs := rfl
@[simp] theorem setAt_ev (k : Nat) (i : Int) (v : D) (S : Sto) : setAt (.ref k) (.int i) v S = wopen S[k]? k fun j xs => (match ixN xs.length i with
    | some n => .ok .non (S.set j (.lst (xs.set n v)))
    | none => .bad) := rfl
@[simp] theorem ixN_nat (n i : Nat) (h : i < n) : ixN n (i : Int) = some i := by
  unfold ixN
  rw [if_pos (by omega), if_pos (by omega)]
  simp
@[simp] theorem ixN_last (n : Nat) : ixN (n + 1) (-1) = some n := by
  unfold ixN
  rw [if_neg (by omega), if_pos (by omega)]
  congr 1
  omega
theorem size_of {n : Nat} (h : n ≤ 1000000) : sizeOk n = true := decide_eq_true (Nat.le_trans h (by decide))
theorem mkTup_ev {ds : List D} {S : Sto} (h : ds.length ≤ 1000000) : mkTup ds S = .ok (.tup ds) S := if_pos (size_of h)
theorem mkLst_ev {ds : List D} {S : Sto} (h : ds.length ≤ 1000000) : mkLst ds S = .ok (.lst ds) S := if_pos (size_of h)
theorem mkOpen_ev {ds : List D} {S : Sto} (h : ds.length ≤ 1000000) : mkOpen ds S = .ok (.ref S.length) (S ++ [.lst ds]) := if_pos (size_of h)
theorem guard_ev {c : Bool} {r : Rs D} (h : c = true) : guard c r = r := by subst h; rfl
theorem fAppend_ev {k : Nat} {xs : List D} {y : D} {S : Sto} (h : S[k]? = some (.lst xs)) (hl : xs.length < 1000000) : fAppend (.ref k) [y] S = .ok .non (S.set k (.lst (xs ++ [y]))) := by
  unfold fAppend
  simp only [withOpen_ref, h, wopen_ev]
  exact guard_ev (decide_eq_true (Nat.lt_of_lt_of_le hl (by decide)))
end DL
end

section
set_option Elab.async false
set_option linter.all false
set_option maxRecDepth 100000
set_option maxHeartbeats 4000000
/-! the ints of a list, each once, rising -/
namespace DL
open PySem PySem.Spec PyProof.Rows L2

section
variable {P : Program} {w : World} {A : Around} {E : Value → Shared → Prop} {s : Shared}
abbrev zSet (w : World) : Obj := { cls := .type "set", dict := none, data := .set #[] 0 (.fresh 0 0 (!w.params.followText "set-order")) }
abbrev zHp (w : World) (h : Heap) : Heap := h.push (zSet w)
set_option maxHeartbeats 3200000 in
theorem set_of_list {p : Addr} {vs : Array Value} (ns : List Int) {Q : Value → Shared → Prop} (hd : A.handled = none) (hp : s.heap.IsList p vs) (hv : IntsAre vs.toList ns) (hn : ns.length + 1 < scanBound)
    (h : ∀ (h' : Heap) (tk c : Nat), SetR w h' s.heap.objs.size (fun j => decide (j ∈ ns)) c → c ≤ ns.length → (∀ b o, s.heap.get? b = some o → h'.get? b = some o) → Q (.ref s.heap.objs.size) { s with heap := h', toks := tk }) :
    wpAny (model P w) A (call (.type "set") [.ref p]) Q E s := by
  have len : vs.size = ns.length := by
    have := IntsAre.length hv
    simpa using this
  obtain ⟨c0, tl0, mro0⟩ := F.called_set.mro
  have made0 := F.called_set.made
  have sub0 := F.called_set.sub
  refine wpAny_call (codeAny_of_tree ?_)
  show wpAny _ _ (callAny (.type "set") _) _ _ _
  refine wpAny_pure ⟨Code.quiet_builtin _ (by decide +kernel), codeAny_builtin F.entry_type_call ?_⟩
  rw [Around.under_plain (weight_type_call_type "set" [.ref p] []) rfl]
  have ty0 := F.called_set.notType
  have can0 := F.called_set.canCreate
  have chk0 := F.typeCall_set_1 (.ref p)
  repeat (any_goals (first | assumption | wp_step))
  refine codeAny_mono (code_set_led1 (.ref p) (E := E) (Q₁ := fun v t => v = .ref s.heap.objs.size ∧ t = { s with heap := zHp w s.heap }) ⟨rfl, rfl⟩) fun r t hr => ?_
  cases r with
  | error e => exact hr
  | ok fl =>
    cases fl with
    | ret v =>
      obtain ⟨rfl, rfl⟩ := hr
      have z1 : (zHp w s.heap).get? s.heap.objs.size = some (zSet w) := Heap.get?_push_size _ rfl
      have z2 : Shared.TypeIs { s with heap := zHp w s.heap } (.ref s.heap.objs.size) "set" := ⟨_, z1, rfl⟩
      have look0 := F.called_set.init.lookup
      have bind0 := F.called_set.init.bind (.ref s.heap.objs.size)
      repeat (any_goals (first | assumption | wp_step))
      refine codeAny_mono (codeAny_call_builtin (R := wants (fun r t => r = .none ∧ ∃ h' tk c, t = { s with heap := h', toks := tk } ∧ SetR w h' s.heap.objs.size (fun j => decide (j ∈ ns)) c ∧ c ≤ ns.length ∧
          (∀ b o, s.heap.get? b = some o → h'.get? b = some o)) E) F.called_set.init.plain F.entry_set_init (check_set_init_1 z2 ?_)) fun r t hr => ?_
      · obtain ⟨ol, gl, cl, nl, dl⟩ := hp
        obtain ⟨ocls, odict, odata, oslots⟩ := ol
        simp only at cl dl
        subst cl
        subst dl
        have gl' : (zHp w s.heap).get? p = some { cls := .type "list", dict := odict, data := .seq vs nl, slots := oslots } := Heap.get?_push_of_some _ gl
        have f1 := F.sub_list_set
        have f2 := F.sub_list_frozenset
        have f3 : (Value.type "list" == Value.type "dict") = false := by decide
        have hp1 : (zHp w s.heap).IsList p vs := ⟨_, gl', rfl, nl, rfl⟩
        unfold Builtin.«set.__init__» noKeywords Builtin.Frozenset.updateFrom
        generalize hPI : pyIter = PI
        wp_walk
        subst hPI
        refine wpAny_pyIter_list hp1 ?_
        refine wpAny_bind (wpAny_runValue ?_)
        have lt0 : p < s.heap.objs.size := Heap.lt_size gl
        have hd3 : A.in1.in1.in1.handled = none := by simp [hd]
        have ne0 : p ≠ (zHp w s.heap).objs.size := by
          rw [Heap.size_push]
          exact Nat.ne_of_lt (Nat.lt_succ_of_lt lt0)
        have nin : s.heap.objs.size ∉ [(zHp w s.heap).objs.size, p] := by
          rw [Heap.size_push]
          simp only [List.mem_cons, List.not_mem_nil, or_false, not_or]
          exact ⟨Nat.ne_of_lt (Nat.lt_succ_self _), fun e => Nat.lt_irrefl _ (e ▸ lt0)⟩
        have val0 : ∀ (i : Nat) (v : Value), vs[i]? = some v → ∃ k t, ns[i]? = some k ∧ v = .int k t := fun i v e => by
          have hi : i < ns.length := by
            rw [← len]
            exact (Array.getElem?_eq_some_iff.mp e).1
          obtain ⟨t, q⟩ := PyProof.Rows.IntsAre.int_at hv i v (by rw [Array.getElem?_toList] <;> exact e)
          refine ⟨ns[i], t, List.getElem?_eq_getElem hi, ?_⟩
          rw [q, List.getD_eq_getElem?_getD, List.getElem?_eq_getElem hi] <;> rfl
        refine set_update_ints ((Walks.list hd3 _ p ne0 vs).toS) s.heap.objs.size nin ns len hn val0 (vs.size - 0) 0 _ (by omega) (Nat.zero_le _) ⟨⟨_, Heap.get?_push_size _ rfl, rfl, rfl⟩, (hp1.push _)⟩ ?one ?two
        case one =>
          exact ⟨0, Nat.le_refl 0, setR_new_at (Heap.get?_push_of_some _ z1)⟩
        case two =>
          intro t c m hc hs
          obtain ⟨h', g2, d', tk', os'⟩ := t
          have eg : g2 = s.gens := m.gens
          have ed : d' = s.drawn := m.drawn
          have eo : os' = s.os := m.os
          subst eg ed eo
          show wpAny _ _ _ _ _ _
          refine wpAny_pure ?_
          show wpAny _ _ (ret Value.none) _ _ _
          rw [len] at hc
          refine wpAny_pure ⟨rfl, h', tk', c, rfl, hs, hc, fun b o e => ?_⟩
          have b0 : b < s.heap.objs.size := Heap.lt_size e
          have b1 : b ≠ (zHp w s.heap).objs.size := by
            rw [Heap.size_push]
            exact Nat.ne_of_lt (Nat.lt_succ_of_lt b0)
          exact m.heap b o (by simp only [List.mem_cons, List.not_mem_nil, or_false, not_or]; exact ⟨Nat.ne_of_lt b0, b1⟩) (Heap.get?_push_of_some _ (Heap.get?_push_of_some _ e))
      · cases r with
        | error e => exact hr
        | ok fl2 =>
          cases fl2 with
          | ret r =>
            obtain ⟨rfl, h', tk, c, rfl, q1, q2, q3⟩ := hr
            repeat (any_goals (first | assumption | wp_step))
            exact h _ _ _ q1 q2 q3
          | _ => exact hr.elim
    | _ => exact hr.elim
end

end DL
end

section
set_option Elab.async false
set_option linter.all false
set_option maxRecDepth 100000
set_option maxHeartbeats 4000000
namespace DL
open PySem PySem.Spec PyProof.Rows L2

/-- sorted(set(xs)), ints -/
def rSortSet (K : PySem.W.Frag) : List V → Hp → VK → Prop := fun vs H Q => ∃ (a : Addr) (ns : List Int), vs = [V.ref a] ∧ SqL K H a (ns.map V.int) ∧ ns.length < 64 ∧
  ∀ (out : List Int) (p : Addr), out.Pairwise (· < ·) → (∀ k : Int, k ∈ out ↔ k ∈ ns) → H p = none → Q (.ref p) (upd H p (.lst (out.map V.int)))
theorem pe_sortSet {X : Cx} {a : Expr} {ta : TA} {p p2 q pos : Pos} (hg : Gl X "sorted") (hm : X.mg "sorted" = none) (hg2 : Gl X "set") (hm2 : X.mg "set" = none) (ha : PA X [a] ta) (hc : X.calm = true)
    (na : starEach [a] X.env = (false, eval a X.env) :: starEach [] X.env := by rfl) : PE X (.Call (.Name "sorted" p) [.Call (.Name "set" p2) [a] [] q] [] pos) (fun σ H Q => ta σ H fun vs H1 => rSortSet X.K vs H1 Q) := by
  refine ⟨fun pins s σ H Q I h => ?_⟩
  refine Call_ (ld_blt I hg hm boot_sorted ?_)
  refine PyProof.Rows.callWith_builtin1 (PyProof.Rows.args_cons ?_ rfl) rfl rfl
  refine Call_ (ld_blt I hg2 hm2 boot_set (PyProof.Rows.callWith_type1 (thn (ha.run q pins s σ H _ I h) fun us s1 ⟨vs, H1, I1, r1, q1⟩ => ?_) na rfl))
  obtain ⟨l, ns, rfl, hq, hl, q1⟩ := q1
  rw [Vals.ref1 r1]
  obtain ⟨its, r, pl, hz⟩ := I1.list hq
  have hi : IntsAre its.toArray.toList ns := ints_of_vals r
  have hd := I1.ok.hd hc
  refine set_of_list ns hd pl.isList hi (by unfold scanBound; omega) fun h' tk c R hcn k => ?_
  refine PyProof.Rows.args_nil ?_
  have I2 : Inv X pins σ H1 { s1 with heap := h', toks := tk } := I1.kept fun b o e => k b o e
  refine sorted_set R (I2.ok.hd hc) (by omega) fun t p out n2 ns2 k2 g o hp hg2 hi2 hs hm2 hl2 => ?_
  have hlen : (ns2.map V.int).length ≤ sizeLine := by
    rw [List.length_map, hl2, sizeLine_eq]
    omega
  have hn : H1 p = none := I2.hok.fresh hp
  have J : Inv X pins σ (upd H1 p (.lst (ns2.map V.int))) { ({ s1 with heap := h', toks := tk } : Shared) with heap := t.heap, gens := t.gens, drawn := t.drawn, toks := t.toks } :=
    I2.call (ch := []) (Un.laid k2 hp hn) (I2.hok.laid k2 hp ⟨hlen, out.toList, n2, vals_of_ints hi2, hg2⟩) (by rw [g]; exact I2.bare) (fun _ z => nomatch z)
  have e : t = { s1 with heap := t.heap, gens := t.gens, drawn := t.drawn, toks := t.toks } := by
    cases t
    cases s1
    cases o
    rfl
  rw [e]
  exact ⟨.ref p, _, J, rfl, q1 ns2 p hs (fun k => by rw [hm2, decide_eq_true_eq]) hn⟩

/-- the ints of a list, each once, rising -/
def oneI (n : Int) : List Int → List Int
  | [] => [n]
  | m :: ms => if n < m then n :: m :: ms else if n = m then m :: ms else m :: oneI n ms
def setI : List Int → List Int
  | [] => []
  | n :: ns => oneI n (setI ns)
theorem oneI_mem (n k : Int) : ∀ ms : List Int, k ∈ oneI n ms ↔ k = n ∨ k ∈ ms
  | [] => by simp [oneI]
  | m :: ms => by
    unfold oneI
    split
    · simp
    · split
      · rename_i h
        subst h
        simp
      · rw [List.mem_cons, List.mem_cons, oneI_mem n k ms]
        constructor
        · rintro (h | h | h)
          · exact .inr (.inl h)
          · exact .inl h
          · exact .inr (.inr h)
        · rintro (h | h | h)
          · exact .inr (.inl h)
          · exact .inl h
          · exact .inr (.inr h)
theorem oneI_up (n : Int) : ∀ ms : List Int, ms.Pairwise (· < ·) → (oneI n ms).Pairwise (· < ·)
  | [], _ => List.pairwise_singleton _ _
  | m :: ms, h => by
    obtain ⟨h1, h2⟩ := List.pairwise_cons.mp h
    unfold oneI
    split
    · rename_i hn
      exact List.pairwise_cons.mpr ⟨fun k hk => by
        rcases List.mem_cons.mp hk with rfl | hk
        · exact hn
        · have := h1 k hk
          omega, h⟩
    · split
      · exact h
      · refine List.pairwise_cons.mpr ⟨fun k hk => ?_, oneI_up n ms h2⟩
        rcases (oneI_mem n k ms).mp hk with rfl | hk
        · omega
        · exact h1 k hk
theorem setI_mem (k : Int) : ∀ ns : List Int, k ∈ setI ns ↔ k ∈ ns
  | [] => Iff.rfl
  | n :: ns => by
    unfold setI
    rw [oneI_mem, setI_mem k ns, List.mem_cons]
theorem setI_up : ∀ ns : List Int, (setI ns).Pairwise (· < ·)
  | [] => List.Pairwise.nil
  | n :: ns => oneI_up n _ (setI_up ns)
theorem up_uniq : ∀ {a b : List Int}, a.Pairwise (· < ·) → b.Pairwise (· < ·) → (∀ k, k ∈ a ↔ k ∈ b) → a = b
  | [], [], _, _, _ => rfl
  | [], y :: b, _, _, h => absurd ((h y).mpr (List.mem_cons_self ..)) List.not_mem_nil
  | x :: a, [], _, _, h => absurd ((h x).mp (List.mem_cons_self ..)) List.not_mem_nil
  | x :: a, y :: b, ha, hb, h => by
    obtain ⟨a1, a2⟩ := List.pairwise_cons.mp ha
    obtain ⟨b1, b2⟩ := List.pairwise_cons.mp hb
    have e : x = y := by
      rcases List.mem_cons.mp ((h x).mp (List.mem_cons_self ..)) with q | q
      · exact q
      · rcases List.mem_cons.mp ((h y).mpr (List.mem_cons_self ..)) with q2 | q2
        · exact q2.symm
        · have := a1 y q2
          have := b1 x q
          omega
    subst e
    rw [up_uniq a2 b2 fun k => by
      constructor
      · intro hk
        rcases List.mem_cons.mp ((h k).mp (List.mem_cons_of_mem _ hk)) with q | q
        · have := a1 k hk
          omega
        · exact q
      · intro hk
        rcases List.mem_cons.mp ((h k).mpr (List.mem_cons_of_mem _ hk)) with q | q
        · have := b1 k hk
          omega
        · exact q]
def srtSet (d : D) (S : Sto) : Rs D := DL.withItems d S fun xs => match insOf xs with
  | some ns => if isTupD d then .bad else guard (decide (ns.length < 64)) (mkLst ((setI ns).map D.int) S)
  | none => .bad
def fSortSet : C3 := c1 srtSet
theorem fSortSet_s {K : PySem.W.Frag} : CallS K (rSortSet K) fSortSet := c1_s fun W sv w u d S H Q z r q => by
  obtain ⟨xs, a0, vs0, he, e0, ra0, hs0, hk⟩ := withItems_s z r q
  cases ei : insOf xs with
  | none => simp only [ei] at hk; exact False.elim hk
  | some ns =>
    simp only [ei] at hk
    have ex := insOf_eq ei
    subst ex
    by_cases t : isTupD d = true
    · rw [if_pos t] at hk
      exact False.elim hk
    · rw [if_neg t] at hk
      obtain ⟨hl, hk⟩ := guard_s hk
      have hl := of_decide_eq_true hl
      obtain ⟨a, vs, rfl, ra, hs⟩ := items_list z r he (by simpa using t)
      have ev := rep_ints ra
      subst ev
      refine ⟨a, ns, rfl, hs, hl, fun out p g1 g2 np => ?_⟩
      have e : out = setI ns := up_uniq g1 (setI_up ns) fun k => by rw [g2, setI_mem]
      subst e
      exact (mkLst_s hk z (repInts _)).2 p np
theorem e_sortSet {X : Cx} {W : WX} {a : Expr} {ms : A3} {p p2 q pos : Pos} (hc : X.calm = true) (hg : Gl X "sorted") (hm : X.mg "sorted" = none) (hg2 : Gl X "set") (hm2 : X.mg "set" = none) (ha : PA3 X W [a] ms)
    (na : starEach [a] X.env = (false, eval a X.env) :: starEach [] X.env := by rfl) : PE3 X W (.Call (.Name "sorted" p) [.Call (.Name "set" p2) [a] [] q] [] pos) (mMake fSortSet ms) :=
  PE.imp (pe_sortSet hg hm hg2 hm2 ha hc na) fun sv H Q h => call3 fSortSet_s sv H Q h
end DL
end

section
set_option Elab.async false
set_option linter.all false
set_option maxRecDepth 100000
set_option maxHeartbeats 4000000
/-! list(zip(xs, ys)) -/
namespace DL
open PySem PySem.Spec PyProof.Rows L2

/-- an object of ours that was not tracked is tracked from now on -/
theorem inv_own {X : Cx} {pins : List (Addr × Obj)} {σ : L2.St} {H : Hp} {s : Shared} {T : Addr} {ob : HO} (I : Inv X pins σ H s) (hf : FpOk X pins H T) (new : ObjOk X.prog X.w (upd H T ob) s.heap T ob) : Inv X pins σ (upd H T ob) s := by
  have hn : H T = none := hf.1
  have other : ∀ {b : Addr} {u : HO}, H b = some u → upd H T ob b = some u := fun {b u} e => by
    rw [upd_ne (ne_of_none e hn)]
    exact e
  have st : Inv X pins σ (upd H T ob) { s with heap := s.heap, gens := s.gens, drawn := s.drawn, toks := s.toks } := by
    refine I.step (ch := [T]) (fun b hb => ?_) (fun b o _ _ _ e _ => e) (fun b o _ _ _ e _ => ⟨o.slots, e⟩) (fun b o hc _ n => ?_) (fun b o _ e => ⟨o, e⟩) (fun b xs e => other e) (fun b o u e => other e) (fun b ps e => ⟨#[], ?_⟩) (fun m hm => hm) (fun b u e => ?_) I.bare
    · have e : b = T := List.mem_singleton.mp hb
      rw [e]
      exact ⟨hf.2.2.2.1, hf.2.1, hf.2.2.2.2.1, hf.2.2.2.2.2⟩
    · rw [upd_ne fun e => hc (List.mem_singleton.mpr e)]
      exact n
    · rw [other e]
      simp
    · by_cases hb : b = T
      · subst hb
        rw [upd_same] at e
        cases e
        exact new
      · rw [upd_ne hb] at e
        exact (I.hok b u e).stay (fun c v _ q => q) (fun c q => other q) fun c xs q => other q
  exact st

abbrev LsO (vs : Array Value) (c : Nat) : Obj := { cls := .type "list", dict := none, data := .seq vs c, slots := #[] }
/-- where a zip of two lists stands, i pairs told -/
def Zst (h : Heap) (z TI TO i1 i2 a b : Addr) (i : Nat) : Prop :=
  ((IsZip h z TI TO .none ∧ ∃ x y, IsPair h TO x y) ∨ ∃ T f oT, IsZipHeld h z TI TO T f ∧ h.get? T = some oT) ∧ IsPair h TI (.ref i1) (.ref i2) ∧ h.IsListIter i1 a i ∧ h.IsListIter i2 b i ∧ ∃ o, h.get? TO = some o
theorem zst_next {P : Program} {w : World} {A : Around} {E : Value → Shared → Prop} {s : Shared} {z TI TO i1 i2 a b : Addr} {i : Nat} {xs ys : Array Value} {x y : Value} {Q : Option Value → Shared → Prop} (D : ZipApart z TI TO i1 i2 a b)
    (st : Zst s.heap z TI TO i1 i2 a b i) (h1 : s.heap.IsList a xs) (h2 : s.heap.IsList b ys) (hx : xs[i]? = some x) (hy : ys[i]? = some y)
    (hQ : ∀ h', Zst h' z TI TO i1 i2 a b (i + 1) → IsPair h' s.heap.objs.size x y → (∀ c o, c ∉ [z, TO, i1, i2] → s.heap.get? c = some o → h'.get? c = some o) → Q (some (.ref s.heap.objs.size)) { s with heap := h' }) :
    wpAny (model P w) A (pyNext (.ref z)) Q E s := by
  obtain ⟨hz, hTI, k1, k2, oO, hO⟩ := st
  rcases hz with ⟨hz, x0, y0, hTO⟩ | ⟨T, f, oT, hz, hT⟩
  · refine wpAny_pyNext_zip_item D hz hTI hTO k1 k2 h1 h2 hx hy fun h' a1 a2 a3 a4 a5 _ a6 => ?_
    refine hQ h' ⟨.inr ⟨_, false, _, a1, a5⟩, a6 _ _ D.TIz D.TITO D.TIi1 D.TIi2 hTI, a3, a4, _, a2⟩ a5 fun c o hc e => ?_
    simp only [List.mem_cons, List.not_mem_nil, or_false, not_or] at hc
    exact a6 c o hc.1 hc.2.1 hc.2.2.1 hc.2.2.2 e
  · refine wpAny_pyNext_zip_item_held D hz hT hTI k1 k2 h1 h2 hx hy fun h' a1 a3 a4 a5 _ a6 => ?_
    have sz : ∀ {c o}, s.heap.get? c = some o → s.heap.objs.size ≠ c := fun e => Nat.ne_of_gt (Heap.lt_size e)
    have hT' : ∃ oT', h'.get? T = some oT' := by
      by_cases e1 : T = z
      · rw [e1]; exact ⟨_, a1⟩
      · by_cases e2 : T = i1
        · rw [e2]; obtain ⟨o, q, _⟩ := a3; exact ⟨o, q⟩
        · by_cases e3 : T = i2
          · rw [e3]; obtain ⟨o, q, _⟩ := a4; exact ⟨o, q⟩
          · exact ⟨_, a6 _ _ e1 e2 e3 hT⟩
    obtain ⟨oT', hT'⟩ := hT'
    refine hQ h' ⟨.inr ⟨T, true, oT', a1, hT'⟩, a6 _ _ D.TIz D.TIi1 D.TIi2 hTI, a3, a4, oO, a6 _ _ D.TOz D.TOi1 D.TOi2 hO⟩ a5 fun c o hc e => ?_
    simp only [List.mem_cons, List.not_mem_nil, or_false, not_or] at hc
    exact a6 c o hc.1 hc.2.2.1 hc.2.2.2 e
theorem zst_end {P : Program} {w : World} {A : Around} {E : Value → Shared → Prop} {s : Shared} {z TI TO i1 i2 a b : Addr} {i : Nat} {xs ys : Array Value} {Q : Option Value → Shared → Prop} (hh : A.handled = none) (D : ZipApart z TI TO i1 i2 a b)
    (st : Zst s.heap z TI TO i1 i2 a b i) (h1 : s.heap.IsList a xs) (h2 : s.heap.IsList b ys) (he : xs[i]? = none ∨ ys[i]? = none)
    (hQ : ∀ h', (∀ c o, c ∉ [z, TO, i1, i2] → s.heap.get? c = some o → h'.get? c = some o) → Q none { s with heap := h' }) :
    wpAny (model P w) A (pyNext (.ref z)) Q E s := by
  obtain ⟨hz, hTI, k1, k2, oO, hO⟩ := st
  rcases hz with ⟨hz, x0, y0, hTO⟩ | ⟨T, f, oT, hz, hT⟩
  · refine wpAny_pyNext_zip_end hh D hz hTI hTO k1 k2 h1 h2 he fun h' a6 => hQ h' fun c o hc e => ?_
    simp only [List.mem_cons, List.not_mem_nil, or_false, not_or] at hc
    exact a6 c o hc.1 hc.2.1 hc.2.2.1 hc.2.2.2 e
  · refine wpAny_pyNext_zip_end_held hh D hz hT hTI k1 k2 h1 h2 he fun h' a6 => hQ h' fun c o hc e => ?_
    simp only [List.mem_cons, List.not_mem_nil, or_false, not_or] at hc
    exact a6 c o hc.1 hc.2.2.1 hc.2.2.2 e
theorem zst_keep {h h' : Heap} {z TI TO i1 i2 a b : Addr} {i : Nat} (st : Zst h z TI TO i1 i2 a b i) (k : ∀ c o, h.get? c = some o → ∃ o', h'.get? c = some o') (k2 : ∀ c o, c ∈ [z, TI, TO, i1, i2] → h.get? c = some o → h'.get? c = some o) : Zst h' z TI TO i1 i2 a b i := by
  obtain ⟨hz, hTI, h1, h2, oO, hO⟩ := st
  refine ⟨?_, k2 _ _ (by simp) hTI, h1.at fun o e => k2 _ o (by simp) e, h2.at fun o e => k2 _ o (by simp) e, oO, k2 _ _ (by simp) hO⟩
  rcases hz with ⟨hz, x0, y0, hTO⟩ | ⟨T, f, oT, hz, hT⟩
  · exact .inl ⟨k2 _ _ (by simp) hz, x0, y0, k2 _ _ (by simp) hTO⟩
  · obtain ⟨o', e'⟩ := k _ _ hT
    exact .inr ⟨T, f, o', k2 _ _ (by simp) hz, e'⟩
end DL
end

section
set_option Elab.async false
set_option linter.all false
set_option maxRecDepth 100000
set_option maxHeartbeats 4000000
namespace DL
open PySem PySem.Spec PyProof.Rows L2

/-- what the pairs of two lists keep: told step by step -/
structure Zip2 (K : PySem.W.Frag) (a b : Addr) (xs ys : List V) (Pv : Nat → List V → Hp → Prop) : Prop where
  have_ : ∀ {i vs H}, Pv i vs H → SqL K H a xs ∧ SqL K H b ys
  step : ∀ {i vs H x y T}, Pv i vs H → xs[i]? = some x → ys[i]? = some y → H T = none → Pv (i + 1) (vs ++ [.ref T]) (upd H T (.tup [x, y]))
section
variable {X : Cx} {pins : List (Addr × Obj)} {σ : L2.St} {a b z TI TO i1 i2 l : Addr} {xs ys : List V} {Pv : Nat → List V → Hp → Prop} {n : Nat} {A : Around} {res : Value}
theorem vals_snoc {u : Value} {v : V} (r : RelV v u) : ∀ {vs : List V} {us : List Value}, Vals vs us → Vals (vs ++ [v]) (us ++ [u])
  | _, _, .nil => .cons r .nil
  | _, _, .cons q t => .cons q (vals_snoc r t)
theorem zip_loop {R : Result → Shared → Prop} (D : ZipApart z TI TO i1 i2 a b) (hd : A.handled = none) (Z : Zip2 X.K a b xs ys Pv) (hn : n = min xs.length ys.length) (hz : n ≤ sizeLine) (hl : l ∉ [z, TI, TO, i1, i2]) :
    ∀ (k i : Nat) (s : Shared) (H : Hp) (vs : List V) (us : List Value) (c : Nat), n - i = k → i ≤ n → Inv X pins σ H s → Pv i vs H → Zst s.heap z TI TO i1 i2 a b i → (∀ d ∈ [l, z, TI, TO, i1, i2], FpOk X pins H d) →
      s.heap.get? l = some (LsO us.toArray c) → Vals vs us → vs.length = i →
      (∀ s' H' vs' us' c', Inv X pins σ H' s' → Pv n vs' H' → s'.heap.get? l = some (LsO us'.toArray c') → Vals vs' us' → vs'.length = n → FpOk X pins H' l → R (.ok (.ret res)) s') →
      codeAny (model X.prog X.w) A (.builtin "list.extend.loop" ⟨[.ref l, .ref z, res], []⟩) R s := by
  have hl' : l ≠ z ∧ l ≠ TI ∧ l ≠ TO ∧ l ≠ i1 ∧ l ≠ i2 := by simpa using hl
  intro k
  induction k with
  | zero =>
    intro i s H vs us c hk hi I hp st hf hls r hvl hR
    have e : i = n := by omega
    subst e
    obtain ⟨hx, hy⟩ := Z.have_ hp
    obtain ⟨its, rv, p1, _⟩ := I.list hx
    obtain ⟨its2, rv2, p2, _⟩ := I.list hy
    have q1 := rv.length
    have q2 := rv2.length
    refine codeAny_builtin F.entry_extend_loop ?_
    rw [Around.under_plainId F.plain_extend_loop _]
    show wpAny _ A.in1 (pyNext (.ref z) >>= _) _ _ s
    refine wpAny_bind (zst_end (by simp [hd]) D st p1.isList p2.isList ?_ fun h' kk => ?_)
    · rcases Nat.le_total xs.length ys.length with q | q
      · left
        rw [Nat.min_eq_left q] at hn
        simp
        omega
      · right
        rw [Nat.min_eq_right q] at hn
        simp
        omega
    · have J : Inv X pins σ H { s with heap := h', toks := s.toks } := I.turnedL (ch := [z, TO, i1, i2]) kk fun d hd' => hf d (by
        simp only [List.mem_cons, List.not_mem_nil, or_false] at hd' ⊢
        rcases hd' with q | q | q | q <;> simp [q])
      exact wpAny_pure (hR _ _ _ _ _ J hp (kk l _ (by simp [hl']) hls) r hvl (hf l (by simp)))
  | succ k ih =>
    intro i s H vs us c hk hi I hp st hf hls r hvl hR
    have hlt : i < n := by omega
    obtain ⟨hx, hy⟩ := Z.have_ hp
    obtain ⟨its, rv, p1, _⟩ := I.list hx
    obtain ⟨its2, rv2, p2, _⟩ := I.list hy
    have hxi : i < xs.length := Nat.lt_of_lt_of_le hlt (by rw [hn]; exact Nat.min_le_left ..)
    have hyi : i < ys.length := Nat.lt_of_lt_of_le hlt (by rw [hn]; exact Nat.min_le_right ..)
    obtain ⟨u, hu, ru⟩ := rv.get (List.getElem?_eq_getElem hxi)
    obtain ⟨u2, hu2, ru2⟩ := rv2.get (List.getElem?_eq_getElem hyi)
    refine codeAny_builtin F.entry_extend_loop ?_
    rw [Around.under_plainId F.plain_extend_loop _]
    show wpAny _ A.in1 (pyNext (.ref z) >>= _) _ _ s
    refine wpAny_bind (zst_next D st p1.isList p2.isList (x := u) (y := u2) (by simpa using hu) (by simpa using hu2) fun h' st' hT kk => ?_)
    have hls' := kk l _ (by simp [hl']) hls
    show wpAny _ A.in1 (updateSeq l (·.push (.ref s.heap.objs.size)) >>= _) _ _ _
    refine wpAny_bind ?_
    have us_len : us.length = i := by rw [← r.length, hvl]
    have lsz : us.toArray.size = i := by simpa using us_len
    have lT : l ≠ s.heap.objs.size := fun e => Nat.lt_irrefl _ (e ▸ Heap.lt_size hls)
    refine wpAny_updateSeq (s := { s with heap := h' }) hls' rfl (wpAny_pure ⟨plainId_quiet F.plain_extend_loop _, ?_⟩) (by rw [lsz]; omega) (by show (us.toArray.push _).size ≤ sizeLine + 1; rw [Array.size_push, lsz]; omega)
    have ot : ∀ d o, d ≠ l → h'.get? d = some o → (h'.update l (Obj.mapSeq (·.push (Value.ref s.heap.objs.size)))).get? d = some o := fun d o hne e => (Heap.get?_update_other _ _ (Ne.symm hne)).trans e
    obtain ⟨c', lnew⟩ : ∃ c', (h'.update l (Obj.mapSeq (·.push (Value.ref s.heap.objs.size)))).get? l = some (LsO (us ++ [Value.ref s.heap.objs.size]).toArray c') := by
      rw [Heap.get?_update_self _ hls' rfl]
      exact ⟨_, by simp [Obj.mapSeq]; rfl⟩
    have tnew : (h'.update l (Obj.mapSeq (·.push (Value.ref s.heap.objs.size)))).get? s.heap.objs.size = some { cls := .type "tuple", data := .seq #[u, u2] } := ot _ _ (Ne.symm lT) hT
    have new : ObjOk X.prog X.w (upd H s.heap.objs.size (.tup [xs[i], ys[i]])) (h'.update l (Obj.mapSeq (·.push (Value.ref s.heap.objs.size)))) s.heap.objs.size (.tup [xs[i], ys[i]]) :=
      ⟨by show 2 ≤ sizeLine; decide, [u, u2], .cons ru (.cons ru2 .nil), ⟨_, tnew, rfl, _, rfl⟩⟩
    have J : Inv X pins σ (upd H s.heap.objs.size (.tup [xs[i], ys[i]])) { s with heap := h'.update l (Obj.mapSeq (·.push (Value.ref s.heap.objs.size))), toks := s.toks } :=
      I.turnedNew (ch := [l, z, TO, i1, i2]) (fun d o hd' e => by
        simp only [List.mem_cons, List.not_mem_nil, or_false, not_or] at hd'
        exact ot d o hd'.1 (kk d o (by simp [hd'.2]) e)) (fun d hd' => hf d (by
          simp only [List.mem_cons, List.not_mem_nil, or_false] at hd' ⊢
          rcases hd' with q | q | q | q | q <;> simp [q])) (Nat.le_refl _) new
    have alive : ∀ d ∈ [l, z, TI, TO, i1, i2], d < s.heap.objs.size := fun d hd' => by
      obtain ⟨hz0, hTI, ⟨o1, e1, _⟩, ⟨o2, e2, _⟩, oO, hO⟩ := st
      simp only [List.mem_cons, List.not_mem_nil, or_false] at hd'
      rcases hd' with q | q | q | q | q | q
      · rw [q]; exact Heap.lt_size hls
      · rw [q]
        rcases hz0 with ⟨hz0, _⟩ | ⟨_, _, _, hz0, _⟩ <;> exact Heap.lt_size hz0
      · rw [q]; exact Heap.lt_size hTI
      · rw [q]; exact Heap.lt_size hO
      · rw [q]; exact Heap.lt_size e1
      · rw [q]; exact Heap.lt_size e2
    refine ih (i + 1) _ _ (vs ++ [V.ref s.heap.objs.size]) (us ++ [Value.ref s.heap.objs.size]) c' (by omega) hlt J (Z.step hp (List.getElem?_eq_getElem hxi) (List.getElem?_eq_getElem hyi) (I.hok.fresh (Nat.le_refl _)))
      (zst_keep st' (fun d o e => ?_) fun d o hd' e => ?_) (fun d hd' => ?_) lnew (vals_snoc (v := V.ref s.heap.objs.size) (u := Value.ref s.heap.objs.size) rfl r) (by rw [List.length_append, hvl]; rfl) hR
    · by_cases q : d = l
      · rw [q]; exact ⟨_, lnew⟩
      · exact ⟨o, ot d o q e⟩
    · refine ot d o (fun q => hl (q ▸ hd')) e
    · have h1 := hf d hd'
      exact ⟨by rw [upd_ne (Nat.ne_of_lt (alive d hd'))]; exact h1.1, h1.2⟩
end
end DL
end

section
set_option Elab.async false
set_option linter.all false
set_option maxRecDepth 100000
set_option maxHeartbeats 4000000
namespace DL
open PySem PySem.Spec PyProof.Rows L2

theorem zip_nolen : typeLookup (.type "zip") "__len__" = pure none := by rw [typeLookup_type, builtinLookup_eq_fast]; kernel_rfl
theorem zip_nohint : typeLookup (.type "zip") "__length_hint__" = pure none := by rw [typeLookup_type, builtinLookup_eq_fast]; kernel_rfl
section
variable {X : Cx} {pins : List (Addr × Obj)} {σ : L2.St} {a b z TI TO i1 i2 l : Addr} {xs ys : List V} {Pv : Nat → List V → Hp → Prop} {n : Nat} {A : Around} {res : Value}
theorem zst_type {h : Heap} {i : Nat} (st : Zst h z TI TO i1 i2 a b i) : ∃ o, h.get? z = some o ∧ o.cls = .type "zip" := by
  rcases st.1 with ⟨q, _⟩ | ⟨_, _, _, q, _⟩
  · exact ⟨_, q, rfl⟩
  · exact ⟨_, q, rfl⟩
theorem zip_extend {R : Result → Shared → Prop} {s : Shared} {H : Hp} {c : Nat} (D : ZipApart z TI TO i1 i2 a b) (hd : A.handled = none) (Z : Zip2 X.K a b xs ys Pv) (hn : n = min xs.length ys.length) (hz : n ≤ sizeLine) (hl : l ∉ [z, TI, TO, i1, i2])
    (I : Inv X pins σ H s) (hp : Pv 0 [] H) (z0 : IsZip s.heap z TI TO .none) (st : Zst s.heap z TI TO i1 i2 a b 0) (hf : ∀ d ∈ [l, z, TI, TO, i1, i2], FpOk X pins H d) (hls : s.heap.get? l = some (LsO #[] c))
    (hR : ∀ s' H' vs' us' c', Inv X pins σ H' s' → Pv n vs' H' → s'.heap.get? l = some (LsO us'.toArray c') → Vals vs' us' → vs'.length = n → FpOk X pins H' l → R (.ok (.ret res)) s') :
    wpAny (model X.prog X.w) A.in1 (Builtin.List.listExtendWith (.ref l) (.ref z) res)
      (fun fin s' => match fin with | .done f => R (.ok f) s' | .again c' => c'.quiet = true ∧ codeAny (model X.prog X.w) A c' R s') (fun e s' => R (.error e) s') s := by
  have hl' : l ≠ z ∧ l ≠ TI ∧ l ≠ TO ∧ l ≠ i1 ∧ l ≠ i2 := by simpa using hl
  have ty : s.TypeIs (.ref z) "zip" := zst_type st
  unfold Builtin.List.listExtendWith
  refine wpAny_bind (wpAny_typeOf ty ?_)
  have n1 : Builtin.List.listSameRef (.ref l) (.ref z) = false := by simp [Builtin.List.listSameRef, hl'.1]
  have n2 : (Value.type "zip" == Value.type "list") = false := by decide
  have n3 : (Value.type "zip" == Value.type "tuple") = false := by decide
  simp only [n1, n2, n3, Bool.or_false, Bool.false_eq_true, if_false]
  refine wpAny_bind (wpAny_pyIter_zip z0 ?_)
  refine wpAny_bind (wpAny_holding ?_)
  unfold Builtin.List.listLengthHint
  refine wpAny_bind (wpAny_specialOf ty zip_nolen ?_)
  show wpAny _ A.in1 (specialOf (Value.ref z) (Str.ofString "__length_hint__") >>= _) _ _ _
  refine wpAny_bind (wpAny_specialOf ty zip_nohint ?_)
  refine wpAny_pure ?_
  show wpAny _ A.in1 (rule "list.extend.makes-room" >>= fun _ => Builtin.List.listTouch (.ref l) >>= fun _ => again (.builtin "list.extend.loop" ⟨[.ref l, .ref z, res], []⟩)) _ _ _
  refine wpAny_bind (wpAny_rule ?_)
  refine wpAny_bind ?_
  show wpAny _ A.in1 (updateSeq l (·.push .none) >>= fun _ => updateSeq l (·.pop)) _ _ _
  refine wpAny_bind (wpAny_updateSeq hls rfl ?_)
  have hls2 := Heap.get?_update_self (Obj.mapSeq (·.push Value.none)) hls rfl
  refine wpAny_updateSeq (hz := by seq_fits) hls2 rfl ?_
  have hls3 := Heap.get?_update_self (Obj.mapSeq (·.pop)) hls2 rfl
  have ot : ∀ d o, d ≠ l → s.heap.get? d = some o → ((s.heap.update l (Obj.mapSeq (·.push Value.none))).update l (Obj.mapSeq (·.pop))).get? d = some o := fun d o hne e =>
    (Heap.get?_update_other _ _ (Ne.symm hne)).trans ((Heap.get?_update_other _ _ (Ne.symm hne)).trans e)
  have J : Inv X pins σ H { s with heap := (s.heap.update l (Obj.mapSeq (·.push Value.none))).update l (Obj.mapSeq (·.pop)), toks := s.toks } :=
    I.turnedL (ch := [l]) (fun d o hd' e => ot d o (by simpa using hd') e) fun d hd' => hf d (by simp only [List.mem_singleton] at hd'; simp [hd'])
  refine wpAny_pure ⟨plainId_quiet F.plain_extend_loop _, ?_⟩
  refine zip_loop D hd Z hn hz hl n 0 _ H [] [] _ (by omega) (Nat.zero_le _) J hp (zst_keep st (fun d o e => ?_) fun d o hd' e => ot d o (fun q => hl (q ▸ hd')) e) hf hls3 .nil rfl hR
  by_cases q : d = l
  · rw [q]; exact ⟨_, hls3⟩
  · exact ⟨o, ot d o q e⟩
theorem call_listZip {s : Shared} {E : Value → Shared → Prop} {H : Hp} {Q : Value → Shared → Prop} (D : ZipApart z TI TO i1 i2 a b) (hd : A.handled = none) (Z : Zip2 X.K a b xs ys Pv) (hn : n = min xs.length ys.length) (hz : n ≤ sizeLine)
    (I : Inv X pins σ H s) (hp : Pv 0 [] H) (z0 : IsZip s.heap z TI TO .none) (st : Zst s.heap z TI TO i1 i2 a b 0) (hf : ∀ d ∈ [z, TI, TO, i1, i2], FpOk X pins H d ∧ d < s.heap.objs.size)
    (hQ : ∀ s' H' vs', Inv X pins σ (upd H' s.heap.objs.size (.lst vs')) s' → Pv n vs' H' → H' s.heap.objs.size = none → Q (.ref s.heap.objs.size) s') :
    wpAny (model X.prog X.w) A (call (.type "list") [.ref z]) Q E s := by
  have hl : s.heap.objs.size ∉ [z, TI, TO, i1, i2] := fun e => Nat.lt_irrefl _ (hf _ e).2
  refine callType_codes (Q₁ := fun obj s₁ => obj = .ref s.heap.objs.size ∧ s₁ = { s with heap := s.heap.push { cls := .type "list", data := .seq #[] } }) F.called_list (F.typeCall_list_1 _) F.entry_list_init (code_list_new _ ⟨rfl, rfl⟩) fun obj t ht => ?_
  obtain ⟨rfl, rfl⟩ := ht
  have hls : (s.heap.push { cls := .type "list", data := .seq #[] }).get? s.heap.objs.size = some { cls := .type "list", data := .seq #[] } := Heap.get?_push_size _ rfl
  have kp : ∀ d o, s.heap.get? d = some o → (s.heap.push { cls := .type "list", data := .seq #[] }).get? d = some o := fun d o e => Heap.get?_push_of_some _ e
  have J : Inv X pins σ H { s with heap := s.heap.push { cls := .type "list", data := .seq #[] }, toks := s.toks } := I.kept kp
  have fl : FpOk X pins H s.heap.objs.size := I.fpOk (Nat.le_refl _) (I.hok.fresh (Nat.le_refl _))
  refine ⟨⟨_, hls, rfl⟩, F.args_list_init_2 _ _, ?_⟩
  show wpAny _ A.in1.in1 (do let old ← Builtin.List.listItems (.ref s.heap.objs.size); Builtin.List.listUpdate (.ref s.heap.objs.size) (fun _ => #[]); letGo old.toList.reverse; Builtin.List.listExtendWith (.ref s.heap.objs.size) (.ref z) .none) _ _ _
  refine wpAny_bind ?_
  unfold Builtin.List.listItems
  refine wpAny_bind (wpAny_seqItems hls rfl (wpAny_pure ?_))
  show wpAny _ A.in1.in1 (updateSeq s.heap.objs.size (fun _ => #[]) >>= fun _ => letGo (#[] : Array Value).toList.reverse >>= fun _ => Builtin.List.listExtendWith (.ref s.heap.objs.size) (.ref z) .none) _ _ _
  refine wpAny_bind (wpAny_updateSeq hls rfl ?_)
  have hls2 := Heap.get?_update_self (Obj.mapSeq (fun _ => (#[] : Array Value))) hls rfl
  have ot : ∀ d o, d ≠ s.heap.objs.size → (s.heap.push { cls := .type "list", data := .seq #[] }).get? d = some o → ((s.heap.push { cls := .type "list", data := .seq #[] }).update s.heap.objs.size (Obj.mapSeq (fun _ => (#[] : Array Value)))).get? d = some o :=
    fun d o hne e => (Heap.get?_update_other _ _ (Ne.symm hne)).trans e
  refine wpAny_bind (wpAny_letGo ?_)
  have J2 : Inv X pins σ H { ({ s with heap := s.heap.push { cls := .type "list", data := .seq #[] } } : Shared) with heap := (s.heap.push { cls := .type "list", data := .seq #[] }).update s.heap.objs.size (Obj.mapSeq (fun _ => (#[] : Array Value))), toks := s.toks } :=
    J.turnedL (ch := [s.heap.objs.size]) (fun d o hd' e => ot d o (by simpa using hd') e) fun d hd' => by
      rw [List.mem_singleton.mp hd']
      exact fl
  refine zip_extend (A := A.in1) D (by simp [hd]) Z hn hz hl J2 hp (ot _ _ (fun q => hl (by simp [q])) (kp _ _ z0)) (zst_keep st (fun d o e => ⟨o, ot d o (Nat.ne_of_lt (Heap.lt_size e)) (kp d o e)⟩) fun d o hd' e => ot d o (fun q => hl (q ▸ hd')) (kp d o e)) (fun d hd' => ?_) hls2 fun s' H' vs' us' c' K1 K2 K3 K4 K5 K6 => ?_
  · rcases List.mem_cons.mp hd' with q | q
    · rw [q]; exact fl
    · exact (hf d q).1
  · have hlen : vs'.length ≤ sizeLine := by omega
    exact ⟨rfl, hQ s' H' vs' (inv_own K1 K6 ⟨hlen, us', c', K4, K3⟩) K2 K6.1⟩
end
end DL
end

section
set_option Elab.async false
set_option linter.all false
set_option maxRecDepth 100000
set_option maxHeartbeats 4000000
namespace DL
open PySem PySem.Spec PyProof.Rows L2

/-- list(zip(xs, ys)), two lists -/
def rListZip (K : PySem.W.Frag) : List V → Hp → VK → Prop := fun vs H Q => ∃ (a b : Addr) (xs ys : List V) (Pv : Nat → List V → Hp → Prop), vs = [V.ref a, V.ref b] ∧ SqL K H a xs ∧ SqL K H b ys ∧ min xs.length ys.length ≤ sizeLine ∧ Zip2 K a b xs ys Pv ∧ Pv 0 [] H ∧
  ∀ H' vs' p, Pv (min xs.length ys.length) vs' H' → H' p = none → Q (.ref p) (upd H' p (.lst vs'))
theorem pe_listZip {X : Cx} {e e2 : Expr} {ta : TA} {p p2 q pos : Pos} (hc : X.calm = true) (hg : Gl X "list") (hm : X.mg "list" = none) (hg2 : Gl X "zip") (hm2 : X.mg "zip" = none) (ha : PA X [e, e2] ta)
    (na : starEach [e, e2] X.env = (false, eval e X.env) :: starEach [e2] X.env := by rfl) (nb : (backTo q (starEach [e2] X.env)).any (·.1) = false := by rfl) :
    PE X (.Call (.Name "list" p) [.Call (.Name "zip" p2) [e, e2] [] q] [] pos) (fun σ H Q => ta σ H fun vs H1 => rListZip X.K vs H1 Q) := by
  refine ⟨fun pins s σ H Q I h => ?_⟩
  refine Call_ (ld_blt I hg hm boot_list ?_)
  refine PyProof.Rows.callWith_type1 (PyProof.Rows.args_cons ?_ rfl) rfl rfl
  refine Call_ (ld_blt I hg2 hm2 boot_zip (PyProof.Rows.callWith_type1 (thn (ha.run q pins s σ H _ I h) fun us s1 ⟨vs, H1, I1, r1, q1⟩ => ?_) na nb))
  obtain ⟨a, b, xs, ys, Pv, rfl, hx, hy, hz, Z, hp, q1⟩ := q1
  cases r1 with
  | cons r rr =>
    cases rr with
    | cons r' rr =>
      cases rr
      cases r
      cases r'
      obtain ⟨its, rv, k1, _⟩ := I1.list hx
      obtain ⟨its2, rv2, k2, _⟩ := I1.list hy
      have hd := I1.ok.hd hc
      refine call_zip_2 k1.isList k2.isList fun h' z0 hTI hTO h1 h2 hsz hk => PyProof.Rows.args_nil ?_
      have J : Inv X pins σ H1 { s1 with heap := h', toks := s1.toks } := I1.kept hk
      have ap := PySem.W.ktu_apart s1.heap.objs.size a b k1.lt k2.lt
      have st : Zst h' (s1.heap.objs.size + 4) (s1.heap.objs.size + 2) (s1.heap.objs.size + 3) s1.heap.objs.size (s1.heap.objs.size + 1) a b 0 := ⟨.inl ⟨z0, _, _, hTO⟩, hTI, h1, h2, _, hTO⟩
      refine call_listZip (s := { s1 with heap := h', toks := s1.toks }) ap (J.ok.hd hc) Z rfl hz J hp z0 st (fun d hd' => ?_) fun s' H' vs' K1 K2 K3 => ⟨.ref _, _, K1, rfl, q1 H' vs' _ K2 K3⟩
      have hle : s1.heap.objs.size ≤ d ∧ d < s1.heap.objs.size + 5 := by
        simp only [List.mem_cons, List.not_mem_nil, or_false] at hd'
        rcases hd' with e | e | e | e | e <;> rw [e]
        · exact ⟨Nat.le_add_right _ _, Nat.lt_succ_self _⟩
        · exact ⟨Nat.le_add_right _ _, Nat.add_lt_add_left (by decide) _⟩
        · exact ⟨Nat.le_add_right _ _, Nat.add_lt_add_left (by decide) _⟩
        · exact ⟨Nat.le_refl _, Nat.lt_add_of_pos_right (by decide)⟩
        · exact ⟨Nat.le_add_right _ _, Nat.add_lt_add_left (by decide) _⟩
      exact ⟨I1.fpOk hle.1 (I1.hok.fresh hle.1), by show d < h'.objs.size; rw [hsz]; exact hle.2⟩
def prs2 : List D → List D → List D
  | x :: xs, y :: ys => .tup [x, y] :: prs2 xs ys
  | _, _ => []
def lzip (d e : D) (S : Sto) : Rs D := DL.withItems d S fun xs => DL.withItems e S fun ys => if isTupD d || isTupD e then .bad else guard (sizeOk xs.length) (mkLst (prs2 xs ys) S)
def fListZip : C3 := c2 lzip
theorem sql_put {K : PySem.W.Frag} {H : Hp} {a T : Addr} {xs : List V} {o : HO} (h : SqL K H a xs) (n : H T = none) : SqL K (upd H T o) a xs :=
  h.elim (fun r => .inl (r.elim (fun e => .inl (by rw [upd_ne (ne_of_none e n)]; exact e)) fun ⟨u, e⟩ => .inr ⟨u, by rw [upd_ne (ne_of_none e n)]; exact e⟩)) .inr
theorem prs2_get : ∀ {xs ys : List D} {i : Nat} {x y : D}, xs[i]? = some x → ys[i]? = some y → (prs2 xs ys)[i]? = some (.tup [x, y])
  | _ :: _, _ :: _, 0, _, _, e1, e2 => by cases e1; cases e2; rfl
  | _ :: xs, _ :: ys, i + 1, _, _, e1, e2 => prs2_get (xs := xs) (ys := ys) (i := i) e1 e2
theorem prs2_len : ∀ xs ys : List D, (prs2 xs ys).length = min xs.length ys.length
  | [], _ => by simp [prs2]
  | _ :: _, [] => by simp [prs2]
  | x :: xs, y :: ys => by
    unfold prs2
    rw [List.length_cons, prs2_len xs ys, List.length_cons, List.length_cons]
    omega
theorem fListZip_s {K : PySem.W.Frag} : CallS K (rListZip K) fListZip := c2_s fun W sv w u v d e S H Q z r1 r2 q => by
  obtain ⟨xs, _, _, he, _, _, _, q⟩ := withItems_s z r1 q
  obtain ⟨ys, _, _, he2, _, _, _, q⟩ := withItems_s z r2 q
  by_cases t : (isTupD d || isTupD e) = true
  · rw [if_pos t] at q
    exact False.elim q
  · rw [if_neg t] at q
    obtain ⟨hz, q⟩ := guard_s q
    have hz := of_decide_eq_true hz
    have t : isTupD d = false ∧ isTupD e = false := by simpa using t
    obtain ⟨a, vs, rfl, ra, hs⟩ := items_list z r1 he t.1
    obtain ⟨b, us, rfl, rb, hs2⟩ := items_list z r2 he2 t.2
    have l1 := ra.length
    have l2 := rb.length
    refine ⟨a, b, vs, us, fun i ts H' => (SqL K H' a vs ∧ SqL K H' b us) ∧ ts.length = i ∧ ∃ w', Ext w w' ∧ WRel K w' S H' ∧ RepA K w' ts ((prs2 xs ys).take i), rfl, hs, hs2, by rw [l1]; exact Nat.le_trans (Nat.min_le_left ..) hz,
      ⟨fun h => h.1, ?_⟩, ⟨⟨hs, hs2⟩, rfl, w, Ext.refl w, z, by rw [List.take_zero]; exact .nil⟩, ?_⟩
    · rintro i ts H' x y T ⟨⟨h1, h2⟩, hl, w', x1, z1, rr⟩ ex ey hn
      refine ⟨⟨sql_put h1 hn, sql_put h2 hn⟩, by rw [List.length_append, hl]; rfl, w'.put T (.tup [x, y]), x1.trans (z1.ext_put hn _), z1.put hn _, ?_⟩
      have ix := (List.getElem?_eq_some_iff.mp ex).1
      have iy := (List.getElem?_eq_some_iff.mp ey).1
      have dx : xs[i]? = some xs[i] := List.getElem?_eq_getElem (by omega)
      have dy : ys[i]? = some ys[i] := List.getElem?_eq_getElem (by omega)
      obtain ⟨x', gx, rx⟩ := ra.get dx
      obtain ⟨y', gy, ry⟩ := rb.get dy
      rw [ex] at gx
      rw [ey] at gy
      cases gx
      cases gy
      have ee := x1.trans (z1.ext_put hn (.tup [x, y]))
      have et : (prs2 xs ys).take (i + 1) = (prs2 xs ys).take i ++ [.tup [xs[i], ys[i]]] := by
        rw [List.take_add_one, prs2_get dx dy]
        rfl
      rw [et]
      exact (rr.mono (z1.ext_put hn _)).append (.cons (.tup upd_same (.cons (rx.mono ee) (.cons (ry.mono ee) .nil))) .nil)
    · rintro H' ts p ⟨_, hl, w', x1, z1, rr⟩ hn
      have el : (prs2 xs ys).take (min vs.length us.length) = prs2 xs ys := List.take_of_length_le (by rw [prs2_len, l1, l2]; exact Nat.le_refl _)
      rw [el] at rr
      exact (mkLst_s (Hold.mono q x1) z1 rr).2 p hn
theorem e_listZip {X : Cx} {W : WX} {e e2 : Expr} {ms : A3} {p p2 q pos : Pos} (hc : X.calm = true) (hg : Gl X "list") (hm : X.mg "list" = none) (hg2 : Gl X "zip") (hm2 : X.mg "zip" = none) (ha : PA3 X W [e, e2] ms)
    (na : starEach [e, e2] X.env = (false, eval e X.env) :: starEach [e2] X.env := by rfl) (nb : (backTo q (starEach [e2] X.env)).any (·.1) = false := by rfl) :
    PE3 X W (.Call (.Name "list" p) [.Call (.Name "zip" p2) [e, e2] [] q] [] pos) (mMake fListZip ms) :=
  PE.imp (pe_listZip hc hg hm hg2 hm2 ha na nb) fun sv H Q h => call3 fListZip_s sv H Q h
end DL
end

section
set_option Elab.async false
set_option linter.all false
set_option maxRecDepth 100000
set_option maxHeartbeats 4000000
/-! how long a writing is, of which signs -/
namespace DL
open PySem PySem.Spec PyProof.Rows L2
open PySem.PyData (strOk)

/-- a text that is some -/
structure TxtOk (x : Str) (n : Nat) : Prop where
  ok : strOk x = true
  len : x.length ≤ n
theorem TxtOk.le {x : Str} {n m : Nat} (h : TxtOk x n) (k : n ≤ m) : TxtOk x m := ⟨h.ok, Nat.le_trans h.len k⟩
theorem txt_append {x y : Str} {n m : Nat} (h : TxtOk x n) (k : TxtOk y m) : TxtOk (x ++ y) (n + m) := by
  refine ⟨?_, by rw [strLen_append]; exact Nat.add_le_add h.len k.len⟩
  have h1 := h.ok
  have h2 := k.ok
  unfold strOk at h1 h2 ⊢
  show (x.cps ++ y.cps).all _ = true
  rw [Array.all_append, h1, h2]
  rfl
theorem txt_of (s : String) : TxtOk (Str.ofString s) s.length := by
  rw [Str.ofString_eq_toList]
  constructor
  · unfold strOk
    simp only [List.all_toArray, List.all_map, List.all_eq_true, Function.comp]
    intro c _
    have h : c.val.toNat.isValidChar := c.valid
    rw [decide_eq_true_eq]
    show c.val.toNat < 1114112
    unfold Nat.isValidChar at h
    omega
  · show ((s.toList.map Char.toNat).toArray).size ≤ _
    rw [List.size_toArray, List.length_map, String.length_toList]
    exact Nat.le_refl _
theorem txt_int {i : Int} (h : i.natAbs < 10 ^ 20) : TxtOk (PyData.shown (.int i)) 21 := by
  have e : PyData.shown (.int i) = Str.ofString (toString i) := by
    simp only [PyData.shown]
  rw [e]
  exact (txt_of _).le (int_text_length_le10 (by decide) h)
theorem txt_join : ∀ {ts : List Str} {n : Nat}, (∀ t ∈ ts, TxtOk t n) → TxtOk (Str.join ", " ts) (ts.length * (n + 2))
  | [], n, _ => ⟨by show (#[] : Array Nat).all _ = true; simp, Nat.zero_le _⟩
  | [x], n, h => (h x (by simp)).le (by simp)
  | x :: y :: r, n, h => by
    have ih := txt_join (ts := y :: r) fun t ht => h t (List.mem_cons_of_mem _ ht)
    have e : Str.join ", " (x :: y :: r) = x ++ ", " ++ Str.join ", " (y :: r) := rfl
    rw [e]
    refine (txt_append (txt_append (h x (by simp)) (txt_of ", ")) ih).le ?_
    have : (", " : String).length = 2 := by decide
    rw [this]
    simp only [List.length_cons]
    rw [Nat.add_mul (r.length + 1) 1]
    omega
theorem txt_from : ∀ {ts : List Str} {k n a : Nat} {acc : Str}, TxtOk acc a → (∀ t ∈ ts, TxtOk t n) → TxtOk (textFrom k acc ts) (a + ts.length * (n + 2))
  | [], k, n, a, acc, h, _ => h.le (by simp)
  | x :: r, k, n, a, acc, h, h2 => by
    have hs : TxtOk (if k > 0 then ", " else "" : String) 2 := by
      split
      · exact txt_of ", "
      · exact (txt_of "").le (by decide)
    have ih := txt_from (k := k + 1) (txt_append (txt_append h hs) (h2 x (by simp))) fun t ht => h2 t (List.mem_cons_of_mem _ ht)
    have e : textFrom k acc (x :: r) = textFrom (k + 1) (acc ++ (if k > 0 then ", " else "" : String) ++ x) r := rfl
    rw [e]
    refine ih.le ?_
    rw [List.length_cons, Nat.add_mul]
    omega
theorem txt_list {ts : List Str} {n : Nat} (h : ∀ t ∈ ts, TxtOk t n) : TxtOk (listText ts) (ts.length * (n + 2) + 2) := by
  have := txt_append (txt_from (k := 0) (txt_of "[") h) (txt_of "]")
  refine this.le ?_
  have h1 : ("[" : String).length = 1 := by decide
  have h2 : ("]" : String).length = 1 := by decide
  rw [h1, h2]
  omega
theorem txt_tuple {ts : List Str} {n : Nat} (h : ∀ t ∈ ts, TxtOk t n) : TxtOk (tupleText ts) (ts.length * (n + 2) + 3) := by
  have hs : TxtOk (if ts.length == 1 then ",)" else ")" : String) 2 := by
    split
    · exact txt_of ",)"
    · exact (txt_of ")").le (by decide)
  have := txt_append (txt_append (txt_of "(") (txt_join h)) hs
  refine this.le ?_
  have h1 : ("(" : String).length = 1 := by decide
  rw [h1]
  omega
end DL
end

section
set_option Elab.async false
set_option linter.all false
set_option maxRecDepth 100000
set_option maxHeartbeats 4000000
/-! instances of the program's own classes: their fields, their making, their methods -/
namespace DL
open PySem PySem.Spec PyProof.Rows L2

section
variable {X : Cx} {W : WX} {k : Nat} {f C : Addr} {fd : FuncData} {ps : List Str} {F : C3} {x m : Str} {p pos apos pos' : Pos} {e o value : Expr} {es : List Expr} {ms : A3} {mo mv : E3} {dv : List V} {dd : List D} {du : List Value}

/-! ### o.f -/
def fldAt (C : Addr) (n : Str) (d : D) (S : Sto) : Rs D := match d with
  | .ref k => (match S[k]? with
    | some (.ins C' fs) => if C' = C then (match fs.lookup n with
      | some v => .ok v S
      | none => .bad) else .bad
    | _ => .bad)
  | _ => .bad
def mFld (C : Addr) (n : Str) (a : E3) : E3 := fun σ S => (a σ S).bind (fldAt C n)
theorem RepF.lookup {K : PySem.W.Frag} {w : Wd} {n : Str} : ∀ {fv : List (Str × V)} {fs : List (Str × D)} {d : D}, RepF K w fv fs → fs.lookup n = some d → ∃ v, fv.lookup n = some v ∧ Rep K w v d
  | [], [], _, _, e => by cases e
  | (a, v) :: fv, (b, d) :: fs, d', h, e => by
    obtain ⟨h1, h2, h3⟩ := h
    subst h1
    rw [List.lookup_cons] at e ⊢
    cases q : (n == a) with
    | true => rw [q] at e; cases e; exact ⟨v, rfl, h2⟩
    | false => rw [q] at e; exact RepF.lookup h3 e
  | [], _ :: _, _, h, _ => h.elim
  | _ :: _, [], _, h, _ => h.elim
theorem ins_at {K : PySem.W.Frag} {w : Wd} {S : Sto} {H : Hp} {v : V} {k : Nat} {C : Addr} {fs : List (Str × D)} (z : WRel K w S H) (r : Rep K w v (.ref k)) (e : S[k]? = some (.ins C fs)) :
    ∃ a dx fv, v = .ref a ∧ w.am[k]? = some a ∧ w.G a = none ∧ H a = some (.ins C dx fv) ∧ RepF K w fv fs := by
  cases r with
  | ref h1 =>
    obtain ⟨o, u, e1, q, _⟩ := z.there h1
    rw [e] at e1
    cases e1
    obtain ⟨g, dx, fv, e2, q⟩ := q
    exact ⟨_, dx, fv, rfl, h1, g, e2, q⟩
theorem fldAt_ins {C : Addr} {n : Str} {d : D} {S : Sto} {K : PySem.W.Frag} {sv : L2.St} {w : Wd} {Q : VK} (h : Hold K W sv (Rep K) w Q (fldAt C n d S)) : ∃ k fs v, d = .ref k ∧ S[k]? = some (.ins C fs) ∧ fs.lookup n = some v ∧ Hold K W sv (Rep K) w Q (.ok v S) := by
  cases d with
  | ref k =>
    have h' : Hold K W sv (Rep K) w Q (match S[k]? with
      | some (.ins C' fs) => if C' = C then (match fs.lookup n with
        | some v => .ok v S
        | none => .bad) else .bad
      | _ => .bad) := h
    cases q : S[k]? with
    | none => rw [q] at h'; exact h'.elim
    | some ob =>
      rw [q] at h'
      cases ob with
      | ins C' fs =>
        have h2 : Hold K W sv (Rep K) w Q (if C' = C then (match fs.lookup n with
          | some v => .ok v S
          | none => .bad) else .bad) := h'
        by_cases hc : C' = C
        · rw [if_pos hc] at h2
          subst hc
          cases q2 : fs.lookup n with
          | none => rw [q2] at h2; exact h2.elim
          | some v => rw [q2] at h2; exact ⟨k, fs, v, rfl, q, q2, h2⟩
        · rw [if_neg hc] at h2; exact h2.elim
      | lst _ => exact h'.elim
      | frz _ => exact h'.elim
  | _ => exact h.elim
theorem e_fld (ho : PE3 X W o mo) (c : Cls X.K C) (n : NoAttr X.K C x) (hb : attributeBase o x X.env (eval o X.env) = eval o X.env) : PE3 X W (.Attribute o x pos) (mFld C x mo) :=
  PE.imp (pe_fld ho hb) fun sv H Q ⟨w, σ, S, l, z, q⟩ => ⟨w, σ, S, l, z, Hold.step q fun d S1 w1 H1 v x1 z1 r1 q1 => by
    obtain ⟨k, fs, y, rfl, e1, e2, q2⟩ := fldAt_ins q1
    obtain ⟨a, dx, fv, rfl, _, _, e3, rf⟩ := ins_at z1 r1 e1
    obtain ⟨u, e4, ru⟩ := RepF.lookup rf e2
    exact ⟨a, C, dx, fv, u, rfl, e3, c, n, e4, q2.at_ z1 ru⟩⟩

/-! ### o.f = e -/
def putD (n : Str) (v : D) : List (Str × D) → List (Str × D)
  | [] => [(n, v)]
  | (m, u) :: r => if m = n then (n, v) :: r else (m, u) :: putD n v r
theorem RepF.put {K : PySem.W.Frag} {w : Wd} {n : Str} {y : V} {d : D} (r : Rep K w y d) : ∀ {fv : List (Str × V)} {fs : List (Str × D)}, RepF K w fv fs → RepF K w (putF n y fv) (putD n d fs)
  | [], [], _ => ⟨rfl, r, trivial⟩
  | (a, v) :: fv, (b, u) :: fs, h => by
    obtain ⟨h1, h2, h3⟩ := h
    subst h1
    unfold putF putD
    by_cases q : a = n
    · rw [if_pos q, if_pos q]
      exact ⟨q, r, h3⟩
    · rw [if_neg q, if_neg q]
      exact ⟨rfl, h2, RepF.put r h3⟩
  | [], _ :: _, h => h.elim
  | _ :: _, [], h => h.elim
theorem RepF.length {K : PySem.W.Frag} {w : Wd} : ∀ {fv : List (Str × V)} {fs : List (Str × D)}, RepF K w fv fs → fv.length = fs.length
  | [], [], _ => rfl
  | _ :: _, _ :: _, h => congrArg (· + 1) (RepF.length h.2.2)
  | [], _ :: _, h => h.elim
  | _ :: _, [], h => h.elim
def putAt (C : Addr) (n : Str) (d v : D) (S : Sto) : Rs D := match d with
  | .ref k => (match S[k]? with
    | some (.ins C' fs) => if C' = C ∧ fs.length < 1000 then .ok .non (S.set k (.ins C (putD n v fs))) else .bad
    | _ => .bad)
  | _ => .bad
theorem putAt_ins {C : Addr} {n : Str} {d v : D} {S : Sto} {K : PySem.W.Frag} {sv : L2.St} {w : Wd} {Q : VK} (h : Hold K W sv (Rep K) w Q (putAt C n d v S)) : ∃ k fs, d = .ref k ∧ S[k]? = some (.ins C fs) ∧ fs.length < 1000 ∧ Hold K W sv (Rep K) w Q (.ok .non (S.set k (.ins C (putD n v fs)))) := by
  cases d with
  | ref k =>
    have h' : Hold K W sv (Rep K) w Q (match S[k]? with
      | some (.ins C' fs) => if C' = C ∧ fs.length < 1000 then .ok .non (S.set k (.ins C (putD n v fs))) else .bad
      | _ => .bad) := h
    cases q : S[k]? with
    | none => rw [q] at h'; exact h'.elim
    | some ob =>
      rw [q] at h'
      cases ob with
      | ins C' fs =>
        have h2 : Hold K W sv (Rep K) w Q (if C' = C ∧ fs.length < 1000 then .ok .non (S.set k (.ins C (putD n v fs))) else .bad) := h'
        by_cases hc : C' = C ∧ fs.length < 1000
        · rw [if_pos hc] at h2
          obtain ⟨e, l⟩ := hc
          subst e
          exact ⟨k, fs, rfl, q, l, h2⟩
        · rw [if_neg hc] at h2; exact h2.elim
      | lst _ => exact h'.elim
      | frz _ => exact h'.elim
  | _ => exact h.elim
def mSetFld (C : Addr) (n : Str) (o e : E3) : S3 := fun σ S => (e σ S).toS σ fun v S1 => (o σ S1).toS σ fun d S2 => (putAt C n d v S2).toS σ fun _ S3 => .go .next σ S3
theorem s_fld (ho : PE3 X W o mo) (hv : PE3 X W value mv) (c : Cls X.K C) (n : NoAttr X.K C x) (hs : swapsWith value (some (.Attribute o x pos')) pos.line X.env = pure false := by rfl) : PS3 X W (.Assign [.Attribute o x pos'] value pos) (mSetFld C x mo mv) :=
  PS.imp (ps_fld ho hv hs) fun B sv H ⟨w, σ, S, l, z, q⟩ => ⟨w, σ, S, l, z, HoldS.step l q fun v S1 w1 H1 u x1 z1 r1 q1 => ⟨w1, σ, S1, l.mono x1, z1, HoldS.step (l.mono x1) q1 fun d S2 w2 H2 y x2 z2 r2 q2 => by
    have q3 := HoldS.step (R := Rep X.K) (Q1 := fun v' H' => ∃ w4 S4, Ext w2 w4 ∧ WRel X.K w4 S4 H' ∧ HoldS X.K W w4 B (.go .next σ S4)) (l.mono (x1.trans x2)) q2 fun d' S4 w4 H4 b x4 z4 r4 q4 => ⟨w4, S4, x4, z4, q4⟩
    obtain ⟨k, fs, rfl, e1, hl, q4⟩ := putAt_ins q3
    obtain ⟨a, dx, fv, rfl, ha, g, e3, rf⟩ := ins_at z2 r2 e1
    have rn : ObRep X.K w2 (upd H2 a (.ins C dx (putF x u fv))) a (.ins C (putD x v fs)) := ⟨g, dx, _, upd_same, RepF.put (r1.mono x2) rf⟩
    obtain ⟨w4, S4, x4, z4, q5⟩ := q4 w2 _ .non (Ext.refl w2) (z2.write ha g rn) .non
    exact ⟨a, C, dx, fv, rfl, e3, c, n, by rw [RepF.length rf]; exact hl, q5 w4 sv _ (Ext.refl w4) (l.mono ((x1.trans x2).trans x4)) z4⟩⟩⟩

/-! ### C(..) -/
theorem RoomG.make {A : Around} (r : RoomG (k + 1) A) (us : List Value) (kw : List (Str × Value)) : RoomG k (A.under (.builtin "type.__call__" ⟨.ref C :: us, kw⟩)) := ⟨r.room.make C us kw, by
  have := r.free
  first | exact this | (simpa [Around.under] using this)⟩
def newRes (k : Nat) (r : Rs D) : Rs D := match r with
  | .ok .non S2 => .ok (.ref k) S2
  | .exc E p S2 => .exc E p S2
  | _ => .bad
def mNew (C : Addr) (F : C3) (a : A3) : E3 := fun σ S => (a σ S).bind fun ds S1 => newRes S1.length (F (.ref S1.length :: ds) (S1 ++ [.ins C []]))
theorem run_new {pins : List (Addr × Obj)} {σ : L2.St} {H : Hp} {s : Shared} {Q : VK} {us : List Value} {vs : List V} {wd : Wd} {ds : List D} {S : Sto} (M : Mk X.K C f) (G : FnOk3 X.prog X.w X.K X.mg X.base k f fd ps F) (hr : RoomG (k + 1) X.A) (tk : Takes X W)
    (hb : Binds X.K fd ps du) (hd : Vals dv du) (hl : (vs ++ dv).length + 1 = ps.length) (I : Inv X pins σ H s) (r : Vals vs us) (ra : RepA X.K wd (vs ++ dv) ds) (z : WRel X.K wd S H) (h : Hold X.K W σ (Rep X.K) wd Q (newRes S.length (F (.ref S.length :: ds) (S ++ [.ins C []])))) :
    wpAny (model X.prog X.w) X.A (call (.ref C) us) (EP X pins σ Q) X.xe s := by
  have n1 : H s.heap.objs.size = none := I.hok.fresh (Nat.le_refl _)
  have n2 : H (s.heap.objs.size + 1) = none := I.hok.fresh (Nat.le_succ _)
  have ne : s.heap.objs.size + 1 ≠ s.heap.objs.size := Nat.succ_ne_self _
  have I2 := Inv.made (C := C) I
  have z1 := z.put n1 (.own (s.heap.objs.size + 1))
  have n3 : upd H s.heap.objs.size (.own (s.heap.objs.size + 1)) (s.heap.objs.size + 1) = none := by rw [upd_ne ne]; exact n2
  have z2 := z1.more (o := .ins C s.heap.objs.size []) (ob := .ins C []) n3 fun w' xx gg => ⟨by rw [gg]; exact z1.gfree n3, s.heap.objs.size, [], upd_same, trivial⟩
  have xt : Ext wd ((wd.put s.heap.objs.size (.own (s.heap.objs.size + 1))).more (s.heap.objs.size + 1)) := (z.ext_put n1 _).trans (Wd.ext_more _ _)
  have here : ((wd.put s.heap.objs.size (.own (s.heap.objs.size + 1))).more (s.heap.objs.size + 1)).am[S.length]? = some (s.heap.objs.size + 1) := by
    show (wd.am ++ [s.heap.objs.size + 1])[S.length]? = _
    rw [← z.len]
    simp
  have ra2 : RepA X.K ((wd.put s.heap.objs.size (.own (s.heap.objs.size + 1))).more (s.heap.objs.size + 1)) (.ref (s.heap.objs.size + 1) :: (vs ++ dv)) (.ref S.length :: ds) := .cons (.ref here) (ra.mono xt)
  have r2 : Vals (V.ref (s.heap.objs.size + 1) :: (vs ++ dv)) (Value.ref (s.heap.objs.size + 1) :: (us ++ du)) := .cons rfl (r.append hd)
  have hl2 : (Value.ref (s.heap.objs.size + 1) :: us ++ du).length = ps.length := by
    have e := r2.length
    simp only [List.length_cons] at e
    show (us ++ du).length + 1 = _
    omega
  have hh : Hold X.K (outW fun c d H => W c d σ H) [] (Rep X.K) ((wd.put s.heap.objs.size (.own (s.heap.objs.size + 1))).more (s.heap.objs.size + 1)) (fun v H2 => v = .non ∧ Q (.ref (s.heap.objs.size + 1)) H2) (F (.ref S.length :: ds) (S ++ [.ins C []])) := by
    cases q : F (.ref S.length :: ds) (S ++ [.ins C []]) with
    | ok d S' =>
      rw [q] at h
      cases d with
      | non =>
        intro w' H' b x' z' r'
        cases r'
        refine ⟨rfl, h w' H' (.ref (s.heap.objs.size + 1)) (xt.trans x') z' (.ref ?_)⟩
        obtain ⟨t, ht⟩ := x'.pre
        rw [← ht]
        rw [List.getElem?_append_left (List.getElem?_eq_some_iff.mp here).1]
        exact here
      | _ => exact h.elim
    | exc E p S' =>
      rw [q] at h
      intro w' H' dx x' z' t'
      exact h w' H' dx (xt.trans x') z' t'
    | bad => rw [q] at h; exact h
  refine wpAny_call (make_map (f := f) I.kIn M.makes M.init (beq_iff_eq.mp M.fn) (codeAny_mono (G.run _ X.stack _ _ ⟨Value.ref (s.heap.objs.size + 1) :: us, []⟩ (Value.ref (s.heap.objs.size + 1) :: (us ++ du)) _ _ _ _ _ _ (hr.make us [])
    (I2.env0.make C us []) (hb _ (Value.ref (s.heap.objs.size + 1) :: us) I2.kIn hl2) r2 (by rw [r2.length]; exact hl2) ra2 z2 hh) fun r s' hq' => ?_))
  cases r with
  | error e => exact passAt tk σ pins _ _ e s' I2 hq'
  | ok fl =>
    cases fl with
    | ret u =>
      obtain ⟨v, H', I3, rv, ev, q3⟩ := I2.after hq'
      subst ev
      exact ⟨rv, ⟨V.ref (s.heap.objs.size + 1), H', I3, rfl, q3⟩⟩
    | next => exact hq'.elim
    | brk => exact hq'.elim
    | cont => exact hq'.elim
/-- C(e, ..), the defaults behind -/
theorem e_new (M : Mk X.K C f) (G : FnOk3 X.prog X.w X.K X.mg X.base k f fd ps F) (hr : RoomG (k + 1) X.A) (tk : Takes X W) (hg : Gl X x) (hm : X.mg x = some (.ref C))
    (hb : Binds X.K fd ps du) (hd : Vals dv du) (hdd : ∀ w, RepA X.K w dv dd) (ha : PA3 X W (e :: es) ms)
    (hdb : (x == ("__debug__" : Str)) = false := by decide) (he : starEach (e :: es) X.env = (false, eval e X.env) :: starEach es X.env := by rfl) (hpl : (backTo pos (starEach es X.env)).any (·.1) = false := by rfl) :
    PE3 X W (.Call (.Name x p) (e :: es) [] pos) (mNew C (fun ds => withLen ps.length F (ds ++ dd)) ms) := by
  refine ⟨fun pins s σ H Q I h => ?_⟩
  obtain ⟨wd, l, S, lr, z, q⟩ := h
  refine wpAny_Call_Name_kw (ld_glob I hg hm ?_ hdb)
  refine PySem.W.callWith_K (h₀ := X.base) I.ok.mod.kin M.kp ?_ he hpl
  refine thn (ha.run pos pins s σ H (fun vs H1 => ∃ w1 ds S1, RepA X.K w1 vs ds ∧ WRel X.K w1 S1 H1 ∧ Hold X.K W σ (Rep X.K) w1 Q (newRes S1.length (withLen ps.length F ((.ref S1.length :: ds) ++ dd) (S1 ++ [.ins C []])))) I ⟨wd, l, S, lr, z, ?_⟩) ?_
  · exact Hold.step q fun ds S1 w1 H1 vs x1 z1 r1 q1 => ⟨w1, ds, S1, r1, z1, q1⟩
  · rintro us s1 ⟨vs, H1, I1, r, w1, ds, S1, ra, z1, q1⟩
    refine ⟨I1.kIn, ?_⟩
    unfold withLen at q1
    by_cases hl : ((.ref S1.length :: ds) ++ dd).length = ps.length
    · rw [if_pos hl] at q1
      have ra2 := ra.append (hdd w1)
      exact run_new M G hr tk hb hd (by rw [ra2.length]; exact hl) I1 r ra2 z1 q1
    · rw [if_neg hl] at q1; exact False.elim q1
/-- C(), the defaults behind -/
theorem e_new0 (M : Mk X.K C f) (G : FnOk3 X.prog X.w X.K X.mg X.base k f fd ps F) (hr : RoomG (k + 1) X.A) (tk : Takes X W) (hg : Gl X x) (hm : X.mg x = some (.ref C))
    (hb : Binds X.K fd ps du) (hd : Vals dv du) (hdd : ∀ w, RepA X.K w dv dd)
    (hdb : (x == ("__debug__" : Str)) = false := by decide) :
    PE3 X W (.Call (.Name x p) [] [] pos) (mNew C (fun ds => withLen ps.length F (ds ++ dd)) mNil) := by
  refine ⟨fun pins s σ H Q I h => ?_⟩
  obtain ⟨wd, l, S, lr, z, q⟩ := h
  refine wpAny_Call_Name_kw (ld_glob I hg hm ?_ hdb)
  have q1 : Hold X.K W σ (Rep X.K) wd Q (newRes S.length (withLen ps.length F ((.ref S.length :: []) ++ dd) (S ++ [.ins C []]))) := q
  unfold withLen at q1
  by_cases hl : (([.ref S.length] : List D) ++ dd).length = ps.length
  · rw [if_pos hl] at q1
    have ra2 := hdd wd
    exact PySem.W.callWith_K0 I.kIn M.kp (run_new (vs := []) (us := []) M G hr tk hb hd (by rw [List.nil_append, ra2.length, ← hl]; simp) I .nil (by rw [List.nil_append]; exact ra2) z q1)
  · rw [if_neg hl] at q1; exact False.elim q1

/-! ### o.m(..) -/
def methAt (C : Addr) (n : Str) (F : C3) (d : D) (ds : List D) (S : Sto) : Rs D := match d with
  | .ref k => (match S[k]? with
    | some (.ins C' fs) => if C' = C ∧ fs.lookup n = none then F (.ref k :: ds) S else .bad
    | _ => .bad)
  | _ => .bad
/-- that d is such an instance -/
def insAt (C : Addr) (n : Str) (d : D) (S : Sto) : Bool := match d with
  | .ref k => (match S[k]? with
    | some (.ins C' fs) => C' == C && (fs.lookup n).isNone
    | _ => false)
  | _ => false
def mMeth (C : Addr) (n : Str) (F : C3) (o : E3) (a : A3) : E3 := fun σ S => (o σ S).bind fun d S1 => if insAt C n d S1 then (a σ S1).bind fun ds S2 => F (d :: ds) S2 else .bad
theorem insAt_ins {K : PySem.W.Frag} {w : Wd} {S : Sto} {H : Hp} {v : V} {d : D} {n : Str} (z : WRel K w S H) (r : Rep K w v d) (e : insAt C n d S = true) : ∃ a dx fv, v = .ref a ∧ H a = some (.ins C dx fv) ∧ fv.lookup n = none := by
  cases d with
  | ref k =>
    have e' : (match S[k]? with
      | some (.ins C' fs) => C' == C && (fs.lookup n).isNone
      | _ => false) = true := e
    cases q : S[k]? with
    | none => rw [q] at e'; cases e'
    | some ob =>
      rw [q] at e'
      cases ob with
      | ins C' fs =>
        have e2 : (C' == C && (fs.lookup n).isNone) = true := e'
        rw [Bool.and_eq_true] at e2
        have ec : C' = C := beq_iff_eq.mp e2.1
        subst ec
        obtain ⟨a, dx, fv, e1, _, _, e3, rf⟩ := ins_at z r q
        refine ⟨a, dx, fv, e1, e3, ?_⟩
        have none_of : ∀ {fv : List (Str × V)} {fs : List (Str × D)}, RepF K w fv fs → fs.lookup n = none → fv.lookup n = none := by
          intro fv fs
          induction fv generalizing fs with
          | nil => intro _ _; rfl
          | cons p fv ih =>
            intro h e
            cases fs with
            | nil => exact h.elim
            | cons p' fs =>
              obtain ⟨a1, v1⟩ := p
              obtain ⟨b1, d1⟩ := p'
              obtain ⟨h1, _, h3⟩ := h
              subst h1
              rw [List.lookup_cons] at e ⊢
              cases q : (n == a1) with
              | true => rw [q] at e; cases e
              | false => rw [q] at e; exact ih h3 e
        exact none_of rf (by simpa using e2.2)
      | lst _ => cases e'
      | frz _ => cases e'
  | _ => cases e
theorem e_meth {pl : Sem Bool} (ho : PE3 X W o mo) (c : Cls X.K C) (hm : Meth X.K C m f) (G : FnOk3 X.prog X.w X.K X.mg X.base k f fd ps F) (hr : RoomG k X.A) (tk : Takes X W) (hb : Binds X.K fd ps du) (hd : Vals dv du) (hdd : ∀ w, RepA X.K w dv dd) (ha : PA3 X W (e :: es) ms)
    (hst : starEach (e :: es) X.env = (false, eval e X.env) :: starEach es X.env := by rfl) (hpl : (backTo pos (starEach es X.env)).any (·.1) = false := by rfl)
    (ht : eval (.Call (.Attribute o m apos) (e :: es) [] pos) X.env = (do
      let ov ← eval o X.env
      standAt apos.atName
      let (f, first) ← holding [ov] (getMethod ov m pl)
      callWith pos f first (backTo pos (starEach (e :: es) X.env)) (backToKw pos (keywordEach [] X.env))) := by rfl) :
    PE3 X W (.Call (.Attribute o m apos) (e :: es) [] pos) (mMeth C m (fun ds => withLen ps.length F (ds ++ dd)) mo ms) := by
  refine ⟨fun pins s σ H Q I h => ?_⟩
  obtain ⟨wd, l, S, lr, z, q⟩ := h
  refine PySem.W.methodCall_KW (pl := pl) (thn (ho.run pins s σ H (fun v H1 => ∃ w1 d S1, Ext wd w1 ∧ Rep X.K w1 v d ∧ WRel X.K w1 S1 H1 ∧ Hold X.K W σ (Rep X.K) w1 Q (if insAt C m d S1 then (ms l S1).bind fun ds S2 => withLen ps.length F ((d :: ds) ++ dd) S2 else .bad)) I ⟨wd, l, S, lr, z, Hold.step q fun d S1 w1 H1 v x1 z1 r1 q1 => ⟨w1, d, S1, x1, r1, z1, q1⟩⟩) fun u s1 hh => ?_) ht
  obtain ⟨v, H1, I1, rx, w1, d, S1, x1, r1, z1, q1⟩ := hh
  by_cases hi : insAt C m d S1 = true
  · rw [if_pos hi] at q1
    obtain ⟨a, dx, fv, rfl, ea, en⟩ := insAt_ins z1 r1 hi
    obtain rfl : u = Value.ref a := rx
    refine getmeth_ok I1 ea c hm en ?_
    refine PySem.W.callWith_K (first := [.ref a]) (h₀ := X.base) I.ok.mod.kin hm.kp ?_ hst hpl
    refine thn (ha.run pos pins s1 σ H1 (fun vs H2 => ∃ w2 ds S2, RepA X.K w2 (.ref a :: vs) (d :: ds) ∧ WRel X.K w2 S2 H2 ∧ Hold X.K W σ (Rep X.K) w2 Q (withLen ps.length F ((d :: ds) ++ dd) S2)) I1 ⟨w1, l, S1, lr.mono x1, z1, Hold.step q1 fun ds S2 w2 H2 vs x2 z2 r2 q2 => ⟨w2, ds, S2, .cons (r1.mono x2) r2, z2, q2⟩⟩) ?_
    rintro us s2 ⟨vs, H2, I2, r, w2, ds, S2, ra, z2, q2⟩
    refine ⟨I2.kIn, ?_⟩
    unfold withLen at q2
    by_cases hl : ((d :: ds) ++ dd).length = ps.length
    · rw [if_pos hl] at q2
      have ra2 := ra.append (hdd w2)
      exact run3 (us := .ref a :: us) (vs := .ref a :: vs) G hr tk hb hd (ra2.length.trans hl) I2 (.cons rfl r) ra2 z2 q2
    · rw [if_neg hl] at q2; exact False.elim q2
  · rw [if_neg hi] at q1; exact False.elim q1
theorem e_meth0 {pl : Sem Bool} (ho : PE3 X W o mo) (c : Cls X.K C) (hm : Meth X.K C m f) (G : FnOk3 X.prog X.w X.K X.mg X.base k f fd ps F) (hr : RoomG k X.A) (tk : Takes X W) (hb : Binds X.K fd ps du) (hd : Vals dv du) (hdd : ∀ w, RepA X.K w dv dd)
    (ht : eval (.Call (.Attribute o m apos) [] [] pos) X.env = (do
      let ov ← eval o X.env
      standAt apos.atName
      let (f, first) ← holding [ov] (getMethod ov m pl)
      callWith pos f first (backTo pos (starEach [] X.env)) (backToKw pos (keywordEach [] X.env))) := by rfl) :
    PE3 X W (.Call (.Attribute o m apos) [] [] pos) (mMeth C m (fun ds => withLen ps.length F (ds ++ dd)) mo mNil) := by
  refine ⟨fun pins s σ H Q I h => ?_⟩
  obtain ⟨wd, l, S, lr, z, q⟩ := h
  refine PySem.W.methodCall_KW (pl := pl) (thn (ho.run pins s σ H (fun v H1 => ∃ w1 d S1, Rep X.K w1 v d ∧ WRel X.K w1 S1 H1 ∧ Hold X.K W σ (Rep X.K) w1 Q (if insAt C m d S1 then withLen ps.length F ([d] ++ dd) S1 else .bad)) I ⟨wd, l, S, lr, z, Hold.step q fun d S1 w1 H1 v x1 z1 r1 q1 => ⟨w1, d, S1, r1, z1, q1⟩⟩) fun u s1 hh => ?_) ht
  obtain ⟨v, H1, I1, rx, w1, d, S1, r1, z1, q1⟩ := hh
  by_cases hi : insAt C m d S1 = true
  · rw [if_pos hi] at q1
    obtain ⟨a, dx, fv, rfl, ea, en⟩ := insAt_ins z1 r1 hi
    obtain rfl : u = Value.ref a := rx
    refine getmeth_ok I1 ea c hm en ?_
    unfold withLen at q1
    by_cases hl : ([d] ++ dd).length = ps.length
    · rw [if_pos hl] at q1
      have ra2 : RepA X.K w1 ([.ref a] ++ dv) ([d] ++ dd) := RepA.append (.cons r1 .nil) (hdd w1)
      exact PySem.W.callWith_K0 (first := [.ref a]) I1.kIn hm.kp (run3 (us := [.ref a]) (vs := [.ref a]) G hr tk hb hd (ra2.length.trans hl) I1 (.cons rfl .nil) ra2 z1 q1)
    · rw [if_neg hl] at q1; exact False.elim q1
  · rw [if_neg hi] at q1; exact False.elim q1
end
end DL
end

section
set_option Elab.async false
set_option linter.all false
set_option maxRecDepth 100000
set_option maxHeartbeats 4000000
/-! texts put together; list.insert -/
namespace DL
open PySem PySem.Spec PyProof.Rows L2

/-! ### f-strings -/
def fmtD (d : D) (S : Sto) : Rs D := match d with
  | .str y => if sizeOk y.length then .ok (.str y) S else .bad
  | .int i => if i.natAbs.log2 < 1920 then .ok (.str (toString i)) S else .bad
  | _ => .bad
def mFmt (a : E3) : E3 := fun σ S => (a σ S).bind fmtD
def jsD : List E3 → Str → Loc → Sto → Rs D
  | [], acc, _, S => .ok (.str acc) S
  | m :: ms, acc, σ, S => (m σ S).bind fun d S1 => match d with
    | .str y => if sizeOk (acc ++ y).length then jsD ms (acc ++ y) σ S1 else .bad
    | _ => .bad
def mJs (ms : List E3) : E3 := jsD ms Str.empty
def PJ3 (X : Cx) (W : WX) (es : List Expr) (ms : List E3) : Prop := PJ X es (ms.map (rdE X.K W))
section
variable {X : Cx} {W : WX} {e o : Expr} {es : List Expr} {m mo : E3} {ms : List E3} {pos : Pos}
theorem e_fmt (h : PE3 X W e m) : PE3 X W (.FormattedValue e (-1) none pos) (mFmt m) :=
  PE.imp (pe_fmt h) fun sv H Q ⟨w, σ, S, l, z, q⟩ => ⟨w, σ, S, l, z, Hold.step q fun d S1 w1 H1 v x1 z1 r1 q1 => by
    cases d with
    | str y =>
      cases r1
      have q2 : Hold X.K W sv (Rep X.K) w1 Q (if sizeOk y.length then .ok (.str y) S1 else .bad) := q1
      by_cases hz : sizeOk y.length = true
      · rw [if_pos hz] at q2
        exact .inl ⟨y, rfl, of_decide_eq_true hz, q2.at_ z1 (.str y)⟩
      · rw [if_neg hz] at q2; exact q2.elim
    | int i =>
      cases r1
      have q2 : Hold X.K W sv (Rep X.K) w1 Q (if i.natAbs.log2 < 1920 then .ok (.str (toString i)) S1 else .bad) := q1
      by_cases hz : i.natAbs.log2 < 1920
      · rw [if_pos hz] at q2
        exact .inr ⟨i, rfl, hz, q2.at_ z1 (.str _)⟩
      · rw [if_neg hz] at q2; exact q2.elim
    | _ => exact q1.elim⟩
theorem j_nil : PJ3 X W [] [] := PJ.nil
theorem j_cons (h : PE3 X W e m) (r : PJ3 X W es ms) : PJ3 X W (e :: es) (m :: ms) := PJ.cons h r
theorem js_run : ∀ {ms : List E3} {acc : Str} {sv : L2.St} {H : Hp} {Q : VK} {w : Wd} {σ : Loc} {S : Sto}, LRel X.K w σ sv → WRel X.K w S H → Hold X.K W sv (Rep X.K) w Q (jsD ms acc σ S) → tJs (ms.map (rdE X.K W)) acc sv H fun out H1 => Q (.str out) H1
  | [], acc, sv, H, Q, w, σ, S, l, z, q => Hold.at_ (show Hold X.K W sv (Rep X.K) w Q (.ok (.str acc) S) from q) z (.str acc)
  | m :: ms, acc, sv, H, Q, w, σ, S, l, z, q => ⟨w, σ, S, l, z, Hold.step q fun d S1 w1 H1 v x1 z1 r1 q1 => by
    cases d with
    | str y =>
      cases r1
      have q2 : Hold X.K W sv (Rep X.K) w1 Q (if sizeOk (acc ++ y).length then jsD ms (acc ++ y) σ S1 else .bad) := q1
      by_cases hz : sizeOk (acc ++ y).length = true
      · rw [if_pos hz] at q2
        exact ⟨y, rfl, of_decide_eq_true hz, js_run (l.mono x1) z1 q2⟩
      · rw [if_neg hz] at q2; exact q2.elim
    | _ => exact q1.elim⟩
theorem e_fstr {v1 v2 : Expr} {rest : List Expr} (h : PJ3 X W (v1 :: v2 :: rest) ms) : PE3 X W (.JoinedStr (v1 :: v2 :: rest) pos) (mJs ms) :=
  PE.imp (pe_joined h) fun sv H Q ⟨w, σ, S, l, z, q⟩ => js_run l z q
theorem e_fstr1 (h : PE3 X W e m) : PE3 X W (.JoinedStr [e] pos) m := pe_joined1 h

/-! ### "..".join(xs) -/
def strsOf : List D → Option (List Str)
  | [] => some []
  | d :: ds => match d, strsOf ds with
    | .str x, some xs => some (x :: xs)
    | _, _ => none
theorem strsOf_map : ∀ xs : List Str, strsOf (xs.map D.str) = some xs
  | [] => rfl
  | x :: xs => by
    have ih := strsOf_map xs
    show (match D.str x, strsOf (xs.map D.str) with
      | .str x, some xs => some (x :: xs)
      | _, _ => none) = _
    rw [ih]
theorem strsOf_rep {K : PySem.W.Frag} {w : Wd} : ∀ {ds : List D} {vs : List V} {xs : List Str}, RepA K w vs ds → strsOf ds = some xs → vs = xs.map V.str
  | [], _, _, r, e => by cases r; cases e; rfl
  | d :: ds, _, xs, r, e => by
    cases r with
    | cons r1 r2 =>
      unfold strsOf at e
      cases d with
      | str x =>
        cases q : strsOf ds with
        | none => rw [q] at e; cases e
        | some ys =>
          rw [q] at e
          cases e
          cases r1
          rw [strsOf_rep r2 q]
          rfl
      | _ => cases q : strsOf ds <;> rw [q] at e <;> cases e
def joinD (a : Str) (d : D) (S : Sto) : Rs D := DL.withItems d S fun xs => match strsOf xs with
  | some ys => guard (decide ((ys.map (·.length)).sum + ys.length * a.length ≤ 16777216)) (.ok (.str (Str.join a ys)) S)
  | none => .bad
def mJoin (o a : E3) : E3 := fun σ S => (o σ S).bind fun x S1 => match x with
  | .str y => (a σ S1).bind (joinD y)
  | _ => .bad
theorem e_join {apos : Pos} (ho : PE3 X W o mo) (he : PE3 X W e m) (hs : starEach [e] X.env = [(false, eval e X.env)] := by rfl) (hbase : attributeBase o "join" X.env (eval o X.env) = eval o X.env := by rfl) (hline : (apos.endLine == pos.line) = true := by rfl) :
    PE3 X W (.Call (.Attribute o "join" apos) [e] [] pos) (mJoin mo m) :=
  PE.imp (pe_join ho he hs hbase hline) fun sv H Q ⟨w, σ, S, l, z, q⟩ => ⟨w, σ, S, l, z, Hold.step q fun x S1 w1 H1 v x1 z1 r1 q1 => by
    cases x with
    | str y =>
      cases r1
      refine ⟨⟨y, rfl⟩, w1, σ, S1, l.mono x1, z1, Hold.step q1 fun d S2 w2 H2 u x2 z2 r2 q2 => ?_⟩
      obtain ⟨xs, p, vs, he, rfl, ra, hs, q3⟩ := withItems_s z2 r2 q2
      cases e : strsOf xs with
      | none => simp only [e] at q3; exact False.elim q3
      | some ys =>
        simp only [e] at q3
        obtain ⟨hz, q4⟩ := guard_s q3
        have ev := strsOf_rep ra e
        subst ev
        exact ⟨y, p, ys, rfl, rfl, hs, of_decide_eq_true hz, by rw [TL.join_eq]; exact q4.at_ z2 (.str _)⟩
    | _ => exact q1.elim⟩

/-! ### xs.insert(i, y) -/
def rInsert : V → List V → Hp → VK → Prop := fun x vs H Q => ∃ (l : Addr) (xs : List V) (i : Int) (y : V), x = .ref l ∧ vs = [.int i, y] ∧ H l = some (.lst xs) ∧ xs.length < sizeLine ∧ 0 ≤ i ∧ i < 2 ^ 63 ∧
  Q .non (upd H l (.lst (xs.take i.toNat ++ [y] ++ xs.drop i.toNat)))
def fInsert : M3 := fun d ds S => match ds with
  | [i, y] => (match i with
    | .int n => withOpen d S fun j xs => guard (decide (xs.length < sizeLine) && (decide (0 ≤ n) && decide (n < 2 ^ 63))) (.ok .non (S.set j (.lst (xs.take n.toNat ++ [y] ++ xs.drop n.toNat))))
    | _ => .bad)
  | _ => .bad
theorem fInsert_s {K : PySem.W.Frag} : MethS K rInsert fInsert := by
  intro W sv w u us d ds S H Q z r ra q
  match ds, ra, q with
  | [], _, q => exact False.elim q
  | [_], _, q => exact False.elim q
  | _ :: _ :: _ :: _, _, q => exact False.elim q
  | [i, y], .cons ri (.cons ry .nil), q =>
    cases i with
    | int n =>
      cases ri
      obtain ⟨j, xs, a, vs, rfl, rfl, h1, g, e, rx, _, q⟩ := withOpen_s z r (show Hold K W sv (Rep K) w Q (withOpen d S fun j xs => guard (decide (xs.length < sizeLine) && (decide (0 ≤ n) && decide (n < 2 ^ 63))) (.ok .non (S.set j (.lst (xs.take n.toNat ++ [y] ++ xs.drop n.toNat))))) from q)
      obtain ⟨hz, q⟩ := guard_s q
      rw [Bool.and_eq_true, Bool.and_eq_true, decide_eq_true_eq, decide_eq_true_eq, decide_eq_true_eq] at hz
      exact ⟨a, vs, n, _, rfl, rfl, e, by rw [rx.length]; exact hz.1, hz.2.1, hz.2.2, q _ _ _ (Ext.refl w) (z.relist h1 g (((rx.take _).append (.cons ry .nil)).append (rx.drop _))) .non⟩
    | _ => exact False.elim q
end
end DL
end

section
set_option Elab.async false
set_option linter.all false
set_option maxRecDepth 100000
set_option maxHeartbeats 4000000
/-! raise; what a text tells of an instance -/
namespace DL
open PySem PySem.Spec PyProof.Rows L2

def mRaise (C : Addr) : S3 := fun σ S => .exc C none σ S
section
variable {X : Cx} {W : WX} {e : Expr} {pos : Pos} {C : Addr}
theorem s_raise (hc : X.calm = true) (tk : Takes X W) (he : PMk X e (fun _ H Q => Q (.ref C) none H)) : PS3 X W (.Raise (some e) none pos) (mRaise C) :=
  PS.imp (ps_raise hc tk he) fun B sv H ⟨w, σ, S, l, z, q⟩ => q w sv H none (Ext.refl w) l z rfl
end
end DL
end

section
set_option Elab.async false
set_option linter.all false
set_option maxRecDepth 100000
set_option maxHeartbeats 4000000
/-! len, repr of an instance of the program's own class -/
namespace DL
open PySem PySem.Spec PyProof.Rows L2

theorem RoomG.in1 {k : Nat} {A : Around} (r : RoomG (k + 1) A) : RoomG k A.in1 := ⟨r.room.in1, r.free⟩
section
variable {X : Cx} {k : Nat} {f C : Addr} {fd : FuncData} {ps : List Str} {F : C3}
/-- a method of an instance runs within a built-in -/
theorem run3at {A' : Around} {pins : List (Addr × Obj)} {σ : L2.St} {H : Hp} {s : Shared} {Q : VK} {us : List Value} {vs : List V} {wd : Wd} {ds : List D} {S : Sto} (G : FnOk3 X.prog X.w X.K X.mg X.base k f fd ps F) (hr : RoomG k A')
    (e0 : Env0 X.prog X.w X.K X.mg X.base A' X.stack s H) (hb : Binds X.K fd ps []) (hl : vs.length = ps.length) (I : Inv X pins σ H s) (r : Vals vs us) (ra : RepA X.K wd vs ds) (z : WRel X.K wd S H) (h : Hold X.K (outW fun _ _ _ => False) [] (Rep X.K) wd Q (F ds S)) {E : Value → Shared → Prop} :
    wpAny (model X.prog X.w) A' (call (.ref f) us) (EP X pins σ Q) E s := by
  have hl2 : us.length = ps.length := by rw [← r.length]; exact hl
  refine wpAny_call (codeAny_mono (G.run A' X.stack s H ⟨us, []⟩ us vs Q _ wd ds S hr e0 (by have := hb s us I.kIn (by rw [List.append_nil]; exact hl2); rw [List.append_nil] at this; exact this) r hl ra z h) fun res s' q => ?_)
  cases res with
  | error err =>
    obtain ⟨_, _, _, _, _, _, _, _, _, _, _, _, hE⟩ := q
    exact hE.elim
  | ok fl =>
    cases fl with
    | ret u => exact I.after q
    | next => exact q.elim
    | brk => exact q.elim
    | cont => exact q.elim
/-- an instance of C whose class has this method -/
def rOwnM (K : PySem.W.Frag) (C : Addr) (F : C3) (ok : V → Prop) : List V → Hp → VK → Prop := fun vs H Q => ∃ v wd d S, vs = [v] ∧ Rep K wd v d ∧ WRel K wd S H ∧ (∃ a dx fv, v = .ref a ∧ H a = some (.ins C dx fv)) ∧
  Hold K (outW fun _ _ _ => False) [] (Rep K) wd (fun u H' => ok u ∧ Q u H') (F [d] S)
theorem call_lenOwn (hs : PySem.W.findIn X.K (.ref C) "__len__" = some (some (.ref f))) (hf : PySem.W.isFn X.K (.ref f) = true) (G : FnOk3 X.prog X.w X.K X.mg X.base k f fd ["self"] F) (hr : RoomG (k + 1) X.A) (hb : Binds X.K fd ["self"] []) :
    CallR X (.builtin "len") (rOwnM X.K C F fun u => ∃ n : Int, u = .int n ∧ 0 ≤ n ∧ n < 2 ^ 63) := by
  intro pins s σ H vs us Q I r h
  obtain ⟨v, wd, d, S, rfl, rd, z, ⟨a, dx, fv, rfl, ea⟩, hh⟩ := h
  obtain rfl := Vals.ref1 r
  obtain ⟨mA, O, _⟩ := ins_get I.hok ea
  obtain ⟨od, J, _⟩ := O.look
  have run := run3at (E := X.xe) G hr.in1 I.env0.in1 hb rfl I r (.cons rd .nil) z hh
  refine Calls.call_function_entry kind_len plain_len entry_len (args_len1 _) ?_
  show wpAny _ _ (Builtin.«len» _) _ _ _
  unfold Builtin.«len»
  refine wpAny_bind (m := oneArg "len" _) (wpAny_pure (wpAny_bind (m := callSpecial? (.ref a) (Str.ofString "__len__")) (PySem.W.special_fn I.kIn J hs (beq_iff_eq.mp hf) (wpAny_mono run (fun u s1 hu => ?_) fun _ _ y => y))))
  obtain ⟨x, H1, I1, ru, ⟨n, rfl, h0, h1⟩, q⟩ := hu
  obtain ⟨t, rfl⟩ := ru
  refine wpAny_bind (wpAny_holding (wpAny_pure (wpAny_bind (wpAny_letGo ?_))))
  show wpAny _ _ (if n < 0 then _ else _) _ _ _
  rw [if_neg (by omega)]
  show wpAny _ _ (if n ≥ 2 ^ 63 then _ else _) _ _ _
  rw [if_neg (by omega)]
  exact wpAny_bind (wpAny_mkInt (wpAny_pure ⟨_, rfl, .int n, H1, I1.tok _, ⟨_, rfl⟩, q⟩))
theorem call_reprOwn (hs : PySem.W.findIn X.K (.ref C) "__repr__" = some (some (.ref f))) (hf : PySem.W.isFn X.K (.ref f) = true) (G : FnOk3 X.prog X.w X.K X.mg X.base k f fd ["self"] F) (hr : RoomG (k + 1) X.A) (hb : Binds X.K fd ["self"] []) :
    CallR X (.builtin "repr") (rOwnM X.K C F fun u => ∃ x : Str, u = .str x) := by
  intro pins s σ H vs us Q I r h
  obtain ⟨v, wd, d, S, rfl, rd, z, ⟨a, dx, fv, rfl, ea⟩, hh⟩ := h
  obtain rfl := Vals.ref1 r
  obtain ⟨mA, O, _⟩ := ins_get I.hok ea
  obtain ⟨od, J, _⟩ := O.look
  have run := run3at (E := X.xe) G hr.in1 I.env0.in1 hb rfl I r (.cons rd .nil) z hh
  have hu : X.A.in1.units < cLine := by have := hr.in1.room.units; omega
  refine Calls.call_function_entry PySem.F.kind_repr PySem.F.plain_repr PySem.F.entry_repr (PySem.F.args_repr1 _) ?_
  show wpAny _ _ (Builtin.«repr» _) _ _ _
  unfold Builtin.«repr»
  refine wpAny_bind (m := oneArg "repr" _) (wpAny_pure (wpAny_bind (wpAny_cRoomFor hu (wpAny_bind (wpAny_bind (J.type.here ((PySem.W.looks_findIn I.kIn hs).here ?_)))))))
  show wpAny _ _ (if (some (Value.ref f)).isNone = true then _ else _) _ _ _
  rw [if_neg (by simp)]
  refine wpAny_bind (m := callSpecialIfBound? (.ref a) (Str.ofString "__repr__") _) (PySem.W.ifBound_K I.kIn J hs hf (wpAny_mono run (fun u s1 hu => ?_) fun _ _ y => y))
  obtain ⟨x, H1, I1, ru, ⟨y, rfl⟩, q⟩ := hu
  obtain ⟨t, rfl⟩ := ru
  refine wpAny_bind (wpAny_isInstance (typeIs_str _ _ _) isSubtype_str_str ?_)
  have fin : ∃ u', some (Value.str y t) = some u' ∧ EP X pins σ Q u' s1 := ⟨_, rfl, .str y, H1, I1, ⟨t, rfl⟩, q⟩
  first
    | exact wpAny_pure fin
    | (rw [if_pos rfl]; exact wpAny_pure fin)
    | (simp only [if_true]; exact wpAny_pure ⟨_, rfl, .str y, H1, I1, ⟨t, rfl⟩, q⟩)
/-- str(x) by x's own __str__ -/
theorem strOf_own {A' : Around} {s : Shared} {a : Addr} {ox : Obj} {od : Option Obj} {E : Value → Shared → Prop} {Q : Value → Shared → Prop} (hk : X.K.In s.heap) (J : PySem.W.InstAt s.heap a ox C od) (hs : PySem.W.findIn X.K (.ref C) "__str__" = some (some (.ref f))) (hf : PySem.W.isFn X.K (.ref f) = true) (hu : A'.units < cLine)
    (h : wpAny (model X.prog X.w) A' (call (.ref f) [.ref a]) (fun r s1 => ∃ x t, r = .str x t ∧ Q r s1) E s) : wpAny (model X.prog X.w) A' (Builtin.Str.strOf (.ref a)) Q E s := by
  unfold Builtin.Str.strOf
  rw [show Builtin.Str.isExactStr (.ref a) = false from rfl]
  refine wpAny_bind (m := cRoomFor _ _) (wpAny_cRoomFor hu ?_)
  refine wpAny_bind (m := callSpecial? (.ref a) (Str.ofString "__str__")) (PySem.W.special_fn hk J hs (beq_iff_eq.mp hf) (wpAny_mono h (fun u s1 hu => ?_) fun _ _ y => y))
  obtain ⟨x, t, rfl, q⟩ := hu
  exact wpAny_pure q
theorem meetsIn_str {P : Program} {w : World} (v : Value) : MeetsIn P w (Builtin.«str.__new__» ⟨[.type "str", v], []⟩) (fun A R s => wpAny (model P w) A.in1 (Builtin.Str.strOf v) (fun r s' => R (.ok (.ret r)) s') (fun e s' => R (.error e) s') s) := by
  refine MeetsIn.of_wp fun A R s h => ?_
  rw [str_new_tree v]
  refine wpAny_bind (wpAny_pure (wpAny_bind (wpAny_of_eq isSubtype_str_str ?_)))
  exact wpAny_bind (wpAny_mono h (fun r s' h' => wpAny_pure ⟨_, rfl, h'⟩) fun _ _ e => e)
theorem call_strOwn (hs : PySem.W.findIn X.K (.ref C) "__str__" = some (some (.ref f))) (hf : PySem.W.isFn X.K (.ref f) = true) (G : FnOk3 X.prog X.w X.K X.mg X.base k f fd ["self"] F) (hr : RoomG (k + 2) X.A) (hb : Binds X.K fd ["self"] []) :
    CallR X (.type "str") (rOwnM X.K C F fun u => ∃ x : Str, u = .str x) := by
  intro pins s σ H vs us Q I r h
  obtain ⟨v, wd, d, S, rfl, rd, z, ⟨a, dx, fv, rfl, ea⟩, hh⟩ := h
  obtain rfl := Vals.ref1 r
  obtain ⟨mA, O, _⟩ := ins_get I.hok ea
  obtain ⟨od, J, _⟩ := O.look
  refine callType_newIn PySem.F.called_str (by decide) (PySem.F.typeCall_str_1 _) (PySem.F.newCall_str_1 _) (fun obj => PySem.F.args_object_init_2 obj _) PySem.F.entry_str_new (meetsIn_str _) ?_
  have hr2 : RoomG k X.A.in1.in1 := (RoomG.in1 (k := k + 1) hr).in1
  refine strOf_own I.kIn J hs hf (by have := hr2.room.units; omega) ?_
  refine wpAny_mono (run3at (E := fun _ _ => False) G hr2 I.env0.in1.in1 hb rfl I r (.cons rd .nil) z hh) (fun u s1 hu => ?_) fun _ _ e => e.elim
  obtain ⟨x, H1, I1, ru, ⟨y, rfl⟩, q⟩ := hu
  obtain ⟨t, rfl⟩ := ru
  exact ⟨y, t, rfl, typeIs_str _ _ _, .str y, H1, I1, ⟨t, rfl⟩, q⟩
end
end DL
end

section
set_option Elab.async false
set_option linter.all false
set_option maxRecDepth 100000
set_option maxHeartbeats 4000000
namespace DL
open PySem PySem.Spec PyProof.Rows L2

/-- what a method of an instance tells, where it raises nothing -/
def fOwnM (C : Addr) (n : Str) (F : C3) (okD : D → Bool) : C3 := c1 fun d S => if insAt C n d S then (match F [d] S with
  | .ok u S2 => if okD u then .ok u S2 else .bad
  | _ => .bad) else .bad
def okLen (d : D) : Bool := match d with
  | .int n => decide (0 ≤ n) && decide (n < 2 ^ 63)
  | _ => false
def okStr (d : D) : Bool := match d with
  | .str _ => true
  | _ => false
theorem fOwnM_s {K : PySem.W.Frag} {C : Addr} {n : Str} {F : C3} {okD : D → Bool} {ok : V → Prop} (hk : ∀ {w : Wd} {v : V} {d : D}, Rep K w v d → okD d = true → ok v) : CallS K (rOwnM K C F ok) (fOwnM C n F okD) := c1_s fun W sv w u d S H Q z r q => by
  by_cases hi : insAt C n d S = true
  · rw [if_pos hi] at q
    obtain ⟨a, dx, fv, e1, e2, _⟩ := insAt_ins z r hi
    refine ⟨u, w, d, S, rfl, r, z, ⟨a, dx, fv, e1, e2⟩, ?_⟩
    cases e : F [d] S with
    | ok v S2 =>
      simp only [e] at q
      by_cases ho : okD v = true
      · rw [if_pos ho] at q
        exact fun w' H' b x z' r' => ⟨hk r' ho, q w' H' b x z' r'⟩
      · rw [if_neg ho] at q
        exact q.elim
    | exc E p S2 => simp only [e] at q; exact q.elim
    | bad => simp only [e] at q; exact q.elim
  · rw [if_neg hi] at q
    exact q.elim
theorem okLen_s {K : PySem.W.Frag} {w : Wd} {v : V} {d : D} (r : Rep K w v d) (h : okLen d = true) : ∃ n : Int, v = .int n ∧ 0 ≤ n ∧ n < 2 ^ 63 := by
  cases d with
  | int n =>
    cases r
    have h' : (decide (0 ≤ n) && decide (n < 2 ^ 63)) = true := h
    rw [Bool.and_eq_true, decide_eq_true_eq, decide_eq_true_eq] at h'
    exact ⟨n, rfl, h'.1, h'.2⟩
  | _ => cases h
theorem okStr_s {K : PySem.W.Frag} {w : Wd} {v : V} {d : D} (r : Rep K w v d) (h : okStr d = true) : ∃ x : Str, v = .str x := by
  cases d with
  | str x => cases r; exact ⟨x, rfl⟩
  | _ => cases h
/-- len(x), str(x), repr(x): of plain things or of an instance -/
theorem callR_or {X : Cx} {g : Value} {r r' : List V → Hp → VK → Prop} (h : CallR X g r) (h' : CallR X g r') : CallR X g (fun vs H Q => r vs H Q ∨ r' vs H Q) :=
  fun pins s σ H vs us Q I rr q => q.elim (h pins s σ H vs us Q I rr) (h' pins s σ H vs us Q I rr)
/-- whichever of two a thing is -/
def fOr (c : D → Sto → Bool) (f g : C3) : C3 := c1 fun d S => if c d S then f [d] S else g [d] S
theorem fOr_s {K : PySem.W.Frag} {c : D → Sto → Bool} {f g : C3} {r r' : List V → Hp → VK → Prop} (h : CallS K r f) (h' : CallS K r' g) : CallS K (fun vs H Q => r vs H Q ∨ r' vs H Q) (fOr c f g) := c1_s fun W sv w u d S H Q z rr q => by
  by_cases hc : c d S = true
  · rw [if_pos hc] at q
    exact .inl (h W sv w [u] [d] S H Q z (.cons rr .nil) q)
  · rw [if_neg hc] at q
    exact .inr (h' W sv w [u] [d] S H Q z (.cons rr .nil) q)
/-- str(x) of a whole number, of a text -/
def strD (d : D) (S : Sto) : Rs D := match d with
  | .int i => if i.natAbs.log2 < 1920 then .ok (.str (toString i)) S else .bad
  | .str x => .ok (.str x) S
  | _ => .bad
def fStr : C3 := c1 strD
def rStrP : List V → Hp → VK → Prop := fun vs H Q => (∃ i, vs = [.int i] ∧ i.natAbs.log2 < 1920 ∧ Q (.str (toString i)) H)
theorem fStrI_s {K : PySem.W.Frag} : CallS K rStrP (c1 fun d S => match d with
  | .int i => if i.natAbs.log2 < 1920 then .ok (.str (toString i)) S else .bad
  | _ => .bad) := c1_s fun W sv w u d S H Q z r q => by
  cases d with
  | int i =>
    cases r
    have q2 : Hold K W sv (Rep K) w Q (if i.natAbs.log2 < 1920 then .ok (.str (toString i)) S else .bad) := q
    by_cases hz : i.natAbs.log2 < 1920
    · rw [if_pos hz] at q2
      exact ⟨i, rfl, hz, q2.at_ z (.str _)⟩
    · rw [if_neg hz] at q2; exact q2.elim
  | _ => exact q.elim
end DL
end

section
set_option Elab.async false
set_option linter.all false
set_option maxRecDepth 100000
set_option maxHeartbeats 4000000
namespace DL
open PySem PySem.Spec PyProof.Rows L2

/-- a def of the text that has defaults -/
theorem fn3D {P : Program} {w : World} {K : PySem.W.Frag} {mg : Str → Option Value} {base : Heap} (keep : Bool) {x qual : Str} {st : Stmt} {f : Addr} {fd : FuncData} {N ps : List Str} {k : Nat} {m : S3} {dvs : List V} {kws : List (Str × V)} (F : FunD K x qual (defArgs st) (defBody st) (defScope st) dvs kws f fd) (sc : FnScope N ps (defScope st))
    (body : ∀ (cdv : Value) (A : Around) (outer : List Env) (s : Shared) (H : Hp) (E : XK), RoomG k (A.deeper (envOfC qual (defScope st) s.heap.objs.size f cdv)) →
      PSs3 (cxOf (L2.CX P w) P w K mg base N qual (defScope st) f cdv A outer s H E) (outW E) (defBody st) m) :
    FnOk3 P w K mg base (k + 1) f fd ps (defF keep (N.length - ps.length) m) :=
  fn3x keep (let ⟨oc, od, dV, kV, doc, pm, an, cdv, ct, osl, h1, h2, h3, _⟩ := F.ex; ⟨oc, od, dV, kV, doc, pm, an, cdv, ct, osl, h1, h2, h3⟩) sc body

/-! ### a class's methods and its making, as facts to be handed round -/
structure Met3 (P : Program) (w : World) (K : PySem.W.Frag) (mg : Str → Option Value) (base : Heap) (k : Nat) (C : Addr) (m : Str) (n : Nat) (F : C3) : Prop where
  ex : ∃ (f : Addr) (fd : FuncData) (ps : List Str), Meth K C m f ∧ FnOk3 P w K mg base k f fd ps F ∧ Binds K fd ps [] ∧ ps.length = n
structure New3 (P : Program) (w : World) (K : PySem.W.Frag) (mg : Str → Option Value) (base : Heap) (k : Nat) (C : Addr) (x : Str) (n : Nat) (dd : List D) (F : C3) : Prop where
  ex : ∃ (f : Addr) (fd : FuncData) (ps : List Str) (dv : List V) (du : List Value), mg x = some (.ref C) ∧ Mk K C f ∧ FnOk3 P w K mg base k f fd ps F ∧ Binds K fd ps du ∧ Vals dv du ∧ (∀ w, RepA K w dv dd) ∧ ps.length = n
section
variable {X : Cx} {W : WX} {j k n : Nat} {C : Addr} {x m : Str} {F : C3} {o e : Expr} {es : List Expr} {mo : E3} {ms : A3} {dd : List D} {p pos apos : Pos}
theorem e_m3 {pl : Sem Bool} (h : Met3 X.prog X.w X.K X.mg X.base j C m n F) (c : Cls X.K C) (hr : RoomG k X.A) (hj : j ≤ k) (tk : Takes X W) (ho : PE3 X W o mo) (ha : PA3 X W (e :: es) ms)
    (hst : starEach (e :: es) X.env = (false, eval e X.env) :: starEach es X.env := by rfl) (hpl : (backTo pos (starEach es X.env)).any (·.1) = false := by rfl)
    (ht : eval (.Call (.Attribute o m apos) (e :: es) [] pos) X.env = (do
      let ov ← eval o X.env
      standAt apos.atName
      let (f, first) ← holding [ov] (getMethod ov m pl)
      callWith pos f first (backTo pos (starEach (e :: es) X.env)) (backToKw pos (keywordEach [] X.env))) := by rfl) :
    PE3 X W (.Call (.Attribute o m apos) (e :: es) [] pos) (mMeth C m (withLen n F) mo ms) := by
  obtain ⟨f, fd, ps, hm, G, hb, hn⟩ := h.ex
  have t := e_meth (pl := pl) ho c hm G (hr.mono hj) tk hb .nil (fun _ => .nil) ha hst hpl ht
  simp only [List.append_nil, hn] at t
  exact t
theorem e_m30 {pl : Sem Bool} (h : Met3 X.prog X.w X.K X.mg X.base j C m n F) (c : Cls X.K C) (hr : RoomG k X.A) (hj : j ≤ k) (tk : Takes X W) (ho : PE3 X W o mo)
    (ht : eval (.Call (.Attribute o m apos) [] [] pos) X.env = (do
      let ov ← eval o X.env
      standAt apos.atName
      let (f, first) ← holding [ov] (getMethod ov m pl)
      callWith pos f first (backTo pos (starEach [] X.env)) (backToKw pos (keywordEach [] X.env))) := by rfl) :
    PE3 X W (.Call (.Attribute o m apos) [] [] pos) (mMeth C m (withLen n F) mo mNil) := by
  obtain ⟨f, fd, ps, hm, G, hb, hn⟩ := h.ex
  have t := e_meth0 (pl := pl) ho c hm G (hr.mono hj) tk hb .nil (fun _ => .nil) ht
  simp only [List.append_nil, hn] at t
  exact t
theorem e_n3 (h : New3 X.prog X.w X.K X.mg X.base j C x n dd F) (hr : RoomG k X.A) (hj : j + 1 ≤ k) (tk : Takes X W) (hg : Gl X x) (ha : PA3 X W (e :: es) ms)
    (hdb : (x == ("__debug__" : Str)) = false := by decide) (he : starEach (e :: es) X.env = (false, eval e X.env) :: starEach es X.env := by rfl) (hpl : (backTo pos (starEach es X.env)).any (·.1) = false := by rfl) :
    PE3 X W (.Call (.Name x p) (e :: es) [] pos) (mNew C (fun ds => withLen n F (ds ++ dd)) ms) := by
  obtain ⟨f, fd, ps, dv, du, hm, M, G, hb, hd, hdd, hn⟩ := h.ex
  have t := e_new (p := p) (pos := pos) M G (hr.mono hj) tk hg hm hb hd hdd ha hdb he hpl
  rw [hn] at t
  exact t
theorem e_n30 (h : New3 X.prog X.w X.K X.mg X.base j C x n dd F) (hr : RoomG k X.A) (hj : j + 1 ≤ k) (tk : Takes X W) (hg : Gl X x)
    (hdb : (x == ("__debug__" : Str)) = false := by decide) : PE3 X W (.Call (.Name x p) [] [] pos) (mNew C (fun ds => withLen n F (ds ++ dd)) mNil) := by
  obtain ⟨f, fd, ps, dv, du, hm, M, G, hb, hd, hdd, hn⟩ := h.ex
  have t := e_new0 (p := p) (pos := pos) M G (hr.mono hj) tk hg hm hb hd hdd hdb
  rw [hn] at t
  exact t
/-- an own exception class over ValueError that is raised with a text -/
structure Exc3 (K : PySem.W.Frag) (mg : Str → Option Value) (C : Addr) (x : Str) : Prop where
  gP : mg x = some (.ref C)
  xP : PySem.W.excIn K C [.type "ValueError", .type "Exception", .type "BaseException", .type "object"] "ValueError.__new__" = true
  kP : PySem.W.keepIn K (.ref C) = true
  bP : PySem.W.subIn K (.ref C) (.type "BaseException") = some true
  tP : PySem.W.typeIn K (.ref C) = some (.type "type")
theorem s_raise3 {mm : Str} {jj : Nat} {p2 : Pos} (h : Exc3 X.K X.mg C x) (hc : X.calm = true) (tk : Takes X W) (hg : Gl X x) (hdb : (x == ("__debug__" : Str)) = false := by decide) :
    PS3 X W (.Raise (some (.Call (.Name x p) [.Constant (.str mm) jj p2] [] pos)) none apos) (mRaise C) :=
  s_raise hc tk (pmk_own PySem.F.excBase_ValueError h.xP h.gP h.kP (raises_own h.bP h.tP) hg hdb)
end

/-- a method that a built-in asks for -/
structure Own3 (P : Program) (w : World) (K : PySem.W.Frag) (mg : Str → Option Value) (base : Heap) (k : Nat) (C : Addr) (m : Str) (F : C3) : Prop where
  ex : ∃ (f : Addr) (fd : FuncData), PySem.W.findIn K (.ref C) m = some (some (.ref f)) ∧ PySem.W.isFn K (.ref f) = true ∧ FnOk3 P w K mg base k f fd ["self"] F ∧ Binds K fd ["self"] []
section
variable {X : Cx} {j k : Nat} {C : Addr} {F : C3}
theorem strOwn3 (h : Own3 X.prog X.w X.K X.mg X.base j C "__str__" F) (hr : RoomG k X.A) (hj : j + 2 ≤ k) : CallR X (.type "str") (rOwnM X.K C F fun u => ∃ x : Str, u = .str x) := by
  obtain ⟨f, fd, h1, h2, G, hb⟩ := h.ex
  exact call_strOwn h1 h2 G (hr.mono hj) hb
theorem lenOwn3 (h : Own3 X.prog X.w X.K X.mg X.base j C "__len__" F) (hr : RoomG k X.A) (hj : j + 1 ≤ k) : CallR X (.builtin "len") (rOwnM X.K C F fun u => ∃ n : Int, u = .int n ∧ 0 ≤ n ∧ n < 2 ^ 63) := by
  obtain ⟨f, fd, h1, h2, G, hb⟩ := h.ex
  exact call_lenOwn h1 h2 G (hr.mono hj) hb
theorem reprOwn3 (h : Own3 X.prog X.w X.K X.mg X.base j C "__repr__" F) (hr : RoomG k X.A) (hj : j + 1 ≤ k) : CallR X (.builtin "repr") (rOwnM X.K C F fun u => ∃ x : Str, u = .str x) := by
  obtain ⟨f, fd, h1, h2, G, hb⟩ := h.ex
  exact call_reprOwn h1 h2 G (hr.mono hj) hb
end
def fStrI : C3 := c1 fun d S => match d with
  | .int i => if i.natAbs.log2 < 1920 then .ok (.str (toString i)) S else .bad
  | _ => .bad

/-- the goal that the head leaves, of a law whose text has classes: c, where they stand -/
theorem walk3C {ι : Type} {l : PySem.W.OpenLaw} {n k : Nat} {q : Program} {loose : List Str} {XP : (Str → Option Value) → Heap → Prop} {YP : World → Heap → Prop} {d : DefRec} {K : Params → PySem.W.Frag} {F : ι → C3} {x : Str}
    (hn : l.most = some n) (hn2 : n ≤ sizeLine) (hdf : d.params.defaults = []) (hr : RoomG k callerA) (hY : ∀ (w : World) (h : Heap), YP w h → (K w.params).In h)
    (G : ∀ (w : World) (mg : Str → Option Value) (fa : Addr) (h : Heap), (K w.params).In h → h.Ns mainGlobals mg → mg d.name = some (.ref fa) →
      ∃ fd : FuncData, (∀ (s : Shared) (u : Value), BindsTo s fd ⟨[u], []⟩ [(x, u)]) ∧ ∃ c : ι, ∀ base : Heap, (K w.params).In base → base.Ns mainGlobals mg → FnOk3 l.prog w (K w.params) mg base k fa fd [x] (F c))
    (hF : ∀ (c : ι) (ns : List Int), ns.length ≤ n → ∃ S', F c [.wl (ns.map D.int)] [] = .ok (.bl true) S') :
    PySem.W.WalkO q loose XP YP l.row.toRowW d [] (fun f vs => PySem.call f vs) := by
  refine Att.attach_call hn hdf ?_
  intro w s0 s1 mg mb fa o pm cd doc a vs ns Gr Y ho hd hcd hmg hobj hints hlen hg
  have KX := hY w _ Y
  obtain ⟨fd, hb, c, hG⟩ := G w mg fa _ KX Gr.T.g hmg
  exact law3 KX Gr.T.g Gr.T.b Gr.T.builtins Gr.T.nolimit hg hobj hints (Nat.le_trans hlen hn2) hr hG hb (hF c ns hlen)

/-! ### is None, is True -/
def isNon (d : D) : Bool := match d with
  | .non => true
  | _ => false
def oIs (neg : Bool) : O3 := fun d e S => match e with
  | .non => .ok (.bl (if neg then !isNon d else isNon d)) S
  | .bl b => (match d with
    | .bl a => .ok (.bl (if neg then !decide (a = b) else decide (a = b))) S
    | _ => .bad)
  | _ => .bad
theorem isNon_s {K : PySem.W.Frag} {w : Wd} {v : V} {d : D} (r : Rep K w v d) : decide (v = .non) = isNon d := by
  cases d with
  | non => cases r; rfl
  | bl _ => cases r; rfl
  | int _ => cases r; rfl
  | str _ => cases r; rfl
  | tup _ => cases r; rfl
  | lst _ => cases r; rfl
  | wt _ => cases r; rfl
  | wl _ => cases r; rfl
  | ref _ => cases r; rfl
  | ty _ => cases r; rfl
  | adr _ => cases r; rfl
  | dct _ _ => cases r; rfl
  | err _ _ => cases r <;> rfl
theorem op_is3 {X : Cx} : OpR X (compareOp .Is) (fun x y H Q => (y = .non ∧ Q (.bl (decide (x = .non))) H) ∨ rIsB x y H Q) := op_isN.or op_isBl
theorem op_isnot3 {X : Cx} : OpR X (compareOp .IsNot) (fun x y H Q => (y = .non ∧ Q (.bl (!decide (x = .non))) H) ∨ rNotB x y H Q) := op_notN.or op_notBl
theorem oIs_s {K : PySem.W.Frag} : OpS K (fun x y H Q => (y = .non ∧ Q (.bl (decide (x = .non))) H) ∨ rIsB x y H Q) (oIs false) := by
  intro W sv w u v d e S H Q z r1 r2 q
  cases e with
  | non =>
    cases r2
    exact .inl ⟨rfl, by rw [isNon_s r1]; exact Hold.at_ (show Hold K W sv (Rep K) w Q (.ok (.bl (isNon d)) S) from q) z (.bl _)⟩
  | bl b =>
    cases d with
    | bl a => cases r1; cases r2; exact .inr ⟨a, b, rfl, rfl, Hold.at_ (show Hold K W sv (Rep K) w Q (.ok (.bl (decide (a = b))) S) from q) z (.bl _)⟩
    | _ => exact False.elim q
  | _ => exact False.elim q
theorem oIsNot_s {K : PySem.W.Frag} : OpS K (fun x y H Q => (y = .non ∧ Q (.bl (!decide (x = .non))) H) ∨ rNotB x y H Q) (oIs true) := by
  intro W sv w u v d e S H Q z r1 r2 q
  cases e with
  | non =>
    cases r2
    exact .inl ⟨rfl, by rw [isNon_s r1]; exact Hold.at_ (show Hold K W sv (Rep K) w Q (.ok (.bl (!isNon d)) S) from q) z (.bl _)⟩
  | bl b =>
    cases d with
    | bl a => cases r1; cases r2; exact .inr ⟨a, b, rfl, rfl, Hold.at_ (show Hold K W sv (Rep K) w Q (.ok (.bl (!decide (a = b))) S) from q) z (.bl _)⟩
    | _ => exact False.elim q
  | _ => exact False.elim q

/-! ### f"{x!r}" of a list, of a tuple -/
theorem pe_fmtRD {X : Cx} {e : Expr} {te : TE} {pos : Pos} (hg : X.A.guards = some []) (hu : X.A.units + 64 < cLine) (he : PE X e te) :
    PE X (.FormattedValue e 114 none pos) (fun σ H Q => te σ H fun x H1 => ∃ a p, x = .ref a ∧ Dp X.K H1 x p ∧ reprOk p = true ∧ Q (.str p.shown) H1) := by
  refine ⟨fun pins s σ H Q I h => ?_⟩
  refine wpAny_FormattedValue_repr (thn (he.run pins s σ H _ I h) fun v s1 hv => ?_)
  obtain ⟨x, H1, I1, r1, a, p, rfl, dp, ok, q⟩ := hv
  unfold reprOk at ok
  simp only [Bool.and_eq_true, Bool.not_eq_true', decide_eq_true_eq] at ok
  obtain ⟨⟨⟨h1, h2⟩, h3⟩, h4⟩ := ok
  obtain ⟨as, rd⟩ := Dp.reads I1 p _ v dp r1
  obtain rfl : v = Value.ref a := r1
  refine pyReprObj_of_reads rd h1 (fun z => by rw [h2] at z; cases z) hg (by omega) (fun _ _ e => e) (fun h' u tk k => ?_) h4
  have J : Inv X pins σ H1 { s1 with heap := h', toks := tk } := I1.kept k
  exact wpAny_formatField_str ⟨.str p.shown, H1, J, ⟨u, rfl⟩, q⟩ ⟨.str p.shown, H1, J.tok _, ⟨_, rfl⟩, q⟩ h4
def isSeqD (S : Sto) (d : D) : Bool := (itemsOf S d).isSome
def mFmtR (a : E3) : E3 := fun σ S => (a σ S).bind fun d S1 => if isSeqD S1 d then fRepr [d] S1 else .bad
theorem e_fmtR {X : Cx} {W : WX} {e : Expr} {m : E3} {pos : Pos} (hg : X.A.guards = some []) (hu : X.A.units + 64 < cLine) (h : PE3 X W e m) : PE3 X W (.FormattedValue e 114 none pos) (mFmtR m) :=
  PE.imp (pe_fmtRD hg hu h) fun sv H Q ⟨w, σ, S, l, z, q⟩ => ⟨w, σ, S, l, z, Hold.step q fun d S1 w1 H1 v x1 z1 r1 q1 => by
    by_cases hi : isSeqD S1 d = true
    · rw [if_pos hi] at q1
      obtain ⟨xs, hx⟩ := Option.isSome_iff_exists.mp hi
      obtain ⟨a, vs, rfl, _, _⟩ := itemsOf_at z1 r1 hx
      obtain ⟨x, p, e1, dp, ok, q2⟩ := fRepr_s W sv w1 [.ref a] [d] S1 H1 Q z1 (.cons r1 .nil) q1
      cases e1
      exact ⟨a, p, rfl, dp, ok, q2⟩
    · rw [if_neg hi] at q1
      exact q1.elim⟩
end DL
end

section
set_option Elab.async false
set_option linter.all false
set_option maxRecDepth 100000
set_option maxHeartbeats 4000000
/-! instances, texts and slices, reckoned from the inside -/
namespace DL
open PySem PySem.Spec PyProof.Rows L2

def fld1 (C : Addr) (n : Str) (r : Rs D) : Rs D := r.bind (fldAt C n)
@[simp] theorem mFld_ev (C : Addr) (n : Str) (a : E3) (σ : Loc) (S : Sto) : mFld C n a σ S = fld1 C n (a σ S) := rfl
@[simp] theorem fld1_ev (C : Addr) (n : Str) (d : D) (S : Sto) : fld1 C n (.ok d S) = fldAt C n d S := rfl
theorem lookup_own (n : Str) (v : D) : List.lookup n [(n, v)] = some v := by simp [List.lookup]
theorem fldAt_one {C : Addr} {n : Str} {k : Nat} {S : Sto} {v : D} (h : S[k]? = some (.ins C [(n, v)])) : fldAt C n (.ref k) S = .ok v S := by
  unfold fldAt
  simp only [h, if_true, lookup_own]
def sfd3 (σ : Loc) (r : Rs D) : Rt := r.toS σ fun _ S3 => .go .next σ S3
def sfd2 (C : Addr) (n : Str) (v : D) (σ : Loc) (r : Rs D) : Rt := r.toS σ fun d S2 => sfd3 σ (putAt C n d v S2)
def sfd1 (C : Addr) (n : Str) (o : E3) (σ : Loc) (r : Rs D) : Rt := r.toS σ fun v S1 => sfd2 C n v σ (o σ S1)
@[simp] theorem mSetFld_ev (C : Addr) (n : Str) (o e : E3) (σ : Loc) (S : Sto) : mSetFld C n o e σ S = sfd1 C n o σ (e σ S) := rfl
@[simp] theorem sfd1_ev (C : Addr) (n : Str) (o : E3) (σ : Loc) (v : D) (S : Sto) : sfd1 C n o σ (.ok v S) = sfd2 C n v σ (o σ S) := rfl
@[simp] theorem sfd2_ev (C : Addr) (n : Str) (v d : D) (σ : Loc) (S : Sto) : sfd2 C n v σ (.ok d S) = sfd3 σ (putAt C n d v S) := rfl
@[simp] theorem sfd3_ev (σ : Loc) (d : D) (S : Sto) : sfd3 σ (.ok d S) = .go .next σ S := rfl
theorem putAt_new {C : Addr} {n : Str} {k : Nat} {S : Sto} {v : D} (h : S[k]? = some (.ins C [])) : putAt C n (.ref k) v S = .ok .non (S.set k (.ins C [(n, v)])) := by
  unfold putAt
  simp [h, putD]

def new1 (C : Addr) (F : C3) (r : Rs (List D)) : Rs D := r.bind fun ds S1 => newRes S1.length (F (.ref S1.length :: ds) (S1 ++ [.ins C []]))
@[simp] theorem mNew_ev (C : Addr) (F : C3) (a : A3) (σ : Loc) (S : Sto) : mNew C F a σ S = new1 C F (a σ S) := rfl
@[simp] theorem new1_ev (C : Addr) (F : C3) (ds : List D) (S : Sto) : new1 C F (.ok ds S) = newRes S.length (F (.ref S.length :: ds) (S ++ [.ins C []])) := rfl
@[simp] theorem newRes_ev (k : Nat) (S : Sto) : newRes k (.ok .non S) = .ok (.ref k) S := rfl
def met2 (F : C3) (d : D) (r : Rs (List D)) : Rs D := r.bind fun ds S2 => F (d :: ds) S2
def met1 (C : Addr) (n : Str) (F : C3) (a : A3) (σ : Loc) (r : Rs D) : Rs D := r.bind fun d S1 => if insAt C n d S1 then met2 F d (a σ S1) else .bad
@[simp] theorem mMeth_ev (C : Addr) (n : Str) (F : C3) (o : E3) (a : A3) (σ : Loc) (S : Sto) : mMeth C n F o a σ S = met1 C n F a σ (o σ S) := rfl
theorem met1_ev {C : Addr} {n : Str} {F : C3} {a : A3} {σ : Loc} {d : D} {S : Sto} (h : insAt C n d S = true) : met1 C n F a σ (.ok d S) = met2 F d (a σ S) := if_pos h
@[simp] theorem met2_ev (F : C3) (d : D) (ds : List D) (S : Sto) : met2 F d (.ok ds S) = F (d :: ds) S := rfl
theorem insAt_one {C : Addr} {n f : Str} {k : Nat} {S : Sto} {v : D} (h : S[k]? = some (.ins C [(f, v)])) (hn : (n == f) = false) : insAt C n (.ref k) S = true := by
  unfold insAt
  simp [h, List.lookup, hn]

def js1 (ms : List E3) (acc : Str) (σ : Loc) (r : Rs D) : Rs D := r.bind fun d S1 => match d with
  | .str y => if sizeOk (acc ++ y).length then jsD ms (acc ++ y) σ S1 else .bad
  | _ => .bad
@[simp] theorem mJs_ev (ms : List E3) (σ : Loc) (S : Sto) : mJs ms σ S = jsD ms Str.empty σ S := rfl
@[simp] theorem jsD_nil (acc : Str) (σ : Loc) (S : Sto) : jsD [] acc σ S = .ok (.str acc) S := rfl
@[simp] theorem jsD_cons (m : E3) (ms : List E3) (acc : Str) (σ : Loc) (S : Sto) : jsD (m :: ms) acc σ S = js1 ms acc σ (m σ S) := rfl
theorem js1_ev {ms : List E3} {acc y : Str} {σ : Loc} {S : Sto} (h : (acc ++ y).length ≤ 1000000) : js1 ms acc σ (.ok (.str y) S) = jsD ms (acc ++ y) σ S := if_pos (size_of h)
def fmt1 (r : Rs D) : Rs D := r.bind fmtD
@[simp] theorem mFmt_ev (a : E3) (σ : Loc) (S : Sto) : mFmt a σ S = fmt1 (a σ S) := rfl
theorem fmt1_str {y : Str} {S : Sto} (h : y.length ≤ 1000000) : fmt1 (.ok (.str y) S) = .ok (.str y) S := if_pos (size_of h)
theorem fmt1_int {i : Int} {S : Sto} (h : i.natAbs.log2 < 1920) : fmt1 (.ok (.int i) S) = .ok (.str (toString i)) S := if_pos h
theorem fStrI_int {i : Int} {S : Sto} (h : i.natAbs.log2 < 1920) : fStrI [.int i] S = .ok (.str (toString i)) S := if_pos h
theorem log_small {i : Int} (h : i.natAbs < 2 ^ 64) : i.natAbs.log2 < 1920 := by
  by_cases h0 : i.natAbs = 0
  · rw [h0]
    decide
  · exact (Nat.log2_lt h0).mpr (Nat.lt_of_lt_of_le h (Nat.pow_le_pow_right (by decide) (by decide)))
def joi2 (y : Str) (r : Rs D) : Rs D := r.bind (joinD y)
def joi1 (a : E3) (σ : Loc) (r : Rs D) : Rs D := r.bind fun x S1 => match x with
  | .str y => joi2 y (a σ S1)
  | _ => .bad
@[simp] theorem mJoin_ev (o a : E3) (σ : Loc) (S : Sto) : mJoin o a σ S = joi1 a σ (o σ S) := rfl
@[simp] theorem joi1_ev (a : E3) (σ : Loc) (y : Str) (S : Sto) : joi1 a σ (.ok (.str y) S) = joi2 y (a σ S) := rfl
theorem joi2_ev {y : Str} {xs : List Str} {S : Sto} (h : (xs.map (fun x : Str => x.length)).sum + xs.length * y.length ≤ 16777216) : joi2 y (.ok (.lst (xs.map D.str)) S) = .ok (.str (Str.join y xs)) S := by
  show joinD y (.lst (xs.map D.str)) S = _
  unfold joinD
  show (match strsOf (xs.map D.str) with
    | some ys => guard (decide ((ys.map (fun x : Str => x.length)).sum + ys.length * y.length ≤ 16777216)) (.ok (.str (Str.join y ys)) S)
    | none => .bad) = _
  rw [strsOf_map]
  exact guard_ev (decide_eq_true h)

theorem fOr_yes {c : D → Sto → Bool} {f g : C3} {d : D} {S : Sto} (h : c d S = true) : fOr c f g [d] S = f [d] S := if_pos h
theorem fOr_no {c : D → Sto → Bool} {f g : C3} {d : D} {S : Sto} (h : c d S = false) : fOr c f g [d] S = g [d] S := if_neg (by rw [h]; decide)
theorem fOwnM_ev {C : Addr} {n : Str} {F : C3} {ok : D → Bool} {d u : D} {S S2 : Sto} (h : insAt C n d S = true) (e : F [d] S = .ok u S2) (k : ok u = true) : fOwnM C n F ok [d] S = .ok u S2 := by
  show (if insAt C n d S then (match F [d] S with
    | Rs.ok u S2 => if ok u then Rs.ok u S2 else Rs.bad
    | _ => Rs.bad) else Rs.bad) = _
  rw [if_pos h, e]
  exact if_pos k
theorem isList_ref {S : Sto} {k : Nat} {xs : List D} (h : S[k]? = some (.lst xs)) : isListIn S (.ref k) = true := by
  show (!isTupD (.ref k) && (itemsOf S (.ref k)).isSome) = true
  rw [itemsOf_refE, h]
  rfl

/-! sequences put together, cut -/
theorem cat_str {op : Bool} {x y : Str} {S : Sto} (h : x.length + y.length ≤ 1000000) : oCat op (.str x) (.str y) S = .ok (.str (x ++ y)) S := guard_ev (size_of h)
theorem cat_tup {op : Bool} {xs ys : List D} {S : Sto} (h : xs.length + ys.length ≤ 1000000) : oCat op (.tup xs) (.tup ys) S = .ok (.tup (xs ++ ys)) S := by
  show guard (sizeOk (xs.length + ys.length)) (if xs.isEmpty then .ok (.tup ys) S else if ys.isEmpty then .ok (.tup xs) S else mkTup (xs ++ ys) S) = _
  rw [guard_ev (size_of h)]
  cases xs with
  | nil => rfl
  | cons x xs =>
    cases ys with
    | nil =>
      rw [List.append_nil]
      rfl
    | cons y ys =>
      show mkTup _ S = _
      exact mkTup_ev (by rw [List.length_append]; exact h)
theorem cut_to {α : Type} (xs : List α) (k : Nat) : cutG xs none (some (k : Int)) = xs.take k := by
  unfold cutG
  rw [HT.sIx_none, HT.sIx_nat, List.drop_zero, Nat.sub_zero]
  by_cases h : k ≤ xs.length
  · rw [Nat.min_eq_left h]
  · rw [Nat.min_eq_right (by omega), List.take_length, List.take_of_length_le (by omega)]
theorem cut_from {α : Type} (xs : List α) (k : Nat) : cutG xs (some (k : Int)) none = xs.drop k := by
  unfold cutG
  rw [HT.sIx_none, HT.sIx_nat]
  by_cases h : k ≤ xs.length
  · rw [Nat.min_eq_left h]
    exact List.take_of_length_le (by rw [List.length_drop]; omega)
  · rw [Nat.min_eq_right (by omega), Nat.sub_self, List.take_zero, List.drop_of_length_le (by omega)]
theorem cut_whole {α : Type} {xs : List α} {lo hi : Option Int} (h : wholeG xs.length lo hi = true) : cutG xs lo hi = xs := by
  unfold wholeG at h
  rw [Bool.and_eq_true, beq_iff_eq, beq_iff_eq] at h
  unfold cutG
  rw [h.1, h.2, List.drop_zero, Nat.sub_zero, List.take_length]
theorem sl_tup {op : Bool} {xs : List D} {lo hi : Option Int} {S : Sto} (h : xs.length ≤ 1000000) : slD op (.tup xs) lo hi S = .ok (.tup (cutG xs lo hi)) S := by
  show (if wholeG xs.length lo hi then .ok (.tup xs) S else mkTup (cutG xs lo hi) S) = _
  by_cases w : wholeG xs.length lo hi = true
  · rw [if_pos w, cut_whole w]
  · rw [if_neg w]
    refine mkTup_ev (Nat.le_trans ?_ h)
    unfold cutG
    rw [List.length_take, List.length_drop]
    omega
theorem ins_ev {S : Sto} {j n : Nat} {xs : List D} {y : D} (h : S[j]? = some (.lst xs)) (hl : xs.length < 1000000) (hn : n < 1000000) : fInsert (.ref j) [.int n, y] S = .ok .non (S.set j (.lst (xs.take n ++ [y] ++ xs.drop n))) := by
  show withOpen (.ref j) S (fun j xs => guard (decide (xs.length < sizeLine) && (decide (0 ≤ (n : Int)) && decide ((n : Int) < 2 ^ 63))) (.ok .non (S.set j (.lst (xs.take (n : Int).toNat ++ [y] ++ xs.drop (n : Int).toNat))))) = _
  rw [withOpen_ref, h, wopen_ev, guard_ev]
  · rw [Int.toNat_natCast]
  · rw [Bool.and_eq_true, Bool.and_eq_true, decide_eq_true_eq, decide_eq_true_eq, decide_eq_true_eq]
    refine ⟨Nat.lt_of_lt_of_le hl (by decide), by omega, by omega⟩
theorem pop_ev {S : Sto} {j n : Nat} {xs : List D} {y : D} (h : S[j]? = some (.lst xs)) (hl : xs.length < 1000000) (hn : xs[n]? = some y) : fPopAt (.ref j) [.int n] S = .ok y (S.set j (.lst (xs.eraseIdx n))) := by
  have lt := (List.getElem?_eq_some_iff.mp hn).1
  show popAt (.ref j) n S = _
  unfold popAt
  rw [withOpen_ref, h, wopen_ev, guard_ev]
  · have e : seqIndex? (n : Int) xs.length = some n := by
      have h0 : ¬ (n : Int) < 0 := by omega
      have h1 : (decide (0 ≤ (n : Int)) && decide ((n : Int) < (xs.length : Int))) = true := by
        rw [Bool.and_eq_true, decide_eq_true_eq, decide_eq_true_eq]
        omega
      unfold seqIndex?
      simp only [if_neg h0, if_pos h1, Int.toNat_natCast]
    simp only [e, hn]
  · rw [Bool.and_eq_true, decide_eq_true_eq, decide_eq_true_eq]
    omega

/-! what a def leaves, of a store that it has found -/
theorem get_last {α : Type} (a x : α) (T : List α) : (a :: (T ++ [x]))[T.length + 1]? = some x := by simp
theorem set_last {α : Type} (a x y : α) (T : List α) : (a :: (T ++ [x])).set (T.length + 1) y = a :: (T ++ [y]) := by simp
theorem keep_last {o o' x : Ob} {T : Sto} (h : o'.closed (T.length + 1) = true) : keepOk (o :: T) (o' :: (T ++ [x])) := by
  refine ⟨by simp, fun k hk => ?_⟩
  cases k with
  | zero => exact .inr ⟨o', rfl, by rw [List.length_cons]; exact h⟩
  | succ k =>
    rw [List.length_cons] at hk
    exact .inl (by rw [List.getElem?_cons_succ, List.getElem?_cons_succ, List.getElem?_append_left (by omega)])
theorem fin_list {o o' : Ob} {T : Sto} {ds : List D} (h : o'.closed (T.length + 1) = true) (h2 : closedA (T.length + 1) ds = true) : fin (o :: T) (.ref (T.length + 1)) (o' :: (T ++ [.lst ds])) = .ok (.lst ds) (o' :: T) := by
  unfold fin
  rw [if_neg (by simp), if_pos (keep_last h), if_neg (by simp [closedD])]
  simp [h2]
theorem fin_one {o o' x : Ob} {T : Sto} {d : D} (h : o'.closed (T.length + 1) = true) (h2 : closedD (T.length + 1) d = true) : fin (o :: T) d (o' :: (T ++ [x])) = .ok d (o' :: T) := by
  unfold fin
  rw [if_neg (by simp), if_pos (keep_last h), if_pos (by simpa using h2)]
  simp
end DL
end

section
set_option Elab.async false
set_option linter.all false
set_option maxRecDepth 100000
set_option maxHeartbeats 4000000
/-! walks over an open list that stays as it is while it is walked (each turn looks) -/
namespace DL
open PySem PySem.Spec PyProof.Rows L2

/-- the items, and the open list that must stay -/
abbrev Wk := List D × Option (Nat × List D)
def gOk (o : Option (Nat × List D)) (S : Sto) : Prop := match o with
  | none => True
  | some p => S[p.1]? = some (.lst p.2)
def IsWalkG (K : PySem.W.Frag) (w : Wd) (J : It) (p : Wk) : Prop :=
  ∀ i w1 S H, Grow w w1 → WRel K w1 S H → gOk p.2 S → (p.1.length ≤ i → J.stop i H) ∧ ∀ d, p.1[i]? = some d → J.go i H ∧ ∀ x H', J.yld i H x H' → ∃ w2, Ext w1 w2 ∧ WRel K w2 S H' ∧ Rep K w2 x d
@[reducible] def A4 := Loc → Sto → Rs Wk
def PI4 (X : Cx) (W : WX) (tg it : Expr) (m : A4) : Prop := PI X tg it (rd X.K W (IsWalkG X.K) m)
theorem IsWalk.g {K : PySem.W.Frag} {w : Wd} {J : It} {ds : List D} {o : Option (Nat × List D)} (h : IsWalk K w J ds) : IsWalkG K w J (ds, o) := fun i w1 S H x z _ => h i w1 S H x z
theorem walk_o {K : PySem.W.Frag} {w : Wd} {k : Nat} {a : Addr} {xs : List D} (e : w.am[k]? = some a) : IsWalkG K w (Itl K a) (xs, some (k, xs)) := fun i w1 S H x z hS => by
  have hS : S[k]? = some (.lst xs) := hS
  have e1 := x.at_ e
  obtain ⟨o, u, q1, q2, q3⟩ := z.there e1
  rw [hS] at q1
  cases q1
  obtain ⟨g, vs, e2, ra⟩ := q2
  have hs : SqL K H a vs := SqL.of e2
  refine ⟨fun hi => ⟨vs, hs, by rw [ra.length]; exact hi⟩, fun d ed => ?_⟩
  obtain ⟨v, hv, rv⟩ := ra.get ed
  refine ⟨⟨vs, v, hs, hv⟩, fun y H' q => ?_⟩
  obtain ⟨rfl, q⟩ := q
  have e3 : v = y := Option.some.inj (hv.symm.trans (q vs hs))
  subst e3
  exact ⟨w1, Ext.refl w1, z, rv⟩
/-- what is walked -/
def wkL (d : D) (S : Sto) : Rs Wk := match d with
  | .lst xs => .ok (xs, none) S
  | .wl xs => .ok (xs, none) S
  | .ref k => (match S[k]? with
    | some (.lst xs) => .ok (xs, some (k, xs)) S
    | some (.frz xs) => .ok (xs, none) S
    | _ => .bad)
  | _ => .bad
def wkT (d : D) (S : Sto) : Rs Wk := match d with
  | .tup xs => .ok (xs, none) S
  | .wt xs => .ok (xs, none) S
  | _ => .bad
def wkS (d : D) (S : Sto) : Rs Wk := match d with
  | .tup xs => .ok (xs, none) S
  | .wt xs => .ok (xs, none) S
  | d => wkL d S
def mWk (a : E3) : A4 := fun σ S => (a σ S).bind wkS
section
variable {X : Cx} {W : WX} {tg e e2 : Expr} {me me2 : E3}
theorem wkL_s {K : PySem.W.Frag} {w : Wd} {S : Sto} {H : Hp} {u : V} {d : D} {sv : L2.St} {Q : It → Hp → Prop} (z : WRel K w S H) (r : Rep K w u d) (q : Hold K W sv (IsWalkG K) w Q (wkL d S)) : ∃ a, u = .ref a ∧ (∃ vs, SqL K H a vs) ∧ Q (Itl K a) H := by
  cases d with
  | lst xs =>
    cases r with
    | lst h1 h2 => exact ⟨_, rfl, ⟨_, SqL.of (z.same _ _ h1)⟩, Hold.at_ (show Hold K W sv (IsWalkG K) w Q (.ok (xs, none) S) from q) z (walk_l (SqL.of h1) h2).g⟩
  | wl xs =>
    cases r with
    | wl h1 h2 => exact ⟨_, rfl, ⟨_, z.same.seq h1⟩, Hold.at_ (show Hold K W sv (IsWalkG K) w Q (.ok (xs, none) S) from q) z (walk_l h1 h2).g⟩
  | ref k =>
    cases r with
    | ref h1 =>
      obtain ⟨o, _, e1, q2, _⟩ := z.there h1
      have q' : Hold K W sv (IsWalkG K) w Q (match S[k]? with
        | some (.lst xs) => .ok (xs, some (k, xs)) S
        | some (.frz xs) => .ok (xs, none) S
        | _ => .bad) := q
      rw [e1] at q'
      cases o with
      | lst xs =>
        obtain ⟨g, vs, e2, ra⟩ := q2
        exact ⟨_, rfl, ⟨vs, SqL.of e2⟩, Hold.at_ q' z (walk_o h1)⟩
      | frz xs =>
        obtain ⟨vs, e2, ra⟩ := q2
        exact ⟨_, rfl, ⟨vs, SqL.of (z.same _ _ e2)⟩, Hold.at_ q' z (walk_l (SqL.of e2) ra).g⟩
      | ins C fs => exact False.elim q'
  | _ => exact False.elim q
theorem wkT_s {K : PySem.W.Frag} {w : Wd} {S : Sto} {H : Hp} {u : V} {d : D} {sv : L2.St} {Q : It → Hp → Prop} (z : WRel K w S H) (r : Rep K w u d) (q : Hold K W sv (IsWalkG K) w Q (wkT d S)) : ∃ a, u = .ref a ∧ (∃ vs, SqT K H a vs) ∧ Q (Itt K a) H := by
  cases d with
  | tup xs =>
    cases r with
    | tup h1 h2 => exact ⟨_, rfl, ⟨_, SqT.of (z.same _ _ h1)⟩, Hold.at_ (show Hold K W sv (IsWalkG K) w Q (.ok (xs, none) S) from q) z (walk_t (SqT.of h1) h2).g⟩
  | wt xs =>
    cases r with
    | wt h1 h2 => exact ⟨_, rfl, ⟨_, seqT z.same h1⟩, Hold.at_ (show Hold K W sv (IsWalkG K) w Q (.ok (xs, none) S) from q) z (walk_t h1 h2).g⟩
  | _ => exact False.elim q
def isTw : D → Bool
  | .tup _ => true
  | .wt _ => true
  | _ => false
theorem wk_r (sv : L2.St) (H : Hp) (Q : It → Hp → Prop) (h : rd X.K W (IsWalkG X.K) (mWk me) sv H Q) : iList X.K (rdE X.K W me) sv H Q ∨ iTup X.K (rdE X.K W me) sv H Q := by
  obtain ⟨w, σ, S, l, z, q⟩ := h
  unfold mWk at q
  cases e : me σ S with
  | bad => rw [e] at q; exact False.elim q
  | exc C p S1 => exact .inl ⟨w, σ, S, l, z, by rw [e] at q ⊢; exact q⟩
  | ok d S1 =>
    rw [e] at q
    have viaL : Hold X.K W sv (IsWalkG X.K) w Q (wkL d S1) → iList X.K (rdE X.K W me) sv H Q := fun q => ⟨w, σ, S, l, z, by
      rw [e]
      exact fun w1 H1 u x1 z1 r1 => wkL_s z1 r1 (q.mono x1)⟩
    have viaT : Hold X.K W sv (IsWalkG X.K) w Q (wkT d S1) → iTup X.K (rdE X.K W me) sv H Q := fun q => ⟨w, σ, S, l, z, by
      rw [e]
      exact fun w1 H1 u x1 z1 r1 => wkT_s z1 r1 (q.mono x1)⟩
    cases d with
    | tup xs => exact .inr (viaT q)
    | wt xs => exact .inr (viaT q)
    | _ => exact .inl (viaL q)
theorem i_wk (h : PE3 X W e me) : PI4 X W tg e (mWk me) := PI.imp (PI.or (pi_list h) (pi_tup h)) wk_r
end

/-! ### for, comprehensions -/
open Classical in
noncomputable def forG (o : Option (Nat × List D)) (g : G3) (b : S3) : List D → Loc → Sto → Rt
  | [], σ, S => if gOk o S then .go .next σ S else .bad
  | d :: ds, σ, S => if gOk o S then (match g d σ with
    | none => .bad
    | some σ1 => match b σ1 S with
      | .go .next σ2 S2 => forG o g b ds σ2 S2
      | .go .cont σ2 S2 => forG o g b ds σ2 S2
      | .go .brk σ2 S2 => .go .next σ2 S2
      | r => r) else .bad
noncomputable def mForG (it : A4) (g : G3) (b : S3) : S3 := fun σ S => (it σ S).toS σ fun p S1 => forG p.2 g b p.1 σ S1
open Classical in
noncomputable def compG (o : Option (Nat × List D)) (g : G3) (t : T3) (e : E3) : List D → List D → Loc → Sto → Rs (List D)
  | [], acc, _, S => if gOk o S then .ok acc S else .bad
  | d :: ds, acc, σ, S => if gOk o S then (match g d σ with
    | none => .bad
    | some σ1 => match t σ1 S with
      | .ok true S1 => (match e σ1 S1 with
        | .ok y S2 => if acc.length < sizeLine then compG o g t e ds (acc ++ [y]) σ S2 else .bad
        | _ => .bad)
      | .ok false S1 => compG o g t e ds acc σ S1
      | _ => .bad) else .bad
noncomputable def mCompG (op : Bool) (it : A4) (g : G3) (t : T3) (e : E3) (vs : List Nat) : E3 := fun σ S => (it σ S).bind fun p S1 => (compG p.2 g t e p.1 [] (wipeD σ vs) S1).bind (endC op)
section
variable {X : Cx} {W : WX} {pos : Pos}
theorem s_forG {tg it : Expr} {body : List Stmt} {mi : A4} {ps : List Nat} {g : G3} {m : S3} (hp : PassesOwn (model X.prog X.w) X.A X.env X.xe) (hc : X.calm = true) (hi : PI4 X W tg it mi) (hg : PG3 X tg ps g) (hb : PSs3 X W body m)
    (hs : ∀ x, foldedSetIterable it X.env x = pure x := by intro _; rfl) : PS3 X W (.For tg it body [] pos) (mForG mi g m) :=
  PS.imp (ps_for hp hc hi hg hb hs) fun B sv H ⟨w, σ, S, l, z, q⟩ => ⟨w, σ, S, l, z, HoldS.step l q fun p S1 w1 H1 J x1 z1 j1 q1 => by
    obtain ⟨ds, o⟩ := p
    refine ⟨fun i k sv' H' => ∃ w2 σ2 S2, Ext w1 w2 ∧ LRel X.K w2 σ2 sv' ∧ WRel X.K w2 S2 H' ∧ k = ds.length - i ∧ HoldS X.K W w2 B (forG o g m (ds.drop i) σ2 S2), ⟨ds.length, w1, σ, S1, Ext.refl w1, l.mono x1, z1, by simp, by simpa using q1⟩, ?_⟩
    rintro i k sv' H' ⟨w2, σ2, S2, x2, l2, z2, rfl, q2⟩
    by_cases ho : gOk o S2
    · obtain ⟨stop, go⟩ := j1 i w2 S2 H' x2.grow z2 ho
      by_cases hi : i < ds.length
      · have ed : ds[i]? = some ds[i] := List.getElem?_eq_getElem hi
        obtain ⟨g1, g2⟩ := go _ ed
        refine .inr ⟨g1, fun sv3 H3 => ∃ w3 σ3 S3, Ext w1 w3 ∧ LRel X.K w3 σ3 sv3 ∧ WRel X.K w3 S3 H3 ∧ HoldS X.K W w3 B (forG o g m (ds.drop (i + 1)) σ3 S3),
          fun sv3 H3 ⟨w3, σ3, S3, x3, l3, z3, q3⟩ => ⟨ds.length - (i + 1), by omega, w3, σ3, S3, x3, l3, z3, rfl, q3⟩, fun y H3 hy => ?_⟩
        obtain ⟨w3, x3, z3, r3⟩ := g2 y H3 hy
        rw [List.drop_eq_getElem_cons hi] at q2
        unfold forG at q2
        rw [if_pos ho] at q2
        cases eg : g ds[i] σ2 with
        | none => rw [eg] at q2; exact False.elim q2
        | some σ3 =>
          rw [eg] at q2
          refine ⟨w3, σ2, S2, ds[i], σ3, l2.mono x3, z3, r3, eg, fun sv4 _ l4 => ⟨w3, σ3, S2, l4, z3, ?_⟩⟩
          have q2 := HoldS.mono q2 x3
          cases em : m σ3 S2 with
          | go f σ5 S5 =>
            simp only [em] at q2
            cases f with
            | next => exact fun w' s' H' y l' z' => ⟨w', σ5, S5, (x2.trans x3).trans y, l', z', HoldS.mono q2 y⟩
            | cont => exact fun w' s' H' y l' z' => ⟨w', σ5, S5, (x2.trans x3).trans y, l', z', HoldS.mono q2 y⟩
            | brk => exact q2
            | ret d => exact q2
          | exc C p σ5 S5 => simp only [em] at q2; exact q2
          | bad => simp only [em] at q2; exact q2
      · rw [List.drop_eq_nil_of_le (by omega)] at q2
        unfold forG at q2
        rw [if_pos ho] at q2
        exact .inl ⟨stop (by simp only; omega), q2 w2 sv' H' (Ext.refl w2) l2 z2⟩
    · cases hd : ds.drop i with
      | nil => rw [hd] at q2; unfold forG at q2; rw [if_neg ho] at q2; exact False.elim q2
      | cons d r => rw [hd] at q2; unfold forG at q2; rw [if_neg ho] at q2; exact False.elim q2⟩
theorem compG3 {K : PySem.W.Frag} {mi : A4} {ps : List Nat} {g : G3} {mt : T3} {me : E3} {vs : List Nat} {op : Bool} (hp : ∀ i ∈ ps, i ∈ vs) (sv : L2.St) (H : Hp) (Q : VK) (h : rdE K W (mCompG op mi g mt me vs) sv H Q) :
    tLc (rd K W (IsWalkG K) mi) (rdG K ps g) (rdT K WF mt) (rdE K WF me) vs sv H Q := by
  obtain ⟨w, σ, S, l, z, q⟩ := h
  refine ⟨w, σ, S, l, z, Hold.step q fun pr S1 w1 H1 J x1 z1 j1 q1 p np => ?_⟩
  obtain ⟨ds, o⟩ := pr
  refine ⟨fun i m H' => ∃ w2 S2 av acc, w2.hs = (p, .lst av) :: w1.hs ∧ Grow w1 w2 ∧ WRel K w2 S2 H' ∧ RepA K w2 av acc ∧ m = ds.length - i ∧
    ∀ w3, Grow w1 w3 → w3.hs = w1.hs → Hold K W sv (Rep K) w3 Q ((compG o g mt me (ds.drop i) acc (wipeD σ vs) S2).bind (endC op)),
    ⟨ds.length, w1.hide p (.lst []), S1, [], [], rfl, ⟨Same.refl _, List.prefix_refl _⟩, z1.hide np _, .nil, by simp, fun w3 g3 e3 => by simpa using Hold.ofG q1 g3 e3⟩, ?_⟩
  rintro i m H' ⟨w2, S2, av, acc, hh, g2, z2, ra, rfl, q2⟩
  have q3 := q2 w1 ⟨Same.refl _, List.prefix_refl _⟩ rfl
  by_cases ho : gOk o S2
  · obtain ⟨stop, go⟩ := j1 i w2 S2 H' g2 z2 ho
    by_cases hi : i < ds.length
    · have ed : ds[i]? = some ds[i] := List.getElem?_eq_getElem hi
      obtain ⟨go1, go2⟩ := go _ ed
      refine .inr ⟨go1, fun H3 => ∃ w4 S4 av4 acc4, w4.hs = (p, .lst av4) :: w1.hs ∧ Grow w1 w4 ∧ WRel K w4 S4 H3 ∧ RepA K w4 av4 acc4 ∧
          ∀ w3, Grow w1 w3 → w3.hs = w1.hs → Hold K W sv (Rep K) w3 Q ((compG o g mt me (ds.drop (i + 1)) acc4 (wipeD σ vs) S4).bind (endC op)),
        fun H3 ⟨w4, S4, av4, acc4, a, b, c, d, e⟩ => ⟨ds.length - (i + 1), by omega, w4, S4, av4, acc4, a, b, c, d, rfl, e⟩, fun y H3 hy => ?_⟩
      obtain ⟨w3, x3, z3, r3⟩ := go2 y H3 hy
      rw [List.drop_eq_getElem_cons hi] at q3
      unfold compG at q3
      rw [if_pos ho] at q3
      have q2' := q2
      rw [List.drop_eq_getElem_cons hi] at q2'
      unfold compG at q2'
      rw [if_pos ho] at q2'
      cases eg : g ds[i] (wipeD σ vs) with
      | none => simp only [eg] at q3; exact False.elim q3
      | some σ3 =>
        simp only [eg] at q3 q2'
        have lw : LRel K w3 (wipeD σ vs) (wipe sv vs) := (l.wipeAll vs).monoG (x1.grow.trans (g2.trans x3.grow))
        refine ⟨w3, wipeD σ vs, S2, ds[i], σ3, lw, z3, r3, eg, fun sv3 b3 l3 => ⟨wipe_but b3 hp, w3, σ3, S2, l3, z3, ?_⟩⟩
        cases et : mt σ3 S2 with
        | bad => simp only [et] at q3; exact False.elim q3
        | exc C pp S5 => simp only [et] at q3; exact False.elim q3
        | ok b S5 =>
          simp only [et] at q3 q2'
          intro w5 H5 b' x5 z5 eb
          have eb' : b' = b := eb
          subst eb'
          have g5 : Grow w1 w5 := g2.trans (x3.grow.trans x5.grow)
          have h5 : w5.hs = (p, .lst av) :: w1.hs := by rw [x5.hid, x3.hid]; exact hh
          cases b' with
          | false => exact iteF ⟨w5, S5, av, acc, h5, g5, z5, ra.monoG (x3.grow.trans x5.grow), q2'⟩
          | true =>
            refine iteT ⟨w5, σ3, S5, l3.mono x5, z5, ?_⟩
            cases ee : me σ3 S5 with
            | bad => simp only [ee] at q3; exact False.elim q3
            | exc C pp S6 => simp only [ee] at q3; exact False.elim q3
            | ok y6 S6 =>
              simp only [ee] at q3 q2'
              intro w6 H6 v6 x6 z6 r6
              have h6 : w6.hs = (p, .lst av) :: w1.hs := by rw [x6.hid]; exact h5
              have ra6 := ra.monoG (x3.grow.trans (x5.grow.trans x6.grow))
              have hH := (z6.hid (p, .lst av) (by rw [h6]; exact List.mem_cons_self)).1
              by_cases hz : acc.length < sizeLine
              · rw [if_pos hz] at q3
                refine ⟨av, hH, by rw [ra6.length]; exact hz, ⟨w6.G, w6.am, (p, .lst (av ++ [v6])) :: w1.hs⟩, S6, av ++ [v6], acc ++ [y6], rfl, ?_, z6.rehide h6, ?_, fun w7 g7 e7 => ?_⟩
                · have g6 := g5.trans x6.grow
                  exact ⟨g6.same, g6.pre⟩
                · exact RepA.alike (u := w6) (u' := ⟨w6.G, w6.am, (p, .lst (av ++ [v6])) :: w1.hs⟩) rfl rfl (ra6.append (.cons r6 .nil))
                · have := q2' w7 g7 e7
                  rw [if_pos hz] at this
                  exact this
              · rw [if_neg hz] at q3; exact False.elim q3
    · refine .inl ⟨stop (by simp only; omega), ?_⟩
      rw [List.drop_eq_nil_of_le (by omega)] at q3
      unfold compG at q3
      rw [if_pos ho] at q3
      exact endC_s z2 hh ra g2 rfl q3
  · cases hd : ds.drop i with
    | nil => rw [hd] at q3; unfold compG at q3; rw [if_neg ho] at q3; exact False.elim q3
    | cons d r => rw [hd] at q3; unfold compG at q3; rw [if_neg ho] at q3; exact False.elim q3
theorem e_compG (op : Bool) {elt tg iter : Expr} {ifs : List Expr} {scope : Scope} {own : List (Str × Nat)} {mi : A4} {ps : List Nat} {g : G3} {mt : T3} {me : E3} (hc : X.calm = true) (hN : X.N.Nodup) (hi : PI4 X W tg iter mi) (ok : BlkOk X.N X.env.scope scope own)
    (hg : ∀ (s : Shared) (H : Hp) (C : Addr) (cl : List (Str × Addr)) (fp : List Addr), PG3 (X.blk s H scope (compEnvC scope cl C X.env) fp) tg ps g)
    (ht : ∀ (s : Shared) (H : Hp) (C : Addr) (cl : List (Str × Addr)) (fp : List Addr), PTs3 (X.blk s H scope (compEnvC scope cl C X.env) fp) WF ifs mt)
    (he : ∀ (s : Shared) (H : Hp) (C : Addr) (cl : List (Str × Addr)) (fp : List Addr), PE3 (X.blk s H scope (compEnvC scope cl C X.env) fp) WF elt me)
    (hp : ∀ i ∈ ps, i ∈ own.map (·.2) := by decide) (hs : ∀ x, foldedSetIterable iter X.env x = pure x := by intro _; rfl) : PE3 X W (.ListComp elt [⟨tg, iter, ifs, 0⟩] scope pos) (mCompG op mi g mt me (own.map (·.2))) :=
  PE.imp (pe_lc (g := rdG X.K ps g) (tt := rdT X.K WF mt) (te := rdE X.K WF me) hc hN hi ok hg ht he hs) fun sv H Q h => compG3 hp sv H Q h
/-- y = [..] -/
theorem s_setCompG (op : Bool) {i : Nat} {y : Str} {py spos : Pos} {elt tg iter : Expr} {ifs : List Expr} {scope : Scope} {own : List (Str × Nat)} {mi : A4} {ps : List Nat} {g : G3} {mt : T3} {me : E3} (hc : X.calm = true) (hN : X.N.Nodup) (hy : X.N[i]? = some y) (hyl : X.env.scope.names.lookup y = some .local)
    (hsw : swapsWith (.ListComp elt [⟨tg, iter, ifs, 0⟩] scope pos) (some (.Name y py)) spos.line X.env = pure true) (hi : PI4 X W tg iter mi) (ok : BlkOk X.N X.env.scope scope own)
    (hg : ∀ (s : Shared) (H : Hp) (C : Addr) (cl : List (Str × Addr)) (fp : List Addr), PG3 (X.blk s H scope (compEnvC scope cl C X.env) fp) tg ps g)
    (ht : ∀ (s : Shared) (H : Hp) (C : Addr) (cl : List (Str × Addr)) (fp : List Addr), PTs3 (X.blk s H scope (compEnvC scope cl C X.env) fp) WF ifs mt)
    (he : ∀ (s : Shared) (H : Hp) (C : Addr) (cl : List (Str × Addr)) (fp : List Addr), PE3 (X.blk s H scope (compEnvC scope cl C X.env) fp) WF elt me)
    (hp : ∀ i ∈ ps, i ∈ own.map (·.2) := by decide) (hs : ∀ x, foldedSetIterable iter X.env x = pure x := by intro _; rfl) :
    PS3 X W (.Assign [.Name y py] (.ListComp elt [⟨tg, iter, ifs, 0⟩] scope pos) spos) (mAsg (mCompG op mi g mt me (own.map (·.2))) (g3Name i)) :=
  PS.imp (ps_setLc (g := rdG X.K ps g) (tt := rdT X.K WF mt) (te := rdE X.K WF me) hc hN hy hyl hsw hi ok hg ht he hs) fun B sv H ⟨w, σ, S, l, z, q⟩ =>
    compG3 hp sv H _ ⟨w, σ, S, l, z, HoldS.step l q fun d S1 w1 H1 u x1 z1 r1 q1 => q1 w1 _ H1 (Ext.refl w1) (LRel.set r1 i (l.mono x1)) z1⟩
end

/-! ### how they are reckoned -/
def wkg1 (r : Rs D) : Rs Wk := r.bind wkS
@[simp] theorem mWk_ev (a : E3) (σ : Loc) (S : Sto) : mWk a σ S = wkg1 (a σ S) := rfl
@[simp] theorem wkg1_ev (d : D) (S : Sto) : wkg1 (.ok d S) = wkS d S := rfl
@[simp] theorem wkS_tup (xs : List D) (S : Sto) : wkS (.tup xs) S = .ok (xs, none) S := rfl
@[simp] theorem wkS_lst (xs : List D) (S : Sto) : wkS (.lst xs) S = .ok (xs, none) S := rfl
theorem wkS_ref {k : Nat} {xs : List D} {S : Sto} (h : S[k]? = some (.lst xs)) : wkS (.ref k) S = .ok (xs, some (k, xs)) S := by
  show (match S[k]? with
    | some (.lst xs) => Rs.ok (xs, some (k, xs)) S
    | some (.frz xs) => .ok (xs, none) S
    | _ => .bad) = _
  rw [h]
noncomputable def cmg1 (op : Bool) (g : G3) (t : T3) (e : E3) (vs : List Nat) (σ : Loc) (r : Rs Wk) : Rs D := r.bind fun p S1 => cmp2 op (compG p.2 g t e p.1 [] (wipeD σ vs) S1)
@[simp] theorem mCompG_ev (op : Bool) (it : A4) (g : G3) (t : T3) (e : E3) (vs : List Nat) (σ : Loc) (S : Sto) : mCompG op it g t e vs σ S = cmg1 op g t e vs σ (it σ S) := rfl
@[simp] theorem cmg1_ev (op : Bool) (g : G3) (t : T3) (e : E3) (vs : List Nat) (σ : Loc) (ds : List D) (o : Option (Nat × List D)) (S : Sto) : cmg1 op g t e vs σ (.ok (ds, o) S) = cmp2 op (compG o g t e ds [] (wipeD σ vs) S) := rfl
noncomputable def fog1 (g : G3) (b : S3) (σ : Loc) (r : Rs Wk) : Rt := r.toS σ fun p S1 => forG p.2 g b p.1 σ S1
@[simp] theorem mForG_ev (it : A4) (g : G3) (b : S3) (σ : Loc) (S : Sto) : mForG it g b σ S = fog1 g b σ (it σ S) := rfl
@[simp] theorem fog1_ev (g : G3) (b : S3) (σ : Loc) (ds : List D) (o : Option (Nat × List D)) (S : Sto) : fog1 g b σ (.ok (ds, o) S) = forG o g b ds σ S := rfl
/-- a store that stays: the guard is nothing -/
theorem compG_D {o : Option (Nat × List D)} {g : G3} {t : T3} {e : E3} {S : Sto} {σ : Loc} (ho : gOk o S) : ∀ (ds acc : List D), (∀ d ∈ ds, ∀ σ1, g d σ = some σ1 → (∃ b, t σ1 S = .ok b S) ∧ (t σ1 S = .ok true S → ∃ y, e σ1 S = .ok y S)) → compG o g t e ds acc σ S = compD g t e ds acc σ S
  | [], acc, _ => if_pos ho
  | d :: ds, acc, h => by
    have h1 := h d (List.mem_cons_self ..)
    have ih := fun acc => compG_D (acc := acc) ho ds fun x hx => h x (List.mem_cons_of_mem _ hx)
    unfold compG compD
    rw [if_pos ho]
    cases eg : g d σ with
    | none => rfl
    | some σ1 =>
      obtain ⟨⟨b, eb⟩, h2⟩ := h1 σ1 eg
      simp only [eb]
      cases b with
      | false => simp only [ih]
      | true =>
        obtain ⟨y, ey⟩ := h2 eb
        simp only [ey, ih]
theorem compG_map {o : Option (Nat × List D)} (g : G3) (t : T3) (e : E3) (f : D → D) (σ : Loc) {S : Sto} (ho : gOk o S) : ∀ (ds acc : List D), (∀ d ∈ ds, ∃ σ1, g d σ = some σ1 ∧ t σ1 S = .ok true S ∧ e σ1 S = .ok (f d) S) → acc.length + ds.length < 1000000 →
    compG o g t e ds acc σ S = .ok (acc ++ ds.map f) S
  | [], acc, _, _ => by
    rw [List.map_nil, List.append_nil]
    unfold compG
    exact if_pos ho
  | d :: ds, acc, h, hl => by
    rw [List.length_cons] at hl
    obtain ⟨σ1, e1, e2, e3⟩ := h d (List.mem_cons_self ..)
    have ih := compG_map g t e f σ ho ds (acc ++ [f d]) (fun x hx => h x (List.mem_cons_of_mem _ hx)) (by rw [List.length_append, List.length_singleton]; omega)
    have hz : acc.length < sizeLine := Nat.lt_of_lt_of_le (show acc.length < 1000000 by omega) (by decide)
    unfold compG
    simp only [if_pos ho, e1, e2, e3, if_pos hz, ih, List.map_cons, List.append_assoc, List.singleton_append]
end DL
end

section
set_option Elab.async false
set_option linter.all false
set_option maxRecDepth 100000
set_option maxHeartbeats 4000000
/-! reversed(range(..)), enumerate(list), calls by keywords -/
namespace DL
open PySem PySem.Spec PyProof.Rows L2

/-! ### reversed(range(n)) -/
def revD (n : Nat) : List D := (List.range n).map fun (i : Nat) => D.int ((n : Int) - 1 - (i : Int))
theorem walk_rc {K : PySem.W.Frag} {w : Wd} {n : Nat} : IsWalkG K w (Itc ((n : Int) - 1) (-1) n) (revD n, none) := fun i w1 S H x z _ => by
  have hl : (revD n).length = n := by unfold revD; rw [List.length_map, List.length_range]
  refine ⟨fun hi => by have hi : (revD n).length ≤ i := hi; rw [hl] at hi; exact hi, fun d e => ?_⟩
  have e : (revD n)[i]? = some d := e
  have hi : i < n := by rw [← hl]; exact (List.getElem?_eq_some_iff.mp e).1
  have e2 : d = .int ((n : Int) - 1 - i) := by
    unfold revD at e
    rw [List.getElem?_map, List.getElem?_range hi] at e
    exact (Option.some.inj e).symm
  subst e2
  refine ⟨hi, fun y H' q => ?_⟩
  obtain ⟨rfl, rfl⟩ := q
  refine ⟨w1, Ext.refl w1, z, ?_⟩
  have e3 : (n : Int) - 1 + (i : Nat) * (-1) = (n : Int) - 1 - (i : Int) := by omega
  rw [e3]
  exact .int _
def rvA (d : D) (S : Sto) : Rs Wk := match d with
  | .int j => if decide (-(2 ^ 62) ≤ j) && decide (j < 2 ^ 62) then .ok (revD j.toNat, none) S else .bad
  | _ => .bad
def mRv (a : E3) : A4 := fun σ S => (a σ S).bind rvA
section
variable {X : Cx} {W : WX} {tg e : Expr} {me : E3} {p p2 pos pos2 : Pos}
theorem i_rv (hg : Gl X "reversed") (hm : X.mg "reversed" = none) (hg2 : Gl X "range") (hm2 : X.mg "range" = none) (h : PE3 X W e me) (na : starEach [e] X.env = (false, eval e X.env) :: starEach [] X.env := by rfl)
    (hs : starEach [.Call (.Name "range" p2) [e] [] pos2] X.env = (false, eval (.Call (.Name "range" p2) [e] [] pos2) X.env) :: starEach [] X.env := by rfl) :
    PI4 X W tg (.Call (.Name "reversed" p) [.Call (.Name "range" p2) [e] [] pos2] [] pos) (mRv me) :=
  PI.imp (pi_revR hg hm (prg_1 hg2 hm2 h na) hs) fun sv H Q ⟨w, σ, S, l, z, q⟩ => ⟨w, σ, S, l, z, Hold.step q fun d S1 w1 H1 u x1 z1 r1 q1 => by
    cases d with
    | int j =>
      cases r1
      have q1' : Hold X.K W sv (IsWalkG X.K) w1 Q (if decide (-(2 ^ 62) ≤ j) && decide (j < 2 ^ 62) then .ok (revD j.toNat, none) S1 else .bad) := q1
      by_cases hj : (decide (-(2 ^ 62) ≤ j) && decide (j < 2 ^ 62)) = true
      · rw [if_pos hj] at q1'
        rw [Bool.and_eq_true, decide_eq_true_eq, decide_eq_true_eq] at hj
        refine ⟨j, rfl, by omega, by omega, hj.1, hj.2, ?_⟩
        have e1 : (j - 0).toNat = j.toNat := by rw [Int.sub_zero]
        have e2 : (0 : Int) + (((j - 0).toNat : Nat) : Int) - 1 = ((j.toNat : Nat) : Int) - 1 := by rw [e1]; omega
        rw [e2, e1]
        exact Hold.at_ q1' z1 walk_rc
      · rw [if_neg hj] at q1'; exact False.elim q1'
    | _ => exact False.elim q1⟩
end

/-! ### enumerate(list) -/
def enumD (ds : List D) : List D := ds.zipIdx.map fun p => .tup [.int (p.2 : Nat), p.1]
theorem walk_en {K : PySem.W.Frag} {w : Wd} {a : Addr} {xs : List D} {o : Option (Nat × List D)} (h : ∀ w1 S H, Grow w w1 → WRel K w1 S H → gOk o S → ∃ vs, SqL K H a vs ∧ RepA K w1 vs xs) : IsWalkG K w (Ite K a) (enumD xs, o) := fun i w1 S H x z ho => by
  obtain ⟨vs, hs, ra⟩ := h w1 S H x z ho
  have hl : (enumD xs).length = xs.length := by unfold enumD; rw [List.length_map, List.length_zipIdx]
  refine ⟨fun hi => ⟨vs, hs, by rw [ra.length, ← hl]; exact hi⟩, fun d e => ?_⟩
  have e : (enumD xs)[i]? = some d := e
  unfold enumD at e
  rw [List.getElem?_map, List.getElem?_zipIdx] at e
  cases ex : xs[i]? with
  | none => rw [ex] at e; cases e
  | some y =>
    rw [ex] at e
    have e2 : D.tup [.int ((0 + i : Nat) : Int), y] = d := Option.some.inj e
    rw [Nat.zero_add] at e2
    subst e2
    obtain ⟨v, hv, rv⟩ := ra.get ex
    refine ⟨⟨vs, v, hs, hv⟩, fun u H' q => ?_⟩
    obtain ⟨T, x2, rfl, n, rfl, q⟩ := q
    have e3 : v = x2 := Option.some.inj (hv.symm.trans (q vs hs))
    subst e3
    have xt := z.ext_put n (.tup [.int (i : Nat), v])
    exact ⟨w1.put T (.tup [.int (i : Nat), v]), xt, z.put n _, .tup upd_same (.cons (.int _) (.cons (rv.mono xt) .nil))⟩
def enL (d : D) (S : Sto) : Rs Wk := match d with
  | .lst xs => .ok (enumD xs, none) S
  | .ref k => (match S[k]? with
    | some (.lst xs) => .ok (enumD xs, some (k, xs)) S
    | _ => .bad)
  | _ => .bad
def mEnum (a : E3) : A4 := fun σ S => (a σ S).bind enL
section
variable {X : Cx} {W : WX} {e : Expr} {me : E3} {p pos tpos : Pos} {elts : List Expr} {kk : Nat}
theorem i_enum (hg : Gl X "enumerate") (hm : X.mg "enumerate" = none) (h : PE3 X W e me) (hs : starEach [e] X.env = [(false, eval e X.env)] := by rfl) (hs2 : starEach [e] X.env = (false, eval e X.env) :: starEach [] X.env := by rfl) : PI4 X W (.Tuple elts kk tpos) (.Call (.Name "enumerate" p) [e] [] pos) (mEnum me) :=
  PI.imp (pi_enum hg hm (pa_cons h pa_nil hs2) hs) fun sv H Q ⟨w, σ, S, l, z, q⟩ => ⟨w, σ, S, l, z, Hold.step q fun d S1 w1 H1 u x1 z1 r1 q1 => by
    cases d with
    | lst xs =>
      cases r1 with
      | lst h1 h2 =>
        refine ⟨_, _, rfl, SqL.of (z1.same _ _ h1), Hold.at_ (show Hold X.K W sv (IsWalkG X.K) w1 Q (.ok (enumD xs, none) S1) from q1) z1 (walk_en fun w2 S2 H2 x2 z2 _ => ⟨_, SqL.of (z2.same _ _ (x2.same _ _ h1)), h2.monoG x2⟩)⟩
    | ref k =>
      cases r1 with
      | ref h1 =>
        obtain ⟨o, _, e1, q2, _⟩ := z1.there h1
        have q' : Hold X.K W sv (IsWalkG X.K) w1 Q (match S1[k]? with
          | some (.lst xs) => .ok (enumD xs, some (k, xs)) S1
          | _ => .bad) := q1
        rw [e1] at q'
        cases o with
        | lst xs =>
          obtain ⟨g, vs, e2, ra⟩ := q2
          refine ⟨_, _, rfl, SqL.of e2, Hold.at_ q' z1 (walk_en fun w2 S2 H2 x2 z2 hS => ?_)⟩
          have hS : S2[k]? = some (.lst xs) := hS
          obtain ⟨o, _, f1, f2, _⟩ := z2.there (x2.at_ h1)
          rw [hS] at f1
          cases f1
          obtain ⟨_, vs2, f3, f4⟩ := f2
          exact ⟨vs2, SqL.of f3, f4⟩
        | frz xs => exact False.elim q'
        | ins C fs => exact False.elim q'
    | _ => exact False.elim q1⟩
end

/-! ### f(e, .., k = v), and keywords left out -/
structure Kal3 (P : Program) (w : World) (K : PySem.W.Frag) (mg : Str → Option Value) (base : Heap) (k : Nat) (x : Str) (n : Nat) (ks : List Str) (F : C3) : Prop where
  ex : ∃ f fd ps, mg x = some (.ref f) ∧ PySem.W.keepIn K (.ref f) = true ∧ (∀ (s : Shared) (us ws : List Value), K.In s.heap → us.length = n → ws.length = ks.length → BindsTo s fd ⟨us, ks.zip ws⟩ (ps.zip (us ++ ws))) ∧ ps.length = n + ks.length ∧ FnOk3 P w K mg base k f fd ps F
structure Dal3 (P : Program) (w : World) (K : PySem.W.Frag) (mg : Str → Option Value) (base : Heap) (k : Nat) (x : Str) (n : Nat) (dd : List D) (F : C3) : Prop where
  ex : ∃ (f : Addr) (fd : FuncData) (ps : List Str) (dv : List V) (du : List Value), mg x = some (.ref f) ∧ PySem.W.keepIn K (.ref f) = true ∧ Binds K fd ps du ∧ Vals dv du ∧ (∀ w, RepA K w dv dd) ∧ ps.length = n ∧ FnOk3 P w K mg base k f fd ps F
def mKw (n m : Nat) (F : C3) (ms mk : A3) : E3 := fun σ S => (ms σ S).bind fun ds S1 => (mk σ S1).bind fun es S2 => if ds.length = n ∧ es.length = m then F (ds ++ es) S2 else .bad
def PK3 (X : Cx) (W : WX) (kws : List Keyword) (m : A3) : Prop := PK X kws (rdA X.K W m)
section
variable {X : Cx} {W : WX} {k j n : Nat} {F : C3} {x : Str} {ks : List Str} {p pos kpos : Pos} {e : Expr} {es : List Expr} {kws : List Keyword} {ms mk : A3} {m : E3} {dd : List D} {nm : Option Str}
theorem PK.imp {t t' : TA} (h : PK X kws t) (i : ∀ s H Q, t' s H Q → t s H Q) : PK X kws t' := ⟨fun pos pins s σ H Q I q => h.run pos pins s σ H Q I (i _ _ _ q)⟩
theorem k_nil : PK3 X W [] mNil := PK.imp pk_nil fun sv H Q ⟨w, σ, S, l, z, q⟩ => q.at_ z .nil
theorem k_cons (he : PE3 X W e m) (hr : PK3 X W kws mk) : PK3 X W (⟨nm, e, kpos⟩ :: kws) (mCons m mk) :=
  PK.imp (pk_cons he hr) fun sv H Q ⟨w, σ, S, l, z, q⟩ => ⟨w, σ, S, l, z, Hold.step q fun d S1 w1 H1 u x1 z1 r1 q1 => ⟨w1, σ, S1, l.mono x1, z1, Hold.step q1 fun ds S2 w2 H2 us x2 z2 r2 q2 => q2.at_ z2 (.cons (r1.mono x2) r2)⟩⟩
theorem e_c3k (c : Kal3 X.prog X.w X.K X.mg X.base k x n ks F) (hr : RoomG j X.A) (hk : k ≤ j) (tk : Takes X W) (hg : Gl X x) (ha : PA3 X W (e :: es) ms) (hkw : PK3 X W kws mk)
    (hall : (backToKw pos (keywordEach kws X.env)).all (·.1.isSome) = true := by rfl) (hks : (backToKw pos (keywordEach kws X.env)).filterMap (·.1) = ks := by rfl)
    (hdb : (x == ("__debug__" : Str)) = false := by decide) (he : starEach (e :: es) X.env = (false, eval e X.env) :: starEach es X.env := by rfl)
    (hpl : ((backTo pos (starEach (e :: es) X.env)).any (·.1) || (backToKw pos (keywordEach kws X.env)).any (·.1.isNone)) = false := by rfl) :
    PE3 X W (.Call (.Name x p) (e :: es) kws pos) (mKw n ks.length F ms mk) := by
  obtain ⟨f, fd, ps, hm, hkp, hb, hn, G⟩ := c.ex
  refine ⟨fun pins s σ H Q I h => ?_⟩
  obtain ⟨wd, l, S, lr, z, q⟩ := h
  refine wpAny_Call_Name_kw (ld_glob I hg hm ?_ hdb)
  refine PySem.W.callWith_KW (h₀ := X.base) I.ok.mod.kin hkp hall (thn (ha.run pos pins s σ H (fun vs H1 => ∃ w1 ds S1, Ext wd w1 ∧ RepA X.K w1 vs ds ∧ WRel X.K w1 S1 H1 ∧ Hold X.K W σ (Rep X.K) w1 Q ((mk l S1).bind fun es S2 => if ds.length = n ∧ es.length = ks.length then F (ds ++ es) S2 else .bad)) I ⟨wd, l, S, lr, z, ?_⟩) ?_) hpl he
  · exact Hold.step q fun ds S1 w1 H1 vs x1 z1 r1 q1 => ⟨w1, ds, S1, x1, r1, z1, q1⟩
  · rintro us s1 ⟨vs, H1, I1, r, w1, ds, S1, x1, ra, z1, q1⟩
    refine thn (hkw.run pos pins s1 σ H1 (fun zs H2 => ∃ w2 es S2, Ext w1 w2 ∧ RepA X.K w2 zs es ∧ WRel X.K w2 S2 H2 ∧ Hold X.K W σ (Rep X.K) w2 Q (if ds.length = n ∧ es.length = ks.length then F (ds ++ es) S2 else .bad)) I1 ⟨w1, l, S1, lr.mono x1, z1, ?_⟩) ?_
    · exact Hold.step q1 fun es S2 w2 H2 zs x2 z2 r2 q2 => ⟨w2, es, S2, x2, r2, z2, q2⟩
    · rintro ws s2 ⟨zs, H2, I2, rz, w2, es, S2, x2, rb, z2, q2⟩
      refine ⟨I2.kIn, ?_⟩
      rw [hks]
      by_cases hl : ds.length = n ∧ es.length = ks.length
      · rw [if_pos hl] at q2
        have ra2 := (ra.mono x2).append rb
        have r2 : Vals (vs ++ zs) (us ++ ws) := r.append rz
        have l1 : us.length = n := by rw [← r.length, ra.length]; exact hl.1
        have l2 : ws.length = ks.length := by rw [← rz.length, rb.length]; exact hl.2
        have l3 : (vs ++ zs).length = ps.length := by rw [ra2.length, List.length_append, hl.1, hl.2, hn]
        have hh : Hold X.K (outW fun c d H => W c d σ H) [] (Rep X.K) w2 Q (F (ds ++ es) S2) := by
          cases q : F (ds ++ es) S2 with
          | ok d S' => rw [q] at q2; exact q2
          | exc C p S' => rw [q] at q2; exact q2
          | bad => rw [q] at q2; exact q2
        refine wpAny_call (codeAny_mono (G.run X.A X.stack s2 H2 ⟨us, ks.zip ws⟩ (us ++ ws) (vs ++ zs) Q _ w2 (ds ++ es) S2 (hr.mono hk) I2.env0 (hb s2 us ws I2.kIn l1 l2) r2 l3 ra2 z2 hh) fun res s' q => ?_)
        cases res with
        | error err => exact passAt tk σ pins H2 s2 err s' I2 q
        | ok fl =>
          cases fl with
          | ret u => exact I2.after q
          | next => exact q.elim
          | brk => exact q.elim
          | cont => exact q.elim
      · rw [if_neg hl] at q2; exact False.elim q2
theorem e_c3d (c : Dal3 X.prog X.w X.K X.mg X.base k x n dd F) (hr : RoomG j X.A) (hk : k ≤ j) (tk : Takes X W) (hg : Gl X x) (ha : PA3 X W (e :: es) ms)
    (hdb : (x == ("__debug__" : Str)) = false := by decide) (he : starEach (e :: es) X.env = (false, eval e X.env) :: starEach es X.env := by rfl) (hpl : (backTo pos (starEach es X.env)).any (·.1) = false := by rfl) :
    PE3 X W (.Call (.Name x p) (e :: es) [] pos) (mMake (fun ds => withLen n F (ds ++ dd)) ms) := by
  obtain ⟨f, fd, ps, dv, du, hm, hkp, hb, hd, hdd, hn, G⟩ := c.ex
  have t := e_callD (p := p) (pos := pos) G (hr.mono hk) tk hg hm hkp hb hd hdd ha hdb he hpl
  rw [hn] at t
  exact t
end
def mkw2 (n m : Nat) (F : C3) (ds : List D) (r : Rs (List D)) : Rs D := r.bind fun es S2 => if ds.length = n ∧ es.length = m then F (ds ++ es) S2 else .bad
def mkw1 (n m : Nat) (F : C3) (mk : A3) (σ : Loc) (r : Rs (List D)) : Rs D := r.bind fun ds S1 => mkw2 n m F ds (mk σ S1)
@[simp] theorem mKw_ev (n m : Nat) (F : C3) (ms mk : A3) (σ : Loc) (S : Sto) : mKw n m F ms mk σ S = mkw1 n m F mk σ (ms σ S) := rfl
@[simp] theorem mkw1_ev (n m : Nat) (F : C3) (mk : A3) (σ : Loc) (ds : List D) (S : Sto) : mkw1 n m F mk σ (.ok ds S) = mkw2 n m F ds (mk σ S) := rfl
theorem mkw2_ev {n m : Nat} {F : C3} {ds es : List D} {S : Sto} (h : ds.length = n ∧ es.length = m) : mkw2 n m F ds (.ok es S) = F (ds ++ es) S := if_pos h
end DL
end

section
set_option Elab.async false
set_option linter.all false
set_option maxRecDepth 100000
set_option maxHeartbeats 4000000
/-! len(set(texts)), list(range(..)) -/
namespace DL
open PySem PySem.Spec PyProof.Rows L2

/-- how many unlike ones -/
def uqR : List Str → Nat
  | [] => 0
  | x :: r => if r.any (· == x) = true then uqR r else uqR r + 1
def uqS (xs : List Str) : Nat := uqR xs.reverse
theorem uqS_add (xs : List Str) (x : Str) : uqS (xs ++ [x]) = if xs.any (· == x) = true then uqS xs else uqS xs + 1 := by
  unfold uqS
  rw [List.reverse_append, List.reverse_singleton, List.singleton_append]
  show (if xs.reverse.any (· == x) = true then _ else _) = _
  rw [List.any_reverse]
theorem uqR_le : ∀ xs : List Str, uqR xs ≤ xs.length
  | [] => Nat.le_refl _
  | x :: r => by
    have := uqR_le r
    unfold uqR
    rw [List.length_cons]
    split <;> omega
theorem uqS_le (xs : List Str) : uqS xs ≤ xs.length := by
  have := uqR_le xs.reverse
  rw [List.length_reverse] at this
  exact this
section
variable {P : Program} {w : World} {A : Around} {E : Value → Shared → Prop} {s : Shared}
theorem moved_set {M : Type} {a : Addr} {h h' : Heap} {S : Str → Bool} {c : Nat} (q : h.SetOf (strKind P w) a S c) (k : ∀ o, h.get? a = some o → h'.get? a = some o) : h'.SetOf (strKind P w) a S c :=
  let ⟨o, es, ep, t, ho, r⟩ := q
  ⟨o, es, ep, t, k o ho, r⟩
theorem strs_loop {I : Addr} {fp wr : List Addr} {G : Array GenState → Array GenState → Prop} {n : Nat} {Pv : Nat → Value → Prop} {St : Nat → Shared → Prop} {R : Result → Shared → Prop}
    (Z : WalksS P w A.in1 I fp wr G n Pv St) (a : Addr) (na : a ∉ fp) (xs : List Str) (len : xs.length = n) (few : n + 1 < scanBound) (at_ : ∀ i v, Pv i v → ∃ x t, xs[i]? = some x ∧ v = .str x t) :
    ∀ (m i : Nat) (s : Shared), n - i = m → i ≤ n → St i s → s.heap.SetOf (strKind P w) a (fun y => (xs.take i).any (· == y)) (uqS (xs.take i)) →
      (∀ t, Moved (a :: wr) G s t → t.heap.SetOf (strKind P w) a (fun y => xs.any (· == y)) (uqS xs) → R (.ok (.ret .none)) t) →
      codeAny (model P w) A (.builtin "set.update.loop" ⟨[.ref a, .ref I], []⟩) R s := by
  have nw : a ∉ wr := fun h => na (Z.sub _ h)
  have wider : ∀ b ∈ wr, b ∈ a :: wr := fun b hb => .tail _ hb
  intro m
  induction m with
  | zero =>
    intro i s e1 hi st q fin
    obtain rfl : i = n := by omega
    refine codeAny_builtin F.entry_set_update_loop ?_
    rw [Around.under_plainId F.plain_set_update_loop _]
    refine wpAny_bind (Z.done s _ _ st fun t mv => ?_)
    refine wpAny_pure (fin t (mv.mono wider) ?_)
    have q2 := moved_set (M := Unit) q fun o e => mv.heap a o nw e
    rw [List.take_of_length_le (by omega)] at q2
    exact q2
  | succ m ih =>
    intro i s e1 hi st q fin
    have lt : i < n := by omega
    refine codeAny_builtin F.entry_set_update_loop ?_
    rw [Around.under_plainId F.plain_set_update_loop _]
    refine wpAny_bind (Z.item i s _ _ lt st fun v t hv st' mv => ?_)
    obtain ⟨x, u, hx, rfl⟩ := at_ i v hv
    have q2 := moved_set (M := Unit) q fun o e => mv.heap a o nw e
    refine wpAny_bind (wpAny_holding ?_)
    unfold setAdd
    refine wpAny_holding ?_
    refine wpAny_bind ((strKind P w).pyHash (k := x) (strKind_is _ _ _ _) ?_)
    have c1 : uqS (xs.take i) ≤ i := Nat.le_trans (uqS_le _) (List.length_take_le _ _)
    refine wpAny_setAddHashed_of (knd := strKind P w) (s := { t with toks := t.toks + 1 }) (strKind_is _ _ _ _) rfl q2 (by omega) fun h' same q3 => ?_
    have tk : xs.take (i + 1) = xs.take i ++ [x] := by rw [List.take_add_one, hx]; rfl
    have q4 : h'.SetOf (strKind P w) a (fun y => (xs.take (i + 1)).any (· == y)) (uqS (xs.take (i + 1))) := by
      refine SetOf_congr q3 (fun y => ?_) (by rw [tk, uqS_add])
      rw [tk, List.any_append]
      show _ = ((xs.take i).any (· == y) || [x].any (· == y))
      congr 1
      rw [List.any_cons, List.any_nil, Bool.or_false]
      by_cases e : y = x
      · rw [e, decide_eq_true rfl, beq_self_eq_true]
      · rw [decide_eq_false e, beq_eq_false_iff_ne.mpr fun z => e z.symm]
    refine wpAny_pure ⟨plainId_quiet F.plain_set_update_loop _, ih (i + 1) _ (by omega) lt (Z.frame _ t _ _ st' (Nat.le_succ _) fun b hb o e => ?_) q4 fun t2 mv2 q5 => ?_⟩
    · rw [same.2 b fun z => na (z ▸ hb)]
      exact e
    · refine fin t2 (Moved.trans Z.gtrans ((mv.mono wider).then_heap (Nat.le_succ _) fun b o hb e => ?_) mv2) q5
      rw [same.2 b fun z => hb (z ▸ .head _)]
      exact e
set_option maxHeartbeats 3200000 in
theorem set_of_strs {p : Addr} {vs : Array Value} (xs : List Str) {Q : Value → Shared → Prop} (hd : A.handled = none) (hp : s.heap.IsList p vs) (hv : StrsAre vs.toList xs) (hn : xs.length + 1 < scanBound)
    (h : ∀ (h' : Heap) (tk : Nat), h'.SetOf (strKind P w) s.heap.objs.size (fun y => xs.any (· == y)) (uqS xs) → (∀ b o, s.heap.get? b = some o → h'.get? b = some o) → Q (.ref s.heap.objs.size) { s with heap := h', toks := tk }) :
    wpAny (model P w) A (call (.type "set") [.ref p]) Q E s := by
  have len : xs.length = vs.size := by rw [← StrsAre.len_eq hv, Array.length_toList]
  obtain ⟨c0, tl0, mro0⟩ := F.called_set.mro
  have made0 := F.called_set.made
  have sub0 := F.called_set.sub
  refine wpAny_call (codeAny_of_tree ?_)
  show wpAny _ _ (callAny (.type "set") _) _ _ _
  refine wpAny_pure ⟨Code.quiet_builtin _ (by decide +kernel), codeAny_builtin F.entry_type_call ?_⟩
  rw [Around.under_plain (weight_type_call_type "set" [.ref p] []) rfl]
  have ty0 := F.called_set.notType
  have can0 := F.called_set.canCreate
  have chk0 := F.typeCall_set_1 (.ref p)
  repeat (any_goals (first | assumption | wp_step))
  refine codeAny_mono (code_set_led1 (.ref p) (E := E) (Q₁ := fun v t => v = .ref s.heap.objs.size ∧ t = { s with heap := zHp w s.heap }) ⟨rfl, rfl⟩) fun r t hr => ?_
  cases r with
  | error e => exact hr
  | ok fl =>
    cases fl with
    | ret v =>
      obtain ⟨rfl, rfl⟩ := hr
      have z1 : (zHp w s.heap).get? s.heap.objs.size = some (zSet w) := Heap.get?_push_size _ rfl
      have z2 : Shared.TypeIs { s with heap := zHp w s.heap } (.ref s.heap.objs.size) "set" := ⟨_, z1, rfl⟩
      have look0 := F.called_set.init.lookup
      have bind0 := F.called_set.init.bind (.ref s.heap.objs.size)
      repeat (any_goals (first | assumption | wp_step))
      refine codeAny_mono (codeAny_call_builtin (R := wants (fun r t => r = .none ∧ ∃ h' tk, t = { s with heap := h', toks := tk } ∧ h'.SetOf (strKind P w) s.heap.objs.size (fun y => xs.any (· == y)) (uqS xs) ∧
          (∀ b o, s.heap.get? b = some o → h'.get? b = some o)) E) F.called_set.init.plain F.entry_set_init (check_set_init_1 z2 ?_)) fun r t hr => ?_
      · obtain ⟨ol, gl, cl, nl, dl⟩ := hp
        obtain ⟨ocls, odict, odata, oslots⟩ := ol
        simp only at cl dl
        subst cl
        subst dl
        have gl' : (zHp w s.heap).get? p = some { cls := .type "list", dict := odict, data := .seq vs nl, slots := oslots } := Heap.get?_push_of_some _ gl
        have f1 := F.sub_list_set
        have f2 := F.sub_list_frozenset
        have f3 : (Value.type "list" == Value.type "dict") = false := by decide
        have hp1 : (zHp w s.heap).IsList p vs := ⟨_, gl', rfl, nl, rfl⟩
        unfold Builtin.«set.__init__» noKeywords Builtin.Frozenset.updateFrom
        generalize hPI : pyIter = PI
        wp_walk
        subst hPI
        refine wpAny_pyIter_list hp1 ?_
        refine wpAny_bind (wpAny_runValue ?_)
        have lt0 : p < s.heap.objs.size := Heap.lt_size gl
        have hd3 : A.in1.in1.in1.handled = none := by simp [hd]
        have ne0 : p ≠ (zHp w s.heap).objs.size := by
          rw [Heap.size_push]
          exact Nat.ne_of_lt (Nat.lt_succ_of_lt lt0)
        have nin : s.heap.objs.size ∉ [(zHp w s.heap).objs.size, p] := by
          rw [Heap.size_push]
          simp only [List.mem_cons, List.not_mem_nil, or_false, not_or]
          exact ⟨Nat.ne_of_lt (Nat.lt_succ_self _), fun e => Nat.lt_irrefl _ (e ▸ lt0)⟩
        have val0 : ∀ (i : Nat) (v : Value), vs[i]? = some v → ∃ x t, xs[i]? = some x ∧ v = .str x t := fun i v e => by
          have hi : i < xs.length := by
            rw [len]
            exact (Array.getElem?_eq_some_iff.mp e).1
          obtain ⟨t, q⟩ := SS.strs_at hv i v (by rw [Array.getElem?_toList] <;> exact e)
          refine ⟨xs[i], t, List.getElem?_eq_getElem hi, ?_⟩
          rw [q, List.getD_eq_getElem?_getD, List.getElem?_eq_getElem hi] <;> rfl
        refine strs_loop ((Walks.list hd3 _ p ne0 vs).toS) s.heap.objs.size nin xs len (by rw [← len]; exact hn) val0 (vs.size - 0) 0 _ (by omega) (Nat.zero_le _) ⟨⟨_, Heap.get?_push_size _ rfl, rfl, rfl⟩, (hp1.push _)⟩ ?one ?two
        case one =>
          have g0 : ((zHp w s.heap).push { cls := .type "list_iterator", data := .fields #[.ref p, .int 0 0] }).get? s.heap.objs.size = some (zSet w) := Heap.get?_push_of_some _ z1
          exact SetOf_congr ((setObjOf_fresh (knd := strKind P w) _).setOf g0 (by unfold scanBound; omega)) (fun _ => rfl) rfl
        case two =>
          intro t m hs
          obtain ⟨h', g2, d', tk', os'⟩ := t
          have eg : g2 = s.gens := m.gens
          have ed : d' = s.drawn := m.drawn
          have eo : os' = s.os := m.os
          subst eg ed eo
          show wpAny _ _ _ _ _ _
          refine wpAny_pure ?_
          show wpAny _ _ (ret Value.none) _ _ _
          refine wpAny_pure ⟨rfl, h', tk', rfl, hs, fun b o e => ?_⟩
          have b0 : b < s.heap.objs.size := Heap.lt_size e
          have b1 : b ≠ (zHp w s.heap).objs.size := by
            rw [Heap.size_push]
            exact Nat.ne_of_lt (Nat.lt_succ_of_lt b0)
          exact m.heap b o (by simp only [List.mem_cons, List.not_mem_nil, or_false, not_or]; exact ⟨Nat.ne_of_lt b0, b1⟩) (Heap.get?_push_of_some _ (Heap.get?_push_of_some _ e))
      · cases r with
        | error e => exact hr
        | ok fl2 =>
          cases fl2 with
          | ret r =>
            obtain ⟨rfl, h', tk, rfl, q1, q2⟩ := hr
            repeat (any_goals (first | assumption | wp_step))
            exact h _ _ q1 q2
          | _ => exact hr.elim
    | _ => exact hr.elim
end

def rLs (K : PySem.W.Frag) : V → Hp → VK → Prop := fun x H Q => ∃ (a : Addr) (xs : List Str), x = .ref a ∧ SqL K H a (xs.map V.str) ∧ xs.length < 1000 ∧ Q (.int (uqS xs : Nat)) H
section
variable {X : Cx} {W : WX} {a : Expr} {ta : TE} {m : E3} {p p2 q pos : Pos}
theorem pe_ls (hc : X.calm = true) (hg : Gl X "len") (hm : X.mg "len" = none) (hg2 : Gl X "set") (hm2 : X.mg "set" = none) (ha : PE X a ta) (na : starEach [a] X.env = (false, eval a X.env) :: starEach [] X.env := by rfl) :
    PE X (.Call (.Name "len" p) [.Call (.Name "set" p2) [a] [] q] [] pos) (fun σ H Q => ta σ H fun x H1 => rLs X.K x H1 Q) := by
  refine ⟨fun pins s σ H Q I h => ?_⟩
  refine Call_ (ld_blt I hg hm boot_len ?_)
  refine callWith_builtin1 (args_cons ?_ rfl) rfl rfl
  refine Call_ (ld_blt I hg2 hm2 boot_set ?_)
  refine callWith_type1 (args_cons (thn (ha.run pins s σ H _ I h) fun v s1 hv => args_nil ?_) na) na rfl
  obtain ⟨x, H1, I1, r1, l, xs, rfl, hq, hl, q1⟩ := hv
  obtain rfl : v = Value.ref l := r1
  obtain ⟨its, r, pl, hz⟩ := I1.list hq
  have ss : ∀ {ys : List Str} {us : List Value}, Vals (ys.map V.str) us → StrsAre us ys := by
    intro ys
    induction ys with
    | nil => intro us r; cases r; exact .nil
    | cons y ys ih =>
      intro us r
      cases r with
      | cons r t =>
        obtain ⟨k, rfl⟩ := r
        exact .cons y k (ih t)
  refine set_of_strs xs (I1.ok.hd hc) pl.isList (by simpa using ss r) (by unfold scanBound; omega) fun h' tk S k => ?_
  refine args_nil ?_
  obtain ⟨o, es, ep, t, ho, hex, hd, _, _, _, hf, hn⟩ := S
  have I2 : Inv X pins σ H1 { s1 with heap := h', toks := tk } := I1.kept fun b o e => k b o e
  have hu := uqS_le xs
  exact call_len_set ho hex hd hf (by rw [hn]; omega) ⟨.int (uqS xs : Nat), H1, I2.tok _, ⟨_, by rw [hn]⟩, q1⟩
def lsA (d : D) (S : Sto) : Rs D := if isTupD d then .bad else withItems d S fun xs => match strsOf xs with
  | some ys => guard (decide (ys.length < 1000)) (.ok (.int (uqS ys : Nat)) S)
  | none => .bad
def mLs (a : E3) : E3 := fun σ S => (a σ S).bind lsA
theorem e_ls (hc : X.calm = true) (hg : Gl X "len") (hm : X.mg "len" = none) (hg2 : Gl X "set") (hm2 : X.mg "set" = none) (ha : PE3 X W a m) (na : starEach [a] X.env = (false, eval a X.env) :: starEach [] X.env := by rfl) :
    PE3 X W (.Call (.Name "len" p) [.Call (.Name "set" p2) [a] [] q] [] pos) (mLs m) :=
  PE.imp (pe_ls hc hg hm hg2 hm2 ha na) fun sv H Q ⟨w, σ, S, l, z, h⟩ => ⟨w, σ, S, l, z, Hold.step h fun d S1 w1 H1 u x1 z1 r1 q1 => by
    unfold lsA at q1
    by_cases t : isTupD d = true
    · rw [if_pos t] at q1; exact False.elim q1
    · rw [if_neg t] at q1
      obtain ⟨xs, _, _, he, _, _, _, hk⟩ := withItems_s z1 r1 q1
      obtain ⟨b, vs, rfl, ra, hs⟩ := items_list z1 r1 he (by simpa using t)
      cases e : strsOf xs with
      | none => simp only [e] at hk; exact False.elim hk
      | some ys =>
        simp only [e] at hk
        obtain ⟨hz, hk⟩ := guard_s hk
        have ev := strsOf_rep ra e
        subst ev
        exact ⟨b, ys, rfl, hs, of_decide_eq_true hz, hk.at_ z1 (.int _)⟩⟩

/-! ### list(range(n)) -/
def lrA (d : D) (S : Sto) : Rs D := match d with
  | .int j => if decide (0 ≤ j) && decide (j ≤ 1000000) then .ok (.lst (rngD 0 j.toNat)) S else .bad
  | _ => .bad
def mLr (a : E3) : E3 := fun σ S => (a σ S).bind lrA
theorem rng_rep {K : PySem.W.Frag} {w : Wd} (n : Int) : RepA K w (rgV 0 n) (rngD 0 n.toNat) := by
  unfold rgV rngD
  rw [Int.sub_zero]
  generalize List.range n.toNat = l
  induction l with
  | nil => exact .nil
  | cons i l ih => exact .cons (.int _) ih
theorem e_lr (hc : X.calm = true) (hg : Gl X "list") (hm : X.mg "list" = none) (hg2 : Gl X "range") (hm2 : X.mg "range" = none) (ha : PE3 X W a m) (na : starEach [a] X.env = (false, eval a X.env) :: starEach [] X.env := by rfl)
    (na2 : starEach [.Call (.Name "range" p2) [a] [] q] X.env = (false, eval (.Call (.Name "range" p2) [a] [] q) X.env) :: starEach [] X.env := by rfl) :
    PE3 X W (.Call (.Name "list" p) [.Call (.Name "range" p2) [a] [] q] [] pos) (mLr m) :=
  PE.imp (pe_listRg hc hg hm (prg_1 hg2 hm2 ha na) na2) fun sv H Q ⟨w, σ, S, l, z, h⟩ => ⟨w, σ, S, l, z, Hold.step h fun d S1 w1 H1 u x1 z1 r1 q1 => by
    cases d with
    | int j =>
      cases r1
      have q2 : Hold X.K W sv (Rep X.K) w1 Q (if decide (0 ≤ j) && decide (j ≤ 1000000) then .ok (.lst (rngD 0 j.toNat)) S1 else .bad) := q1
      by_cases hj : (decide (0 ≤ j) && decide (j ≤ 1000000)) = true
      · rw [if_pos hj] at q2
        rw [Bool.and_eq_true, decide_eq_true_eq, decide_eq_true_eq] at hj
        refine ⟨j, rfl, RgOk.of_le (by omega) (by omega) (by omega) (by omega), fun r hr => ?_⟩
        have xt := z1.ext_put hr (.lst (rgV 0 j))
        exact q2 _ _ _ xt (z1.put hr _) (.lst upd_same (rng_rep j))
      · rw [if_neg hj] at q2; exact False.elim q2
    | _ => exact False.elim q1⟩
end
def lr1 (r : Rs D) : Rs D := r.bind lrA
@[simp] theorem mLr_ev (a : E3) (σ : Loc) (S : Sto) : mLr a σ S = lr1 (a σ S) := rfl
theorem lr1_ev {n : Nat} {S : Sto} (h : n ≤ 1000000) : lr1 (.ok (.int n) S) = .ok (.lst (rngD 0 n)) S := by
  show (if decide (0 ≤ (n : Int)) && decide ((n : Int) ≤ 1000000) then Rs.ok (D.lst (rngD 0 (n : Int).toNat)) S else .bad) = _
  rw [if_pos (by rw [Bool.and_eq_true, decide_eq_true_eq, decide_eq_true_eq]; omega), Int.toNat_natCast]
def ls1 (r : Rs D) : Rs D := r.bind lsA
@[simp] theorem mLs_ev (a : E3) (σ : Loc) (S : Sto) : mLs a σ S = ls1 (a σ S) := rfl
theorem ls1_ref {k : Nat} {xs : List Str} {S : Sto} (e : S[k]? = some (.lst (xs.map D.str))) (h : xs.length < 1000) : ls1 (.ok (.ref k) S) = .ok (.int (uqS xs : Nat)) S := by
  show (match itemsOf S (.ref k) with
    | some xs => (match strsOf xs with
      | some ys => guard (decide (ys.length < 1000)) (Rs.ok (D.int (uqS ys : Nat)) S)
      | none => .bad)
    | none => .bad) = _
  rw [itemsOf_refE, e, itm_lst]
  simp only [strsOf_map]
  exact guard_ev (decide_eq_true h)
end DL
end

section
set_option Elab.async false
set_option linter.all false
set_option maxRecDepth 100000
set_option maxHeartbeats 4000000
/-! enumerate(tuple) -/
namespace DL
open PySem PySem.Spec PyProof.Rows L2

set_option maxHeartbeats 2000000 in
theorem en_new {v : Value} {o : Obj} {Z : Heap → Prop} (B : Begins v o Z) :
    Meets (Builtin.«enumerate.__new__» ⟨[.type "enumerate", v], []⟩) (fun _ R s => Z s.heap ∧
      R (.ok (.ret (.ref (s.heap.push o).objs.size))) { s with heap := (s.heap.push o).push { cls := .type "enumerate", data := .fields #[.none, .bool false, .ref s.heap.objs.size, rawInt 0, .none, .none] } }) :=
  .of_wp fun prog w A R s h => by
    obtain ⟨hp, gs, dr, tk, os⟩ := s
    obtain ⟨z, h⟩ := h
    have sub0 := sub_enumerate
    have begin_ : ∀ {A2 : Around} {E : Value → Shared → Prop} {Q : Value → Shared → Prop}, Q (.ref hp.objs.size) ⟨hp.push o, gs, dr, tk, os⟩ → wpAny (model prog w) A2 (pyIter v) Q E ⟨hp, gs, dr, tk, os⟩ :=
      fun k => B.iter prog w _ _ ⟨hp, gs, dr, tk, os⟩ _ z k
    wp_walk using begin_
    refine wpAny_stack_any fun st => wpAny_pure ?_
    split
    · rename_i c _ _ _ _ _
      cases (c == Value.type "enumerate")
      · wp_walk using begin_
        exact ⟨_, rfl, h⟩
      · wp_walk using begin_
        exact ⟨_, rfl, h⟩
    · wp_walk using begin_
      exact ⟨_, rfl, h⟩
theorem en_call {M : Program} {w : World} {A : Around} {E : Value → Shared → Prop} {s : Shared} {v : Value} {o : Obj} {Z : Heap → Prop} {Q : Value → Shared → Prop} (B : Begins v o Z) (z : Z s.heap)
    (h : ∀ h', IsEnum h' (s.heap.objs.size + 1) s.heap.objs.size 0 .none → h'.get? s.heap.objs.size = some o → h'.objs.size = s.heap.objs.size + 2 → (∀ b u, s.heap.get? b = some u → h'.get? b = some u) → Q (.ref (s.heap.objs.size + 1)) { s with heap := h' }) :
    wpAny (model M w) A (call (.type "enumerate") [v]) Q E s := by
  refine callType_new F.called_enumerate (by decide) (F.typeCall_enumerate_1 _) (F.newCall_enumerate_1 _) (fun obj => F.args_object_init_2 obj _) F.entry_enumerate_new (en_new B) ⟨z, ?_⟩
  have sz : (s.heap.push o).objs.size = s.heap.objs.size + 1 := Heap.size_push ..
  show _ ∧ _
  rw [sz]
  have e1 := Heap.get?_push_size (s.heap.push o) (o := { cls := .type "enumerate", data := .fields #[.none, .bool false, .ref s.heap.objs.size, rawInt 0, .none, .none] }) rfl
  rw [sz] at e1
  exact ⟨⟨_, e1, rfl⟩, h _ e1 (Heap.get?_push_of_some _ (Heap.get?_push_size _ B.free)) (by rw [Heap.size_push, sz]) fun b u x => Heap.get?_push_of_some _ (Heap.get?_push_of_some _ x)⟩

/-- the tuple at a, each item in a new pair -/
def Itet (K : PySem.W.Frag) (a : Addr) : It :=
  ⟨fun i H => ∃ (xs : List V) (x : V), SqT K H a xs ∧ xs[i]? = some x,
    fun i H v H' => ∃ T x, v = .ref T ∧ H T = none ∧ H' = upd H T (.tup [.int (i : Nat), x]) ∧ ∀ xs, SqT K H a xs → xs[i]? = some x,
    fun i H => ∃ xs : List V, SqT K H a xs ∧ xs.length ≤ i⟩
theorem turn_et {P : Program} {w : World} {K : PySem.W.Frag} {elts : List Expr} {kk : Nat} {tpos : Pos} (a e it : Addr) :
    Turn P w K (.Tuple elts kk tpos) (Itet K a) [e, it] e (fun i h => (∃ old, IsEnum h e it ((i : Nat) : Int) old) ∧ h.IsTupleIter it a i ∧ e ≠ it) where
  mem := .head _
  obj := fun i h st b hb => by
    obtain ⟨⟨old, q⟩, ⟨o, ho, hc, hd⟩, _⟩ := st
    rcases List.mem_cons.mp hb with z | hb
    · subst z
      exact ⟨_, q, fun v k => nomatch k⟩
    · rcases List.mem_cons.mp hb with z | hb
      · subst z
        exact ⟨o, ho, fun v k => by rw [hd] at k; cases k⟩
      · cases hb
  keep := fun i h h' st k => by
    obtain ⟨⟨old, q⟩, q2, ne⟩ := st
    exact ⟨⟨old, k e (.head _) _ q⟩, q2.at fun o u => k it (.tail _ (.head _)) o u, ne⟩
  item := by
    intro X hP hw hK hc i pins s σ H E I hf st hg
    subst hP hw hK
    obtain ⟨⟨old, q⟩, q2, ne⟩ := st
    obtain ⟨xs, x, hq, hx⟩ := hg
    obtain ⟨its, rv, p, hz⟩ := I.tuple hq
    have hd := I.ok.hd hc
    obtain ⟨u, hu, ru⟩ := rv.get hx
    have pt : s.heap.IsTuple a its.toArray := p
    have ait : a ≠ it := fun z => by
      obtain ⟨o1, g1, c1, _⟩ := q2
      obtain ⟨o2, g2, c2, _⟩ := p
      rw [z, g1] at g2
      cases g2
      rw [c1] at c2
      exact absurd c2 (by decide)
    have ea : e ≠ a := fun z => by
      obtain ⟨o2, g2, c2, _⟩ := p
      rw [← z] at g2
      have g1 : s.heap.get? e = some _ := q
      rw [g1] at g2
      cases g2
      exact absurd (show Value.type "enumerate" = Value.type "tuple" from c2) (by decide)
    have le1 : e < s.heap.objs.size := Heap.lt_size q
    have le2 : it < s.heap.objs.size := by
      obtain ⟨_, g, _⟩ := q2
      exact Heap.lt_size g
    have D := Draws.tuple (prog := X.prog) (w := X.w) (A := X.A.in1) (by simp [hd]) it a ait its.toArray
    have hi : i < its.toArray.size := by
      have := (List.getElem?_eq_some_iff.mp hu).1
      simpa using this
    refine wpAny_pyNext_enum_itemD D q ⟨q2, pt⟩ hi ne (by simp [ne, ea]) fun y h' tk hP ho st' hT hsz hk => ?_
    have ey : y = u := by
      have h1 : its.toArray[i]? = some y := hP
      rw [List.getElem?_toArray, hu] at h1
      exact (Option.some.inj h1).symm
    subst ey
    refine ⟨_, rfl, wpAny_letOwnedTupleGo_enum (s := { s with heap := h', toks := tk + 1 }) ho fun h2 he2 sb => ?_⟩
    have g2 : h2.get? s.heap.objs.size = some { cls := .type "tuple", data := .seq #[.int i tk, y] } := (sb.2 _ (Nat.ne_of_gt le1)).trans hT
    have nw : ObjOk X.prog X.w (upd H s.heap.objs.size (.tup [.int (i : Nat), x])) h2 s.heap.objs.size (.tup [.int (i : Nat), x]) :=
      ⟨by show 2 ≤ sizeLine; decide, [.int i tk, y], .cons ⟨_, rfl⟩ (.cons ru .nil), ⟨_, g2, rfl, _, rfl⟩⟩
    have J : Inv X pins σ (upd H s.heap.objs.size (.tup [.int (i : Nat), x])) { s with heap := h2, toks := tk + 1 } :=
      I.turnedNew (ch := [e, it]) (fun b ob hb z => (sb.2 b fun k => hb (k ▸ .head _)).trans (hk b ob (fun k => hb (k ▸ .head _)) (fun k => hb (k ▸ .tail _ (.head _))) z)) hf (Nat.le_refl _) nw
    refine ⟨.ref s.heap.objs.size, _, J, rfl, ⟨_, x, rfl, I.hok.fresh (Nat.le_refl _), rfl, fun ys hy => by rw [I.tuple_inj hy hq]; exact hx⟩, ⟨⟨y, ?_⟩, st'.1.at fun o z => (sb.2 it ne.symm).trans z, ne⟩, fun b hb => ?_⟩
    · have k1 : ((i + 1 : Nat) : Int) = (i : Int) + 1 := by omega
      rw [k1]
      exact he2
    · have lb : b < s.heap.objs.size := by
        rcases List.mem_cons.mp hb with z | hb
        · rw [z]; exact le1
        · rw [List.mem_singleton.mp hb]; exact le2
      rw [upd_ne (Nat.ne_of_lt lb)]
      exact (hf b hb).1
  done := by
    intro X hP hw hK hc i pins s σ H E I hf st hg
    subst hP hw hK
    obtain ⟨⟨old, q⟩, q2, ne⟩ := st
    obtain ⟨xs, hq, hx⟩ := hg
    obtain ⟨its, rv, p, hz⟩ := I.tuple hq
    have hd := I.ok.hd hc
    have pt : s.heap.IsTuple a its.toArray := p
    obtain ⟨f0, f1, f2, f3, f4, f5⟩ := hf it (.tail _ (.head _))
    have T : s.TypeIs (.ref e) "enumerate" := ⟨_, q, rfl⟩
    have over : its.toArray[i]? = none := by
      have := rv.length
      simp
      omega
    unfold pyNext
    refine wpAny_bind (wpAny_attempt (wpAny_callSpecial?_slot (name := Str.ofString "__next__") T F.slot_enumerate_next (wpAny_call_entry F.slot_enumerate_next T F.entry_enumerate_next ?_ (F.args_enumerate_next_1 _))))
    show wpAny _ _ (field (.ref e) 2 >>= _) _ _ _
    refine wpAny_bind (wpAny_field q rfl (x := .ref it) rfl ?_)
    refine wpAny_bind (wpAny_nextOf_tuple_end (by simp [hd]) q2 pt over fun h' z eb hz2 => ?_)
    obtain ⟨o, go, co⟩ := hz2
    refine wpAny_bind (wpAny_isInstance (T := "StopIteration") (b := true) ⟨o, go, co⟩ isSubtype_stop ?_)
    exact wpAny_pure ⟨rfl, I.turned (t' := s.toks) (fun b o hb q => eb b o hb q) f0 f1 f3 f4 f5⟩
  self := fun A i s Q E st h => by
    obtain ⟨⟨old, q⟩, _⟩ := st
    exact wpAny_pyIter_enum q h
def iEt (K : PySem.W.Frag) (ta : TE) : TI := fun σ H R => ta σ H fun v H1 => ∃ a xs, v = .ref a ∧ SqT K H1 a xs ∧ R (Itet K a) H1
theorem pi_et {X : Cx} {e : Expr} {ta : TE} {p pos tpos : Pos} {elts : List Expr} {kk : Nat} (hg : Gl X "enumerate") (hm : X.mg "enumerate" = none) (ha : PE X e ta) (hs : starEach [e] X.env = (false, eval e X.env) :: starEach [] X.env := by rfl) :
    PI X (.Tuple elts kk tpos) (.Call (.Name "enumerate" p) [e] [] pos) (iEt X.K ta) := by
  refine ⟨fun pins s σ H R I h => ?_⟩
  refine Call_ (ld_blt I hg hm boot_enumerate (callWith_type1 (args_cons (thn (ha.run pins s σ H _ I h) fun v s1 hv => args_nil ?_) hs) hs rfl))
  obtain ⟨x, H1, I1, r1, a, xs, rfl, hq, q⟩ := hv
  obtain rfl : v = Value.ref a := r1
  obtain ⟨its, rv, p', hz⟩ := I1.tuple hq
  refine en_call (begins_tuple a its.toArray) (show s1.heap.IsTuple a its.toArray from p') fun h' he hit hsz hk => wpAny_pyIter_enum he ?_
  have I2 : Inv X pins σ H1 { s1 with heap := h' } := I1.kept (t' := s1.toks) hk
  refine ⟨s1.heap.objs.size + 1, [s1.heap.objs.size + 1, s1.heap.objs.size], _, _, H1, rfl, I2, turn_et a (s1.heap.objs.size + 1) s1.heap.objs.size, ⟨⟨.none, he⟩, ⟨_, hit, rfl, rfl⟩, Nat.succ_ne_self _⟩, fun b hb => ?_, q⟩
  have le : s1.heap.objs.size ≤ b := by
    rcases List.mem_cons.mp hb with z | hb
    · rw [z]; exact Nat.le_succ _
    · rw [List.mem_singleton.mp hb]; exact Nat.le_refl _
  exact I1.fpOk le (I1.hok.fresh le)
theorem walk_et {K : PySem.W.Frag} {w : Wd} {a : Addr} {vs : List V} {xs : List D} (h : SqT K w.G a vs) (r : RepA K w vs xs) : IsWalkG K w (Itet K a) (enumD xs, none) := fun i w1 S H x z _ => by
  have hs : SqT K H a vs := seqT z.same (seqT x.same h)
  have ra := r.monoG x
  have hl : (enumD xs).length = xs.length := by unfold enumD; rw [List.length_map, List.length_zipIdx]
  refine ⟨fun hi => ⟨vs, hs, by rw [ra.length, ← hl]; exact hi⟩, fun d e => ?_⟩
  have e : (enumD xs)[i]? = some d := e
  unfold enumD at e
  rw [List.getElem?_map, List.getElem?_zipIdx] at e
  cases ex : xs[i]? with
  | none => rw [ex] at e; cases e
  | some y =>
    rw [ex] at e
    have e2 : D.tup [.int ((0 + i : Nat) : Int), y] = d := Option.some.inj e
    rw [Nat.zero_add] at e2
    subst e2
    obtain ⟨v, hv, rv⟩ := ra.get ex
    refine ⟨⟨vs, v, hs, hv⟩, fun u H' q => ?_⟩
    obtain ⟨T, x2, rfl, n, rfl, q⟩ := q
    have e3 : v = x2 := Option.some.inj (hv.symm.trans (q vs hs))
    subst e3
    have xt := z.ext_put n (.tup [.int (i : Nat), v])
    exact ⟨w1.put T (.tup [.int (i : Nat), v]), xt, z.put n _, .tup upd_same (.cons (.int _) (.cons (rv.mono xt) .nil))⟩
def enT (d : D) (S : Sto) : Rs Wk := match d with
  | .tup xs => .ok (enumD xs, none) S
  | _ => .bad
def mEnumT (a : E3) : A4 := fun σ S => (a σ S).bind enT
theorem i_enumT {X : Cx} {W : WX} {e : Expr} {me : E3} {p pos tpos : Pos} {elts : List Expr} {kk : Nat} (hg : Gl X "enumerate") (hm : X.mg "enumerate" = none) (h : PE3 X W e me) (hs : starEach [e] X.env = (false, eval e X.env) :: starEach [] X.env := by rfl) : PI4 X W (.Tuple elts kk tpos) (.Call (.Name "enumerate" p) [e] [] pos) (mEnumT me) :=
  PI.imp (pi_et hg hm h hs) fun sv H Q ⟨w, σ, S, l, z, q⟩ => ⟨w, σ, S, l, z, Hold.step q fun d S1 w1 H1 u x1 z1 r1 q1 => by
    cases d with
    | tup xs =>
      cases r1 with
      | tup h1 h2 => exact ⟨_, _, rfl, SqT.of (z1.same _ _ h1), Hold.at_ (show Hold X.K W sv (IsWalkG X.K) w1 Q (.ok (enumD xs, none) S1) from q1) z1 (walk_et (SqT.of h1) h2)⟩
    | _ => exact False.elim q1⟩
def enT1 (r : Rs D) : Rs Wk := r.bind enT
@[simp] theorem mEnumT_ev (a : E3) (σ : Loc) (S : Sto) : mEnumT a σ S = enT1 (a σ S) := rfl
@[simp] theorem enT1_ev (xs : List D) (S : Sto) : enT1 (.ok (.tup xs) S) = .ok (enumD xs, none) S := rfl
end DL
end

section
set_option Elab.async false
set_option linter.all false
set_option maxRecDepth 100000
set_option maxHeartbeats 4000000
/-! xs[::-1] of a list -/
namespace DL
open PySem PySem.Spec PyProof.Rows L2
def rvL (d : D) (S : Sto) : Rs D := if isTupD d then .bad else withItems d S fun xs => mkLst xs.reverse S
def mRevL (a : E3) : E3 := fun σ S => (a σ S).bind rvL
theorem e_revL {X : Cx} {W : WX} {e : Expr} {me : E3} {k : Nat} {p1 p2 p3 pos : Pos} (h : PE3 X W e me) : PE3 X W (.Subscript e (.Slice none none (some (.UnaryOp .USub (.Constant (.int 1) k p1) p2)) p3) pos) (mRevL me) :=
  PE.imp (pe_revL h) fun sv H Q ⟨w, σ, S, l, z, q⟩ => ⟨w, σ, S, l, z, Hold.step q fun d S1 w1 H1 u x1 z1 r1 q1 => by
    unfold rvL at q1
    by_cases t : isTupD d = true
    · rw [if_pos t] at q1; exact False.elim q1
    · rw [if_neg t] at q1
      obtain ⟨xs, _, _, he, _, _, _, hk⟩ := withItems_s z1 r1 q1
      obtain ⟨a, vs, rfl, ra, hs⟩ := items_list z1 r1 he (by simpa using t)
      exact ⟨a, vs, rfl, hs, (mkLst_s hk z1 ra.rev).2⟩⟩
def rvl1 (r : Rs D) : Rs D := r.bind rvL
@[simp] theorem mRevL_ev (a : E3) (σ : Loc) (S : Sto) : mRevL a σ S = rvl1 (a σ S) := rfl
theorem rvl1_lst {xs : List D} {S : Sto} (h : xs.length ≤ 1000000) : rvl1 (.ok (.lst xs) S) = .ok (.lst xs.reverse) S := by
  show mkLst xs.reverse S = _
  exact mkLst_ev (by rw [List.length_reverse]; exact h)
end DL
end

section
set_option Elab.async false
set_option linter.all false
set_option maxRecDepth 100000
set_option maxHeartbeats 4000000
/-! any of a list of truths; int of a whole number or of a truth -/
namespace DL
open PySem PySem.Spec PyProof.Rows L2
def fAny : C3 := c1 fun d S => if isTupD d then .bad else withItems d S fun xs => match blsOf xs with
  | some bs => .ok (.bl (bs.any id)) S
  | none => .bad
theorem fAny_s {K : PySem.W.Frag} : CallS K (rAny K) fAny := c1_s fun W sv w u d S H Q z r q => by
  by_cases t : isTupD d = true
  · rw [if_pos t] at q; exact False.elim q
  · rw [if_neg t] at q
    obtain ⟨xs, _, _, he, _, _, _, hk⟩ := withItems_s z r q
    obtain ⟨a, vs, rfl, ra, hs⟩ := items_list z r he (by simpa using t)
    cases e : blsOf xs with
    | none => simp only [e] at hk; exact False.elim hk
    | some bs =>
      simp only [e] at hk
      have := blsOf_s ra e
      subst this
      exact ⟨a, bs, rfl, hs, hk.at_ z (.bl _)⟩
def intD (d : D) (S : Sto) : Rs D := match d with
  | .int i => .ok (.int i) S
  | .bl b => .ok (.int (if b then 1 else 0)) S
  | _ => .bad
def fInt : C3 := c1 intD
theorem fInt_s {K : PySem.W.Frag} : CallS K (fun xs H Q => (∃ i, xs = [.int i] ∧ Q (.int i) H) ∨ ∃ k, xs = [.bl k] ∧ Q (.int (if k then 1 else 0)) H) fInt := c1_s fun W sv w u d S H Q z r q => by
  cases d with
  | int i =>
    cases r
    have q' : Hold K W sv (Rep K) w Q (.ok (.int i) S) := q
    exact .inl ⟨i, rfl, q'.at_ z (.int _)⟩
  | bl b =>
    cases r
    have q' : Hold K W sv (Rep K) w Q (.ok (.int (if b then 1 else 0)) S) := q
    exact .inr ⟨b, rfl, q'.at_ z (.int _)⟩
  | _ => exact False.elim q
@[simp] theorem fInt_bl (b : Bool) (S : Sto) : fInt [.bl b] S = .ok (.int (if b then 1 else 0)) S := rfl
@[simp] theorem fInt_int (i : Int) (S : Sto) : fInt [.int i] S = .ok (.int i) S := rfl
end DL
end

section
set_option Elab.async false
set_option linter.all false
set_option maxRecDepth 100000
set_option maxHeartbeats 4000000
/-! ==, != of two instances of a class with its own __eq__ -/
namespace DL
open PySem PySem.Spec PyProof.Rows L2
section
variable {M : Model} {prog : Program} {w : World} {A : Around} {E : Value → Shared → Prop} {s : Shared} {K : PySem.W.Frag} {x C : Addr} {ox : Obj} {od : Option Obj}
theorem ifBound_objNe {args : List Value} {Q : Option Value → Shared → Prop} (X : K.In s.heap) (I : PySem.W.InstAt s.heap x ox C od) (hs : PySem.W.findIn K (.ref C) "__ne__" = some (some (.builtin "object.__ne__")))
    (h : wpAny M A (call (.builtin "object.__ne__") (.ref x :: args)) (fun v => Q (some v)) E s) : wpAny M A (callSpecialIfBound? (.ref x) "__ne__" args) Q E s := by
  simp only [callSpecialIfBound?, bindSpecialIfBound?]
  refine wpAny_holding (wpAny_bind (wpAny_bind (wpAny_bind (I.type.here ((PySem.W.looks_findIn X hs).here ?_)))))
  refine wpAny_bind (wpAny_askSetting (wpAny_ite ?_))
  have fin : wpAny M A (call (.builtin "object.__ne__") ([.ref x] ++ args) >>= fun v => pure (some v)) Q E s := wpAny_bind (wpAny_mono h (fun v s' h' => wpAny_pure h') fun _ _ h' => h')
  split
  · exact wpAny_bind (wpAny_of_eq (F.cmp_object.ne.bind _) (wpAny_pure (by exact fin)))
  · exact wpAny_tryCatch (wpAny_bind (wpAny_of_eq (F.cmp_object.ne.bind _) (wpAny_pure (by exact fin))))
end
section
variable {X : Cx} {k : Nat} {f C : Addr} {fd : FuncData} {ps : List Str} {F : C3}
def rOwn2 (K : PySem.W.Frag) (C : Addr) (F : C3) (neg : Bool) : R2 := fun x y H Q => ∃ wd d e S, Rep K wd x d ∧ Rep K wd y e ∧ WRel K wd S H ∧ (∃ a dx fv, x = .ref a ∧ H a = some (.ins C dx fv)) ∧ (∃ b dy gv, y = .ref b ∧ H b = some (.ins C dy gv)) ∧
  Hold K (outW fun _ _ _ => False) [] (Rep K) wd (fun u H' => ∃ t, u = .bl t ∧ Q (.bl (t != neg)) H') (F [d, e] S)
theorem op_eqOwn (hs : PySem.W.findIn X.K (.ref C) "__eq__" = some (some (.ref f))) (hf : PySem.W.isFn X.K (.ref f) = true) (G : FnOk3 X.prog X.w X.K X.mg X.base k f fd ps F) (hp : ps.length = 2) (hr : RoomG k X.A) (hb : Binds X.K fd ps []) :
    OpR X (compareOp .Eq) (rOwn2 X.K C F false) := by
  intro pins s σ H x y v u Q I rx ry h
  obtain ⟨wd, d, e, S, r1, r2, z, ⟨a, dx, fv, rfl, ea⟩, ⟨b, dy, gv, rfl, eb⟩, hh⟩ := h
  cases rx
  cases ry
  obtain ⟨mA, J, _⟩ := ins_get I.hok ea
  obtain ⟨mB, J', _⟩ := ins_get I.hok eb
  obtain ⟨od, J, _⟩ := J.look
  obtain ⟨od', J', _⟩ := J'.look
  obtain ⟨m, hF⟩ := I.fr
  show wpAny (model X.prog X.w) X.A (richCompare .Eq (.ref a) (.ref b)) (EP X pins σ Q) X.xe s
  have hu : X.A.units < cLine := by have := hr.room.units; omega
  refine PySem.W.cmp_K (op := .Eq) (tb := .ref C) hu hF I.ok.mod.kin J J'.type (by simp [PySem.W.notFirst]) hs hf ?_
  have rv : Vals [V.ref a, V.ref b] [Value.ref a, Value.ref b] := .cons rfl (.cons rfl .nil)
  refine wpAny_mono (run3at (E := X.xe) G hr I.env0 hb (by rw [hp]; rfl) I rv (.cons r1 (.cons r2 .nil)) z hh) (fun w s1 hw => ?_) fun _ _ y => y
  obtain ⟨x, H1, I1, rw', t, rfl, q⟩ := hw
  cases rw'
  refine ⟨.bl t, H1, I1, rfl, ?_⟩
  have : (t != false) = t := by cases t <;> rfl
  rw [this] at q
  exact q
theorem op_neOwn (hs : PySem.W.findIn X.K (.ref C) "__eq__" = some (some (.ref f))) (hne : PySem.W.findIn X.K (.ref C) "__ne__" = some (some (.builtin "object.__ne__"))) (hm : PySem.W.mroIn X.K C (.type "object") = some true)
    (hf : PySem.W.isFn X.K (.ref f) = true) (G : FnOk3 X.prog X.w X.K X.mg X.base k f fd ps F) (hp : ps.length = 2) (hr : RoomG (k + 1) X.A) (hb : Binds X.K fd ps []) :
    OpR X (compareOp .NotEq) (rOwn2 X.K C F true) := by
  intro pins s σ H x y v u Q I rx ry h
  obtain ⟨wd, d, e, S, r1, r2, z, ⟨a, dx, fv, rfl, ea⟩, ⟨b, dy, gv, rfl, eb⟩, hh⟩ := h
  cases rx
  cases ry
  obtain ⟨mA, J, _⟩ := ins_get I.hok ea
  obtain ⟨mB, J', _⟩ := ins_get I.hok eb
  obtain ⟨od, J, _⟩ := J.look
  obtain ⟨od', J', _⟩ := J'.look
  show wpAny (model X.prog X.w) X.A (richCompare .NotEq (.ref a) (.ref b)) (EP X pins σ Q) X.xe s
  have hu : X.A.units < cLine := by have := hr.room.units; omega
  have hu1 : X.A.in1.units < cLine := by have := hr.in1.room.units; omega
  have rv : Vals [V.ref a, V.ref b] [Value.ref a, Value.ref b] := .cons rfl (.cons rfl .nil)
  have run := run3at (E := X.xe) G hr.in1 I.env0.in1 hb (by rw [hp]; rfl : [V.ref a, V.ref b].length = ps.length) I rv (.cons r1 (.cons r2 .nil)) z hh
  have body : wpAny (model X.prog X.w) X.A.in1 (Builtin.«object.__ne__» ⟨[.ref a, .ref b], []⟩) (fun fin s' => ∃ t, fin = .done (.ret (.bool t)) ∧ EP X pins σ Q (.bool t) s') X.xe s := by
    unfold Builtin.«object.__ne__»
    refine wpAny_bind (m := slotArgs "__ne__" 1 _) (wpAny_pure ?_)
    refine wpAny_bind (wpAny_cRoomFor hu1 ?_)
    refine wpAny_bind (PySem.W.ifBound_K I.kIn J hs hf (wpAny_mono run (fun u s1 hq => ?_) fun _ _ y => y))
    obtain ⟨x, H1, I1, ru, t, rfl, q⟩ := hq
    cases ru
    have : (t != true) = !t := by cases t <;> rfl
    rw [this] at q
    exact wpAny_bind (wpAny_truthy_bool (wpAny_pure ⟨_, rfl, .bl _, H1, I1, rfl, q⟩))
  have one : wpAny (model X.prog X.w) X.A (tryCompare (.ref a) (cmpInfo .NotEq).2.1 (.ref b)) (fun r s' => ∃ v, r = some v ∧ EP X pins σ Q v s') X.xe s := by
    unfold tryCompare
    refine wpAny_bind (ifBound_objNe I.kIn J hne (wpAny_call (codeAny_call_builtin PySem.F.cmp_object.ne.plain PySem.F.cmpEntry_ne (PySem.W.check_slot PySem.F.cmpKind_ne PySem.F.cmpSplit_ne (J.type.andThen (PySem.W.looks_mroIn I.kIn hm)) (PySem.F.cmpArgs_ne _ _) (wpAny_mono body (fun fin s1 hv => ?_) fun _ _ e => e)))))
    obtain ⟨t, rfl, q⟩ := hv
    exact wpAny_pure ⟨_, rfl, q⟩
  unfold richCompare
  simp only [oneThing_ref]
  refine wpAny_holding (wpAny_bind (wpAny_cRoomFor hu ?_))
  refine wpAny_bind (J.type.here (wpAny_bind (J'.type.here ?_)))
  split
  · rename_i q
    simp at q
  · refine wpAny_bind (wpAny_pure ?_)
    simp only [Bool.false_eq_true, if_false]
    refine wpAny_bind (wpAny_mono one (fun r s' z => ?_) fun _ _ e => e)
    obtain ⟨v, rfl, hq⟩ := z
    exact wpAny_pure hq
end
/-! ### how it is reckoned -/
def own2 (neg : Bool) (r : Rs D) : Rs D := match r with
  | .ok (.bl t) S => .ok (.bl (t != neg)) S
  | _ => .bad
def oOwn2 (C : Addr) (F : C3) (neg : Bool) : O3 := fun d e S => if insAt C "__eq__" d S && insAt C "__eq__" e S then own2 neg (F [d, e] S) else .bad
theorem oOwn2_s {K : PySem.W.Frag} {C : Addr} {F : C3} {neg : Bool} : OpS K (rOwn2 K C F neg) (oOwn2 C F neg) := by
  intro W sv w u v d e S H Q z r1 r2 q
  have q' : Hold K W sv (Rep K) w Q (if insAt C "__eq__" d S && insAt C "__eq__" e S then own2 neg (F [d, e] S) else .bad) := q
  by_cases hi : (insAt C "__eq__" d S && insAt C "__eq__" e S) = true
  · rw [if_pos hi] at q'
    rw [Bool.and_eq_true] at hi
    obtain ⟨a, dx, fv, e1, e2, _⟩ := insAt_ins z r1 hi.1
    obtain ⟨b, dy, gv, e3, e4, _⟩ := insAt_ins z r2 hi.2
    refine ⟨w, d, e, S, r1, r2, z, ⟨a, dx, fv, e1, e2⟩, ⟨b, dy, gv, e3, e4⟩, ?_⟩
    cases e5 : F [d, e] S with
    | ok t S2 =>
      rw [e5] at q'
      cases t with
      | bl t =>
        have q2 : Hold K W sv (Rep K) w Q (.ok (.bl (t != neg)) S2) := q'
        intro w' H' b x z' r'
        cases r'
        exact ⟨t, rfl, q2 w' H' _ x z' (.bl _)⟩
      | _ => exact False.elim q'
    | exc E p S2 => rw [e5] at q'; exact False.elim q'
    | bad => rw [e5] at q'; exact False.elim q'
  · rw [if_neg hi] at q'
    exact False.elim q'
/-- one of two -/
theorem opR_or {X : Cx} {op : Value → Value → Sem Value} {r r' : R2} (h : OpR X op r) (h' : OpR X op r') : OpR X op (fun x y H Q => r x y H Q ∨ r' x y H Q) :=
  fun pins s σ H x y v u Q I rx ry q => q.elim (h pins s σ H x y v u Q I rx ry) (h' pins s σ H x y v u Q I rx ry)
def oOr (c : D → Sto → Bool) (f g : O3) : O3 := fun d e S => if c d S then f d e S else g d e S
theorem oOr_s {K : PySem.W.Frag} {c : D → Sto → Bool} {f g : O3} {r r' : R2} (h : OpS K r f) (h' : OpS K r' g) : OpS K (fun x y H Q => r x y H Q ∨ r' x y H Q) (oOr c f g) := by
  intro W sv w u v d e S H Q z r1 r2 q
  have q' : Hold K W sv (Rep K) w Q (if c d S then f d e S else g d e S) := q
  by_cases hc : c d S = true
  · rw [if_pos hc] at q'
    exact .inl (h W sv w u v d e S H Q z r1 r2 q')
  · rw [if_neg hc] at q'
    exact .inr (h' W sv w u v d e S H Q z r1 r2 q')
end DL
end

section
set_option Elab.async false
set_option linter.all false
set_option maxRecDepth 100000
set_option maxHeartbeats 4000000
/-! isinstance(x, C), C a class of the program's own, as a value -/
namespace DL
open PySem PySem.Spec PyProof.Rows L2
section
variable {X : Cx} {W : WX} {pos : Pos}
/-- an own class as a value -/
theorem e_class {x : Str} {C : Addr} (hg : Gl X x) (hm : X.mg x = some (.ref C)) (hd : (x == ("__debug__" : Str)) = false := by decide) : PE3 X W (.Name x pos) (mC (.adr C)) :=
  e_const (pe_glob (v := .ref C) hg hm rfl hd) fun _ => .adr C
end
/-- no built-in thing is an instance of it -/
structure Isi3 (K : PySem.W.Frag) (C : Addr) : Prop where
  cl : Cls K C
  ha : PySem.W.findIn K (.ref C) "__class__" = some (some (.builtin "object.__class__"))
  hn : PySem.W.specialIn K (.builtin "object.__class__") "__get__" = some (some (.builtin "getset_descriptor.__get__"))
  ht : PySem.W.takesIn K (.builtin "object.__class__") = some true
  hm : PySem.W.mroIn K C (.type "object") = some true
  n0 : PySem.W.kitOne K (.type "NoneType") (.ref C) = some false
  n1 : PySem.W.kitOne K (.type "bool") (.ref C) = some false
  n2 : PySem.W.kitOne K (.type "int") (.ref C) = some false
  n3 : PySem.W.kitOne K (.type "str") (.ref C) = some false
  n4 : PySem.W.kitOne K (.type "tuple") (.ref C) = some false
  n5 : PySem.W.kitOne K (.type "list") (.ref C) = some false
def basic (t : String) : Bool := t == "NoneType" || t == "bool" || t == "int" || t == "str" || t == "tuple" || t == "list"
def insIs (C : Addr) (d : D) (S : Sto) : Bool := match d with
  | .ref k => (match S[k]? with
    | some (.ins C' _) => C' == C
    | _ => false)
  | _ => false
theorem insIs_ins {K : PySem.W.Frag} {w : Wd} {S : Sto} {H : Hp} {v : V} {d : D} {C : Addr} (z : WRel K w S H) (r : Rep K w v d) (e : insIs C d S = true) : ∃ a dx fv, v = .ref a ∧ H a = some (.ins C dx fv) := by
  have h : ∃ n : Str, insAt C n d S = true := by
    cases d with
    | ref k =>
      have e' : (match S[k]? with
        | some (.ins C' _) => C' == C
        | _ => false) = true := e
      cases q : S[k]? with
      | none => rw [q] at e'; cases e'
      | some o =>
        rw [q] at e'
        cases o with
        | ins C' fs =>
          -- a name that no field has
          obtain ⟨n, hn⟩ : ∃ n : Str, (fs.lookup n).isNone = true := by
            have key : ∀ (gs : List (Str × D)), ∃ m : Nat, ∀ n : Str, m < n.cps.size → gs.lookup n = none := by
              intro gs
              induction gs with
              | nil => exact ⟨0, fun n _ => rfl⟩
              | cons g gs ih =>
                obtain ⟨m, hm⟩ := ih
                refine ⟨max m g.1.cps.size, fun n hn => ?_⟩
                rw [List.lookup_cons]
                have : (n == g.1) = false := by
                  rw [beq_eq_false_iff_ne]
                  intro h
                  rw [h] at hn
                  omega
                rw [this]
                exact hm n (by omega)
            obtain ⟨m, hm⟩ := key fs
            exact ⟨⟨Array.replicate (m + 1) 97⟩, by rw [hm _ (by simp)]; rfl⟩
          refine ⟨n, ?_⟩
          show (match S[k]? with
            | some (.ins C' fs) => C' == C && (fs.lookup n).isNone
            | _ => false) = true
          rw [q]
          show (C' == C && (fs.lookup n).isNone) = true
          rw [hn, Bool.and_true]
          exact e'
        | lst _ => cases e'
        | frz _ => cases e'
    | _ => cases e
  obtain ⟨n, h⟩ := h
  obtain ⟨a, dx, fv, e1, e2, _⟩ := insAt_ins z r h
  exact ⟨a, dx, fv, e1, e2⟩
def isiO (C : Addr) (d c : D) (S : Sto) : Rs D := match c with
  | .adr C' => if C' == C then (if insIs C d S then .ok (.bl true) S else (match tyD S d with
    | some t => if basic t then .ok (.bl false) S else .bad
    | none => .bad)) else .bad
  | _ => .bad
def fIsiO (C : Addr) : C3 := c2 (isiO C)
theorem fIsiO_s {K : PySem.W.Frag} {C : Addr} (i : Isi3 K C) : CallS K (rIsi K) (fIsiO C) := c2_s fun W sv w u v d c S H Q z r1 r2 q => by
  cases c with
  | adr C' =>
    cases r2
    have q' : Hold K W sv (Rep K) w Q (if C' == C then (if insIs C d S then .ok (.bl true) S else (match tyD S d with
      | some t => if basic t then .ok (.bl false) S else .bad
      | none => .bad)) else .bad) := q
    by_cases h1 : (C' == C) = true
    · rw [if_pos h1] at q'
      have h1 : C' = C := beq_iff_eq.mp h1
      subst h1
      by_cases h2 : insIs C' d S = true
      · rw [if_pos h2] at q'
        obtain ⟨a, dx, fv, rfl, ea⟩ := insIs_ins z r1 h2
        refine ⟨_, _, .ref C', .ref C', true, rfl, .own C', ?_, ?_, q'.at_ z (.bl _)⟩
        · exact .base (.ins ea i.cl i.ha i.hn i.ht i.hm)
        · unfold PySem.W.kitOne
          rw [if_pos (by simp)]
      · rw [if_neg h2] at q'
        cases e : tyD S d with
        | none => rw [e] at q'; exact False.elim q'
        | some t =>
          simp only [e] at q'
          have ty := tyD_s z r1 e
          by_cases h3 : basic t = true
          · rw [if_pos h3] at q'
            refine ⟨_, _, _, .ref C', false, rfl, .own C', ty, ?_, q'.at_ z (.bl _)⟩
            unfold basic at h3
            simp only [Bool.or_eq_true, beq_iff_eq] at h3
            rcases h3 with ((((rfl | rfl) | rfl) | rfl) | rfl) | rfl
            · exact i.n0
            · exact i.n1
            · exact i.n2
            · exact i.n3
            · exact i.n4
            · exact i.n5
          · rw [if_neg h3] at q'
            exact False.elim q'
    · rw [if_neg h1] at q'
      exact False.elim q'
  | _ => exact False.elim q
/-- isinstance of a class of either kind -/
def isAdr (d : D) : Bool := match d with
  | .adr _ => true
  | _ => false
theorem call_isiO {X : Cx} : CallR X (.builtin "isinstance") (rIsi X.K) := call_isi
end DL
namespace DL
open PySem PySem.Spec PyProof.Rows L2
/-- the class's own == -/
structure Own2 (P : Program) (w : World) (K : PySem.W.Frag) (mg : Str → Option Value) (base : Heap) (k : Nat) (C : Addr) (F : C3) : Prop where
  ne : PySem.W.findIn K (.ref C) "__ne__" = some (some (.builtin "object.__ne__"))
  ob : PySem.W.mroIn K C (.type "object") = some true
  ex : ∃ (f : Addr) (fd : FuncData), PySem.W.findIn K (.ref C) "__eq__" = some (some (.ref f)) ∧ PySem.W.isFn K (.ref f) = true ∧ ∃ a b : Str, FnOk3 P w K mg base k f fd [a, b] F ∧ Binds K fd [a, b] []
section
variable {X : Cx} {j k : Nat} {C : Addr} {F : C3}
theorem eqOwn3 (h : Own2 X.prog X.w X.K X.mg X.base j C F) (hr : RoomG k X.A) (hj : j ≤ k) : OpR X (compareOp .Eq) (rOwn2 X.K C F false) := by
  obtain ⟨f, fd, h1, h2, a, b, G, hb⟩ := h.ex
  exact op_eqOwn h1 h2 G rfl (hr.mono hj) hb
theorem neOwn3 (h : Own2 X.prog X.w X.K X.mg X.base j C F) (hr : RoomG k X.A) (hj : j + 1 ≤ k) : OpR X (compareOp .NotEq) (rOwn2 X.K C F true) := by
  obtain ⟨f, fd, h1, h2, a, b, G, hb⟩ := h.ex
  exact op_neOwn h1 h.ne h.ob h2 G rfl (hr.mono hj) hb
end
end DL
end

section
set_option Elab.async false
set_option linter.all false
set_option maxRecDepth 100000
set_option maxHeartbeats 4000000
namespace DL
open PySem PySem.Spec PyProof.Rows L2
section
variable {M : Model} {prog : Program} {w : World} {A : Around} {E : Value → Shared → Prop} {s : Shared} {K : PySem.W.Frag} {l b C : Addr} {ox : Obj} {od : Option Obj}
theorem isI_own {T : String} {Q : Bool → Shared → Prop} (X : K.In s.heap) (J : PySem.W.InstAt s.heap b ox C od) (hs : PySem.W.subIn K (.ref C) (.type T) = some false) (h : Q false s) : wpAny M A (isInstance (.ref b) (.type T)) Q E s := by
  simp only [isInstance]
  exact wpAny_bind (J.type.here ((PySem.W.looks_subIn X hs).here h))
theorem decl_list {Q : Fin → Shared → Prop} (X : K.In s.heap) (J : PySem.W.InstAt s.heap b ox C od) (hs : PySem.W.subIn K (.ref C) (.type "list") = some false) (h : Q (.done (.ret .notImplemented)) s) : wpAny M A (Builtin.«list.__eq__» ⟨[.ref l, .ref b], []⟩) Q E s := by
  show wpAny M A (slotArgs "__eq__" 1 _ >>= _) Q E s
  refine wpAny_bind (m := slotArgs "__eq__" 1 ⟨[.ref l, .ref b], []⟩) (wpAny_pure ?_)
  refine wpAny_bind (m := isInstance (.ref b) (.type "list")) (isI_own X J hs ?_)
  exact wpAny_pure h
theorem decl_tuple {Q : Fin → Shared → Prop} (X : K.In s.heap) (J : PySem.W.InstAt s.heap b ox C od) (hs : PySem.W.subIn K (.ref C) (.type "tuple") = some false) (h : Q (.done (.ret .notImplemented)) s) : wpAny M A (Builtin.«tuple.__eq__» ⟨[.ref l, .ref b], []⟩) Q E s := by
  show wpAny M A (slotArgs "__eq__" 1 _ >>= _) Q E s
  refine wpAny_bind (m := slotArgs "__eq__" 1 ⟨[.ref l, .ref b], []⟩) (wpAny_pure ?_)
  refine wpAny_bind (m := isInstance (.ref b) (.type "tuple")) (isI_own X J hs ?_)
  exact wpAny_pure h
theorem asInt_own {dx : Addr} {Q : Option Int → Shared → Prop} (hb : s.heap.get? b = some (PySem.W.instObj C dx)) (h : Q none s) : wpAny M A (asInt? (.ref b)) Q E s := by
  unfold asInt?
  refine wpAny_bind (wpAny_load hb ?_)
  exact wpAny_pure h
theorem asStr_own {dx : Addr} {Q : Option Str → Shared → Prop} (hb : s.heap.get? b = some (PySem.W.instObj C dx)) (h : Q none s) : wpAny M A (asStr? (.ref b)) Q E s := by
  unfold asStr?
  refine wpAny_bind (wpAny_load hb ?_)
  exact wpAny_pure h
theorem decl_int {dx : Addr} {i : Int} {t : Tok} {Q : Fin → Shared → Prop} (hb : s.heap.get? b = some (PySem.W.instObj C dx)) (h : Q (.done (.ret .notImplemented)) s) : wpAny M A (Builtin.«int.__eq__» ⟨[.int i t, .ref b], []⟩) Q E s := by
  show wpAny M A (slotArgs "__eq__" 1 _ >>= _) Q E s
  refine wpAny_bind (m := slotArgs "__eq__" 1 ⟨[.int i t, .ref b], []⟩) (wpAny_pure ?_)
  refine wpAny_bind (wpAny_pure ?_)
  refine wpAny_bind (m := asInt? (.ref b)) (asInt_own hb ?_)
  exact wpAny_bind (wpAny_rule (wpAny_pure h))
theorem decl_bool {dx : Addr} {i : Bool} {Q : Fin → Shared → Prop} (hb : s.heap.get? b = some (PySem.W.instObj C dx)) (h : Q (.done (.ret .notImplemented)) s) : wpAny M A (Builtin.«int.__eq__» ⟨[.bool i, .ref b], []⟩) Q E s := by
  show wpAny M A (slotArgs "__eq__" 1 _ >>= _) Q E s
  refine wpAny_bind (m := slotArgs "__eq__" 1 ⟨[.bool i, .ref b], []⟩) (wpAny_pure ?_)
  refine wpAny_bind (wpAny_pure ?_)
  refine wpAny_bind (m := asInt? (.ref b)) (asInt_own hb ?_)
  exact wpAny_bind (wpAny_rule (wpAny_pure h))
theorem decl_str {dx : Addr} {x : Str} {t : Tok} {Q : Fin → Shared → Prop} (hb : s.heap.get? b = some (PySem.W.instObj C dx)) (h : Q (.done (.ret .notImplemented)) s) : wpAny M A (Builtin.«str.__eq__» ⟨[.str x t, .ref b], []⟩) Q E s := by
  show wpAny M A (Builtin.Str.strSlot "__eq__" 1 _ >>= _) Q E s
  refine wpAny_bind (m := Builtin.Str.strSlot "__eq__" 1 ⟨[.str x t, .ref b], []⟩) (wpAny_bind (wpAny_pure (wpAny_bind (wpAny_pure (wpAny_pure ?_)))))
  refine wpAny_bind (m := asStr? (.ref b)) (asStr_own hb ?_)
  exact wpAny_bind (wpAny_rule (wpAny_pure h))
end
section
variable {X : Cx} {pins : List (Addr × Obj)} {σ : L2.St} {H : Hp} {s : Shared} {C b dx : Addr} {od : Option Obj} {ox : Obj} {A : Around} {E : Value → Shared → Prop}
/-- no instance of the class is a list, a tuple -/
structure Apt (K : PySem.W.Frag) (C : Addr) : Prop where
  lst : PySem.W.subIn K (.ref C) (.type "list") = some false
  tup : PySem.W.subIn K (.ref C) (.type "tuple") = some false
  int : PySem.W.subIn K (.ref C) (.type "int") = some false
  bl : PySem.W.subIn K (.ref C) (.type "bool") = some false
  str : PySem.W.subIn K (.ref C) (.type "str") = some false
  non : PySem.W.subIn K (.ref C) (.type "NoneType") = some false
theorem dec_list {a : Addr} {o : Obj} (I : Inv X pins σ H s) (h1 : s.heap.get? a = some o) (hc : o.cls = .type "list") (J : PySem.W.InstAt s.heap b ox C od) (S : Apt X.K C) :
    wpAny (model X.prog X.w) A (tryCompare (.ref a) "__eq__" (.ref b)) (fun r s' => r = none ∧ s' = s) E s := by
  have hT : s.TypeIs (.ref a) "list" := ⟨o, h1, hc⟩
  exact wpAny_tryCompare_declines hT PySem.F.slot_list_eq (wpAny_call_entry PySem.F.slot_list_eq hT PySem.F.entry_list_eq (decl_list I.kIn J S.lst ⟨_, rfl, rfl, rfl, rfl⟩) (PySem.F.args_list_eq_2 _ _))
theorem dec_tuple {a : Addr} {o : Obj} (I : Inv X pins σ H s) (h1 : s.heap.get? a = some o) (hc : o.cls = .type "tuple") (J : PySem.W.InstAt s.heap b ox C od) (S : Apt X.K C) :
    wpAny (model X.prog X.w) A (tryCompare (.ref a) "__eq__" (.ref b)) (fun r s' => r = none ∧ s' = s) E s := by
  have hT : s.TypeIs (.ref a) "tuple" := ⟨o, h1, hc⟩
  exact wpAny_tryCompare_declines hT PySem.F.slot_tuple_eq (wpAny_call_entry PySem.F.slot_tuple_eq hT PySem.F.entry_tuple_eq (decl_tuple I.kIn J S.tup ⟨_, rfl, rfl, rfl, rfl⟩) (PySem.F.args_tuple_eq_2 _ _))
theorem dec_int {i : Int} {t : Tok} (hb : s.heap.get? b = some (PySem.W.instObj C dx)) :
    wpAny (model X.prog X.w) A (tryCompare (.int i t) "__eq__" (.ref b)) (fun r s' => r = none ∧ s' = s) E s := by
  have hT : s.TypeIs (.int i t) "int" := rfl
  exact wpAny_tryCompare_declines hT PySem.F.slot_int_eq (wpAny_call_entry PySem.F.slot_int_eq hT PySem.F.entry_int_eq (decl_int hb ⟨_, rfl, rfl, rfl, rfl⟩) (PySem.F.args_int_eq_2 _ _))
theorem dec_bool {i : Bool} (hb : s.heap.get? b = some (PySem.W.instObj C dx)) :
    wpAny (model X.prog X.w) A (tryCompare (.bool i) "__eq__" (.ref b)) (fun r s' => r = none ∧ s' = s) E s := by
  have hT : s.TypeIs (.bool i) "bool" := rfl
  exact wpAny_tryCompare_declines hT PySem.F.slot_bool_eq (wpAny_call_entry PySem.F.slot_bool_eq hT PySem.F.entry_int_eq (decl_bool hb ⟨_, rfl, rfl, rfl, rfl⟩) (PySem.F.args_int_eq_2 _ _))
theorem dec_str {x : Str} {t : Tok} (hb : s.heap.get? b = some (PySem.W.instObj C dx)) :
    wpAny (model X.prog X.w) A (tryCompare (.str x t) "__eq__" (.ref b)) (fun r s' => r = none ∧ s' = s) E s := by
  have hT : s.TypeIs (.str x t) "str" := rfl
  exact wpAny_tryCompare_declines hT PySem.F.slot_str_eq (wpAny_call_entry PySem.F.slot_str_eq hT PySem.F.entry_str_eq (decl_str hb ⟨_, rfl, rfl, rfl, rfl⟩) (PySem.F.args_str_eq_2 _ _))
theorem dec_none :
    wpAny (model X.prog X.w) A (tryCompare .none "__eq__" (.ref b)) (fun r s' => r = none ∧ s' = s) E s :=
  wpAny_tryCompare_declines (show s.TypeIs .none "NoneType" from rfl) PySem.F.slot_NoneType_eq_refl (call_gives PySem.F.slot_NoneType_eq_refl rfl PySem.F.entry_NoneType_eq (PySem.F.args_NoneType_eq_2 _ _) (PySem.SeqAt.NoneType___eq___none_ref_0 b) ⟨rfl, rfl, rfl⟩)
/-- what a thing of another kind says of an instance: nothing; its type, of which the instance is none -/
theorem dec_any {x : V} {u : Value} {T : String} (I : Inv X pins σ H s) (rx : RelV x u) (ty : TyX X.K H x (.type T)) (hT : basic T = true) (J : PySem.W.InstAt s.heap b ox C od) (hb : s.heap.get? b = some (PySem.W.instObj C dx)) (S : Apt X.K C) :
    (∀ (A : Around) (E : Value → Shared → Prop), wpAny (model X.prog X.w) A (tryCompare u "__eq__" (.ref b)) (fun r s' => r = none ∧ s' = s) E s) ∧ oneThing? .Eq u (.ref b) = none ∧ PySem.W.subIn X.K (.ref C) (.type T) = some false := by
  generalize ht : Value.type T = tt at ty
  cases ty with
  | base bb =>
    cases bb with
    | non => cases ht; cases (show u = Value.none from rx); exact ⟨fun A E => dec_none, rfl, S.non⟩
    | bl y => cases ht; cases (show u = Value.bool y from rx); exact ⟨fun A E => dec_bool hb, rfl, S.bl⟩
    | int i => cases ht; obtain ⟨t, q⟩ := (show ∃ t, u = Value.int i t from rx); cases q; exact ⟨fun A E => dec_int hb, rfl, S.int⟩
    | str y => cases ht; obtain ⟨t, q⟩ := (show ∃ t, u = Value.str y t from rx); cases q; exact ⟨fun A E => dec_str hb, rfl, S.str⟩
    | flt y => cases ht; exact absurd hT (by decide)
    | @lst a xs ea =>
      cases ht
      cases (show u = Value.ref a from rx)
      obtain ⟨_, _, n, _, h1⟩ := (show ObjOk X.prog X.w H s.heap a (.lst xs) from I.hok a _ ea)
      exact ⟨fun A E => dec_list I h1 rfl J S, rfl, S.lst⟩
    | @frz a ob xs ea =>
      cases ht
      cases (show u = Value.ref a from rx)
      obtain ⟨_, _, _, n, _, h1⟩ := (show ObjOk X.prog X.w H s.heap a (.frz ob (.lst xs)) from I.hok a _ ea)
      exact ⟨fun A E => dec_list I h1 rfl J S, rfl, S.lst⟩
    | @tup a xs ea =>
      cases ht
      cases (show u = Value.ref a from rx)
      obtain ⟨_, _, _, o, h1, h2, _⟩ := (show ObjOk X.prog X.w H s.heap a (.tup xs) from I.hok a _ ea)
      exact ⟨fun A E => dec_tuple I h1 h2 J S, rfl, S.tup⟩
    | dK ea => cases ht; exact absurd hT (by decide)
    | dT ea => cases ht; exact absurd hT (by decide)
    | ins ea cl ha hn htk hm => cases ht
  | byt y => cases ht; exact absurd hT (by decide)
  | set ea => cases ht; exact absurd hT (by decide)
  | @kList a o e c =>
    cases ht
    cases (show u = Value.ref a from rx)
    exact ⟨fun A E => dec_list I (I.kIn a o e) c J S, rfl, S.lst⟩
  | @kTuple a o e c =>
    cases ht
    cases (show u = Value.ref a from rx)
    exact ⟨fun A E => dec_tuple I (I.kIn a o e) c J S, rfl, S.tup⟩
  | kDict e c => cases ht; exact absurd hT (by decide)
  | @fTuple a ob xs ea =>
    cases ht
    cases (show u = Value.ref a from rx)
    obtain ⟨_, _, _, _, o, h1, h2, _⟩ := (show ObjOk X.prog X.w H s.heap a (.frz ob (.tup xs)) from I.hok a _ ea)
    exact ⟨fun A E => dec_tuple I h1 h2 J S, rfl, S.tup⟩
  | fDict ea => cases ht; exact absurd hT (by decide)
end
end DL
namespace DL
open PySem PySem.Spec PyProof.Rows L2
theorem sub_basic {K : PySem.W.Frag} {C : Addr} {T : String} (h : basic T = true) : PySem.W.subIn K (.type T) (.ref C) = some false := by
  unfold basic at h
  simp only [Bool.or_eq_true, beq_iff_eq] at h
  rcases h with ((((rfl | rfl) | rfl) | rfl) | rfl) | rfl
  · have e : fastBuiltinMro "NoneType" = some [.type "NoneType", .type "object"] := by decide +kernel
    show (fastBuiltinMro "NoneType").map (·.contains (.ref C)) = some false
    rw [e]
    first | rfl | simp
  · have e : fastBuiltinMro "bool" = some [.type "bool", .type "int", .type "object"] := by decide +kernel
    show (fastBuiltinMro "bool").map (·.contains (.ref C)) = some false
    rw [e]
    first | rfl | simp
  · have e : fastBuiltinMro "int" = some [.type "int", .type "object"] := by decide +kernel
    show (fastBuiltinMro "int").map (·.contains (.ref C)) = some false
    rw [e]
    first | rfl | simp
  · have e : fastBuiltinMro "str" = some [.type "str", .type "object"] := by decide +kernel
    show (fastBuiltinMro "str").map (·.contains (.ref C)) = some false
    rw [e]
    first | rfl | simp
  · have e : fastBuiltinMro "tuple" = some [.type "tuple", .type "object"] := by decide +kernel
    show (fastBuiltinMro "tuple").map (·.contains (.ref C)) = some false
    rw [e]
    first | rfl | simp
  · have e : fastBuiltinMro "list" = some [.type "list", .type "object"] := by decide +kernel
    show (fastBuiltinMro "list").map (·.contains (.ref C)) = some false
    rw [e]
    first | rfl | simp
section
variable {X : Cx} {k : Nat} {f C : Addr} {fd : FuncData} {ps : List Str} {F : C3}
def rOwnL (K : PySem.W.Frag) (C : Addr) (F : C3) : R2 := fun x y H Q => ∃ wd d e S T, Rep K wd x d ∧ Rep K wd y e ∧ WRel K wd S H ∧ (∃ a dx fv, x = .ref a ∧ H a = some (.ins C dx fv)) ∧ TyX K H y (.type T) ∧ basic T = true ∧
  Hold K (outW fun _ _ _ => False) [] (Rep K) wd (fun u H' => ∃ t, u = .bl t ∧ Q (.bl t) H') (F [d, e] S)
def rOwnR (K : PySem.W.Frag) (C : Addr) (F : C3) : R2 := fun x y H Q => ∃ wd d e S T, Rep K wd x d ∧ Rep K wd y e ∧ WRel K wd S H ∧ (∃ b dx fv, y = .ref b ∧ H b = some (.ins C dx fv)) ∧ TyX K H x (.type T) ∧ basic T = true ∧
  Hold K (outW fun _ _ _ => False) [] (Rep K) wd (fun u H' => ∃ t, u = .bl t ∧ Q (.bl t) H') (F [e, d] S)
theorem op_eqL (hs : PySem.W.findIn X.K (.ref C) "__eq__" = some (some (.ref f))) (hf : PySem.W.isFn X.K (.ref f) = true) (G : FnOk3 X.prog X.w X.K X.mg X.base k f fd ps F) (hp : ps.length = 2) (hr : RoomG k X.A) (hb : Binds X.K fd ps []) :
    OpR X (compareOp .Eq) (rOwnL X.K C F) := by
  intro pins s σ H x y v u Q I rx ry h
  obtain ⟨wd, d, e, S, T, r1, r2, z, ⟨a, dx, fv, rfl, ea⟩, ty, hT, hh⟩ := h
  cases rx
  obtain ⟨mA, J, _⟩ := ins_get I.hok ea
  obtain ⟨od, J, _⟩ := J.look
  obtain ⟨m, hF⟩ := I.fr
  obtain ⟨P, Z, p, hx⟩ := kit_of I ry ty
  show wpAny (model X.prog X.w) X.A (richCompare .Eq (.ref a) u) (EP X pins σ Q) X.xe s
  have hu : X.A.units < cLine := by have := hr.room.units; omega
  refine PySem.W.cmp_K (op := .Eq) (tb := .type T) hu hF I.ok.mod.kin J (Z.ty _ _ I.kIn p) (by unfold PySem.W.notFirst; rw [sub_basic hT]; simp) hs hf ?_
  have rv : Vals [V.ref a, y] [Value.ref a, u] := .cons rfl (.cons ry .nil)
  refine wpAny_mono (run3at (E := X.xe) G hr I.env0 hb (by rw [hp]; rfl) I rv (.cons r1 (.cons r2 .nil)) z hh) (fun w s1 hw => ?_) fun _ _ y => y
  obtain ⟨x, H1, I1, rw', t, rfl, q⟩ := hw
  cases rw'
  exact ⟨.bl t, H1, I1, rfl, q⟩
theorem op_eqR (ap : Apt X.K C) (hs : PySem.W.findIn X.K (.ref C) "__eq__" = some (some (.ref f))) (hf : PySem.W.isFn X.K (.ref f) = true) (G : FnOk3 X.prog X.w X.K X.mg X.base k f fd ps F) (hp : ps.length = 2) (hr : RoomG k X.A) (hb : Binds X.K fd ps []) :
    OpR X (compareOp .Eq) (rOwnR X.K C F) := by
  intro pins s σ H x y v u Q I rx ry h
  obtain ⟨wd, d, e, S, T, r1, r2, z, ⟨b, dx, fv, rfl, eb⟩, ty, hT, hh⟩ := h
  cases ry
  obtain ⟨mA, J0, _⟩ := ins_get I.hok eb
  have hob := J0.obj
  obtain ⟨od, J, _⟩ := J0.look
  obtain ⟨P, Z, p, hx⟩ := kit_of I rx ty
  obtain ⟨dec, one, sub⟩ := dec_any I rx ty hT J hob ap
  have hu : X.A.units < cLine := by have := hr.room.units; omega
  have rv : Vals [V.ref b, x] [Value.ref b, v] := .cons rfl (.cons rx .nil)
  have run := run3at (E := X.xe) G hr I.env0 hb (by rw [hp]; rfl : [V.ref b, x].length = ps.length) I rv (.cons r2 (.cons r1 .nil)) z hh
  show wpAny (model X.prog X.w) X.A (richCompare .Eq v (.ref b)) (EP X pins σ Q) X.xe s
  have two : wpAny (model X.prog X.w) X.A (tryCompare (.ref b) "__eq__" v) (fun r s' => ∃ w, r = some w ∧ EP X pins σ Q w s') X.xe s := by
    unfold tryCompare
    refine wpAny_bind (PySem.W.ifBound_K I.kIn J hs hf (wpAny_mono run (fun w s1 hq => ?_) fun _ _ y => y))
    obtain ⟨x, H1, I1, ru, t, rfl, q⟩ := hq
    cases ru
    exact wpAny_pure ⟨_, rfl, .bl t, H1, I1, rfl, q⟩
  unfold richCompare
  simp only [one]
  refine wpAny_holding (wpAny_bind (wpAny_cRoomFor hu ?_))
  refine wpAny_bind ((Z.ty _ _ I.kIn p).here (wpAny_bind (J.type.here ?_)))
  split
  · refine wpAny_bind ((PySem.W.looks_subIn I.kIn sub).here ?_)
    simp only [Bool.false_eq_true, if_false, Bool.not_false, if_true]
    refine wpAny_bind (m := tryCompare v _ (.ref b)) (wpAny_mono (dec _ _) (fun r s1 zz => ?_) fun _ _ e => e)
    obtain ⟨z1, z2⟩ := zz
    subst z1
    subst z2
    refine wpAny_bind (m := tryCompare (.ref b) _ v) (wpAny_mono two (fun r s2 zz => ?_) fun _ _ e => e)
    obtain ⟨w, rfl, q⟩ := zz
    exact wpAny_pure q
  · rename_i q
    exact absurd (by simp) q
end
/-! ### how it is reckoned -/
def boolOnly (r : Rs D) : Rs D := match r with
  | .ok (.bl t) S => .ok (.bl t) S
  | _ => .bad
def oOwnL (C : Addr) (F : C3) : O3 := fun d e S => if insAt C "__eq__" d S then (match tyD S e with
  | some t => if basic t then boolOnly (F [d, e] S) else .bad
  | none => .bad) else .bad
def oOwnR (C : Addr) (F : C3) : O3 := fun d e S => if insAt C "__eq__" e S then (match tyD S d with
  | some t => if basic t then boolOnly (F [e, d] S) else .bad
  | none => .bad) else .bad
theorem boolOnly_s {K : PySem.W.Frag} {W : WX} {sv : L2.St} {w : Wd} {Q : VK} {r : Rs D} (q : Hold K W sv (Rep K) w Q (boolOnly r)) : Hold K (outW fun _ _ _ => False) [] (Rep K) w (fun u H' => ∃ t, u = .bl t ∧ Q (.bl t) H') r := by
  cases r with
  | ok t S2 =>
    cases t with
    | bl t =>
      have q2 : Hold K W sv (Rep K) w Q (.ok (.bl t) S2) := q
      intro w' H' b x z' r'
      cases r'
      exact ⟨t, rfl, q2 w' H' _ x z' (.bl _)⟩
    | _ => exact False.elim q
  | exc E p S2 => exact False.elim q
  | bad => exact False.elim q
theorem oOwnL_s {K : PySem.W.Frag} {C : Addr} {F : C3} : OpS K (rOwnL K C F) (oOwnL C F) := by
  intro W sv w u v d e S H Q z r1 r2 q
  have q' : Hold K W sv (Rep K) w Q (if insAt C "__eq__" d S then (match tyD S e with
    | some t => if basic t then boolOnly (F [d, e] S) else .bad
    | none => .bad) else .bad) := q
  by_cases hi : insAt C "__eq__" d S = true
  · rw [if_pos hi] at q'
    obtain ⟨a, dx, fv, e1, e2, _⟩ := insAt_ins z r1 hi
    cases et : tyD S e with
    | none => rw [et] at q'; exact False.elim q'
    | some t =>
      simp only [et] at q'
      by_cases hb : basic t = true
      · rw [if_pos hb] at q'
        exact ⟨w, d, e, S, t, r1, r2, z, ⟨a, dx, fv, e1, e2⟩, tyD_s z r2 et, hb, boolOnly_s q'⟩
      · rw [if_neg hb] at q'
        exact False.elim q'
  · rw [if_neg hi] at q'
    exact False.elim q'
theorem oOwnR_s {K : PySem.W.Frag} {C : Addr} {F : C3} : OpS K (rOwnR K C F) (oOwnR C F) := by
  intro W sv w u v d e S H Q z r1 r2 q
  have q' : Hold K W sv (Rep K) w Q (if insAt C "__eq__" e S then (match tyD S d with
    | some t => if basic t then boolOnly (F [e, d] S) else .bad
    | none => .bad) else .bad) := q
  by_cases hi : insAt C "__eq__" e S = true
  · rw [if_pos hi] at q'
    obtain ⟨a, dx, fv, e1, e2, _⟩ := insAt_ins z r2 hi
    cases et : tyD S d with
    | none => rw [et] at q'; exact False.elim q'
    | some t =>
      simp only [et] at q'
      by_cases hb : basic t = true
      · rw [if_pos hb] at q'
        exact ⟨w, d, e, S, t, r1, r2, z, ⟨a, dx, fv, e1, e2⟩, tyD_s z r1 et, hb, boolOnly_s q'⟩
      · rw [if_neg hb] at q'
        exact False.elim q'
  · rw [if_neg hi] at q'
    exact False.elim q'
/-- which of two by both sides -/
def oOr2 (c : D → D → Sto → Bool) (f g : O3) : O3 := fun d e S => if c d e S then f d e S else g d e S
theorem oOr2_s {K : PySem.W.Frag} {c : D → D → Sto → Bool} {f g : O3} {r r' : R2} (h : OpS K r f) (h' : OpS K r' g) : OpS K (fun x y H Q => r x y H Q ∨ r' x y H Q) (oOr2 c f g) := by
  intro W sv w u v d e S H Q z r1 r2 q
  have q' : Hold K W sv (Rep K) w Q (if c d e S then f d e S else g d e S) := q
  by_cases hc : c d e S = true
  · rw [if_pos hc] at q'
    exact .inl (h W sv w u v d e S H Q z r1 r2 q')
  · rw [if_neg hc] at q'
    exact .inr (h' W sv w u v d e S H Q z r1 r2 q')
/-- == where each side may be an instance of C or a thing of another kind -/
def oEqO (C : Addr) (F : C3) : O3 := oOr2 (fun d e S => insAt C "__eq__" d S && insAt C "__eq__" e S) (oOwn2 C F false) (oOr2 (fun d _ S => insAt C "__eq__" d S) (oOwnL C F) (oOr2 (fun _ e S => insAt C "__eq__" e S) (oOwnR C F) oEq))
theorem op_eqO {X : Cx} {j k : Nat} {C : Addr} {F : C3} (h : Own2 X.prog X.w X.K X.mg X.base j C F) (ap : Apt X.K C) (hr : RoomG k X.A) (hj : j ≤ k) :
    OpR X (compareOp .Eq) (fun x y H Q => rOwn2 X.K C F false x y H Q ∨ (rOwnL X.K C F x y H Q ∨ (rOwnR X.K C F x y H Q ∨ rEqD X.K x y H Q))) := by
  obtain ⟨f, fd, h1, h2, a, b, G, hb⟩ := h.ex
  exact opR_or (op_eqOwn h1 h2 G rfl (hr.mono hj) hb) (opR_or (op_eqL h1 h2 G rfl (hr.mono hj) hb) (opR_or (op_eqR ap h1 h2 G rfl (hr.mono hj) hb) (op_eqD hr.room.units)))
theorem oEqO_s {K : PySem.W.Frag} {C : Addr} {F : C3} : OpS K (fun x y H Q => rOwn2 K C F false x y H Q ∨ (rOwnL K C F x y H Q ∨ (rOwnR K C F x y H Q ∨ rEqD K x y H Q))) (oEqO C F) :=
  oOr2_s oOwn2_s (oOr2_s oOwnL_s (oOr2_s oOwnR_s oEq_s))
end DL
end

section
set_option Elab.async false
set_option linter.all false
set_option maxRecDepth 100000
set_option maxHeartbeats 4000000
/-! xs[::-1] of a tuple -/
namespace HT
open PySem PySem.Spec PyProof.Rows L2
section
variable {prog : Program} {w : World} {A : Around} {E : Value → Shared → Prop} {s : Shared}
theorem rev_pick (xs : Array Value) : ((List.range xs.size).filterMap fun (m : Nat) => xs[((xs.size : Int) - 1 + (m : Int) * (-1)).toNat]?).toArray = xs.toList.reverse.toArray := by
  congr 1
  have e : (List.range xs.size).filterMap (fun (m : Nat) => xs[((xs.size : Int) - 1 + (m : Int) * (-1)).toNat]?) = ((List.range xs.size).map fun m => xs.size - 1 - m).filterMap fun m => xs[m]? := by
    rw [List.filterMap_map]
    congr 1
    funext m
    have : ((xs.size : Int) - 1 + (m : Int) * (-1)).toNat = xs.size - 1 - m := by omega
    show xs[((xs.size : Int) - 1 + (m : Int) * (-1)).toNat]? = xs[xs.size - 1 - m]?
    rw [this]
  rw [e, PySem.W.krv_range, List.filterMap_reverse, PySem.W.krv_all]
theorem sliceApplied_rev {sl : Addr} {vl vu vs : Value} {n : Nat} {Q : Int × Int × Nat → Shared → Prop} (hs : s.heap.IsSliceOf sl vl vu vs) (pl : IsPart vl none) (pu : IsPart vu none) (ps : IsPart vs (some (-1)))
    (h : Q ((n : Int) - 1, -1, n) s) : wpAny (model prog w) A (Builtin.Slice.sliceApplied (.ref sl) (pure (n : Int))) Q E s := by
  obtain ⟨os, hos, hcs, hds⟩ := id hs
  unfold Builtin.Slice.sliceApplied Builtin.Slice.sliceFields
  refine wpAny_bind (wpAny_bind (wpAny_field hos hds (x := vl) rfl (wpAny_bind (wpAny_field hos hds (x := vu) rfl (wpAny_bind (wpAny_field hos hds (x := vs) rfl (wpAny_pure ?_)))))))
  refine wpAny_bind (slicePart_ ps ?_)
  show wpAny _ _ (if ((-1 : Int) == 0) = true then _ else _) _ _ s
  rw [if_neg (by decide)]
  refine wpAny_bind (slicePart_ pl (wpAny_bind (slicePart_ pu (wpAny_bind (wpAny_pure ?_)))))
  show wpAny _ _ (pure ((n : Int) - 1, (-1 : Int), Builtin.Slice.slicePlaces ((n : Int) - 1) (-1) (-1))) _ _ s
  have e : Builtin.Slice.slicePlaces ((n : Int) - 1) (-1) (-1) = n := by
    unfold Builtin.Slice.slicePlaces
    have h1 : ¬ ((-1 : Int) > 0) := by decide
    simp only [h1, if_false, Int.neg_neg, Int.ediv_one]
    split <;> omega
  rw [e]
  exact wpAny_pure h
theorem getItem_tuple_rev {t sl : Addr} {items : Array Value} {vl vu vs : Value} {Q : Value → Shared → Prop} (ht : IsTup s.heap t items) (hs : s.heap.IsSliceOf sl vl vu vs) (pl : IsPart vl none) (pu : IsPart vu none) (ps : IsPart vs (some (-1)))
    (h : Q (.ref s.heap.objs.size) { s with heap := s.heap.push { cls := .type "tuple", data := .seq items.toList.reverse.toArray } })
    (hsz : items.size ≤ sizeLine) : wpAny (model prog w) A (getItem (.ref t) (.ref sl)) Q E s := by
  have htake : sizeOk (.seq items.toList.reverse.toArray) := by
    show items.toList.reverse.toArray.size ≤ sizeLine
    rw [List.size_toArray, List.length_reverse, Array.length_toList]
    exact hsz
  obtain ⟨os, hos, hcs, hds⟩ := id hs
  have hTs : s.TypeIs (.ref sl) "slice" := ⟨os, hos, hcs⟩
  unfold getItem
  try with_reducible refine wpAny_holding ?_
  first | refine wpAny_bind (wpAny_pure ?_) | skip
  refine wpAny_bind (wpAny_sequenceKey ht.typeIs (by decide) ?_)
  refine wpAny_bind (wpAny_callSpecial?_slot (name := Str.ofString "__getitem__") ht.typeIs PyProof.Rows.slot_tuple_getitem
    (wpAny_call_entry PyProof.Rows.slot_tuple_getitem ht.typeIs entry_tuple_getitem ?_ (args_tuple_getitem _ _)))
  show wpAny _ _ (Builtin.Tuple.tupleItemsOf (.ref t) >>= _) _ _ s
  refine wpAny_bind (tupleItemsOf_ ht ?_)
  refine wpAny_bind (wpAny_typeOf hTs ?_)
  rw [if_pos (by decide)]
  refine wpAny_bind (sliceApplied_rev hs pl pu ps ?_)
  have hno : ¬ ((((items.size : Int) - 1) == 0 && (-1 : Int) == 1 && items.size == items.size) = true) := by
    intro q
    rw [Bool.and_eq_true, Bool.and_eq_true] at q
    exact absurd q.1.2 (by decide)
  show wpAny _ _ (if (((items.size : Int) - 1) == 0 && (-1 : Int) == 1 && items.size == items.size) = true then _ else _) _ _ s
  rw [if_neg hno, rev_pick]
  first
    | exact wpAny_bind (m := Builtin.Tuple.tupleExact _) (wpAny_newObj_type (wpAny_pure ⟨_, rfl, wpAny_pure h⟩) htake)
    | exact wpAny_bind (m := Builtin.Tuple.tupleExact _) (wpAny_newObj_type (wpAny_bind (wpAny_pure (wpAny_pure ⟨_, rfl, wpAny_pure h⟩))) htake)
    | exact wpAny_bind (wpAny_bind (m := Builtin.Tuple.tupleExact _) (wpAny_newObj_type (wpAny_pure (wpAny_pure ⟨_, rfl, wpAny_pure h⟩)) htake))
    | exact wpAny_bind (wpAny_bind (m := Builtin.Tuple.tupleExact _) (wpAny_newObj_type (wpAny_pure ⟨_, rfl, wpAny_pure h⟩) htake))
end
end HT
namespace L2
open PySem PySem.Spec PyProof.Rows
section
variable {X : Cx}
def tRevT (K : PySem.W.Frag) (te : TE) : TE := fun σ H Q => te σ H fun x H1 => ∃ a xs, x = .ref a ∧ SqT K H1 a xs ∧ ∀ p, H1 p = none → Q (.ref p) (upd H1 p (.tup xs.reverse))
theorem pe_revT {e : Expr} {te : TE} {k : Nat} {p1 p2 p3 pos : Pos} (he : PE X e te) : PE X (.Subscript e (.Slice none none (some (.UnaryOp .USub (.Constant (.int 1) k p1) p2)) p3) pos) (tRevT X.K te) := by
  refine ⟨fun pins s σ H Q I h => ?_⟩
  refine Subscript_ (thn (he.run pins s σ H _ I h) fun v s1 ⟨x, H1, I1, r1, q1⟩ => ?_)
  obtain ⟨a, xs, ex, hx, q⟩ := q1
  subst ex
  cases r1
  have hst : PO X (some (.UnaryOp .USub (.Constant (.int 1) k p1) p2)) (tPart (tUn (rU fun i => .int (-i)) (tC (.int 1)))) := po_some (pe_un un_neg pe_int)
  refine wpAny_Slice (thn (po_none.run pins s1 σ H1 (fun o H2 => o = none ∧ H2 = H1) I1 ⟨rfl, rfl⟩) fun vl s2 ⟨l, H2, I2, pl, el, e2⟩ => ?_)
  subst el e2
  refine thn (po_none.run pins s2 σ H2 (fun o H3 => o = none ∧ H3 = H2) I2 ⟨rfl, rfl⟩) fun vu s3 ⟨u, H3, I3, pu, eu, e3⟩ => ?_
  subst eu e3
  refine thn (hst.run pins s3 σ H3 (fun o H4 => o = some (-1) ∧ H4 = H3) I3 ⟨1, rfl, -1, rfl, rfl, rfl⟩) fun vs s4 ⟨o, H4, I4, ps, eo, e4⟩ => ?_
  subst eo e4
  have I5 : Inv X pins σ H4 { s4 with heap := s4.heap.push { cls := .type "slice", data := .fields #[vl, vu, vs] } } := I4.kept (t' := s4.toks) fun b ob q => Heap.get?_push_of_some _ q
  obtain ⟨its, r, ht, hz⟩ := I5.tuple hx
  have hlen := r.length
  show wpAny (model X.prog X.w) X.A (subscriptTail e (.Slice none none (some (.UnaryOp .USub (.Constant (.int 1) k p1) p2)) p3) (.ref a) (.ref s4.heap.objs.size)) (EP X pins σ Q) X.xe { s4 with heap := s4.heap.push { cls := .type "slice", data := .fields #[vl, vu, vs] } }
  refine tail_any (ops := [.ref a, .ref s4.heap.objs.size]) ht.typeIs (PyProof.Rows.slot_tuple_getitem.lookup) ?_ (by with_unfolding_all rfl)
  refine HT.getItem_tuple_rev ht (Heap.IsSliceOf.new _ vl vu vs) pl pu ps ?_ (by rw [List.size_toArray]; omega)
  refine ⟨.ref _, _, I5.laid (t' := s4.toks) (o := .tup xs.reverse) (fun b ob q => Heap.get?_push_of_some _ q) (Nat.le_refl _) ?_, rfl, q _ (I5.hok.fresh (Nat.le_refl _))⟩
  exact ⟨by rw [List.length_reverse]; exact hz, _, r.reverse, IsTup.new _ _⟩
end
end L2
namespace DL
open PySem PySem.Spec PyProof.Rows L2
def rvT (d : D) (S : Sto) : Rs D := if isTupD d then withItems d S fun xs => mkTup xs.reverse S else .bad
def mRevT (a : E3) : E3 := fun σ S => (a σ S).bind rvT
theorem e_revT {X : Cx} {W : WX} {e : Expr} {me : E3} {k : Nat} {p1 p2 p3 pos : Pos} (h : PE3 X W e me) : PE3 X W (.Subscript e (.Slice none none (some (.UnaryOp .USub (.Constant (.int 1) k p1) p2)) p3) pos) (mRevT me) :=
  PE.imp (pe_revT h) fun sv H Q ⟨w, σ, S, l, z, q⟩ => ⟨w, σ, S, l, z, Hold.step q fun d S1 w1 H1 u x1 z1 r1 q1 => by
    unfold rvT at q1
    by_cases t : isTupD d = true
    · rw [if_pos t] at q1
      obtain ⟨xs, _, _, he, _, _, _, hk⟩ := withItems_s z1 r1 q1
      obtain ⟨a, vs, rfl, ra, hs⟩ := items_tup z1 r1 he t
      exact ⟨a, vs, rfl, hs, (mkTup_s hk z1 ra.rev).2⟩
    · rw [if_neg t] at q1; exact False.elim q1⟩
def rvt1 (r : Rs D) : Rs D := r.bind rvT
@[simp] theorem mRevT_ev (a : E3) (σ : Loc) (S : Sto) : mRevT a σ S = rvt1 (a σ S) := rfl
theorem rvt1_tup {xs : List D} {S : Sto} (h : xs.length ≤ 1000000) : rvt1 (.ok (.tup xs) S) = .ok (.tup xs.reverse) S := by
  show mkTup xs.reverse S = _
  exact mkTup_ev (by rw [List.length_reverse]; exact h)
end DL
namespace DL
open PySem PySem.Spec PyProof.Rows L2
theorem kit_basic {K : PySem.W.Frag} {C : Addr} {T : String} (hd : PySem.W.hasDictIn K C = true) (ht : PySem.W.typeIn K (.ref C) = some (.type "type")) (hb : basic T = true) : PySem.W.kitOne K (.type T) (.ref C) = some false := by
  unfold PySem.W.kitOne
  rw [if_neg (by simp)]
  unfold PySem.W.kitCls
  have hc : (PySem.W.clsIn K C).isSome = true := by
    obtain ⟨cd, hc, _⟩ := PySem.W.any_some hd
    rw [hc]
    rfl
  simp only [hc, ht, Bool.true_and]
  rw [if_pos (by simp)]
  exact sub_basic hb
end DL
end

section
set_option Elab.async false
set_option linter.all false
set_option maxRecDepth 100000
set_option maxHeartbeats 4000000
/-! a comprehension within a comprehension; max, min, sum of a list -/
namespace DL
open PySem PySem.Spec PyProof.Rows L2

theorem blkOk_in {N : List Str} {E : Env} {sc sc0 scope : Scope} {own : List (Str × Nat)} (hs : E.scope = relS sc0 sc) (h : blkC N (relS sc0 sc) scope own = true) : BlkOk N E.scope scope own := by
  rw [hs]
  exact blkOk_by h

def maxOf : List Int → Option Int
  | [] => none
  | n :: ns => match maxOf ns with
    | none => some n
    | some m => some (if n ≤ m then m else n)
def minOf : List Int → Option Int
  | [] => none
  | n :: ns => match minOf ns with
    | none => some n
    | some m => some (if m ≤ n then m else n)
theorem maxOf_none : ∀ {ns : List Int}, maxOf ns = none → ns = []
  | [], _ => rfl
  | n :: ns, h => by
    unfold maxOf at h
    cases e : maxOf ns <;> rw [e] at h <;> cases h
theorem minOf_none : ∀ {ns : List Int}, minOf ns = none → ns = []
  | [], _ => rfl
  | n :: ns, h => by
    unfold minOf at h
    cases e : minOf ns <;> rw [e] at h <;> cases h
theorem maxOf_le : ∀ {ns : List Int} {m : Int}, maxOf ns = some m → m ∈ ns ∧ ∀ y ∈ ns, y ≤ m
  | [], _, h => by cases h
  | n :: ns, m, h => by
    unfold maxOf at h
    cases e : maxOf ns with
    | none =>
      rw [e] at h
      cases h
      rw [maxOf_none e]
      exact ⟨by simp, fun y hy => by simp at hy; omega⟩
    | some k =>
      rw [e] at h
      obtain ⟨h1, h2⟩ := maxOf_le e
      have h : (if n ≤ k then k else n) = m := Option.some.inj h
      by_cases hk : n ≤ k
      · rw [if_pos hk] at h
        subst h
        exact ⟨List.mem_cons_of_mem _ h1, fun y hy => by
          rcases List.mem_cons.mp hy with rfl | hy
          · exact hk
          · exact h2 y hy⟩
      · rw [if_neg hk] at h
        subst h
        exact ⟨by simp, fun y hy => by
          rcases List.mem_cons.mp hy with rfl | hy
          · exact Int.le_refl _
          · have := h2 y hy; omega⟩
theorem minOf_le : ∀ {ns : List Int} {m : Int}, minOf ns = some m → m ∈ ns ∧ ∀ y ∈ ns, m ≤ y
  | [], _, h => by cases h
  | n :: ns, m, h => by
    unfold minOf at h
    cases e : minOf ns with
    | none =>
      rw [e] at h
      cases h
      rw [minOf_none e]
      exact ⟨by simp, fun y hy => by simp at hy; omega⟩
    | some k =>
      rw [e] at h
      obtain ⟨h1, h2⟩ := minOf_le e
      have h : (if k ≤ n then k else n) = m := Option.some.inj h
      by_cases hk : k ≤ n
      · rw [if_pos hk] at h
        subst h
        exact ⟨List.mem_cons_of_mem _ h1, fun y hy => by
          rcases List.mem_cons.mp hy with rfl | hy
          · exact hk
          · exact h2 y hy⟩
      · rw [if_neg hk] at h
        subst h
        exact ⟨by simp, fun y hy => by
          rcases List.mem_cons.mp hy with rfl | hy
          · exact Int.le_refl _
          · have := h2 y hy; omega⟩
def ints1 (f : List Int → Option Int) (d : D) (S : Sto) : Rs D := DL.withItems d S fun xs => match insOf xs with
  | some ns => if isTupD d then .bad else (match f ns with
    | some m => .ok (.int m) S
    | none => .bad)
  | none => .bad
def fMaxL : C3 := c1 (ints1 maxOf)
def fMinL : C3 := c1 (ints1 minOf)
def fSumL : C3 := c1 (ints1 fun ns => some ns.sum)
theorem ints1_s {K : PySem.W.Frag} {W : WX} {sv : L2.St} {w : Wd} {u : V} {d : D} {S : Sto} {H : Hp} {Q : VK} {f : List Int → Option Int} (z : WRel K w S H) (r : Rep K w u d) (q : Hold K W sv (Rep K) w Q (ints1 f d S)) :
    ∃ (a : Addr) (ns : List Int) (m : Int), u = .ref a ∧ SqL K H a (ns.map V.int) ∧ f ns = some m ∧ Q (.int m) H := by
  obtain ⟨xs, a0, vs0, he, e0, ra0, hs0, hk⟩ := withItems_s z r q
  cases ei : insOf xs with
  | none => simp only [ei] at hk; exact False.elim hk
  | some ns =>
    simp only [ei] at hk
    have ex := insOf_eq ei
    subst ex
    by_cases t : isTupD d = true
    · rw [if_pos t] at hk; exact False.elim hk
    · rw [if_neg t] at hk
      obtain ⟨a, vs, rfl, ra, hs⟩ := items_list z r he (by simpa using t)
      have ev := rep_ints ra
      subst ev
      cases em : f ns with
      | none => simp only [em] at hk; exact False.elim hk
      | some m =>
        simp only [em] at hk
        exact ⟨a, ns, m, rfl, hs, em, hk.at_ z (.int m)⟩
theorem fMaxL_s {K : PySem.W.Frag} : CallS K (rMax K) fMaxL := c1_s fun W sv w u d S H Q z r q => by
  obtain ⟨a, ns, m, rfl, hs, em, hq⟩ := ints1_s z r q
  obtain ⟨h1, h2⟩ := maxOf_le em
  exact ⟨a, ns, rfl, hs, List.length_pos_of_mem h1, fun k hk hy => by
    have := hy m h1
    have := h2 k hk
    rw [show k = m by omega]
    exact hq⟩
theorem fMinL_s {K : PySem.W.Frag} : CallS K (rMin K) fMinL := c1_s fun W sv w u d S H Q z r q => by
  obtain ⟨a, ns, m, rfl, hs, em, hq⟩ := ints1_s z r q
  obtain ⟨h1, h2⟩ := minOf_le em
  exact ⟨a, ns, rfl, hs, List.length_pos_of_mem h1, fun k hk hy => by
    have := hy m h1
    have := h2 k hk
    rw [show k = m by omega]
    exact hq⟩
theorem fSumL_s {K : PySem.W.Frag} : CallS K (rSum K) fSumL := c1_s fun W sv w u d S H Q z r q => by
  obtain ⟨a, ns, m, rfl, hs, em, hq⟩ := ints1_s z r q
  have e : ns.sum = m := Option.some.inj em
  exact ⟨a, ns, rfl, hs, by rw [e]; exact hq⟩
theorem ints1_ev {f : List Int → Option Int} {ns : List Int} {m : Int} {S : Sto} (h : f ns = some m) : ints1 f (.lst (ns.map D.int)) S = .ok (.int m) S := by
  show (match insOf (ns.map D.int) with
    | some ns => (match f ns with
      | some m => Rs.ok (D.int m) S
      | none => .bad)
    | none => .bad) = _
  rw [insOf_map ns]
  show (match f ns with
      | some m => Rs.ok (D.int m) S
      | none => .bad) = _
  rw [h]
/-! ### repr of a tuple of open lists -/
def pyL (S : Sto) : List D → Option (List PyData)
  | [] => some []
  | d :: ds => match pyS S d, pyL S ds with
    | some p, some ps => some (p :: ps)
    | _, _ => none
def pyT (S : Sto) (d : D) : Option PyData := match pyS S d with
  | some p => some p
  | none => match d with
    | .tup xs => (pyL S xs).map .tuple
    | _ => none
section
variable {K : PySem.W.Frag} {w : Wd} {S : Sto} {H : Hp}
theorem dpL_of (z : WRel K w S H) : ∀ {ds : List D} {vs : List V} {ps : List PyData}, RepA K w vs ds → pyL S ds = some ps → DpAll K H vs ps
  | [], _, _, r, e => by
    cases r
    cases e
    exact .nil
  | d :: ds, _, _, r, e => by
    cases r with
    | cons r1 r2 =>
      simp only [pyL] at e
      cases e1 : pyS S d with
      | none => rw [e1] at e; cases e
      | some p =>
        cases e2 : pyL S ds with
        | none => rw [e1, e2] at e; cases e
        | some ps =>
          rw [e1, e2] at e
          cases e
          exact .cons (dpS_of z r1 e1) (dpL_of z r2 e2)
theorem dpT_of {d : D} {v : V} {p : PyData} (z : WRel K w S H) (r : Rep K w v d) (e : pyT S d = some p) : Dp K H v p := by
  unfold pyT at e
  cases e1 : pyS S d with
  | some q =>
    rw [e1] at e
    cases e
    exact dpS_of z r e1
  | none =>
    rw [e1] at e
    cases d with
    | tup xs =>
      cases r with
      | tup h1 h2 =>
        obtain ⟨ps, e2, rfl⟩ := map_some (show (pyL S xs).map PyData.tuple = some p from e)
        exact .tup (SqT.of (z.same _ _ h1)) (dpL_of z h2 e2)
    | _ => cases e
end
def fReprT : C3 := c1 fun d S => match pyT S d with
  | some p => if reprOk p then .ok (.str p.shown) S else .bad
  | none => .bad
theorem fReprT_s {K : PySem.W.Frag} : CallS K (rRepr K) fReprT := c1_s fun W sv w u d S H Q z r q => by
  cases e : pyT S d with
  | none => simp only [e] at q; exact False.elim q
  | some p =>
    simp only [e] at q
    by_cases h : reprOk p = true
    · rw [if_pos h] at q
      exact ⟨u, p, rfl, dpT_of z r e, h, q.at_ z (.str _)⟩
    · rw [if_neg h] at q; exact False.elim q
end DL
end

section
set_option Elab.async false
set_option linter.all false
set_option maxRecDepth 100000
set_option maxHeartbeats 4000000
/-! enumerate(tuple), also of a tuple of the world's own (a default) -/
namespace DL
open PySem PySem.Spec PyProof.Rows L2
def enW (d : D) (S : Sto) : Rs Wk := match d with
  | .tup xs => .ok (enumD xs, none) S
  | .wt xs => .ok (enumD xs, none) S
  | _ => .bad
def mEnumW (a : E3) : A4 := fun σ S => (a σ S).bind enW
theorem i_enumW {X : Cx} {W : WX} {e : Expr} {me : E3} {p pos tpos : Pos} {elts : List Expr} {kk : Nat} (hg : Gl X "enumerate") (hm : X.mg "enumerate" = none) (h : PE3 X W e me) (hs : starEach [e] X.env = (false, eval e X.env) :: starEach [] X.env := by rfl) : PI4 X W (.Tuple elts kk tpos) (.Call (.Name "enumerate" p) [e] [] pos) (mEnumW me) :=
  PI.imp (pi_et hg hm h hs) fun sv H Q ⟨w, σ, S, l, z, q⟩ => ⟨w, σ, S, l, z, Hold.step q fun d S1 w1 H1 u x1 z1 r1 q1 => by
    cases d with
    | tup xs =>
      cases r1 with
      | tup h1 h2 => exact ⟨_, _, rfl, SqT.of (z1.same _ _ h1), Hold.at_ (show Hold X.K W sv (IsWalkG X.K) w1 Q (.ok (enumD xs, none) S1) from q1) z1 (walk_et (SqT.of h1) h2)⟩
    | wt xs =>
      cases r1 with
      | wt h1 h2 => exact ⟨_, _, rfl, seqT z1.same h1, Hold.at_ (show Hold X.K W sv (IsWalkG X.K) w1 Q (.ok (enumD xs, none) S1) from q1) z1 (walk_et h1 h2)⟩
    | _ => exact False.elim q1⟩
def enW1 (r : Rs D) : Rs Wk := r.bind enW
@[simp] theorem mEnumW_ev (a : E3) (σ : Loc) (S : Sto) : mEnumW a σ S = enW1 (a σ S) := rfl
@[simp] theorem enW1_tup (xs : List D) (S : Sto) : enW1 (.ok (.tup xs) S) = .ok (enumD xs, none) S := rfl
@[simp] theorem enW1_wt (xs : List D) (S : Sto) : enW1 (.ok (.wt xs) S) = .ok (enumD xs, none) S := rfl
/-! not e as a value, of a thing of any kind -/
def mNotT (a : E3) : E3 := fun σ S => (a σ S).bind fun d S1 => match truD d S1 with
  | some b => .ok (.bl (!b)) S1
  | none => .bad
theorem e_notT {X : Cx} {W : WX} {a : Expr} {ma : E3} {pos : Pos} (ha : PE3 X W a ma) : PE3 X W (.UnaryOp .Not a pos) (mNotT ma) :=
  PE.imp (pe_notT ha) fun sv H Q ⟨w, σ, S, l, z, q⟩ => ⟨w, σ, S, l, z, Hold.step q fun d S1 w1 H1 u x1 z1 r1 q1 => by
    cases e : truD d S1 with
    | none => simp only [e] at q1; exact False.elim q1
    | some b => simp only [e] at q1; exact ⟨b, truD_s z1 r1 e, q1.at_ z1 (.bl _)⟩⟩
def nott2 (S : Sto) (o : Option Bool) : Rs D := match o with
  | some b => .ok (.bl (!b)) S
  | none => .bad
def nott1 (r : Rs D) : Rs D := r.bind fun d S1 => match truD d S1 with
  | some b => .ok (.bl (!b)) S1
  | none => .bad
@[simp] theorem mNotT_ev (a : E3) (σ : Loc) (S : Sto) : mNotT a σ S = nott1 (a σ S) := rfl
@[simp] theorem nott1_ev (d : D) (S : Sto) : nott1 (.ok d S) = nott2 S (truD d S) := rfl
@[simp] theorem nott2_ev (b : Bool) (S : Sto) : nott2 S (some b) = .ok (.bl (!b)) S := rfl
end DL
end

section
set_option Elab.async false
set_option linter.all false
set_option maxRecDepth 100000
set_option maxHeartbeats 4000000
/-! xs += ys, an open list and a closed one -/
namespace DL
open PySem PySem.Spec PyProof.Rows L2
def oExt : O3 := fun d e S => match e with
  | .lst ys => withOpen d S fun j xs => guard (decide (xs.length + ys.length ≤ sizeLine)) (.ok d (S.set j (.lst (xs ++ ys))))
  | _ => .bad
theorem oExt_s {K : PySem.W.Frag} : OpS K rExt2 oExt := by
  intro W sv w u v d e S H Q z r r2 q
  cases e with
  | lst ys =>
    cases r2 with
    | lst h1 h2 =>
      obtain ⟨j, xs, a, vs, rfl, rfl, e1, g, eH, rx, _, q⟩ := withOpen_s z r q
      obtain ⟨hz, q⟩ := guard_s q
      exact ⟨a, _, vs, _, rfl, rfl, eH, z.same _ _ h1, by rw [rx.length, h2.length]; exact of_decide_eq_true hz, q _ _ _ (Ext.refl w) (z.relist e1 g (rx.append h2)) (.ref e1)⟩
  | _ => exact False.elim q
theorem ip_ext {X : Cx} : PIp X .Add rExt2 := fun pins s σ H x y v u Q I rx ry q => iop_ext pins s σ H x y v u Q I rx ry q
theorem oExt_ev {S : Sto} {k : Nat} {xs ys : List D} (e : S[k]? = some (.lst xs)) (h : xs.length + ys.length ≤ 1000000) : oExt (.ref k) (.lst ys) S = .ok (.ref k) (S.set k (.lst (xs ++ ys))) := by
  unfold oExt
  simp only
  rw [withOpen_ref, e, wopen_ev]
  exact guard_ev (decide_eq_true (by rw [sizeLine_eq]; omega))
end DL
end

section
set_option Elab.async false
set_option linter.all false
set_option maxRecDepth 100000
set_option maxHeartbeats 4000000
/-! a comprehension with two fors -/
namespace DL
open PySem PySem.Spec PyProof.Rows L2
def compD2 (g : G3) (t : T3) (mi1 : A3) (g1 : G3) (t1 : T3) (e : E3) (vs1 : List Nat) : List D → List D → Loc → Sto → Rs (List D)
  | [], acc, _, S => .ok acc S
  | d :: ds, acc, σ, S => match g d σ with
    | none => .bad
    | some σ1 => match t σ1 S with
      | .ok true S1 => (match mi1 σ1 S1 with
        | .ok ds1 S2 => (match compD g1 t1 e ds1 acc (wipeD σ1 vs1) S2 with
          | .ok acc' S3 => compD2 g t mi1 g1 t1 e vs1 ds acc' σ S3
          | _ => .bad)
        | _ => .bad)
      | .ok false S1 => compD2 g t mi1 g1 t1 e vs1 ds acc σ S1
      | _ => .bad
def mComp2 (op : Bool) (it : A3) (g : G3) (t : T3) (mi1 : A3) (g1 : G3) (t1 : T3) (e : E3) (vs vs1 : List Nat) : E3 := fun σ S => (it σ S).bind fun ds S1 => (compD2 g t mi1 g1 t1 e vs1 ds [] (wipeD σ vs) S1).bind (endC op)
/-- what goes on behind the inner loop -/
def thenD2 (g : G3) (t : T3) (mi1 : A3) (g1 : G3) (t1 : T3) (e : E3) (vs1 : List Nat) (op : Bool) (ds : List D) (σ : Loc) (r : Rs (List D)) : Rs D := match r with
  | .ok acc S => (compD2 g t mi1 g1 t1 e vs1 ds acc σ S).bind (endC op)
  | _ => .bad
theorem thenD2_eq (g : G3) (t : T3) (mi1 : A3) (g1 : G3) (t1 : T3) (e : E3) (vs1 : List Nat) (op : Bool) (ds : List D) (σ : Loc) (r : Rs (List D)) : (match r with
    | .ok acc' S3 => compD2 g t mi1 g1 t1 e vs1 ds acc' σ S3
    | _ => .bad).bind (endC op) = thenD2 g t mi1 g1 t1 e vs1 op ds σ r := by cases r <;> rfl
theorem comp2_3 {K : PySem.W.Frag} {W : WX} {mi mi1 : A3} {ps ps1 : List Nat} {g g1 : G3} {mt mt1 : T3} {me : E3} {vs vs1 : List Nat} {op : Bool} (hp : ∀ i ∈ ps, i ∈ vs) (hp1 : ∀ i ∈ ps1, i ∈ vs1) (sv : L2.St) (H : Hp) (Q : VK) (h : rdE K W (mComp2 op mi g mt mi1 g1 mt1 me vs vs1) sv H Q) :
    tLc2 (rd K W (IsWalk K) mi) (rdG K ps g) (rdT K WF mt) (rd K WF (IsWalk K) mi1) (rdG K ps1 g1) (rdT K WF mt1) (rdE K WF me) vs vs1 sv H Q := by
  obtain ⟨w, σ, S, l, z, q⟩ := h
  refine ⟨w, σ, S, l, z, Hold.step q fun ds S1 w1 H1 J x1 z1 j1 q1 p np => ?_⟩
  refine ⟨fun i m H' => ∃ w2 S2 av acc, w2.hs = (p, .lst av) :: w1.hs ∧ Grow w1 w2 ∧ WRel K w2 S2 H' ∧ RepA K w2 av acc ∧ m = ds.length - i ∧
    ∀ w3, Grow w1 w3 → w3.hs = w1.hs → Hold K W sv (Rep K) w3 Q ((compD2 g mt mi1 g1 mt1 me vs1 (ds.drop i) acc (wipeD σ vs) S2).bind (endC op)),
    ⟨ds.length, w1.hide p (.lst []), S1, [], [], rfl, ⟨Same.refl _, List.prefix_refl _⟩, z1.hide np _, .nil, by simp, fun w3 g3 e3 => by simpa using Hold.ofG q1 g3 e3⟩, ?_⟩
  rintro i m H' ⟨w2, S2, av, acc, hh, g2, z2, ra, rfl, q2⟩
  obtain ⟨stop, go⟩ := j1 i w2 S2 H' g2 z2
  by_cases hi : i < ds.length
  · have ed : ds[i]? = some ds[i] := List.getElem?_eq_getElem hi
    obtain ⟨go1, go2⟩ := go _ ed
    refine .inr ⟨go1, fun H3 => ∃ w4 S4 av4 acc4, w4.hs = (p, .lst av4) :: w1.hs ∧ Grow w1 w4 ∧ WRel K w4 S4 H3 ∧ RepA K w4 av4 acc4 ∧
        ∀ w3, Grow w1 w3 → w3.hs = w1.hs → Hold K W sv (Rep K) w3 Q ((compD2 g mt mi1 g1 mt1 me vs1 (ds.drop (i + 1)) acc4 (wipeD σ vs) S4).bind (endC op)),
      fun H3 ⟨w4, S4, av4, acc4, a, b, c, d, e⟩ => ⟨ds.length - (i + 1), by omega, w4, S4, av4, acc4, a, b, c, d, rfl, e⟩, fun y H3 hy => ?_⟩
    obtain ⟨w3, x3, z3, r3⟩ := go2 y H3 hy
    have q3 := q2 w1 ⟨Same.refl _, List.prefix_refl _⟩ rfl
    rw [List.drop_eq_getElem_cons hi] at q3
    unfold compD2 at q3
    have q2' := q2
    rw [List.drop_eq_getElem_cons hi] at q2'
    unfold compD2 at q2'
    cases eg : g ds[i] (wipeD σ vs) with
    | none => simp only [eg] at q3; exact False.elim q3
    | some σ3 =>
      simp only [eg] at q3 q2'
      have lw : LRel K w3 (wipeD σ vs) (wipe sv vs) := (l.wipeAll vs).monoG (x1.grow.trans (g2.trans x3.grow))
      refine ⟨w3, wipeD σ vs, S2, ds[i], σ3, lw, z3, r3, eg, fun sv3 b3 l3 => ⟨wipe_but b3 hp, w3, σ3, S2, l3, z3, ?_⟩⟩
      cases et : mt σ3 S2 with
      | bad => simp only [et] at q3; exact False.elim q3
      | exc C pp S5 => simp only [et] at q3; exact False.elim q3
      | ok b S5 =>
        simp only [et] at q3 q2'
        intro w5 H5 b' x5 z5 eb
        have eb' : b' = b := eb
        subst eb'
        have g5 : Grow w1 w5 := g2.trans (x3.grow.trans x5.grow)
        have h5 : w5.hs = (p, .lst av) :: w1.hs := by rw [x5.hid, x3.hid]; exact hh
        cases b' with
        | false => exact iteF ⟨w5, S5, av, acc, h5, g5, z5, ra.monoG (x3.grow.trans x5.grow), q2'⟩
        | true =>
          have l5 := l3.mono x5
          refine iteT ⟨w5, σ3, S5, l5, z5, ?_⟩
          simp only at q3 q2'
          cases em : mi1 σ3 S5 with
          | bad => simp only [em] at q3; exact False.elim q3
          | exc C pp S6 => simp only [em] at q3; exact False.elim q3
          | ok ds1 S6 =>
            simp only [em] at q3 q2'
            intro w6 H6 J1 x6 z6 j6
            have h6 : w6.hs = (p, .lst av) :: w1.hs := by rw [x6.hid]; exact h5
            have g6 : Grow w1 w6 := g5.trans x6.grow
            have ra6 := ra.monoG (x3.grow.trans (x5.grow.trans x6.grow))
            refine ⟨fun j k H' => ∃ w7 S7 av7 acc7, w7.hs = (p, .lst av7) :: w1.hs ∧ Grow w6 w7 ∧ WRel K w7 S7 H' ∧ RepA K w7 av7 acc7 ∧ k = ds1.length - j ∧
              ∀ w3, Grow w1 w3 → w3.hs = w1.hs → Hold K W sv (Rep K) w3 Q (thenD2 g mt mi1 g1 mt1 me vs1 op (ds.drop (i + 1)) (wipeD σ vs) (compD g1 mt1 me (ds1.drop j) acc7 (wipeD σ3 vs1) S7)),
              ⟨ds1.length, w6, S6, av, acc, h6, ⟨Same.refl _, List.prefix_refl _⟩, z6, ra6, by simp, fun w3 g3 e3 => by
                have := q2' w3 g3 e3
                rw [thenD2_eq] at this
                simpa using this⟩, ?_⟩
            rintro j k Hj ⟨w7, S7, av7, acc7, h7, g7, z7, ra7, rfl, q7⟩
            obtain ⟨stop1, gor⟩ := j6 j w7 S7 Hj g7 z7
            have q8 := q7 w1 ⟨Same.refl _, List.prefix_refl _⟩ rfl
            by_cases hj : j < ds1.length
            · have ej : ds1[j]? = some ds1[j] := List.getElem?_eq_getElem hj
              obtain ⟨go3, go4⟩ := gor _ ej
              refine .inr ⟨go3, fun H3 => ∃ w8 S8 av8 acc8, w8.hs = (p, .lst av8) :: w1.hs ∧ Grow w6 w8 ∧ WRel K w8 S8 H3 ∧ RepA K w8 av8 acc8 ∧
                  ∀ w3, Grow w1 w3 → w3.hs = w1.hs → Hold K W sv (Rep K) w3 Q (thenD2 g mt mi1 g1 mt1 me vs1 op (ds.drop (i + 1)) (wipeD σ vs) (compD g1 mt1 me (ds1.drop (j + 1)) acc8 (wipeD σ3 vs1) S8)),
                fun H3 ⟨w8, S8, av8, acc8, a, b, c, d, e⟩ => ⟨ds1.length - (j + 1), by omega, w8, S8, av8, acc8, a, b, c, d, rfl, e⟩, fun y2 H8 hy2 => ?_⟩
              obtain ⟨w8, x8, z8, r8⟩ := go4 y2 H8 hy2
              have q7' := q7
              rw [List.drop_eq_getElem_cons hj] at q8 q7'
              unfold compD at q8 q7'
              cases eg1 : g1 ds1[j] (wipeD σ3 vs1) with
              | none => simp only [eg1] at q8; exact False.elim q8
              | some σ9 =>
                simp only [eg1] at q8 q7'
                have lw1 : LRel K w8 (wipeD σ3 vs1) (wipe sv3 vs1) := (l5.wipeAll vs1).monoG (x6.grow.trans (g7.trans x8.grow))
                refine ⟨w8, wipeD σ3 vs1, S7, ds1[j], σ9, lw1, z8, r8, eg1, fun sv9 b9 l9 => ⟨wipe_but b9 hp1, w8, σ9, S7, l9, z8, ?_⟩⟩
                cases et1 : mt1 σ9 S7 with
                | bad => simp only [et1] at q8; exact False.elim q8
                | exc C pp Se => simp only [et1] at q8; exact False.elim q8
                | ok b Sa =>
                  simp only [et1] at q8 q7'
                  intro wa Ha b' xa za eb
                  have eb' : b' = b := eb
                  subst eb'
                  have ga : Grow w6 wa := g7.trans (x8.grow.trans xa.grow)
                  have ha : wa.hs = (p, .lst av7) :: w1.hs := by rw [xa.hid, x8.hid]; exact h7
                  have raa := ra7.monoG (x8.grow.trans xa.grow)
                  cases b' with
                  | false => exact iteF ⟨wa, Sa, av7, acc7, ha, ga, za, raa, q7'⟩
                  | true =>
                    refine iteT ⟨wa, σ9, Sa, l9.mono xa, za, ?_⟩
                    cases ee : me σ9 Sa with
                    | bad => simp only [ee] at q8; exact False.elim q8
                    | exc C pp Se => simp only [ee] at q8; exact False.elim q8
                    | ok yb Sb =>
                      simp only [ee] at q8 q7'
                      intro wb Hb vb xb zb rb
                      have hb : wb.hs = (p, .lst av7) :: w1.hs := by rw [xb.hid]; exact ha
                      have rab := raa.monoG xb.grow
                      have hH := (zb.hid (p, .lst av7) (by rw [hb]; exact List.mem_cons_self)).1
                      by_cases hz : acc7.length < sizeLine
                      · rw [if_pos hz] at q8
                        refine ⟨av7, hH, by rw [rab.length]; exact hz, ⟨wb.G, wb.am, (p, .lst (av7 ++ [vb])) :: w1.hs⟩, Sb, av7 ++ [vb], acc7 ++ [yb], rfl, ?_, zb.rehide hb, ?_, fun wc gc ec => ?_⟩
                        · have gb := ga.trans xb.grow
                          exact ⟨gb.same, gb.pre⟩
                        · exact RepA.alike (u := wb) (u' := ⟨wb.G, wb.am, (p, .lst (av7 ++ [vb])) :: w1.hs⟩) rfl rfl (rab.append (.cons rb .nil))
                        · have := q7' wc gc ec
                          rw [if_pos hz] at this
                          exact this
                      · rw [if_neg hz] at q8; exact False.elim q8
            · refine .inl ⟨stop1 (by omega), w7, S7, av7, acc7, h7, g6.trans g7, z7, ra7, fun wc gc ec => ?_⟩
              have := q7 wc gc ec
              rw [show ds1.drop j = [] from List.drop_eq_nil_of_le (by omega)] at this
              exact this
  · refine .inl ⟨stop (by omega), ?_⟩
    have q3 := q2 w1 ⟨Same.refl _, List.prefix_refl _⟩ rfl
    rw [List.drop_eq_nil_of_le (by omega)] at q3
    exact endC_s z2 hh ra g2 rfl q3
section
variable {X : Cx} {W : WX}
theorem e_comp2 (op : Bool) {elt tg iter tg1 iter1 : Expr} {ifs ifs1 : List Expr} {scope : Scope} {own : List (Str × Nat)} {vs1 : List Nat} {pos : Pos} {mi mi1 : A3} {ps ps1 : List Nat} {g g1 : G3} {mt mt1 : T3} {me : E3} (hc : X.calm = true) (hN : X.N.Nodup) (hi : PI3 X W tg iter mi) (ok : BlkOk X.N X.env.scope scope own)
    (hg : ∀ (s : Shared) (H : Hp) (C : Addr) (cl : List (Str × Addr)) (fp : List Addr), PG3 (X.blk s H scope (compEnvC scope cl C X.env) fp) tg ps g)
    (ht : ∀ (s : Shared) (H : Hp) (C : Addr) (cl : List (Str × Addr)) (fp : List Addr), PTs3 (X.blk s H scope (compEnvC scope cl C X.env) fp) WF ifs mt)
    (hi1 : ∀ (s : Shared) (H : Hp) (C : Addr) (cl : List (Str × Addr)) (fp : List Addr), PI3 (X.blk s H scope (compEnvC scope cl C X.env) fp) WF tg1 iter1 mi1)
    (hg1 : ∀ (s : Shared) (H : Hp) (C : Addr) (cl : List (Str × Addr)) (fp : List Addr), PG3 (X.blk s H scope (compEnvC scope cl C X.env) fp) tg1 ps1 g1)
    (ht1 : ∀ (s : Shared) (H : Hp) (C : Addr) (cl : List (Str × Addr)) (fp : List Addr), PTs3 (X.blk s H scope (compEnvC scope cl C X.env) fp) WF ifs1 mt1)
    (he : ∀ (s : Shared) (H : Hp) (C : Addr) (cl : List (Str × Addr)) (fp : List Addr), PE3 (X.blk s H scope (compEnvC scope cl C X.env) fp) WF elt me)
    (hv : ∀ i ∈ vs1, i ∈ own.map (·.2) := by decide) (hp : ∀ i ∈ ps, i ∈ own.map (·.2) := by decide) (hp1 : ∀ i ∈ ps1, i ∈ vs1 := by decide) (hs : ∀ x, foldedSetIterable iter X.env x = pure x := by intro _; rfl) (hs1 : ∀ env x, foldedSetIterable iter1 env x = pure x := by intro _ _; rfl) :
    PE3 X W (.ListComp elt [⟨tg, iter, ifs, 0⟩, ⟨tg1, iter1, ifs1, 0⟩] scope pos) (mComp2 op mi g mt mi1 g1 mt1 me (own.map (·.2)) vs1) :=
  PE.imp (pe_lc2 (g := rdG X.K ps g) (tt := rdT X.K WF mt) (wi1 := rd X.K WF (IsWalk X.K) mi1) (g1 := rdG X.K ps1 g1) (tt1 := rdT X.K WF mt1) (te := rdE X.K WF me) hc hN hi ok hv hg ht hi1 hg1 ht1 he hs hs1) fun sv H Q h => comp2_3 hp hp1 sv H Q h
/-- y = [..], two fors -/
theorem s_setComp2 (op : Bool) {i : Nat} {y : Str} {py spos : Pos} {elt tg iter tg1 iter1 : Expr} {ifs ifs1 : List Expr} {scope : Scope} {own : List (Str × Nat)} {vs1 : List Nat} {pos : Pos} {mi mi1 : A3} {ps ps1 : List Nat} {g g1 : G3} {mt mt1 : T3} {me : E3} (hc : X.calm = true) (hN : X.N.Nodup) (hy : X.N[i]? = some y) (hyl : X.env.scope.names.lookup y = some .local)
    (hsw : swapsWith (.ListComp elt [⟨tg, iter, ifs, 0⟩, ⟨tg1, iter1, ifs1, 0⟩] scope pos) (some (.Name y py)) spos.line X.env = pure true) (hi : PI3 X W tg iter mi) (ok : BlkOk X.N X.env.scope scope own)
    (hg : ∀ (s : Shared) (H : Hp) (C : Addr) (cl : List (Str × Addr)) (fp : List Addr), PG3 (X.blk s H scope (compEnvC scope cl C X.env) fp) tg ps g)
    (ht : ∀ (s : Shared) (H : Hp) (C : Addr) (cl : List (Str × Addr)) (fp : List Addr), PTs3 (X.blk s H scope (compEnvC scope cl C X.env) fp) WF ifs mt)
    (hi1 : ∀ (s : Shared) (H : Hp) (C : Addr) (cl : List (Str × Addr)) (fp : List Addr), PI3 (X.blk s H scope (compEnvC scope cl C X.env) fp) WF tg1 iter1 mi1)
    (hg1 : ∀ (s : Shared) (H : Hp) (C : Addr) (cl : List (Str × Addr)) (fp : List Addr), PG3 (X.blk s H scope (compEnvC scope cl C X.env) fp) tg1 ps1 g1)
    (ht1 : ∀ (s : Shared) (H : Hp) (C : Addr) (cl : List (Str × Addr)) (fp : List Addr), PTs3 (X.blk s H scope (compEnvC scope cl C X.env) fp) WF ifs1 mt1)
    (he : ∀ (s : Shared) (H : Hp) (C : Addr) (cl : List (Str × Addr)) (fp : List Addr), PE3 (X.blk s H scope (compEnvC scope cl C X.env) fp) WF elt me)
    (hv : ∀ i ∈ vs1, i ∈ own.map (·.2) := by decide) (hp : ∀ i ∈ ps, i ∈ own.map (·.2) := by decide) (hp1 : ∀ i ∈ ps1, i ∈ vs1 := by decide) (hs : ∀ x, foldedSetIterable iter X.env x = pure x := by intro _; rfl) (hs1 : ∀ env x, foldedSetIterable iter1 env x = pure x := by intro _ _; rfl) :
    PS3 X W (.Assign [.Name y py] (.ListComp elt [⟨tg, iter, ifs, 0⟩, ⟨tg1, iter1, ifs1, 0⟩] scope pos) spos) (mAsg (mComp2 op mi g mt mi1 g1 mt1 me (own.map (·.2)) vs1) (g3Name i)) :=
  PS.imp (ps_setLc2 (g := rdG X.K ps g) (tt := rdT X.K WF mt) (wi1 := rd X.K WF (IsWalk X.K) mi1) (g1 := rdG X.K ps1 g1) (tt1 := rdT X.K WF mt1) (te := rdE X.K WF me) hc hN hy hyl hsw hi ok hv hg ht hi1 hg1 ht1 he hs hs1) fun B sv H ⟨w, σ, S, l, z, q⟩ =>
    comp2_3 hp hp1 sv H _ ⟨w, σ, S, l, z, HoldS.step l q fun d S1 w1 H1 u x1 z1 r1 q1 => q1 w1 _ H1 (Ext.refl w1) (LRel.set r1 i (l.mono x1)) z1⟩
end
end DL
end

section
set_option Elab.async false
set_option linter.all false
set_option maxRecDepth 100000
set_option maxHeartbeats 4000000
/-! try: .. except X as e: name = e, the error kept as a value -/
namespace DL
open PySem PySem.Spec PyProof.Rows L2
section
variable {X : Cx} {pins : List (Addr × Obj)} {σ : L2.St} {H : Hp} {s : Shared}
/-- what was pinned and is younger than the def is tracked from now on -/
theorem inv_track {a : Addr} {o : HO} {oe : Obj} (I : Inv X ((a, oe) :: pins) σ H s) (n0 : X.s_0.heap.get? a = none) (nd : ∀ v, oe.data ≠ .cell v) (np : ∀ p ∈ X.pn ++ pins, p.1 ≠ a)
    (new : ObjOk X.prog X.w (upd H a o) s.heap a o) : Inv X pins σ (upd H a o) s := by
  obtain ⟨ga, na, nL, nF, _⟩ := I.pin (a, oe) (List.mem_append_right _ List.mem_cons_self)
  have other : ∀ {b u}, H b = some u → upd H a o b = some u := fun {b u} e => (upd_ne (ne_of_none e na)).trans e
  have old : ∀ {b u}, X.s_0.heap.get? b = some u → b ≠ a := fun {b u} e q => by
    rw [q, n0] at e; cases e
  have cellNe : ∀ {x c}, X.env.cells.lookup x = some c → c ≠ a := fun {x c} e q => by
    obtain ⟨v, oc, hc, hd⟩ := I.cell x c e
    rw [q, ga] at hc
    cases hc
    exact nd _ hd
  exact
    { ok := I.ok, os := I.os, bare := I.bare, loc := I.loc, cell := I.cell, len := I.len
      base :=
        { keep := I.base.keep, slot := I.base.slot, there := I.base.there
          free := fun b u e n hx => (upd_ne (old e)).trans (I.base.free b u e n hx)
          tups := fun b xs e => other (I.base.tups b xs e)
          frzs := fun b u xs e => other (I.base.frzs b u xs e)
          tbls := fun b ps e => let ⟨m, q⟩ := I.base.tbls b ps e; ⟨m, other q⟩ }
      free := (upd_ne (Ne.symm nL)).trans I.free
      freeC := fun x c e => (upd_ne (cellNe e)).trans (I.freeC x c e)
      pin := fun p hp => by
        have hp' : p ∈ X.pn ++ (a, oe) :: pins := by
          rcases List.mem_append.mp hp with h | h
          · exact List.mem_append_left _ h
          · exact List.mem_append_right _ (List.mem_cons_of_mem _ h)
        obtain ⟨q1, q2, q3⟩ := I.pin p hp'
        exact ⟨q1, (upd_ne (np p hp)).trans q2, q3⟩
      hok := fun b u e => by
        by_cases hb : b = a
        · subst hb
          rw [upd_same] at e
          cases e
          exact new
        · rw [upd_ne hb] at e
          exact (I.hok b u e).stay (fun _ _ _ q => q) (fun _ q => other q) fun _ _ q => other q }
theorem erO_ok {P : Program} {w : World} {H : Hp} {h : Heap} {a : Addr} {cls : Value} {d : Option Addr} {oe : Obj} {vs : Array Value} (e : h.get? a = some oe) (z : Zc cls d oe) (q : oe.data = .fields vs) : ObjOk P w H h a (ErO cls d a) :=
  ⟨⟨oe, vs, e, z, q⟩, ⟨oe, e⟩, fun _ _ ⟨o, v, e1, r⟩ k => ⟨o, v, k o e1, r⟩⟩
/-- the wish of the clause: every error of the body is caught, and the name holds it -/
def wKeep (K : PySem.W.Frag) (c : Value) (i j : Nat) (D : Ends) : WX := fun cls d σ H =>
  PySem.W.exmOne K cls c = some true ∧ ∀ a, H a = none → D.nx (((σ.set i (some (.ref a))).set j (some (.ref a))).set i none) (upd H a (ErO cls d a))
end
section
variable {X : Cx} {x n y : Str} {c : Value} {i j : Nat} {body : List Stmt} {np p1 p2 p3 pos pos' : Pos} {tb : WX → TS}
theorem ps_try_keep (ex : X.ex = []) (st : X.stack = X.env :: X.outer) (fr : X.env.frame = some X.env.locals) (nd : X.N.Nodup) (hi : X.N[i]? = some n) (hj : X.N[j]? = some y) (ki : X.env.kindOf n = some .local) (hy : L2.Loc X.env.scope y) (hc : Names X x c)
    (hy2 : X.fn y = true ∨ X.env.scope.names.lookup y = some .local)
    (hv : ∀ (a : Addr) (oe : Obj) (pn : List (Addr × Obj)), PE (X.suite a ((a, oe) :: pn)) (.Name n p2) (tVar i))
    (sw : swapsWith (.Name n p2) (some (.Name y p1)) p3.line X.env = pure false)
    (hb : ∀ (W : WX) (pn : List (Addr × Obj)) (xe : Value → Shared → Prop), Takes (X.tr pn xe) W → PassesOwn (model X.prog X.w) X.A X.env xe → PSs (X.tr pn xe) body (tb W)) :
    PS X (.Try body [.ExceptHandler (some (.Name x np)) (some n) [.Assign [.Name y p1] (.Name n p2) p3] pos'] [] [] pos) (fun D σ H => tb (wKeep X.K c i j D) D σ H) := by
  refine ⟨fun pins s σ H D I h => wpAny_Try_except ?_⟩
  have ok := I.ok
  have air := ok.frames.trans (congrArg some st)
  have vis : L2.Loc X.env.scope n := .inl ki
  have B1 := hb (wKeep X.K c i j D) (X.pn ++ pins) (fun e s₁ => wpAny (model X.prog X.w) X.A (noteFrame e X.env) (fun _ s₂ => wpAny (model X.prog X.w) X.A (setFlight e none) (fun _ s₃ =>
    wpAny (model X.prog X.w) X.A (handleBy e X.env [.ExceptHandler (some (.Name x np)) (some n) [.Assign [.Name y p1] (.Name n p2) p3] pos']) (SP X pins D) X.xe s₃) X.xe s₂) X.xe s₁) ?caught PassesOwn.looking
  case caught =>
    rintro _ s1 ⟨a, G, sI, pins', σ1, H1, cls, d, rfl, I1, low, up, sky, na, hos, bare, match1, wish⟩
    have J := Inv.ofTry I1 ok
    show wpAny _ _ (noteFrame (.ref a) X.env) _ _ _
    refine Sky.land Zc.steady air fr (show Sky G (X.env :: X.outer) a (Zc cls d) X.env.locals s1.heap by rw [← st]; exact sky) fun h2 fl2 up2 => ?_
    -- the object is a record: no frame, no cell, younger than the state without it
    have rec_ : ∀ {h : Heap}, HandSPX.FlyingZ G (X.env :: X.outer) a (Zc cls d) h → ∃ oe, h.get? a = some oe ∧ Zc cls d oe ∧ ∃ vs, oe.data = .fields vs := fun fl => by
      obtain ⟨oe, vs, h1, h2, h3⟩ := fl.there
      exact ⟨oe, h1, h2, vs, h3⟩
    have young : a ∉ frs (X.env :: X.outer) := fun hm => by
      obtain ⟨oe, h1, _, vs, h3⟩ := rec_ fl2
      obtain ⟨_, ob, e', hnf⟩ := fl2.2.2.1.mem hm
      rw [h1] at e'
      cases e'
      exact hnf _ h3
    have nI : sI.heap.get? a = none := by
      cases q : sI.heap.get? a with
      | none => rfl
      | some ob =>
        have z := low a ob q (by rw [st]; exact young)
        rw [fl2.2.1] at z
        cases z
    have n0 : X.s_0.heap.get? a = none := by
      cases q : X.s_0.heap.get? a with
      | none => rfl
      | some ob =>
        obtain ⟨ob', z⟩ := J.base.there a ob q (by rw [ex]; exact List.not_mem_nil)
        rw [nI] at z
        cases z
    have apart_ : ∀ p ∈ X.pn ++ pins, p.1 ≠ a := fun p hp q => by
      have z := (J.pin p hp).1
      rw [q, nI] at z
      cases z
    have notL : a ≠ X.env.locals := fun q => young (List.mem_filterMap.mpr ⟨X.env, List.mem_cons_self, fr.trans (congrArg some q.symm)⟩)
    have notF : a ∉ X.fs := fun hm => by
      obtain ⟨en, hen, q⟩ := List.mem_filterMap.mp hm
      exact young (List.mem_filterMap.mpr ⟨en, List.mem_cons_of_mem _ hen, q⟩)
    have down : ∀ {h'}, HandSPX.FlyingZ G (X.env :: X.outer) a (Zc cls d) h' → s1.heap.UpToSlots h' → Inv X pins σ1 H1 { s1 with heap := h' } := fun fl u => J.landed low fl.1 (up.trans u) hos bare
    -- the clause's class is looked up, the error is of it
    obtain ⟨oe2, g2, z2, vs2, f2⟩ := rec_ fl2
    have M2 := PySem.W.exm_one (M := model X.prog X.w) (down fl2 up2).kIn (show PySem.W.Looks (model X.prog X.w) h2 (typeOf (.ref a)) cls from fun _ _ _ _ k q => wpAny_typeOf_ref (k _ _ g2) (by rw [z2.1]; exact q)) match1
    have T2 := (down fl2 up2).suite g2 f2 na notL notF
    have named : ∀ {Q E : Value → Shared → Prop}, Q c { s1 with heap := h2 } → wpAny (model X.prog X.w) (X.A.mark (some (.ref a))) (eval (.Name x np) X.env) Q E { s1 with heap := h2 } := fun q => by
      rcases hc with ⟨v1, v2, v3 | ⟨v3, v4, v5⟩⟩
      · exact ld_glob (X := X.suite a ((a, oe2) :: (X.pn ++ pins))) T2 v1 v3 q v2
      · exact ld_blt (X := X.suite a ((a, oe2) :: (X.pn ++ pins))) T2 v1 v3 v4 q v5 v2
    refine wpAny_handleBy_cons (codeAny_handlers_test (named (M2.here ?_))) (fun z => nomatch z)
    refine codeAny_handlers_suite_as (HandSPX.lands_againZ fl2 fun h3 fl3 up3 => ?_)
    obtain ⟨oe3, g3, z3, vs3, f3⟩ := rec_ fl3
    have T3 := (down fl3 (up2.trans up3)).suite g3 f3 na notL notF
    refine store_ok (X := X.suite a ((a, oe3) :: (X.pn ++ pins))) (v := .ref a) T3 nd hi vis rfl (fun s4 T4 => ?_) (.inr ki)
    -- the suite: name = e
    have run : PSs (X.suite a ((a, oe3) :: (X.pn ++ pins))) [.Assign [.Name y p1] (.Name n p2) p3] (tAsg (tVar i) (gName j)) :=
      pss_one (ps_set (X := X.suite a ((a, oe3) :: (X.pn ++ pins))) nd hj hy (hv a oe3 (X.pn ++ pins)) sw hy2)
    have hlt : i < σ1.length := by rw [J.len]; exact (List.getElem?_eq_some_iff.mp hi).1
    refine wpAny_mono (run.run [] s4 _ H1 { nx := fun σ' H' => σ' = (σ1.set i (some (.ref a))).set j (some (.ref a)) ∧ H' = H1, rt := fun _ _ => False } T4 ⟨.ref a, by rw [List.getElem?_set_self hlt], ?_⟩) (fun fl s5 sp => ?_) fun _ _ z => z.elim
    · exact ⟨rfl, rfl⟩
    · cases fl with
      | next =>
        obtain ⟨σ5, H5, T5, rfl, rfl⟩ := sp
        have U5 : Inv X ((a, oe3) :: pins) ((σ1.set i (some (.ref a))).set j (some (.ref a))) H5 s5 :=
          { ok := ok, os := T5.os, bare := T5.bare, base := T5.base, loc := T5.loc, cell := T5.cell, free := T5.free, freeC := T5.freeC, hok := T5.hok, len := T5.len
            pin := fun p hp => T5.pin p (List.mem_append_left _ (by
              rcases List.mem_append.mp hp with h | h
              · exact List.mem_cons_of_mem _ (List.mem_append_left _ h)
              · rcases List.mem_cons.mp h with h | h
                · rw [h]; exact List.mem_cons_self
                · exact List.mem_cons_of_mem _ (List.mem_append_right _ h))) }
        refine gone_ok U5 nd hi ki fun s6 U6 => ?_
        obtain ⟨g6, _⟩ := U6.pin (a, oe3) (List.mem_append_right _ List.mem_cons_self)
        exact ⟨_, _, inv_track U6 n0 (fun v q => by rw [f3] at q; cases q) apart_ (erO_ok g6 z3 f3), wish a na⟩
      | brk => obtain ⟨_, _, _, z⟩ := sp; exact z.elim
      | cont => obtain ⟨_, _, _, z⟩ := sp; exact z.elim
      | ret u => obtain ⟨_, _, _, _, _, z⟩ := sp; exact z.elim
  refine wpAny_mono (B1.run [] s σ H D (I.toTry _) h) (fun fl s1 sp => ?_) fun _ _ z => z
  cases fl with
  | next =>
    obtain ⟨σ1, H1, T, q⟩ := sp
    exact wpAny_execs_nil ⟨σ1, H1, T.ofTry ok, q⟩
  | brk =>
    obtain ⟨σ1, H1, T, q⟩ := sp
    exact ⟨σ1, H1, T.ofTry ok, q⟩
  | cont =>
    obtain ⟨σ1, H1, T, q⟩ := sp
    exact ⟨σ1, H1, T.ofTry ok, q⟩
  | ret u =>
    obtain ⟨v, σ1, H1, T, r, q⟩ := sp
    exact ⟨v, σ1, H1, T.ofTry ok, r, q⟩
end
end DL
namespace DL
open PySem PySem.Spec PyProof.Rows L2
/-- what the try leaves: m's outcome, or the error at the name -/
def mTry (exm : Addr → Addr → Option Bool) (P : Addr) (i j : Nat) (m : S3) : S3 := fun σ S => match m σ S with
  | .exc C none σ1 S1 => if exm C P = some true then .go .next (((σ1.set i (some (.err C none))).set j (some (.err C none))).set i none) S1 else .bad
  | .exc _ (some _) _ _ => .bad
  | r => r
section
variable {X : Cx} {W : WX} {x n y : Str} {P : Addr} {i j : Nat} {body : List Stmt} {np p1 p2 p3 pos pos' : Pos} {m : S3} {exm : Addr → Addr → Option Bool}
theorem s_try (hk : ∀ C P, exm C P = some true → PySem.W.exmOne X.K (.ref C) (.ref P) = some true) (hm : X.mg x = some (.ref P)) (hg : Gl X x) (ex : X.ex = []) (st : X.stack = X.env :: X.outer) (fr : X.env.frame = some X.env.locals) (nd : X.N.Nodup)
    (hi : X.N[i]? = some n) (hj : X.N[j]? = some y) (ki : X.env.kindOf n = some .local) (hy : L2.Loc X.env.scope y) (hy2 : X.fn y = true ∨ X.env.scope.names.lookup y = some .local)
    (hv : ∀ (a : Addr) (oe : Obj) (pn : List (Addr × Obj)), PE (X.suite a ((a, oe) :: pn)) (.Name n p2) (tVar i))
    (sw : swapsWith (.Name n p2) (some (.Name y p1)) p3.line X.env = pure false)
    (hb : ∀ (W : WX) (pn : List (Addr × Obj)) (xe : Value → Shared → Prop), Takes (X.tr pn xe) W → PassesOwn (model X.prog X.w) X.A X.env xe → PSs3 (X.tr pn xe) W body m)
    (hd : (x == ("__debug__" : Str)) = false := by decide) :
    PS3 X W (.Try body [.ExceptHandler (some (.Name x np)) (some n) [.Assign [.Name y p1] (.Name n p2) p3] pos'] [] [] pos) (mTry exm P i j m) :=
  PS.imp (ps_try_keep (tb := fun W => rdS X.K W m) ex st fr nd hi hj ki hy ⟨hg, hd, .inl hm⟩ hy2 hv sw hb) fun B sv H ⟨w, σ, S, l, z, q⟩ => ⟨w, σ, S, l, z, by
    unfold mTry at q
    cases e : m σ S with
    | bad => rw [e] at q; exact q.elim
    | go f σ1 S1 =>
      rw [e] at q
      cases f with
      | next => exact q
      | brk => exact q
      | cont => exact q
      | ret d => exact q
    | exc C p σ1 S1 =>
      rw [e] at q
      cases p with
      | some _ => exact q.elim
      | none =>
        by_cases hc : exm C P = some true
        · simp only [if_pos hc] at q
          intro w1 s1 H1 dx x1 l1 z1 r1
          obtain rfl : dx = none := r1
          refine ⟨hk C P hc, fun a na => ?_⟩
          have x2 := z1.ext_put na (ErO (.ref C) none a)
          have r2 : Rep X.K (w1.put a (ErO (.ref C) none a)) (.ref a) (.err C none) := .err upd_same
          exact q _ _ _ (x1.trans x2) (LRel.wipe i (LRel.set r2 j (LRel.set r2 i (l1.mono x2)))) (z1.put na _)
        · simp only [if_neg hc] at q
          exact q.elim⟩
end

/-! ### isinstance of a caught error -/
def rIsiE (K : PySem.W.Frag) : List V → Hp → VK → Prop := fun xs H Q => ∃ (a C : Addr) (c : V) (u : Value) (b : Bool), xs = [.ref a, c] ∧ H a = some (ErO (.ref C) none a) ∧ ExcC K C ∧ ClsV c u ∧ PySem.W.kitOne K (.ref C) u = some b ∧ Q (.bl b) H
def rIsiEs (K : PySem.W.Frag) : List V → Hp → VK → Prop := fun xs H Q => ∃ (a C tp : Addr) (cs : List V) (us : List Value) (b : Bool), xs = [.ref a, .ref tp] ∧ H a = some (ErO (.ref C) none a) ∧ ExcC K C ∧ H tp = some (.tup cs) ∧ Paired ClsV cs us ∧
  PySem.W.kitAny K (.ref C) us = some b ∧ Q (.bl b) H
section
variable {X : Cx} {pins : List (Addr × Obj)} {σ : L2.St} {H : Hp} {s : Shared}
theorem err_inst {a C : Addr} (I : Inv X pins σ H s) (e : H a = some (ErO (.ref C) none a)) : ∃ oe, PySem.W.InstAt s.heap a oe C none := by
  obtain ⟨⟨oe, vs, h1, ⟨h2, h3⟩, h4⟩, _⟩ := (show ObjOk X.prog X.w H s.heap a (ErO (.ref C) none a) from I.hok a _ e)
  obtain ⟨k1, k2, k3, k4⟩ := oe
  dsimp only at h2 h3 h4
  subst h2 h3 h4
  exact ⟨_, h1, rfl, rfl, trivial⟩
theorem call_isiE : CallR X (.builtin "isinstance") (rIsiE X.K) := by
  intro pins s σ H xs us Q I r h
  obtain ⟨a, C, c, u, b, rfl, ea, F, k, e, q⟩ := h
  obtain ⟨u1, u2, rfl, r1, r2⟩ := vals2 r
  obtain rfl := k.eq r2
  obtain rfl : u1 = Value.ref a := r1
  obtain ⟨oe, J⟩ := err_inst I ea
  exact PySem.W.kia_one (PySem.W.handS_kitx_exc F.hg F.hk F.hs F.hd F.ha F.hn F.ht F.hm) I.kIn J e (fun z => nomatch z) fun tk => ⟨.bl b, H, I.tok tk, rfl, q⟩
theorem call_isiEs : CallR X (.builtin "isinstance") (rIsiEs X.K) := by
  intro pins s σ H xs us Q I r h
  obtain ⟨a, C, tp, cs, ws, b, rfl, ea, F, hT, k, e, q⟩ := h
  obtain ⟨u1, u2, rfl, r1, r2⟩ := vals2 r
  obtain rfl : u1 = Value.ref a := r1
  obtain rfl : u2 = Value.ref tp := r2
  obtain ⟨oe, J⟩ := err_inst I ea
  obtain ⟨_, its, rv, o, h1, h2, n, h3⟩ := (show ObjOk X.prog X.w H s.heap tp (.tup cs) from I.hok tp _ hT)
  obtain rfl := ClsV.all k rv
  obtain ⟨oc, od, dt, sl⟩ := o
  dsimp only at h2 h3
  subst h2 h3
  exact PySem.W.kia_tup (PySem.W.handS_kitx_exc F.hg F.hk F.hs F.hd F.ha F.hn F.ht F.hm) I.kIn J h1 e (fun z => nomatch z) fun tk => ⟨.bl b, H, I.tok tk, rfl, q⟩
end
/-- what a class is, as a value of the model -/
def clsOf : D → Option Value
  | .adr C => some (.ref C)
  | .ty n => some (.type n)
  | _ => none
def clssOf : List D → Option (List Value)
  | [] => some []
  | d :: ds => match clsOf d, clssOf ds with
    | some v, some vs => some (v :: vs)
    | _, _ => none
def kitG (kit : Addr → Value → Option Bool) (C : Addr) : List Value → Option Bool
  | [] => some false
  | v :: r => match kit C v with
    | some true => some true
    | some false => kitG kit C r
    | none => none
def isErr : D → Bool
  | .err _ _ => true
  | _ => false
/-- isinstance: of a caught error by the table, of other things as ever -/
def isiX (kit : Addr → Value → Option Bool) (d c : D) (S : Sto) : Rs D := match d with
  | .err C none => (match c with
    | .tup cs => (match clssOf cs with
      | some vs => (match vs with
        | [] => .bad
        | _ :: _ => (match kitG kit C vs with
          | some b => .ok (.bl b) S
          | none => .bad))
      | none => .bad)
    | c => (match clsOf c with
      | some v => (match kit C v with
        | some b => .ok (.bl b) S
        | none => .bad)
      | none => .bad))
  | .err _ (some _) => .bad
  | d => isi d c S
def fIsiX (kit : Addr → Value → Option Bool) : C3 := c2 (isiX kit)
theorem clsOf_s {K : PySem.W.Frag} {w : Wd} {u : V} {d : D} {v : Value} (r : Rep K w u d) (e : clsOf d = some v) : ClsV u v := by
  cases d with
  | adr C => cases r; cases e; exact .own C
  | ty n => cases r; cases e; exact .ty n
  | _ => cases e
theorem clssOf_s {K : PySem.W.Frag} {w : Wd} : ∀ {cs : List D} {us : List V} {vs : List Value}, RepA K w us cs → clssOf cs = some vs → Paired ClsV us vs
  | [], _, _, r, e => by cases r; cases e; exact .nil
  | c :: cs, _, _, r, e => by
    cases r with
    | cons r1 r2 =>
      unfold clssOf at e
      cases q1 : clsOf c with
      | none => rw [q1] at e; cases e
      | some v =>
        cases q2 : clssOf cs with
        | none => rw [q1, q2] at e; cases e
        | some vs =>
          rw [q1, q2] at e
          cases e
          exact .cons (clsOf_s r1 q1) (clssOf_s r2 q2)
/-- the table speaks of the text's own classes -/
def KitS (K : PySem.W.Frag) (kit : Addr → Value → Option Bool) : Prop := ∀ C v b, kit C v = some b → ExcC K C ∧ PySem.W.kitOne K (.ref C) v = some b
theorem kitG_s {K : PySem.W.Frag} {kit : Addr → Value → Option Bool} (hk : KitS K kit) {C : Addr} : ∀ {vs : List Value} {b : Bool}, kitG kit C vs = some b → PySem.W.kitAny K (.ref C) vs = some b
  | [], _, e => by cases e; exact kitAny_nil
  | v :: vs, b, e => by
    unfold kitG at e
    cases q : kit C v with
    | none => rw [q] at e; cases e
    | some k =>
      rw [q] at e
      cases k with
      | true =>
        cases e
        exact kitAny_cons (hk _ _ _ q).2 (fun z => nomatch z) fun _ => rfl
      | false => exact kitAny_cons (hk _ _ _ q).2 (fun _ => kitG_s hk e) fun z => nomatch z
theorem kitG_exc {K : PySem.W.Frag} {kit : Addr → Value → Option Bool} (hk : KitS K kit) {C : Addr} {v : Value} {vs : List Value} {b : Bool} (e : kitG kit C (v :: vs) = some b) : ExcC K C := by
  unfold kitG at e
  cases q : kit C v with
  | none => rw [q] at e; cases e
  | some k => exact (hk _ _ _ q).1
def rIsiX (K : PySem.W.Frag) : List V → Hp → VK → Prop := fun xs H Q => (rIsi K xs H Q ∨ rIsiT K xs H Q) ∨ (rIsiE K xs H Q ∨ rIsiEs K xs H Q)
theorem call_isiX {X : Cx} : CallR X (.builtin "isinstance") (rIsiX X.K) := call_isiA.or (call_isiE.or call_isiEs)
theorem fIsiX_s {K : PySem.W.Frag} {kit : Addr → Value → Option Bool} (hk : KitS K kit) : CallS K (rIsiX K) (fIsiX kit) := c2_s fun W sv w u v d c S H Q z r1 r2 q => by
  have one : ∀ C a, Rep K w v c → H a = some (ErO (.ref C) none a) → Hold K W sv (Rep K) w Q (match clsOf c with
      | some v => (match kit C v with
        | some b => .ok (.bl b) S
        | none => .bad)
      | none => .bad) → rIsiX K [.ref a, v] H Q := fun C a r2 ha q => by
    cases q1 : clsOf c with
    | none => simp only [q1] at q; exact q.elim
    | some t =>
      simp only [q1] at q
      cases q2 : kit C t with
      | none => simp only [q2] at q; exact q.elim
      | some b =>
        simp only [q2] at q
        obtain ⟨f1, f2⟩ := hk _ _ _ q2
        exact .inr (.inl ⟨a, C, v, t, b, rfl, ha, f1, clsOf_s r2 q1, f2, q.at_ z (.bl _)⟩)
  cases d with
  | err C n =>
    cases n with
    | some n => exact (show False from q).elim
    | none =>
      cases r1 with
      | err h1 =>
        rename_i a
        have ha := z.same _ _ h1
        cases c with
        | tup cs =>
          cases r2 with
          | tup h2 h3 =>
            have q' : Hold K W sv (Rep K) w Q (match clssOf cs with
              | some vs => (match vs with
                | [] => .bad
                | _ :: _ => (match kitG kit C vs with
                  | some b => .ok (.bl b) S
                  | none => .bad))
              | none => .bad) := q
            cases q1 : clssOf cs with
            | none => simp only [q1] at q'; exact q'.elim
            | some ts =>
              simp only [q1] at q'
              cases ts with
              | nil => exact (show False from q').elim
              | cons t ts =>
                cases q2 : kitG kit C (t :: ts) with
                | none => simp only [q2] at q'; exact q'.elim
                | some b =>
                  simp only [q2] at q'
                  exact .inr (.inr ⟨a, C, _, _, t :: ts, b, rfl, ha, kitG_exc hk q2, z.same _ _ h2, clssOf_s h3 q1, kitG_s hk q2, q'.at_ z (.bl _)⟩)
        | _ => exact one C a r2 ha q
  | _ => exact .inl (fIsi_s W sv w _ _ S H Q z (.cons r1 (.cons r2 .nil)) q)
end DL
end

section
set_option Elab.async false
set_option linter.all false
set_option maxRecDepth 100000
set_option maxHeartbeats 4000000
/-! written dicts as values; repr of data with dicts; count and index of truths -/
namespace DL
open PySem PySem.Spec PyProof.Rows L2

/-! ### xs.count(b), xs.index(b), xs a list of truths -/
def rCntB (K : PySem.W.Frag) : V → List V → Hp → VK → Prop := fun x xs H Q => ∃ (p : Addr) (bs : List Bool) (b : Bool), x = .ref p ∧ xs = [.bl b] ∧ SqL K H p (bs.map V.bl) ∧ Q (.int (bs.count b : Nat)) H
theorem eqBl {bs : List Bool} {its : List Value} (r : Vals (bs.map V.bl) its) : its = bs.map Value.bool := by
  induction bs generalizing its with
  | nil => cases r; rfl
  | cons b bs ih =>
    cases r with
    | cons r1 r2 =>
      rw [ih r2, show _ = Value.bool b from r1]
      rfl
theorem mt_countB {X : Cx} : MtR X "list.count" (rCntB X.K) := by
  intro pins s σ H x xs v us Q I rx rv h
  obtain ⟨p, bs, b, rfl, rfl, hs, q⟩ := h
  obtain ⟨u1, rfl, r1⟩ := vals1 rv
  obtain rfl : u1 = Value.bool b := r1
  obtain rfl : v = Value.ref p := rx
  obtain ⟨its, rw_, ⟨o, n, ho, hc, hd, hdt⟩, _⟩ := I.list hs
  obtain rfl := eqBl rw_
  obtain ⟨k1, k2, k3, k4⟩ := o
  dsimp only at hc hd hdt
  subst hc hd hdt
  refine call_meets PySem.F.slot_list_count ⟨_, ho, rfl⟩ PySem.F.entry_list_count (PySem.F.args_list_count_2 _ _) (SeqAt.list_countAt p _ n none k4 (.bool b) (isBoolOf b)) ⟨ho, fun y hy => ?_, ?_⟩
  · obtain ⟨c, _, rfl⟩ := List.mem_map.mp (show y ∈ bs.map Value.bool by simpa using hy)
    exact SeqAt.EqAt.bool_bool c b
  · have e : (bs.map Value.bool).countP (isBoolOf b) = bs.count b := by
      rw [List.countP_map]
      rfl
    rw [show (bs.map Value.bool).toArray.toList = bs.map Value.bool from rfl, e]
    exact ⟨.int (bs.count b : Nat), H, I.tok _, ⟨_, rfl⟩, q⟩
def fCountB : M3 := fun d ds S => match ds with
  | [.bl b] => if isTupD d then .bad else withItems d S fun xs => (match blsOf xs with
    | some bs => .ok (.int (bs.count b : Nat)) S
    | none => .bad)
  | _ => .bad
theorem fCountB_s {K : PySem.W.Frag} : MethS K (rCntB K) fCountB := by
  intro W sv w u us d ds S H Q z r ra q
  match ds, ra, q with
  | [], _, q => exact False.elim q
  | x :: _ :: _, _, q => cases x <;> exact False.elim q
  | [y], .cons ry .nil, q =>
    cases y with
    | bl b =>
      cases ry
      have q : Hold K W sv (Rep K) w Q (if isTupD d then .bad else withItems d S fun xs => (match blsOf xs with
        | some bs => .ok (.int (bs.count b : Nat)) S
        | none => .bad)) := q
      by_cases t : isTupD d = true
      · rw [if_pos t] at q; exact False.elim q
      · rw [if_neg t] at q
        obtain ⟨xs, _, _, he, _, _, _, hk⟩ := withItems_s z r q
        obtain ⟨a, vs, rfl, rb, hs⟩ := items_list z r he (by simpa using t)
        cases e : blsOf xs with
        | none => simp only [e] at hk; exact False.elim hk
        | some bs =>
          simp only [e] at hk
          obtain rfl := blsOf_s rb e
          exact ⟨a, bs, b, rfl, rfl, hs, hk.at_ z (.int _)⟩
    | _ => exact False.elim q
/-- the first place of a truth -/
def firstB (b : Bool) : List Bool → Option Nat
  | [] => none
  | c :: r => if c = b then some 0 else (firstB b r).map (· + 1)
theorem firstB_at {b : Bool} : ∀ {bs : List Bool} {j : Nat}, firstB b bs = some j → bs[j]? = some b ∧ ∀ m c, m < j → bs[m]? = some c → c ≠ b
  | [], _, e => by cases e
  | c :: r, j, e => by
    unfold firstB at e
    by_cases h : c = b
    · rw [if_pos h] at e
      cases e
      exact ⟨by rw [h]; rfl, fun m _ hm => absurd hm (Nat.not_lt_zero _)⟩
    · rw [if_neg h] at e
      cases q : firstB b r with
      | none => rw [q] at e; cases e
      | some i =>
        rw [q] at e
        cases e
        obtain ⟨h1, h2⟩ := firstB_at q
        refine ⟨h1, fun m c' hm hc => ?_⟩
        cases m with
        | zero => cases hc; exact h
        | succ m => exact h2 m c' (Nat.lt_of_succ_lt_succ hm) hc
def rIdxB (K : PySem.W.Frag) : V → List V → Hp → VK → Prop := fun x xs H Q => ∃ (p : Addr) (bs : List Bool) (b : Bool) (j : Nat), x = .ref p ∧ xs = [.bl b] ∧ SqL K H p (bs.map V.bl) ∧ firstB b bs = some j ∧ Q (.int (j : Nat)) H
theorem mt_indexB {X : Cx} : MtR X "list.index" (rIdxB X.K) := by
  intro pins s σ H x xs v us Q I rx rv h
  obtain ⟨p, bs, b, j, rfl, rfl, hs, ej, q⟩ := h
  obtain ⟨u1, rfl, r1⟩ := vals1 rv
  obtain rfl : u1 = Value.bool b := r1
  obtain rfl : v = Value.ref p := rx
  obtain ⟨its, rw_, ⟨o, n, ho, hc, hd, hdt⟩, hsz⟩ := I.list hs
  obtain rfl := eqBl rw_
  obtain ⟨k1, k2, k3, k4⟩ := o
  dsimp only at hc hd hdt
  subst hc hd hdt
  obtain ⟨j1, j2⟩ := firstB_at ej
  have hjl : j < bs.length := (List.getElem?_eq_some_iff.mp j1).1
  have hsl := sizeLine_eq
  rw [List.length_map] at hsz
  have at_ : ∀ (m : Nat) (hm : m < (bs.map Value.bool).toArray.size), ∃ c, bs[m]? = some c ∧ (bs.map Value.bool).toArray[m] = Value.bool c := fun m hm => by
    have hm' : m < bs.length := by simpa using hm
    exact ⟨bs[m], List.getElem?_eq_getElem hm', by simp⟩
  refine call_meets PySem.F.slot_list_index ⟨_, ho, rfl⟩ PySem.F.entry_list_index (PySem.F.args_list_index_2 _ _)
    (SeqAt.list_indexAt p _ n none k4 (.bool b) (isBoolOf b) j (by simpa using hjl) (by omega) ?_ ?_) ⟨ho, fun y hy => ?_, ?_⟩
  · obtain ⟨c, hc, e⟩ := at_ j (by simpa using hjl)
    rw [e]
    rw [j1] at hc
    cases hc
    exact beq_self_eq_true b
  · intro m hm hmj
    obtain ⟨c, hc, e⟩ := at_ m hm
    rw [e]
    exact beq_eq_false_iff_ne.mpr (j2 m c hmj hc)
  · obtain ⟨c, _, rfl⟩ := List.mem_map.mp (show y ∈ bs.map Value.bool by simpa using hy)
    exact SeqAt.EqAt.bool_bool c b
  · exact ⟨.int (j : Nat), H, I.tok _, ⟨_, rfl⟩, q⟩
def fIndexB : M3 := fun d ds S => match ds with
  | [.bl b] => if isTupD d then .bad else withItems d S fun xs => (match blsOf xs with
    | some bs => (match firstB b bs with
      | some j => .ok (.int (j : Nat)) S
      | none => .bad)
    | none => .bad)
  | _ => .bad
theorem fIndexB_s {K : PySem.W.Frag} : MethS K (rIdxB K) fIndexB := by
  intro W sv w u us d ds S H Q z r ra q
  match ds, ra, q with
  | [], _, q => exact False.elim q
  | x :: _ :: _, _, q => cases x <;> exact False.elim q
  | [y], .cons ry .nil, q =>
    cases y with
    | bl b =>
      cases ry
      have q : Hold K W sv (Rep K) w Q (if isTupD d then .bad else withItems d S fun xs => (match blsOf xs with
        | some bs => (match firstB b bs with
          | some j => .ok (.int (j : Nat)) S
          | none => .bad)
        | none => .bad)) := q
      by_cases t : isTupD d = true
      · rw [if_pos t] at q; exact False.elim q
      · rw [if_neg t] at q
        obtain ⟨xs, _, _, he, _, _, _, hk⟩ := withItems_s z r q
        obtain ⟨a, vs, rfl, rb, hs⟩ := items_list z r he (by simpa using t)
        cases e : blsOf xs with
        | none => simp only [e] at hk; exact False.elim hk
        | some bs =>
          simp only [e] at hk
          obtain rfl := blsOf_s rb e
          cases ej : firstB b bs with
          | none => simp only [ej] at hk; exact False.elim hk
          | some j =>
            simp only [ej] at hk
            exact ⟨a, bs, b, j, rfl, rfl, hs, ej, hk.at_ z (.int _)⟩
    | _ => exact False.elim q

/-! ### a written dict -/
theorem merge_nodup : ∀ (more acc : List (Key × V)), ((acc ++ more).map (·.1)).Nodup → mergeK acc more = acc ++ more
  | [], acc, _ => by rw [List.append_nil]; rfl
  | p :: r, acc, nd => by
    have e : putK acc p.1 p.2 = acc ++ [p] := by
      unfold putK
      rw [if_neg]
      intro h
      obtain ⟨x, hx, hp⟩ := List.any_eq_true.mp h
      rw [List.map_append, List.map_cons] at nd
      have := (List.nodup_append.mp nd).2.2 x.1 (List.mem_map_of_mem hx) p.1 List.mem_cons_self
      exact this (of_decide_eq_true hp)
    show mergeK (putK acc p.1 p.2) r = _
    rw [e, merge_nodup r (acc ++ [p]) (by rw [List.append_assoc]; exact nd), List.append_assoc]
    rfl
def mDct (ks : List Key) (a : A3) : E3 := fun σ S => match a σ S with
  | .ok ds S1 => if ks.length = ds.length then .ok (.dct ks ds) S1 else .bad
  | _ => .bad
/-- the pairs of a display: keys written, values of any kind -/
def PD3 (X : Cx) (W : WX) (pos : Pos) (keys : List (Option Expr)) (values : List Expr) (ks : List Key) (ms : A3) : Prop :=
  ∃ trs, PPs X pos keys values trs ∧ ∀ sv H (Q : List (V × V) → Hp → Prop), rdA X.K W ms sv H (fun vs H2 => vs.length = ks.length ∧ Q ((ks.zip vs).map fun kv => (kV kv.1, kv.2)) H2) → tPairs trs sv H Q
section
variable {X : Cx} {W : WX} {pos : Pos}
theorem pd_nil : PD3 X W pos [] [] [] mNil := ⟨[], pps_nil, fun sv H Q ⟨w, σ, S, l, z, q⟩ => (q.at_ z .nil).2⟩
theorem pd_cons {ke ve : Expr} {keys : List (Option Expr)} {values : List Expr} {k : Key} {ks : List Key} {m : E3} {ms : A3} (hk : PE X ke (tC (kV k))) (hv : PE3 X W ve m) (hr : PD3 X W pos keys values ks ms) :
    PD3 X W pos (some ke :: keys) (ve :: values) (k :: ks) (mCons m ms) := by
  obtain ⟨trs, h1, h2⟩ := hr
  refine ⟨(tC (kV k), rdE X.K W m) :: trs, pps_cons hk hv h1, fun sv H Q ⟨w, σ, S, l, z, q⟩ => ?_⟩
  show rdE X.K W m sv H fun y H2 => tPairs trs sv H2 fun ps H3 => Q ((kV k, y) :: ps) H3
  refine ⟨w, σ, S, l, z, Hold.step q fun d S1 w1 H1 u x1 z1 r1 q1 => h2 sv H1 _ ⟨w1, σ, S1, l.mono x1, z1, Hold.step q1 fun ds S2 w2 H2 us x2 z2 r2 q2 => ?_⟩⟩
  obtain ⟨e, q3⟩ := q2.at_ z2 (.cons (r1.mono x2) r2)
  have e' : us.length = ks.length := by simpa using e
  exact ⟨e', q3⟩
theorem e_dct {keys : List (Option Expr)} {values : List Expr} {ks : List Key} {ms : A3} (h : PD3 X W pos keys values ks ms) (nd : ks.Nodup) (k15 : ks.length ≤ 15) (hall : keys.all (·.isSome) = true) (hl : keys.length = values.length) (h0 : keys ≠ []) (h15 : keys.length ≤ 15) :
    PE3 X W (.Dict keys values pos) (mDct ks ms) := by
  obtain ⟨trs, h1, h2⟩ := h
  refine PE.imp (pe_disp h1 hall hl h0 h15) fun sv H Q ⟨w, σ, S, l, z, q⟩ p np => h2 sv _ _ ⟨w.hide p (.dK []), σ, S, LRel.alike (u := w) (u' := w.hide p (.dK [])) rfl rfl l, z.hide np _, ?_⟩
  unfold mDct at q
  cases e : ms σ S with
  | exc C p' S1 => rw [e] at q; exact q.elim
  | bad => rw [e] at q; exact q.elim
  | ok ds S1 =>
    rw [e] at q
    by_cases hd : ks.length = ds.length
    · simp only [if_pos hd] at q
      intro w1 H1 vs x1 z1 r1
      have hs1 : w1.hs = (p, .dK []) :: w.hs := x1.hid
      obtain ⟨g1, _, _⟩ := z1.hid (p, .dK []) (by rw [hs1]; exact List.mem_cons_self)
      have hv : vs.length = ks.length := by rw [r1.length, hd]
      refine ⟨hv, g1, ks.zip vs, rfl, by rw [List.length_zip, hv, Nat.min_self]; exact k15, ?_⟩
      have km : ((([] : List (Key × V)) ++ ks.zip vs).map (·.1)).Nodup := by
        rw [List.nil_append, List.map_fst_zip (Nat.le_of_eq hv.symm)]
        exact nd
      rw [merge_nodup _ _ km, List.nil_append]
      have z2 := z1.rehide hs1 (o' := .dK (ks.zip vs))
      obtain ⟨z3, x3⟩ := z2.show_ (l := w.hs) rfl
      have gr : Grow w1 ⟨upd w1.G p (.dK (ks.zip vs)), w1.am, w.hs⟩ := ⟨x3.same, x3.pre⟩
      exact q ⟨upd w1.G p (.dK (ks.zip vs)), w1.am, w.hs⟩ _ (.ref p) ⟨fun b u hb => gr.same _ _ (x1.same _ _ hb), x1.pre, rfl⟩ z3 (.dct upd_same hd (RepA.monoG gr r1))
    · simp only [if_neg hd] at q
      exact q.elim
theorem e_dct0 : PE3 X W (.Dict [] [] pos) (mDct [] mNil) :=
  PE.imp pe_dnewK fun sv H Q ⟨w, σ, S, l, z, q⟩ p np => (show Hold X.K W sv (Rep X.K) w Q (.ok (.dct [] []) S) from q) _ _ (.ref p) (z.ext_put np _) (z.put np _) (.dct (vs := []) upd_same rfl .nil)
theorem k_str {x : Str} {j} : PE X (.Constant (.str x) j pos) (tC (kV (.inr x))) := pe_str
theorem k_int {i : Int} {j} : PE X (.Constant (.int i) j pos) (tC (kV (.inl i))) := pe_int
end

/-! ### repr of data with dicts -/
def keyP : Key → PyData
  | .inl i => .int i
  | .inr x => .str x
section
variable (K : PySem.W.Frag) (H : Hp)
mutual
inductive DpX : V → PyData → Prop
  | non : DpX .non .none
  | bl (b : Bool) : DpX (.bl b) (.bool b)
  | int (i : Int) : DpX (.int i) (.int i)
  | str (x : Str) : DpX (.str x) (.str x)
  | lst {a : Addr} {xs : List V} {ds : List PyData} : SqL K H a xs → DpXs xs ds → DpX (.ref a) (.list ds)
  | tup {a : Addr} {xs : List V} {ds : List PyData} : SqT K H a xs → DpXs xs ds → DpX (.ref a) (.tuple ds)
  | dct {a : Addr} {ks : List Key} {xs : List V} {kvs : List (PyData × PyData)} : H a = some (.dK (ks.zip xs)) → DpKs ks xs kvs → DpX (.ref a) (.dict kvs)
inductive DpXs : List V → List PyData → Prop
  | nil : DpXs [] []
  | cons {v : V} {vs : List V} {d : PyData} {ds : List PyData} : DpX v d → DpXs vs ds → DpXs (v :: vs) (d :: ds)
inductive DpKs : List Key → List V → List (PyData × PyData) → Prop
  | nil : DpKs [] [] []
  | cons {k : Key} {ks : List Key} {v : V} {vs : List V} {d : PyData} {ds : List (PyData × PyData)} : DpX v d → DpKs ks vs ds → DpKs (k :: ks) (v :: vs) ((keyP k, d) :: ds)
end
end
mutual
/-- a list stands in it -/
def hasL : PyData → Bool
  | .list _ => true
  | .tuple xs => hasLs xs
  | .dict kvs => hasLk kvs
  | _ => false
def hasLs : List PyData → Bool
  | [] => false
  | d :: ds => hasL d || hasLs ds
def hasLk : List (PyData × PyData) → Bool
  | [] => false
  | (_, d) :: ds => hasL d || hasLk ds
end
section
variable {X : Cx} {pins : List (Addr × Obj)} {σ : L2.St} {H : Hp} {s : Shared}
theorem vals_zip : ∀ {ks : List Key} {xs : List V} {vs : List (Key × Value)}, ks.length = xs.length → KV (ks.zip xs) vs → ∃ us, vs = ks.zip us ∧ Vals xs us
  | [], [], vs, _, r => by cases r; exact ⟨[], rfl, .nil⟩
  | k :: ks, x :: xs, vs, hl, r => by
    rw [List.zip_cons_cons] at r
    cases r with
    | @cons p q ps qs h t =>
      obtain ⟨us, e, ru⟩ := vals_zip (by simpa using hl) t
      obtain ⟨k', u⟩ := q
      obtain rfl : k = k' := h.1
      exact ⟨u :: us, by rw [e]; rfl, .cons h.2 ru⟩
  | [], _ :: _, _, hl, _ => by simp at hl
  | _ :: _, [], _, hl, _ => by simp at hl
theorem keyP_reads {h : Heap} (k : Key) (v : Value) (e : (mixKind X.prog X.w).is k v = true) : Reads h v (keyP k) [] := by
  rcases keyIs_shape e with ⟨i, t, rfl, rfl⟩ | ⟨x, t, rfl, rfl⟩
  · exact .int i t
  · exact .str x t
theorem DpKs.len : ∀ {ks : List Key} {xs : List V} (kvs : List (PyData × PyData)), DpKs X.K H ks xs kvs → ks.length = xs.length
  | _, _, [], h => by cases h; rfl
  | _, _, (_, _) :: kvs, h => by
    cases h with
    | cons h1 h2 => simp [DpKs.len kvs h2]
mutual
theorem DpX.reads (I : Inv X pins σ H s) : ∀ (d : PyData) (v : V) (u : Value), DpX X.K H v d → RelV v u → ∃ as, Reads s.heap u d as ∧ (hasL d = false → sysModules ∉ as)
  | .none, _, _, h, r => by cases h; cases r; exact ⟨_, Reads.none, fun _ => List.not_mem_nil⟩
  | .bool b, _, _, h, r => by cases h; cases r; exact ⟨_, Reads.bool b, fun _ => List.not_mem_nil⟩
  | .int i, _, _, h, r => by cases h; obtain ⟨t, rfl⟩ := r; exact ⟨_, Reads.int i t, fun _ => List.not_mem_nil⟩
  | .str x, _, _, h, r => by cases h; obtain ⟨t, rfl⟩ := r; exact ⟨_, Reads.str x t, fun _ => List.not_mem_nil⟩
  | .list ds, _, _, h, r => by
    cases h with
    | lst hs ha =>
      cases r
      obtain ⟨its, rv, ⟨o, n, ho, hc, _, hd⟩, _⟩ := I.list hs
      obtain ⟨as, hr, hn⟩ := DpXs.reads I ds _ its ha rv
      exact ⟨_, Reads.list ho hc hd hr, fun q => by simp [hasL] at q⟩
  | .tuple ds, _, _, h, r => by
    cases h with
    | tup hs ha =>
      cases r
      obtain ⟨its, rv, ⟨o, ho, hc, n, hd⟩, _⟩ := I.tuple hs
      obtain ⟨as, hr, hn⟩ := DpXs.reads I ds _ its ha rv
      exact ⟨_, Reads.tuple ho hc hd hr, fun q => hn (by simpa [hasL] using q)⟩
  | .dict kvs, _, _, h, r => by
    cases h with
    | @dct a ks xs kvs e ha =>
      cases r
      obtain ⟨_, hne, vs, rk, dd⟩ := (show ObjOk X.prog X.w H s.heap a (.dK (ks.zip xs)) from I.hok a _ e)
      obtain ⟨us, rfl, ru⟩ := vals_zip (DpKs.len kvs ha) rk
      obtain ⟨bs, hp, hn⟩ := DpKs.pairs I kvs ks xs us ha ru
      refine ⟨_, PyProof.V.reads_dictOf (knd := mixKind X.prog X.w) (enc := keyP) (fun k key hk => keyP_reads k key hk) dd hp, fun q hm => ?_⟩
      rcases List.mem_cons.mp hm with e2 | hm
      · rw [e2, beq_self_eq_true] at hne
        cases hne
      · exact hn (by simpa [hasL] using q) hm
theorem DpXs.reads (I : Inv X pins σ H s) : ∀ (ds : List PyData) (vs : List V) (us : List Value), DpXs X.K H vs ds → Vals vs us → ∃ as, ReadsAll s.heap us ds as ∧ (hasLs ds = false → sysModules ∉ as)
  | [], _, _, h, r => by cases h; cases r; exact ⟨_, ReadsAll.nil, fun _ => List.not_mem_nil⟩
  | d :: ds, _, _, h, r => by
    cases h with
    | cons h1 h2 =>
      cases r with
      | cons r1 r2 =>
        obtain ⟨as, q1, n1⟩ := DpX.reads I d _ _ h1 r1
        obtain ⟨bs, q2, n2⟩ := DpXs.reads I ds _ _ h2 r2
        exact ⟨_, ReadsAll.cons q1 q2, fun q hm => by
          simp only [hasLs, Bool.or_eq_false_iff] at q
          exact (List.mem_append.mp hm).elim (n1 q.1) (n2 q.2)⟩
theorem DpKs.pairs (I : Inv X pins σ H s) : ∀ (kvs : List (PyData × PyData)) (ks : List Key) (vs : List V) (us : List Value), DpKs X.K H ks vs kvs → Vals vs us → ∃ as, PyProof.V.PairsRead s.heap keyP (ks.zip us) kvs as ∧ (hasLk kvs = false → sysModules ∉ as)
  | [], _, _, _, h, r => by cases h; cases r; exact ⟨_, .nil, fun _ => List.not_mem_nil⟩
  | (kp, d) :: kvs, _, _, _, h, r => by
    cases h with
    | cons h1 h2 =>
      cases r with
      | cons r1 r2 =>
        obtain ⟨as, q1, n1⟩ := DpX.reads I d _ _ h1 r1
        obtain ⟨bs, q2, n2⟩ := DpKs.pairs I kvs _ _ _ h2 r2
        exact ⟨_, .cons q1 q2, fun q hm => by
          simp only [hasLk, Bool.or_eq_false_iff] at q
          exact (List.mem_append.mp hm).elim (n1 q.1) (n2 q.2)⟩
end
end
/-! data of any kind as PyData -/
mutual
def pyX : D → Option PyData
  | .non => some .none
  | .bl b => some (.bool b)
  | .int i => some (.int i)
  | .str x => some (.str x)
  | .tup xs => (pyXs xs).map .tuple
  | .wt xs => (pyXs xs).map .tuple
  | .lst xs => (pyXs xs).map .list
  | .wl xs => (pyXs xs).map .list
  | .dct ks xs => if ks.length = xs.length then (pyXs xs).map fun ps => .dict ((ks.map keyP).zip ps) else none
  | .ref _ => none
  | .ty _ => none
  | .adr _ => none
  | .err _ _ => none
def pyXs : List D → Option (List PyData)
  | [] => some []
  | d :: ds => match pyX d, pyXs ds with
    | some p, some ps => some (p :: ps)
    | _, _ => none
end
def pyXS (S : Sto) : D → Option PyData
  | .ref k => (itemsOf S (.ref k)).bind fun xs => (pyXs xs).map .list
  | d => pyX d
section
variable {K : PySem.W.Frag} {w : Wd} {S : Sto} {H : Hp}
theorem dpKs_of : ∀ {ks : List Key} {vs : List V} {ps : List PyData}, ks.length = vs.length → DpXs K H vs ps → DpKs K H ks vs ((ks.map keyP).zip ps)
  | [], _, _, hl, h => by
    cases h with
    | nil => exact .nil
    | cons _ _ => simp at hl
  | k :: ks, _, _, hl, h => by
    cases h with
    | nil => simp at hl
    | cons h1 h2 => exact .cons h1 (dpKs_of (by simpa using hl) h2)
mutual
theorem dpX_of (s : Same w.G H) : ∀ {d : D} {v : V} {p : PyData}, Rep K w v d → pyX d = some p → DpX K H v p
  | .non, _, _, r, e => by cases r; simp only [pyX] at e; cases e; exact .non
  | .bl _, _, _, r, e => by cases r; simp only [pyX] at e; cases e; exact .bl _
  | .int _, _, _, r, e => by cases r; simp only [pyX] at e; cases e; exact .int _
  | .str _, _, _, r, e => by cases r; simp only [pyX] at e; cases e; exact .str _
  | .tup xs, _, _, r, e => by
    cases r with
    | tup h1 h2 =>
      simp only [pyX] at e
      obtain ⟨ps, e1, rfl⟩ := map_some e
      exact .tup (SqT.of (s _ _ h1)) (dpXs_of s h2 e1)
  | .wt xs, _, _, r, e => by
    cases r with
    | wt h1 h2 =>
      simp only [pyX] at e
      obtain ⟨ps, e1, rfl⟩ := map_some e
      exact .tup (seqT s h1) (dpXs_of s h2 e1)
  | .lst xs, _, _, r, e => by
    cases r with
    | lst h1 h2 =>
      simp only [pyX] at e
      obtain ⟨ps, e1, rfl⟩ := map_some e
      exact .lst (SqL.of (s _ _ h1)) (dpXs_of s h2 e1)
  | .wl xs, _, _, r, e => by
    cases r with
    | wl h1 h2 =>
      simp only [pyX] at e
      obtain ⟨ps, e1, rfl⟩ := map_some e
      exact .lst (s.seq h1) (dpXs_of s h2 e1)
  | .dct ks xs, _, _, r, e => by
    cases r with
    | dct h1 hl h2 =>
      simp only [pyX] at e
      rw [if_pos hl] at e
      obtain ⟨ps, e1, rfl⟩ := map_some e
      exact .dct (s _ _ h1) (dpKs_of (by rw [h2.length]; exact hl) (dpXs_of s h2 e1))
  | .ref _, _, _, _, e => by simp [pyX] at e
  | .ty _, _, _, _, e => by simp [pyX] at e
  | .adr _, _, _, _, e => by simp [pyX] at e
  | .err _ _, _, _, _, e => by simp [pyX] at e
theorem dpXs_of (s : Same w.G H) : ∀ {ds : List D} {vs : List V} {ps : List PyData}, RepA K w vs ds → pyXs ds = some ps → DpXs K H vs ps
  | [], _, _, r, e => by
    cases r
    simp only [pyXs] at e
    cases e
    exact .nil
  | d :: ds, _, _, r, e => by
    cases r with
    | cons r1 r2 =>
      simp only [pyXs] at e
      cases e1 : pyX d with
      | none => rw [e1] at e; cases e
      | some p =>
        cases e2 : pyXs ds with
        | none => rw [e1, e2] at e; cases e
        | some ps =>
          rw [e1, e2] at e
          cases e
          exact .cons (dpX_of s r1 e1) (dpXs_of s r2 e2)
end
theorem dpXS_of {d : D} {v : V} {p : PyData} (z : WRel K w S H) (r : Rep K w v d) (e : pyXS S d = some p) : DpX K H v p := by
  cases d with
  | ref k =>
    have e' : (itemsOf S (.ref k)).bind (fun xs => (pyXs xs).map PyData.list) = some p := e
    cases he : itemsOf S (.ref k) with
    | none => rw [he] at e'; cases e'
    | some xs =>
      rw [he] at e'
      obtain ⟨ps, e1, rfl⟩ := map_some (show (pyXs xs).map PyData.list = some p from e')
      obtain ⟨a, vs, rfl, ra, hs⟩ := items_list z r he rfl
      exact .lst hs (dpXs_of z.same ra e1)
  | _ => exact dpX_of z.same r e
end
def reprOkX (p : PyData) : Bool := p.showable && (!p.hasDict || !hasL p) && decide (p.depth ≤ 60) && decide (p.shown.length ≤ sizeLine)
def fReprX : C3 := c1 fun d S => match pyXS S d with
  | some p => if reprOkX p then .ok (.str p.shown) S else .bad
  | none => .bad
def rReprX (K : PySem.W.Frag) : List V → Hp → VK → Prop := fun xs H Q => ∃ x p, xs = [x] ∧ DpX K H x p ∧ reprOkX p = true ∧ Q (.str p.shown) H
theorem fReprX_s {K : PySem.W.Frag} : CallS K (rReprX K) fReprX := c1_s fun W sv w u d S H Q z r q => by
  cases e : pyXS S d with
  | none => simp only [e] at q; exact False.elim q
  | some p =>
    simp only [e] at q
    by_cases h : reprOkX p = true
    · rw [if_pos h] at q
      exact ⟨u, p, rfl, dpXS_of z r e, h, q.at_ z (.str _)⟩
    · rw [if_neg h] at q; exact False.elim q
theorem call_reprX {X : Cx} (hg : X.A.guards = some []) (hu : X.A.units + 64 < cLine) : CallR X (.builtin "repr") (rReprX X.K) := by
  intro pins s σ H xs us Q I r h
  obtain ⟨x, p, rfl, dp, ok, q⟩ := h
  obtain ⟨u, rfl, ru⟩ := vals1 r
  unfold reprOkX at ok
  simp only [Bool.and_eq_true, Bool.or_eq_true, Bool.not_eq_true', decide_eq_true_eq] at ok
  obtain ⟨⟨⟨h1, h2⟩, h3⟩, h4⟩ := ok
  obtain ⟨as, rd, hn⟩ := DpX.reads I p x u dp ru
  have fin : ∀ (h' : Heap) (t : Tok) (tk : Nat), (∀ b o, s.heap.get? b = some o → h'.get? b = some o) → EP X pins σ Q (.str p.shown t) { s with heap := h', toks := tk } := fun h' t tk k => ⟨.str p.shown, H, I.kept k, ⟨t, rfl⟩, q⟩
  have refCase : ∀ a, u = .ref a → wpAny (model X.prog X.w) X.A (call (.builtin "repr") [u]) (EP X pins σ Q) X.xe s := fun a e => by
    subst e
    exact repr_of_reads' rd h1 (fun hd => hn (h2.resolve_left fun z => by rw [hd] at z; cases z)) hg (by omega) (fun _ _ e => e) (fun h' t tk k => fin h' t tk k) h4
  cases dp with
  | non => cases ru; exact PySem.P.repr_of_none (fin _ _ _ fun _ _ e => e)
  | bl b =>
    cases ru
    refine PySem.P.repr_of_bool ?_
    have := fin s.heap s.toks (s.toks + 1) fun _ _ e => e
    simpa only [PyData.shown] using this
  | int i =>
    obtain ⟨t, rfl⟩ := ru
    refine PySem.P.repr_of_int (by simpa only [PyData.showable, decide_eq_true_eq] using h1) ?_
    have := fin s.heap s.toks (s.toks + 1) fun _ _ e => e
    simpa only [PyData.shown] using this
  | str y =>
    obtain ⟨t, rfl⟩ := ru
    refine PySem.P.repr_of_str ?_ (by simpa only [PyData.shown] using h4)
    have := fin s.heap s.toks (s.toks + 1) fun _ _ e => e
    simpa only [PyData.shown] using this
  | lst _ _ => exact refCase _ ru
  | tup _ _ => exact refCase _ ru
  | dct _ _ => exact refCase _ ru
end DL
namespace DL
open PySem PySem.Spec PyProof.Rows L2
open Classical in
/-- the table of isinstance, as the text's classes have it -/
noncomputable def kitK (K : PySem.W.Frag) : Addr → Value → Option Bool := fun C v => if ExcC K C then PySem.W.kitOne K (.ref C) v else none
theorem kitK_s {K : PySem.W.Frag} : KitS K (kitK K) := fun C v b h => by
  unfold kitK at h
  split at h
  · exact ⟨by assumption, h⟩
  · cases h
theorem kitK_at {K : PySem.W.Frag} {C : Addr} {v : Value} {b : Bool} (F : ExcC K C) (h : PySem.W.kitOne K (.ref C) v = some b) : kitK K C v = some b := by
  unfold kitK
  rw [if_pos F]
  exact h
theorem kit_own {K : PySem.W.Frag} {C P : Addr} {b : Bool} (hd : PySem.W.hasDictIn K P = true) (ht : PySem.W.typeIn K (.ref P) = some (.type "type")) (hs : PySem.W.subIn K (.ref C) (.ref C) = some true) (h : PySem.W.subIn K (.ref C) (.ref P) = some b) :
    PySem.W.kitOne K (.ref C) (.ref P) = some b := by
  have hc : (PySem.W.clsIn K P).isSome = true := by
    obtain ⟨cd, hc, _⟩ := PySem.W.any_some hd
    rw [hc]
    rfl
  unfold PySem.W.kitOne
  by_cases e : C = P
  · subst e; rw [if_pos (beq_self_eq_true _)]; exact hs.symm.trans h
  · rw [if_neg (by rw [beq_iff_eq]; intro q; exact e (Value.ref.inj q))]
    unfold PySem.W.kitCls
    simp only [hc, ht, Bool.true_and]
    rw [if_pos (by simp)]
    exact h
theorem kit_ve {K : PySem.W.Frag} {C : Addr} {b : Bool} (h : PySem.W.subIn K (.ref C) (.type "ValueError") = some b) : PySem.W.kitOne K (.ref C) (.type "ValueError") = some b := by
  unfold PySem.W.kitOne
  rw [if_neg (by simp)]
  show (if PySem.W.kitMeta "ValueError" = true then PySem.W.subIn K (.ref C) (.type "ValueError") else none) = some b
  rw [if_pos (by decide +kernel)]
  exact h
end DL
/-! how these are reckoned -/
namespace DL
open PySem PySem.Spec PyProof.Rows L2
def try1 (exm : Addr → Addr → Option Bool) (P : Addr) (i j : Nat) (r : Rt) : Rt := match r with
  | .exc C none σ1 S1 => if exm C P = some true then .go .next (((σ1.set i (some (.err C none))).set j (some (.err C none))).set i none) S1 else .bad
  | .exc _ (some _) _ _ => .bad
  | r => r
@[simp] theorem mTry_ev (exm : Addr → Addr → Option Bool) (P : Addr) (i j : Nat) (m : S3) (σ : Loc) (S : Sto) : mTry exm P i j m σ S = try1 exm P i j (m σ S) := by
  unfold mTry try1
  rfl
@[simp] theorem try1_next (exm : Addr → Addr → Option Bool) (P : Addr) (i j : Nat) (σ : Loc) (S : Sto) : try1 exm P i j (.go .next σ S) = .go .next σ S := rfl
@[simp] theorem try1_ret (exm : Addr → Addr → Option Bool) (P : Addr) (i j : Nat) (d : D) (σ : Loc) (S : Sto) : try1 exm P i j (.go (.ret d) σ S) = .go (.ret d) σ S := rfl
@[simp] theorem try1_exc (exm : Addr → Addr → Option Bool) (P C : Addr) (i j : Nat) (σ : Loc) (S : Sto) (h : exm C P = some true) : try1 exm P i j (.exc C none σ S) = .go .next (((σ.set i (some (.err C none))).set j (some (.err C none))).set i none) S := if_pos h
@[simp] theorem mRaise_ev (C : Addr) (σ : Loc) (S : Sto) : mRaise C σ S = .exc C none σ S := rfl
@[simp] theorem finX_self (S : Sto) (C : Addr) (p : Pay) : finX S C p S = .exc C p S := if_pos rfl
@[simp] theorem expr1_exc (C : Addr) (p : Pay) (σ : Loc) (S : Sto) : expr1 σ (.exc C p S) = .exc C p σ S := rfl
@[simp] theorem asg1_exc (g : G3) (C : Addr) (p : Pay) (σ : Loc) (S : Sto) : asg1 g σ (.exc C p S) = .exc C p σ S := rfl
@[simp] theorem ret1_exc (C : Addr) (p : Pay) (σ : Loc) (S : Sto) : ret1 σ (.exc C p S) = .exc C p σ S := rfl
@[simp] theorem cons1_exc (b : A3) (σ : Loc) (C : Addr) (p : Pay) (S : Sto) : cons1 b σ (.exc C p S) = .exc C p S := rfl
@[simp] theorem cons2_exc (d : D) (C : Addr) (p : Pay) (S : Sto) : cons2 d (.exc C p S) = .exc C p S := rfl
@[simp] theorem make1_exc (f : C3) (C : Addr) (p : Pay) (S : Sto) : make1 f (.exc C p S) = .exc C p S := rfl
def dct1 (ks : List Key) (r : Rs (List D)) : Rs D := match r with
  | .ok ds S1 => if ks.length = ds.length then .ok (.dct ks ds) S1 else .bad
  | _ => .bad
@[simp] theorem mDct_ev (ks : List Key) (a : A3) (σ : Loc) (S : Sto) : mDct ks a σ S = dct1 ks (a σ S) := by
  unfold mDct dct1
  rfl
@[simp] theorem dct1_ev (ks : List Key) (ds : List D) (S : Sto) (h : ks.length = ds.length) : dct1 ks (.ok ds S) = .ok (.dct ks ds) S := if_pos h
theorem isiX_one {kit : Addr → Value → Option Bool} {C P : Addr} {b : Bool} {S : Sto} (h : kit C (.ref P) = some b) : fIsiX kit [.err C none, .adr P] S = .ok (.bl b) S := by
  show isiX kit (.err C none) (.adr P) S = _
  simp only [isiX, clsOf, h]
theorem isiX_ty {kit : Addr → Value → Option Bool} {C : Addr} {n : String} {b : Bool} {S : Sto} (h : kit C (.type n) = some b) : fIsiX kit [.err C none, .ty n] S = .ok (.bl b) S := by
  show isiX kit (.err C none) (.ty n) S = _
  simp only [isiX, clsOf, h]
theorem isiX_tup {kit : Addr → Value → Option Bool} {C : Addr} {ds : List D} {v : Value} {vs : List Value} {b : Bool} {S : Sto} (hv : clssOf ds = some (v :: vs)) (h : kitG kit C (v :: vs) = some b) : fIsiX kit [.err C none, .tup ds] S = .ok (.bl b) S := by
  show isiX kit (.err C none) (.tup ds) S = _
  simp only [isiX, hv, h]
end DL
end

section
set_option Elab.async false
set_option linter.all false
set_option maxRecDepth 100000
set_option maxHeartbeats 4000000
/-! a sign in a text -/
namespace DL
open PySem PySem.Spec PyProof.Rows L2
/-- one sign and a text -/
def rSign : R2 := fun x y H Q => ∃ (c : Nat) (z : Str), x = .str ⟨#[c]⟩ ∧ y = .str z ∧ Q (.bl (decide (c ∈ z.cps.toList))) H
theorem op_sign {X : Cx} : OpR X (compareOp .In) rSign := op_in_sign
def oInS : O3 := fun d e S => match d with
  | .str x => (match e with
    | .str z => (match x.cps.toList with
      | [c] => .ok (.bl (decide (c ∈ z.cps.toList))) S
      | _ => .bad)
    | _ => .bad)
  | _ => .bad
section
variable {K : PySem.W.Frag}
theorem oInS_s : OpS K rSign oInS := by
  intro W sv w u v d e S H Q z r1 r2 q
  cases d with
  | str x =>
    cases e with
    | str y =>
      cases r1
      cases r2
      unfold oInS at q
      cases hx : x.cps.toList with
      | nil => simp only [hx] at q; exact False.elim q
      | cons c cs =>
        cases cs with
        | nil =>
          simp only [hx] at q
          have e : x = ⟨#[c]⟩ := by
            cases x with
            | mk cps =>
              cases cps with
              | mk l => simp only at hx; rw [hx]
          exact ⟨c, y, by rw [e], rfl, q.at_ z (.bl _)⟩
        | cons c2 cs => simp only [hx] at q; exact False.elim q
    | _ => exact False.elim q
  | _ => exact False.elim q
end
theorem oInS_ev (c : Nat) (z : Str) (S : Sto) : oInS (.str ⟨#[c]⟩) (.str z) S = .ok (.bl (decide (c ∈ z.cps.toList))) S := rfl
end DL
end

section
set_option Elab.async false
set_option linter.all false
set_option maxRecDepth 100000
set_option maxHeartbeats 4000000
/-! a tuple told several times -/
namespace DL
open PySem PySem.Spec PyProof.Rows L2
def oMulT : O3 := fun d e S => match e with
  | .int k => guard (isTupD d && (decide (2 ≤ k) && decide (k ≤ 1000))) (withItems d S fun xs => guard (!xs.isEmpty && decide (xs.length ≤ 1000)) (mkTup (List.replicate k.toNat xs).flatten S))
  | _ => .bad
theorem oMulT_s {K : PySem.W.Frag} : OpS K (rRepT K) oMulT := by
  intro W sv w u v d e S H Q z r1 r2 q
  cases e with
  | int k =>
    cases r2
    have q : Hold K W sv (Rep K) w Q (guard (isTupD d && (decide (2 ≤ k) && decide (k ≤ 1000))) (withItems d S fun xs => guard (!xs.isEmpty && decide (xs.length ≤ 1000)) (mkTup (List.replicate k.toNat xs).flatten S))) := q
    obtain ⟨hg, q⟩ := guard_s q
    simp only [Bool.and_eq_true, decide_eq_true_eq] at hg
    obtain ⟨xs, _, _, he, _, _, _, q⟩ := withItems_s z r1 q
    obtain ⟨hz, q⟩ := guard_s q
    simp only [Bool.and_eq_true, decide_eq_true_eq, Bool.not_eq_true'] at hz
    obtain ⟨a, vs, rfl, ra, hs⟩ := items_tup z r1 he hg.1
    refine ⟨a, k, vs, rfl, rfl, hs, fun e0 => ?_, hg.2.1, hg.2.2, by rw [ra.length]; exact hz.2, (mkTup_s q z (rep_vals ra _)).2⟩
    have l := ra.length
    rw [e0, List.length_nil] at l
    rw [List.eq_nil_of_length_eq_zero l.symm] at hz
    exact Bool.noConfusion hz.1
  | _ => exact False.elim q
theorem oMulT_ev {xs : List D} {k : Nat} {S : Sto} (h0 : xs ≠ []) (h1 : xs.length ≤ 1000) (k2 : 2 ≤ k) (k3 : k ≤ 1000) : oMulT (.tup xs) (.int k) S = .ok (.tup (List.replicate k xs).flatten) S := by
  show guard _ (guard _ (mkTup _ S)) = _
  rw [guard_ev (by simp only [isTupD, Bool.and_eq_true, decide_eq_true_eq, Bool.true_and]; omega), guard_ev (by
    rw [Bool.and_eq_true, decide_eq_true_eq]
    refine ⟨?_, h1⟩
    cases xs with
    | nil => exact absurd rfl h0
    | cons _ _ => rfl)]
  rw [Int.toNat_natCast]
  refine mkTup_ev ?_
  rw [List.length_flatten, List.map_replicate, List.sum_replicate_nat]
  have : k * xs.length ≤ 1000 * 1000 := Nat.mul_le_mul k3 h1
  omega
end DL
end

section
set_option Elab.async false
set_option linter.all false
set_option maxRecDepth 100000
set_option maxHeartbeats 4000000
/-! a text's signs as a list -/
namespace L2
open PySem PySem.Spec PyProof.Rows
def rListS : List V → Hp → VK → Prop := fun xs H Q => ∃ x : Str, xs = [.str x] ∧ x.cps.size ≤ 1000 ∧ ∀ q, H q = none → Q (.ref q) (upd H q (.lst (x.cps.toList.map fun c => .str ⟨#[c]⟩)))
theorem call_listS {X : Cx} (hc : X.calm = true) : CallR X (.type "list") rListS := by
  intro pins s σ H xs us Q I r h
  obtain ⟨x, rfl, hz, q⟩ := h
  obtain ⟨u, rfl, t, rfl⟩ := vals1 r
  refine call_list_str (I.ok.hd hc) x t (fun h' tk acc' c' hkeep hS hacc => ?_) (by rw [sizeLine_eq]; omega)
  have el : acc'.toList.length = acc'.size := by simp
  refine ⟨.ref s.heap.objs.size, upd H s.heap.objs.size (.lst (x.cps.toList.map fun c => .str ⟨#[c]⟩)), I.laid hkeep (Nat.le_refl _) (show ObjOk X.prog X.w _ _ _ (.lst (x.cps.toList.map fun c => .str ⟨#[c]⟩)) from ⟨?_, acc'.toList, c', ?_, ?_⟩), rfl, q _ (I.hok.fresh (Nat.le_refl _))⟩
  · rw [List.length_map, sizeLine_eq, Array.length_toList]; omega
  · refine vals_of_at (by rw [List.length_map, el, hacc.1, Array.length_toList]) fun j y w h1 h2 => ?_
    obtain ⟨c, u, hcj, hw⟩ := hacc.2 j w (by rw [← Array.getElem?_toList]; exact h2)
    rw [List.getElem?_map, Array.getElem?_toList, hcj] at h1
    cases h1
    exact ⟨u, hw⟩
  · simpa using hS
end L2
namespace DL
open PySem PySem.Spec PyProof.Rows L2
def fListS : C3 := c1 fun d S => match d with
  | .str x => guard (decide (x.cps.size ≤ 1000)) (mkLst (chD x) S)
  | _ => .bad
section
variable {K : PySem.W.Frag}
theorem signs_rep {w : Wd} : ∀ l : List Nat, RepA K w (l.map fun c => V.str ⟨#[c]⟩) (l.map fun c => D.str ⟨#[c]⟩)
  | [] => .nil
  | c :: l => .cons (.str _) (signs_rep l)
theorem fListS_s : CallS K rListS fListS := c1_s fun W sv w u d S H Q z r q => by
  cases d with
  | str x =>
    cases r
    obtain ⟨hz, q⟩ := guard_s q
    exact ⟨x, rfl, of_decide_eq_true hz, (mkLst_s q z (signs_rep x.cps.toList)).2⟩
  | _ => exact False.elim q
end
theorem fListS_ev {x : Str} {S : Sto} (h : x.cps.size ≤ 1000) : fListS [.str x] S = .ok (.lst (chD x)) S := by
  show guard _ (mkLst (chD x) S) = _
  rw [guard_ev (decide_eq_true h)]
  refine mkLst_ev ?_
  unfold chD
  rw [List.length_map, Array.length_toList]
  omega
end DL
end

section
set_option Elab.async false
set_option linter.all false
set_option maxRecDepth 100000
set_option maxHeartbeats 4000000
/-! xs[1::-1] of a tuple of two items or more -/
namespace HT
open PySem PySem.Spec PyProof.Rows L2
section
variable {prog : Program} {w : World} {A : Around} {E : Value → Shared → Prop} {s : Shared}
theorem sliceApplied_two {sl : Addr} {vl vu vs : Value} {n : Nat} {Q : Int × Int × Nat → Shared → Prop} (hs : s.heap.IsSliceOf sl vl vu vs) (pl : IsPart vl (some 1)) (pu : IsPart vu none) (ps : IsPart vs (some (-1)))
    (hn : 2 ≤ n) (h : Q (1, -1, 2) s) : wpAny (model prog w) A (Builtin.Slice.sliceApplied (.ref sl) (pure (n : Int))) Q E s := by
  obtain ⟨os, hos, hcs, hds⟩ := id hs
  unfold Builtin.Slice.sliceApplied Builtin.Slice.sliceFields
  refine wpAny_bind (wpAny_bind (wpAny_field hos hds (x := vl) rfl (wpAny_bind (wpAny_field hos hds (x := vu) rfl (wpAny_bind (wpAny_field hos hds (x := vs) rfl (wpAny_pure ?_)))))))
  refine wpAny_bind (slicePart_ ps ?_)
  show wpAny _ _ (if ((-1 : Int) == 0) = true then _ else _) _ _ s
  rw [if_neg (by decide)]
  refine wpAny_bind (slicePart_ pl (wpAny_bind (slicePart_ pu (wpAny_bind (wpAny_pure ?_)))))
  have ea : Builtin.Slice.sliceAdjust (some 1) none (-1) (n : Int) = (1, -1) := by
    unfold Builtin.Slice.sliceAdjust
    simp
    omega
  show wpAny _ _ (pure ((Builtin.Slice.sliceAdjust (some 1) none (-1) (n : Int)).1, (-1 : Int), Builtin.Slice.slicePlaces (Builtin.Slice.sliceAdjust (some 1) none (-1) (n : Int)).1 (Builtin.Slice.sliceAdjust (some 1) none (-1) (n : Int)).2 (-1))) _ _ s
  rw [ea]
  exact wpAny_pure h
theorem getItem_tuple_two {t sl : Addr} {items : Array Value} {vl vu vs a b : Value} {r : List Value} {Q : Value → Shared → Prop} (ht : IsTup s.heap t items) (hs : s.heap.IsSliceOf sl vl vu vs) (pl : IsPart vl (some 1)) (pu : IsPart vu none) (ps : IsPart vs (some (-1)))
    (hi : items.toList = a :: b :: r) (h : Q (.ref s.heap.objs.size) { s with heap := s.heap.push { cls := .type "tuple", data := .seq #[b, a] } })
    (hsz : items.size ≤ sizeLine) : wpAny (model prog w) A (getItem (.ref t) (.ref sl)) Q E s := by
  have htake : sizeOk (.seq #[b, a]) := by
    show #[b, a].size ≤ sizeLine
    rw [sizeLine_eq]
    simp
  obtain ⟨os, hos, hcs, hds⟩ := id hs
  have hTs : s.TypeIs (.ref sl) "slice" := ⟨os, hos, hcs⟩
  unfold getItem
  try with_reducible refine wpAny_holding ?_
  first | refine wpAny_bind (wpAny_pure ?_) | skip
  refine wpAny_bind (wpAny_sequenceKey ht.typeIs (by decide) ?_)
  refine wpAny_bind (wpAny_callSpecial?_slot (name := Str.ofString "__getitem__") ht.typeIs PyProof.Rows.slot_tuple_getitem
    (wpAny_call_entry PyProof.Rows.slot_tuple_getitem ht.typeIs entry_tuple_getitem ?_ (args_tuple_getitem _ _)))
  show wpAny _ _ (Builtin.Tuple.tupleItemsOf (.ref t) >>= _) _ _ s
  refine wpAny_bind (tupleItemsOf_ ht ?_)
  refine wpAny_bind (wpAny_typeOf hTs ?_)
  rw [if_pos (by decide)]
  refine wpAny_bind (sliceApplied_two hs pl pu ps (by rw [← Array.length_toList, hi]; simp) ?_)
  have hno : ¬ (((1 : Int) == 0 && (-1 : Int) == 1 && 2 == items.size) = true) := by
    intro q
    rw [Bool.and_eq_true, Bool.and_eq_true] at q
    exact absurd q.1.2 (by decide)
  have pick : ((List.range 2).filterMap fun (m : Nat) => items[((1 : Int) + (m : Int) * (-1)).toNat]?).toArray = #[b, a] := by
    have h0 : items[0]? = some a := by rw [← Array.getElem?_toList, hi]; rfl
    have h1 : items[1]? = some b := by rw [← Array.getElem?_toList, hi]; rfl
    have e0 : ((1 : Int) + ((0 : Nat) : Int) * (-1)).toNat = 1 := by decide
    have e1 : ((1 : Int) + ((1 : Nat) : Int) * (-1)).toNat = 0 := by decide
    show ((([0, 1] : List Nat).filterMap fun (m : Nat) => items[((1 : Int) + (m : Int) * (-1)).toNat]?).toArray) = _
    simp only [List.filterMap_cons, List.filterMap_nil, e0, e1, h0, h1]
  show wpAny _ _ (if ((1 : Int) == 0 && (-1 : Int) == 1 && 2 == items.size) = true then _ else _) _ _ s
  rw [if_neg hno, pick]
  first
    | exact wpAny_bind (m := Builtin.Tuple.tupleExact _) (wpAny_newObj_type (wpAny_pure ⟨_, rfl, wpAny_pure h⟩) htake)
    | exact wpAny_bind (m := Builtin.Tuple.tupleExact _) (wpAny_newObj_type (wpAny_bind (wpAny_pure (wpAny_pure ⟨_, rfl, wpAny_pure h⟩))) htake)
    | exact wpAny_bind (wpAny_bind (m := Builtin.Tuple.tupleExact _) (wpAny_newObj_type (wpAny_pure (wpAny_pure ⟨_, rfl, wpAny_pure h⟩)) htake))
    | exact wpAny_bind (wpAny_bind (m := Builtin.Tuple.tupleExact _) (wpAny_newObj_type (wpAny_pure ⟨_, rfl, wpAny_pure h⟩) htake))
end
end HT
namespace L2
open PySem PySem.Spec PyProof.Rows
section
variable {X : Cx}
def tTwoT (K : PySem.W.Frag) (te : TE) : TE := fun σ H Q => te σ H fun x H1 => ∃ a y1 y2 ys, x = .ref a ∧ SqT K H1 a (y1 :: y2 :: ys) ∧ ∀ p, H1 p = none → Q (.ref p) (upd H1 p (.tup [y2, y1]))
theorem pe_twoT {e : Expr} {te : TE} {k k0 : Nat} {p0 p1 p2 p3 pos : Pos} (he : PE X e te) : PE X (.Subscript e (.Slice (some (.Constant (.int 1) k0 p0)) none (some (.UnaryOp .USub (.Constant (.int 1) k p1) p2)) p3) pos) (tTwoT X.K te) := by
  refine ⟨fun pins s σ H Q I h => ?_⟩
  refine Subscript_ (thn (he.run pins s σ H _ I h) fun v s1 ⟨x, H1, I1, r1, q1⟩ => ?_)
  obtain ⟨a, y1, y2, ys, ex, hx, q⟩ := q1
  subst ex
  cases r1
  have hst : PO X (some (.UnaryOp .USub (.Constant (.int 1) k p1) p2)) (tPart (tUn (rU fun i => .int (-i)) (tC (.int 1)))) := po_some (pe_un un_neg pe_int)
  have hlo : PO X (some (.Constant (.int 1) k0 p0)) (tPart (tC (.int 1))) := po_some pe_int
  refine wpAny_Slice (thn (hlo.run pins s1 σ H1 (fun o H2 => o = some 1 ∧ H2 = H1) I1 ⟨1, rfl, rfl, rfl⟩) fun vl s2 ⟨l, H2, I2, pl, el, e2⟩ => ?_)
  subst el e2
  refine thn (po_none.run pins s2 σ H2 (fun o H3 => o = none ∧ H3 = H2) I2 ⟨rfl, rfl⟩) fun vu s3 ⟨u, H3, I3, pu, eu, e3⟩ => ?_
  subst eu e3
  refine thn (hst.run pins s3 σ H3 (fun o H4 => o = some (-1) ∧ H4 = H3) I3 ⟨1, rfl, -1, rfl, rfl, rfl⟩) fun vs s4 ⟨o, H4, I4, ps, eo, e4⟩ => ?_
  subst eo e4
  have I5 : Inv X pins σ H4 { s4 with heap := s4.heap.push { cls := .type "slice", data := .fields #[vl, vu, vs] } } := I4.kept (t' := s4.toks) fun b ob q => Heap.get?_push_of_some _ q
  obtain ⟨its, r, ht, hz⟩ := I5.tuple hx
  have hlen := r.length
  cases r with
  | cons r1 r =>
    cases r with
    | cons r2 r =>
      show wpAny (model X.prog X.w) X.A (subscriptTail e (.Slice (some (.Constant (.int 1) k0 p0)) none (some (.UnaryOp .USub (.Constant (.int 1) k p1) p2)) p3) (.ref a) (.ref s4.heap.objs.size)) (EP X pins σ Q) X.xe { s4 with heap := s4.heap.push { cls := .type "slice", data := .fields #[vl, vu, vs] } }
      refine tail_any (ops := [.ref a, .ref s4.heap.objs.size]) ht.typeIs (PyProof.Rows.slot_tuple_getitem.lookup) ?_ (by with_unfolding_all rfl)
      refine HT.getItem_tuple_two ht (Heap.IsSliceOf.new _ vl vu vs) pl pu ps rfl ?_ (by rw [List.size_toArray]; omega)
      refine ⟨.ref _, _, I5.laid (t' := s4.toks) (o := .tup [y2, y1]) (fun b ob q => Heap.get?_push_of_some _ q) (Nat.le_refl _) ?_, rfl, q _ (I5.hok.fresh (Nat.le_refl _))⟩
      exact ⟨by rw [sizeLine_eq]; simp, _, .cons r2 (.cons r1 .nil), IsTup.new _ _⟩
end
end L2
namespace DL
open PySem PySem.Spec PyProof.Rows L2
/-- the first two, the other way round -/
def twT (d : D) (S : Sto) : Rs D := if isTupD d then withItems d S fun xs => (match xs with
  | a :: b :: _ => mkTup [b, a] S
  | _ => .bad) else .bad
def mTwoT (a : E3) : E3 := fun σ S => (a σ S).bind twT
theorem e_twoT {X : Cx} {W : WX} {e : Expr} {me : E3} {k k0 : Nat} {p0 p1 p2 p3 pos : Pos} (h : PE3 X W e me) : PE3 X W (.Subscript e (.Slice (some (.Constant (.int 1) k0 p0)) none (some (.UnaryOp .USub (.Constant (.int 1) k p1) p2)) p3) pos) (mTwoT me) :=
  PE.imp (pe_twoT h) fun sv H Q ⟨w, σ, S, l, z, q⟩ => ⟨w, σ, S, l, z, Hold.step q fun d S1 w1 H1 u x1 z1 r1 q1 => by
    unfold twT at q1
    by_cases t : isTupD d = true
    · rw [if_pos t] at q1
      obtain ⟨xs, _, _, he, _, _, _, hk⟩ := withItems_s z1 r1 q1
      obtain ⟨a, vs, rfl, ra, hs⟩ := items_tup z1 r1 he t
      match xs, ra, hk with
      | [], _, hk => exact False.elim hk
      | [_], _, hk => exact False.elim hk
      | d1 :: d2 :: ds, .cons ra1 (.cons ra2 ra3), hk => exact ⟨a, _, _, _, rfl, hs, (mkTup_s hk z1 (.cons ra2 (.cons ra1 .nil))).2⟩
    · rw [if_neg t] at q1; exact False.elim q1⟩
def twt1 (r : Rs D) : Rs D := r.bind twT
@[simp] theorem mTwoT_ev (a : E3) (σ : Loc) (S : Sto) : mTwoT a σ S = twt1 (a σ S) := rfl
theorem twt1_tup (a b : D) (xs : List D) (S : Sto) : twt1 (.ok (.tup (a :: b :: xs)) S) = .ok (.tup [b, a]) S := rfl
end DL
end

section
set_option Elab.async false
set_option linter.all false
set_option maxRecDepth 100000
set_option maxHeartbeats 4000000
/-! repr where a list stands at sys.modules' place: then no dict does -/
namespace DL
open PySem PySem.Spec PyProof.Rows L2
section
variable {prog : Program} {w : World} {h : Heap}
/-- a list stands there -/
def LAt (h : Heap) : Prop := ∃ o, h.get? sysModules = some o ∧ o.cls = .type "list"
theorem LAt.no (L : LAt h) {a : Addr} {o : Obj} (e : h.get? a = some o) (c : o.cls = .type "dict") : (a == sysModules) = false := by
  obtain ⟨o', e', c'⟩ := L
  refine beq_eq_false_iff_ne.mpr fun q => ?_
  subst q
  rw [e] at e'
  cases e'
  rw [c] at c'
  exact absurd c' (by decide)
mutual
theorem repK (L : LAt h) : ∀ {v : Value} {d : PyData} {as : List Addr}, Reads h v d as → d.showable = true → d.shown.length ≤ sizeLine → ∃ bs, ReadAtMost h d.depth bs ∧ ReprK prog w bs h d.depth v d.shown
  | _, _, _, .none, _, _ => ⟨[], (fun _ k => nomatch k), by simp only [PyData.shown]; exact .of_is ReprIs.none _ _ _⟩
  | _, _, _, .bool b, _, _ => ⟨[], (fun _ k => nomatch k), by simp only [PyData.shown]; exact .of_is (ReprIs.bool b) _ _ _⟩
  | _, _, _, .int i t, sh, _ => ⟨[], (fun _ k => nomatch k), by simp only [PyData.shown]; exact .of_is (ReprIs.int t (by simpa [PyData.showable] using sh)) _ _ _⟩
  | _, _, _, .str x t, _, z => ⟨[], (fun _ k => nomatch k), by simp only [PyData.shown]; exact .of_is (ReprIs.str x t (by simpa only [PyData.shown] using z)) _ _ _⟩
  | _, _, _, .list (a := a) (vs := vs) (xs := xs) g1 g2 g3 g4, sh, z => by
    have z2 : (listText (PyData.shownAll xs)).length ≤ sizeLine := by simpa only [PyData.shown] using z
    obtain ⟨bs, hb, hk⟩ := repAllK L g4 (by simpa [PyData.showable] using sh) fun t ht => Nat.le_trans (listText_mem_le ht) z2
    have r : Reads h (.ref a) (.list xs) _ := .list g1 g2 g3 g4
    have na : a ∉ bs := not_mem_of_deeper r (by simp only [PyData.depth]; omega) hb
    refine ⟨a :: bs, ReadAtMost.cons r (by simp only [PyData.depth]; omega) hb, ?_⟩
    simp only [PyData.depth, PyData.shown]
    obtain ⟨l⟩ := vs
    cases l with
    | nil =>
      have g5 : ReadsAll h [] xs _ := g4
      cases g5
      simp only [PyData.shownAll, listText_nil]
      exact ReprK.listEmpty g1 g2 g3
    | cons x l => exact ReprK.list g1 g2 g3 na (by simpa using hk.length_eq) fun i y e => hk.item i y (by simpa using e)
  | _, _, _, .tuple (a := a) (xs := xs) g1 g2 g3 g4, sh, z => by
    have z2 : (tupleText (PyData.shownAll xs)).length ≤ sizeLine := by simpa only [PyData.shown] using z
    obtain ⟨bs, hb, hk⟩ := repAllK L g4 (by simpa [PyData.showable] using sh) fun t ht => Nat.le_trans (tupleText_mem_le ht) z2
    have r : Reads h (.ref a) (.tuple xs) _ := .tuple g1 g2 g3 g4
    have na : a ∉ bs := not_mem_of_deeper r (by simp only [PyData.depth]; omega) hb
    refine ⟨a :: bs, ReadAtMost.cons r (by simp only [PyData.depth]; omega) hb, ?_⟩
    simp only [PyData.depth, PyData.shown]
    exact ReprK.tuple g1 g2 g3 na hk
  | _, _, _, .dict (a := a) (es := es) (kvs := kvs) g1 g2 g3 g4 g5, sh, z => by
    have z2 : (dictText (PyData.shownKv kvs)).length ≤ sizeLine := by simpa only [PyData.shown] using z
    obtain ⟨s1, s2⟩ := PyData.showableKv_split kvs (by simpa [PyData.showable] using sh)
    obtain ⟨b1, hb1, k1⟩ := repAllK L g4 s1 fun t ht => let ⟨p, hp, hl⟩ := PyData.shownKv_key_le kvs t ht; Nat.le_trans hl (Nat.le_trans (dictText_mem_le hp) z2)
    obtain ⟨b2, hb2, k2⟩ := repAllK L g5 s2 fun t ht => let ⟨p, hp, hl⟩ := PyData.shownKv_val_le kvs t ht; Nat.le_trans hl (Nat.le_trans (dictText_mem_le hp) z2)
    have r : Reads h (.ref a) (.dict kvs) _ := .dict g1 g2 g3 g4 g5
    have hb : ReadAtMost h (PyData.depthKv kvs) (b1 ++ b2) := (hb1.mono (PyData.depthAll_keys_le kvs)).append (hb2.mono (PyData.depthAll_vals_le kvs))
    have na : a ∉ b1 ++ b2 := not_mem_of_deeper r (by simp only [PyData.depth]; omega) hb
    refine ⟨a :: (b1 ++ b2), ReadAtMost.cons r (by simp only [PyData.depth]; omega) hb, ?_⟩
    simp only [PyData.depth, PyData.shown, PyData.shownKv_eq]
    exact ReprK.dict g1 g2 g3 (L.no g1 g2) na (ReprEntriesK.of_two es.toList _ _
      (k1.more_le (fun b hb => List.mem_append_left _ hb) (PyData.depthAll_keys_le kvs)) (k2.more_le (fun b hb => List.mem_append_right _ hb) (PyData.depthAll_vals_le kvs)))
theorem repAllK (L : LAt h) : ∀ {vs : List Value} {ds : List PyData} {as : List Addr}, ReadsAll h vs ds as → PyData.showableAll ds = true → (∀ t ∈ PyData.shownAll ds, t.length ≤ sizeLine) →
    ∃ bs, ReadAtMost h (PyData.depthAll ds) bs ∧ ReprAllK prog w bs h (PyData.depthAll ds) vs (PyData.shownAll ds)
  | _, _, _, .nil, _, _ => ⟨[], (fun _ k => nomatch k), by simp only [PyData.shownAll]; exact .nil⟩
  | _, _, _, .cons (d := d) (ds := ds) r rs, sh, z => by
    have s2 : d.showable = true ∧ PyData.showableAll ds = true := by simpa [PyData.showableAll] using sh
    obtain ⟨b1, hb1, k1⟩ := repK L r s2.1 (z _ (by simp only [PyData.shownAll]; exact List.mem_cons_self ..))
    obtain ⟨b2, hb2, k2⟩ := repAllK L rs s2.2 fun t ht => z t (by simp only [PyData.shownAll]; exact List.mem_cons_of_mem _ ht)
    refine ⟨b1 ++ b2, fun b hm => ?_, ?_⟩
    · simp only [PyData.depthAll]
      rcases List.mem_append.mp hm with hm | hm
      · obtain ⟨d2, as2, r2, hd2⟩ := hb1 b hm
        exact ⟨d2, as2, r2, Nat.le_trans hd2 (Nat.le_max_left _ _)⟩
      · obtain ⟨d2, as2, r2, hd2⟩ := hb2 b hm
        exact ⟨d2, as2, r2, Nat.le_trans hd2 (Nat.le_max_right _ _)⟩
    · simp only [PyData.depthAll, PyData.shownAll]
      exact .cons ((k1.more fun b hb => List.mem_append_left _ hb).level_le (Nat.le_max_left _ _)) (k2.more_le (fun b hb => List.mem_append_right _ hb) (Nat.le_max_right _ _))
end

variable {a : Addr} {d : PyData} {as : List Addr}
theorem showsL (L : LAt h) (r : Reads h (.ref a) d as) (sh : d.showable = true) (z : d.shown.length ≤ sizeLine) : ∃ T idr, ShowsBy prog w h a d T idr := by
  cases r with
  | list g1 g2 g3 g4 =>
    rename_i o vs n xs bs₀
    have z2 : (listText (PyData.shownAll xs)).length ≤ sizeLine := by simpa only [PyData.shown] using z
    obtain ⟨bs, hb, hk⟩ := repAllK (prog := prog) (w := w) L g4 (by simpa [PyData.showable] using sh) fun t ht => Nat.le_trans (listText_mem_le ht) z2
    have na : a ∉ bs := not_mem_of_deeper (.list g1 g2 g3 g4) (by simp only [PyData.depth]; omega) hb
    refine ⟨"list", "list.__repr__", F.slot_list_repr.toG, F.slot_list_str, F.slot_list_format, fun s k0 => ⟨o, k0 _ _ g1, g2⟩, fun A E s Q hg hu k0 q => ?_⟩
    simp only [PyData.depth] at hu
    simp only [PyData.shown] at q
    obtain ⟨l⟩ := vs
    cases l with
    | nil =>
      have g5 : ReadsAll h [] xs _ := g4
      cases g5
      simp only [PyData.shownAll, listText_nil] at q
      exact call_list_repr_empty ⟨o, k0 _ _ g1, g2⟩ (k0 _ _ g1) g3 (q s.heap _ _ fun _ _ e => e)
    | cons x l => exact call_list_reprK g1 g2 g3 na (by simpa using hk.length_eq) (fun i y e => hk.item i y (by simpa using e)) hg (fun b _ => Clear.nil b) hu k0 q z2
  | tuple g1 g2 g3 g4 =>
    rename_i o vs n xs
    have z2 : (tupleText (PyData.shownAll xs)).length ≤ sizeLine := by simpa only [PyData.shown] using z
    obtain ⟨bs, hb, hk⟩ := repAllK (prog := prog) (w := w) L g4 (by simpa [PyData.showable] using sh) fun t ht => Nat.le_trans (tupleText_mem_le ht) z2
    have na : a ∉ bs := not_mem_of_deeper (.tuple g1 g2 g3 g4) (by simp only [PyData.depth]; omega) hb
    refine ⟨"tuple", "tuple.__repr__", F.slot_tuple_repr, F.slot_tuple_str, F.slot_tuple_format, fun s k0 => ⟨o, k0 _ _ g1, g2⟩, fun A E s Q hg hu k0 q => ?_⟩
    simp only [PyData.depth] at hu
    simp only [PyData.shown] at q
    exact call_tuple_reprK g1 g2 g3 na hk hg (fun b _ => Clear.nil b) hu k0 q z2
  | dict g1 g2 g3 g4 g5 =>
    rename_i o es n kvs as₁ bs₁
    have z2 : (dictText (PyData.shownKv kvs)).length ≤ sizeLine := by simpa only [PyData.shown] using z
    obtain ⟨s1, s2⟩ := PyData.showableKv_split kvs (by simpa [PyData.showable] using sh)
    obtain ⟨b1, hb1, k1⟩ := repAllK (prog := prog) (w := w) L g4 s1 fun t ht => let ⟨p, hp, hl⟩ := PyData.shownKv_key_le kvs t ht; Nat.le_trans hl (Nat.le_trans (dictText_mem_le hp) z2)
    obtain ⟨b2, hb2, k2⟩ := repAllK (prog := prog) (w := w) L g5 s2 fun t ht => let ⟨p, hp, hl⟩ := PyData.shownKv_val_le kvs t ht; Nat.le_trans hl (Nat.le_trans (dictText_mem_le hp) z2)
    have hb : ReadAtMost h (PyData.depthKv kvs) (b1 ++ b2) := (hb1.mono (PyData.depthAll_keys_le kvs)).append (hb2.mono (PyData.depthAll_vals_le kvs))
    have na : a ∉ b1 ++ b2 := not_mem_of_deeper (.dict g1 g2 g3 g4 g5) (by simp only [PyData.depth]; omega) hb
    refine ⟨"dict", "dict.__repr__", F.slot_dict_repr, F.slot_dict_str, F.slot_dict_format, fun s k0 => ⟨o, k0 _ _ g1, g2⟩, fun A E s Q hg hu k0 q => ?_⟩
    simp only [PyData.depth] at hu
    simp only [PyData.shown, PyData.shownKv_eq] at q
    exact call_dict_reprK g1 g2 g3 (L.no g1 g2) na (ReprEntriesK.of_two es.toList _ _
      (k1.more_le (fun b hb => List.mem_append_left _ hb) (PyData.depthAll_keys_le kvs)) (k2.more_le (fun b hb => List.mem_append_right _ hb) (PyData.depthAll_vals_le kvs))) hg (fun b _ => Clear.nil b) hu k0 q (by rw [← PyData.shownKv_eq]; exact z2)
/-- repr of nested data, wherever its lists stand -/
theorem repr_any {A : Around} {E : Value → Shared → Prop} {s : Shared} {Q : Value → Shared → Prop} (r : Reads h (.ref a) d as) (sys : sysModules ∈ as → LAt h) (sh : d.showable = true) (hg : A.guards = some []) (hu : A.units + (d.depth + 1) < cLine)
    (k0 : ∀ b o, h.get? b = some o → s.heap.get? b = some o) (q : ∀ h' u tk, (∀ b o, s.heap.get? b = some o → h'.get? b = some o) → Q (.str d.shown u) { s with heap := h', toks := tk }) (z : d.shown.length ≤ sizeLine) :
    wpAny (model prog w) A (call (.builtin "repr") [.ref a]) Q E s := by
  by_cases m : sysModules ∈ as
  · obtain ⟨T, idr, S⟩ := showsL (prog := prog) (w := w) (sys m) r sh z
    exact call_repr_slot (by omega) (S.typeIs s k0) S.slotRepr (S.call A.in1 E s _ hg (by show A.units + 1 + d.depth < cLine; omega) k0 fun h' u tk hk => ⟨_, _, rfl, q h' u tk hk⟩)
  · exact repr_of_reads' r sh (fun _ => m) hg hu k0 q z
end
section
variable {X : Cx} {pins : List (Addr × Obj)} {σ : L2.St} {H : Hp} {s : Shared}
mutual
theorem DpX.readsY (I : Inv X pins σ H s) : ∀ (d : PyData) (v : V) (u : Value), DpX X.K H v d → RelV v u → ∃ as, Reads s.heap u d as ∧ (sysModules ∈ as → LAt s.heap)
  | .none, _, _, h, r => by cases h; cases r; exact ⟨_, Reads.none, fun k => (nomatch k)⟩
  | .bool b, _, _, h, r => by cases h; cases r; exact ⟨_, Reads.bool b, fun k => (nomatch k)⟩
  | .int i, _, _, h, r => by cases h; obtain ⟨t, rfl⟩ := r; exact ⟨_, Reads.int i t, fun k => (nomatch k)⟩
  | .str x, _, _, h, r => by cases h; obtain ⟨t, rfl⟩ := r; exact ⟨_, Reads.str x t, fun k => (nomatch k)⟩
  | .list ds, _, _, h, r => by
    cases h with
    | lst hs ha =>
      cases r
      obtain ⟨its, rv, ⟨o, n, ho, hc, _, hd⟩, _⟩ := I.list hs
      obtain ⟨as, hr, hn⟩ := DpXs.readsY I ds _ its ha rv
      exact ⟨_, Reads.list ho hc hd hr, fun q => by
        rcases List.mem_cons.mp q with e | q
        · exact ⟨o, by rw [e]; exact ho, hc⟩
        · exact hn q⟩
  | .tuple ds, _, _, h, r => by
    cases h with
    | tup hs ha =>
      cases r
      obtain ⟨its, rv, ⟨o, ho, hc, n, hd⟩, _⟩ := I.tuple hs
      obtain ⟨as, hr, hn⟩ := DpXs.readsY I ds _ its ha rv
      exact ⟨_, Reads.tuple ho hc hd hr, hn⟩
  | .dict kvs, _, _, h, r => by
    cases h with
    | @dct a ks xs kvs e ha =>
      cases r
      obtain ⟨_, hne, vs, rk, dd⟩ := (show ObjOk X.prog X.w H s.heap a (.dK (ks.zip xs)) from I.hok a _ e)
      obtain ⟨us, rfl, ru⟩ := vals_zip (DpKs.len kvs ha) rk
      obtain ⟨bs, hp, hn⟩ := DpKs.pairsY I kvs ks xs us ha ru
      refine ⟨_, PyProof.V.reads_dictOf (knd := mixKind X.prog X.w) (enc := keyP) (fun k key hk => keyP_reads k key hk) dd hp, fun hm => ?_⟩
      rcases List.mem_cons.mp hm with e2 | hm
      · rw [e2, beq_self_eq_true] at hne
        cases hne
      · exact hn hm
theorem DpXs.readsY (I : Inv X pins σ H s) : ∀ (ds : List PyData) (vs : List V) (us : List Value), DpXs X.K H vs ds → Vals vs us → ∃ as, ReadsAll s.heap us ds as ∧ (sysModules ∈ as → LAt s.heap)
  | [], _, _, h, r => by cases h; cases r; exact ⟨_, ReadsAll.nil, fun k => (nomatch k)⟩
  | d :: ds, _, _, h, r => by
    cases h with
    | cons h1 h2 =>
      cases r with
      | cons r1 r2 =>
        obtain ⟨as, q1, n1⟩ := DpX.readsY I d _ _ h1 r1
        obtain ⟨bs, q2, n2⟩ := DpXs.readsY I ds _ _ h2 r2
        exact ⟨_, ReadsAll.cons q1 q2, fun hm => (List.mem_append.mp hm).elim n1 n2⟩
theorem DpKs.pairsY (I : Inv X pins σ H s) : ∀ (kvs : List (PyData × PyData)) (ks : List Key) (vs : List V) (us : List Value), DpKs X.K H ks vs kvs → Vals vs us → ∃ as, PyProof.V.PairsRead s.heap keyP (ks.zip us) kvs as ∧ (sysModules ∈ as → LAt s.heap)
  | [], _, _, _, h, r => by cases h; cases r; exact ⟨_, .nil, fun k => (nomatch k)⟩
  | (kp, d) :: kvs, _, _, _, h, r => by
    cases h with
    | cons h1 h2 =>
      cases r with
      | cons r1 r2 =>
        obtain ⟨as, q1, n1⟩ := DpX.readsY I d _ _ h1 r1
        obtain ⟨bs, q2, n2⟩ := DpKs.pairsY I kvs _ _ _ h2 r2
        exact ⟨_, .cons q1 q2, fun hm => (List.mem_append.mp hm).elim n1 n2⟩
end
end
def reprOkY (p : PyData) : Bool := p.showable && decide (p.depth ≤ 60) && decide (p.shown.length ≤ sizeLine)
/-- repr of data of any kind; a dict may stand beside a list, and in one -/
def fReprY : C3 := c1 fun d S => match pyXS S d with
  | some p => if reprOkY p then .ok (.str p.shown) S else .bad
  | none => .bad
def rReprY (K : PySem.W.Frag) : List V → Hp → VK → Prop := fun xs H Q => ∃ x p, xs = [x] ∧ DpX K H x p ∧ reprOkY p = true ∧ Q (.str p.shown) H
theorem fReprY_s {K : PySem.W.Frag} : CallS K (rReprY K) fReprY := c1_s fun W sv w u d S H Q z r q => by
  cases e : pyXS S d with
  | none => simp only [e] at q; exact False.elim q
  | some p =>
    simp only [e] at q
    by_cases h : reprOkY p = true
    · rw [if_pos h] at q
      exact ⟨u, p, rfl, dpXS_of z r e, h, q.at_ z (.str _)⟩
    · rw [if_neg h] at q; exact False.elim q
theorem call_reprY {X : Cx} (hg : X.A.guards = some []) (hu : X.A.units + 64 < cLine) : CallR X (.builtin "repr") (rReprY X.K) := by
  intro pins s σ H xs us Q I r h
  obtain ⟨x, p, rfl, dp, ok, q⟩ := h
  obtain ⟨u, rfl, ru⟩ := vals1 r
  unfold reprOkY at ok
  simp only [Bool.and_eq_true, Bool.or_eq_true, Bool.not_eq_true', decide_eq_true_eq] at ok
  obtain ⟨⟨h1, h3⟩, h4⟩ := ok
  obtain ⟨as, rd, hn⟩ := DpX.readsY I p x u dp ru
  have fin : ∀ (h' : Heap) (t : Tok) (tk : Nat), (∀ b o, s.heap.get? b = some o → h'.get? b = some o) → EP X pins σ Q (.str p.shown t) { s with heap := h', toks := tk } := fun h' t tk k => ⟨.str p.shown, H, I.kept k, ⟨t, rfl⟩, q⟩
  have refCase : ∀ a, u = .ref a → wpAny (model X.prog X.w) X.A (call (.builtin "repr") [u]) (EP X pins σ Q) X.xe s := fun a e => by
    subst e
    exact repr_any rd hn h1 hg (by omega) (fun _ _ e => e) (fun h' t tk k => fin h' t tk k) h4
  cases dp with
  | non => cases ru; exact PySem.P.repr_of_none (fin _ _ _ fun _ _ e => e)
  | bl b =>
    cases ru
    refine PySem.P.repr_of_bool ?_
    have := fin s.heap s.toks (s.toks + 1) fun _ _ e => e
    simpa only [PyData.shown] using this
  | int i =>
    obtain ⟨t, rfl⟩ := ru
    refine PySem.P.repr_of_int (by simpa only [PyData.showable, decide_eq_true_eq] using h1) ?_
    have := fin s.heap s.toks (s.toks + 1) fun _ _ e => e
    simpa only [PyData.shown] using this
  | str y =>
    obtain ⟨t, rfl⟩ := ru
    refine PySem.P.repr_of_str ?_ (by simpa only [PyData.shown] using h4)
    have := fin s.heap s.toks (s.toks + 1) fun _ _ e => e
    simpa only [PyData.shown] using this
  | lst _ _ => exact refCase _ ru
  | tup _ _ => exact refCase _ ru
  | dct _ _ => exact refCase _ ru
end DL
end

section
set_option Elab.async false
set_option linter.all false
set_option maxRecDepth 100000
set_option maxHeartbeats 4000000
/-! an open list the other way about, in place -/
namespace DL
open PySem PySem.Spec PyProof.Rows L2
def fReverse : M3 := fun d ds S => match ds with
  | [] => withOpen d S fun j xs => .ok .non (S.set j (.lst xs.reverse))
  | _ => .bad
section
variable {K : PySem.W.Frag} {w : Wd}
theorem fReverse_s : MethS K rReverse fReverse := by
  intro W sv w u us d ds S H Q z r ra q
  match ds, ra, q with
  | _ :: _, _, q => exact False.elim q
  | [], .nil, q =>
    obtain ⟨j, xs, a, vs, rfl, rfl, h1, g, e, rx, _, q⟩ := withOpen_s z r q
    exact ⟨a, vs, rfl, rfl, e, q _ _ _ (Ext.refl w) (z.relist h1 g rx.rev) .non⟩
end
theorem fReverse_ev {k : Nat} {xs : List D} {S : Sto} (h : S[k]? = some (.lst xs)) : fReverse (.ref k) [] S = .ok .non (S.set k (.lst xs.reverse)) := by
  unfold fReverse
  simp only
  rw [withOpen_ref, h, wopen_ev]
end DL

/-! three names at once -/
namespace DL
open PySem PySem.Spec PyProof.Rows L2
def mPar3 (i j k : Nat) (a : A3) : S3 := fun σ S => (a σ S).toS σ fun ds S1 => match ds with
  | [d, e, f] => .go .next (((σ.set i (some d)).set j (some e)).set k (some f)) S1
  | _ => .bad
section
variable {X : Cx} {W : WX} {pos : Pos}
theorem s_par3 {i j k : Nat} {x y z : Str} {a b c : Expr} {ms : A3} {px py pz pt : Pos} {kt k2 pt2} (hc : X.calm = true) (hN : X.N.Nodup) (hi : X.N[i]? = some x) (hj : X.N[j]? = some y) (hk : X.N[k]? = some z) (hij : i ≠ j) (hik : i ≠ k) (hjk : j ≠ k)
    (hx : X.env.scope.names.lookup x = some .local) (hy : X.env.scope.names.lookup y = some .local) (hz : X.env.scope.names.lookup z = some .local) (ha : PA3 X W [a, b, c] ms)
    (hw : swappedStores [.Tuple [.Name x px, .Name y py, .Name z pz] kt pt] (.Tuple [a, b, c] k2 pt2) X.env = pure (some [x, y, z]))
    (hs : swapsWithSole [.Tuple [.Name x px, .Name y py, .Name z pz] kt pt] (.Tuple [a, b, c] k2 pt2) pos.line X.env = pure false := by rfl) :
    PS3 X W (.Assign [.Tuple [.Name x px, .Name y py, .Name z pz] kt pt] (.Tuple [a, b, c] k2 pt2) pos) (mPar3 i j k ms) :=
  PS.imp (ps_par3 hc hN hi hj hk hij hik hjk hx hy hz ha hw hs) fun B sv H ⟨w, σ, S, l, z, q⟩ => ⟨w, σ, S, l, z, HoldS.step l q fun ds S1 w1 H1 us x1 z1 r1 q1 => by
    match ds, us, r1, q1 with
    | [], _, _, q1 => exact False.elim q1
    | [_], _, _, q1 => exact False.elim q1
    | [_, _], _, _, q1 => exact False.elim q1
    | [d, e, f], _, .cons r2 (.cons r3 (.cons r4 .nil)), q1 => exact ⟨_, _, _, rfl, q1 w1 _ H1 (Ext.refl w1) (LRel.set r4 k (LRel.set r3 j (LRel.set r2 i (l.mono x1)))) z1⟩
    | _ :: _ :: _ :: _ :: _, _, _, q1 => exact False.elim q1⟩
end
def par31 (i j k : Nat) (σ : Loc) (r : Rs (List D)) : Rt := r.toS σ fun ds S1 => match ds with
  | [d, e, f] => .go .next (((σ.set i (some d)).set j (some e)).set k (some f)) S1
  | _ => .bad
@[simp] theorem mPar3_ev (i j k : Nat) (a : A3) (σ : Loc) (S : Sto) : mPar3 i j k a σ S = par31 i j k σ (a σ S) := rfl
@[simp] theorem par31_ev (i j k : Nat) (σ : Loc) (d e f : D) (S : Sto) : par31 i j k σ (.ok [d, e, f] S) = .go .next (((σ.set i (some d)).set j (some e)).set k (some f)) S := rfl
end DL
end

section
set_option Elab.async false
set_option linter.all false
set_option maxRecDepth 100000
set_option maxHeartbeats 4000000
/-! zip(list, list), zip(tuple, tuple), told off pair by pair -/
namespace DL
open PySem PySem.Spec PyProof.Rows L2
def zipD (xs ys : List D) : List D := (xs.zip ys).map fun p => .tup [p.1, p.2]
theorem zipD_get {xs ys : List D} {i : Nat} {d : D} (e : (zipD xs ys)[i]? = some d) : ∃ x y, xs[i]? = some x ∧ ys[i]? = some y ∧ d = .tup [x, y] := by
  unfold zipD at e
  rw [List.getElem?_map] at e
  cases ez : (xs.zip ys)[i]? with
  | none => rw [ez] at e; cases e
  | some p =>
    rw [ez] at e
    have := List.getElem?_zip_eq_some.mp ez
    exact ⟨p.1, p.2, this.1, this.2, (Option.some.inj e).symm⟩
theorem zipD_len (xs ys : List D) : (zipD xs ys).length = min xs.length ys.length := by
  unfold zipD
  rw [List.length_map, List.length_zip]
theorem walk_zL {K : PySem.W.Frag} {w : Wd} {a b : Addr} {us vs : List V} {xs ys : List D} (h : SqL K w.G a us) (k : SqL K w.G b vs) (r : RepA K w us xs) (r' : RepA K w vs ys) : IsWalkG K w (Itz K a b) (zipD xs ys, none) := fun i w1 S H x z _ => by
  have hs : SqL K H a us := z.same.seq (x.same.seq h)
  have ks : SqL K H b vs := z.same.seq (x.same.seq k)
  have ra := r.monoG x
  have rb := r'.monoG x
  refine ⟨fun hi => ⟨us, vs, hs, ks, ?_⟩, fun d e => ?_⟩
  · rw [zipD_len] at hi
    rw [ra.length, rb.length]
    omega
  · obtain ⟨x1, y1, e1, e2, rfl⟩ := zipD_get e
    obtain ⟨u, hu, ru⟩ := ra.get e1
    obtain ⟨v, hv, rv⟩ := rb.get e2
    refine ⟨⟨us, vs, u, v, hs, ks, hu, hv⟩, fun t H' q => ?_⟩
    obtain ⟨T, u2, v2, rfl, n, rfl, q1, q2⟩ := q
    have e3 : u = u2 := Option.some.inj (hu.symm.trans (q1 us hs))
    have e4 : v = v2 := Option.some.inj (hv.symm.trans (q2 vs ks))
    subst e3 e4
    have xt := z.ext_put n (.tup [u, v])
    exact ⟨w1.put T (.tup [u, v]), xt, z.put n _, .tup upd_same (.cons (ru.mono xt) (.cons (rv.mono xt) .nil))⟩
theorem walk_zT {K : PySem.W.Frag} {w : Wd} {a b : Addr} {us vs : List V} {xs ys : List D} (h : SqT K w.G a us) (k : SqT K w.G b vs) (r : RepA K w us xs) (r' : RepA K w vs ys) : IsWalkG K w (RZ.ItzT K a b) (zipD xs ys, none) := fun i w1 S H x z _ => by
  have hs : SqT K H a us := seqT z.same (seqT x.same h)
  have ks : SqT K H b vs := seqT z.same (seqT x.same k)
  have ra := r.monoG x
  have rb := r'.monoG x
  refine ⟨fun hi => ⟨us, vs, hs, ks, ?_⟩, fun d e => ?_⟩
  · rw [zipD_len] at hi
    rw [ra.length, rb.length]
    omega
  · obtain ⟨x1, y1, e1, e2, rfl⟩ := zipD_get e
    obtain ⟨u, hu, ru⟩ := ra.get e1
    obtain ⟨v, hv, rv⟩ := rb.get e2
    refine ⟨⟨us, vs, u, v, hs, ks, hu, hv⟩, fun t H' q => ?_⟩
    obtain ⟨T, u2, v2, rfl, n, rfl, q1, q2⟩ := q
    have e3 : u = u2 := Option.some.inj (hu.symm.trans (q1 us hs))
    have e4 : v = v2 := Option.some.inj (hv.symm.trans (q2 vs ks))
    subst e3 e4
    have xt := z.ext_put n (.tup [u, v])
    exact ⟨w1.put T (.tup [u, v]), xt, z.put n _, .tup upd_same (.cons (ru.mono xt) (.cons (rv.mono xt) .nil))⟩
def zipA (ds : List D) (S : Sto) : Rs Wk := match ds with
  | [.lst xs, .lst ys] => .ok (zipD xs ys, none) S
  | [.tup xs, .tup ys] => .ok (zipD xs ys, none) S
  | _ => .bad
def mZip (a : A3) : A4 := fun σ S => (a σ S).bind zipA
theorem i_zip {X : Cx} {W : WX} {e e2 : Expr} {ms : A3} {p pos tpos : Pos} {elts : List Expr} {kk : Nat} (hg : Gl X "zip") (hm : X.mg "zip" = none) (h : PA3 X W [e, e2] ms)
    (hs : starEach [e, e2] X.env = (false, eval e X.env) :: starEach [e2] X.env := by rfl) (hpl : (backTo pos (starEach [e2] X.env)).any (·.1) = false := by rfl) :
    PI4 X W (.Tuple elts kk tpos) (.Call (.Name "zip" p) [e, e2] [] pos) (mZip ms) :=
  PI.imp (RZ.pi_zipA hg hm h hs hpl) fun sv H Q ⟨w, σ, S, l, z, q⟩ => ⟨w, σ, S, l, z, Hold.step q fun ds S1 w1 H1 us x1 z1 r1 q1 => by
    match ds, us, r1, q1 with
    | [.lst xs, .lst ys], _, .cons r2 (.cons r3 .nil), q1 =>
      cases r2 with
      | lst h1 h2 =>
        cases r3 with
        | lst k1 k2 => exact ⟨_, _, _, _, rfl, .inl ⟨SqL.of (z1.same _ _ h1), SqL.of (z1.same _ _ k1), Hold.at_ (show Hold X.K W sv (IsWalkG X.K) w1 Q (.ok (zipD xs ys, none) S1) from q1) z1 (walk_zL (SqL.of h1) (SqL.of k1) h2 k2)⟩⟩
    | [.tup xs, .tup ys], _, .cons r2 (.cons r3 .nil), q1 =>
      cases r2 with
      | tup h1 h2 =>
        cases r3 with
        | tup k1 k2 => exact ⟨_, _, _, _, rfl, .inr ⟨SqT.of (z1.same _ _ h1), SqT.of (z1.same _ _ k1), Hold.at_ (show Hold X.K W sv (IsWalkG X.K) w1 Q (.ok (zipD xs ys, none) S1) from q1) z1 (walk_zT (SqT.of h1) (SqT.of k1) h2 k2)⟩⟩⟩
def zip1 (r : Rs (List D)) : Rs Wk := r.bind zipA
@[simp] theorem mZip_ev (a : A3) (σ : Loc) (S : Sto) : mZip a σ S = zip1 (a σ S) := rfl
@[simp] theorem zip1_lst (xs ys : List D) (S : Sto) : zip1 (.ok [.lst xs, .lst ys] S) = .ok (zipD xs ys, none) S := rfl
@[simp] theorem zip1_tup (xs ys : List D) (S : Sto) : zip1 (.ok [.tup xs, .tup ys] S) = .ok (zipD xs ys, none) S := rfl
end DL
end

section
set_option Elab.async false
set_option linter.all false
set_option maxRecDepth 100000
set_option maxHeartbeats 4000000
/-! xs.extend(ys): an open list grows by a tuple or a list -/
namespace DL
open PySem PyProof PySem.Spec PyProof.Rows L2
theorem meets_ext (l b : Addr) (items items2 : Array Value) (n : Nat) (hs : items.size + items2.size ≤ sizeLine) :
    Meets (Builtin.«list.extend» { pos := [Value.ref l, Value.ref b] }) fun _ R s =>
      s.heap.get? l = some { cls := Value.type "list", data := Data.seq items n } ∧ (∃ o n2, s.heap.get? b = some o ∧ o.cls = Value.type "tuple" ∧ o.data = Data.seq items2 n2) ∧
      R (Except.ok (Flow.ret Value.none)) { heap := s.heap.update l (Obj.mapSeq fun x => x ++ items2), gens := s.gens, drawn := s.drawn, toks := s.toks, os := s.os } := by
  rintro prog w A R s ⟨hl, ⟨o, n2, ho, hc, hd⟩, q⟩
  have hlong : (!items.isEmpty && Builtin.List.listTooLong (items.size + items2.size)) = false := by
    rw [notLongL hs, Bool.and_false]
  show wpAny _ _ (Builtin.List.listExtendWith (.ref l) (.ref b) .none) _ _ _
  unfold Builtin.List.listExtendWith
  refine wpAny_bind (wpAny_typeOf_ref ho ?_)
  rw [hc]
  have hcond : (Builtin.List.listSameRef (Value.ref l) (Value.ref b) || (Value.type "tuple") == Value.type "list" || (Value.type "tuple") == Value.type "tuple") = true := by simp
  simp only [hcond, if_true]
  refine wpAny_bind (listItems_at ho hd ?_)
  refine wpAny_bind (listItems_at hl rfl ?_)
  simp only [hlong, Bool.false_eq_true, if_false]
  refine wpAny_bind (listUpdate_at hl rfl ?_ (by omega) (by rw [Array.size_append]; omega))
  exact wpAny_pure q
def rExtT (K : PySem.W.Frag) : V → List V → Hp → VK → Prop := fun x vs H Q => ∃ l b xs zs, x = .ref l ∧ vs = [.ref b] ∧ H l = some (.lst xs) ∧ (SqT K H b zs ∨ H b = some (.lst zs)) ∧ xs.length + zs.length ≤ sizeLine ∧ Q .non (upd H l (.lst (xs ++ zs)))
theorem mt_ext {X : Cx} : MtM X "list.extend" (rExtT X.K) := by
  intro pins s σ H x vs v us Q I rx rv h
  obtain ⟨l, b, xs, zs, rfl, rfl, hH, hB | hB, hz, q⟩ := h
  · cases rx
    obtain ⟨u, rfl, ru⟩ := rv.one
    cases ru
    obtain ⟨z, its, n, r, hl, e⟩ := I.lstM hH
    obtain ⟨its2, r2, ⟨o, ho, hc, n2, hd⟩, hl2⟩ := I.tuple hB
    have lz := r2.length
    have hsz : its.toArray.size + its2.toArray.size ≤ sizeLine := by rw [List.size_toArray, List.size_toArray]; omega
    refine call_meets F.slot_list_extend ⟨_, e, rfl⟩ F.entry_list_extend (F.args_list_extend_2 _ _)
      (meets_ext l b its.toArray its2.toArray n hsz) ⟨e, ⟨o, n2, ho, hc, hd⟩, ?_⟩
    refine ⟨.non, _, I.lset (its' := its ++ its2) hH e (by simp) (r.append r2) ?_, rfl, q⟩
    rw [List.length_append]
    omega
  · exact mt_extend pins s σ H (.ref l) [.ref b] v us Q I rx rv ⟨l, b, xs, zs, rfl, rfl, hH, hB, hz, q⟩
def extTo (d : D) (ys : List D) (S : Sto) : Rs D := withOpen d S fun j xs => guard (decide (xs.length + ys.length ≤ sizeLine)) (.ok .non (S.set j (.lst (xs ++ ys))))
def fExtend : M3 := fun d ds S => match ds with
  | [y] => (match y with
    | .tup ys => extTo d ys S
    | .lst ys => extTo d ys S
    | _ => .bad)
  | _ => .bad
section
variable {K : PySem.W.Frag} {w : Wd}
theorem fExtend_s : MethS K (rExtT K) fExtend := by
  intro W sv w u us d ds S H Q z r ra q
  match ds, ra, q with
  | [], _, q => exact False.elim q
  | _ :: _ :: _, _, q => exact False.elim q
  | [y], .cons ry .nil, q =>
    cases ry with
    | tup k1 k2 =>
      obtain ⟨j, xs, a, vs, rfl, rfl, h1, g, e, rx, _, q⟩ := withOpen_s z r q
      obtain ⟨hz, q⟩ := guard_s q
      exact ⟨a, _, vs, _, rfl, rfl, e, .inl (SqT.of (z.same _ _ k1)), by rw [rx.length, k2.length]; exact of_decide_eq_true hz, q _ _ _ (Ext.refl w) (z.relist h1 g (rx.append k2)) .non⟩
    | lst k1 k2 =>
      obtain ⟨j, xs, a, vs, rfl, rfl, h1, g, e, rx, _, q⟩ := withOpen_s z r q
      obtain ⟨hz, q⟩ := guard_s q
      exact ⟨a, _, vs, _, rfl, rfl, e, .inr (z.same _ _ k1), by rw [rx.length, k2.length]; exact of_decide_eq_true hz, q _ _ _ (Ext.refl w) (z.relist h1 g (rx.append k2)) .non⟩
    | _ => exact False.elim q
end
theorem fExtend_ev {k : Nat} {xs ys : List D} {S : Sto} (h : S[k]? = some (.lst xs)) (hl : xs.length + ys.length ≤ 1000000) : fExtend (.ref k) [.tup ys] S = .ok .non (S.set k (.lst (xs ++ ys))) := by
  have hz : xs.length + ys.length ≤ sizeLine := Nat.le_trans hl (by decide)
  show extTo _ _ _ = _
  unfold extTo
  rw [withOpen_ref, h, wopen_ev, decide_eq_true hz]
  rfl
theorem fExtend_lst {k : Nat} {xs ys : List D} {S : Sto} (h : S[k]? = some (.lst xs)) (hl : xs.length + ys.length ≤ 1000000) : fExtend (.ref k) [.lst ys] S = .ok .non (S.set k (.lst (xs ++ ys))) := by
  have hz : xs.length + ys.length ≤ sizeLine := Nat.le_trans hl (by decide)
  show extTo _ _ _ = _
  unfold extTo
  rw [withOpen_ref, h, wopen_ev, decide_eq_true hz]
  rfl
end DL
end

section
set_option Elab.async false
set_option linter.all false
set_option maxRecDepth 100000
set_option maxHeartbeats 4000000
/-! list(range(a, b)) -/
namespace DL
open PySem PyProof PySem.Spec PyProof.Rows L2
def lrB (d e : D) (S : Sto) : Rs D := match d with
  | .int i => (match e with
    | .int j => if decide (0 ≤ i) && decide (i ≤ 1000000) && (decide (0 ≤ j) && decide (j ≤ 1000000)) then .ok (.lst (rngD i (j - i).toNat)) S else .bad
    | _ => .bad)
  | _ => .bad
def mLr2 (a b : E3) : E3 := fun σ S => (a σ S).bind fun d S1 => (b σ S1).bind fun e S2 => lrB d e S2
theorem rng_rep2 {K : PySem.W.Frag} {w : Wd} (a b : Int) : RepA K w (rgV a b) (rngD a (b - a).toNat) := by
  unfold rgV rngD
  generalize List.range (b - a).toNat = l
  induction l with
  | nil => exact .nil
  | cons i l ih => exact .cons (.int _) ih
section
variable {X : Cx} {W : WX} {a b : Expr} {ma mb : E3} {p p2 q pos : Pos}
theorem e_lr2 (hc : X.calm = true) (hg : Gl X "list") (hm : X.mg "list" = none) (hg2 : Gl X "range") (hm2 : X.mg "range" = none) (ha : PE3 X W a ma) (hb : PE3 X W b mb) (na : starEach [a, b] X.env = (false, eval a X.env) :: starEach [b] X.env := by rfl)
    (nb : starEach [b] X.env = (false, eval b X.env) :: starEach [] X.env := by rfl) (hp : (backTo q (starEach [b] X.env)).any (·.1) = false := by rfl)
    (na2 : starEach [.Call (.Name "range" p2) [a, b] [] q] X.env = (false, eval (.Call (.Name "range" p2) [a, b] [] q) X.env) :: starEach [] X.env := by rfl) :
    PE3 X W (.Call (.Name "list" p) [.Call (.Name "range" p2) [a, b] [] q] [] pos) (mLr2 ma mb) :=
  PE.imp (pe_listRg hc hg hm (prg_2 hg2 hm2 ha hb na nb hp) na2) fun sv H Q ⟨w, σ, S, l, z, h⟩ => ⟨w, σ, S, l, z, Hold.step h fun d S1 w1 H1 u x1 z1 r1 q1 => ⟨w1, σ, S1, l.mono x1, z1, Hold.step q1 fun e S2 w2 H2 v x2 z2 r2 q2 => by
    cases d with
    | int i =>
      cases e with
      | int j =>
        cases r1
        cases r2
        have q3 : Hold X.K W sv (Rep X.K) w2 Q (if decide (0 ≤ i) && decide (i ≤ 1000000) && (decide (0 ≤ j) && decide (j ≤ 1000000)) then .ok (.lst (rngD i (j - i).toNat)) S2 else .bad) := q2
        by_cases hj : (decide (0 ≤ i) && decide (i ≤ 1000000) && (decide (0 ≤ j) && decide (j ≤ 1000000))) = true
        · rw [if_pos hj] at q3
          simp only [Bool.and_eq_true, decide_eq_true_eq] at hj
          refine ⟨i, j, rfl, rfl, RgOk.of_le (by omega) (by omega) (by omega) (by omega), fun r hr => ?_⟩
          have xt := z2.ext_put hr (.lst (rgV i j))
          exact q3 _ _ _ xt (z2.put hr _) (.lst upd_same (rng_rep2 i j))
        · rw [if_neg hj] at q3; exact False.elim q3
      | _ => exact False.elim q2
    | _ => exact False.elim q2⟩⟩
end
def lr2i (b : E3) (σ : Loc) (r : Rs D) : Rs D := r.bind fun d S1 => (b σ S1).bind fun e S2 => lrB d e S2
def lr2j (d : D) (r : Rs D) : Rs D := r.bind fun e S2 => lrB d e S2
@[simp] theorem mLr2_ev (a b : E3) (σ : Loc) (S : Sto) : mLr2 a b σ S = lr2i b σ (a σ S) := rfl
@[simp] theorem lr2i_ev (b : E3) (σ : Loc) (d : D) (S : Sto) : lr2i b σ (.ok d S) = lr2j d (b σ S) := rfl
theorem lr2j_ev {i j : Nat} {S : Sto} (h : i ≤ 1000000) (k : j ≤ 1000000) : lr2j (.int i) (.ok (.int j) S) = .ok (.lst (rngD i (j - i))) S := by
  show (if decide (0 ≤ (i : Int)) && decide ((i : Int) ≤ 1000000) && (decide (0 ≤ (j : Int)) && decide ((j : Int) ≤ 1000000)) then Rs.ok (D.lst (rngD i ((j : Int) - i).toNat)) S else .bad) = _
  rw [if_pos (by simp only [Bool.and_eq_true, decide_eq_true_eq]; omega), show ((j : Int) - i).toNat = j - i by omega]
end DL
end

section
set_option Elab.async false
set_option linter.all false
set_option maxRecDepth 100000
set_option maxHeartbeats 4000000
/-! all(xs) of a list of truths, or of tuples -/
namespace DL
open PySem PyProof PySem.Spec PyProof.Rows L2
def rAllT (K : PySem.W.Frag) : List V → Hp → VK → Prop := fun vs H Q => ∃ (a : Addr) (ps : List (Addr × List V)), vs = [V.ref a] ∧ SqL K H a (ps.map fun p => V.ref p.1) ∧ (∀ p ∈ ps, SqT K H p.1 p.2) ∧ Q (.bl (ps.all fun p => !p.2.isEmpty)) H
theorem refs_vals : ∀ {ps : List (Addr × List V)} {us : List Value}, Vals (ps.map fun p => V.ref p.1) us → us = ps.map fun p => Value.ref p.1
  | [], _, .nil => rfl
  | p :: ps, _, .cons r t => by
    cases r
    rw [refs_vals t]
    rfl
theorem cr_allT {X : Cx} (hc : X.calm = true) : CallR X (.builtin "all") (rAllT X.K) := by
  intro pins s σ H vs us Q I r h
  obtain ⟨a, ps, rfl, hs, ht, q⟩ := h
  obtain ⟨its, rv, hl, _⟩ := I.list hs
  rw [Vals.ref1 r]
  have hits := refs_vals rv
  refine call_all_walkH (PySem.W.iter_listW (A := X.A.in1) (I.ok.hd hc) hl.isList fun s₂ e W st hfp hw hk => ?_)
  refine ⟨_, _, _, _, _, _, _, s.heap, (fun i => !(ps.getD i (0, [])).2.isEmpty), rfl, W, st, hw, hk, ?_, fun s' m => ?_⟩
  · intro i v s' Q' E' keep hi hq
    have hi' : its[i]? = some v := by simpa using hi
    rw [hits, List.getElem?_map] at hi'
    obtain ⟨p, hp, rfl⟩ := Option.map_eq_some_iff.mp hi'
    have hg : ps.getD i (0, []) = p := by rw [List.getD_eq_getElem?_getD, hp]; rfl
    have hq : ∀ tk, s'.toks ≤ tk → Q' (!(ps.getD i (0, [])).2.isEmpty) { s' with toks := tk } := hq
    rw [hg] at hq
    obtain ⟨its2, r2, ⟨o, ho, hcl, n2, hd⟩, hz⟩ := I.tuple (ht p (List.mem_of_getElem? hp))
    have hlen := r2.length
    rw [sizeLine_eq] at hz
    refine truthy_tuple (items := its2.toArray) ⟨o, keep _ _ ho, hcl, n2, hd⟩ (by simp only [List.size_toArray]; omega) ?_
    rw [isEmpty_of r2]
    exact hq _ (Nat.le_succ_of_le (Nat.le_succ _))
  · obtain ⟨h', tk, rfl, hk'⟩ := PySem.W.moved_old e rfl m
    have hn : its.toArray.size = ps.length := by rw [List.size_toArray, hits, List.length_map]
    rw [hn, PySem.W.range_all (fun p : Addr × List V => !p.2.isEmpty) (0, []) ps]
    exact ⟨.bl _, H, I.kept hk', rfl, q⟩
def tupsOf : List D → Option (List Bool)
  | [] => some []
  | d :: ds => match d, tupsOf ds with
    | .tup ys, some bs => some ((!ys.isEmpty) :: bs)
    | _, _ => none
/-- truths, or tuples -/
def rAllX (K : PySem.W.Frag) : List V → Hp → VK → Prop := fun vs H Q => rAll K vs H Q ∨ rAllT K vs H Q
theorem cr_allX {X : Cx} (hc : X.calm = true) : CallR X (.builtin "all") (rAllX X.K) := by
  intro pins s σ H vs us Q I r h
  rcases h with h | h
  · exact cr_all hc pins s σ H vs us Q I r h
  · exact cr_allT hc pins s σ H vs us Q I r h
theorem tupsOf_s {K : PySem.W.Frag} {w : Wd} {S : Sto} {H : Hp} (z : WRel K w S H) : ∀ {ds : List D} {us : List V} {bs : List Bool}, RepA K w us ds → tupsOf ds = some bs → ∃ ps : List (Addr × List V), us = ps.map (fun p => V.ref p.1) ∧ (∀ p ∈ ps, SqT K H p.1 p.2) ∧ bs = ps.map fun p => !p.2.isEmpty
  | [], _, _, r, e => by
    cases r
    cases e
    exact ⟨[], rfl, (fun _ h => nomatch h), rfl⟩
  | d :: ds, _, _, r, e => by
    cases r with
    | cons r1 r2 =>
      unfold tupsOf at e
      cases d with
      | tup ys =>
        cases q : tupsOf ds with
        | none => rw [q] at e; cases e
        | some bs =>
          rw [q] at e
          cases e
          obtain ⟨ps, e1, e2, e3⟩ := tupsOf_s z r2 q
          cases r1 with
          | @tup a vs _ k1 k2 =>
            refine ⟨(a, vs) :: ps, by rw [e1]; rfl, fun p hp => ?_, ?_⟩
            · rcases List.mem_cons.mp hp with rfl | hp
              · exact SqT.of (z.same _ _ k1)
              · exact e2 p hp
            · rw [e3, List.map_cons]
              congr 2
              have := k2.length
              cases vs <;> cases ys <;> simp_all
      | _ => cases q : tupsOf ds <;> rw [q] at e <;> cases e
def fAllX : C3 := c1 fun d S => if isTupD d then .bad else withItems d S fun xs => match blsOf xs with
  | some bs => .ok (.bl (bs.all id)) S
  | none => (match tupsOf xs with
    | some bs => .ok (.bl (bs.all id)) S
    | none => .bad)
theorem fAllX_s {K : PySem.W.Frag} : CallS K (rAllX K) fAllX := c1_s fun W sv w u d S H Q z r q => by
  by_cases t : isTupD d = true
  · rw [if_pos t] at q; exact False.elim q
  · rw [if_neg t] at q
    obtain ⟨xs, _, _, he, _, _, _, hk⟩ := withItems_s z r q
    obtain ⟨a, vs, rfl, ra, hs⟩ := items_list z r he (by simpa using t)
    cases e : blsOf xs with
    | none =>
      simp only [e] at hk
      cases e2 : tupsOf xs with
      | none => simp only [e2] at hk; exact False.elim hk
      | some bs =>
        simp only [e2] at hk
        obtain ⟨ps, p1, p2, p3⟩ := tupsOf_s z ra e2
        subst p1
        refine .inr ⟨a, ps, rfl, hs, p2, ?_⟩
        have : ps.all (fun p => !p.2.isEmpty) = bs.all id := by
          rw [p3, List.all_map]
          rfl
        rw [this]
        exact hk.at_ z (.bl _)
    | some bs =>
      simp only [e] at hk
      have := blsOf_s ra e
      subst this
      exact .inl ⟨a, bs, rfl, hs, hk.at_ z (.bl _)⟩
theorem allX_bls (bs : List Bool) (S : Sto) : fAllX [.lst (bs.map D.bl)] S = .ok (.bl (bs.all id)) S := by
  have hb : blsOf (bs.map D.bl) = some bs := by
    induction bs with
    | nil => rfl
    | cons b bs ih =>
      show (match D.bl b, blsOf (bs.map D.bl) with
        | .bl b, some bs => some (b :: bs)
        | _, _ => none) = _
      rw [ih]
  show (match blsOf (bs.map D.bl) with
    | some bs => Rs.ok (D.bl (bs.all id)) S
    | none => (match tupsOf (bs.map D.bl) with
      | some bs => .ok (.bl (bs.all id)) S
      | none => .bad)) = _
  rw [hb]
theorem allX_tups (d : List D) (ds : List (List D)) (S : Sto) : fAllX [.lst ((d :: ds).map D.tup)] S = .ok (.bl ((d :: ds).all fun ys => !ys.isEmpty)) S := by
  have ht : ∀ ds : List (List D), tupsOf (ds.map D.tup) = some (ds.map fun ys => !ys.isEmpty) := by
    intro ds
    induction ds with
    | nil => rfl
    | cons y ys ih =>
      show (match D.tup y, tupsOf (ys.map D.tup) with
        | .tup ys, some bs => some ((!ys.isEmpty) :: bs)
        | _, _ => none) = _
      rw [ih]
      rfl
  have hb : blsOf ((d :: ds).map D.tup) = none := by
    show (match D.tup d, blsOf (ds.map D.tup) with
      | .bl b, some bs => some (b :: bs)
      | _, _ => none) = _
    cases blsOf (ds.map D.tup) <;> rfl
  show (match blsOf ((d :: ds).map D.tup) with
    | some bs => Rs.ok (D.bl (bs.all id)) S
    | none => (match tupsOf ((d :: ds).map D.tup) with
      | some bs => .ok (.bl (bs.all id)) S
      | none => .bad)) = _
  rw [hb, ht]
  show Rs.ok (D.bl (((d :: ds).map fun ys => !ys.isEmpty).all id)) S = _
  rw [List.all_map]
  rfl
end DL
end

section
set_option Elab.async false
set_option linter.all false
set_option maxRecDepth 100000
set_option maxHeartbeats 4000000
/-! try: .. except X: name = a truth; a list told several times -/
namespace DL
open PySem PySem.Spec PyProof.Rows L2
/-- what the try leaves: m's outcome, or the truth at the name -/
def mTryO (exm : Addr → Addr → Option Bool) (P : Addr) (j : Nat) (b : Bool) (m : S3) : S3 := fun σ S => match m σ S with
  | .exc C none σ1 S1 => if exm C P = some true then .go .next (σ1.set j (some (.bl b))) S1 else .bad
  | .exc _ (some _) _ _ => .bad
  | r => r
section
variable {X : Cx} {W : WX} {x y : Str} {P : Addr} {j : Nat} {b : Bool} {body : List Stmt} {np p1 p2 p3 pos pos' : Pos} {k2 : Nat} {m : S3} {exm : Addr → Addr → Option Bool}
theorem s_tryO (hk : ∀ C P, exm C P = some true → PySem.W.exmOne X.K (.ref C) (.ref P) = some true) (hm : X.mg x = some (.ref P)) (hg : Gl X x) (st : X.stack = X.env :: X.outer) (fr : X.env.frame = some X.env.locals) (nd : X.N.Nodup)
    (hj : X.N[j]? = some y) (hy : L2.Loc X.env.scope y) (hy2 : X.fn y = true ∨ X.env.scope.names.lookup y = some .local) (tk : Takes X W)
    (hb : ∀ (W : WX) (pn : List (Addr × Obj)) (xe : Value → Shared → Prop), Takes (X.tr pn xe) W → PassesOwn (model X.prog X.w) X.A X.env xe → PSs3 (X.tr pn xe) W body m)
    (hd : (x == ("__debug__" : Str)) = false := by decide) :
    PS3 X W (.Try body [.ExceptHandler (some (.Name x np)) none [.Assign [.Name y p1] (.Constant (.bool b) k2 p2) p3] pos'] [] [] pos) (mTryO exm P j b m) :=
  PS.imp (ps_try_only (tb := fun W => rdS X.K W m) (ts := fun _ _ _ => tAsg (tC (.bl b)) (gName j)) (Wout := W) st fr ⟨hg, hd, .inl hm⟩ tk hb
    (fun a oe cls d pn _ _ => pss_one (ps_set (X := X.suite a ((a, oe) :: pn)) nd hj hy pe_bl (by rfl) hy2))) fun B sv H ⟨w, σ, S, l, z, q⟩ => ⟨w, σ, S, l, z, by
    unfold mTryO at q
    cases e : m σ S with
    | bad => rw [e] at q; exact q.elim
    | go f σ1 S1 =>
      rw [e] at q
      cases f with
      | next => exact q
      | brk => exact q
      | cont => exact q
      | ret d => exact q
    | exc C p σ1 S1 =>
      rw [e] at q
      cases p with
      | some _ => exact q.elim
      | none =>
        by_cases hc : exm C P = some true
        · simp only [if_pos hc] at q
          intro w1 s1 H1 dx x1 l1 z1 r1
          obtain rfl : dx = none := r1
          refine ⟨true, hk C P hc, fun _ a na => ?_, fun z => nomatch z⟩
          have r2 : Rep X.K w1 (.bl b) (.bl b) := .bl b
          exact q _ _ _ x1 (LRel.set r2 j l1) z1
        · simp only [if_neg hc] at q
          exact q.elim⟩
end
/-! ### a list told several times -/
def oMulL : O3 := fun d e S => match e with
  | .int k => guard (isLstD d && (decide (0 ≤ k) && decide (k ≤ 1000))) (withItems d S fun xs => guard (decide (xs.length ≤ 1000)) (mkLst (List.replicate k.toNat xs).flatten S))
  | _ => .bad
theorem oMulL_s {K : PySem.W.Frag} : OpS K rRep oMulL := by
  intro W sv w u v d e S H Q z r1 r2 q
  cases e with
  | int k =>
    cases r2
    have q : Hold K W sv (Rep K) w Q (guard (isLstD d && (decide (0 ≤ k) && decide (k ≤ 1000))) (withItems d S fun xs => guard (decide (xs.length ≤ 1000)) (mkLst (List.replicate k.toNat xs).flatten S))) := q
    obtain ⟨hg, q⟩ := guard_s q
    simp only [Bool.and_eq_true, decide_eq_true_eq] at hg
    obtain ⟨xs, _, _, he, _, _, _, q⟩ := withItems_s z r1 q
    obtain ⟨hz, q⟩ := guard_s q
    have hz := of_decide_eq_true hz
    obtain ⟨a, vs, rfl, ra, hs⟩ := items_trk z r1 he hg.1
    refine ⟨a, k, vs, rfl, rfl, hs, by omega, by omega, ?_, (mkLst_s q z (rep_vals ra _)).2⟩
    rw [ra.length]
    have : xs.length * k.toNat ≤ 1000 * 1000 := Nat.mul_le_mul hz (by omega)
    rw [sizeLine_eq]
    omega
  | _ => exact False.elim q
theorem oMulL_ev {d : D} {xs : List D} {k : Nat} {S : Sto} (hd : isLstD d = true) (e : itemsOf S d = some xs) (h1 : xs.length ≤ 1000) (k3 : k ≤ 1000) : oMulL d (.int k) S = .ok (.lst (List.replicate k xs).flatten) S := by
  show guard _ (withItems d S _) = _
  unfold withItems
  rw [e, hd, guard_ev (by simp only [Bool.and_eq_true, decide_eq_true_eq, Bool.true_and]; omega)]
  show guard _ (mkLst _ S) = _
  rw [guard_ev (by exact decide_eq_true h1), Int.toNat_natCast]
  refine mkLst_ev ?_
  rw [List.length_flatten, List.map_replicate, List.sum_replicate_nat]
  have : k * xs.length ≤ 1000 * 1000 := Nat.mul_le_mul k3 h1
  omega
end DL
end

section
set_option Elab.async false
set_option linter.all false
set_option maxRecDepth 100000
set_option maxHeartbeats 4000000
/-! texts: parted, told several times, as numbers; ranges with a step -/
namespace DL
open PySem PySem.Spec PyProof.Rows L2
theorem rep_strs {K : PySem.W.Frag} {w : Wd} : ∀ xs : List Str, RepA K w (xs.map V.str) (xs.map D.str)
  | [] => .nil
  | x :: xs => .cons (.str x) (rep_strs xs)
def spB (y : Str) (d : D) (S : Sto) : Rs D := match d with
  | .str b => guard (!(b.length == 0) && decide (y.length ≤ 1000000)) (mkLst ((Txt.split y b).map D.str) S)
  | _ => .bad
def mSplit (o a : E3) : E3 := fun σ S => (o σ S).bind fun x S1 => match x with
  | .str y => (a σ S1).bind (spB y)
  | _ => .bad
section
variable {X : Cx} {W : WX} {o e : Expr} {mo m : E3} {pos : Pos}
theorem e_split {apos : Pos} (ho : PE3 X W o mo) (he : PE3 X W e m) (hs : starEach [e] X.env = [(false, eval e X.env)] := by rfl) (hbase : attributeBase o "split" X.env (eval o X.env) = eval o X.env := by rfl) (hline : (apos.endLine == pos.line) = true := by rfl) :
    PE3 X W (.Call (.Attribute o "split" apos) [e] [] pos) (mSplit mo m) :=
  PE.imp (pe_split ho he hs hbase hline) fun sv H Q ⟨w, σ, S, l, z, q⟩ => ⟨w, σ, S, l, z, Hold.step q fun x S1 w1 H1 v x1 z1 r1 q1 => by
    cases x with
    | str y =>
      cases r1
      refine ⟨⟨y, rfl⟩, w1, σ, S1, l.mono x1, z1, Hold.step q1 fun d S2 w2 H2 u x2 z2 r2 q2 => ?_⟩
      cases d with
      | str b =>
        cases r2
        obtain ⟨hg, q3⟩ := guard_s q2
        rw [Bool.and_eq_true, decide_eq_true_eq, Bool.not_eq_true'] at hg
        exact ⟨y, b, rfl, rfl, hg.1, by rw [sizeLine_eq]; omega, (mkLst_s q3 z2 (rep_strs _)).2⟩
      | _ => exact q2.elim
    | _ => exact q1.elim⟩
end
def sp1 (a : E3) (σ : Loc) (r : Rs D) : Rs D := r.bind fun x S1 => match x with
  | .str y => (a σ S1).bind (spB y)
  | _ => .bad
def sp2 (y : Str) (r : Rs D) : Rs D := r.bind (spB y)
@[simp] theorem mSplit_ev (o a : E3) (σ : Loc) (S : Sto) : mSplit o a σ S = sp1 a σ (o σ S) := rfl
@[simp] theorem sp1_ev (a : E3) (σ : Loc) (y : Str) (S : Sto) : sp1 a σ (.ok (.str y) S) = sp2 y (a σ S) := rfl
@[simp] theorem sp2_ev (y b : Str) (S : Sto) : sp2 y (.ok (.str b) S) = spB y (.str b) S := rfl
theorem spB_ev {y b : Str} {S : Sto} (h : (b.length == 0) = false) (hl : y.length ≤ 1000000) (hn : (Txt.split y b).length ≤ 1000000) : spB y (.str b) S = .ok (.lst ((Txt.split y b).map D.str)) S := by
  show guard _ _ = _
  rw [guard_ev (by rw [h, decide_eq_true hl]; rfl)]
  exact mkLst_ev (by rw [List.length_map]; exact hn)
/-! ### int(text) -/
def fIntS : C3 := c1 fun d S => match d with
  | .str x => (match intText? x with
    | some n => guard (decide (x.length ≤ 640)) (.ok (.int n) S)
    | none => .bad)
  | _ => .bad
theorem fIntS_s {K : PySem.W.Frag} : CallS K (fun xs H Q => ∃ a n, xs = [.str a] ∧ PySem.intText? a = some n ∧ a.length ≤ 640 ∧ Q (.int n) H) fIntS := c1_s fun W sv w u d S H Q z r q => by
  cases d with
  | str x =>
    cases r
    cases e : intText? x with
    | none => simp only [e] at q; exact q.elim
    | some n =>
      simp only [e] at q
      obtain ⟨hg, q⟩ := guard_s q
      exact ⟨x, n, rfl, e, of_decide_eq_true hg, q.at_ z (.int _)⟩
  | _ => exact False.elim q
theorem fIntS_ev {x : Str} {n : Int} {S : Sto} (h : intText? x = some n) (hl : x.length ≤ 640) : fIntS [.str x] S = .ok (.int n) S := by
  show (match intText? x with
    | some n => guard (decide (x.length ≤ 640)) (Rs.ok (D.int n) S)
    | none => .bad) = _
  rw [h]
  exact guard_ev (decide_eq_true hl)
/-! ### a text told several times -/
def repS (a : Str) (n : Nat) : Str := ⟨(List.replicate n a.cps).foldl (· ++ ·) #[]⟩
def rMulS : R2 := fun x y H Q => ∃ (a : Str) (n : Nat), x = .str a ∧ y = .int n ∧ 1 ≤ n ∧ n ≤ 1000 ∧ 1 ≤ a.length ∧ a.length ≤ 1000 ∧ Q (.str (repS a n)) H
theorem rep_size (a : Array Nat) : ∀ (n : Nat) (b : Array Nat), ((List.replicate n a).foldl (· ++ ·) b).size = b.size + n * a.size
  | 0, b => by simp
  | n + 1, b => by
    rw [List.replicate_succ, List.foldl_cons, rep_size a n (b ++ a), Array.size_append, Nat.add_mul]
    omega
theorem op_mulS {X : Cx} : OpR X (binaryOp .Mult) rMulS := by
  intro pins s σ H x y v u Q I rx ry h
  obtain ⟨a, n, rfl, rfl, h1, h2, h3, h4, q⟩ := h
  obtain ⟨t, rfl⟩ := rx
  obtain ⟨t', rfl⟩ := ry
  have n1 : ¬ ((n : Int) < 1) := by omega
  have sz : a.length * (n : Int).toNat ≤ 1000 * 1000 := by
    rw [Int.toNat_natCast]
    exact Nat.mul_le_mul h4 h2
  refine P.mul_str ?_ (fun _ _ => ?_) (fun _ _ => ?_) ?_
  · rw [decide_eq_false (by omega : ¬ (n : Int) < -(2 ^ 63)), decide_eq_false (by omega : ¬ (n : Int) ≥ 2 ^ 63)]
    rfl
  · have : (1000000 : Int) ≤ (2 ^ 63 - 1) / (n : Int) := by
      refine Int.le_ediv_of_mul_le (by omega) ?_
      have : (1000000 : Int) * (n : Int) ≤ 1000000 * 1000 := by omega
      omega
    omega
  · show decide (_ > sizeLine) = false
    refine decide_eq_false ?_
    rw [sizeLine_eq]
    omega
  · rw [if_neg n1]
    by_cases e : n = 1
    · subst e
      have eq1 : repS a 1 = a := by
        unfold repS
        simp
      rw [eq1] at q
      rw [if_pos (by simp)]
      exact ⟨.str a, H, I, ⟨t, rfl⟩, q⟩
    · have b0 : (((n : Int) == 1) || (a.length == 0)) = false := by
        rw [Bool.or_eq_false_iff]
        exact ⟨by simp; omega, by simp; omega⟩
      rw [b0, if_neg (by simp), Int.toNat_natCast]
      refine ⟨?_, .str (repS a n), H, I.tok _, ⟨_, rfl⟩, q⟩
      show ((List.replicate n a.cps).foldl (· ++ ·) #[]).size ≤ sizeLine
      rw [rep_size, sizeLine_eq]
      have : n * a.cps.size ≤ 1000 * 1000 := Nat.mul_le_mul h2 h4
      simp
      omega
def oMulS : O3 := fun d e S => match d with
  | .str a => (match e with
    | .int k => guard (decide (1 ≤ k) && decide (k ≤ 1000) && decide (1 ≤ a.length) && decide (a.length ≤ 1000)) (.ok (.str (repS a k.toNat)) S)
    | _ => .bad)
  | _ => .bad
theorem oMulS_s {K : PySem.W.Frag} : OpS K rMulS oMulS := by
  intro W sv w u v d e S H Q z r1 r2 q
  cases d with
  | str a =>
    cases r1
    cases e with
    | int k =>
      cases r2
      obtain ⟨hg, q⟩ := guard_s (show Hold K W sv (Rep K) w Q (guard _ _) from q)
      simp only [Bool.and_eq_true, decide_eq_true_eq] at hg
      refine ⟨a, k.toNat, rfl, by rw [Int.toNat_of_nonneg (by omega)], by omega, by omega, hg.1.2, hg.2, q.at_ z (.str _)⟩
    | _ => exact False.elim q
  | _ => exact False.elim q
theorem oMulS_ev {a : Str} {n : Nat} {S : Sto} (h1 : 1 ≤ n) (h2 : n ≤ 1000) (h3 : 1 ≤ a.length) (h4 : a.length ≤ 1000) : oMulS (.str a) (.int n) S = .ok (.str (repS a n)) S := by
  show guard _ _ = _
  rw [guard_ev (by simp only [Bool.and_eq_true, decide_eq_true_eq]; omega), Int.toNat_natCast]
/-! ### range(a, b, c) -/
def rngC (lo c : Int) (n : Nat) : List D := (List.range n).map fun (i : Nat) => D.int (lo + (i : Int) * c)
theorem walk_rgc {K : PySem.W.Frag} {w : Wd} {lo c : Int} {n : Nat} : IsWalk K w (Itc lo c n) (rngC lo c n) := fun i w1 S H x z => by
  have hl : (rngC lo c n).length = n := by unfold rngC; rw [List.length_map, List.length_range]
  refine ⟨fun hi => by rw [hl] at hi; exact hi, fun d e => ?_⟩
  have hi : i < n := by rw [← hl]; exact (List.getElem?_eq_some_iff.mp e).1
  have e2 : d = .int (lo + i * c) := by
    unfold rngC at e
    rw [List.getElem?_map, List.getElem?_range hi] at e
    exact (Option.some.inj e).symm
  subst e2
  refine ⟨hi, fun y H' q => ?_⟩
  obtain ⟨rfl, rfl⟩ := q
  exact ⟨w1, Ext.refl w1, z, .int _⟩
def rg3 (i j c : Int) (S : Sto) : Rs (List D) := if !(c == 0) && decide (c.natAbs < 1073741824) && Builtin.Range.small i j c then .ok (rngC i c (Builtin.Range.rangeSize i j c).toNat) S else .bad
def rgA3 : List D → Sto → Rs (List D) := fun ds S => match ds with
  | [a, b, c] => (match a with
    | .int i => (match b with
      | .int j => (match c with
        | .int k => rg3 i j k S
        | _ => .bad)
      | _ => .bad)
    | _ => .bad)
  | _ => .bad
def mRange3 (a : A3) : A3 := fun σ S => (a σ S).bind rgA3
section
variable {X : Cx} {W : WX} {tg a b c : Expr}
theorem rg3_s {K : PySem.W.Frag} {W : WX} {sv : L2.St} {w : Wd} {S : Sto} {H : Hp} {Q : It → Hp → Prop} {i j c : Int} (z : WRel K w S H) (h : Hold K W sv (IsWalk K) w Q (rg3 i j c S)) : RgC i j c (Builtin.Range.rangeSize i j c).toNat ∧ Q (Itc i c (Builtin.Range.rangeSize i j c).toNat) H := by
  unfold rg3 at h
  by_cases hg : (!(c == 0) && decide (c.natAbs < 1073741824) && Builtin.Range.small i j c) = true
  · rw [if_pos hg] at h
    simp only [Bool.and_eq_true, decide_eq_true_eq, Bool.not_eq_true', beq_eq_false_iff_ne] at hg
    exact ⟨⟨hg.1.1, hg.1.2, hg.2, rangeSize_toNat i j c⟩, h _ _ _ (Ext.refl w) z walk_rgc⟩
  · rw [if_neg hg] at h
    exact h.elim
theorem i_range3 {p pos : Pos} {ms : A3} (hg : Gl X "range") (hm : X.mg "range" = none) (h : PA3 X W [a, b, c] ms) (hs : starEach [a, b, c] X.env = (false, eval a X.env) :: starEach [b, c] X.env := by rfl) (hpl : (backTo pos (starEach [b, c] X.env)).any (·.1) = false := by rfl) :
    PI3 X W tg (.Call (.Name "range" p) [a, b, c] [] pos) (mRange3 ms) :=
  PI.imp (pi_range3 hg hm h hs hpl) fun sv H Q ⟨w, σ, S, l, z, q⟩ => ⟨w, σ, S, l, z, Hold.step q fun ds S1 w1 H1 us x1 z1 r1 q1 => by
    match ds, us, r1, q1 with
    | [], _, _, q1 => exact False.elim q1
    | [_], _, _, q1 => exact False.elim q1
    | [_, _], _, _, q1 => exact False.elim q1
    | [d, e, f], _, .cons r2 (.cons r3 (.cons r4 .nil)), q1 =>
      cases d with
      | int i =>
        cases r2
        cases e with
        | int j =>
          cases r3
          cases f with
          | int k =>
            cases r4
            obtain ⟨h1, h2⟩ := rg3_s z1 (show Hold X.K W sv (IsWalk X.K) w1 Q (rg3 i j k S1) from q1)
            exact ⟨i, j, k, _, rfl, h1, h2⟩
          | _ => exact False.elim q1
        | _ => exact False.elim q1
      | _ => exact False.elim q1
    | _ :: _ :: _ :: _ :: _, _, _, q1 => exact False.elim q1⟩
end
def rg31 (r : Rs (List D)) : Rs (List D) := r.bind rgA3
@[simp] theorem mRange3_ev (a : A3) (σ : Loc) (S : Sto) : mRange3 a σ S = rg31 (a σ S) := rfl
@[simp] theorem rg31_ev (i j c : Int) (S : Sto) : rg31 (.ok [.int i, .int j, .int c] S) = rg3 i j c S := rfl
/-! ### a def called without arguments -/
section
variable {X : Cx} {W : WX} {k j : Nat} {F : C3} {x : Str} {n : Nat} {p pos : Pos}
theorem e_c30 (c : Cal3 X.prog X.w X.K X.mg X.base k x n F) (hr : RoomG j X.A) (hk : k ≤ j) (tk : Takes X W) (hg : Gl X x) (hdb : (x == ("__debug__" : Str)) = false := by decide) :
    PE3 X W (.Call (.Name x p) [] [] pos) (mMake (withLen n F) mNil) := by
  obtain ⟨f, fd, ps, hm, hkp, hb, rfl, G⟩ := c.ex
  refine ⟨fun pins s σ H Q I h => ?_⟩
  obtain ⟨wd, l, S, lr, z, q⟩ := h
  have q1 : Hold X.K W σ (Rep X.K) wd Q (withLen ps.length F [] S) := q
  refine wpAny_Call_Name_kw (ld_glob I hg hm ?_ hdb)
  refine PySem.W.callWith_K0 I.kIn hkp ?_
  unfold withLen at q1
  by_cases hl : ([] : List D).length = ps.length
  · rw [if_pos hl] at q1
    exact run3 (us := []) (vs := []) (dv := []) (du := []) G (hr.mono hk) tk hb .nil hl I .nil .nil z q1
  · rw [if_neg hl] at q1; exact False.elim q1
end
/-! ### what is not reached -/
def mBadS : S3 := fun _ _ => .bad
def mBadE : E3 := fun _ _ => .bad
theorem s_bad {X : Cx} {W : WX} {st : Stmt} : PS3 X W st mBadS := ⟨fun pins s σ H D I h => by
  obtain ⟨w, σ, S, l, z, q⟩ := h
  exact q.elim⟩
theorem e_bad {X : Cx} {W : WX} {e : Expr} : PE3 X W e mBadE := ⟨fun pins s σ H Q I h => by
  obtain ⟨w, σ, S, l, z, q⟩ := h
  exact q.elim⟩
end DL
end

section
set_option linter.all false
set_option maxRecDepth 100000
set_option maxHeartbeats 4000000
namespace Lw
open PySem DL
noncomputable section

structure CA where
  Book : Addr
  BadStroke : Addr
  NoSlot : Addr

def m_Book_eq_ (ca : CA) : S3 :=
    (mRet (mAnd (mMake (fIsiO ca.Book) (mCons (mVar 1) (mCons (mC (.adr ca.Book)) mNil))) (mBin oEq (mFld ca.Book "_strokes" (mVar 0)) (mFld ca.Book "_strokes" (mVar 1)))))
def F_Book_eq_ (ca : CA) : C3 := defF false 0 (m_Book_eq_ ca)
def m_l_pen (ca : CA) : S3 :=
    (mRet (mMake mkOpen (mCons (mMake fList (mCons (mSl false (mVar 0) mNoP (mPart (mC (.int 60)))) mNil)) (mCons (mC (.int 0)) (mCons (mC (.int 0)) mNil)))))
def F_l_pen (ca : CA) : C3 := defF true 0 (m_l_pen ca)
def m_l_letters (ca : CA) : S3 :=
    (mRet (mC (.str (Str.ofString "abcdefghijklmnopqrstuvwxyz"))))
def F_l_letters (ca : CA) : C3 := defF false 0 (m_l_letters ca)
def m_is_number (ca : CA) : S3 :=
    (mSeq (mIfS (tNot3 (fun σ S => asB (mChain oLeA oLeA (mC (.int 1)) (mMake fLen (mCons (mVar 0) mNil)) (mC (.int 10)) σ S))) (mRet (mC (.bl false))) mNext)
    (mSeq (mIfS (tNot3 (fun σ S => asT ((mMake fAll (mCons (mComp false (mWalk (mVar 0)) (g3Name 1) tTrue3 (mChain oLeA oLeA (mC (.str (Str.ofString "0"))) (mVar 1) (mC (.str (Str.ofString "9")))) [1]) mNil)) σ S))) (mRet (mC (.bl false))) mNext)
    (mRet (mOr (mBin oEq (mVar 0) (mC (.str (Str.ofString "0")))) (mBin oNe (mBin oIx (mVar 0) (mC (.int 0))) (mC (.str (Str.ofString "0"))))))))
def F_is_number (ca : CA) : C3 := defF false 1 (m_is_number ca)
def m_is_from_to (ca : CA) : S3 :=
    (mRet (mAnd (mMake fIsi (mCons (mVar 0) (mCons (mC (.ty "int")) mNil))) (mAnd (mNot (mMake fIsi (mCons (mVar 0) (mCons (mC (.ty "bool")) mNil)))) (mChain oLeA oLeA (mVar 1) (mVar 0) (mVar 2)))))
def F_is_from_to (ca : CA) : C3 := defF false 0 (m_is_from_to ca)
def m_is_place (ca : CA) : S3 :=
    (mRet (mMake (withLen 3 (F_is_from_to ca)) (mCons (mVar 0) (mCons (mC (.int 0)) (mCons (mC (.int 1000000000)) mNil)))))
def F_is_place (ca : CA) : C3 := defF false 0 (m_is_place ca)
def m_is_written_place (ca : CA) : S3 :=
    (mRet (mAnd (mMake (withLen 1 (F_is_number ca)) (mCons (mVar 0) mNil)) (mMake (withLen 1 (F_is_place ca)) (mCons (mMake fIntS (mCons (mVar 0) mNil)) mNil))))
def F_is_written_place (ca : CA) : C3 := defF false 0 (m_is_written_place ca)
def m_is_colour (ca : CA) : S3 :=
    (mSeq (mIfS (tOr3 (tNot3 (fun σ S => asT ((mMake fIsi (mCons (mVar 0) (mCons (mC (.ty "str")) mNil))) σ S))) (tNot3 (fun σ S => asB (mChain oLeA oLeA (mC (.int 1)) (mMake fLen (mCons (mVar 0) mNil)) (mC (.int 8)) σ S)))) (mRet (mC (.bl false))) mNext)
    (mRet (mMake fAll (mCons (mComp false (mWalk (mVar 0)) (g3Name 1) tTrue3 (mChain oLeA oLeA (mC (.str (Str.ofString "a"))) (mVar 1) (mC (.str (Str.ofString "z")))) [1]) mNil))))
def F_is_colour (ca : CA) : C3 := defF false 1 (m_is_colour ca)
def m_goes_on (ca : CA) : S3 :=
    (mSeq (mAsg (mBin oIx (mVar 0) (mVar 1)) (g3Name 2))
    (mSeq (mAsg (mBin oMod (mVar 1) (mC (.int 4))) (g3Name 3))
    (mSeq (mIfS (fun σ S => asB (mBin oEq (mVar 3) (mC (.int 0)) σ S)) (mRet (mMake (withLen 1 (F_is_written_place ca)) (mCons (mVar 2) mNil))) mNext)
    (mSeq (mIfS (fun σ S => asB (mBin oEq (mVar 3) (mC (.int 1)) σ S)) (mRet (mAnd (mMake (withLen 1 (F_is_written_place ca)) (mCons (mVar 2) mNil)) (mBin oLeA (mMake fIntS (mCons (mBin oIx (mVar 0) (mBin oSub (mVar 1) (mC (.int 1)))) mNil)) (mMake fIntS (mCons (mVar 2) mNil))))) mNext)
    (mSeq (mIfS (fun σ S => asB (mBin oEq (mVar 3) (mC (.int 2)) σ S)) (mRet (mMake (withLen 1 (F_is_colour ca)) (mCons (mVar 2) mNil))) mNext)
    (mRet (mBin oEq (mVar 2) (mC (.str (Str.ofString "/"))))))))))
def F_goes_on (ca : CA) : C3 := defF false 2 (m_goes_on ca)
def m_is_stretch (ca : CA) : S3 :=
    (mSeq (mIfS (tOr3 (tNot3 (fun σ S => asT ((mMake fIsi (mCons (mVar 0) (mCons (mC (.ty "tuple")) mNil))) σ S))) (fun σ S => asB (mBin oNe (mMake fLen (mCons (mVar 0) mNil)) (mC (.int 2)) σ S))) (mRet (mC (.bl false))) mNext)
    (mSeq (mAsg (mVar 0) (g3Tup 2 (g3Cons (g3Name 1) (g3Cons (g3Name 2) g3Nil))))
    (mRet (mAnd (mMake (withLen 1 (F_is_place ca)) (mCons (mVar 1) mNil)) (mAnd (mMake (withLen 1 (F_is_place ca)) (mCons (mVar 2) mNil)) (mBin oLeA (mVar 1) (mVar 2)))))))
def F_is_stretch (ca : CA) : C3 := defF false 2 (m_is_stretch ca)
def m_is_stroke (ca : CA) : S3 :=
    (mSeq (mIfS (tOr3 (tNot3 (fun σ S => asT ((mMake fIsi (mCons (mVar 0) (mCons (mC (.ty "tuple")) mNil))) σ S))) (fun σ S => asB (mBin oNe (mMake fLen (mCons (mVar 0) mNil)) (mC (.int 3)) σ S))) (mRet (mC (.bl false))) mNext)
    (mSeq (mAsg (mVar 0) (g3Tup 3 (g3Cons (g3Name 1) (g3Cons (g3Name 2) (g3Cons (g3Name 3) g3Nil)))))
    (mRet (mAnd (mMake (withLen 1 (F_is_stretch ca)) (mCons (mMake mkTup (mCons (mVar 1) (mCons (mVar 2) mNil))) mNil)) (mMake (withLen 1 (F_is_colour ca)) (mCons (mVar 3) mNil))))))
def F_is_stroke (ca : CA) : C3 := defF false 3 (m_is_stroke ca)
def m_own_stroke (ca : CA) : S3 :=
    (mSeq (mIfS (tNot3 (fun σ S => asT ((mMake (withLen 1 (F_is_stroke ca)) (mCons (mVar 0) mNil)) σ S))) (mRaise ca.BadStroke) mNext)
    (mSeq (mAsg (mVar 0) (g3Tup 3 (g3Cons (g3Name 1) (g3Cons (g3Name 2) (g3Cons (g3Name 3) g3Nil)))))
    (mRet (mMake mkTup (mCons (mVar 1) (mCons (mVar 2) (mCons (mVar 3) mNil)))))))
def F_own_stroke (ca : CA) : C3 := defF false 3 (m_own_stroke ca)
def m_Book_init_ (ca : CA) : S3 :=
    (mSeq (mIfS (tNot3 (fun σ S => asT ((mMake fIsi (mCons (mVar 1) (mCons (mMake mkTup (mCons (mC (.ty "tuple")) (mCons (mC (.ty "list")) mNil))) mNil))) σ S))) (mRaise ca.BadStroke) mNext)
    (mSetFld ca.Book "_strokes" (mVar 0) (mCompG true (mWk (mVar 1)) (g3Name 2) tTrue3 (mMake (withLen 1 (F_own_stroke ca)) (mCons (mVar 2) mNil)) [2])))
def F_Book_init_ (ca : CA) : C3 := defF true 1 (m_Book_init_ ca)
def m_read (ca : CA) : S3 :=
    (mSeq (mIfS (tNot3 (fun σ S => asT ((mMake fIsi (mCons (mVar 0) (mCons (mC (.ty "str")) mNil))) σ S))) mBadS mNext)
    (mSeq (mAsg (mIf3 (fun σ S => asT ((mVar 0) σ S)) (mSplit (mVar 0) (mC (.str (Str.ofString " ")))) (mMake mkLst mNil)) (g3Name 1))
    (mSeq (mFor (mRange1 (mCons (mMake fLen (mCons (mVar 1) mNil)) mNil)) (g3Name 2) (mIfS (tNot3 (fun σ S => asT ((mMake (withLen 2 (F_goes_on ca)) (mCons (mVar 1) (mCons (mVar 2) mNil))) σ S))) mBadS mNext))
    (mSeq (mIfS (tAnd3 (fun σ S => asT ((mVar 1) σ S)) (fun σ S => asB (mBin oNe (mBin oMod (mMake fLen (mCons (mVar 1) mNil)) (mC (.int 4))) (mC (.int 3)) σ S))) mBadS mNext)
    (mRet (mNew ca.Book (fun ds => withLen 2 (F_Book_init_ ca) (ds ++ [])) (mCons (mComp false (mRange3 (mCons (mC (.int 0)) (mCons (mMake fLen (mCons (mVar 1) mNil)) (mCons (mC (.int 4)) mNil)))) (g3Name 2) tTrue3 (mMake mkTup (mCons (mMake fIntS (mCons (mBin oIx (mVar 1) (mVar 2)) mNil)) (mCons (mMake fIntS (mCons (mBin oIx (mVar 1) (mBin (oCat false) (mVar 2) (mC (.int 1)))) mNil)) (mCons (mBin oIx (mVar 1) (mBin (oCat false) (mVar 2) (mC (.int 2)))) mNil)))) [2]) mNil)))))))
def F_read (ca : CA) : C3 := defF true 2 (m_read ca)
def m_Book_strokes (ca : CA) : S3 :=
    (mRet (mMake fTuple (mCons (mCompG false (mWk (mFld ca.Book "_strokes" (mVar 0))) (g3Tup 3 (g3Cons (g3Name 1) (g3Cons (g3Name 2) (g3Cons (g3Name 3) g3Nil)))) tTrue3 (mMake mkTup (mCons (mVar 1) (mCons (mVar 2) (mCons (mVar 3) mNil)))) [1, 2, 3]) mNil)))
def F_Book_strokes (ca : CA) : C3 := defF false 3 (m_Book_strokes ca)
def m_l_each_right (ca : CA) : S3 :=
    (mSeq (mFor (mRange1 (mCons (mC (.int 26)) mNil)) (g3Name 0) (mSeq (mAsg (mBin oMulS (mBin oIx (mMake (withLen 0 (F_l_letters ca)) mNil) (mVar 0)) (mBin (oCat false) (mC (.int 1)) (mBin oMod (mVar 0) (mC (.int 8))))) (g3Name 1))
    (mIfS (fun σ S => asB (mBin oNe (mMake fRepr (mCons (mMeth ca.Book "strokes" (withLen 1 (F_Book_strokes ca)) (mMake (withLen 1 (F_read ca)) (mCons (mBin (oCat false) (mC (.str (Str.ofString "0 9 "))) (mVar 1)) mNil)) mNil) mNil)) (mMake fRepr (mCons (mMake mkTup (mCons (mMake mkTup (mCons (mC (.int 0)) (mCons (mC (.int 9)) (mCons (mVar 1) mNil)))) mNil)) mNil)) σ S)) (mRet (mC (.bl false))) mNext)))
    (mRet (mC (.bl true))))
def F_l_each_right (ca : CA) : C3 := defF false 2 (m_l_each_right ca)
def m_l_fresh (ca : CA) : S3 :=
    (mSeq (mAsg (mBin oIx (mVar 0) (mC (.int 1))) (g3Name 1))
    (mSeq (mSetIx (mVar 0) (mC (.int 1)) (mBin (oCat false) (mVar 1) (mC (.int 1))))
    (mSeq (mAsg (mBin (oCat false) (mBin oMulA (mC (.int 29)) (mVar 1)) (mC (.int 13))) (g3Name 2))
    (mSeq (mIfS (fun σ S => asB (mBin oGtA (mMake fLen (mCons (mBin oIx (mVar 0) (mC (.int 0))) mNil)) (mC (.int 0)) σ S)) (mAsg (mBin oIx (mBin oIx (mVar 0) (mC (.int 0))) (mBin oMod (mVar 1) (mMake fLen (mCons (mBin oIx (mVar 0) (mC (.int 0))) mNil)))) (g3Name 2)) mNext)
    (mSeq (mIfS (tAnd3 (fun σ S => asB (mBin oLtA (mVar 1) (mMake fLen (mCons (mBin oIx (mVar 0) (mC (.int 0))) mNil)) σ S)) (fun σ S => asB (mBin oGeA (mVar 2) (mBin oPow (mC (.int 10)) (mC (.int 18))) σ S))) (mRet (mVar 2)) mNext)
    (mSeq (mAsg (mBin oMod (mBin oPow (mBin (oCat false) (mBin (oCat false) (mBin oMulA (mBin oMod (mVar 2) (mC (.int 1000000009))) (mBin (oCat false) (mVar 1) (mC (.int 3)))) (mBin oMulA (mC (.int 99991)) (mVar 1))) (mC (.int 23))) (mC (.int 3))) (mC (.int 2147483587))) (g3Name 3))
    (mSeq (mAsg (mBin oMod (mBin oPow (mBin (oCat false) (mBin (oCat false) (mBin oMulA (mVar 3) (mBin (oCat false) (mVar 1) (mC (.int 7)))) (mBin oMod (mVar 2) (mC (.int 65521)))) (mC (.int 2))) (mC (.int 5))) (mC (.int 2147483563))) (g3Name 4))
    (mSeq (mAsg (mBin oMod (mBin (oCat false) (mBin (oCat false) (mBin oMulA (mVar 4) (mVar 4)) (mVar 3)) (mBin oMulA (mC (.int 5)) (mVar 1))) (mC (.int 2147483549))) (g3Name 5))
    (mRet (mBin (oCat false) (mBin oMulA (mBin (oCat false) (mBin oMulA (mVar 5) (mC (.int 2147483587))) (mVar 4)) (mC (.int 2147483563))) (mVar 3)))))))))))
def F_l_fresh (ca : CA) : C3 := defF false 5 (m_l_fresh ca)
def m_l_draw (ca : CA) : S3 :=
    (mSeq (mIfS (fun σ S => asB (mBin oLtA (mBin oIx (mVar 0) (mC (.int 2))) (mVar 1) σ S)) (mSetIx (mVar 0) (mC (.int 2)) (mMake (withLen 1 (F_l_fresh ca)) (mCons (mVar 0) mNil))) mNext)
    (mSeq (mAsg (mBin oMod (mBin oIx (mVar 0) (mC (.int 2))) (mVar 1)) (g3Name 2))
    (mSeq (mSetIx (mVar 0) (mC (.int 2)) (mBin oDiv (mBin oIx (mVar 0) (mC (.int 2))) (mVar 1)))
    (mRet (mVar 2)))))
def F_l_draw (ca : CA) : C3 := defF false 1 (m_l_draw ca)
def m_l_stretch (ca : CA) : S3 :=
    (mSeq (mAsg (mMake fSorted (mCons (mMake mkLst (mCons (mMake (withLen 2 (F_l_draw ca)) (mCons (mVar 0) (mCons (mMake fLen (mCons (mVar 1) mNil)) mNil))) (mCons (mMake (withLen 2 (F_l_draw ca)) (mCons (mVar 0) (mCons (mMake fLen (mCons (mVar 1) mNil)) mNil))) mNil))) mNil)) (g3Name 2))
    (mRet (mMake mkTup (mCons (mBin oIx (mVar 1) (mBin oIx (mVar 2) (mC (.int 0)))) (mCons (mBin oIx (mVar 1) (mBin oIx (mVar 2) (mC (.int 1)))) mNil)))))
def F_l_stretch (ca : CA) : C3 := defF false 1 (m_l_stretch ca)
def m_l_rows (ca : CA) : S3 :=
    (mRet (mMake fTuple (mCons (mComp false (mRange1 (mCons (mVar 3) mNil)) (g3Name 4) tTrue3 (mBin (oCat false) (mMake (withLen 2 (F_l_stretch ca)) (mCons (mVar 0) (mCons (mVar 1) mNil))) (mMake mkTup (mCons (mBin oIx (mVar 2) (mMake (withLen 2 (F_l_draw ca)) (mCons (mVar 0) (mCons (mMake fLen (mCons (mVar 2) mNil)) mNil)))) mNil))) [4]) mNil)))
def F_l_rows (ca : CA) : C3 := defF false 1 (m_l_rows ca)
def m_Book_str_ (ca : CA) : S3 :=
    (mRet (mJoin (mC (.str (Str.ofString " / "))) (mCompG false (mWk (mFld ca.Book "_strokes" (mVar 0))) (g3Tup 3 (g3Cons (g3Name 1) (g3Cons (g3Name 2) (g3Cons (g3Name 3) g3Nil)))) tTrue3 (mJs [(mFmt (mVar 1)), (mC (.str (Str.ofString " "))), (mFmt (mVar 2)), (mC (.str (Str.ofString " "))), (mFmt (mVar 3))]) [1, 2, 3])))
def F_Book_str_ (ca : CA) : C3 := defF false 3 (m_Book_str_ ca)
def m_l_writing (ca : CA) : S3 :=
    (mRet (mJoin (mC (.str (Str.ofString " / "))) (mComp false (mWalk (mVar 0)) (g3Tup 3 (g3Cons (g3Name 1) (g3Cons (g3Name 2) (g3Cons (g3Name 3) g3Nil)))) tTrue3 (mBin (oCat false) (mBin (oCat false) (mBin (oCat false) (mBin (oCat false) (mMake (fOr (insAt ca.Book "__str__") (fOwnM ca.Book "__str__" (F_Book_str_ ca) okStr) fStrI) (mCons (mVar 1) mNil)) (mC (.str (Str.ofString " ")))) (mMake (fOr (insAt ca.Book "__str__") (fOwnM ca.Book "__str__" (F_Book_str_ ca) okStr) fStrI) (mCons (mVar 2) mNil))) (mC (.str (Str.ofString " ")))) (mVar 3)) [1, 2, 3])))
def F_l_writing (ca : CA) : C3 := defF false 3 (m_l_writing ca)
def m_l_lot (ca : CA) : S3 :=
    (mSeq (mAsg (mMake mkOpen mNil) (g3Name 2))
    (mSeq (mAsg (mMake (withLen 2 (F_l_draw ca)) (mCons (mVar 0) (mCons (mC (.int 3)) mNil))) (g3Name 3))
    (mSeq (mFor (mRange1 (mCons (mVar 1) mNil)) (g3Name 4) (mSeq (mExpr (mMethL fAppend (mVar 2) (mCons (mVar 3) mNil)))
    (mAsg (mBin (oCat false) (mBin (oCat false) (mVar 3) (mC (.int 1))) (mBin oIx (mMake mkLst (mCons (mC (.int 0)) (mCons (mC (.int 0)) (mCons (mC (.int 1)) (mCons (mC (.int 2)) (mCons (mC (.int 50)) (mCons (mBin oPow (mC (.int 10)) (mC (.int 7))) mNil))))))) (mMake (withLen 2 (F_l_draw ca)) (mCons (mVar 0) (mCons (mC (.int 6)) mNil))))) (g3Name 3))))
    (mSeq (mIfS (fun σ S => asB (mBin oEq (mMake (withLen 2 (F_l_draw ca)) (mCons (mVar 0) (mCons (mC (.int 3)) mNil))) (mC (.int 0)) σ S)) (mSetIx (mVar 2) (mNeg (mC (.int 1))) (mBin oPow (mC (.int 10)) (mC (.int 9)))) mNext)
    (mRet (mVar 2))))))
def F_l_lot (ca : CA) : C3 := defF false 3 (m_l_lot ca)
def m_l_dyes (ca : CA) : S3 :=
    (mSeq (mAsg (mMake mkOpen mNil) (g3Name 2))
    (mSeq (mFor (mRange1 (mCons (mVar 1) mNil)) (g3Name 3) (mSeq (mAsg (mBin (oCat false) (mC (.int 1)) (mMake (withLen 2 (F_l_draw ca)) (mCons (mVar 0) (mCons (mC (.int 8)) mNil)))) (g3Name 4))
    (mExpr (mMethL fAppend (mVar 2) (mCons (mJoin (mC (.str (Str.ofString ""))) (mComp false (mRange1 (mCons (mVar 4) mNil)) (g3Name 5) tTrue3 (mBin oIx (mMake (withLen 0 (F_l_letters ca)) mNil) (mMake (withLen 2 (F_l_draw ca)) (mCons (mVar 0) (mCons (mC (.int 26)) mNil)))) [5])) mNil)))))
    (mRet (mVar 2))))
def F_l_dyes (ca : CA) : C3 := defF false 4 (m_l_dyes ca)
def m_Book_put (ca : CA) : S3 :=
    (mSeq (mIfS (tNot3 (fun σ S => asT ((mMake (withLen 3 (F_is_from_to ca)) (mCons (mVar 1) (mCons (mC (.int 0)) (mCons (mMake fLen (mCons (mFld ca.Book "_strokes" (mVar 0)) mNil)) mNil)))) σ S))) (mRaise ca.NoSlot) mNext)
    (mExpr (mMethL fInsert (mFld ca.Book "_strokes" (mVar 0)) (mCons (mVar 1) (mCons (mMake (withLen 1 (F_own_stroke ca)) (mCons (mVar 2) mNil)) mNil)))))
def F_Book_put (ca : CA) : C3 := defF false 0 (m_Book_put ca)
def m_law (ca : CA) : S3 :=
    (mSeq (mAsg (mMake (withLen 1 (F_l_pen ca)) (mCons (mVar 0) mNil)) (g3Name 1))
    (mSeq (mIfS (tNot3 (fun σ S => asT ((mMake (withLen 0 (F_l_each_right ca)) mNil) σ S))) (mRet (mC (.bl false))) mNext)
    (mSeq (mFor (mRange1 (mCons (mC (.int 6)) mNil)) (g3Name 2) (mSeq (mPar 5 6 (mCons (mMake (withLen 2 (F_l_lot ca)) (mCons (mVar 1) (mCons (mC (.int 7)) mNil))) (mCons (mMake (withLen 2 (F_l_dyes ca)) (mCons (mVar 1) (mCons (mC (.int 4)) mNil))) mNil)))
    (mSeq (mAsg (mMake (withLen 4 (F_l_rows ca)) (mCons (mVar 1) (mCons (mVar 5) (mCons (mVar 6) (mCons (mIf3 (fun σ S => asB (mBin (oEqO ca.Book (F_Book_eq_ ca)) (mVar 2) (mC (.int 5)) σ S)) (mC (.int 59)) (mMake (withLen 2 (F_l_draw ca)) (mCons (mVar 1) (mCons (mC (.int 9)) mNil)))) mNil))))) (g3Name 3))
    (mSeq (mAsg (mMake (withLen 1 (F_l_writing ca)) (mCons (mVar 3) mNil)) (g3Name 4))
    (mSeq (mPar 7 8 (mCons (mMake (withLen 1 (F_read ca)) (mCons (mVar 4) mNil)) (mCons (mMake (withLen 1 (F_read ca)) (mCons (mVar 4) mNil)) mNil)))
    (mSeq (mIfS (tOr3 (fun σ S => asB (mBin (oOr (insAt ca.Book "__eq__") (oOwn2 ca.Book (F_Book_eq_ ca) true) oNe) (mMake fRepr (mCons (mMeth ca.Book "strokes" (withLen 1 (F_Book_strokes ca)) (mVar 7) mNil) mNil)) (mMake fRepr (mCons (mVar 3) mNil)) σ S)) (tOr3 (fun σ S => asB (mBin (oOr (insAt ca.Book "__eq__") (oOwn2 ca.Book (F_Book_eq_ ca) true) oNe) (mVar 7) (mNew ca.Book (fun ds => withLen 2 (F_Book_init_ ca) (ds ++ [])) (mCons (mVar 3) mNil)) σ S)) (fun σ S => asB (mBin (oOr (insAt ca.Book "__eq__") (oOwn2 ca.Book (F_Book_eq_ ca) true) oNe) (mMake (fOr (insAt ca.Book "__str__") (fOwnM ca.Book "__str__" (F_Book_str_ ca) okStr) fStrI) (mCons (mVar 7) mNil)) (mVar 4) σ S)))) (mRet (mC (.bl false))) mNext)
    (mSeq (mExpr (mMeth ca.Book "put" (withLen 3 (F_Book_put ca)) (mVar 7) (mCons (mC (.int 0)) (mCons (mMake mkTup (mCons (mC (.int 0)) (mCons (mC (.int 0)) (mCons (mC (.str (Str.ofString "a"))) mNil)))) mNil))))
    (mIfS (tOr3 (fun σ S => asB (mBin (oOr (insAt ca.Book "__eq__") (oOwn2 ca.Book (F_Book_eq_ ca) true) oNe) (mMake fRepr (mCons (mMeth ca.Book "strokes" (withLen 1 (F_Book_strokes ca)) (mVar 8) mNil) mNil)) (mMake fRepr (mCons (mVar 3) mNil)) σ S)) (fun σ S => asB (mBin (oOr (insAt ca.Book "__eq__") (oOwn2 ca.Book (F_Book_eq_ ca) true) oNe) (mMake fRepr (mCons (mMeth ca.Book "strokes" (withLen 1 (F_Book_strokes ca)) (mVar 7) mNil) mNil)) (mMake fRepr (mCons (mBin (oCat false) (mMake mkTup (mCons (mMake mkTup (mCons (mC (.int 0)) (mCons (mC (.int 0)) (mCons (mC (.str (Str.ofString "a"))) mNil)))) mNil)) (mVar 3)) mNil)) σ S))) (mRet (mC (.bl false))) mNext))))))))
    (mRet (mAnd (mBin (oEqO ca.Book (F_Book_eq_ ca)) (mMeth ca.Book "strokes" (withLen 1 (F_Book_strokes ca)) (mMake (withLen 1 (F_read ca)) (mCons (mC (.str (Str.ofString ""))) mNil)) mNil) (mMake mkTup mNil)) (mBin (oEqO ca.Book (F_Book_eq_ ca)) (mMeth ca.Book "strokes" (withLen 1 (F_Book_strokes ca)) (mMake (withLen 1 (F_read ca)) (mCons (mC (.str (Str.ofString "0 1000000000 zzzzzzzz"))) mNil)) mNil) (mMake mkTup (mCons (mMake mkTup (mCons (mC (.int 0)) (mCons (mBin oPow (mC (.int 10)) (mC (.int 9))) (mCons (mC (.str (Str.ofString "zzzzzzzz"))) mNil)))) mNil))))))))
def F_law (ca : CA) : C3 := defF false 8 (m_law ca)
end
end Lw
end

section
set_option Elab.async false
set_option linter.all false
set_option maxRecDepth 100000
set_option maxHeartbeats 4000000
namespace Lw
open PySem PySem.Spec PyProof.Rows L2 DL
def topS (i : Nat) : Stmt := PySem.Challenge.pw_pastlay_k12_writings_read.main.body.getD i (.Pass ⟨0, 0, 0, 0⟩)
abbrev s_Book_eq_ : Stmt := L2.inClass (topS 15) 6
abbrev n_Book_eq_ : List Str := ["self", "other"]
theorem sc_Book_eq_ : FnScope n_Book_eq_ ["self", "other"] (defScope s_Book_eq_) := ⟨rfl, rfl, rfl, by decide +kernel, rfl, by decide +kernel, by decide +kernel⟩
abbrev s_l_pen : Stmt := topS 22
abbrev n_l_pen : List Str := ["script"]
theorem sc_l_pen : FnScope n_l_pen ["script"] (defScope s_l_pen) := ⟨rfl, rfl, rfl, by decide +kernel, rfl, by decide +kernel, by decide +kernel⟩
abbrev s_l_letters : Stmt := topS 27
abbrev n_l_letters : List Str := []
theorem sc_l_letters : FnScope n_l_letters [] (defScope s_l_letters) := ⟨rfl, rfl, rfl, by decide +kernel, rfl, by decide +kernel, by decide +kernel⟩
abbrev s_is_number : Stmt := topS 17
abbrev n_is_number : List Str := ["word", "sign"]
theorem sc_is_number : FnScope n_is_number ["word"] (defScope s_is_number) := ⟨rfl, rfl, rfl, by decide +kernel, rfl, by decide +kernel, by decide +kernel⟩
abbrev s_is_from_to : Stmt := topS 8
abbrev n_is_from_to : List Str := ["thing", "least", "most"]
theorem sc_is_from_to : FnScope n_is_from_to ["thing", "least", "most"] (defScope s_is_from_to) := ⟨rfl, rfl, rfl, by decide +kernel, rfl, by decide +kernel, by decide +kernel⟩
abbrev s_is_place : Stmt := topS 9
abbrev n_is_place : List Str := ["thing"]
theorem sc_is_place : FnScope n_is_place ["thing"] (defScope s_is_place) := ⟨rfl, rfl, rfl, by decide +kernel, rfl, by decide +kernel, by decide +kernel⟩
abbrev s_is_written_place : Stmt := topS 18
abbrev n_is_written_place : List Str := ["word"]
theorem sc_is_written_place : FnScope n_is_written_place ["word"] (defScope s_is_written_place) := ⟨rfl, rfl, rfl, by decide +kernel, rfl, by decide +kernel, by decide +kernel⟩
abbrev s_is_colour : Stmt := topS 11
abbrev n_is_colour : List Str := ["thing", "sign"]
theorem sc_is_colour : FnScope n_is_colour ["thing"] (defScope s_is_colour) := ⟨rfl, rfl, rfl, by decide +kernel, rfl, by decide +kernel, by decide +kernel⟩
abbrev s_goes_on : Stmt := topS 19
abbrev n_goes_on : List Str := ["words", "at", "word", "part"]
theorem sc_goes_on : FnScope n_goes_on ["words", "at"] (defScope s_goes_on) := ⟨rfl, rfl, rfl, by decide +kernel, rfl, by decide +kernel, by decide +kernel⟩
abbrev s_is_stretch : Stmt := topS 10
abbrev n_is_stretch : List Str := ["thing", "low", "high"]
theorem sc_is_stretch : FnScope n_is_stretch ["thing"] (defScope s_is_stretch) := ⟨rfl, rfl, rfl, by decide +kernel, rfl, by decide +kernel, by decide +kernel⟩
abbrev s_is_stroke : Stmt := topS 12
abbrev n_is_stroke : List Str := ["thing", "low", "high", "colour"]
theorem sc_is_stroke : FnScope n_is_stroke ["thing"] (defScope s_is_stroke) := ⟨rfl, rfl, rfl, by decide +kernel, rfl, by decide +kernel, by decide +kernel⟩
abbrev s_own_stroke : Stmt := topS 14
abbrev n_own_stroke : List Str := ["stroke", "low", "high", "colour"]
theorem sc_own_stroke : FnScope n_own_stroke ["stroke"] (defScope s_own_stroke) := ⟨rfl, rfl, rfl, by decide +kernel, rfl, by decide +kernel, by decide +kernel⟩
abbrev s_Book_init_ : Stmt := L2.inClass (topS 15) 0
abbrev n_Book_init_ : List Str := ["self", "strokes", "stroke"]
theorem sc_Book_init_ : FnScope n_Book_init_ ["self", "strokes"] (defScope s_Book_init_) := ⟨rfl, rfl, rfl, by decide +kernel, rfl, by decide +kernel, by decide +kernel⟩
abbrev s_read : Stmt := topS 20
abbrev n_read : List Str := ["text", "words", "at"]
theorem sc_read : FnScope n_read ["text"] (defScope s_read) := ⟨rfl, rfl, rfl, by decide +kernel, rfl, by decide +kernel, by decide +kernel⟩
abbrev s_Book_strokes : Stmt := L2.inClass (topS 15) 3
abbrev n_Book_strokes : List Str := ["self", "low", "high", "colour"]
theorem sc_Book_strokes : FnScope n_Book_strokes ["self"] (defScope s_Book_strokes) := ⟨rfl, rfl, rfl, by decide +kernel, rfl, by decide +kernel, by decide +kernel⟩
abbrev s_l_each_right : Stmt := topS 31
abbrev n_l_each_right : List Str := ["k", "dye"]
theorem sc_l_each_right : FnScope n_l_each_right [] (defScope s_l_each_right) := ⟨rfl, rfl, rfl, by decide +kernel, rfl, by decide +kernel, by decide +kernel⟩
abbrev s_l_fresh : Stmt := topS 23
abbrev n_l_fresh : List Str := ["pen", "at", "cell", "one", "two", "three"]
theorem sc_l_fresh : FnScope n_l_fresh ["pen"] (defScope s_l_fresh) := ⟨rfl, rfl, rfl, by decide +kernel, rfl, by decide +kernel, by decide +kernel⟩
abbrev s_l_draw : Stmt := topS 24
abbrev n_l_draw : List Str := ["pen", "often", "digit"]
theorem sc_l_draw : FnScope n_l_draw ["pen", "often"] (defScope s_l_draw) := ⟨rfl, rfl, rfl, by decide +kernel, rfl, by decide +kernel, by decide +kernel⟩
abbrev s_l_stretch : Stmt := topS 26
abbrev n_l_stretch : List Str := ["pen", "lot", "some"]
theorem sc_l_stretch : FnScope n_l_stretch ["pen", "lot"] (defScope s_l_stretch) := ⟨rfl, rfl, rfl, by decide +kernel, rfl, by decide +kernel, by decide +kernel⟩
abbrev s_l_rows : Stmt := topS 29
abbrev n_l_rows : List Str := ["pen", "lot", "dyes", "tally", "turn"]
theorem sc_l_rows : FnScope n_l_rows ["pen", "lot", "dyes", "tally"] (defScope s_l_rows) := ⟨rfl, rfl, rfl, by decide +kernel, rfl, by decide +kernel, by decide +kernel⟩
abbrev s_Book_str_ : Stmt := L2.inClass (topS 15) 8
abbrev n_Book_str_ : List Str := ["self", "low", "high", "colour"]
theorem sc_Book_str_ : FnScope n_Book_str_ ["self"] (defScope s_Book_str_) := ⟨rfl, rfl, rfl, by decide +kernel, rfl, by decide +kernel, by decide +kernel⟩
abbrev s_l_writing : Stmt := topS 30
abbrev n_l_writing : List Str := ["rows", "low", "high", "dye"]
theorem sc_l_writing : FnScope n_l_writing ["rows"] (defScope s_l_writing) := ⟨rfl, rfl, rfl, by decide +kernel, rfl, by decide +kernel, by decide +kernel⟩
abbrev s_l_lot : Stmt := topS 25
abbrev n_l_lot : List Str := ["pen", "size", "found", "at", "turn"]
theorem sc_l_lot : FnScope n_l_lot ["pen", "size"] (defScope s_l_lot) := ⟨rfl, rfl, rfl, by decide +kernel, rfl, by decide +kernel, by decide +kernel⟩
abbrev s_l_dyes : Stmt := topS 28
abbrev n_l_dyes : List Str := ["pen", "tally", "some", "turn", "size", "k"]
theorem sc_l_dyes : FnScope n_l_dyes ["pen", "tally"] (defScope s_l_dyes) := ⟨rfl, rfl, rfl, by decide +kernel, rfl, by decide +kernel, by decide +kernel⟩
abbrev s_Book_put : Stmt := L2.inClass (topS 15) 1
abbrev n_Book_put : List Str := ["self", "slot", "stroke"]
theorem sc_Book_put : FnScope n_Book_put ["self", "slot", "stroke"] (defScope s_Book_put) := ⟨rfl, rfl, rfl, by decide +kernel, rfl, by decide +kernel, by decide +kernel⟩
abbrev s_law : Stmt := topS 32
abbrev n_law : List Str := ["script", "pen", "turn", "rows", "line", "lot", "dyes", "one", "other"]
theorem sc_law : FnScope n_law ["script"] (defScope s_law) := ⟨rfl, rfl, rfl, by decide +kernel, rfl, by decide +kernel, by decide +kernel⟩
abbrev bn : List Str := ["isinstance", "list", "all", "len", "int", "bool", "str", "tuple", "range", "repr", "sorted"]
section
variable {P : Program} {w : World} {K : PySem.W.Frag} {mg : Str → Option Value} {base : Heap}
theorem ok_Book_eq_ {ca : CA} {f : Addr} {fd : FuncData} (F : Fun K "__eq__" "Book.__eq__" s_Book_eq_ f fd) (nb : Free mg bn) (c_Book : Cls K ca.Book) (n_Book_0 : NoAttr K ca.Book "_strokes") (i_Book : Isi3 K ca.Book) (g_Book : mg "Book" = some (.ref ca.Book)) : FnOk3 P w K mg base 1 f fd ["self", "other"] (F_Book_eq_ ca) := by
  refine fn3 false F sc_Book_eq_ fun cdv A outer s H E hr => ?_
  have tk : Takes (cxOf (L2.CX P w) P w K mg base n_Book_eq_ "Book.__eq__" (defScope s_Book_eq_) f cdv A outer s H E) (outW E) := takes_of rfl rfl rfl rfl
  have po : PassesOwn (model P w) (A.deeper (envOfC "Book.__eq__" (defScope s_Book_eq_) s.heap.objs.size f cdv)) (envOfC "Book.__eq__" (defScope s_Book_eq_) s.heap.objs.size f cdv) (cxOf (L2.CX P w) P w K mg base n_Book_eq_ "Book.__eq__" (defScope s_Book_eq_) f cdv A outer s H E).xe := PassesOwn.leaving
  have nd := (sc_Book_eq_).nd
  exact (ss_one (s_ret (e_and (e_callB call_isiO (fIsiO_s i_Book) (by rfl) (nb "isinstance" (by decide)) (by decide +kernel) (a_cons (e_var 1 (pv 1)) (a_cons (e_class (by rfl) g_Book) a_nil))) (e_one (e_cmp (op_eqD hr.room.units) oEq_s (e_fld (e_var 0 (pv 0)) c_Book n_Book_0 (by rfl)) (e_fld (e_var 1 (pv 1)) c_Book n_Book_0 (by rfl)) (nomark _))))))
theorem ok_l_pen {ca : CA} {f : Addr} {fd : FuncData} (F : Fun K "_law_pen" "_law_pen" s_l_pen f fd) (nb : Free mg bn) (c_Book : Cls K ca.Book) (n_Book_0 : NoAttr K ca.Book "_strokes") : FnOk3 P w K mg base 1 f fd ["script"] (F_l_pen ca) := by
  refine fn3 true F sc_l_pen fun cdv A outer s H E hr => ?_
  have tk : Takes (cxOf (L2.CX P w) P w K mg base n_l_pen "_law_pen" (defScope s_l_pen) f cdv A outer s H E) (outW E) := takes_of rfl rfl rfl rfl
  have po : PassesOwn (model P w) (A.deeper (envOfC "_law_pen" (defScope s_l_pen) s.heap.objs.size f cdv)) (envOfC "_law_pen" (defScope s_l_pen) s.heap.objs.size f cdv) (cxOf (L2.CX P w) P w K mg base n_l_pen "_law_pen" (defScope s_l_pen) f cdv A outer s H E).xe := PassesOwn.leaving
  have nd := (sc_l_pen).nd
  exact (ss_one (s_ret (e_lstO (a_cons (e_callTy call_list_of fList_s (by rfl) (nb "list" (by decide)) (by decide +kernel) (a_cons (e_slice false (e_var 0 (pv 0)) o_none (o_some e_int)) a_nil)) (a_cons e_int (a_cons e_int a_nil))))))
theorem ok_l_letters {ca : CA} {f : Addr} {fd : FuncData} (F : Fun K "_law_letters" "_law_letters" s_l_letters f fd) (nb : Free mg bn) (c_Book : Cls K ca.Book) (n_Book_0 : NoAttr K ca.Book "_strokes") : FnOk3 P w K mg base 1 f fd [] (F_l_letters ca) := by
  refine fn3 false F sc_l_letters fun cdv A outer s H E hr => ?_
  have tk : Takes (cxOf (L2.CX P w) P w K mg base n_l_letters "_law_letters" (defScope s_l_letters) f cdv A outer s H E) (outW E) := takes_of rfl rfl rfl rfl
  have po : PassesOwn (model P w) (A.deeper (envOfC "_law_letters" (defScope s_l_letters) s.heap.objs.size f cdv)) (envOfC "_law_letters" (defScope s_l_letters) s.heap.objs.size f cdv) (cxOf (L2.CX P w) P w K mg base n_l_letters "_law_letters" (defScope s_l_letters) f cdv A outer s H E).xe := PassesOwn.leaving
  have nd := (sc_l_letters).nd
  exact (ss_one (s_ret e_str))
theorem ok_is_number {ca : CA} {f : Addr} {fd : FuncData} (F : Fun K "is_number" "is_number" s_is_number f fd) (nb : Free mg bn) (c_Book : Cls K ca.Book) (n_Book_0 : NoAttr K ca.Book "_strokes") : FnOk3 P w K mg base 1 f fd ["word"] (F_is_number ca) := by
  refine fn3 false F sc_is_number fun cdv A outer s H E hr => ?_
  have tk : Takes (cxOf (L2.CX P w) P w K mg base n_is_number "is_number" (defScope s_is_number) f cdv A outer s H E) (outW E) := takes_of rfl rfl rfl rfl
  have po : PassesOwn (model P w) (A.deeper (envOfC "is_number" (defScope s_is_number) s.heap.objs.size f cdv)) (envOfC "is_number" (defScope s_is_number) s.heap.objs.size f cdv) (cxOf (L2.CX P w) P w K mg base n_is_number "is_number" (defScope s_is_number) f cdv A outer s H E).xe := PassesOwn.leaving
  have nd := (sc_is_number).nd
  exact (ss_cons (s_if (t_not (t_chain op_leA cmpG_s op_leA cmpG_s e_int (e_callB call_len fLen_s (by rfl) (nb "len" (by decide)) (by decide +kernel) (a_cons (e_var 0 (pv 0)) a_nil)) e_int)) (ss_one (s_ret e_bl)) ss_nil)
      (ss_cons (s_if (t_not (t_truth (e_callB (cr_all rfl) fAll_s (by rfl) (nb "all" (by decide)) (by decide +kernel) (a_cons (e_comp false (own := [("sign", 1)]) rfl nd (i_seq (e_var 0 (pv 0))) (blkOk_by (own := [("sign", 1)]) (N := n_is_number) (sc := defScope s_is_number) (by decide +kernel)) (fun _ _ _ _ _ => (g_name (pg_name (i := 1) nd rfl (by first | exact Or.inl rfl | exact Or.inr rfl)))) (fun _ _ _ _ _ => ts_nil) (fun _ _ _ _ _ => (e_chain op_leA cmpG_s op_leA cmpG_s e_str (e_var 1 (pv 1)) e_str)) (by decide)) a_nil)))) (ss_one (s_ret e_bl)) ss_nil)
      (ss_one (s_ret (e_or (e_cmp (op_eqD hr.room.units) oEq_s (e_var 0 (pv 0)) e_str (nomark _)) (e_one (e_cmp (op_neD hr.room.units) oNe_s (e_ix (e_var 0 (pv 0)) e_int) e_str (nomark _))))))))
theorem ok_is_from_to {ca : CA} {f : Addr} {fd : FuncData} (F : Fun K "is_from_to" "is_from_to" s_is_from_to f fd) (nb : Free mg bn) (c_Book : Cls K ca.Book) (n_Book_0 : NoAttr K ca.Book "_strokes") : FnOk3 P w K mg base 1 f fd ["thing", "least", "most"] (F_is_from_to ca) := by
  refine fn3 false F sc_is_from_to fun cdv A outer s H E hr => ?_
  have tk : Takes (cxOf (L2.CX P w) P w K mg base n_is_from_to "is_from_to" (defScope s_is_from_to) f cdv A outer s H E) (outW E) := takes_of rfl rfl rfl rfl
  have po : PassesOwn (model P w) (A.deeper (envOfC "is_from_to" (defScope s_is_from_to) s.heap.objs.size f cdv)) (envOfC "is_from_to" (defScope s_is_from_to) s.heap.objs.size f cdv) (cxOf (L2.CX P w) P w K mg base n_is_from_to "is_from_to" (defScope s_is_from_to) f cdv A outer s H E).xe := PassesOwn.leaving
  have nd := (sc_is_from_to).nd
  exact (ss_one (s_ret (e_and (e_callB call_isiA fIsi_s (by rfl) (nb "isinstance" (by decide)) (by decide +kernel) (a_cons (e_var 0 (pv 0)) (a_cons (e_type (by rfl) (nb "int" (by decide)) (by decide +kernel)) a_nil))) (e_and (e_not (e_callB call_isiA fIsi_s (by rfl) (nb "isinstance" (by decide)) (by decide +kernel) (a_cons (e_var 0 (pv 0)) (a_cons (e_type (by rfl) (nb "bool" (by decide)) (by decide +kernel)) a_nil)))) (e_one (e_chain op_leA cmpG_s op_leA cmpG_s (e_var 1 (pv 1)) (e_var 0 (pv 0)) (e_var 2 (pv 2))))))))
theorem ok_is_place {ca : CA} {f : Addr} {fd : FuncData} (F : Fun K "is_place" "is_place" s_is_place f fd) (nb : Free mg bn) (c_Book : Cls K ca.Book) (n_Book_0 : NoAttr K ca.Book "_strokes") (c_is_from_to : Cal3 P w K mg base 1 "is_from_to" 3 (F_is_from_to ca)) (q_LAST : ∃ t, mg "LAST" = some (.int 1000000000 t)) : FnOk3 P w K mg base 2 f fd ["thing"] (F_is_place ca) := by
  refine fn3 false F sc_is_place fun cdv A outer s H E hr => ?_
  have tk : Takes (cxOf (L2.CX P w) P w K mg base n_is_place "is_place" (defScope s_is_place) f cdv A outer s H E) (outW E) := takes_of rfl rfl rfl rfl
  have po : PassesOwn (model P w) (A.deeper (envOfC "is_place" (defScope s_is_place) s.heap.objs.size f cdv)) (envOfC "is_place" (defScope s_is_place) s.heap.objs.size f cdv) (cxOf (L2.CX P w) P w K mg base n_is_place "is_place" (defScope s_is_place) f cdv A outer s H E).xe := PassesOwn.leaving
  have nd := (sc_is_place).nd
  exact (ss_one (s_ret (e_c3 c_is_from_to hr (by decide) tk (by rfl) (a_cons (e_var 0 (pv 0)) (a_cons e_int (a_cons (e_globI (by rfl) q_LAST) a_nil))))))
theorem ok_is_written_place {ca : CA} {f : Addr} {fd : FuncData} (F : Fun K "is_written_place" "is_written_place" s_is_written_place f fd) (nb : Free mg bn) (c_Book : Cls K ca.Book) (n_Book_0 : NoAttr K ca.Book "_strokes") (c_is_number : Cal3 P w K mg base 1 "is_number" 1 (F_is_number ca)) (c_is_place : Cal3 P w K mg base 2 "is_place" 1 (F_is_place ca)) : FnOk3 P w K mg base 3 f fd ["word"] (F_is_written_place ca) := by
  refine fn3 false F sc_is_written_place fun cdv A outer s H E hr => ?_
  have tk : Takes (cxOf (L2.CX P w) P w K mg base n_is_written_place "is_written_place" (defScope s_is_written_place) f cdv A outer s H E) (outW E) := takes_of rfl rfl rfl rfl
  have po : PassesOwn (model P w) (A.deeper (envOfC "is_written_place" (defScope s_is_written_place) s.heap.objs.size f cdv)) (envOfC "is_written_place" (defScope s_is_written_place) s.heap.objs.size f cdv) (cxOf (L2.CX P w) P w K mg base n_is_written_place "is_written_place" (defScope s_is_written_place) f cdv A outer s H E).xe := PassesOwn.leaving
  have nd := (sc_is_written_place).nd
  exact (ss_one (s_ret (e_and (e_c3 c_is_number hr (by decide) tk (by rfl) (a_cons (e_var 0 (pv 0)) a_nil)) (e_one (e_c3 c_is_place hr (by decide) tk (by rfl) (a_cons (e_callTy call_int_str fIntS_s (by rfl) (nb "int" (by decide)) (by decide +kernel) (a_cons (e_var 0 (pv 0)) a_nil)) a_nil))))))
theorem ok_is_colour {ca : CA} {f : Addr} {fd : FuncData} (F : Fun K "is_colour" "is_colour" s_is_colour f fd) (nb : Free mg bn) (c_Book : Cls K ca.Book) (n_Book_0 : NoAttr K ca.Book "_strokes") : FnOk3 P w K mg base 1 f fd ["thing"] (F_is_colour ca) := by
  refine fn3 false F sc_is_colour fun cdv A outer s H E hr => ?_
  have tk : Takes (cxOf (L2.CX P w) P w K mg base n_is_colour "is_colour" (defScope s_is_colour) f cdv A outer s H E) (outW E) := takes_of rfl rfl rfl rfl
  have po : PassesOwn (model P w) (A.deeper (envOfC "is_colour" (defScope s_is_colour) s.heap.objs.size f cdv)) (envOfC "is_colour" (defScope s_is_colour) s.heap.objs.size f cdv) (cxOf (L2.CX P w) P w K mg base n_is_colour "is_colour" (defScope s_is_colour) f cdv A outer s H E).xe := PassesOwn.leaving
  have nd := (sc_is_colour).nd
  exact (ss_cons (s_if (PW3.pt (w_or (t_not (t_truth (e_callB call_isiA fIsi_s (by rfl) (nb "isinstance" (by decide)) (by decide +kernel) (a_cons (e_var 0 (pv 0)) (a_cons (e_type (by rfl) (nb "str" (by decide)) (by decide +kernel)) a_nil))))) (w_or1 (t_not (t_chain op_leA cmpG_s op_leA cmpG_s e_int (e_callB call_len fLen_s (by rfl) (nb "len" (by decide)) (by decide +kernel) (a_cons (e_var 0 (pv 0)) a_nil)) e_int))))) (ss_one (s_ret e_bl)) ss_nil)
      (ss_one (s_ret (e_callB (cr_all rfl) fAll_s (by rfl) (nb "all" (by decide)) (by decide +kernel) (a_cons (e_comp false (own := [("sign", 1)]) rfl nd (i_seq (e_var 0 (pv 0))) (blkOk_by (own := [("sign", 1)]) (N := n_is_colour) (sc := defScope s_is_colour) (by decide +kernel)) (fun _ _ _ _ _ => (g_name (pg_name (i := 1) nd rfl (by first | exact Or.inl rfl | exact Or.inr rfl)))) (fun _ _ _ _ _ => ts_nil) (fun _ _ _ _ _ => (e_chain op_leA cmpG_s op_leA cmpG_s e_str (e_var 1 (pv 1)) e_str)) (by decide)) a_nil)))))
theorem ok_goes_on {ca : CA} {f : Addr} {fd : FuncData} (F : Fun K "goes_on" "goes_on" s_goes_on f fd) (nb : Free mg bn) (c_Book : Cls K ca.Book) (n_Book_0 : NoAttr K ca.Book "_strokes") (c_is_written_place : Cal3 P w K mg base 3 "is_written_place" 1 (F_is_written_place ca)) (c_is_colour : Cal3 P w K mg base 1 "is_colour" 1 (F_is_colour ca)) : FnOk3 P w K mg base 4 f fd ["words", "at"] (F_goes_on ca) := by
  refine fn3 false F sc_goes_on fun cdv A outer s H E hr => ?_
  have tk : Takes (cxOf (L2.CX P w) P w K mg base n_goes_on "goes_on" (defScope s_goes_on) f cdv A outer s H E) (outW E) := takes_of rfl rfl rfl rfl
  have po : PassesOwn (model P w) (A.deeper (envOfC "goes_on" (defScope s_goes_on) s.heap.objs.size f cdv)) (envOfC "goes_on" (defScope s_goes_on) s.heap.objs.size f cdv) (cxOf (L2.CX P w) P w K mg base n_goes_on "goes_on" (defScope s_goes_on) f cdv A outer s H E).xe := PassesOwn.leaving
  have nd := (sc_goes_on).nd
  exact (ss_cons (s_set (i := 2) nd rfl (Or.inl rfl) (e_ix (e_var 0 (pv 0)) (e_var 1 (pv 1))))
      (ss_cons (s_set (i := 3) nd rfl (Or.inl rfl) (e_bin op_mod oMod_s (e_var 1 (pv 1)) e_int))
      (ss_cons (s_if (t_cmp (op_eqD hr.room.units) oEq_s (e_var 3 (pv 3)) e_int (nomark _)) (ss_one (s_ret (e_c3 c_is_written_place hr (by decide) tk (by rfl) (a_cons (e_var 2 (pv 2)) a_nil)))) ss_nil)
      (ss_cons (s_if (t_cmp (op_eqD hr.room.units) oEq_s (e_var 3 (pv 3)) e_int (nomark _)) (ss_one (s_ret (e_and (e_c3 c_is_written_place hr (by decide) tk (by rfl) (a_cons (e_var 2 (pv 2)) a_nil)) (e_one (e_cmp op_leA cmpG_s (e_callTy call_int_str fIntS_s (by rfl) (nb "int" (by decide)) (by decide +kernel) (a_cons (e_ix (e_var 0 (pv 0)) (e_bin op_sub oSub_s (e_var 1 (pv 1)) e_int)) a_nil)) (e_callTy call_int_str fIntS_s (by rfl) (nb "int" (by decide)) (by decide +kernel) (a_cons (e_var 2 (pv 2)) a_nil)) (nomark _)))))) ss_nil)
      (ss_cons (s_if (t_cmp (op_eqD hr.room.units) oEq_s (e_var 3 (pv 3)) e_int (nomark _)) (ss_one (s_ret (e_c3 c_is_colour hr (by decide) tk (by rfl) (a_cons (e_var 2 (pv 2)) a_nil)))) ss_nil)
      (ss_one (s_ret (e_cmp (op_eqD hr.room.units) oEq_s (e_var 2 (pv 2)) e_str (nomark _)))))))))
theorem ok_is_stretch {ca : CA} {f : Addr} {fd : FuncData} (F : Fun K "is_stretch" "is_stretch" s_is_stretch f fd) (nb : Free mg bn) (c_Book : Cls K ca.Book) (n_Book_0 : NoAttr K ca.Book "_strokes") (c_is_place : Cal3 P w K mg base 2 "is_place" 1 (F_is_place ca)) : FnOk3 P w K mg base 3 f fd ["thing"] (F_is_stretch ca) := by
  refine fn3 false F sc_is_stretch fun cdv A outer s H E hr => ?_
  have tk : Takes (cxOf (L2.CX P w) P w K mg base n_is_stretch "is_stretch" (defScope s_is_stretch) f cdv A outer s H E) (outW E) := takes_of rfl rfl rfl rfl
  have po : PassesOwn (model P w) (A.deeper (envOfC "is_stretch" (defScope s_is_stretch) s.heap.objs.size f cdv)) (envOfC "is_stretch" (defScope s_is_stretch) s.heap.objs.size f cdv) (cxOf (L2.CX P w) P w K mg base n_is_stretch "is_stretch" (defScope s_is_stretch) f cdv A outer s H E).xe := PassesOwn.leaving
  have nd := (sc_is_stretch).nd
  exact (ss_cons (s_if (PW3.pt (w_or (t_not (t_truth (e_callB call_isiA fIsi_s (by rfl) (nb "isinstance" (by decide)) (by decide +kernel) (a_cons (e_var 0 (pv 0)) (a_cons (e_type (by rfl) (nb "tuple" (by decide)) (by decide +kernel)) a_nil))))) (w_or1 (t_cmp (op_neD hr.room.units) oNe_s (e_callB call_len fLen_s (by rfl) (nb "len" (by decide)) (by decide +kernel) (a_cons (e_var 0 (pv 0)) a_nil)) e_int (nomark _))))) (ss_one (s_ret e_bl)) ss_nil)
      (ss_cons (s_asg (e_var 0 (pv 0)) (g_tup rfl (gs_cons (g_name (pg_name (i := 1) nd rfl (Or.inl rfl))) (gs_cons (g_name (pg_name (i := 2) nd rfl (Or.inl rfl))) gs_nil))))
      (ss_one (s_ret (e_and (e_c3 c_is_place hr (by decide) tk (by rfl) (a_cons (e_var 1 (pv 1)) a_nil)) (e_and (e_c3 c_is_place hr (by decide) tk (by rfl) (a_cons (e_var 2 (pv 2)) a_nil)) (e_one (e_cmp op_leA cmpG_s (e_var 1 (pv 1)) (e_var 2 (pv 2)) (nomark _)))))))))
theorem ok_is_stroke {ca : CA} {f : Addr} {fd : FuncData} (F : Fun K "is_stroke" "is_stroke" s_is_stroke f fd) (nb : Free mg bn) (c_Book : Cls K ca.Book) (n_Book_0 : NoAttr K ca.Book "_strokes") (c_is_stretch : Cal3 P w K mg base 3 "is_stretch" 1 (F_is_stretch ca)) (c_is_colour : Cal3 P w K mg base 1 "is_colour" 1 (F_is_colour ca)) : FnOk3 P w K mg base 4 f fd ["thing"] (F_is_stroke ca) := by
  refine fn3 false F sc_is_stroke fun cdv A outer s H E hr => ?_
  have tk : Takes (cxOf (L2.CX P w) P w K mg base n_is_stroke "is_stroke" (defScope s_is_stroke) f cdv A outer s H E) (outW E) := takes_of rfl rfl rfl rfl
  have po : PassesOwn (model P w) (A.deeper (envOfC "is_stroke" (defScope s_is_stroke) s.heap.objs.size f cdv)) (envOfC "is_stroke" (defScope s_is_stroke) s.heap.objs.size f cdv) (cxOf (L2.CX P w) P w K mg base n_is_stroke "is_stroke" (defScope s_is_stroke) f cdv A outer s H E).xe := PassesOwn.leaving
  have nd := (sc_is_stroke).nd
  exact (ss_cons (s_if (PW3.pt (w_or (t_not (t_truth (e_callB call_isiA fIsi_s (by rfl) (nb "isinstance" (by decide)) (by decide +kernel) (a_cons (e_var 0 (pv 0)) (a_cons (e_type (by rfl) (nb "tuple" (by decide)) (by decide +kernel)) a_nil))))) (w_or1 (t_cmp (op_neD hr.room.units) oNe_s (e_callB call_len fLen_s (by rfl) (nb "len" (by decide)) (by decide +kernel) (a_cons (e_var 0 (pv 0)) a_nil)) e_int (nomark _))))) (ss_one (s_ret e_bl)) ss_nil)
      (ss_cons (s_asg (e_var 0 (pv 0)) (g_tup rfl (gs_cons (g_name (pg_name (i := 1) nd rfl (Or.inl rfl))) (gs_cons (g_name (pg_name (i := 2) nd rfl (Or.inl rfl))) (gs_cons (g_name (pg_name (i := 3) nd rfl (Or.inl rfl))) gs_nil)))))
      (ss_one (s_ret (e_and (e_c3 c_is_stretch hr (by decide) tk (by rfl) (a_cons (e_tup (a_cons (e_var 1 (pv 1)) (a_cons (e_var 2 (pv 2)) a_nil))) a_nil)) (e_one (e_c3 c_is_colour hr (by decide) tk (by rfl) (a_cons (e_var 3 (pv 3)) a_nil))))))))
theorem ok_own_stroke {ca : CA} {f : Addr} {fd : FuncData} (F : Fun K "own_stroke" "own_stroke" s_own_stroke f fd) (nb : Free mg bn) (c_Book : Cls K ca.Book) (n_Book_0 : NoAttr K ca.Book "_strokes") (c_is_stroke : Cal3 P w K mg base 4 "is_stroke" 1 (F_is_stroke ca)) (x_BadStroke : Exc3 K mg ca.BadStroke "BadStroke") : FnOk3 P w K mg base 5 f fd ["stroke"] (F_own_stroke ca) := by
  refine fn3 false F sc_own_stroke fun cdv A outer s H E hr => ?_
  have tk : Takes (cxOf (L2.CX P w) P w K mg base n_own_stroke "own_stroke" (defScope s_own_stroke) f cdv A outer s H E) (outW E) := takes_of rfl rfl rfl rfl
  have po : PassesOwn (model P w) (A.deeper (envOfC "own_stroke" (defScope s_own_stroke) s.heap.objs.size f cdv)) (envOfC "own_stroke" (defScope s_own_stroke) s.heap.objs.size f cdv) (cxOf (L2.CX P w) P w K mg base n_own_stroke "own_stroke" (defScope s_own_stroke) f cdv A outer s H E).xe := PassesOwn.leaving
  have nd := (sc_own_stroke).nd
  exact (ss_cons (s_if (t_not (t_truth (e_c3 c_is_stroke hr (by decide) tk (by rfl) (a_cons (e_var 0 (pv 0)) a_nil)))) (ss_one (s_raise3 x_BadStroke rfl tk (by rfl))) ss_nil)
      (ss_cons (s_asg (e_var 0 (pv 0)) (g_tup rfl (gs_cons (g_name (pg_name (i := 1) nd rfl (Or.inl rfl))) (gs_cons (g_name (pg_name (i := 2) nd rfl (Or.inl rfl))) (gs_cons (g_name (pg_name (i := 3) nd rfl (Or.inl rfl))) gs_nil)))))
      (ss_one (s_ret (e_tup (a_cons (e_var 1 (pv 1)) (a_cons (e_var 2 (pv 2)) (a_cons (e_var 3 (pv 3)) a_nil))))))))
theorem ok_Book_init_ {ca : CA} {dvs : List V} {f : Addr} {fd : FuncData} (F : FunD K "__init__" "Book.__init__" (defArgs s_Book_init_) (defBody s_Book_init_) (defScope s_Book_init_) dvs [] f fd) (nb : Free mg bn) (c_Book : Cls K ca.Book) (n_Book_0 : NoAttr K ca.Book "_strokes") (c_own_stroke : Cal3 P w K mg base 5 "own_stroke" 1 (F_own_stroke ca)) (x_BadStroke : Exc3 K mg ca.BadStroke "BadStroke") : FnOk3 P w K mg base 6 f fd ["self", "strokes"] (F_Book_init_ ca) := by
  refine fn3D true F sc_Book_init_ fun cdv A outer s H E hr => ?_
  have tk : Takes (cxOf (L2.CX P w) P w K mg base n_Book_init_ "Book.__init__" (defScope s_Book_init_) f cdv A outer s H E) (outW E) := takes_of rfl rfl rfl rfl
  have po : PassesOwn (model P w) (A.deeper (envOfC "Book.__init__" (defScope s_Book_init_) s.heap.objs.size f cdv)) (envOfC "Book.__init__" (defScope s_Book_init_) s.heap.objs.size f cdv) (cxOf (L2.CX P w) P w K mg base n_Book_init_ "Book.__init__" (defScope s_Book_init_) f cdv A outer s H E).xe := PassesOwn.leaving
  have nd := (sc_Book_init_).nd
  exact (ss_cons (s_if (t_not (t_truth (e_callB call_isiA fIsi_s (by rfl) (nb "isinstance" (by decide)) (by decide +kernel) (a_cons (e_var 1 (pv 1)) (a_cons (e_tup (a_cons (e_type (by rfl) (nb "tuple" (by decide)) (by decide +kernel)) (a_cons (e_type (by rfl) (nb "list" (by decide)) (by decide +kernel)) a_nil))) a_nil))))) (ss_one (s_raise3 x_BadStroke rfl tk (by rfl))) ss_nil)
      (ss_one (s_fld (e_var 0 (pv 0)) (e_compG true (own := [("stroke", 2)]) rfl nd (i_wk (e_var 1 (pv 1))) (blkOk_by (own := [("stroke", 2)]) (N := n_Book_init_) (sc := defScope s_Book_init_) (by decide +kernel)) (fun _ _ _ _ _ => (g_name (pg_name (i := 2) nd rfl (by first | exact Or.inl rfl | exact Or.inr rfl)))) (fun _ _ _ _ _ => ts_nil) (fun _ _ _ _ _ => (e_c3 c_own_stroke hr (by decide) takes0 (by rfl) (a_cons (e_var 2 (pv 2)) a_nil))) (by decide)) c_Book n_Book_0)))
theorem ok_read {ca : CA} {f : Addr} {fd : FuncData} (F : Fun K "read" "read" s_read f fd) (nb : Free mg bn) (c_Book : Cls K ca.Book) (n_Book_0 : NoAttr K ca.Book "_strokes") (c_goes_on : Cal3 P w K mg base 4 "goes_on" 2 (F_goes_on ca)) (w_Book1 : New3 P w K mg base 6 ca.Book "Book" 2 [] (F_Book_init_ ca)) : FnOk3 P w K mg base 8 f fd ["text"] (F_read ca) := by
  refine fn3 true F sc_read fun cdv A outer s H E hr => ?_
  have tk : Takes (cxOf (L2.CX P w) P w K mg base n_read "read" (defScope s_read) f cdv A outer s H E) (outW E) := takes_of rfl rfl rfl rfl
  have po : PassesOwn (model P w) (A.deeper (envOfC "read" (defScope s_read) s.heap.objs.size f cdv)) (envOfC "read" (defScope s_read) s.heap.objs.size f cdv) (cxOf (L2.CX P w) P w K mg base n_read "read" (defScope s_read) f cdv A outer s H E).xe := PassesOwn.leaving
  have nd := (sc_read).nd
  exact (ss_cons (s_if (t_not (t_truth (e_callB call_isiA fIsi_s (by rfl) (nb "isinstance" (by decide)) (by decide +kernel) (a_cons (e_var 0 (pv 0)) (a_cons (e_type (by rfl) (nb "str" (by decide)) (by decide +kernel)) a_nil))))) (ss_one s_bad) ss_nil)
      (ss_cons (s_set (i := 1) nd rfl (Or.inr rfl) (e_if (t_truth (e_var 0 (pv 0))) (e_split (e_var 0 (pv 0)) e_str) (e_lst a_nil)))
      (ss_cons (s_for po rfl (i_range1 (by rfl) (nb "range" (by decide)) (a_cons (e_callB call_len fLen_s (by rfl) (nb "len" (by decide)) (by decide +kernel) (a_cons (e_var 1 (pv 1)) a_nil)) a_nil)) (g_name (pg_name (i := 2) nd rfl (Or.inl rfl))) (ss_one (s_if (t_not (t_truth (e_c3 c_goes_on hr (by decide) tk (by rfl) (a_cons (e_var 1 (pv 1)) (a_cons (e_var 2 (pv 2)) a_nil))))) (ss_one s_bad) ss_nil)))
      (ss_cons (s_if (PW3.pt (w_and (t_truth (e_var 1 (pv 1))) (w_and1 (t_cmp (op_neD hr.room.units) oNe_s (e_bin op_mod oMod_s (e_callB call_len fLen_s (by rfl) (nb "len" (by decide)) (by decide +kernel) (a_cons (e_var 1 (pv 1)) a_nil)) e_int) e_int (nomark _))))) (ss_one s_bad) ss_nil)
      (ss_one (s_ret (e_n3 w_Book1 hr (by decide) tk (by rfl) (a_cons (e_comp false (own := [("at", 2)]) rfl nd (i_range3 (by rfl) (nb "range" (by decide)) (a_cons e_int (a_cons (e_callB call_len fLen_s (by rfl) (nb "len" (by decide)) (by decide +kernel) (a_cons (e_var 1 (pv 1)) a_nil)) (a_cons e_int a_nil)))) (blkOk_by (own := [("at", 2)]) (N := n_read) (sc := defScope s_read) (by decide +kernel)) (fun _ _ _ _ _ => (g_name (pg_name (i := 2) nd rfl (by first | exact Or.inl rfl | exact Or.inr rfl)))) (fun _ _ _ _ _ => ts_nil) (fun _ _ _ _ _ => (e_tup (a_cons (e_callTy call_int_str fIntS_s (by rfl) (nb "int" (by decide)) (by decide +kernel) (a_cons (e_ix (e_var 1 (pv 1)) (e_var 2 (pv 2))) a_nil)) (a_cons (e_callTy call_int_str fIntS_s (by rfl) (nb "int" (by decide)) (by decide +kernel) (a_cons (e_ix (e_var 1 (pv 1)) (e_bin op_catAll (oCat_s false) (e_var 2 (pv 2)) e_int)) a_nil)) (a_cons (e_ix (e_var 1 (pv 1)) (e_bin op_catAll (oCat_s false) (e_var 2 (pv 2)) e_int)) a_nil))))) (by decide)) a_nil))))))))
theorem ok_Book_strokes {ca : CA} {f : Addr} {fd : FuncData} (F : Fun K "strokes" "Book.strokes" s_Book_strokes f fd) (nb : Free mg bn) (c_Book : Cls K ca.Book) (n_Book_0 : NoAttr K ca.Book "_strokes") : FnOk3 P w K mg base 1 f fd ["self"] (F_Book_strokes ca) := by
  refine fn3 false F sc_Book_strokes fun cdv A outer s H E hr => ?_
  have tk : Takes (cxOf (L2.CX P w) P w K mg base n_Book_strokes "Book.strokes" (defScope s_Book_strokes) f cdv A outer s H E) (outW E) := takes_of rfl rfl rfl rfl
  have po : PassesOwn (model P w) (A.deeper (envOfC "Book.strokes" (defScope s_Book_strokes) s.heap.objs.size f cdv)) (envOfC "Book.strokes" (defScope s_Book_strokes) s.heap.objs.size f cdv) (cxOf (L2.CX P w) P w K mg base n_Book_strokes "Book.strokes" (defScope s_Book_strokes) f cdv A outer s H E).xe := PassesOwn.leaving
  have nd := (sc_Book_strokes).nd
  exact (ss_one (s_ret (e_callTy call_tuple_of fTuple_s (by rfl) (nb "tuple" (by decide)) (by decide +kernel) (a_cons (e_compG false (own := [("low", 1), ("high", 2), ("colour", 3)]) rfl nd (i_wk (e_fld (e_var 0 (pv 0)) c_Book n_Book_0 (by rfl))) (blkOk_by (own := [("low", 1), ("high", 2), ("colour", 3)]) (N := n_Book_strokes) (sc := defScope s_Book_strokes) (by decide +kernel)) (fun _ _ _ _ _ => (g_tup rfl (gs_cons (g_name (pg_name (i := 1) nd rfl (by first | exact Or.inl rfl | exact Or.inr rfl))) (gs_cons (g_name (pg_name (i := 2) nd rfl (by first | exact Or.inl rfl | exact Or.inr rfl))) (gs_cons (g_name (pg_name (i := 3) nd rfl (by first | exact Or.inl rfl | exact Or.inr rfl))) gs_nil))))) (fun _ _ _ _ _ => ts_nil) (fun _ _ _ _ _ => (e_tup (a_cons (e_var 1 (pv 1)) (a_cons (e_var 2 (pv 2)) (a_cons (e_var 3 (pv 3)) a_nil))))) (by decide)) a_nil))))
theorem ok_l_each_right {ca : CA} {f : Addr} {fd : FuncData} (F : Fun K "_law_each_right" "_law_each_right" s_l_each_right f fd) (nb : Free mg bn) (c_Book : Cls K ca.Book) (n_Book_0 : NoAttr K ca.Book "_strokes") (c_l_letters : Cal3 P w K mg base 1 "_law_letters" 0 (F_l_letters ca)) (c_read : Cal3 P w K mg base 8 "read" 1 (F_read ca)) (h_Book_strokes : Met3 P w K mg base 1 ca.Book "strokes" 1 (F_Book_strokes ca)) : FnOk3 P w K mg base 9 f fd [] (F_l_each_right ca) := by
  refine fn3 false F sc_l_each_right fun cdv A outer s H E hr => ?_
  have tk : Takes (cxOf (L2.CX P w) P w K mg base n_l_each_right "_law_each_right" (defScope s_l_each_right) f cdv A outer s H E) (outW E) := takes_of rfl rfl rfl rfl
  have po : PassesOwn (model P w) (A.deeper (envOfC "_law_each_right" (defScope s_l_each_right) s.heap.objs.size f cdv)) (envOfC "_law_each_right" (defScope s_l_each_right) s.heap.objs.size f cdv) (cxOf (L2.CX P w) P w K mg base n_l_each_right "_law_each_right" (defScope s_l_each_right) f cdv A outer s H E).xe := PassesOwn.leaving
  have nd := (sc_l_each_right).nd
  exact (ss_cons (s_for po rfl (i_range1 (by rfl) (nb "range" (by decide)) (a_cons e_int a_nil)) (g_name (pg_name (i := 0) nd rfl (Or.inl rfl))) (ss_cons (s_set (i := 1) nd rfl (Or.inl rfl) (e_bin op_mulS oMulS_s (e_ix (e_c30 c_l_letters hr (by decide) tk (by rfl)) (e_var 0 (pv 0))) (e_bin op_catAll (oCat_s false) e_int (e_bin op_mod oMod_s (e_var 0 (pv 0)) e_int))))
      (ss_one (s_if (t_cmp (op_neD hr.room.units) oNe_s (e_callB (call_repr3 hr.free hr.room.units) fRepr_s (by rfl) (nb "repr" (by decide)) (by decide +kernel) (a_cons (e_m30 h_Book_strokes c_Book hr (by decide) tk (e_c3 c_read hr (by decide) tk (by rfl) (a_cons (e_bin op_catAll (oCat_s false) e_str (e_var 1 (pv 1))) a_nil))) a_nil)) (e_callB (call_repr3 hr.free hr.room.units) fRepr_s (by rfl) (nb "repr" (by decide)) (by decide +kernel) (a_cons (e_tup (a_cons (e_tup (a_cons e_int (a_cons e_int (a_cons (e_var 1 (pv 1)) a_nil)))) a_nil)) a_nil)) (nomark _)) (ss_one (s_ret e_bl)) ss_nil))))
      (ss_one (s_ret e_bl)))
theorem ok_l_fresh {ca : CA} {f : Addr} {fd : FuncData} (F : Fun K "_law_fresh" "_law_fresh" s_l_fresh f fd) (nb : Free mg bn) (c_Book : Cls K ca.Book) (n_Book_0 : NoAttr K ca.Book "_strokes") : FnOk3 P w K mg base 1 f fd ["pen"] (F_l_fresh ca) := by
  refine fn3 false F sc_l_fresh fun cdv A outer s H E hr => ?_
  have tk : Takes (cxOf (L2.CX P w) P w K mg base n_l_fresh "_law_fresh" (defScope s_l_fresh) f cdv A outer s H E) (outW E) := takes_of rfl rfl rfl rfl
  have po : PassesOwn (model P w) (A.deeper (envOfC "_law_fresh" (defScope s_l_fresh) s.heap.objs.size f cdv)) (envOfC "_law_fresh" (defScope s_l_fresh) s.heap.objs.size f cdv) (cxOf (L2.CX P w) P w K mg base n_l_fresh "_law_fresh" (defScope s_l_fresh) f cdv A outer s H E).xe := PassesOwn.leaving
  have nd := (sc_l_fresh).nd
  exact (ss_cons (s_set (i := 1) nd rfl (Or.inl rfl) (e_ix (e_var 0 (pv 0)) e_int))
      (ss_cons (s_setIx (e_bin op_catAll (oCat_s false) (e_var 1 (pv 1)) e_int) (e_var 0 (pv 0)) e_int)
      (ss_cons (s_set (i := 2) nd rfl (Or.inl rfl) (e_bin op_catAll (oCat_s false) (e_bin op_mulA oMulA_s e_int (e_var 1 (pv 1))) e_int))
      (ss_cons (s_if (t_cmp op_gtA cmpG_s (e_callB call_len fLen_s (by rfl) (nb "len" (by decide)) (by decide +kernel) (a_cons (e_ix (e_var 0 (pv 0)) e_int) a_nil)) e_int (nomark _)) (ss_one (s_set (i := 2) nd rfl (Or.inl rfl) (e_ix (e_ix (e_var 0 (pv 0)) e_int) (e_bin op_mod oMod_s (e_var 1 (pv 1)) (e_callB call_len fLen_s (by rfl) (nb "len" (by decide)) (by decide +kernel) (a_cons (e_ix (e_var 0 (pv 0)) e_int) a_nil)))))) ss_nil)
      (ss_cons (s_if (PW3.pt (w_and (t_cmp op_ltA cmpG_s (e_var 1 (pv 1)) (e_callB call_len fLen_s (by rfl) (nb "len" (by decide)) (by decide +kernel) (a_cons (e_ix (e_var 0 (pv 0)) e_int) a_nil)) (nomark _)) (w_and1 (t_cmp op_geA cmpG_s (e_var 2 (pv 2)) (e_bin op_pow oPow_s e_int e_int) (nomark _))))) (ss_one (s_ret (e_var 2 (pv 2)))) ss_nil)
      (ss_cons (s_set (i := 3) nd rfl (Or.inl rfl) (e_bin op_mod oMod_s (e_bin op_pow oPow_s (e_bin op_catAll (oCat_s false) (e_bin op_catAll (oCat_s false) (e_bin op_mulA oMulA_s (e_bin op_mod oMod_s (e_var 2 (pv 2)) e_int) (e_bin op_catAll (oCat_s false) (e_var 1 (pv 1)) e_int)) (e_bin op_mulA oMulA_s e_int (e_var 1 (pv 1)))) e_int) e_int) e_int))
      (ss_cons (s_set (i := 4) nd rfl (Or.inl rfl) (e_bin op_mod oMod_s (e_bin op_pow oPow_s (e_bin op_catAll (oCat_s false) (e_bin op_catAll (oCat_s false) (e_bin op_mulA oMulA_s (e_var 3 (pv 3)) (e_bin op_catAll (oCat_s false) (e_var 1 (pv 1)) e_int)) (e_bin op_mod oMod_s (e_var 2 (pv 2)) e_int)) e_int) e_int) e_int))
      (ss_cons (s_set (i := 5) nd rfl (Or.inl rfl) (e_bin op_mod oMod_s (e_bin op_catAll (oCat_s false) (e_bin op_catAll (oCat_s false) (e_bin op_mulA oMulA_s (e_var 4 (pv 4)) (e_var 4 (pv 4))) (e_var 3 (pv 3))) (e_bin op_mulA oMulA_s e_int (e_var 1 (pv 1)))) e_int))
      (ss_one (s_ret (e_bin op_catAll (oCat_s false) (e_bin op_mulA oMulA_s (e_bin op_catAll (oCat_s false) (e_bin op_mulA oMulA_s (e_var 5 (pv 5)) e_int) (e_var 4 (pv 4))) e_int) (e_var 3 (pv 3)))))))))))))
theorem ok_l_draw {ca : CA} {f : Addr} {fd : FuncData} (F : Fun K "_law_draw" "_law_draw" s_l_draw f fd) (nb : Free mg bn) (c_Book : Cls K ca.Book) (n_Book_0 : NoAttr K ca.Book "_strokes") (c_l_fresh : Cal3 P w K mg base 1 "_law_fresh" 1 (F_l_fresh ca)) : FnOk3 P w K mg base 2 f fd ["pen", "often"] (F_l_draw ca) := by
  refine fn3 false F sc_l_draw fun cdv A outer s H E hr => ?_
  have tk : Takes (cxOf (L2.CX P w) P w K mg base n_l_draw "_law_draw" (defScope s_l_draw) f cdv A outer s H E) (outW E) := takes_of rfl rfl rfl rfl
  have po : PassesOwn (model P w) (A.deeper (envOfC "_law_draw" (defScope s_l_draw) s.heap.objs.size f cdv)) (envOfC "_law_draw" (defScope s_l_draw) s.heap.objs.size f cdv) (cxOf (L2.CX P w) P w K mg base n_l_draw "_law_draw" (defScope s_l_draw) f cdv A outer s H E).xe := PassesOwn.leaving
  have nd := (sc_l_draw).nd
  exact (ss_cons (s_if (t_cmp op_ltA cmpG_s (e_ix (e_var 0 (pv 0)) e_int) (e_var 1 (pv 1)) (nomark _)) (ss_one (s_setIx (e_c3 c_l_fresh hr (by decide) tk (by rfl) (a_cons (e_var 0 (pv 0)) a_nil)) (e_var 0 (pv 0)) e_int)) ss_nil)
      (ss_cons (s_set (i := 2) nd rfl (Or.inl rfl) (e_bin op_mod oMod_s (e_ix (e_var 0 (pv 0)) e_int) (e_var 1 (pv 1))))
      (ss_cons (s_setIx (e_bin op_fdiv oDiv_s (e_ix (e_var 0 (pv 0)) e_int) (e_var 1 (pv 1))) (e_var 0 (pv 0)) e_int)
      (ss_one (s_ret (e_var 2 (pv 2)))))))
theorem ok_l_stretch {ca : CA} {f : Addr} {fd : FuncData} (F : Fun K "_law_stretch" "_law_stretch" s_l_stretch f fd) (nb : Free mg bn) (c_Book : Cls K ca.Book) (n_Book_0 : NoAttr K ca.Book "_strokes") (c_l_draw : Cal3 P w K mg base 2 "_law_draw" 2 (F_l_draw ca)) : FnOk3 P w K mg base 3 f fd ["pen", "lot"] (F_l_stretch ca) := by
  refine fn3 false F sc_l_stretch fun cdv A outer s H E hr => ?_
  have tk : Takes (cxOf (L2.CX P w) P w K mg base n_l_stretch "_law_stretch" (defScope s_l_stretch) f cdv A outer s H E) (outW E) := takes_of rfl rfl rfl rfl
  have po : PassesOwn (model P w) (A.deeper (envOfC "_law_stretch" (defScope s_l_stretch) s.heap.objs.size f cdv)) (envOfC "_law_stretch" (defScope s_l_stretch) s.heap.objs.size f cdv) (cxOf (L2.CX P w) P w K mg base n_l_stretch "_law_stretch" (defScope s_l_stretch) f cdv A outer s H E).xe := PassesOwn.leaving
  have nd := (sc_l_stretch).nd
  exact (ss_cons (s_set (i := 2) nd rfl (Or.inl rfl) (e_callB call_sortedA fSorted_s (by rfl) (nb "sorted" (by decide)) (by decide +kernel) (a_cons (e_lst (a_cons (e_c3 c_l_draw hr (by decide) tk (by rfl) (a_cons (e_var 0 (pv 0)) (a_cons (e_callB call_len fLen_s (by rfl) (nb "len" (by decide)) (by decide +kernel) (a_cons (e_var 1 (pv 1)) a_nil)) a_nil))) (a_cons (e_c3 c_l_draw hr (by decide) tk (by rfl) (a_cons (e_var 0 (pv 0)) (a_cons (e_callB call_len fLen_s (by rfl) (nb "len" (by decide)) (by decide +kernel) (a_cons (e_var 1 (pv 1)) a_nil)) a_nil))) a_nil))) a_nil)))
      (ss_one (s_ret (e_tup (a_cons (e_ix (e_var 1 (pv 1)) (e_ix (e_var 2 (pv 2)) e_int)) (a_cons (e_ix (e_var 1 (pv 1)) (e_ix (e_var 2 (pv 2)) e_int)) a_nil))))))
theorem ok_l_rows {ca : CA} {f : Addr} {fd : FuncData} (F : Fun K "_law_rows" "_law_rows" s_l_rows f fd) (nb : Free mg bn) (c_Book : Cls K ca.Book) (n_Book_0 : NoAttr K ca.Book "_strokes") (c_l_stretch : Cal3 P w K mg base 3 "_law_stretch" 2 (F_l_stretch ca)) (c_l_draw : Cal3 P w K mg base 2 "_law_draw" 2 (F_l_draw ca)) : FnOk3 P w K mg base 4 f fd ["pen", "lot", "dyes", "tally"] (F_l_rows ca) := by
  refine fn3 false F sc_l_rows fun cdv A outer s H E hr => ?_
  have tk : Takes (cxOf (L2.CX P w) P w K mg base n_l_rows "_law_rows" (defScope s_l_rows) f cdv A outer s H E) (outW E) := takes_of rfl rfl rfl rfl
  have po : PassesOwn (model P w) (A.deeper (envOfC "_law_rows" (defScope s_l_rows) s.heap.objs.size f cdv)) (envOfC "_law_rows" (defScope s_l_rows) s.heap.objs.size f cdv) (cxOf (L2.CX P w) P w K mg base n_l_rows "_law_rows" (defScope s_l_rows) f cdv A outer s H E).xe := PassesOwn.leaving
  have nd := (sc_l_rows).nd
  exact (ss_one (s_ret (e_callTy call_tuple_of fTuple_s (by rfl) (nb "tuple" (by decide)) (by decide +kernel) (a_cons (e_comp false (own := [("turn", 4)]) rfl nd (i_range1 (by rfl) (nb "range" (by decide)) (a_cons (e_var 3 (pv 3)) a_nil)) (blkOk_by (own := [("turn", 4)]) (N := n_l_rows) (sc := defScope s_l_rows) (by decide +kernel)) (fun _ _ _ _ _ => (g_name (pg_name (i := 4) nd rfl (by first | exact Or.inl rfl | exact Or.inr rfl)))) (fun _ _ _ _ _ => ts_nil) (fun _ _ _ _ _ => (e_bin op_catAll (oCat_s false) (e_c3 c_l_stretch hr (by decide) takes0 (by rfl) (a_cons (e_var 0 (pv 0)) (a_cons (e_var 1 (pv 1)) a_nil))) (e_tup (a_cons (e_ix (e_var 2 (pv 2)) (e_c3 c_l_draw hr (by decide) takes0 (by rfl) (a_cons (e_var 0 (pv 0)) (a_cons (e_callB call_len fLen_s (by rfl) (nb "len" (by decide)) (by decide +kernel) (a_cons (e_var 2 (pv 2)) a_nil)) a_nil)))) a_nil)))) (by decide)) a_nil))))
theorem ok_Book_str_ {ca : CA} {f : Addr} {fd : FuncData} (F : Fun K "__str__" "Book.__str__" s_Book_str_ f fd) (nb : Free mg bn) (c_Book : Cls K ca.Book) (n_Book_0 : NoAttr K ca.Book "_strokes") : FnOk3 P w K mg base 1 f fd ["self"] (F_Book_str_ ca) := by
  refine fn3 false F sc_Book_str_ fun cdv A outer s H E hr => ?_
  have tk : Takes (cxOf (L2.CX P w) P w K mg base n_Book_str_ "Book.__str__" (defScope s_Book_str_) f cdv A outer s H E) (outW E) := takes_of rfl rfl rfl rfl
  have po : PassesOwn (model P w) (A.deeper (envOfC "Book.__str__" (defScope s_Book_str_) s.heap.objs.size f cdv)) (envOfC "Book.__str__" (defScope s_Book_str_) s.heap.objs.size f cdv) (cxOf (L2.CX P w) P w K mg base n_Book_str_ "Book.__str__" (defScope s_Book_str_) f cdv A outer s H E).xe := PassesOwn.leaving
  have nd := (sc_Book_str_).nd
  exact (ss_one (s_ret (e_join e_str (e_compG false (own := [("low", 1), ("high", 2), ("colour", 3)]) rfl nd (i_wk (e_fld (e_var 0 (pv 0)) c_Book n_Book_0 (by rfl))) (blkOk_by (own := [("low", 1), ("high", 2), ("colour", 3)]) (N := n_Book_str_) (sc := defScope s_Book_str_) (by decide +kernel)) (fun _ _ _ _ _ => (g_tup rfl (gs_cons (g_name (pg_name (i := 1) nd rfl (by first | exact Or.inl rfl | exact Or.inr rfl))) (gs_cons (g_name (pg_name (i := 2) nd rfl (by first | exact Or.inl rfl | exact Or.inr rfl))) (gs_cons (g_name (pg_name (i := 3) nd rfl (by first | exact Or.inl rfl | exact Or.inr rfl))) gs_nil))))) (fun _ _ _ _ _ => ts_nil) (fun _ _ _ _ _ => (e_fstr (j_cons (e_fmt (e_var 1 (pv 1))) (j_cons e_str (j_cons (e_fmt (e_var 2 (pv 2))) (j_cons e_str (j_cons (e_fmt (e_var 3 (pv 3))) j_nil))))))) (by decide)))))
theorem ok_l_writing {ca : CA} {f : Addr} {fd : FuncData} (F : Fun K "_law_writing" "_law_writing" s_l_writing f fd) (nb : Free mg bn) (c_Book : Cls K ca.Book) (n_Book_0 : NoAttr K ca.Book "_strokes") (o_str : Own3 P w K mg base 1 ca.Book "__str__" (F_Book_str_ ca)) : FnOk3 P w K mg base 4 f fd ["rows"] (F_l_writing ca) := by
  refine fn3 false F sc_l_writing fun cdv A outer s H E hr => ?_
  have tk : Takes (cxOf (L2.CX P w) P w K mg base n_l_writing "_law_writing" (defScope s_l_writing) f cdv A outer s H E) (outW E) := takes_of rfl rfl rfl rfl
  have po : PassesOwn (model P w) (A.deeper (envOfC "_law_writing" (defScope s_l_writing) s.heap.objs.size f cdv)) (envOfC "_law_writing" (defScope s_l_writing) s.heap.objs.size f cdv) (cxOf (L2.CX P w) P w K mg base n_l_writing "_law_writing" (defScope s_l_writing) f cdv A outer s H E).xe := PassesOwn.leaving
  have nd := (sc_l_writing).nd
  exact (ss_one (s_ret (e_join e_str (e_comp false (own := [("low", 1), ("high", 2), ("dye", 3)]) rfl nd (i_seq (e_var 0 (pv 0))) (blkOk_by (own := [("low", 1), ("high", 2), ("dye", 3)]) (N := n_l_writing) (sc := defScope s_l_writing) (by decide +kernel)) (fun _ _ _ _ _ => (g_tup rfl (gs_cons (g_name (pg_name (i := 1) nd rfl (by first | exact Or.inl rfl | exact Or.inr rfl))) (gs_cons (g_name (pg_name (i := 2) nd rfl (by first | exact Or.inl rfl | exact Or.inr rfl))) (gs_cons (g_name (pg_name (i := 3) nd rfl (by first | exact Or.inl rfl | exact Or.inr rfl))) gs_nil))))) (fun _ _ _ _ _ => ts_nil) (fun _ _ _ _ _ => (e_bin op_catAll (oCat_s false) (e_bin op_catAll (oCat_s false) (e_bin op_catAll (oCat_s false) (e_bin op_catAll (oCat_s false) (e_callTy (callR_or (strOwn3 o_str hr (by decide)) call_str_int) (fOr_s (fOwnM_s okStr_s) fStrI_s) (by rfl) (nb "str" (by decide)) (by decide +kernel) (a_cons (e_var 1 (pv 1)) a_nil)) e_str) (e_callTy (callR_or (strOwn3 o_str hr (by decide)) call_str_int) (fOr_s (fOwnM_s okStr_s) fStrI_s) (by rfl) (nb "str" (by decide)) (by decide +kernel) (a_cons (e_var 2 (pv 2)) a_nil))) e_str) (e_var 3 (pv 3)))) (by decide)))))
theorem ok_l_lot {ca : CA} {f : Addr} {fd : FuncData} (F : Fun K "_law_lot" "_law_lot" s_l_lot f fd) (nb : Free mg bn) (c_Book : Cls K ca.Book) (n_Book_0 : NoAttr K ca.Book "_strokes") (c_l_draw : Cal3 P w K mg base 2 "_law_draw" 2 (F_l_draw ca)) : FnOk3 P w K mg base 3 f fd ["pen", "size"] (F_l_lot ca) := by
  refine fn3 false F sc_l_lot fun cdv A outer s H E hr => ?_
  have tk : Takes (cxOf (L2.CX P w) P w K mg base n_l_lot "_law_lot" (defScope s_l_lot) f cdv A outer s H E) (outW E) := takes_of rfl rfl rfl rfl
  have po : PassesOwn (model P w) (A.deeper (envOfC "_law_lot" (defScope s_l_lot) s.heap.objs.size f cdv)) (envOfC "_law_lot" (defScope s_l_lot) s.heap.objs.size f cdv) (cxOf (L2.CX P w) P w K mg base n_l_lot "_law_lot" (defScope s_l_lot) f cdv A outer s H E).xe := PassesOwn.leaving
  have nd := (sc_l_lot).nd
  exact (ss_cons (s_set (i := 2) nd rfl (Or.inl rfl) (e_lstO a_nil))
      (ss_cons (s_set (i := 3) nd rfl (Or.inl rfl) (e_c3 c_l_draw hr (by decide) tk (by rfl) (a_cons (e_var 0 (pv 0)) (a_cons e_int a_nil))))
      (ss_cons (s_for po rfl (i_range1 (by rfl) (nb "range" (by decide)) (a_cons (e_var 1 (pv 1)) a_nil)) (g_name (pg_name (i := 4) nd rfl (Or.inl rfl))) (ss_cons (s_expr (e_methL PySem.F.slot_list_append PySem.F.type_list_append mt_append fAppend_s (e_var 2 (pv 2)) (a_cons (e_var 3 (pv 3)) a_nil)))
      (ss_one (s_set (i := 3) nd rfl (Or.inl rfl) (e_bin op_catAll (oCat_s false) (e_bin op_catAll (oCat_s false) (e_var 3 (pv 3)) e_int) (e_ix (e_lst (a_cons e_int (a_cons e_int (a_cons e_int (a_cons e_int (a_cons e_int (a_cons (e_bin op_pow oPow_s e_int e_int) a_nil))))))) (e_c3 c_l_draw hr (by decide) tk (by rfl) (a_cons (e_var 0 (pv 0)) (a_cons e_int a_nil)))))))))
      (ss_cons (s_if (t_cmp (op_eqD hr.room.units) oEq_s (e_c3 c_l_draw hr (by decide) tk (by rfl) (a_cons (e_var 0 (pv 0)) (a_cons e_int a_nil))) e_int (nomark _)) (ss_one (s_setIx (e_bin op_pow oPow_s e_int e_int) (e_var 2 (pv 2)) (e_neg e_int))) ss_nil)
      (ss_one (s_ret (e_var 2 (pv 2))))))))
theorem ok_l_dyes {ca : CA} {f : Addr} {fd : FuncData} (F : Fun K "_law_dyes" "_law_dyes" s_l_dyes f fd) (nb : Free mg bn) (c_Book : Cls K ca.Book) (n_Book_0 : NoAttr K ca.Book "_strokes") (c_l_draw : Cal3 P w K mg base 2 "_law_draw" 2 (F_l_draw ca)) (c_l_letters : Cal3 P w K mg base 1 "_law_letters" 0 (F_l_letters ca)) : FnOk3 P w K mg base 3 f fd ["pen", "tally"] (F_l_dyes ca) := by
  refine fn3 false F sc_l_dyes fun cdv A outer s H E hr => ?_
  have tk : Takes (cxOf (L2.CX P w) P w K mg base n_l_dyes "_law_dyes" (defScope s_l_dyes) f cdv A outer s H E) (outW E) := takes_of rfl rfl rfl rfl
  have po : PassesOwn (model P w) (A.deeper (envOfC "_law_dyes" (defScope s_l_dyes) s.heap.objs.size f cdv)) (envOfC "_law_dyes" (defScope s_l_dyes) s.heap.objs.size f cdv) (cxOf (L2.CX P w) P w K mg base n_l_dyes "_law_dyes" (defScope s_l_dyes) f cdv A outer s H E).xe := PassesOwn.leaving
  have nd := (sc_l_dyes).nd
  exact (ss_cons (s_set (i := 2) nd rfl (Or.inl rfl) (e_lstO a_nil))
      (ss_cons (s_for po rfl (i_range1 (by rfl) (nb "range" (by decide)) (a_cons (e_var 1 (pv 1)) a_nil)) (g_name (pg_name (i := 3) nd rfl (Or.inl rfl))) (ss_cons (s_set (i := 4) nd rfl (Or.inl rfl) (e_bin op_catAll (oCat_s false) e_int (e_c3 c_l_draw hr (by decide) tk (by rfl) (a_cons (e_var 0 (pv 0)) (a_cons e_int a_nil)))))
      (ss_one (s_expr (e_methL PySem.F.slot_list_append PySem.F.type_list_append mt_append fAppend_s (e_var 2 (pv 2)) (a_cons (e_join e_str (e_comp false (own := [("k", 5)]) rfl nd (i_range1 (by rfl) (nb "range" (by decide)) (a_cons (e_var 4 (pv 4)) a_nil)) (blkOk_by (own := [("k", 5)]) (N := n_l_dyes) (sc := defScope s_l_dyes) (by decide +kernel)) (fun _ _ _ _ _ => (g_name (pg_name (i := 5) nd rfl (by first | exact Or.inl rfl | exact Or.inr rfl)))) (fun _ _ _ _ _ => ts_nil) (fun _ _ _ _ _ => (e_ix (e_c30 c_l_letters hr (by decide) takes0 (by rfl)) (e_c3 c_l_draw hr (by decide) takes0 (by rfl) (a_cons (e_var 0 (pv 0)) (a_cons e_int a_nil))))) (by decide))) a_nil))))))
      (ss_one (s_ret (e_var 2 (pv 2))))))
theorem ok_Book_put {ca : CA} {f : Addr} {fd : FuncData} (F : Fun K "put" "Book.put" s_Book_put f fd) (nb : Free mg bn) (c_Book : Cls K ca.Book) (n_Book_0 : NoAttr K ca.Book "_strokes") (c_is_from_to : Cal3 P w K mg base 1 "is_from_to" 3 (F_is_from_to ca)) (c_own_stroke : Cal3 P w K mg base 5 "own_stroke" 1 (F_own_stroke ca)) (x_NoSlot : Exc3 K mg ca.NoSlot "NoSlot") : FnOk3 P w K mg base 6 f fd ["self", "slot", "stroke"] (F_Book_put ca) := by
  refine fn3 false F sc_Book_put fun cdv A outer s H E hr => ?_
  have tk : Takes (cxOf (L2.CX P w) P w K mg base n_Book_put "Book.put" (defScope s_Book_put) f cdv A outer s H E) (outW E) := takes_of rfl rfl rfl rfl
  have po : PassesOwn (model P w) (A.deeper (envOfC "Book.put" (defScope s_Book_put) s.heap.objs.size f cdv)) (envOfC "Book.put" (defScope s_Book_put) s.heap.objs.size f cdv) (cxOf (L2.CX P w) P w K mg base n_Book_put "Book.put" (defScope s_Book_put) f cdv A outer s H E).xe := PassesOwn.leaving
  have nd := (sc_Book_put).nd
  exact (ss_cons (s_if (t_not (t_truth (e_c3 c_is_from_to hr (by decide) tk (by rfl) (a_cons (e_var 1 (pv 1)) (a_cons e_int (a_cons (e_callB call_len fLen_s (by rfl) (nb "len" (by decide)) (by decide +kernel) (a_cons (e_fld (e_var 0 (pv 0)) c_Book n_Book_0 (by rfl)) a_nil)) a_nil)))))) (ss_one (s_raise3 x_NoSlot rfl tk (by rfl))) ss_nil)
      (ss_one (s_expr (e_methL PySem.F.slot_list_insert PySem.F.type_list_insert mt_insert fInsert_s (e_fld (e_var 0 (pv 0)) c_Book n_Book_0 (by rfl)) (a_cons (e_var 1 (pv 1)) (a_cons (e_c3 c_own_stroke hr (by decide) tk (by rfl) (a_cons (e_var 2 (pv 2)) a_nil)) a_nil))))))
theorem ok_law {ca : CA} {f : Addr} {fd : FuncData} (F : Fun K "law" "law" s_law f fd) (nb : Free mg bn) (c_Book : Cls K ca.Book) (n_Book_0 : NoAttr K ca.Book "_strokes") (c_l_pen : Cal3 P w K mg base 1 "_law_pen" 1 (F_l_pen ca)) (c_l_each_right : Cal3 P w K mg base 9 "_law_each_right" 0 (F_l_each_right ca)) (c_l_rows : Cal3 P w K mg base 4 "_law_rows" 4 (F_l_rows ca)) (c_l_writing : Cal3 P w K mg base 4 "_law_writing" 1 (F_l_writing ca)) (c_l_lot : Cal3 P w K mg base 3 "_law_lot" 2 (F_l_lot ca)) (c_l_dyes : Cal3 P w K mg base 3 "_law_dyes" 2 (F_l_dyes ca)) (c_read : Cal3 P w K mg base 8 "read" 1 (F_read ca)) (c_l_draw : Cal3 P w K mg base 2 "_law_draw" 2 (F_l_draw ca)) (h_Book_put : Met3 P w K mg base 6 ca.Book "put" 3 (F_Book_put ca)) (h_Book_strokes : Met3 P w K mg base 1 ca.Book "strokes" 1 (F_Book_strokes ca)) (w_Book1 : New3 P w K mg base 6 ca.Book "Book" 2 [] (F_Book_init_ ca)) (o_str : Own3 P w K mg base 1 ca.Book "__str__" (F_Book_str_ ca)) (o_eq : Own2 P w K mg base 1 ca.Book (F_Book_eq_ ca)) (ap_Book : Apt K ca.Book) : FnOk3 P w K mg base 10 f fd ["script"] (F_law ca) := by
  refine fn3 false F sc_law fun cdv A outer s H E hr => ?_
  have tk : Takes (cxOf (L2.CX P w) P w K mg base n_law "law" (defScope s_law) f cdv A outer s H E) (outW E) := takes_of rfl rfl rfl rfl
  have po : PassesOwn (model P w) (A.deeper (envOfC "law" (defScope s_law) s.heap.objs.size f cdv)) (envOfC "law" (defScope s_law) s.heap.objs.size f cdv) (cxOf (L2.CX P w) P w K mg base n_law "law" (defScope s_law) f cdv A outer s H E).xe := PassesOwn.leaving
  have nd := (sc_law).nd
  exact (ss_cons (s_set (i := 1) nd rfl (Or.inl rfl) (e_c3 c_l_pen hr (by decide) tk (by rfl) (a_cons (e_var 0 (pv 0)) a_nil)))
      (ss_cons (s_if (t_not (t_truth (e_c30 c_l_each_right hr (by decide) tk (by rfl)))) (ss_one (s_ret e_bl)) ss_nil)
      (ss_cons (s_for po rfl (i_range1 (by rfl) (nb "range" (by decide)) (a_cons e_int a_nil)) (g_name (pg_name (i := 2) nd rfl (Or.inl rfl))) (ss_cons (s_par (i := 5) (j := 6) rfl nd rfl rfl (by decide) rfl rfl (a_cons (e_c3 c_l_lot hr (by decide) tk (by rfl) (a_cons (e_var 1 (pv 1)) (a_cons e_int a_nil))) (a_cons (e_c3 c_l_dyes hr (by decide) tk (by rfl) (a_cons (e_var 1 (pv 1)) (a_cons e_int a_nil))) a_nil)) (by rfl))
      (ss_cons (s_set (i := 3) nd rfl (Or.inl rfl) (e_c3 c_l_rows hr (by decide) tk (by rfl) (a_cons (e_var 1 (pv 1)) (a_cons (e_var 5 (pv 5)) (a_cons (e_var 6 (pv 6)) (a_cons (e_if (t_cmp (op_eqO o_eq ap_Book hr (by decide)) oEqO_s (e_var 2 (pv 2)) e_int (nomark _)) e_int (e_c3 c_l_draw hr (by decide) tk (by rfl) (a_cons (e_var 1 (pv 1)) (a_cons e_int a_nil)))) a_nil))))))
      (ss_cons (s_set (i := 4) nd rfl (Or.inl rfl) (e_c3 c_l_writing hr (by decide) tk (by rfl) (a_cons (e_var 3 (pv 3)) a_nil)))
      (ss_cons (s_par (i := 7) (j := 8) rfl nd rfl rfl (by decide) rfl rfl (a_cons (e_c3 c_read hr (by decide) tk (by rfl) (a_cons (e_var 4 (pv 4)) a_nil)) (a_cons (e_c3 c_read hr (by decide) tk (by rfl) (a_cons (e_var 4 (pv 4)) a_nil)) a_nil)) (by rfl))
      (ss_cons (s_if (PW3.pt (w_or (t_cmp (opR_or (neOwn3 o_eq hr (by decide)) (op_neD hr.room.units)) (oOr_s oOwn2_s oNe_s) (e_callB (call_repr3 hr.free hr.room.units) fRepr_s (by rfl) (nb "repr" (by decide)) (by decide +kernel) (a_cons (e_m30 h_Book_strokes c_Book hr (by decide) tk (e_var 7 (pv 7))) a_nil)) (e_callB (call_repr3 hr.free hr.room.units) fRepr_s (by rfl) (nb "repr" (by decide)) (by decide +kernel) (a_cons (e_var 3 (pv 3)) a_nil)) (nomark _)) (w_or (t_cmp (opR_or (neOwn3 o_eq hr (by decide)) (op_neD hr.room.units)) (oOr_s oOwn2_s oNe_s) (e_var 7 (pv 7)) (e_n3 w_Book1 hr (by decide) tk (by rfl) (a_cons (e_var 3 (pv 3)) a_nil)) (nomark _)) (w_or1 (t_cmp (opR_or (neOwn3 o_eq hr (by decide)) (op_neD hr.room.units)) (oOr_s oOwn2_s oNe_s) (e_callTy (callR_or (strOwn3 o_str hr (by decide)) call_str_int) (fOr_s (fOwnM_s okStr_s) fStrI_s) (by rfl) (nb "str" (by decide)) (by decide +kernel) (a_cons (e_var 7 (pv 7)) a_nil)) (e_var 4 (pv 4)) (nomark _)))))) (ss_one (s_ret e_bl)) ss_nil)
      (ss_cons (s_expr (e_m3 h_Book_put c_Book hr (by decide) tk (e_var 7 (pv 7)) (a_cons e_int (a_cons (e_tup (a_cons e_int (a_cons e_int (a_cons e_str a_nil)))) a_nil))))
      (ss_one (s_if (PW3.pt (w_or (t_cmp (opR_or (neOwn3 o_eq hr (by decide)) (op_neD hr.room.units)) (oOr_s oOwn2_s oNe_s) (e_callB (call_repr3 hr.free hr.room.units) fRepr_s (by rfl) (nb "repr" (by decide)) (by decide +kernel) (a_cons (e_m30 h_Book_strokes c_Book hr (by decide) tk (e_var 8 (pv 8))) a_nil)) (e_callB (call_repr3 hr.free hr.room.units) fRepr_s (by rfl) (nb "repr" (by decide)) (by decide +kernel) (a_cons (e_var 3 (pv 3)) a_nil)) (nomark _)) (w_or1 (t_cmp (opR_or (neOwn3 o_eq hr (by decide)) (op_neD hr.room.units)) (oOr_s oOwn2_s oNe_s) (e_callB (call_repr3 hr.free hr.room.units) fRepr_s (by rfl) (nb "repr" (by decide)) (by decide +kernel) (a_cons (e_m30 h_Book_strokes c_Book hr (by decide) tk (e_var 7 (pv 7))) a_nil)) (e_callB (call_repr3 hr.free hr.room.units) fRepr_s (by rfl) (nb "repr" (by decide)) (by decide +kernel) (a_cons (e_bin op_catAll (oCat_s false) (e_tup (a_cons (e_tup (a_cons e_int (a_cons e_int (a_cons e_str a_nil)))) a_nil)) (e_var 3 (pv 3))) a_nil)) (nomark _))))) (ss_one (s_ret e_bl)) ss_nil)))))))))
      (ss_one (s_ret (e_and (e_cmp (op_eqO o_eq ap_Book hr (by decide)) oEqO_s (e_m30 h_Book_strokes c_Book hr (by decide) tk (e_c3 c_read hr (by decide) tk (by rfl) (a_cons e_str a_nil))) (e_tup a_nil) (nomark _)) (e_one (e_cmp (op_eqO o_eq ap_Book hr (by decide)) oEqO_s (e_m30 h_Book_strokes c_Book hr (by decide) tk (e_c3 c_read hr (by decide) tk (by rfl) (a_cons e_str a_nil))) (e_tup (a_cons (e_tup (a_cons e_int (a_cons (e_bin op_pow oPow_s e_int e_int) (a_cons e_str a_nil)))) a_nil)) (nomark _)))))))))
end
theorem all_mk {l : PySem.W.OpenLaw} {w : World} {K : PySem.W.Frag} {h : Heap} {mg : Str → Option Value} {fa : Addr} (X : K.In h) (G : h.Ns mainGlobals mg) (hfa : mg "law" = some (.ref fa))
    {C_Book : Addr} (A_Book : PySem.W.nsIn K mainGlobals "Book" = some (some (.ref C_Book)))
    {C_BadStroke : Addr} (A_BadStroke : PySem.W.nsIn K mainGlobals "BadStroke" = some (some (.ref C_BadStroke)))
    {C_NoSlot : Addr} (A_NoSlot : PySem.W.nsIn K mainGlobals "NoSlot" = some (some (.ref C_NoSlot)))
    (G1_Book : PySem.W.plainGet K C_Book Str.empty = true) (G2_Book : PySem.W.hasDictIn K C_Book = true) (G3_Book : PySem.W.plainOver K C_Book = true) (G4_Book : PySem.W.findIn K (.ref C_Book) "__setattr__" = some (some (.builtin "object.__setattr__"))) (G5_Book : PySem.W.makesIn K C_Book = true) (G6_Book : PySem.W.keepIn K (.ref C_Book) = true)
    (N_Book_0 : PySem.W.findIn K (.ref C_Book) "_strokes" = some none)
    (J0_Book : PySem.W.findIn K (.ref C_Book) "__class__" = some (some (.builtin "object.__class__"))) (J1_Book : PySem.W.specialIn K (.builtin "object.__class__") "__get__" = some (some (.builtin "getset_descriptor.__get__"))) (J2_Book : PySem.W.takesIn K (.builtin "object.__class__") = some true) (J3_Book : PySem.W.mroIn K C_Book (.type "object") = some true)
    (J4_Book : PySem.W.typeIn K (.ref C_Book) = some (.type "type"))
    (E0_Book : PySem.W.findIn K (.ref C_Book) "__ne__" = some (some (.builtin "object.__ne__"))) (E1_Book : PySem.W.mroIn K C_Book (.type "object") = some true)
    (S0_Book : PySem.W.subIn K (.ref C_Book) (.type "list") = some false)
    (S1_Book : PySem.W.subIn K (.ref C_Book) (.type "tuple") = some false)
    (S2_Book : PySem.W.subIn K (.ref C_Book) (.type "int") = some false)
    (S3_Book : PySem.W.subIn K (.ref C_Book) (.type "bool") = some false)
    (S4_Book : PySem.W.subIn K (.ref C_Book) (.type "str") = some false)
    (S5_Book : PySem.W.subIn K (.ref C_Book) (.type "NoneType") = some false)
    (X1_BadStroke : PySem.W.excIn K C_BadStroke [.type "ValueError", .type "Exception", .type "BaseException", .type "object"] "ValueError.__new__" = true) (X2_BadStroke : PySem.W.keepIn K (.ref C_BadStroke) = true) (X3_BadStroke : PySem.W.subIn K (.ref C_BadStroke) (.type "BaseException") = some true) (X4_BadStroke : PySem.W.typeIn K (.ref C_BadStroke) = some (.type "type"))
    (X1_NoSlot : PySem.W.excIn K C_NoSlot [.type "ValueError", .type "Exception", .type "BaseException", .type "object"] "ValueError.__new__" = true) (X2_NoSlot : PySem.W.keepIn K (.ref C_NoSlot) = true) (X3_NoSlot : PySem.W.subIn K (.ref C_NoSlot) (.type "BaseException") = some true) (X4_NoSlot : PySem.W.typeIn K (.ref C_NoSlot) = some (.type "type"))
    {oc_0 kV_0 dc_0 pm_0 cd_0 ct_0 : Value} {od_0 an_0 : Option Addr} {sl_0 : Array (Option Value)} {f_0 : Addr}
    (a_0 : PySem.W.findIn K (.ref C_Book) "__eq__" = some (some (.ref f_0))) (i_0 : PySem.W.isFn K (.ref f_0) = true) (l_0 : K.lookup f_0 = some ⟨oc_0, od_0, .func (PySem.W.fnOf "__eq__" "Book.__eq__" (defArgs s_Book_eq_) (defBody s_Book_eq_) (defScope s_Book_eq_) .none kV_0 dc_0 pm_0 an_0 cd_0 ct_0), sl_0⟩) (e_0 : PySem.W.codeIn K cd_0 "Book.__eq__" = true) (k_0 : PySem.W.keepIn K (.ref f_0) = true)
    {oc_1 kV_1 dc_1 pm_1 cd_1 ct_1 : Value} {od_1 an_1 : Option Addr} {sl_1 : Array (Option Value)} {f_1 : Addr}
    (a_1 : PySem.W.nsIn K mainGlobals "_law_pen" = some (some (.ref f_1))) (l_1 : K.lookup f_1 = some ⟨oc_1, od_1, .func (PySem.W.fnOf "_law_pen" "_law_pen" (defArgs s_l_pen) (defBody s_l_pen) (defScope s_l_pen) .none kV_1 dc_1 pm_1 an_1 cd_1 ct_1), sl_1⟩) (e_1 : PySem.W.codeIn K cd_1 "_law_pen" = true) (k_1 : PySem.W.keepIn K (.ref f_1) = true)
    {oc_2 kV_2 dc_2 pm_2 cd_2 ct_2 : Value} {od_2 an_2 : Option Addr} {sl_2 : Array (Option Value)} {f_2 : Addr}
    (a_2 : PySem.W.nsIn K mainGlobals "_law_letters" = some (some (.ref f_2))) (l_2 : K.lookup f_2 = some ⟨oc_2, od_2, .func (PySem.W.fnOf "_law_letters" "_law_letters" (defArgs s_l_letters) (defBody s_l_letters) (defScope s_l_letters) .none kV_2 dc_2 pm_2 an_2 cd_2 ct_2), sl_2⟩) (e_2 : PySem.W.codeIn K cd_2 "_law_letters" = true) (k_2 : PySem.W.keepIn K (.ref f_2) = true)
    {oc_3 kV_3 dc_3 pm_3 cd_3 ct_3 : Value} {od_3 an_3 : Option Addr} {sl_3 : Array (Option Value)} {f_3 : Addr}
    (a_3 : PySem.W.nsIn K mainGlobals "is_number" = some (some (.ref f_3))) (l_3 : K.lookup f_3 = some ⟨oc_3, od_3, .func (PySem.W.fnOf "is_number" "is_number" (defArgs s_is_number) (defBody s_is_number) (defScope s_is_number) .none kV_3 dc_3 pm_3 an_3 cd_3 ct_3), sl_3⟩) (e_3 : PySem.W.codeIn K cd_3 "is_number" = true) (k_3 : PySem.W.keepIn K (.ref f_3) = true)
    {oc_4 kV_4 dc_4 pm_4 cd_4 ct_4 : Value} {od_4 an_4 : Option Addr} {sl_4 : Array (Option Value)} {f_4 : Addr}
    (a_4 : PySem.W.nsIn K mainGlobals "is_from_to" = some (some (.ref f_4))) (l_4 : K.lookup f_4 = some ⟨oc_4, od_4, .func (PySem.W.fnOf "is_from_to" "is_from_to" (defArgs s_is_from_to) (defBody s_is_from_to) (defScope s_is_from_to) .none kV_4 dc_4 pm_4 an_4 cd_4 ct_4), sl_4⟩) (e_4 : PySem.W.codeIn K cd_4 "is_from_to" = true) (k_4 : PySem.W.keepIn K (.ref f_4) = true)
    {oc_5 kV_5 dc_5 pm_5 cd_5 ct_5 : Value} {od_5 an_5 : Option Addr} {sl_5 : Array (Option Value)} {f_5 : Addr}
    (a_5 : PySem.W.nsIn K mainGlobals "is_place" = some (some (.ref f_5))) (l_5 : K.lookup f_5 = some ⟨oc_5, od_5, .func (PySem.W.fnOf "is_place" "is_place" (defArgs s_is_place) (defBody s_is_place) (defScope s_is_place) .none kV_5 dc_5 pm_5 an_5 cd_5 ct_5), sl_5⟩) (e_5 : PySem.W.codeIn K cd_5 "is_place" = true) (k_5 : PySem.W.keepIn K (.ref f_5) = true)
    {oc_6 kV_6 dc_6 pm_6 cd_6 ct_6 : Value} {od_6 an_6 : Option Addr} {sl_6 : Array (Option Value)} {f_6 : Addr}
    (a_6 : PySem.W.nsIn K mainGlobals "is_written_place" = some (some (.ref f_6))) (l_6 : K.lookup f_6 = some ⟨oc_6, od_6, .func (PySem.W.fnOf "is_written_place" "is_written_place" (defArgs s_is_written_place) (defBody s_is_written_place) (defScope s_is_written_place) .none kV_6 dc_6 pm_6 an_6 cd_6 ct_6), sl_6⟩) (e_6 : PySem.W.codeIn K cd_6 "is_written_place" = true) (k_6 : PySem.W.keepIn K (.ref f_6) = true)
    {oc_7 kV_7 dc_7 pm_7 cd_7 ct_7 : Value} {od_7 an_7 : Option Addr} {sl_7 : Array (Option Value)} {f_7 : Addr}
    (a_7 : PySem.W.nsIn K mainGlobals "is_colour" = some (some (.ref f_7))) (l_7 : K.lookup f_7 = some ⟨oc_7, od_7, .func (PySem.W.fnOf "is_colour" "is_colour" (defArgs s_is_colour) (defBody s_is_colour) (defScope s_is_colour) .none kV_7 dc_7 pm_7 an_7 cd_7 ct_7), sl_7⟩) (e_7 : PySem.W.codeIn K cd_7 "is_colour" = true) (k_7 : PySem.W.keepIn K (.ref f_7) = true)
    {oc_8 kV_8 dc_8 pm_8 cd_8 ct_8 : Value} {od_8 an_8 : Option Addr} {sl_8 : Array (Option Value)} {f_8 : Addr}
    (a_8 : PySem.W.nsIn K mainGlobals "goes_on" = some (some (.ref f_8))) (l_8 : K.lookup f_8 = some ⟨oc_8, od_8, .func (PySem.W.fnOf "goes_on" "goes_on" (defArgs s_goes_on) (defBody s_goes_on) (defScope s_goes_on) .none kV_8 dc_8 pm_8 an_8 cd_8 ct_8), sl_8⟩) (e_8 : PySem.W.codeIn K cd_8 "goes_on" = true) (k_8 : PySem.W.keepIn K (.ref f_8) = true)
    {oc_9 kV_9 dc_9 pm_9 cd_9 ct_9 : Value} {od_9 an_9 : Option Addr} {sl_9 : Array (Option Value)} {f_9 : Addr}
    (a_9 : PySem.W.nsIn K mainGlobals "is_stretch" = some (some (.ref f_9))) (l_9 : K.lookup f_9 = some ⟨oc_9, od_9, .func (PySem.W.fnOf "is_stretch" "is_stretch" (defArgs s_is_stretch) (defBody s_is_stretch) (defScope s_is_stretch) .none kV_9 dc_9 pm_9 an_9 cd_9 ct_9), sl_9⟩) (e_9 : PySem.W.codeIn K cd_9 "is_stretch" = true) (k_9 : PySem.W.keepIn K (.ref f_9) = true)
    {oc_10 kV_10 dc_10 pm_10 cd_10 ct_10 : Value} {od_10 an_10 : Option Addr} {sl_10 : Array (Option Value)} {f_10 : Addr}
    (a_10 : PySem.W.nsIn K mainGlobals "is_stroke" = some (some (.ref f_10))) (l_10 : K.lookup f_10 = some ⟨oc_10, od_10, .func (PySem.W.fnOf "is_stroke" "is_stroke" (defArgs s_is_stroke) (defBody s_is_stroke) (defScope s_is_stroke) .none kV_10 dc_10 pm_10 an_10 cd_10 ct_10), sl_10⟩) (e_10 : PySem.W.codeIn K cd_10 "is_stroke" = true) (k_10 : PySem.W.keepIn K (.ref f_10) = true)
    {oc_11 kV_11 dc_11 pm_11 cd_11 ct_11 : Value} {od_11 an_11 : Option Addr} {sl_11 : Array (Option Value)} {f_11 : Addr}
    (a_11 : PySem.W.nsIn K mainGlobals "own_stroke" = some (some (.ref f_11))) (l_11 : K.lookup f_11 = some ⟨oc_11, od_11, .func (PySem.W.fnOf "own_stroke" "own_stroke" (defArgs s_own_stroke) (defBody s_own_stroke) (defScope s_own_stroke) .none kV_11 dc_11 pm_11 an_11 cd_11 ct_11), sl_11⟩) (e_11 : PySem.W.codeIn K cd_11 "own_stroke" = true) (k_11 : PySem.W.keepIn K (.ref f_11) = true)
    {oc_12 kV_12 dc_12 pm_12 cd_12 ct_12 : Value} {od_12 an_12 : Option Addr} {sl_12 : Array (Option Value)} {f_12 : Addr}
    {T_12 U_12 : Addr} {to_12 uo_12 : Option Addr} {tn_12 un_12 : Nat} {ts_12 us_12 : Array (Option Value)}
    (a_12 : PySem.W.findIn K (.ref C_Book) "__init__" = some (some (.ref f_12))) (i_12 : PySem.W.isFn K (.ref f_12) = true) (l_12 : K.lookup f_12 = some ⟨oc_12, od_12, .func (PySem.W.fnOf "__init__" "Book.__init__" (defArgs s_Book_init_) (defBody s_Book_init_) (defScope s_Book_init_) (.ref T_12) kV_12 dc_12 pm_12 an_12 cd_12 ct_12), sl_12⟩) (e_12 : PySem.W.codeIn K cd_12 "Book.__init__" = true) (k_12 : PySem.W.keepIn K (.ref f_12) = true)
    (t_12 : K.lookup T_12 = some ⟨.type "tuple", to_12, .seq #[.ref U_12] tn_12, ts_12⟩) (u_12 : K.lookup U_12 = some ⟨.type "tuple", uo_12, .seq #[] un_12, us_12⟩)
    {oc_13 kV_13 dc_13 pm_13 cd_13 ct_13 : Value} {od_13 an_13 : Option Addr} {sl_13 : Array (Option Value)} {f_13 : Addr}
    (a_13 : PySem.W.nsIn K mainGlobals "read" = some (some (.ref f_13))) (l_13 : K.lookup f_13 = some ⟨oc_13, od_13, .func (PySem.W.fnOf "read" "read" (defArgs s_read) (defBody s_read) (defScope s_read) .none kV_13 dc_13 pm_13 an_13 cd_13 ct_13), sl_13⟩) (e_13 : PySem.W.codeIn K cd_13 "read" = true) (k_13 : PySem.W.keepIn K (.ref f_13) = true)
    {oc_14 kV_14 dc_14 pm_14 cd_14 ct_14 : Value} {od_14 an_14 : Option Addr} {sl_14 : Array (Option Value)} {f_14 : Addr}
    (a_14 : PySem.W.findIn K (.ref C_Book) "strokes" = some (some (.ref f_14))) (i_14 : PySem.W.isFn K (.ref f_14) = true) (l_14 : K.lookup f_14 = some ⟨oc_14, od_14, .func (PySem.W.fnOf "strokes" "Book.strokes" (defArgs s_Book_strokes) (defBody s_Book_strokes) (defScope s_Book_strokes) .none kV_14 dc_14 pm_14 an_14 cd_14 ct_14), sl_14⟩) (e_14 : PySem.W.codeIn K cd_14 "Book.strokes" = true) (k_14 : PySem.W.keepIn K (.ref f_14) = true)
    {oc_15 kV_15 dc_15 pm_15 cd_15 ct_15 : Value} {od_15 an_15 : Option Addr} {sl_15 : Array (Option Value)} {f_15 : Addr}
    (a_15 : PySem.W.nsIn K mainGlobals "_law_each_right" = some (some (.ref f_15))) (l_15 : K.lookup f_15 = some ⟨oc_15, od_15, .func (PySem.W.fnOf "_law_each_right" "_law_each_right" (defArgs s_l_each_right) (defBody s_l_each_right) (defScope s_l_each_right) .none kV_15 dc_15 pm_15 an_15 cd_15 ct_15), sl_15⟩) (e_15 : PySem.W.codeIn K cd_15 "_law_each_right" = true) (k_15 : PySem.W.keepIn K (.ref f_15) = true)
    {oc_16 kV_16 dc_16 pm_16 cd_16 ct_16 : Value} {od_16 an_16 : Option Addr} {sl_16 : Array (Option Value)} {f_16 : Addr}
    (a_16 : PySem.W.nsIn K mainGlobals "_law_fresh" = some (some (.ref f_16))) (l_16 : K.lookup f_16 = some ⟨oc_16, od_16, .func (PySem.W.fnOf "_law_fresh" "_law_fresh" (defArgs s_l_fresh) (defBody s_l_fresh) (defScope s_l_fresh) .none kV_16 dc_16 pm_16 an_16 cd_16 ct_16), sl_16⟩) (e_16 : PySem.W.codeIn K cd_16 "_law_fresh" = true) (k_16 : PySem.W.keepIn K (.ref f_16) = true)
    {oc_17 kV_17 dc_17 pm_17 cd_17 ct_17 : Value} {od_17 an_17 : Option Addr} {sl_17 : Array (Option Value)} {f_17 : Addr}
    (a_17 : PySem.W.nsIn K mainGlobals "_law_draw" = some (some (.ref f_17))) (l_17 : K.lookup f_17 = some ⟨oc_17, od_17, .func (PySem.W.fnOf "_law_draw" "_law_draw" (defArgs s_l_draw) (defBody s_l_draw) (defScope s_l_draw) .none kV_17 dc_17 pm_17 an_17 cd_17 ct_17), sl_17⟩) (e_17 : PySem.W.codeIn K cd_17 "_law_draw" = true) (k_17 : PySem.W.keepIn K (.ref f_17) = true)
    {oc_18 kV_18 dc_18 pm_18 cd_18 ct_18 : Value} {od_18 an_18 : Option Addr} {sl_18 : Array (Option Value)} {f_18 : Addr}
    (a_18 : PySem.W.nsIn K mainGlobals "_law_stretch" = some (some (.ref f_18))) (l_18 : K.lookup f_18 = some ⟨oc_18, od_18, .func (PySem.W.fnOf "_law_stretch" "_law_stretch" (defArgs s_l_stretch) (defBody s_l_stretch) (defScope s_l_stretch) .none kV_18 dc_18 pm_18 an_18 cd_18 ct_18), sl_18⟩) (e_18 : PySem.W.codeIn K cd_18 "_law_stretch" = true) (k_18 : PySem.W.keepIn K (.ref f_18) = true)
    {oc_19 kV_19 dc_19 pm_19 cd_19 ct_19 : Value} {od_19 an_19 : Option Addr} {sl_19 : Array (Option Value)} {f_19 : Addr}
    (a_19 : PySem.W.nsIn K mainGlobals "_law_rows" = some (some (.ref f_19))) (l_19 : K.lookup f_19 = some ⟨oc_19, od_19, .func (PySem.W.fnOf "_law_rows" "_law_rows" (defArgs s_l_rows) (defBody s_l_rows) (defScope s_l_rows) .none kV_19 dc_19 pm_19 an_19 cd_19 ct_19), sl_19⟩) (e_19 : PySem.W.codeIn K cd_19 "_law_rows" = true) (k_19 : PySem.W.keepIn K (.ref f_19) = true)
    {oc_20 kV_20 dc_20 pm_20 cd_20 ct_20 : Value} {od_20 an_20 : Option Addr} {sl_20 : Array (Option Value)} {f_20 : Addr}
    (a_20 : PySem.W.findIn K (.ref C_Book) "__str__" = some (some (.ref f_20))) (i_20 : PySem.W.isFn K (.ref f_20) = true) (l_20 : K.lookup f_20 = some ⟨oc_20, od_20, .func (PySem.W.fnOf "__str__" "Book.__str__" (defArgs s_Book_str_) (defBody s_Book_str_) (defScope s_Book_str_) .none kV_20 dc_20 pm_20 an_20 cd_20 ct_20), sl_20⟩) (e_20 : PySem.W.codeIn K cd_20 "Book.__str__" = true) (k_20 : PySem.W.keepIn K (.ref f_20) = true)
    {oc_21 kV_21 dc_21 pm_21 cd_21 ct_21 : Value} {od_21 an_21 : Option Addr} {sl_21 : Array (Option Value)} {f_21 : Addr}
    (a_21 : PySem.W.nsIn K mainGlobals "_law_writing" = some (some (.ref f_21))) (l_21 : K.lookup f_21 = some ⟨oc_21, od_21, .func (PySem.W.fnOf "_law_writing" "_law_writing" (defArgs s_l_writing) (defBody s_l_writing) (defScope s_l_writing) .none kV_21 dc_21 pm_21 an_21 cd_21 ct_21), sl_21⟩) (e_21 : PySem.W.codeIn K cd_21 "_law_writing" = true) (k_21 : PySem.W.keepIn K (.ref f_21) = true)
    {oc_22 kV_22 dc_22 pm_22 cd_22 ct_22 : Value} {od_22 an_22 : Option Addr} {sl_22 : Array (Option Value)} {f_22 : Addr}
    (a_22 : PySem.W.nsIn K mainGlobals "_law_lot" = some (some (.ref f_22))) (l_22 : K.lookup f_22 = some ⟨oc_22, od_22, .func (PySem.W.fnOf "_law_lot" "_law_lot" (defArgs s_l_lot) (defBody s_l_lot) (defScope s_l_lot) .none kV_22 dc_22 pm_22 an_22 cd_22 ct_22), sl_22⟩) (e_22 : PySem.W.codeIn K cd_22 "_law_lot" = true) (k_22 : PySem.W.keepIn K (.ref f_22) = true)
    {oc_23 kV_23 dc_23 pm_23 cd_23 ct_23 : Value} {od_23 an_23 : Option Addr} {sl_23 : Array (Option Value)} {f_23 : Addr}
    (a_23 : PySem.W.nsIn K mainGlobals "_law_dyes" = some (some (.ref f_23))) (l_23 : K.lookup f_23 = some ⟨oc_23, od_23, .func (PySem.W.fnOf "_law_dyes" "_law_dyes" (defArgs s_l_dyes) (defBody s_l_dyes) (defScope s_l_dyes) .none kV_23 dc_23 pm_23 an_23 cd_23 ct_23), sl_23⟩) (e_23 : PySem.W.codeIn K cd_23 "_law_dyes" = true) (k_23 : PySem.W.keepIn K (.ref f_23) = true)
    {oc_24 kV_24 dc_24 pm_24 cd_24 ct_24 : Value} {od_24 an_24 : Option Addr} {sl_24 : Array (Option Value)} {f_24 : Addr}
    (a_24 : PySem.W.findIn K (.ref C_Book) "put" = some (some (.ref f_24))) (i_24 : PySem.W.isFn K (.ref f_24) = true) (l_24 : K.lookup f_24 = some ⟨oc_24, od_24, .func (PySem.W.fnOf "put" "Book.put" (defArgs s_Book_put) (defBody s_Book_put) (defScope s_Book_put) .none kV_24 dc_24 pm_24 an_24 cd_24 ct_24), sl_24⟩) (e_24 : PySem.W.codeIn K cd_24 "Book.put" = true) (k_24 : PySem.W.keepIn K (.ref f_24) = true)
    {oc_25 kV_25 dc_25 pm_25 cd_25 ct_25 : Value} {od_25 an_25 : Option Addr} {sl_25 : Array (Option Value)} {f_25 : Addr}
    (a_25 : PySem.W.nsIn K mainGlobals "law" = some (some (.ref f_25))) (l_25 : K.lookup f_25 = some ⟨oc_25, od_25, .func (PySem.W.fnOf "law" "law" (defArgs s_law) (defBody s_law) (defScope s_law) .none kV_25 dc_25 pm_25 an_25 cd_25 ct_25), sl_25⟩) (e_25 : PySem.W.codeIn K cd_25 "law" = true) (k_25 : PySem.W.keepIn K (.ref f_25) = true)
    (z_0 : PySem.W.nsIn K mainGlobals "isinstance" = some none)
    (z_1 : PySem.W.nsIn K mainGlobals "list" = some none)
    (z_2 : PySem.W.nsIn K mainGlobals "all" = some none)
    (z_3 : PySem.W.nsIn K mainGlobals "len" = some none)
    (z_4 : PySem.W.nsIn K mainGlobals "int" = some none)
    (z_5 : PySem.W.nsIn K mainGlobals "bool" = some none)
    (z_6 : PySem.W.nsIn K mainGlobals "str" = some none)
    (z_7 : PySem.W.nsIn K mainGlobals "tuple" = some none)
    (z_8 : PySem.W.nsIn K mainGlobals "range" = some none)
    (z_9 : PySem.W.nsIn K mainGlobals "repr" = some none)
    (z_10 : PySem.W.nsIn K mainGlobals "sorted" = some none)
    {t_0 : Tok} (y_0 : PySem.W.nsIn K mainGlobals "LAST" = some (some (.int 1000000000 t_0))) :
    ∃ fd : FuncData, (∀ (s : Shared) (v : Value), BindsTo s fd ⟨[v], []⟩ [("script", v)]) ∧ ∃ ca : CA, ∀ base : Heap, K.In base → base.Ns mainGlobals mg → FnOk3 l.prog w K mg base 10 fa fd ["script"] (F_law ca) := by
  have e := hfa.symm.trans (PySem.W.mg_of X G a_25)
  cases e
  let ca : CA := ⟨C_Book, C_BadStroke, C_NoSlot⟩
  have c_Book : Cls K ca.Book := ⟨G1_Book, G2_Book, G3_Book, G4_Book⟩
  have i_Book : Isi3 K ca.Book := ⟨c_Book, J0_Book, J1_Book, J2_Book, J3_Book, kit_basic G2_Book J4_Book rfl, kit_basic G2_Book J4_Book rfl, kit_basic G2_Book J4_Book rfl, kit_basic G2_Book J4_Book rfl, kit_basic G2_Book J4_Book rfl, kit_basic G2_Book J4_Book rfl⟩
  have g_Book : mg "Book" = some (.ref ca.Book) := PySem.W.mg_of X G A_Book
  have ap_Book : Apt K ca.Book := ⟨S0_Book, S1_Book, S2_Book, S3_Book, S4_Book, S5_Book⟩
  have n_Book_0 : NoAttr K ca.Book "_strokes" := N_Book_0
  have x_BadStroke : Exc3 K mg ca.BadStroke "BadStroke" := ⟨PySem.W.mg_of X G A_BadStroke, X1_BadStroke, X2_BadStroke, X3_BadStroke, X4_BadStroke⟩
  have x_NoSlot : Exc3 K mg ca.NoSlot "NoSlot" := ⟨PySem.W.mg_of X G A_NoSlot, X1_NoSlot, X2_NoSlot, X3_NoSlot, X4_NoSlot⟩
  have F_0 := fun_mk (st := s_Book_eq_) l_0 e_0 k_0
  have F_1 := fun_mk (st := s_l_pen) l_1 e_1 k_1
  have F_2 := fun_mk (st := s_l_letters) l_2 e_2 k_2
  have F_3 := fun_mk (st := s_is_number) l_3 e_3 k_3
  have F_4 := fun_mk (st := s_is_from_to) l_4 e_4 k_4
  have F_5 := fun_mk (st := s_is_place) l_5 e_5 k_5
  have F_6 := fun_mk (st := s_is_written_place) l_6 e_6 k_6
  have F_7 := fun_mk (st := s_is_colour) l_7 e_7 k_7
  have F_8 := fun_mk (st := s_goes_on) l_8 e_8 k_8
  have F_9 := fun_mk (st := s_is_stretch) l_9 e_9 k_9
  have F_10 := fun_mk (st := s_is_stroke) l_10 e_10 k_10
  have F_11 := fun_mk (st := s_own_stroke) l_11 e_11 k_11
  have F_12 : FunD K "__init__" "Book.__init__" (defArgs s_Book_init_) (defBody s_Book_init_) (defScope s_Book_init_) [V.ref U_12] [] f_12 _ := ⟨⟨oc_12, od_12, _, kV_12, dc_12, pm_12, an_12, cd_12, ct_12, sl_12, rfl, l_12, e_12, .inr ⟨List.cons_ne_nil _ _, T_12, _, [.ref U_12], tn_12, rfl, t_12, rfl, .cons rfl .nil⟩, .inl rfl⟩, k_12⟩
  have F_13 := fun_mk (st := s_read) l_13 e_13 k_13
  have F_14 := fun_mk (st := s_Book_strokes) l_14 e_14 k_14
  have F_15 := fun_mk (st := s_l_each_right) l_15 e_15 k_15
  have F_16 := fun_mk (st := s_l_fresh) l_16 e_16 k_16
  have F_17 := fun_mk (st := s_l_draw) l_17 e_17 k_17
  have F_18 := fun_mk (st := s_l_stretch) l_18 e_18 k_18
  have F_19 := fun_mk (st := s_l_rows) l_19 e_19 k_19
  have F_20 := fun_mk (st := s_Book_str_) l_20 e_20 k_20
  have F_21 := fun_mk (st := s_l_writing) l_21 e_21 k_21
  have F_22 := fun_mk (st := s_l_lot) l_22 e_22 k_22
  have F_23 := fun_mk (st := s_l_dyes) l_23 e_23 k_23
  have F_24 := fun_mk (st := s_Book_put) l_24 e_24 k_24
  have F_25 := fun_mk (st := s_law) l_25 e_25 k_25
  have nb : Free mg bn := by
    intro x hx
    simp only [bn, List.mem_cons, List.not_mem_nil, or_false] at hx
    rcases hx with rfl | rfl | rfl | rfl | rfl | rfl | rfl | rfl | rfl | rfl | rfl
    · exact PySem.W.mg_none_of X G z_0
    · exact PySem.W.mg_none_of X G z_1
    · exact PySem.W.mg_none_of X G z_2
    · exact PySem.W.mg_none_of X G z_3
    · exact PySem.W.mg_none_of X G z_4
    · exact PySem.W.mg_none_of X G z_5
    · exact PySem.W.mg_none_of X G z_6
    · exact PySem.W.mg_none_of X G z_7
    · exact PySem.W.mg_none_of X G z_8
    · exact PySem.W.mg_none_of X G z_9
    · exact PySem.W.mg_none_of X G z_10
  have q_LAST : ∃ t, mg "LAST" = some (.int 1000000000 t) := ⟨t_0, PySem.W.mg_of X G y_0⟩
  refine ⟨PySem.W.fnOf "law" "law" (defArgs s_law) (defBody s_law) (defScope s_law) .none kV_25 dc_25 pm_25 an_25 cd_25 ct_25, fun s v => .of_eq rfl, ca, fun base _ _ => ?_⟩
  have o_eq : Own2 l.prog w K mg base 1 ca.Book (F_Book_eq_ ca) := ⟨E0_Book, E1_Book, f_0, _, a_0, i_0, _, _, ok_Book_eq_ (ca := ca) F_0 nb c_Book n_Book_0 i_Book g_Book, F_0.binds (ps := ["self", "other"]) (fun _ _ _ _ _ _ us hl => match us, hl with | [_, _], _ => rfl)⟩
  have c_l_pen : Cal3 l.prog w K mg base 1 "_law_pen" 1 (F_l_pen ca) := ⟨f_1, _, _, PySem.W.mg_of X G a_1, k_1, F_1.binds (ps := ["script"]) (fun _ _ _ _ _ _ us hl => match us, hl with | [_], _ => rfl), rfl, ok_l_pen (ca := ca) F_1 nb c_Book n_Book_0⟩
  have c_l_letters : Cal3 l.prog w K mg base 1 "_law_letters" 0 (F_l_letters ca) := ⟨f_2, _, _, PySem.W.mg_of X G a_2, k_2, F_2.binds (ps := []) (fun _ _ _ _ _ _ us hl => match us, hl with | [], _ => rfl), rfl, ok_l_letters (ca := ca) F_2 nb c_Book n_Book_0⟩
  have c_is_number : Cal3 l.prog w K mg base 1 "is_number" 1 (F_is_number ca) := ⟨f_3, _, _, PySem.W.mg_of X G a_3, k_3, F_3.binds (ps := ["word"]) (fun _ _ _ _ _ _ us hl => match us, hl with | [_], _ => rfl), rfl, ok_is_number (ca := ca) F_3 nb c_Book n_Book_0⟩
  have c_is_from_to : Cal3 l.prog w K mg base 1 "is_from_to" 3 (F_is_from_to ca) := ⟨f_4, _, _, PySem.W.mg_of X G a_4, k_4, F_4.binds (ps := ["thing", "least", "most"]) (fun _ _ _ _ _ _ us hl => match us, hl with | [_, _, _], _ => rfl), rfl, ok_is_from_to (ca := ca) F_4 nb c_Book n_Book_0⟩
  have c_is_place : Cal3 l.prog w K mg base 2 "is_place" 1 (F_is_place ca) := ⟨f_5, _, _, PySem.W.mg_of X G a_5, k_5, F_5.binds (ps := ["thing"]) (fun _ _ _ _ _ _ us hl => match us, hl with | [_], _ => rfl), rfl, ok_is_place (ca := ca) F_5 nb c_Book n_Book_0 c_is_from_to q_LAST⟩
  have c_is_written_place : Cal3 l.prog w K mg base 3 "is_written_place" 1 (F_is_written_place ca) := ⟨f_6, _, _, PySem.W.mg_of X G a_6, k_6, F_6.binds (ps := ["word"]) (fun _ _ _ _ _ _ us hl => match us, hl with | [_], _ => rfl), rfl, ok_is_written_place (ca := ca) F_6 nb c_Book n_Book_0 c_is_number c_is_place⟩
  have c_is_colour : Cal3 l.prog w K mg base 1 "is_colour" 1 (F_is_colour ca) := ⟨f_7, _, _, PySem.W.mg_of X G a_7, k_7, F_7.binds (ps := ["thing"]) (fun _ _ _ _ _ _ us hl => match us, hl with | [_], _ => rfl), rfl, ok_is_colour (ca := ca) F_7 nb c_Book n_Book_0⟩
  have c_goes_on : Cal3 l.prog w K mg base 4 "goes_on" 2 (F_goes_on ca) := ⟨f_8, _, _, PySem.W.mg_of X G a_8, k_8, F_8.binds (ps := ["words", "at"]) (fun _ _ _ _ _ _ us hl => match us, hl with | [_, _], _ => rfl), rfl, ok_goes_on (ca := ca) F_8 nb c_Book n_Book_0 c_is_written_place c_is_colour⟩
  have c_is_stretch : Cal3 l.prog w K mg base 3 "is_stretch" 1 (F_is_stretch ca) := ⟨f_9, _, _, PySem.W.mg_of X G a_9, k_9, F_9.binds (ps := ["thing"]) (fun _ _ _ _ _ _ us hl => match us, hl with | [_], _ => rfl), rfl, ok_is_stretch (ca := ca) F_9 nb c_Book n_Book_0 c_is_place⟩
  have c_is_stroke : Cal3 l.prog w K mg base 4 "is_stroke" 1 (F_is_stroke ca) := ⟨f_10, _, _, PySem.W.mg_of X G a_10, k_10, F_10.binds (ps := ["thing"]) (fun _ _ _ _ _ _ us hl => match us, hl with | [_], _ => rfl), rfl, ok_is_stroke (ca := ca) F_10 nb c_Book n_Book_0 c_is_stretch c_is_colour⟩
  have c_own_stroke : Cal3 l.prog w K mg base 5 "own_stroke" 1 (F_own_stroke ca) := ⟨f_11, _, _, PySem.W.mg_of X G a_11, k_11, F_11.binds (ps := ["stroke"]) (fun _ _ _ _ _ _ us hl => match us, hl with | [_], _ => rfl), rfl, ok_own_stroke (ca := ca) F_11 nb c_Book n_Book_0 c_is_stroke x_BadStroke⟩
  have G_Book_init_ : FnOk3 l.prog w K mg base 6 f_12 _ ["self", "strokes"] (F_Book_init_ ca) := ok_Book_init_ (ca := ca) F_12 nb c_Book n_Book_0 c_own_stroke x_BadStroke
  have w_Book1 : New3 l.prog w K mg base 6 ca.Book "Book" 2 [] (F_Book_init_ ca) := by
    obtain ⟨ds, hv, hb⟩ := F_12.binds1 (ps := ["self", "strokes"]) 2 1 (List.cons_ne_nil _ _) rfl (fun T kV doc pm an cdv ct us its hl hl2 => match us, its, hl, hl2 with | [_, _], [_], _, _ => ⟨_, rfl, rfl⟩)
    exact ⟨f_12, _, _, _, ds, PySem.W.mg_of X G A_Book, ⟨G5_Book, a_12, i_12, G6_Book⟩, G_Book_init_, hb, hv, fun w => .nil, rfl⟩
  have c_read : Cal3 l.prog w K mg base 8 "read" 1 (F_read ca) := ⟨f_13, _, _, PySem.W.mg_of X G a_13, k_13, F_13.binds (ps := ["text"]) (fun _ _ _ _ _ _ us hl => match us, hl with | [_], _ => rfl), rfl, ok_read (ca := ca) F_13 nb c_Book n_Book_0 c_goes_on w_Book1⟩
  have h_Book_strokes : Met3 l.prog w K mg base 1 ca.Book "strokes" 1 (F_Book_strokes ca) := ⟨f_14, _, _, ⟨a_14, i_14, k_14⟩, ok_Book_strokes (ca := ca) F_14 nb c_Book n_Book_0, F_14.binds (ps := ["self"]) (fun _ _ _ _ _ _ us hl => match us, hl with | [_], _ => rfl), rfl⟩
  have c_l_each_right : Cal3 l.prog w K mg base 9 "_law_each_right" 0 (F_l_each_right ca) := ⟨f_15, _, _, PySem.W.mg_of X G a_15, k_15, F_15.binds (ps := []) (fun _ _ _ _ _ _ us hl => match us, hl with | [], _ => rfl), rfl, ok_l_each_right (ca := ca) F_15 nb c_Book n_Book_0 c_l_letters c_read h_Book_strokes⟩
  have c_l_fresh : Cal3 l.prog w K mg base 1 "_law_fresh" 1 (F_l_fresh ca) := ⟨f_16, _, _, PySem.W.mg_of X G a_16, k_16, F_16.binds (ps := ["pen"]) (fun _ _ _ _ _ _ us hl => match us, hl with | [_], _ => rfl), rfl, ok_l_fresh (ca := ca) F_16 nb c_Book n_Book_0⟩
  have c_l_draw : Cal3 l.prog w K mg base 2 "_law_draw" 2 (F_l_draw ca) := ⟨f_17, _, _, PySem.W.mg_of X G a_17, k_17, F_17.binds (ps := ["pen", "often"]) (fun _ _ _ _ _ _ us hl => match us, hl with | [_, _], _ => rfl), rfl, ok_l_draw (ca := ca) F_17 nb c_Book n_Book_0 c_l_fresh⟩
  have c_l_stretch : Cal3 l.prog w K mg base 3 "_law_stretch" 2 (F_l_stretch ca) := ⟨f_18, _, _, PySem.W.mg_of X G a_18, k_18, F_18.binds (ps := ["pen", "lot"]) (fun _ _ _ _ _ _ us hl => match us, hl with | [_, _], _ => rfl), rfl, ok_l_stretch (ca := ca) F_18 nb c_Book n_Book_0 c_l_draw⟩
  have c_l_rows : Cal3 l.prog w K mg base 4 "_law_rows" 4 (F_l_rows ca) := ⟨f_19, _, _, PySem.W.mg_of X G a_19, k_19, F_19.binds (ps := ["pen", "lot", "dyes", "tally"]) (fun _ _ _ _ _ _ us hl => match us, hl with | [_, _, _, _], _ => rfl), rfl, ok_l_rows (ca := ca) F_19 nb c_Book n_Book_0 c_l_stretch c_l_draw⟩
  have o_str : Own3 l.prog w K mg base 1 ca.Book "__str__" (F_Book_str_ ca) := ⟨f_20, _, a_20, i_20, ok_Book_str_ (ca := ca) F_20 nb c_Book n_Book_0, F_20.binds (ps := ["self"]) (fun _ _ _ _ _ _ us hl => match us, hl with | [_], _ => rfl)⟩
  have c_l_writing : Cal3 l.prog w K mg base 4 "_law_writing" 1 (F_l_writing ca) := ⟨f_21, _, _, PySem.W.mg_of X G a_21, k_21, F_21.binds (ps := ["rows"]) (fun _ _ _ _ _ _ us hl => match us, hl with | [_], _ => rfl), rfl, ok_l_writing (ca := ca) F_21 nb c_Book n_Book_0 o_str⟩
  have c_l_lot : Cal3 l.prog w K mg base 3 "_law_lot" 2 (F_l_lot ca) := ⟨f_22, _, _, PySem.W.mg_of X G a_22, k_22, F_22.binds (ps := ["pen", "size"]) (fun _ _ _ _ _ _ us hl => match us, hl with | [_, _], _ => rfl), rfl, ok_l_lot (ca := ca) F_22 nb c_Book n_Book_0 c_l_draw⟩
  have c_l_dyes : Cal3 l.prog w K mg base 3 "_law_dyes" 2 (F_l_dyes ca) := ⟨f_23, _, _, PySem.W.mg_of X G a_23, k_23, F_23.binds (ps := ["pen", "tally"]) (fun _ _ _ _ _ _ us hl => match us, hl with | [_, _], _ => rfl), rfl, ok_l_dyes (ca := ca) F_23 nb c_Book n_Book_0 c_l_draw c_l_letters⟩
  have h_Book_put : Met3 l.prog w K mg base 6 ca.Book "put" 3 (F_Book_put ca) := ⟨f_24, _, _, ⟨a_24, i_24, k_24⟩, ok_Book_put (ca := ca) F_24 nb c_Book n_Book_0 c_is_from_to c_own_stroke x_NoSlot, F_24.binds (ps := ["self", "slot", "stroke"]) (fun _ _ _ _ _ _ us hl => match us, hl with | [_, _, _], _ => rfl), rfl⟩
  exact ok_law (ca := ca) F_25 nb c_Book n_Book_0 c_l_pen c_l_each_right c_l_rows c_l_writing c_l_lot c_l_dyes c_read c_l_draw h_Book_put h_Book_strokes w_Book1 o_str o_eq ap_Book
end Lw
end

section
set_option linter.all false
set_option maxRecDepth 100000
set_option maxHeartbeats 4000000
namespace Lw
open PySem DL

/-! ### outcomes -/
theorem fin_same {S S' : Sto} {d : D} (h : S'.length = S.length) : fin S d S' = .ok d S' := by
  unfold fin
  rw [if_pos h]
@[simp] theorem fin_cons {o o' : Ob} {S : Sto} {d : D} : fin (o :: S) d (o' :: S) = .ok d (o' :: S) := fin_same (by simp)
@[simp] theorem fin_self {S : Sto} {d : D} : fin S d S = .ok d S := fin_same rfl
noncomputable def dEnd (S : Sto) (keep : Bool) (r : Rt) : Rs D := match r with
  | .go (.ret d) _ S' => if keep then .ok d S' else fin S d S'
  | .go .next _ S' => if keep then .ok .non S' else fin S .non S'
  | .exc C p _ S' => if keep then .exc C p S' else finX S C p S'
  | _ => .bad
theorem defF_ev (keep : Bool) (extra : Nat) (m : S3) (ds : List D) (S : Sto) : defF keep extra m ds S = dEnd S keep (m (ds.map some ++ List.replicate extra none) S) := rfl
@[simp] theorem dEnd_ret (S : Sto) (d : D) (σ : DL.Loc) (S' : Sto) : dEnd S false (.go (.ret d) σ S') = fin S d S' := rfl
@[simp] theorem dEnd_keep (S : Sto) (d : D) (σ : DL.Loc) (S' : Sto) : dEnd S true (.go (.ret d) σ S') = .ok d S' := rfl
@[simp] theorem dEnd_next (S : Sto) (σ : DL.Loc) (S' : Sto) : dEnd S false (.go .next σ S') = fin S .non S' := rfl
@[simp] theorem dEnd_nextk (S : Sto) (σ : DL.Loc) (S' : Sto) : dEnd S true (.go .next σ S') = .ok .non S' := rfl
@[simp] theorem ix30 : L2.ixN 3 0 = some 0 := rfl
@[simp] theorem ix31 : L2.ixN 3 1 = some 1 := rfl
@[simp] theorem ix32 : L2.ixN 3 2 = some 2 := rfl
@[simp] theorem truD_bl (b : Bool) (S : Sto) : truD (.bl b) S = some b := rfl
theorem compD_map (g : G3) (t : T3) (e : E3) (f : D → D) (σ : DL.Loc) (S : Sto) : ∀ (ds acc : List D), (∀ d ∈ ds, ∃ σ1, g d σ = some σ1 ∧ t σ1 S = .ok true S ∧ e σ1 S = .ok (f d) S) → acc.length + ds.length < 1000000 →
    compD g t e ds acc σ S = .ok (acc ++ ds.map f) S
  | [], acc, _, _ => by rw [List.map_nil, List.append_nil]; rfl
  | d :: ds, acc, h, hl => by
    rw [List.length_cons] at hl
    obtain ⟨σ1, e1, e2, e3⟩ := h d (List.mem_cons_self ..)
    rw [compD_cons, e1, cd1_ev, e2, cd2_true, e3, cd3_ev _ _ _ _ _ _ _ _ (by omega), compD_map g t e f σ S ds (acc ++ [f d]) (fun x hx => h x (List.mem_cons_of_mem _ hx)) (by rw [List.length_append, List.length_singleton]; omega), List.map_cons, List.append_assoc]
    rfl
theorem closed_ints (n : Nat) : ∀ xs : List Int, closedA n (xs.map D.int) = true
  | [] => rfl
  | x :: xs => closed_ints n xs
theorem closed_strs (n : Nat) : ∀ xs : List Str, closedA n (xs.map D.str) = true
  | [] => rfl
  | x :: xs => closed_strs n xs

/-! ### strokes -/
abbrev St := Int × Int × Str
def stD (s : St) : D := .tup [.int s.1, .int s.2.1, .str s.2.2]
structure OkC (x : Str) : Prop where
  l1 : 1 ≤ x.length
  l8 : x.length ≤ 8
  az : ∀ c ∈ x.cps.toList, 97 ≤ c ∧ c ≤ 122
structure OkS (s : St) : Prop where
  lo : 0 ≤ s.1
  le : s.1 ≤ s.2.1
  hi : s.2.1 ≤ 1000000000
  co : OkC s.2.2
theorem closed_st (n : Nat) : ∀ rs : List St, closedA n (rs.map stD) = true
  | [] => rfl
  | s :: rs => closed_st n rs

/-! ### the pen -/
structure Pen where
  cells : List Int
  nth : Nat
  left : Int
def penD (p : Pen) : List D := [.lst (p.cells.map D.int), .int p.nth, .int p.left]
abbrev penO (p : Pen) : Ob := .lst (penD p)
theorem closed_pen (n : Nat) (p : Pen) : (penO p).closed n = true := by
  show closedA n [.lst (p.cells.map D.int), .int p.nth, .int p.left] = true
  simp [closedA, closedD, closed_ints]
theorem rg_nat (n : Nat) (S : Sto) (h : n ≤ 1000000) : rg2 0 n S = .ok (rngD 0 n) S := by
  rw [rg2_ev (by decide) (by decide) (by omega) (by omega)]
  congr 2
theorem rng_len (n : Nat) : (rngD 0 n).length = n := by
  unfold rngD
  simp
theorem insOf_two (i j : Int) (S : Sto) : fSorted [.lst [.int i, .int j]] S = .ok (.lst ((sortI [i, j]).map D.int)) S := by
  have hl : ((sortI [i, j]).map D.int).length ≤ 1000000 := by
    have hp : (sortI [i, j]).length = 2 := (List.mergeSort_perm [i, j] leI).length_eq
    rw [List.length_map, hp]
    decide
  have e : fSorted [.lst [.int i, .int j]] S = mkLst ((sortI [i, j]).map D.int) S := rfl
  rw [e]
  exact mkLst_ev hl
theorem int_get {ys : List Int} {i : Int} (h0 : 0 ≤ i) (h1 : i < ys.length) : ∃ v, L2.atI (ys.map D.int) i = some (.int v) ∧ v ∈ ys := by
  obtain ⟨n, rfl⟩ : ∃ n : Nat, i = (n : Int) := ⟨i.toNat, by omega⟩
  have hl : n < ys.length := by omega
  refine ⟨ys[n], L2.atI_nat ?_, List.getElem_mem hl⟩
  rw [List.getElem?_map, List.getElem?_eq_getElem hl]
  rfl
theorem str_get {cs : List Str} {i : Int} (h0 : 0 ≤ i) (h1 : i < cs.length) : ∃ v, L2.atI (cs.map D.str) i = some (.str v) ∧ v ∈ cs := by
  obtain ⟨n, rfl⟩ : ∃ n : Nat, i = (n : Int) := ⟨i.toNat, by omega⟩
  have hl : n < cs.length := by omega
  refine ⟨cs[n], L2.atI_nat ?_, List.getElem_mem hl⟩
  rw [List.getElem?_map, List.getElem?_eq_getElem hl]
  rfl
theorem fin_all {d : D} (S : Sto) (h : closedD 0 d = true) : fin [] d S = .ok d [] := by
  cases S with
  | nil => exact fin_self
  | cons o S =>
    unfold fin
    rw [if_neg (by simp), if_pos ⟨Nat.zero_le _, fun k hk => absurd hk (Nat.not_lt_zero k)⟩, if_pos (show closedD [].length d = true from h)]
    rfl

section
variable {ca : CA}
theorem isi_ii (i : Int) (S : Sto) : fIsi [.int i, .ty "int"] S = .ok (.bl true) S := by
  have h : L2.kitB "int" "int" = some true := by decide +kernel
  show isi (.int i) (.ty "int") S = _
  simp only [isi, tyD, h]
theorem isi_ib (i : Int) (S : Sto) : fIsi [.int i, .ty "bool"] S = .ok (.bl false) S := by
  have h : L2.kitB "int" "bool" = some false := by decide +kernel
  show isi (.int i) (.ty "bool") S = _
  simp only [isi, tyD, h]
theorem isi_tt (xs : List D) (S : Sto) : fIsi [.tup xs, .ty "tuple"] S = .ok (.bl true) S := by
  have h : L2.kitB "tuple" "tuple" = some true := by decide +kernel
  show isi (.tup xs) (.ty "tuple") S = _
  simp only [isi, tyD, h]
theorem isi_ss (x : Str) (S : Sto) : fIsi [.str x, .ty "str"] S = .ok (.bl true) S := by
  have h : L2.kitB "str" "str" = some true := by decide +kernel
  show isi (.str x) (.ty "str") S = _
  simp only [isi, tyD, h]
theorem isi_tl (xs : List D) (S : Sto) : fIsi [.tup xs, .tup [.ty "tuple", .ty "list"]] S = .ok (.bl true) S := by
  have h : (tysOf [.ty "tuple", .ty "list"]).bind (kitS "tuple") = some true := by decide +kernel
  show isi (.tup xs) (.tup [.ty "tuple", .ty "list"]) S = _
  simp only [isi, tyD, h]
theorem isi_wtl (S : Sto) (xs : List D) : tyD S (.tup xs) = some "tuple" := rfl
theorem isi_ll (xs : List D) (S : Sto) : fIsi [.lst xs, .tup [.ty "tuple", .ty "list"]] S = .ok (.bl true) S := by
  have h : (tysOf [.ty "tuple", .ty "list"]).bind (kitS "list") = some true := by decide +kernel
  show isi (.lst xs) (.tup [.ty "tuple", .ty "list"]) S = _
  simp only [isi, tyD, h]
theorem isi_rl {k : Nat} {xs : List D} {S : Sto} (e : S[k]? = some (.lst xs)) : fIsi [.ref k, .tup [.ty "tuple", .ty "list"]] S = .ok (.bl true) S := by
  have h : (tysOf [.ty "tuple", .ty "list"]).bind (kitS "list") = some true := by decide +kernel
  show isi (.ref k) (.tup [.ty "tuple", .ty "list"]) S = _
  simp only [isi, tyD, e, h]
theorem from_to (i a b : Int) (S : Sto) : F_is_from_to ca [.int i, .int a, .int b] S = .ok (.bl (decide (a ≤ i) && decide (i ≤ b))) S := by
  unfold F_is_from_to m_is_from_to
  rw [defF_ev]
  by_cases h : a ≤ i <;> simp -implicitDefEqProofs [isi_ii, isi_ib, mkTup_ev, h, chn2_ev]
theorem is_place_ok {i : Int} (S : Sto) (h0 : 0 ≤ i) (h1 : i ≤ 1000000000) : F_is_place ca [.int i] S = .ok (.bl true) S := by
  unfold F_is_place m_is_place
  rw [defF_ev]
  simp -implicitDefEqProofs [from_to, h0, h1]
theorem is_stretch_ok {i j : Int} (S : Sto) (h0 : 0 ≤ i) (h1 : i ≤ j) (h2 : j ≤ 1000000000) : F_is_stretch ca [.tup [.int i, .int j]] S = .ok (.bl true) S := by
  have a := is_place_ok (ca := ca) S h0 (Int.le_trans h1 h2)
  have b := is_place_ok (ca := ca) S (Int.le_trans h0 h1) h2
  unfold F_is_stretch m_is_stretch
  rw [defF_ev]
  simp -implicitDefEqProofs [isi_tt, a, b, h1]
theorem one_le (c a : Nat) : (!ltL [c] [a]) = decide (a ≤ c) := by
  have e : ([c] < [a]) ↔ c < a := by
    rw [List.cons_lt_cons_iff]
    exact ⟨fun h => h.elim id fun h => absurd h.2 (List.not_lt_nil _), .inl⟩
  unfold ltL
  by_cases h : a ≤ c
  · rw [decide_eq_true h, decide_eq_false (fun z => by have := e.mp z; omega)]
    rfl
  · rw [decide_eq_false h, decide_eq_true (e.mpr (by omega))]
    rfl
theorem colour_ok {x : Str} (h : OkC x) (S : Sto) : F_is_colour ca [.str x] S = .ok (.bl true) S := by
  have l1 := h.l1
  have l8 := h.l8
  have hl : fLen [.str x] S = .ok (.int x.length) S := guard_ev (size_of (by omega))
  have hc := compD_map (g3Name 1) tTrue3 (mChain oLeA oLeA (mC (.str (Str.ofString "a"))) (mVar 1) (mC (.str (Str.ofString "z")))) (fun _ => .bl true) [some (.str x), none] S (chD x) [] (fun d hd => by
    unfold chD at hd
    obtain ⟨c, hc, rfl⟩ := List.mem_map.mp hd
    obtain ⟨h1, h2⟩ := h.az c hc
    refine ⟨[some (.str x), some (.str ⟨#[c]⟩)], rfl, rfl, ?_⟩
    have k1 : oLeA (.str (Str.ofString "a")) (.str ⟨#[c]⟩) S = .ok (.bl true) S := by
      show Rs.ok (D.bl (!ltL [c] [97])) S = _
      rw [one_le, decide_eq_true h1]
    have k2 : oLeA (.str ⟨#[c]⟩) (.str (Str.ofString "z")) S = .ok (.bl true) S := by
      show Rs.ok (D.bl (!ltL [122] [c])) S = _
      rw [one_le, decide_eq_true h2]
    simp -implicitDefEqProofs [k1, k2]) (by
      unfold chD
      rw [List.length_map, List.length_nil]
      show 0 + x.cps.toList.length < 1000000
      have : x.cps.toList.length = x.length := Array.length_toList
      omega)
  have ha : fAll [.lst ((chD x).map fun _ => .bl true)] S = .ok (.bl true) S := by
    have hb : ∀ ds : List D, blsOf (ds.map fun _ => D.bl true) = some (ds.map fun _ => true) := by
      intro ds
      induction ds with
      | nil => rfl
      | cons d ds ih =>
        show (match D.bl true, blsOf (ds.map fun _ => D.bl true) with
          | .bl b, some bs => some (b :: bs)
          | _, _ => none) = _
        rw [ih]
        rfl
    show (match blsOf ((chD x).map fun _ => D.bl true) with
      | some bs => Rs.ok (D.bl (bs.all id)) S
      | none => .bad) = _
    rw [hb]
    simp
  have hw : wipeD [some (.str x), none] [1] = [some (.str x), none] := rfl
  have e1 : oLeA (.int 1) (.int x.length) S = .ok (.bl true) S := by simp; omega
  have e2 : oLeA (.int x.length) (.int 8) S = .ok (.bl true) S := by simp; omega
  unfold F_is_colour m_is_colour
  rw [defF_ev]
  simp -implicitDefEqProofs [isi_ss, hl, e1, e2, hw, hc, ha]
end
end Lw
end

section
set_option linter.all false
set_option maxRecDepth 100000
set_option maxHeartbeats 4000000
namespace Lw
open PySem DL
section
variable {ca : CA}
theorem is_stroke_ok {s : St} (h : OkS s) (S : Sto) : F_is_stroke ca [stD s] S = .ok (.bl true) S := by
  have a := is_stretch_ok (ca := ca) S h.lo h.le h.hi
  have b := colour_ok (ca := ca) h.co S
  unfold F_is_stroke m_is_stroke stD
  rw [defF_ev]
  simp -implicitDefEqProofs [isi_tt, mkTup_ev, a, b]
theorem own_ok {s : St} (h : OkS s) (S : Sto) : F_own_stroke ca [stD s] S = .ok (stD s) S := by
  have a := is_stroke_ok (ca := ca) h S
  unfold F_own_stroke m_own_stroke
  rw [defF_ev]
  unfold stD at a ⊢
  simp -implicitDefEqProofs [a, mkTup_ev]
abbrev bkO (ca : CA) (s : Nat) : Ob := .ins ca.Book [("_strokes", .ref s)]
abbrev rsO (rs : List St) : Ob := .lst (rs.map stD)
/-- what a book may be made of -/
structure Rows (d : D) (rs : List St) (S : Sto) : Prop where
  isi : fIsi [d, .tup [.ty "tuple", .ty "list"]] S = .ok (.bl true) S
  wk : ∃ o, wkS d S = .ok (rs.map stD, o) S ∧ gOk o S
  ok : ∀ r ∈ rs, OkS r
  ln : rs.length < 1000
theorem init_ok {d : D} {rs : List St} (S : Sto) (h : Rows d rs (S ++ [.ins ca.Book []])) : F_Book_init_ ca [.ref S.length, d] (S ++ [.ins ca.Book []]) = .ok .non (S ++ [bkO ca (S.length + 1), rsO rs]) := by
  obtain ⟨o, hw, ho⟩ := h.wk
  have hl := h.ln
  have hc := compG_map (o := o) (g3Name 2) tTrue3 (mMake (withLen 1 (F_own_stroke ca)) (mCons (mVar 2) mNil)) (fun d => d) [some (.ref S.length), some d, none] ho (rs.map stD) [] (fun x hx => by
    obtain ⟨r, hr, rfl⟩ := List.mem_map.mp hx
    exact ⟨[some (.ref S.length), some d, some (stD r)], rfl, rfl, by simp [own_ok (h.ok r hr)]⟩) (by rw [List.length_map, List.length_nil]; omega)
  have hp : putAt ca.Book "_strokes" (.ref S.length) (.ref (S.length + 1)) (S ++ [.ins ca.Book [], .lst (rs.map stD)]) = .ok .non (S ++ [bkO ca (S.length + 1), .lst (rs.map stD)]) := by
    rw [putAt_new (by simp)]
    simp
  have hwi : wipeD [some (.ref S.length), some d, none] [2] = [some (.ref S.length), some d, none] := rfl
  rw [List.map_id', List.nil_append] at hc
  show _ = Rs.ok D.non (S ++ [bkO ca (S.length + 1), .lst (rs.map stD)])
  unfold F_Book_init_ m_Book_init_
  rw [defF_ev]
  generalize rs.map stD = RS at *
  simp -implicitDefEqProofs [mkTup_ev, h.isi, hw, hwi, hc, hp]
/-- a book in the store -/
structure Bk (ca : CA) (S : Sto) (b s : Nat) (rs : List St) : Prop where
  hb : S[b]? = some (bkO ca s)
  hs : S[s]? = some (rsO rs)
  ok : ∀ r ∈ rs, OkS r
  ln : rs.length < 1000
theorem new_ok {d : D} {rs : List St} (S : Sto) (h : Rows d rs (S ++ [.ins ca.Book []])) : newRes S.length (withLen 2 (F_Book_init_ ca) [.ref S.length, d] (S ++ [.ins ca.Book []])) = .ok (.ref S.length) (S ++ [bkO ca (S.length + 1), rsO rs]) := by
  rw [withLen_ev 2 _ _ _ rfl, init_ok S h, newRes_ev]
theorem bk_new {S : Sto} {rs : List St} (h : ∀ r ∈ rs, OkS r) (hl : rs.length < 1000) : Bk ca (S ++ [bkO ca (S.length + 1), rsO rs]) S.length (S.length + 1) rs := ⟨by simp, by simp, h, hl⟩
theorem Bk.ne {S : Sto} {b s : Nat} {rs : List St} (h : Bk ca S b s rs) : b ≠ s := fun e => by
  have h1 := h.hb
  have h2 := h.hs
  rw [e, h2] at h1
  cases h1
theorem Bk.fld {S : Sto} {b s : Nat} {rs : List St} (h : Bk ca S b s rs) : fldAt ca.Book "_strokes" (.ref b) S = .ok (.ref s) S := fldAt_one h.hb
theorem Bk.set {S : Sto} {b s : Nat} {rs rs' : List St} (h : Bk ca S b s rs) (ok : ∀ r ∈ rs', OkS r) (ln : rs'.length < 1000) : Bk ca (S.set s (rsO rs')) b s rs' := by
  refine ⟨?_, ?_, ok, ln⟩
  · rw [List.getElem?_set_ne (fun e => h.ne e.symm)]
    exact h.hb
  · rw [List.getElem?_set_self (List.getElem?_eq_some_iff.mp h.hs).1]
theorem len_ref {k : Nat} {xs : List D} {S : Sto} (h : S[k]? = some (.lst xs)) : fLen [.ref k] S = .ok (.int xs.length) S := by
  rw [fLen_ref, itemsOf_refE, h, itm_lst, len2_ev]
end
end Lw
end

section
set_option linter.all false
set_option maxRecDepth 100000
set_option maxHeartbeats 4000000
namespace Lw
open PySem DL
/-- a book behind the pen -/
structure BkT (ca : CA) (T : Sto) (b s : Nat) (rs : List St) : Prop where
  hb : T[b]? = some (bkO ca (s + 1))
  hs : T[s]? = some (rsO rs)
  ok : ∀ r ∈ rs, OkS r
  ln : rs.length < 1000
section
variable {ca : CA} {T : Sto} {b s : Nat} {rs : List St}
theorem BkT.at_ (h : BkT ca T b s rs) (p : Pen) : Bk ca (penO p :: T) (b + 1) (s + 1) rs := ⟨h.hb, h.hs, h.ok, h.ln⟩
theorem BkT.ins (h : BkT ca T b s rs) (p : Pen) {n : Str} (hn : (n == ("_strokes" : Str)) = false) : insAt ca.Book n (.ref (b + 1)) (penO p :: T) = true := insAt_one (h.at_ p).hb hn
theorem new_T (T : Sto) (p : Pen) (h : ∀ r ∈ rs, OkS r) (hl : rs.length < 1000) : newRes (T.length + 1) (F_Book_init_ ca [.ref (T.length + 1), .tup (rs.map stD)] (penO p :: (T ++ [.ins ca.Book []]))) = .ok (.ref (T.length + 1)) (penO p :: (T ++ [bkO ca (T.length + 2), rsO rs])) ∧ BkT ca (T ++ [bkO ca (T.length + 2), rsO rs]) T.length (T.length + 1) rs := by
  refine ⟨new_ok (penO p :: T) ⟨isi_tl _ _, ⟨none, rfl, trivial⟩, h, hl⟩, by simp, by simp, h, hl⟩
theorem new_L (T : Sto) (p : Pen) (h : ∀ r ∈ rs, OkS r) (hl : rs.length < 1000) : newRes (T.length + 1) (F_Book_init_ ca [.ref (T.length + 1), .lst (rs.map stD)] (penO p :: (T ++ [.ins ca.Book []]))) = .ok (.ref (T.length + 1)) (penO p :: (T ++ [bkO ca (T.length + 2), rsO rs])) ∧ BkT ca (T ++ [bkO ca (T.length + 2), rsO rs]) T.length (T.length + 1) rs := by
  refine ⟨new_ok (penO p :: T) ⟨isi_ll _ _, ⟨none, rfl, trivial⟩, h, hl⟩, by simp, by simp, h, hl⟩
/-- other objects come behind -/
theorem BkT.more (h : BkT ca T b s rs) (U : Sto) : BkT ca (T ++ U) b s rs := ⟨by
  rw [List.getElem?_append_left (List.getElem?_eq_some_iff.mp h.hb).1]
  exact h.hb, by
  rw [List.getElem?_append_left (List.getElem?_eq_some_iff.mp h.hs).1]
  exact h.hs, h.ok, h.ln⟩

end
end Lw
end

section
set_option linter.all false
set_option maxRecDepth 100000
set_option maxHeartbeats 4000000
namespace Lw
open PySem DL
section
variable {ca : CA}
theorem put_ok {S : Sto} {b s n : Nat} {rs : List St} {r : St} (h : Bk ca S b s rs) (hr : OkS r) (hn : n ≤ rs.length) : F_Book_put ca [.ref b, .int n, stD r] S = .ok .non (S.set s (rsO (rs.take n ++ [r] ++ rs.drop n))) := by
  have hl := h.ln
  have h1 := len_ref h.hs
  rw [List.length_map] at h1
  have h2 := from_to (ca := ca) n 0 rs.length S
  rw [decide_eq_true (by omega : (0 : Int) ≤ n), decide_eq_true (by omega : (n : Int) ≤ rs.length)] at h2
  have h3 := ins_ev (y := stD r) h.hs (by rw [List.length_map]; omega) (by omega : n < 1000000)
  have h4 := own_ok (ca := ca) hr S
  have h5 := isList_ref h.hs
  have h6 : fin S .non (S.set s (rsO (rs.take n ++ [r] ++ rs.drop n))) = .ok .non (S.set s (rsO (rs.take n ++ [r] ++ rs.drop n))) := fin_same (by simp)
  have e : (rs.map stD).take n ++ [stD r] ++ (rs.map stD).drop n = (rs.take n ++ [r] ++ rs.drop n).map stD := by simp
  rw [e] at h3
  unfold F_Book_put m_Book_put
  rw [defF_ev]
  generalize (rs.take n ++ [r] ++ rs.drop n) = RN at *
  generalize stD r = RR at *
  simp -implicitDefEqProofs [h.fld, h1, h2, h4, meth1_ev _ _ _ _ _ h5, h3, h6]
theorem strokes_ok {S : Sto} {b s : Nat} {rs : List St} (h : Bk ca S b s rs) : F_Book_strokes ca [.ref b] S = .ok (.tup (rs.map stD)) S := by
  have hl := h.ln
  have hw := wkS_ref h.hs
  have ho : gOk (some (s, rs.map stD)) S := h.hs
  have hc := compG_map (o := some (s, rs.map stD)) (g3Tup 3 (g3Cons (g3Name 1) (g3Cons (g3Name 2) (g3Cons (g3Name 3) g3Nil)))) tTrue3 (mMake mkTup (mCons (mVar 1) (mCons (mVar 2) (mCons (mVar 3) mNil)))) (fun d => d) [some (.ref b), none, none, none] ho (rs.map stD) [] (fun x hx => by
    obtain ⟨r, hr, rfl⟩ := List.mem_map.mp hx
    refine ⟨[some (.ref b), some (.int r.1), some (.int r.2.1), some (.str r.2.2)], by unfold stD; simp, rfl, ?_⟩
    unfold stD
    simp -implicitDefEqProofs [mkTup_ev]) (by rw [List.length_map, List.length_nil]; omega)
  rw [List.map_id', List.nil_append] at hc
  have hwi : wipeD [some (.ref b), none, none, none] [1, 2, 3] = [some (.ref b), none, none, none] := rfl
  have ht : fTuple [.lst (rs.map stD)] S = .ok (.tup (rs.map stD)) S := mkTup_ev (by rw [List.length_map]; omega)
  unfold F_Book_strokes m_Book_strokes
  rw [defF_ev]
  generalize rs.map stD = RS at *
  simp -implicitDefEqProofs [h.fld, hw, hwi, hc, ht]
theorem at_pen {T : Sto} {b s : Nat} {rs : List St} (h : BkT ca T b s rs) (p : Pen) : Bk ca (penO p :: T) (b + 1) (s + 1) rs := ⟨h.hb, h.hs, h.ok, h.ln⟩
end
end Lw
end

section
set_option linter.all false
set_option maxRecDepth 100000
set_option maxHeartbeats 4000000
namespace Lw
open PySem DL
section
variable {ca : CA}

/-! ### the pen -/
theorem pow_small {a : Int} (h0 : 0 ≤ a) (h : a < 2 ^ 64) : a.natAbs < 2 ^ 64 := by omega
theorem mul_in {a b A B : Int} (h0 : 0 ≤ a) (h1 : a ≤ A) (k0 : 0 ≤ b) (k1 : b ≤ B) : 0 ≤ a * b ∧ a * b ≤ A * B :=
  ⟨Int.mul_nonneg h0 k0, Int.mul_le_mul h1 k1 k0 (Int.le_trans h0 h1)⟩

noncomputable def fr_tail : S3 :=
  (mSeq (mAsg (mBin oMod (mBin oPow (mBin (oCat false) (mBin (oCat false) (mBin oMulA (mBin oMod (mVar 2) (mC (.int 1000000009))) (mBin (oCat false) (mVar 1) (mC (.int 3)))) (mBin oMulA (mC (.int 99991)) (mVar 1))) (mC (.int 23))) (mC (.int 3))) (mC (.int 2147483587))) (g3Name 3))
    (mSeq (mAsg (mBin oMod (mBin oPow (mBin (oCat false) (mBin (oCat false) (mBin oMulA (mVar 3) (mBin (oCat false) (mVar 1) (mC (.int 7)))) (mBin oMod (mVar 2) (mC (.int 65521)))) (mC (.int 2))) (mC (.int 5))) (mC (.int 2147483563))) (g3Name 4))
    (mSeq (mAsg (mBin oMod (mBin (oCat false) (mBin (oCat false) (mBin oMulA (mVar 4) (mVar 4)) (mVar 3)) (mBin oMulA (mC (.int 5)) (mVar 1))) (mC (.int 2147483549))) (g3Name 5))
    (mRet (mBin (oCat false) (mBin oMulA (mBin (oCat false) (mBin oMulA (mVar 5) (mC (.int 2147483587))) (mVar 4)) (mC (.int 2147483563))) (mVar 3))))))
noncomputable def fr_test : S3 :=
  (mIfS (tAnd3 (fun σ S => asB (mBin oLtA (mVar 1) (mMake fLen (mCons (mBin oIx (mVar 0) (mC (.int 0))) mNil)) σ S)) (fun σ S => asB (mBin oGeA (mVar 2) (mBin oPow (mC (.int 10)) (mC (.int 18))) σ S))) (mRet (mVar 2)) mNext)
noncomputable def fr_cell : S3 :=
  (mIfS (fun σ S => asB (mBin oGtA (mMake fLen (mCons (mBin oIx (mVar 0) (mC (.int 0))) mNil)) (mC (.int 0)) σ S)) (mAsg (mBin oIx (mBin oIx (mVar 0) (mC (.int 0))) (mBin oMod (mVar 1) (mMake fLen (mCons (mBin oIx (mVar 0) (mC (.int 0))) mNil)))) (g3Name 2)) mNext)
theorem m_fresh_eq (ca : CA) : (m_l_fresh ca) = mSeq (mAsg (mBin oIx (mVar 0) (mC (.int 1))) (g3Name 1))
    (mSeq (mSetIx (mVar 0) (mC (.int 1)) (mBin (oCat false) (mVar 1) (mC (.int 1))))
    (mSeq (mAsg (mBin (oCat false) (mBin oMulA (mC (.int 29)) (mVar 1)) (mC (.int 13))) (g3Name 2)) (mSeq fr_cell (mSeq fr_test fr_tail)))) := rfl
theorem one_in (n : Nat) (hn : n < 2 ^ 31) (c : Int) : (c % 1000000009).natAbs < 2 ^ 64 ∧ (c % 1000000009 * ((n : Int) + 3) + 99991 * (n : Int) + 23).natAbs < 2 ^ 64 := by
  have a1 := Int.emod_nonneg c (b := 1000000009) (by decide)
  have a2 := Int.emod_lt_of_pos c (b := 1000000009) (by decide)
  have hm := mul_in (A := 1000000009) (B := 2147483651) (b := (n : Int) + 3) a1 (by omega) (by omega) (by omega)
  generalize c % 1000000009 * ((n : Int) + 3) = m at *
  constructor <;> omega
theorem two_in (n : Nat) (hn : n < 2 ^ 31) (c one : Int) (b1 : 0 ≤ one) (b2 : one < 2147483587) : one.natAbs < 2 ^ 64 ∧ (one * ((n : Int) + 7) + c % 65521 + 2).natAbs < 2 ^ 64 := by
  have hm2 := mul_in (A := 2147483587) (B := 2147483655) (b := (n : Int) + 7) b1 (by omega) (by omega) (by omega)
  have d1 := Int.emod_nonneg c (b := 65521) (by decide)
  have d2 := Int.emod_lt_of_pos c (b := 65521) (by decide)
  generalize one * ((n : Int) + 7) = m at *
  generalize c % 65521 = m2 at *
  constructor <;> omega
theorem lim_in (a m : Int) (hm : 0 < m) (hm2 : m < 2 ^ 32) : 0 ≤ a % m ∧ a % m < m := ⟨Int.emod_nonneg a (by omega), Int.emod_lt_of_pos a hm⟩
theorem tail_ok (n : Nat) (hn : n < 2 ^ 31) (c : Int) (S : Sto) : ∃ v σ, fr_tail [some (.ref 0), some (.int n), some (.int c), none, none, none] S = .go (.ret (.int v)) σ S := by
    obtain ⟨h1, h2⟩ := one_in n hn c
    obtain ⟨b1, b2⟩ := lim_in ((c % 1000000009 * ((n : Int) + 3) + 99991 * (n : Int) + 23) ^ 3) 2147483587 (by decide) (by decide)
    generalize h4 : (c % 1000000009 * ((n : Int) + 3) + 99991 * (n : Int) + 23) ^ 3 % 2147483587 = one at *
    obtain ⟨h5, h6⟩ := two_in n hn c one b1 b2
    obtain ⟨c1, c2⟩ := lim_in ((one * ((n : Int) + 7) + c % 65521 + 2) ^ 5) 2147483563 (by decide) (by decide)
    generalize h7 : (one * ((n : Int) + 7) + c % 65521 + 2) ^ 5 % 2147483563 = two at *
    have h8 : two.natAbs < 2 ^ 64 := by omega
    unfold fr_tail
    simp -implicitDefEqProofs [oMul_l, oMul_r, oMod_ev, oPow_ev, h1, h2, h4, h5, h6, h7, h8]
theorem cell_ok (p : Pen) (n : Nat) (c : Int) (S : Sto) : ∃ c', fr_cell [some (.ref 0), some (.int n), some (.int c), none, none, none] (penO p :: S) = .go .next [some (.ref 0), some (.int n), some (.int c'), none, none, none] (penO p :: S) := by
  unfold fr_cell
  by_cases hc : p.cells.length = 0
  · exact ⟨c, by simp [penD, hc]⟩
  · have hp : 0 < p.cells.length := Nat.pos_of_ne_zero hc
    have lt := Nat.mod_lt n hp
    have e1 : ((n : Int) % (p.cells.length : Int)) = ((n % p.cells.length : Nat) : Int) := by omega
    have e2 : L2.atI (List.map D.int p.cells) ((n : Int) % (p.cells.length : Int)) = some (.int (p.cells[n % p.cells.length])) := by
      rw [e1, L2.atI_nat (v := .int (p.cells[n % p.cells.length]))]
      simp
    exact ⟨p.cells[n % p.cells.length], by simp [penD, hp, e2, oMod_ev]⟩
theorem big18 : (10 : Int) ^ 18 = 1000000000000000000 := by decide
theorem test_ok (p : Pen) (n : Nat) (c : Int) (S : Sto) : fr_test [some (.ref 0), some (.int n), some (.int c), none, none, none] (penO p :: S) = .go .next [some (.ref 0), some (.int n), some (.int c), none, none, none] (penO p :: S) ∨
    fr_test [some (.ref 0), some (.int n), some (.int c), none, none, none] (penO p :: S) = .go (.ret (.int c)) [some (.ref 0), some (.int n), some (.int c), none, none, none] (penO p :: S) := by
  unfold fr_test
  by_cases h1 : n < p.cells.length
  · by_cases h2 : (1000000000000000000 : Int) ≤ c
    · right
      simp [penD, h1, oPow_ev, h2, big18]
    · left
      simp [penD, h1, oPow_ev, h2, big18]
  · left
    simp [penD, h1]
theorem fresh_ok (p : Pen) (S : Sto) (hn : p.nth < 2 ^ 31) : ∃ v, (F_l_fresh ca) [.ref 0] (penO p :: S) = .ok (.int v) (penO { p with nth := p.nth + 1 } :: S) := by
  obtain ⟨c, hc⟩ := cell_ok { p with nth := p.nth + 1 } p.nth (29 * p.nth + 13) S
  obtain ⟨v, σ, ht⟩ := tail_ok p.nth hn c (penO { p with nth := p.nth + 1 } :: S)
  unfold F_l_fresh
  rw [defF_ev, m_fresh_eq ca]
  rcases test_ok { p with nth := p.nth + 1 } p.nth c S with h | h
  · refine ⟨v, ?_⟩
    simp [penO, penD, oMul_l] at hc ht h ⊢
    simp [hc, ht, h]
  · refine ⟨c, ?_⟩
    simp [penO, penD, oMul_l] at hc ht h ⊢
    simp [hc, h]

theorem draw_ok (b : Nat) (p : Pen) (S : Sto) (n : Int) (hb : b < 2 ^ 31) (hp : p.nth ≤ b) (n0 : 0 < n) (n1 : n < 1073741824) :
    ∃ d p', (F_l_draw ca) [.ref 0, .int n] (penO p :: S) = .ok (.int d) (penO p' :: S) ∧ 0 ≤ d ∧ d < n ∧ p'.nth ≤ b + 1 := by
  have fin2 : ∀ q : Pen, q.nth ≤ b + 1 → ∃ d p', dEnd (penO p :: S) false (mSeq (mAsg (mBin oMod (mBin oIx (mVar 0) (mC (.int 2))) (mVar 1)) (g3Name 2))
    (mSeq (mSetIx (mVar 0) (mC (.int 2)) (mBin oDiv (mBin oIx (mVar 0) (mC (.int 2))) (mVar 1)))
    (mRet (mVar 2))) [some (.ref 0), some (.int n), none] (penO q :: S)) = .ok (.int d) (penO p' :: S) ∧ 0 ≤ d ∧ d < n ∧ p'.nth ≤ b + 1 := by
    intro q hq
    refine ⟨q.left % n, { q with left := q.left / n }, ?_, Int.emod_nonneg _ (by omega), Int.emod_lt_of_pos _ n0, hq⟩
    simp [penO, penD, oMod_ev, oDiv_ev, n0, n1]
  unfold F_l_draw
  rw [defF_ev]
  unfold m_l_draw
  by_cases hl : p.left < n
  · obtain ⟨v, hv⟩ := fresh_ok (ca := ca) p S (by omega)
    obtain ⟨d, p', h1, h2⟩ := fin2 { p with nth := p.nth + 1, left := v } (by simp; omega)
    refine ⟨d, p', ?_, h2⟩
    rw [← h1]
    simp [penO, penD] at hv ⊢
    simp [hl, hv]
  · obtain ⟨d, p', h1, h2⟩ := fin2 p (by omega)
    refine ⟨d, p', ?_, h2⟩
    rw [← h1]
    simp [penO, penD, hl]

/-! ### a lot of places -/
theorem jump_ok (d : Int) (h0 : 0 ≤ d) (h1 : d < 6) : ∃ g, L2.atI [D.int 0, D.int 0, D.int 1, D.int 2, D.int 50, D.int 10000000] d = some (.int g) ∧ 0 ≤ g ∧ g ≤ 10000000 := by
  have : d = 0 ∨ d = 1 ∨ d = 2 ∨ d = 3 ∨ d = 4 ∨ d = 5 := by omega
  rcases this with rfl | rfl | rfl | rfl | rfl | rfl
  · exact ⟨0, L2.atI_nat (j := 0) rfl, by decide, by decide⟩
  · exact ⟨0, L2.atI_nat (j := 1) rfl, by decide, by decide⟩
  · exact ⟨1, L2.atI_nat (j := 2) rfl, by decide, by decide⟩
  · exact ⟨2, L2.atI_nat (j := 3) rfl, by decide, by decide⟩
  · exact ⟨50, L2.atI_nat (j := 4) rfl, by decide, by decide⟩
  · exact ⟨10000000, L2.atI_nat (j := 5) rfl, by decide, by decide⟩

abbrev lotO (xs : List Int) : Ob := .lst (xs.map D.int)
noncomputable def lot_body (ca : CA) : S3 := (mSeq (mExpr (mMethL fAppend (mVar 2) (mCons (mVar 3) mNil)))
    (mAsg (mBin (oCat false) (mBin (oCat false) (mVar 3) (mC (.int 1))) (mBin oIx (mMake mkLst (mCons (mC (.int 0)) (mCons (mC (.int 0)) (mCons (mC (.int 1)) (mCons (mC (.int 2)) (mCons (mC (.int 50)) (mCons (mBin oPow (mC (.int 10)) (mC (.int 7))) mNil))))))) (mMake (withLen 2 (F_l_draw ca)) (mCons (mVar 0) (mCons (mC (.int 6)) mNil))))) (g3Name 3)))
theorem lot_turn (T : Sto) (b : Nat) (p : Pen) (sz x at_ : Int) (o : Option D) (xs : List Int) (hb : b < 2 ^ 31) (hp : p.nth ≤ b) (hl : xs.length < 1000) :
    ∃ p' g, lot_body ca [some (.ref 0), some (.int sz), some (.ref (T.length + 1)), some (.int at_), o] (penO p :: (T ++ [lotO xs])) = .go .next [some (.ref 0), some (.int sz), some (.ref (T.length + 1)), some (.int (at_ + 1 + g)), o] (penO p' :: (T ++ [lotO (xs ++ [at_])])) ∧ p'.nth ≤ b + 1 ∧ 0 ≤ g ∧ g ≤ 10000000 := by
  obtain ⟨d, p', e, d0, d1, hp'⟩ := draw_ok (ca := ca) b p (T ++ [lotO (xs ++ [at_])]) 6 hb hp (by decide) (by decide)
  obtain ⟨g, eg, g0, g1⟩ := jump_ok d d0 d1
  refine ⟨p', g, ?_, hp', g0, g1⟩
  have ha : fAppend (.ref (T.length + 1)) [.int at_] (penO p :: (T ++ [lotO xs])) = .ok .non (penO p :: (T ++ [lotO (xs ++ [at_])])) := by
    rw [fAppend_ev (get_last _ _ _) (by simp; omega), set_last]
    simp
  have hm : isListIn (penO p :: (T ++ [lotO xs])) (.ref (T.length + 1)) = true := isList_ref (get_last _ _ _)
  unfold lot_body
  simp -implicitDefEqProofs [meth1_ev _ _ _ _ _ hm, ha, oPow_ev, mkLst_ev, e, eg]
theorem lot_loop (T : Sto) : ∀ (n k : Nat) (b : Nat) (p : Pen) (sz at_ : Int) (o : Option D) (xs : List Int), b + n < 2 ^ 31 → p.nth ≤ b → xs.length + n < 1000 → (∀ x ∈ xs, 0 ≤ x ∧ x < at_) → xs.Pairwise (· < ·) → 0 ≤ at_ →
    ∃ p' at' o' ys, forD (g3Name 4) (lot_body ca) ((List.range' k n).map fun (i : Nat) => D.int ((i : Nat) : Int)) [some (.ref 0), some (.int sz), some (.ref (T.length + 1)), some (.int at_), o] (penO p :: (T ++ [lotO xs])) =
      .go .next [some (.ref 0), some (.int sz), some (.ref (T.length + 1)), some (.int at'), o'] (penO p' :: (T ++ [lotO ys])) ∧ p'.nth ≤ b + n ∧ ys.length = xs.length + n ∧ (∀ x ∈ ys, 0 ≤ x ∧ x < at') ∧ ys.Pairwise (· < ·) ∧ at_ ≤ at' ∧ at' ≤ at_ + n * 10000001
  | 0, k, b, p, sz, at_, o, xs, _, hp, _, h1, h2, _ => ⟨p, at_, o, xs, rfl, hp, by omega, h1, h2, by omega, by omega⟩
  | n + 1, k, b, p, sz, at_, o, xs, hb, hp, hl, h1, h2, h0 => by
    obtain ⟨p1, g, e, hp1, g0, g1⟩ := lot_turn (ca := ca) T b p sz k at_ (some (.int k)) xs (by omega) hp (by omega)
    obtain ⟨p', at', o', ys, e2, q1, q2, q3, q4, q5, q6⟩ := lot_loop T n (k + 1) (b + 1) p1 sz (at_ + 1 + g) (some (.int k)) (xs ++ [at_]) (by omega) hp1 (by simp; omega)
      (by intro x hx; rcases List.mem_append.mp hx with hx | hx
          · have := h1 x hx; omega
          · have := List.mem_singleton.mp hx; omega)
      (List.pairwise_append.mpr ⟨h2, List.pairwise_singleton _ _, fun a ha c hc => by have := h1 a ha; have := List.mem_singleton.mp hc; omega⟩) (by omega)
    refine ⟨p', at', o', ys, ?_, by omega, by simp at q2; omega, q3, q4, by omega, by omega⟩
    rw [List.range'_succ, List.map_cons, forD_cons]
    simp only [g3Name_ev, for2_ev, List.set_cons_succ, List.set_cons_zero, e, for3_next]
    exact e2
theorem ixN_end {n : Nat} (h : 0 < n) : L2.ixN n (-1) = some (n - 1) := by
  obtain ⟨m, rfl⟩ : ∃ m, n = m + 1 := ⟨n - 1, by omega⟩
  rw [ixN_last]
  simp
structure Lot (ys : List Int) : Prop where
  all : ∀ x ∈ ys, 0 ≤ x ∧ x ≤ 1000000000
  up : ys.Pairwise (· < ·)
theorem rg_natR (n : Nat) (S : Sto) (h : n ≤ 1000000) : rg2 0 n S = .ok ((List.range' 0 n).map fun (i : Nat) => D.int ((i : Nat) : Int)) S := by
  rw [rg2_ev (by decide) (by decide) (by omega) (by omega)]
  congr 1
  unfold rngD
  rw [List.range_eq_range']
  simp
theorem lot_ok (T : Sto) (b n : Nat) (p : Pen) (hb : b + n + 2 < 2 ^ 31) (hp : p.nth ≤ b) (n0 : 0 < n) (n1 : n < 90) :
    ∃ p' ys, F_l_lot ca [.ref 0, .int n] (penO p :: T) = .ok (.lst (ys.map D.int)) (penO p' :: T) ∧ p'.nth ≤ b + n + 2 ∧ ys.length = n ∧ Lot ys := by
  obtain ⟨a, p1, e1, a0, a1, hp1⟩ := draw_ok (ca := ca) b p (T ++ [lotO []]) 3 (by omega) hp (by decide) (by decide)
  obtain ⟨p2, at', o', ys, e2, hp2, hl, q3, q4, q5, q6⟩ := lot_loop (ca := ca) T n 0 (b + 1) p1 n a none [] (by omega) hp1 (by simp; omega) (by simp) (by simp) a0
  obtain ⟨d, p3, e3, d0, d1, hp3⟩ := draw_ok (ca := ca) (b + 1 + n) p2 (T ++ [lotO ys]) 3 (by omega) hp2 (by decide) (by decide)
  simp at hl
  have er := rg_natR n (penO p1 :: (T ++ [lotO []])) (by omega)
  have e1' : F_l_draw ca [.ref 0, .int 3] (penO p :: (T ++ [.lst []])) = .ok (.int a) (penO p1 :: (T ++ [.lst []])) := e1
  have er' : rg2 0 n (penO p1 :: (T ++ [.lst []])) = .ok ((List.range' 0 n).map fun (i : Nat) => D.int ((i : Nat) : Int)) (penO p1 :: (T ++ [.lst []])) := er
  have e2' : forD (g3Name 4) (lot_body ca) ((List.range' 0 n).map fun (i : Nat) => D.int ((i : Nat) : Int)) [some (.ref 0), some (.int n), some (.ref (T.length + 1)), some (.int a), none] (penO p1 :: (T ++ [.lst []])) =
    .go .next [some (.ref 0), some (.int n), some (.ref (T.length + 1)), some (.int at'), o'] (penO p2 :: (T ++ [lotO ys])) := e2
  generalize (List.range' 0 n).map (fun (i : Nat) => D.int ((i : Nat) : Int)) = RS at *
  unfold F_l_lot
  rw [defF_ev]
  have em : m_l_lot ca = mSeq (mAsg (mMake mkOpen mNil) (g3Name 2))
    (mSeq (mAsg (mMake (withLen 2 (F_l_draw ca)) (mCons (mVar 0) (mCons (mC (.int 3)) mNil))) (g3Name 3))
    (mSeq (mFor (mRange1 (mCons (mVar 1) mNil)) (g3Name 4) (lot_body ca))
    (mSeq (mIfS (fun σ S => asB (mBin oEq (mMake (withLen 2 (F_l_draw ca)) (mCons (mVar 0) (mCons (mC (.int 3)) mNil))) (mC (.int 0)) σ S)) (mSetIx (mVar 2) (mNeg (mC (.int 1))) (mBin oPow (mC (.int 10)) (mC (.int 9)))) mNext)
    (mRet (mVar 2))))) := rfl
  have hg : ∀ (o : Ob) (x : Ob), (o :: (T ++ [x]))[T.length + 1]? = some x := fun o x => get_last _ _ _
  by_cases hd : d = 0
  · refine ⟨p3, ys.set (n - 1) 1000000000, ?_, by omega, by simp [hl], ?_⟩
    · rw [em]
      have hs : setAt (.ref (T.length + 1)) (.int (-1)) (.int 1000000000) (penO p3 :: (T ++ [lotO ys])) = .ok .non (penO p3 :: (T ++ [lotO (ys.set (n - 1) 1000000000)])) := by
        rw [setAt_ev, hg, wopen_ev]
        simp -implicitDefEqProofs only [List.length_map, hl, ixN_end n0, set_last]
        rw [← List.map_set]
      have hf := fin_list (o := penO p) (T := T) (ds := (ys.set (n - 1) 1000000000).map D.int) (closed_pen (T.length + 1) p3) (closed_ints (T.length + 1) _)
      simp -implicitDefEqProofs [mkOpen_ev, e1', e2', e3, er', hd, oPow_ev, hs, hf, -List.map_set]
    · have hm : ∀ x ∈ ys.take (n - 1), 0 ≤ x ∧ x < 1000000000 := fun x hx => by
        have := q3 x (List.mem_of_mem_take hx)
        omega
      have e : ys.set (n - 1) 1000000000 = ys.take (n - 1) ++ [1000000000] := by
        rw [List.set_eq_take_append_cons_drop, if_pos (by omega), List.drop_of_length_le (by omega)]
      rw [e]
      refine ⟨fun x hx => ?_, List.pairwise_append.mpr ⟨q4.sublist (List.take_sublist _ _), List.pairwise_singleton _ _, fun a ha c hc => ?_⟩⟩
      · rcases List.mem_append.mp hx with hx | hx
        · have := hm x hx
          omega
        · have := List.mem_singleton.mp hx
          omega
      · have := hm a ha
        have := List.mem_singleton.mp hc
        omega
  · refine ⟨p3, ys, ?_, by omega, hl, ⟨fun x hx => by have := q3 x hx; omega, q4⟩⟩
    rw [em]
    have hd' : (d == 0) = false := by simp [hd]
    have hf := fin_list (o := penO p) (T := T) (ds := ys.map D.int) (closed_pen (T.length + 1) p3) (closed_ints (T.length + 1) _)
    simp -implicitDefEqProofs [mkOpen_ev, e1', e2', e3, er', hd', hf]

/-! ### stretches between a lot's places -/
theorem sortI_two (i j : Int) : sortI [i, j] = if i ≤ j then [i, j] else [j, i] := by
  by_cases h : i ≤ j
  · rw [if_pos h]
    exact (sortI_uniq (List.Perm.refl _) (by simp [h])).symm
  · rw [if_neg h]
    exact (sortI_uniq (List.Perm.swap i j []) (by simp; omega)).symm
theorem lot_get {ys : List Int} {i : Int} (h0 : 0 ≤ i) (h1 : i < ys.length) : ∃ v, L2.atI (ys.map D.int) i = some (.int v) ∧ ys[i.toNat]? = some v := by
  obtain ⟨n, rfl⟩ : ∃ n : Nat, i = (n : Int) := ⟨i.toNat, by omega⟩
  have hl : n < ys.length := by omega
  refine ⟨ys[n], L2.atI_nat ?_, ?_⟩
  · rw [List.getElem?_map, List.getElem?_eq_getElem hl]
    rfl
  · rw [Int.toNat_natCast]
    exact List.getElem?_eq_getElem hl
theorem lot_le {ys : List Int} (hl : Lot ys) {i j : Nat} {v u : Int} (h : i ≤ j) (h1 : ys[i]? = some v) (h2 : ys[j]? = some u) : v ≤ u := by
  obtain ⟨k1, rfl⟩ := List.getElem?_eq_some_iff.mp h1
  obtain ⟨k2, rfl⟩ := List.getElem?_eq_some_iff.mp h2
  by_cases e : i = j
  · subst e
    exact Int.le_refl _
  · exact Int.le_of_lt (List.pairwise_iff_getElem.mp hl.up i j k1 k2 (by omega))
theorem stretch_ok (T : Sto) (b : Nat) (p : Pen) (ys : List Int) (hl : Lot ys) (hb : b + 2 < 2 ^ 31) (hp : p.nth ≤ b) (h0 : 0 < ys.length) (h1 : ys.length < 1000) :
    ∃ p' q, F_l_stretch ca [.ref 0, .lst (ys.map D.int)] (penO p :: T) = .ok (prD q) (penO p' :: T) ∧ p'.nth ≤ b + 2 ∧ 0 ≤ q.1 ∧ q.1 ≤ q.2 ∧ q.2 ≤ 1000000000 := by
  obtain ⟨i, p1, e1, i0, i1, k1⟩ := draw_ok (ca := ca) b p T ys.length (by omega) hp (by omega) (by omega)
  obtain ⟨j, p2, e2, j0, j1, k2⟩ := draw_ok (ca := ca) (b + 1) p1 T ys.length (by omega) k1 (by omega) (by omega)
  obtain ⟨v, v1, v2⟩ := lot_get i0 i1
  obtain ⟨u, u1, u2⟩ := lot_get j0 j1
  have vb := hl.all v (List.mem_of_getElem? v2)
  have ub := hl.all u (List.mem_of_getElem? u2)
  have hs := insOf_two i j (penO p2 :: T)
  rw [sortI_two] at hs
  by_cases hij : i ≤ j
  · rw [if_pos hij] at hs
    have hs' : fSorted [.lst [.int i, .int j]] (penO p2 :: T) = .ok (.lst [.int i, .int j]) (penO p2 :: T) := hs
    refine ⟨p2, (v, u), ?_, k2, vb.1, lot_le hl (by omega) v2 u2, ub.2⟩
    unfold F_l_stretch m_l_stretch
    rw [defF_ev]
    simp -implicitDefEqProofs [e1, e2, mkLst_ev, mkTup_ev, hs', u1, v1, prD]
  · rw [if_neg hij] at hs
    have hs' : fSorted [.lst [.int i, .int j]] (penO p2 :: T) = .ok (.lst [.int j, .int i]) (penO p2 :: T) := hs
    refine ⟨p2, (u, v), ?_, k2, ub.1, lot_le hl (by omega) u2 v2, vb.2⟩
    unfold F_l_stretch m_l_stretch
    rw [defF_ev]
    simp -implicitDefEqProofs [e1, e2, mkLst_ev, mkTup_ev, hs', u1, v1, prD]
end
end Lw
end

section
set_option linter.all false
set_option maxRecDepth 100000
set_option maxHeartbeats 4000000
namespace Lw
open PySem DL

/-! ### strokes as they are written -/
def numS (i : Int) : Str := Str.ofString (toString i)
def wrS (s : St) : Str := numS s.1 ++ Str.ofString " " ++ numS s.2.1 ++ Str.ofString " " ++ s.2.2
def wrAll (rs : List St) : Str := Str.join (Str.ofString " / ") (rs.map wrS)
theorem empty_cat (x : Str) : Str.empty ++ x = x := by
  cases x with
  | mk a => show (⟨#[] ++ a⟩ : Str) = _; rw [Array.empty_append]
theorem num_ok {i : Int} (h0 : 0 ≤ i) (h1 : i ≤ 1000000000) : TxtOk (numS i) 21 := by
  have big : (1000000000 : Nat) < 10 ^ 20 := by decide +kernel
  have h := txt_int (i := i) (by omega)
  have e : PyData.shown (.int i) = Str.ofString (toString i) := by
    simp only [PyData.shown]
  rw [e] at h
  exact h
theorem col_ok {x : Str} (h : OkC x) : TxtOk x 8 := by
  refine ⟨?_, h.l8⟩
  unfold PyData.strOk
  rw [Array.all_eq_true']
  intro c hc
  have := h.az c (by simpa using hc)
  rw [decide_eq_true_eq]
  omega
theorem sp_ok : TxtOk (Str.ofString " ") 1 := txt_of " "
theorem wr_ok {s : St} (h : OkS s) : TxtOk (wrS s) 52 := by
  have h1 := h.lo
  have h2 := h.le
  have h3 := h.hi
  exact txt_append (txt_append (txt_append (txt_append (num_ok h1 (by omega)) sp_ok) (num_ok (by omega) h3)) sp_ok) (col_ok h.co)
theorem joinG_ok {sep : Str} {k : Nat} (hs : TxtOk sep k) : ∀ {ts : List Str} {n : Nat}, (∀ t ∈ ts, TxtOk t n) → TxtOk (Str.join sep ts) (ts.length * (n + k))
  | [], n, _ => ⟨by show (#[] : Array Nat).all _ = true; simp, Nat.zero_le _⟩
  | [x], n, h => (h x (by simp)).le (by simp)
  | x :: y :: r, n, h => by
    have ih := joinG_ok hs (ts := y :: r) fun t ht => h t (List.mem_cons_of_mem _ ht)
    have e : Str.join sep (x :: y :: r) = x ++ sep ++ Str.join sep (y :: r) := rfl
    rw [e]
    refine (txt_append (txt_append (h x (by simp)) hs) ih).le ?_
    simp only [List.length_cons]
    rw [Nat.add_mul (r.length + 1) 1]
    omega
theorem all_ok {rs : List St} (h : ∀ r ∈ rs, OkS r) : TxtOk (wrAll rs) (rs.length * 55) := by
  have := joinG_ok (txt_of " / ") (ts := rs.map wrS) (n := 52) fun t ht => by
    obtain ⟨r, hr, rfl⟩ := List.mem_map.mp ht
    exact wr_ok (h r hr)
  rw [List.length_map] at this
  exact this
theorem shaped_str {x : Str} {n : Nat} (h : TxtOk x n) : SeqAt.shaped (.str x) = true := by
  unfold SeqAt.shaped
  have := h.ok
  simp [PyData.canLay0, PyData.depth, this]
theorem oNe_str {x : Str} {n : Nat} (h : TxtOk x n) (S : Sto) : oNe (.str x) (.str x) S = .ok (.bl false) S := by
  unfold oNe
  rw [oEqG_ev (p := .str x) (q := .str x) rfl rfl (shaped_str h) (shaped_str h)]
  simp [PyData.eqv]
theorem oEq_str {x : Str} {n : Nat} (h : TxtOk x n) (S : Sto) : oEq (.str x) (.str x) S = .ok (.bl true) S := by
  unfold oEq
  rw [oEqG_ev (p := .str x) (q := .str x) rfl rfl (shaped_str h) (shaped_str h)]
  simp [PyData.eqv]
theorem join_bound {rs : List St} (h : ∀ r ∈ rs, OkS r) (hl : rs.length < 1000) : ((rs.map wrS).map (fun x : Str => x.length)).sum + (rs.map wrS).length * (Str.ofString " / ").length ≤ 16777216 := by
  have h3 : (Str.ofString " / ").length = 3 := by decide +kernel
  have : ∀ l : List St, (∀ r ∈ l, OkS r) → ((l.map wrS).map (fun x : Str => x.length)).sum ≤ l.length * 52 := by
    intro l
    induction l with
    | nil => intro _; exact Nat.zero_le _
    | cons r l ih =>
      intro h
      have h1 := (wr_ok (h r (by simp))).len
      have h2 := ih fun x hx => h x (List.mem_cons_of_mem _ hx)
      simp only [List.map_cons, List.sum_cons, List.length_cons]
      omega
  have h1 := this rs h
  rw [h3, List.length_map]
  omega
section
variable {ca : CA}
theorem comp_set3 (s : St) (a b c d : Option D) : g3Tup 3 (g3Cons (g3Name 1) (g3Cons (g3Name 2) (g3Cons (g3Name 3) g3Nil))) (stD s) [a, b, c, d] = some [a, some (.int s.1), some (.int s.2.1), some (.str s.2.2)] := by
  unfold stD
  simp
theorem str_ok {S : Sto} {b s : Nat} {rs : List St} (h : Bk ca S b s rs) : F_Book_str_ ca [.ref b] S = .ok (.str (wrAll rs)) S := by
  have hl := h.ln
  have hw := wkS_ref h.hs
  have ho : gOk (some (s, rs.map stD)) S := h.hs
  have hc := compG_map (o := some (s, rs.map stD)) (g3Tup 3 (g3Cons (g3Name 1) (g3Cons (g3Name 2) (g3Cons (g3Name 3) g3Nil)))) tTrue3 (mJs [(mFmt (mVar 1)), (mC (.str (Str.ofString " "))), (mFmt (mVar 2)), (mC (.str (Str.ofString " "))), (mFmt (mVar 3))]) (fun d => match d with
    | .tup [.int i, .int j, .str x] => .str (wrS (i, j, x))
    | d => d) [some (.ref b), none, none, none] ho (rs.map stD) [] (fun x hx => by
    obtain ⟨r, hr, rfl⟩ := List.mem_map.mp hx
    have k := h.ok r hr
    have k1 := k.lo
    have k2 := k.le
    have k3 := k.hi
    refine ⟨[some (.ref b), some (.int r.1), some (.int r.2.1), some (.str r.2.2)], comp_set3 r _ _ _ _, rfl, ?_⟩
    have n1 := num_ok k1 (by omega : r.1 ≤ 1000000000)
    have n2 := num_ok (by omega : 0 ≤ r.2.1) k3
    have n3 := col_ok k.co
    have a1 := txt_append n1 sp_ok
    have a2 := txt_append a1 n2
    have a3 := txt_append a2 sp_ok
    have a4 := txt_append a3 n3
    have b1 : fmt1 (.ok (.int r.1) S) = .ok (.str (numS r.1)) S := fmt1_int (log_small (by omega))
    have b2 : fmt1 (.ok (.int r.2.1) S) = .ok (.str (numS r.2.1)) S := fmt1_int (log_small (by omega))
    have b3 : fmt1 (.ok (.str r.2.2) S) = .ok (.str r.2.2) S := fmt1_str (by have := n3.len; omega)
    have l1 : (Str.empty ++ numS r.1).length ≤ 1000000 := by rw [empty_cat]; have := n1.len; omega
    have c1 := js1_ev (ms := [(mC (.str (Str.ofString " "))), (mFmt (mVar 2)), (mC (.str (Str.ofString " "))), (mFmt (mVar 3))]) (σ := [some (.ref b), some (.int r.1), some (.int r.2.1), some (.str r.2.2)]) (S := S) l1
    rw [empty_cat] at c1
    have c2 := js1_ev (ms := [(mFmt (mVar 2)), (mC (.str (Str.ofString " "))), (mFmt (mVar 3))]) (σ := [some (.ref b), some (.int r.1), some (.int r.2.1), some (.str r.2.2)]) (S := S) (show (numS r.1 ++ Str.ofString " ").length ≤ 1000000 by have := a1.len; omega)
    have c3 := js1_ev (ms := [(mC (.str (Str.ofString " "))), (mFmt (mVar 3))]) (σ := [some (.ref b), some (.int r.1), some (.int r.2.1), some (.str r.2.2)]) (S := S) (show (numS r.1 ++ Str.ofString " " ++ numS r.2.1).length ≤ 1000000 by have := a2.len; omega)
    have c4 := js1_ev (ms := [(mFmt (mVar 3))]) (σ := [some (.ref b), some (.int r.1), some (.int r.2.1), some (.str r.2.2)]) (S := S) (show (numS r.1 ++ Str.ofString " " ++ numS r.2.1 ++ Str.ofString " ").length ≤ 1000000 by have := a3.len; omega)
    have c5 := js1_ev (ms := []) (σ := [some (.ref b), some (.int r.1), some (.int r.2.1), some (.str r.2.2)]) (S := S) (show (numS r.1 ++ Str.ofString " " ++ numS r.2.1 ++ Str.ofString " " ++ r.2.2).length ≤ 1000000 by have := a4.len; omega)
    simp -implicitDefEqProofs [b1, b2, b3, c1, c2, c3, c4, c5, stD, wrS]) (by rw [List.length_map, List.length_nil]; omega)
  have em : ((rs.map stD).map fun d => match d with
    | .tup [.int i, .int j, .str x] => .str (wrS (i, j, x))
    | d => d) = (rs.map wrS).map D.str := by
    rw [List.map_map, List.map_map]
    rfl
  rw [em, List.nil_append] at hc
  have hwi : wipeD [some (.ref b), none, none, none] [1, 2, 3] = [some (.ref b), none, none, none] := rfl
  have hj := joi2_ev (S := S) (join_bound h.ok hl)
  unfold F_Book_str_ m_Book_str_
  rw [defF_ev]
  unfold wrAll
  generalize (rs.map wrS).map D.str = TS at *
  simp -implicitDefEqProofs [h.fld, hw, hwi, hc, hj]
theorem strOf_ok {S : Sto} {b s : Nat} {rs : List St} (h : Bk ca S b s rs) : fOr (insAt ca.Book "__str__") (fOwnM ca.Book "__str__" (F_Book_str_ ca) okStr) fStrI [.ref b] S = .ok (.str (wrAll rs)) S := by
  have hi : insAt ca.Book "__str__" (.ref b) S = true := insAt_one h.hb (by decide +kernel)
  rw [fOr_yes hi]
  exact fOwnM_ev hi (str_ok h) rfl
theorem strOf_int {i : Int} (h : i.natAbs < 2 ^ 64) (S : Sto) : fOr (insAt ca.Book "__str__") (fOwnM ca.Book "__str__" (F_Book_str_ ca) okStr) fStrI [.int i] S = .ok (.str (numS i)) S := by
  rw [fOr_no rfl]
  exact fStrI_int (log_small h)
end
end Lw
end

section
set_option linter.all false
set_option maxRecDepth 100000
set_option maxHeartbeats 4000000
namespace Lw
open PySem DL
section
variable {ca : CA}
theorem writing_ok {rs : List St} (h : ∀ r ∈ rs, OkS r) (hl : rs.length < 1000) (S : Sto) : F_l_writing ca [.tup (rs.map stD)] S = .ok (.str (wrAll rs)) S := by
  have hc := compD_map (g3Tup 3 (g3Cons (g3Name 1) (g3Cons (g3Name 2) (g3Cons (g3Name 3) g3Nil)))) tTrue3 (mBin (oCat false) (mBin (oCat false) (mBin (oCat false) (mBin (oCat false) (mMake (fOr (insAt ca.Book "__str__") (fOwnM ca.Book "__str__" (F_Book_str_ ca) okStr) fStrI) (mCons (mVar 1) mNil)) (mC (.str (Str.ofString " ")))) (mMake (fOr (insAt ca.Book "__str__") (fOwnM ca.Book "__str__" (F_Book_str_ ca) okStr) fStrI) (mCons (mVar 2) mNil))) (mC (.str (Str.ofString " ")))) (mVar 3)) (fun d => match d with
    | .tup [.int i, .int j, .str x] => .str (wrS (i, j, x))
    | d => d) [some (.tup (rs.map stD)), none, none, none] S (rs.map stD) [] (fun x hx => by
    obtain ⟨r, hr, rfl⟩ := List.mem_map.mp hx
    have k := h r hr
    have k1 := k.lo
    have k2 := k.le
    have k3 := k.hi
    refine ⟨[some (.tup (rs.map stD)), some (.int r.1), some (.int r.2.1), some (.str r.2.2)], comp_set3 r _ _ _ _, rfl, ?_⟩
    have n1 := num_ok k1 (by omega : r.1 ≤ 1000000000)
    have n2 := num_ok (by omega : 0 ≤ r.2.1) k3
    have n3 := col_ok k.co
    have a1 := txt_append n1 sp_ok
    have a2 := txt_append a1 n2
    have a3 := txt_append a2 sp_ok
    have b1 := strOf_int (ca := ca) (i := r.1) (by omega) S
    have b2 := strOf_int (ca := ca) (i := r.2.1) (by omega) S
    have c1 := cat_str (op := false) (S := S) (show (numS r.1).length + (Str.ofString " ").length ≤ 1000000 by have := n1.len; have := sp_ok.len; omega)
    have c2 := cat_str (op := false) (S := S) (show (numS r.1 ++ Str.ofString " ").length + (numS r.2.1).length ≤ 1000000 by have := a1.len; have := n2.len; omega)
    have c3 := cat_str (op := false) (S := S) (show (numS r.1 ++ Str.ofString " " ++ numS r.2.1).length + (Str.ofString " ").length ≤ 1000000 by have := a2.len; have := sp_ok.len; omega)
    have c4 := cat_str (op := false) (S := S) (show (numS r.1 ++ Str.ofString " " ++ numS r.2.1 ++ Str.ofString " ").length + r.2.2.length ≤ 1000000 by have := a3.len; have := n3.len; omega)
    simp -implicitDefEqProofs [b1, b2, c1, c2, c3, c4, stD, wrS]) (by rw [List.length_map, List.length_nil]; omega)
  have em : ((rs.map stD).map fun d => match d with
    | .tup [.int i, .int j, .str x] => .str (wrS (i, j, x))
    | d => d) = (rs.map wrS).map D.str := by
    rw [List.map_map, List.map_map]
    rfl
  rw [em, List.nil_append] at hc
  have hwi : wipeD [some (.tup (rs.map stD)), none, none, none] [1, 2, 3] = [some (.tup (rs.map stD)), none, none, none] := rfl
  have hj := joi2_ev (S := S) (join_bound h hl)
  unfold F_l_writing m_l_writing
  rw [defF_ev]
  unfold wrAll
  generalize (rs.map wrS).map D.str = TS at *
  generalize rs.map stD = RS at *
  simp -implicitDefEqProofs [hwi, hc, hj]

/-! ### colours, strokes -/
noncomputable def row_e (ca : CA) : E3 := (mBin (oCat false) (mMake (withLen 2 (F_l_stretch ca)) (mCons (mVar 0) (mCons (mVar 1) mNil))) (mMake mkTup (mCons (mBin oIx (mVar 2) (mMake (withLen 2 (F_l_draw ca)) (mCons (mVar 0) (mCons (mMake fLen (mCons (mVar 2) mNil)) mNil)))) mNil)))
theorem row_one (T : Sto) (b : Nat) (p : Pen) (ys : List Int) (cs : List Str) (m x : D) (hl : Lot ys) (hc : ∀ x ∈ cs, OkC x) (hb : b + 3 < 2 ^ 31) (hp : p.nth ≤ b) (h0 : 0 < ys.length) (h1 : ys.length < 1000) (c0 : 0 < cs.length) (c1 : cs.length < 1000) :
    ∃ p' r, row_e ca [some (.ref 0), some (.lst (ys.map D.int)), some (.lst (cs.map D.str)), some m, some x] (penO p :: T) = .ok (stD r) (penO p' :: T) ∧ p'.nth ≤ b + 3 ∧ OkS r := by
  obtain ⟨p1, q, e1, k1, q0, q1, q2⟩ := stretch_ok (ca := ca) T b p ys hl (by omega) hp h0 h1
  obtain ⟨i, p2, e2, i0, i1, k2⟩ := draw_ok (ca := ca) (b + 2) p1 T cs.length (by omega) k1 (by omega) (by omega)
  obtain ⟨v, ev, hv⟩ := str_get i0 i1
  refine ⟨p2, (q.1, q.2, v), ?_, k2, ⟨q0, q1, q2, hc v hv⟩⟩
  have ct : oCat false (prD q) (.tup [.str v]) (penO p2 :: T) = .ok (stD (q.1, q.2, v)) (penO p2 :: T) := cat_tup (xs := [.int q.1, .int q.2]) (ys := [.str v]) (by simp)
  unfold row_e
  simp -implicitDefEqProofs [e1, e2, ev, mkTup_ev, ct]
theorem rows_loop (T : Sto) (ys : List Int) (cs : List Str) (m : D) (hl : Lot ys) (hc : ∀ x ∈ cs, OkC x) (h0 : 0 < ys.length) (h1 : ys.length < 1000) (c0 : 0 < cs.length) (c1 : cs.length < 1000) : ∀ (ds : List D) (b : Nat) (p : Pen) (acc : List St), b + 3 * ds.length < 2 ^ 31 → p.nth ≤ b → acc.length + ds.length < 1000 → (∀ r ∈ acc, OkS r) →
    ∃ (p' : Pen) (rs : List St), compD (g3Name 4) tTrue3 (row_e ca) ds (acc.map stD) [some (.ref 0), some (.lst (ys.map D.int)), some (.lst (cs.map D.str)), some m, none] (penO p :: T) = .ok (rs.map stD) (penO p' :: T) ∧ p'.nth ≤ b + 3 * ds.length ∧ rs.length = acc.length + ds.length ∧ ∀ r ∈ rs, OkS r
  | [], b, p, acc, _, hp, _, ha => ⟨p, acc, rfl, hp, rfl, ha⟩
  | d :: ds, b, p, acc, hb, hp, hn, ha => by
    simp only [List.length_cons] at hb hn
    obtain ⟨p1, r, e, k1, k2⟩ := row_one (ca := ca) T b p ys cs m d hl hc (by omega) hp h0 h1 c0 c1
    obtain ⟨p', rs, e2, j1, j2, j3⟩ := rows_loop T ys cs m hl hc h0 h1 c0 c1 ds (b + 3) p1 (acc ++ [r]) (by omega) k1 (by rw [List.length_append, List.length_singleton]; omega)
      (fun x hx => (List.mem_append.mp hx).elim (ha x) fun h => by rw [List.mem_singleton.mp h]; exact k2)
    refine ⟨p', rs, ?_, by rw [List.length_cons]; omega, by rw [j2, List.length_append, List.length_singleton, List.length_cons]; omega, j3⟩
    rw [List.map_append] at e2
    rw [compD_cons, g3Name_ev, cd1_ev, tTrue3_ev, cd2_true]
    simp only [List.set_cons_succ, List.set_cons_zero]
    rw [e, cd3_ev _ _ _ _ _ _ _ _ (by rw [List.length_map]; omega)]
    exact e2
theorem rows_ok (T : Sto) (b n : Nat) (p : Pen) (ys : List Int) (cs : List Str) (hl : Lot ys) (hc : ∀ x ∈ cs, OkC x) (hb : b + 3 * n < 2 ^ 31) (hp : p.nth ≤ b) (hn : n < 100) (h0 : 0 < ys.length) (h1 : ys.length < 1000) (c0 : 0 < cs.length) (c1 : cs.length < 1000) :
    ∃ (p' : Pen) (rs : List St), F_l_rows ca [.ref 0, .lst (ys.map D.int), .lst (cs.map D.str), .int n] (penO p :: T) = .ok (.tup (rs.map stD)) (penO p' :: T) ∧ p'.nth ≤ b + 3 * n ∧ rs.length = n ∧ ∀ r ∈ rs, OkS r := by
  have hr : (rngD 0 n).length = n := by
    unfold rngD
    simp
  have er : rg2 0 (n : Int) (penO p :: T) = .ok (rngD 0 n) (penO p :: T) := by
    rw [rg2_ev (by decide) (by decide) (by omega) (by omega)]
    congr 2
  obtain ⟨p', rs, e, k1, k2, k3⟩ := rows_loop (ca := ca) T ys cs (.int n) hl hc h0 h1 c0 c1 (rngD 0 n) b p [] (by rw [hr]; exact hb) hp (by rw [hr, List.length_nil]; omega) (fun _ h => nomatch h)
  rw [hr] at k1 k2
  rw [List.length_nil, Nat.zero_add] at k2
  refine ⟨p', rs, ?_, k1, k2, k3⟩
  have e' : compD (g3Name 4) tTrue3 (row_e ca) (rngD 0 n) [] [some (.ref 0), some (.lst (ys.map D.int)), some (.lst (cs.map D.str)), some (.int n), none] (penO p :: T) = .ok (rs.map stD) (penO p' :: T) := e
  have hw : wipeD [some (.ref 0), some (.lst (ys.map D.int)), some (.lst (cs.map D.str)), some (.int n), none] [4] = [some (.ref 0), some (.lst (ys.map D.int)), some (.lst (cs.map D.str)), some (.int n), none] := rfl
  have ht : fTuple [.lst (rs.map stD)] (penO p' :: T) = .ok (.tup (rs.map stD)) (penO p' :: T) := mkTup_ev (by rw [List.length_map]; omega)
  have em : m_l_rows ca = (mRet (mMake fTuple (mCons (mComp false (mRange1 (mCons (mVar 3) mNil)) (g3Name 4) tTrue3 (row_e ca) [4]) mNil))) := rfl
  unfold F_l_rows
  rw [defF_ev, em]
  generalize rngD 0 n = RS at *
  generalize rs.map stD = ZS at *
  generalize cs.map D.str = CS at *
  generalize ys.map D.int = YS at *
  simp -implicitDefEqProofs [er, hw, e', ht]
end
end Lw
end

section
set_option linter.all false
set_option maxRecDepth 100000
set_option maxHeartbeats 4000000
namespace Lw
open PySem DL
open PySem.Builtin.Str (reprChar)
def stP (s : St) : PyData := .tuple [.int s.1, .int s.2.1, .str s.2.2]
theorem pyA_st : ∀ rs : List St, pyA (rs.map stD) = some (rs.map stP)
  | [] => rfl
  | p :: ps => by
    show (match pyD (stD p), pyA (ps.map stD) with
      | some q, some qs => some (q :: qs)
      | _, _ => none) = _
    rw [pyA_st ps]
    rfl
theorem can_st : ∀ rs : List St, (∀ r ∈ rs, OkS r) → PyData.canLayAll0 (rs.map stP) = true
  | [], _ => by simp [PyData.canLayAll0]
  | p :: ps, h => by
    have h1 := (col_ok (h p (by simp)).co).ok
    have h2 := can_st ps fun r hr => h r (List.mem_cons_of_mem _ hr)
    simp [PyData.canLayAll0, PyData.canLay0, stP, h1, h2]
theorem dep_st : ∀ rs : List St, PyData.depthAll (rs.map stP) ≤ 1
  | [] => by simp [PyData.depthAll]
  | p :: ps => by
    have := dep_st ps
    simp [PyData.depthAll, PyData.depth, stP]
    omega
theorem shaped_lst {rs : List St} (h : ∀ r ∈ rs, OkS r) : SeqAt.shaped (.list (rs.map stP)) = true := by
  unfold SeqAt.shaped
  have := dep_st rs
  rw [Bool.and_eq_true, decide_eq_true_eq]
  constructor
  · simp [PyData.canLay0, can_st rs h]
  · simp [PyData.depth]
    omega
/-- lines != [] -/
theorem ne_lines {k : Nat} {rs : List St} {S : Sto} (e : S[k]? = some (rsO rs)) (h : ∀ r ∈ rs, OkS r) : oNe (.ref k) (.lst []) S = .ok (.bl (!rs.isEmpty)) S := by
  have e1 : pyS S (.ref k) = some (.list (rs.map stP)) := by
    show (itemsOf S (.ref k)).bind (fun xs => (pyA xs).map PyData.list) = _
    rw [itemsOf_refE, e, itm_lst]
    show (pyA (rs.map stD)).map PyData.list = _
    rw [pyA_st]
    rfl
  unfold oNe
  rw [oEqG_ev e1 (q := .list []) rfl (shaped_lst h) (by decide)]
  cases rs with
  | nil => simp [PyData.eqv, PyData.eqvAll]
  | cons r t => simp [PyData.eqv, PyData.eqvAll]

/-! ### repr -/
structure Dat (p : PyData) (n m : Nat) : Prop where
  sh : p.showable = true
  nd : p.hasDict = false
  dp : p.depth ≤ m
  tx : TxtOk p.shown n
theorem Dat.rep {p : PyData} {n m : Nat} (h : Dat p n m) (hm : m ≤ 60) (hn : n ≤ 1000000) : reprOk p = true := by
  have h1 := h.tx.len
  have h2 := h.dp
  unfold reprOk
  rw [h.sh, h.nd, decide_eq_true (by omega : p.depth ≤ 60), decide_eq_true (by rw [sizeLine_eq]; omega : p.shown.length ≤ sizeLine)]
  rfl
theorem dat_int {i : Int} (h : i.natAbs < 10 ^ 20) : Dat (.int i) 21 0 := by
  refine ⟨?_, by simp [PyData.hasDict], by simp [PyData.depth], txt_int h⟩
  simp only [PyData.showable, decide_eq_true_eq]
  by_cases h0 : i.natAbs = 0
  · rw [h0]
    decide
  · exact (Nat.log2_lt h0).mpr (Nat.lt_of_lt_of_le h (Nat.le_of_lt (by decide +kernel)))
theorem dat_none : Dat .none 21 0 := ⟨by simp [PyData.showable], by simp [PyData.hasDict], by simp [PyData.depth], by
  have e : PyData.shown .none = Str.ofString "None" := by simp only [PyData.shown]
  rw [e]
  exact (txt_of "None").le (by decide)⟩
theorem char_ok : (List.range' 97 26).all (fun c => [34, 39].all fun q => (reprChar q c).all fun k => decide (k < 0x110000)) = true := by decide +kernel
theorem quote_in (x : Str) : reprQuote x = 34 ∨ reprQuote x = 39 := by
  unfold reprQuote
  split
  · exact .inl rfl
  · exact .inr rfl
theorem fold_ok (q : Nat) (hq : q = 34 ∨ q = 39) : ∀ (l : List Nat) (acc : Array Nat), (∀ c ∈ l, 97 ≤ c ∧ c ≤ 122) → (∀ k ∈ acc, k < 0x110000) → ∀ k ∈ l.foldl (fun out c => out ++ (reprChar q c).toArray) acc, k < 0x110000
  | [], acc, _, h => h
  | c :: l, acc, hl, h => by
    have hc := hl c (by simp)
    have h1 := List.all_eq_true.mp char_ok c (by rw [List.mem_range']; exact ⟨c - 97, by omega, by omega⟩)
    have h2 := List.all_eq_true.mp h1 q (by rcases hq with rfl | rfl <;> simp)
    rw [List.foldl_cons]
    refine fold_ok q hq l _ (fun c hc => hl c (List.mem_cons_of_mem _ hc)) fun k hk => ?_
    rcases Array.mem_append.mp hk with hk | hk
    · exact h k hk
    · have := List.all_eq_true.mp h2 k (by simpa using hk)
      simpa using this
theorem dat_col {x : Str} (h : OkC x) : Dat (.str x) 82 0 := by
  refine ⟨by simp [PyData.showable], by simp [PyData.hasDict], by simp [PyData.depth], ?_, ?_⟩
  · have e : PyData.shown (.str x) = reprText x := by simp only [PyData.shown]
    rw [e]
    unfold PyData.strOk reprText
    rw [Array.all_eq_true']
    intro k hk
    rw [decide_eq_true_eq]
    have hq := quote_in x
    have hm : ∀ k ∈ x.cps.foldl (fun out c => out ++ (reprChar (reprQuote x) c).toArray) #[reprQuote x], k < 0x110000 := by
      rw [← Array.foldl_toList]
      exact fold_ok _ hq x.cps.toList _ h.az fun k hk => by
        have : k = reprQuote x := by simpa using hk
        omega
    rcases Array.mem_push.mp hk with hk | hk
    · exact hm k hk
    · omega
  · have e : PyData.shown (.str x) = reprText x := by simp only [PyData.shown]
    rw [e]
    have := StrLaws.reprText_len x fun c hc => by
      have := h.az c hc
      omega
    have := h.l8
    omega
structure Dats (ps : List PyData) (n m : Nat) : Prop where
  sh : PyData.showableAll ps = true
  nd : PyData.hasDictAll ps = false
  dp : PyData.depthAll ps ≤ m
  tx : ∀ t ∈ PyData.shownAll ps, TxtOk t n
  ln : (PyData.shownAll ps).length = ps.length
theorem dats_nil (n m : Nat) : Dats [] n m := ⟨by simp [PyData.showableAll], by simp [PyData.hasDictAll], by simp [PyData.depthAll], by simp [PyData.shownAll], by simp [PyData.shownAll]⟩
theorem dats_cons {p : PyData} {ps : List PyData} {n m : Nat} (h : Dat p n m) (k : Dats ps n m) : Dats (p :: ps) n m := by
  refine ⟨by simp [PyData.showableAll, h.sh, k.sh], by simp [PyData.hasDictAll, h.nd, k.nd], ?_, fun t ht => ?_, by simp [PyData.shownAll, k.ln]⟩
  · simp only [PyData.depthAll]
    exact Nat.max_le.mpr ⟨h.dp, k.dp⟩
  · simp only [PyData.shownAll] at ht
    rcases List.mem_cons.mp ht with rfl | ht
    · exact h.tx
    · exact k.tx t ht
theorem dat_tuple {ps : List PyData} {n m : Nat} (k : Dats ps n m) : Dat (.tuple ps) (ps.length * (n + 2) + 3) (m + 1) := by
  refine ⟨by simp [PyData.showable, k.sh], by simp [PyData.hasDict, k.nd], by simp only [PyData.depth]; have := k.dp; omega, ?_⟩
  simp only [PyData.shown]
  rw [← k.ln]
  exact txt_tuple k.tx
theorem dat_list {ps : List PyData} {n m : Nat} (k : Dats ps n m) : Dat (.list ps) (ps.length * (n + 2) + 3) (m + 1) := by
  refine ⟨by simp [PyData.showable, k.sh], by simp [PyData.hasDict, k.nd], by simp only [PyData.depth]; have := k.dp; omega, ?_⟩
  simp only [PyData.shown]
  rw [← k.ln]
  exact (txt_list k.tx).le (by omega)
theorem Dat.le {p : PyData} {n m n' m' : Nat} (h : Dat p n m) (hn : n ≤ n') (hm : m ≤ m') : Dat p n' m' := ⟨h.sh, h.nd, Nat.le_trans h.dp hm, h.tx.le hn⟩
theorem dat_st {s : St} (h : OkS s) : Dat (stP s) 300 1 := by
  have h1 := h.lo
  have h2 := h.le
  have h3 := h.hi
  have big : (1000000000 : Nat) < 10 ^ 20 := by decide +kernel
  exact (dat_tuple (dats_cons ((dat_int (by omega)).le (by decide : 21 ≤ 82) (Nat.le_refl 0)) (dats_cons ((dat_int (by omega)).le (by decide) (Nat.le_refl 0)) (dats_cons (dat_col h.co) (dats_nil 82 0))))).le (by simp) (Nat.le_refl _)
theorem dats_st : ∀ {rs : List St}, (∀ r ∈ rs, OkS r) → Dats (rs.map stP) 300 1
  | [], _ => dats_nil 300 1
  | q :: ps, h => dats_cons (dat_st (h q (by simp))) (dats_st fun p hp => h p (List.mem_cons_of_mem _ hp))
theorem repr_ev {S : Sto} {d : D} {p : PyData} {n m : Nat} (e : pyS S d = some p) (h : Dat p n m) (hm : m ≤ 60) (hn : n ≤ 1000000) : fRepr [d] S = .ok (.str p.shown) S := by
  have q : fRepr [d] S = (match pyS S d with
    | some p => if reprOk p then .ok (.str p.shown) S else .bad
    | none => .bad) := rfl
  rw [q, e]
  exact if_pos (h.rep hm hn)
theorem repr_sts {rs : List St} (h : ∀ r ∈ rs, OkS r) (hl : rs.length < 1000) (S : Sto) : fRepr [.tup (rs.map stD)] S = .ok (.str (PyData.shown (.tuple (rs.map stP)))) S := by
  have e : pyS S (.tup (rs.map stD)) = some (.tuple (rs.map stP)) := by
    show (pyA (rs.map stD)).map PyData.tuple = _
    rw [pyA_st]
    rfl
  have k := dat_tuple (dats_st h)
  rw [List.length_map] at k
  exact repr_ev e k (by decide) (by omega)
theorem txt_sts {rs : List St} (h : ∀ r ∈ rs, OkS r) : TxtOk (PyData.shown (.tuple (rs.map stP))) (rs.length * 302 + 3) := by
  have k := (dat_tuple (dats_st h)).tx
  rw [List.length_map] at k
  exact k
end Lw
end

section
set_option linter.all false
set_option maxRecDepth 100000
set_option maxHeartbeats 4000000
namespace Lw
open PySem DL
/-! ### rows of strokes compared -/
theorem eqv_st (s r : St) : PyData.eqv (stP s) (stP r) = decide (s = r) := by
  obtain ⟨a, b, c⟩ := s
  obtain ⟨a', b', c'⟩ := r
  unfold stP
  simp only [PyData.eqv, PyData.eqvAll, Bool.and_true]
  rw [Bool.eq_iff_iff]
  simp [Prod.ext_iff]
theorem eqvAll_st : ∀ rs qs : List St, PyData.eqvAll (rs.map stP) (qs.map stP) = decide (rs = qs)
  | [], [] => by simp [PyData.eqvAll]
  | [], q :: qs => by simp [PyData.eqvAll]
  | r :: rs, [] => by simp [PyData.eqvAll]
  | r :: rs, q :: qs => by
    have ih := eqvAll_st rs qs
    rw [List.map_cons, List.map_cons]
    simp only [PyData.eqvAll]
    rw [eqv_st, ih, Bool.eq_iff_iff]
    simp
def eqR (rs qs : List St) : Bool := decide (rs = qs)
theorem py_lst (S : Sto) (rs : List St) : pyS S (.tup (rs.map stD)) = some (.tuple (rs.map stP)) := by
  show (pyA (rs.map stD)).map PyData.tuple = _
  rw [pyA_st]
  rfl
theorem py_refR {S : Sto} {k : Nat} {rs : List St} (e : S[k]? = some (rsO rs)) : pyS S (.ref k) = some (.list (rs.map stP)) := by
  show (itemsOf S (.ref k)).bind (fun xs => (pyA xs).map PyData.list) = _
  rw [itemsOf_refE, e, itm_lst]
  show (pyA (rs.map stD)).map PyData.list = _
  rw [pyA_st]
  rfl
theorem shaped_tup {rs : List St} (h : ∀ r ∈ rs, OkS r) : SeqAt.shaped (.tuple (rs.map stP)) = true := by
  unfold SeqAt.shaped
  have := dep_st rs
  rw [Bool.and_eq_true, decide_eq_true_eq]
  constructor
  · simp [PyData.canLay0, can_st rs h]
  · simp [PyData.depth]
    omega
theorem eq_tups {rs qs : List St} (h : ∀ r ∈ rs, OkS r) (h' : ∀ r ∈ qs, OkS r) (S : Sto) : oEq (.tup (rs.map stD)) (.tup (qs.map stD)) S = .ok (.bl (eqR rs qs)) S := by
  unfold oEq
  rw [oEqG_ev (py_lst S rs) (py_lst S qs) (shaped_tup h) (shaped_tup h')]
  simp only [PyData.eqv, eqvAll_st]
  rfl
theorem ne_tups {rs qs : List St} (h : ∀ r ∈ rs, OkS r) (h' : ∀ r ∈ qs, OkS r) (S : Sto) : oNe (.tup (rs.map stD)) (.tup (qs.map stD)) S = .ok (.bl (!eqR rs qs)) S := by
  unfold oNe
  rw [oEqG_ev (py_lst S rs) (py_lst S qs) (shaped_tup h) (shaped_tup h')]
  simp only [PyData.eqv, eqvAll_st]
  rfl
section
variable {ca : CA}
theorem isiO_own {S : Sto} {b s : Nat} {rs : List St} (h : Bk ca S b s rs) : fIsiO ca.Book [.ref b, .adr ca.Book] S = .ok (.bl true) S := by
  show isiO ca.Book (.ref b) (.adr ca.Book) S = _
  have h1 : insIs ca.Book (.ref b) S = true := by
    show (match S[b]? with
      | some (.ins C' _) => C' == ca.Book
      | _ => false) = true
    rw [h.hb]
    simp
  unfold isiO
  simp [h1]
theorem isiO_no {S : Sto} {d : D} {t : String} (hi : insIs ca.Book d S = false) (ht : tyD S d = some t) (hb : basic t = true) : fIsiO ca.Book [d, .adr ca.Book] S = .ok (.bl false) S := by
  show isiO ca.Book d (.adr ca.Book) S = _
  unfold isiO
  simp [hi, ht, hb]
theorem eq_ok {S : Sto} {b s b2 s2 : Nat} {rs qs : List St} (h : Bk ca S b s rs) (h2 : Bk ca S b2 s2 qs) : F_Book_eq_ ca [.ref b, .ref b2] S = .ok (.bl (eqR rs qs)) S := by
  have h1 := isiO_own h2
  have h3 : oEq (.ref s) (.ref s2) S = .ok (.bl (eqR rs qs)) S := by
    unfold oEq
    rw [oEqG_ev (py_refR h.hs) (py_refR h2.hs) (shaped_lst h.ok) (shaped_lst h2.ok)]
    simp only [PyData.eqv, eqvAll_st]
    rfl
  unfold F_Book_eq_ m_Book_eq_
  rw [defF_ev]
  simp -implicitDefEqProofs [h1, h.fld, h2.fld, h3]
theorem eq_no {S : Sto} {b s : Nat} {rs : List St} {d : D} {t : String} (h : Bk ca S b s rs) (hi : insIs ca.Book d S = false) (ht : tyD S d = some t) (hb : basic t = true) : F_Book_eq_ ca [.ref b, d] S = .ok (.bl false) S := by
  have h1 := isiO_no hi ht hb
  unfold F_Book_eq_ m_Book_eq_
  rw [defF_ev]
  simp -implicitDefEqProofs [h1]
noncomputable abbrev eqO (ca : CA) : O3 := oEqO ca.Book (F_Book_eq_ ca)
noncomputable abbrev neO (ca : CA) : O3 := oOr (insAt ca.Book "__eq__") (oOwn2 ca.Book (F_Book_eq_ ca) true) oNe
theorem insE {S : Sto} {b s : Nat} {rs : List St} (h : Bk ca S b s rs) : insAt ca.Book "__eq__" (.ref b) S = true := insAt_one h.hb (by decide +kernel)
theorem eqO_two {S : Sto} {b s b2 s2 : Nat} {rs qs : List St} (h : Bk ca S b s rs) (h2 : Bk ca S b2 s2 qs) : eqO ca (.ref b) (.ref b2) S = .ok (.bl (eqR rs qs)) S := by
  unfold eqO oEqO oOr2 oOwn2
  simp only [insE h, insE h2, Bool.and_self, if_true, eq_ok h h2]
  show Rs.ok (D.bl (eqR rs qs != false)) S = _
  cases eqR rs qs <;> rfl
theorem neO_two {S : Sto} {b s b2 s2 : Nat} {rs qs : List St} (h : Bk ca S b s rs) (h2 : Bk ca S b2 s2 qs) : neO ca (.ref b) (.ref b2) S = .ok (.bl (!eqR rs qs)) S := by
  unfold neO oOr oOwn2
  simp only [insE h, insE h2, Bool.and_self, if_true, eq_ok h h2]
  show Rs.ok (D.bl (eqR rs qs != true)) S = _
  cases eqR rs qs <;> rfl
theorem eqO_l {S : Sto} {b s : Nat} {rs : List St} {d : D} {t : String} (h : Bk ca S b s rs) (hn : insAt ca.Book "__eq__" d S = false) (hi : insIs ca.Book d S = false) (ht : tyD S d = some t) (hb : basic t = true) : eqO ca (.ref b) d S = .ok (.bl false) S := by
  unfold eqO oEqO oOr2 oOwnL
  simp only [insE h, hn, Bool.and_false, Bool.false_eq_true, if_false, if_true, ht, hb, eq_no h hi ht hb]
  rfl
theorem eqO_r {S : Sto} {b s : Nat} {rs : List St} {d : D} {t : String} (h : Bk ca S b s rs) (hn : insAt ca.Book "__eq__" d S = false) (hi : insIs ca.Book d S = false) (ht : tyD S d = some t) (hb : basic t = true) : eqO ca d (.ref b) S = .ok (.bl false) S := by
  unfold eqO oEqO oOr2 oOwnR
  simp only [insE h, hn, Bool.false_and, Bool.false_eq_true, if_false, if_true, ht, hb, eq_no h hi ht hb]
  rfl
theorem eqO_d {S : Sto} {d e : D} (hd : insAt ca.Book "__eq__" d S = false) (he : insAt ca.Book "__eq__" e S = false) : eqO ca d e S = oEq d e S := by
  unfold eqO oEqO oOr2
  simp only [hd, he, Bool.false_and, Bool.false_eq_true, if_false]
theorem neO_d {S : Sto} {d e : D} (hd : insAt ca.Book "__eq__" d S = false) : neO ca d e S = oNe d e S := by
  unfold neO oOr
  simp only [hd, Bool.false_eq_true, if_false]
/-! ### repr -/
end
end Lw
end

section
set_option linter.all false
set_option maxRecDepth 100000
set_option maxHeartbeats 4000000
/-! writings parted, words read -/
namespace Lw
open PySem DL L2
def slS : Str := Str.ofString "/"
def spS : Str := Str.ofString " "
theorem tl_sp : TL.tl spS = [32] := by decide +kernel
theorem tl_sl : TL.tl slS = [47] := by decide +kernel
theorem tl_ssp : TL.tl (Str.ofString " / ") = [32, 47, 32] := by decide +kernel
/-- the words of strokes -/
def wds : List St → List Str
  | [] => []
  | [r] => [numS r.1, numS r.2.1, r.2.2]
  | r :: q :: t => numS r.1 :: numS r.2.1 :: r.2.2 :: slS :: wds (q :: t)
theorem wds_cons (q : St) (t : List St) : ∃ x l, wds (q :: t) = x :: l := by
  cases t with
  | nil => exact ⟨_, _, rfl⟩
  | cons _ _ => exact ⟨_, _, rfl⟩
theorem wr_words : ∀ rs : List St, wrAll rs = Str.join spS (wds rs)
  | [] => rfl
  | [r] => by
    apply TL.ext_tl
    show TL.tl (numS r.1 ++ Str.ofString " " ++ numS r.2.1 ++ Str.ofString " " ++ r.2.2) = TL.tl (numS r.1 ++ spS ++ (numS r.2.1 ++ spS ++ r.2.2))
    simp only [TL.tl_append, List.append_assoc]
    rfl
  | r :: q :: t => by
    have ih := wr_words (q :: t)
    obtain ⟨x, l, e⟩ := wds_cons q t
    apply TL.ext_tl
    have e1 : wrAll (r :: q :: t) = wrS r ++ Str.ofString " / " ++ wrAll (q :: t) := rfl
    have e2 : Str.join spS (wds (r :: q :: t)) = numS r.1 ++ spS ++ (numS r.2.1 ++ spS ++ (r.2.2 ++ spS ++ (slS ++ spS ++ Str.join spS (wds (q :: t))))) := by
      show Str.join spS (numS r.1 :: numS r.2.1 :: r.2.2 :: slS :: wds (q :: t)) = _
      rw [e]
      rfl
    rw [e1, e2, ih]
    show TL.tl (numS r.1 ++ spS ++ numS r.2.1 ++ spS ++ r.2.2 ++ Str.ofString " / " ++ Str.join spS (wds (q :: t))) = _
    simp only [TL.tl_append, List.append_assoc, tl_ssp, tl_sp, tl_sl]
    rfl
theorem wds_get : ∀ {rs : List St} {i : Nat} {r : St}, rs[i]? = some r → (wds rs)[4 * i]? = some (numS r.1) ∧ (wds rs)[4 * i + 1]? = some (numS r.2.1) ∧ (wds rs)[4 * i + 2]? = some r.2.2 ∧ (i + 1 < rs.length → (wds rs)[4 * i + 3]? = some slS)
  | [], i, r, h => by simp at h
  | [q], i, r, h => by
    cases i with
    | zero =>
      cases h
      exact ⟨rfl, rfl, rfl, fun h => by simp at h⟩
    | succ i => simp at h
  | q :: s :: t, 0, r, h => by
    cases h
    exact ⟨rfl, rfl, rfl, fun _ => rfl⟩
  | q :: s :: t, i + 1, r, h => by
    obtain ⟨a, b, c, d⟩ := wds_get (rs := s :: t) (i := i) (r := r) (by simpa using h)
    have e : 4 * (i + 1) = 4 * i + 1 + 1 + 1 + 1 := by omega
    have w : wds (q :: s :: t) = numS q.1 :: numS q.2.1 :: q.2.2 :: slS :: wds (s :: t) := rfl
    rw [w, e]
    refine ⟨a, b, c, fun hl => d ?_⟩
    simp only [List.length_cons] at hl ⊢
    omega
theorem wds_len : ∀ {rs : List St}, rs ≠ [] → (wds rs).length + 1 = 4 * rs.length
  | [], h => absurd rfl h
  | [r], _ => rfl
  | r :: q :: t, _ => by
    have := wds_len (rs := q :: t) (by simp)
    show (wds (q :: t)).length + 1 + 1 + 1 + 1 + 1 = _
    rw [List.length_cons]
    omega
theorem num_tl {n : Nat} : TL.tl (numS (n : Int)) = TL.numL n := TL.tl_num n
theorem word_free {rs : List St} (h : ∀ r ∈ rs, OkS r) : ∀ p ∈ wds rs, 32 ∉ TL.tl p := by
  have one : ∀ r : St, OkS r → 32 ∉ TL.tl (numS r.1) ∧ 32 ∉ TL.tl (numS r.2.1) ∧ 32 ∉ TL.tl r.2.2 := fun r k => by
    obtain ⟨a, ha⟩ : ∃ a : Nat, r.1 = (a : Int) := ⟨r.1.toNat, by have := k.lo; omega⟩
    obtain ⟨b, hb⟩ : ∃ b : Nat, r.2.1 = (b : Int) := ⟨r.2.1.toNat, by have := k.lo; have := k.le; omega⟩
    rw [ha, hb, num_tl, num_tl]
    exact ⟨TL.numL_free (by omega), TL.numL_free (by omega), fun hm => by have := k.co.az 32 hm; omega⟩
  have sl : 32 ∉ TL.tl slS := by rw [tl_sl]; simp
  intro p hp
  induction rs with
  | nil => cases hp
  | cons r t ih =>
    obtain ⟨o1, o2, o3⟩ := one r (h r (by simp))
    cases t with
    | nil =>
      have hp : p ∈ [numS r.1, numS r.2.1, r.2.2] := hp
      simp only [List.mem_cons, List.not_mem_nil, or_false] at hp
      rcases hp with rfl | rfl | rfl
      · exact o1
      · exact o2
      · exact o3
    | cons q t =>
      have hp : p ∈ numS r.1 :: numS r.2.1 :: r.2.2 :: slS :: wds (q :: t) := hp
      simp only [List.mem_cons] at hp
      rcases hp with rfl | rfl | rfl | rfl | hp
      · exact o1
      · exact o2
      · exact o3
      · exact sl
      · exact ih (fun x hx => h x (List.mem_cons_of_mem _ hx)) (by simpa using hp)
theorem split_wr {rs : List St} (h : ∀ r ∈ rs, OkS r) (hne : rs ≠ []) : Txt.split (wrAll rs) spS = wds rs := by
  rw [wr_words, ← TL.join_eq]
  refine TL.split_join tl_sp (by decide +kernel) (fun e => ?_) (word_free h)
  have := wds_len hne
  rw [e] at this
  cases rs with
  | nil => exact hne rfl
  | cons _ _ => simp at this; omega
/-! ### numbers -/
theorem num_len {n : Nat} (h : n ≤ 1000000000) : 1 ≤ (numS (n : Int)).length ∧ (numS (n : Int)).length ≤ 10 := by
  rw [TL.len_tl, num_tl]
  refine ⟨?_, TL.numL_len (by decide) (by omega)⟩
  have := TL.numL_ne n
  cases e : TL.numL n with
  | nil => exact absurd e this
  | cons _ _ => simp
theorem num_head : ∀ (n : Nat), 0 < n → ∃ c r, TL.numL n = c :: r ∧ c ≠ 48 := by
  intro n
  induction n using Nat.strongRecOn with
  | _ n ih =>
    intro h
    by_cases k : n < 10
    · exact ⟨48 + n, [], TL.numL_lt k, by omega⟩
    · obtain ⟨c, r, e, hc⟩ := ih (n / 10) (by omega) (by omega)
      refine ⟨c, r ++ [48 + n % 10], ?_, hc⟩
      rw [TL.numL_step (by omega), e]
      rfl
theorem str_eq {x y : Str} {n m : Nat} (h : TxtOk x n) (h' : TxtOk y m) (S : Sto) : oEq (.str x) (.str y) S = .ok (.bl (decide (x = y))) S := by
  unfold oEq
  rw [oEqG_ev (p := .str x) (q := .str y) rfl rfl (shaped_str h) (shaped_str h')]
  simp only [PyData.eqv]
  rw [Bool.eq_iff_iff.mpr (show (x == y) = true ↔ decide (x = y) = true by simp)]
  rfl
theorem str_ne {x y : Str} {n m : Nat} (h : TxtOk x n) (h' : TxtOk y m) (S : Sto) : oNe (.str x) (.str y) S = .ok (.bl (!decide (x = y))) S := by
  unfold oNe
  rw [oEqG_ev (p := .str x) (q := .str y) rfl rfl (shaped_str h) (shaped_str h')]
  simp only [PyData.eqv]
  rw [Bool.eq_iff_iff.mpr (show (x == y) = true ↔ decide (x = y) = true by simp)]
theorem txt_one {c : Nat} (h : c < 1000) : TxtOk ⟨#[c]⟩ 1 := by
  refine ⟨?_, Nat.le_refl _⟩
  unfold PyData.strOk
  simp
  omega
theorem ix_str {x : Str} {i : Nat} {c : Nat} {S : Sto} (h : x.cps.toList[i]? = some c) (hl : x.length ≤ 1000000) : oIx (.str x) (.int i) S = .ok (.str ⟨#[c]⟩) S := by
  have ha : L2.atI x.cps.toList (i : Int) = some c := L2.atI_nat h
  show (if x.length ≤ sizeLine then (match L2.atI x.cps.toList (i : Int) with
    | some c => Rs.ok (D.str ⟨#[c]⟩) S
    | none => .bad) else .bad) = _
  rw [if_pos (by rw [sizeLine_eq]; omega), ha]
section
variable {ca : CA}
theorem all_trues (ds : List D) (S : Sto) : fAll [.lst (ds.map fun _ => D.bl true)] S = .ok (.bl true) S := by
  have hb : ∀ ds : List D, blsOf (ds.map fun _ => D.bl true) = some (ds.map fun _ => true) := by
    intro ds
    induction ds with
    | nil => rfl
    | cons d ds ih =>
      show (match D.bl true, blsOf (ds.map fun _ => D.bl true) with
        | .bl b, some bs => some (b :: bs)
        | _, _ => none) = _
      rw [ih]
      rfl
  show (match blsOf (ds.map fun _ => D.bl true) with
    | some bs => Rs.ok (D.bl (bs.all id)) S
    | none => .bad) = _
  rw [hb]
  simp
noncomputable def nu_1 : S3 := (mIfS (tNot3 (fun σ S => asB (mChain oLeA oLeA (mC (.int 1)) (mMake fLen (mCons (mVar 0) mNil)) (mC (.int 10)) σ S))) (mRet (mC (.bl false))) mNext)
noncomputable def nu_e : E3 := (mChain oLeA oLeA (mC (.str (Str.ofString "0"))) (mVar 1) (mC (.str (Str.ofString "9"))))
noncomputable def nu_2 : S3 := (mIfS (tNot3 (fun σ S => asT ((mMake fAll (mCons (mComp false (mWalk (mVar 0)) (g3Name 1) tTrue3 nu_e [1]) mNil)) σ S))) (mRet (mC (.bl false))) mNext)
noncomputable def nu_3 : S3 := (mRet (mOr (mBin oEq (mVar 0) (mC (.str (Str.ofString "0")))) (mBin oNe (mBin oIx (mVar 0) (mC (.int 0))) (mC (.str (Str.ofString "0"))))))
theorem m_number_eq (ca : CA) : m_is_number ca = (mSeq nu_1 (mSeq nu_2 nu_3)) := rfl
theorem is_number_ok {i : Int} (h0 : 0 ≤ i) (h1 : i ≤ 1000000000) (S : Sto) : F_is_number ca [.str (numS i)] S = .ok (.bl true) S := by
  obtain ⟨n, rfl⟩ : ∃ n : Nat, i = (n : Int) := ⟨i.toNat, by omega⟩
  obtain ⟨l1, l2⟩ := num_len (n := n) (by omega)
  have tx := num_ok h0 h1
  obtain ⟨x, hx⟩ : ∃ x, x = numS (n : Int) := ⟨_, rfl⟩
  have tx0 : x.cps.toList = TL.numL n := by rw [hx]; exact num_tl
  have hz : n = 0 → x = Str.ofString "0" := fun e => by
    rw [hx, e]
    rfl
  rw [← hx] at l1 l2 tx ⊢
  have hl : fLen [.str x] S = .ok (.int x.length) S := guard_ev (size_of (by omega))
  have q1 : nu_1 [some (.str x), none] S = .go .next [some (.str x), none] S := by
    have c1 : (1 : Int) ≤ (x.length : Int) := by omega
    have c2 : (x.length : Int) ≤ 10 := by omega
    unfold nu_1
    generalize (x.length : Int) = XL at *
    simp -implicitDefEqProofs [hl, chn2_ev, c1, c2]
  have hc := compD_map (g3Name 1) tTrue3 nu_e (fun _ => .bl true) [some (.str x), none] S (chD x) [] (fun d hd => by
    unfold chD at hd
    obtain ⟨c, hc, rfl⟩ := List.mem_map.mp hd
    have hc : c ∈ x.cps.toList := hc
    rw [tx0] at hc
    obtain ⟨k1, k2⟩ := TL.numL_digits n c hc
    refine ⟨[some (.str x), some (.str ⟨#[c]⟩)], rfl, rfl, ?_⟩
    have e1 : oLeA (.str (Str.ofString "0")) (.str ⟨#[c]⟩) S = .ok (.bl true) S := by
      show Rs.ok (D.bl (!ltL [c] [48])) S = _
      rw [one_le, decide_eq_true k1]
    have e2 : oLeA (.str ⟨#[c]⟩) (.str (Str.ofString "9")) S = .ok (.bl true) S := by
      show Rs.ok (D.bl (!ltL [57] [c])) S = _
      rw [one_le, decide_eq_true k2]
    unfold nu_e
    simp -implicitDefEqProofs [e1, e2]) (by
      unfold chD
      rw [List.length_map, List.length_nil]
      show 0 + x.cps.toList.length < 1000000
      have : x.cps.toList.length = x.length := Array.length_toList
      omega)
  have hw : wipeD [some (.str x), none] [1] = [some (.str x), none] := rfl
  have ml : mkLst ((chD x).map fun _ => D.bl true) S = .ok (.lst ((chD x).map fun _ => D.bl true)) S := mkLst_ev (by
    unfold chD
    rw [List.length_map, List.length_map]
    show x.cps.toList.length ≤ 1000000
    have : x.cps.toList.length = x.length := Array.length_toList
    omega)
  have ha := all_trues (chD x) S
  have wk : walk1 (.ok (.str x) S) = .ok (chD x) S := rfl
  have q2 : nu_2 [some (.str x), none] S = .go .next [some (.str x), none] S := by
    unfold nu_2
    rw [List.nil_append] at hc
    generalize (chD x).map (fun _ => D.bl true) = TR at *
    generalize chD x = CX at *
    simp -implicitDefEqProofs [wk, hw, hc, ml, ha]
  have t0 : TxtOk (Str.ofString "0") 1 := txt_of "0"
  have eq1 := str_eq tx t0 S
  have q3 : nu_3 [some (.str x), none] S = .go (.ret (.bl true)) [some (.str x), none] S := by
    unfold nu_3
    by_cases e : x = Str.ofString "0"
    · rw [decide_eq_true e] at eq1
      simp -implicitDefEqProofs [eq1]
    · rw [decide_eq_false e] at eq1
      obtain ⟨c, r, hcr, c48⟩ := num_head n (by
        rcases Nat.eq_zero_or_pos n with z | z
        · exact absurd (hz z) e
        · exact z)
      rw [hcr] at tx0
      have cm : c < 1000 := by
        have := TL.numL_digits n c (by rw [hcr]; simp)
        omega
      have i0 : oIx (.str x) (.int 0) S = .ok (.str ⟨#[c]⟩) S := ix_str (i := 0) (by rw [tx0]; rfl) (by omega)
      have ne := str_ne (txt_one cm) t0 S
      have nd : decide ((⟨#[c]⟩ : Str) = Str.ofString "0") = false := decide_eq_false fun z => by
        have := congrArg (fun s : Str => s.cps.toList) z
        have z2 : [c] = [48] := this
        simp at z2
        exact c48 z2
      rw [nd] at ne
      simp -implicitDefEqProofs [eq1, i0, ne]
  unfold F_is_number
  rw [defF_ev, m_number_eq]
  have e0 : ([.str x].map some ++ List.replicate 1 none : DL.Loc) = [some (.str x), none] := rfl
  rw [e0, mSeq_ev, q1, seq1_next, mSeq_ev, q2, seq1_next, q3]
  exact fin_self
theorem int_of {i : Int} (h0 : 0 ≤ i) (h1 : i ≤ 1000000000) (S : Sto) : fIntS [.str (numS i)] S = .ok (.int i) S := by
  obtain ⟨n, rfl⟩ : ∃ n : Nat, i = (n : Int) := ⟨i.toNat, by omega⟩
  obtain ⟨l1, l2⟩ := num_len (n := n) (by omega)
  have hl : (TL.numL n).length ≤ 10 := by
    rw [TL.len_tl, num_tl] at l2
    exact l2
  exact fIntS_ev (TL.int_num (by omega)) (by omega)
theorem written_ok {i : Int} (h0 : 0 ≤ i) (h1 : i ≤ 1000000000) (S : Sto) : F_is_written_place ca [.str (numS i)] S = .ok (.bl true) S := by
  have a := is_number_ok (ca := ca) h0 h1 S
  have b := int_of h0 h1 S
  have c := is_place_ok (ca := ca) S h0 h1
  unfold F_is_written_place m_is_written_place
  rw [defF_ev]
  generalize numS i = X at *
  simp -implicitDefEqProofs [a, b, c]
/-! ### words that go on -/
inductive Go (W : List Str) (k : Nat) : Prop
  | lo (i : Int) (h0 : 0 ≤ i) (h1 : i ≤ 1000000000) (e : W[k]? = some (numS i)) (m : k % 4 = 0)
  | hi (i j : Int) (h0 : 0 ≤ i) (h2 : i ≤ j) (h1 : j ≤ 1000000000) (e : W[k]? = some (numS j)) (e2 : W[k - 1]? = some (numS i)) (m : k % 4 = 1)
  | co (c : Str) (h : OkC c) (e : W[k]? = some c) (m : k % 4 = 2)
  | sl (e : W[k]? = some slS) (m : k % 4 = 3)
theorem word_at {W : List Str} {k : Nat} {x : Str} (e : W[k]? = some x) (S : Sto) : oIx (.lst (W.map D.str)) (.int k) S = .ok (.str x) S := by
  have g : L2.atI (W.map D.str) (k : Int) = some (.str x) := L2.atI_nat (by rw [List.getElem?_map, e]; rfl)
  generalize W.map D.str = WD at *
  simp [g]
theorem mod_nat (k : Nat) (S : Sto) : oMod (.int k) (.int 4) S = .ok (.int ((k % 4 : Nat) : Int)) S := by
  have : ((k % 4 : Nat) : Int) = (k : Int) % 4 := by omega
  rw [this]
  exact oMod_ev S (by decide)
theorem goes_ok {W : List Str} {k : Nat} (h : Go W k) (S : Sto) : F_goes_on ca [.lst (W.map D.str), .int k] S = .ok (.bl true) S := by
  have mo := mod_nat k S
  cases h with
  | lo i h0 h1 e m =>
    have w := word_at e S
    have a := written_ok (ca := ca) h0 h1 S
    rw [m] at mo
    unfold F_goes_on m_goes_on
    rw [defF_ev]
    generalize W.map D.str = WD at *
    generalize numS i = X at *
    simp -implicitDefEqProofs [w, mo, a]
  | hi i j h0 h2 h1 e e2 m =>
    have w := word_at e S
    have w2 := word_at e2 S
    have k1 : ((k - 1 : Nat) : Int) = (k : Int) - 1 := by omega
    rw [k1] at w2
    have a := written_ok (ca := ca) (by omega : 0 ≤ j) h1 S
    have b := int_of h0 (by omega : i ≤ 1000000000) S
    have c := int_of (by omega : 0 ≤ j) h1 S
    rw [m] at mo
    unfold F_goes_on m_goes_on
    rw [defF_ev]
    generalize W.map D.str = WD at *
    generalize numS i = X at *
    generalize numS j = Y at *
    simp -implicitDefEqProofs [w, mo, a, w2, b, c, h2]
  | co c h e m =>
    have w := word_at e S
    have a := colour_ok (ca := ca) h S
    rw [m] at mo
    unfold F_goes_on m_goes_on
    rw [defF_ev]
    generalize W.map D.str = WD at *
    simp -implicitDefEqProofs [w, mo, a]
  | sl e m =>
    have w := word_at e S
    have a : oEq (.str slS) (.str (Str.ofString "/")) S = .ok (.bl true) S := oEq_str (txt_of "/") S
    rw [m] at mo
    unfold F_goes_on m_goes_on
    rw [defF_ev]
    generalize W.map D.str = WD at *
    generalize slS = X at *
    simp -implicitDefEqProofs [w, mo, a]
theorem go_all {rs : List St} (h : ∀ r ∈ rs, OkS r) (hne : rs ≠ []) {k : Nat} (hk : k < (wds rs).length) : Go (wds rs) k := by
  have hl := wds_len hne
  have hi : k / 4 < rs.length := by omega
  have hr : rs[k / 4]? = some rs[k / 4] := List.getElem?_eq_getElem hi
  obtain ⟨a, b, c, d⟩ := wds_get hr
  have ok := h _ (List.getElem_mem hi)
  have o1 := ok.lo
  have o2 := ok.le
  have o3 := ok.hi
  have m : k % 4 = 0 ∨ k % 4 = 1 ∨ k % 4 = 2 ∨ k % 4 = 3 := by omega
  rcases m with m | m | m | m
  · refine .lo _ o1 (by omega) ?_ m
    rw [show (wds rs)[k]? = (wds rs)[4 * (k / 4)]? by congr 1; omega]
    exact a
  · refine .hi _ _ o1 o2 o3 ?_ ?_ m
    · rw [show (wds rs)[k]? = (wds rs)[4 * (k / 4) + 1]? by congr 1; omega]
      exact b
    · rw [show (wds rs)[k - 1]? = (wds rs)[4 * (k / 4)]? by congr 1; omega]
      exact a
  · refine .co _ ok.co ?_ m
    rw [show (wds rs)[k]? = (wds rs)[4 * (k / 4) + 2]? by congr 1; omega]
    exact c
  · refine .sl ?_ m
    rw [show (wds rs)[k]? = (wds rs)[4 * (k / 4) + 3]? by congr 1; omega]
    exact d (by omega)
end
end Lw
end

section
set_option linter.all false
set_option maxRecDepth 100000
set_option maxHeartbeats 4000000
/-! a writing read -/
namespace Lw
open PySem DL L2
theorem filter_all12 {α : Type} (xs : List α) : xs.filter (fun _ => true) = xs := by simp
theorem compD_gen12 {α : Type} (src out : α → D) (c : α → Bool) (g : G3) (t : T3) (e : E3) (σ : DL.Loc) (S : Sto) : ∀ (xs : List α) (acc : List D), (∀ x ∈ xs, ∃ σ1, g (src x) σ = some σ1 ∧ t σ1 S = .ok (c x) S ∧ (c x = true → e σ1 S = .ok (out x) S)) → acc.length + xs.length < 1000000 →
    compD g t e (xs.map src) acc σ S = .ok (acc ++ (xs.filter c).map out) S
  | [], acc, _, _ => by
    show Rs.ok acc S = _
    simp
  | d :: ds, acc, h, hl => by
    rw [List.length_cons] at hl
    obtain ⟨σ1, e1, e2, e3⟩ := h d (List.mem_cons_self ..)
    have ih := fun acc hl => compD_gen12 src out c g t e σ S ds acc (fun x hx => h x (List.mem_cons_of_mem _ hx)) hl
    rw [List.map_cons, compD_cons, e1, cd1_ev, e2]
    by_cases hc : c d = true
    · rw [hc, List.filter_cons_of_pos hc, cd2_true, e3 hc, cd3_ev _ _ _ _ _ _ _ _ (by omega), ih _ (by rw [List.length_append, List.length_singleton]; omega), List.map_cons, List.append_assoc]
      rfl
    · have hc' : c d = false := by simpa using hc
      rw [hc', List.filter_cons_of_neg (by rw [hc']; decide), cd2_false]
      exact ih _ (by omega)
theorem compD_all12 {α : Type} (src out : α → D) (g : G3) (e : E3) (σ : DL.Loc) (S : Sto) (xs : List α) (h : ∀ x ∈ xs, ∃ σ1, g (src x) σ = some σ1 ∧ e σ1 S = .ok (out x) S) (hl : xs.length < 1000000) :
    compD g tTrue3 e (xs.map src) [] σ S = .ok (xs.map out) S := by
  rw [compD_gen12 src out (fun _ => true) g tTrue3 e σ S xs [] (fun x hx => by
    obtain ⟨σ1, e1, e2⟩ := h x hx
    exact ⟨σ1, e1, rfl, fun _ => e2⟩) (by simpa using hl), filter_all12]
  rfl
section
variable {ca : CA}
noncomputable def re_1 : S3 := (mIfS (tNot3 (fun σ S => asT ((mMake fIsi (mCons (mVar 0) (mCons (mC (.ty "str")) mNil))) σ S))) mBadS mNext)
noncomputable def re_2 : S3 := (mAsg (mIf3 (fun σ S => asT ((mVar 0) σ S)) (mSplit (mVar 0) (mC (.str (Str.ofString " ")))) (mMake mkLst mNil)) (g3Name 1))
noncomputable def re_b (ca : CA) : S3 := (mIfS (tNot3 (fun σ S => asT ((mMake (withLen 2 (F_goes_on ca)) (mCons (mVar 1) (mCons (mVar 2) mNil))) σ S))) mBadS mNext)
noncomputable def re_3 (ca : CA) : S3 := (mFor (mRange1 (mCons (mMake fLen (mCons (mVar 1) mNil)) mNil)) (g3Name 2) (re_b ca))
noncomputable def re_4 : S3 := (mIfS (tAnd3 (fun σ S => asT ((mVar 1) σ S)) (fun σ S => asB (mBin oNe (mBin oMod (mMake fLen (mCons (mVar 1) mNil)) (mC (.int 4))) (mC (.int 3)) σ S))) mBadS mNext)
noncomputable def re_e : E3 := (mMake mkTup (mCons (mMake fIntS (mCons (mBin oIx (mVar 1) (mVar 2)) mNil)) (mCons (mMake fIntS (mCons (mBin oIx (mVar 1) (mBin (oCat false) (mVar 2) (mC (.int 1)))) mNil)) (mCons (mBin oIx (mVar 1) (mBin (oCat false) (mVar 2) (mC (.int 2)))) mNil))))
noncomputable def re_5 (ca : CA) : S3 := (mRet (mNew ca.Book (fun ds => withLen 2 (F_Book_init_ ca) (ds ++ [])) (mCons (mComp false (mRange3 (mCons (mC (.int 0)) (mCons (mMake fLen (mCons (mVar 1) mNil)) (mCons (mC (.int 4)) mNil)))) (g3Name 2) tTrue3 re_e [2]) mNil)))
theorem m_read_eq (ca : CA) : m_read ca = (mSeq re_1 (mSeq re_2 (mSeq (re_3 ca) (mSeq re_4 (re_5 ca))))) := rfl
theorem re_loop (S : Sto) (T : D) {W : List Str} (h : ∀ k < W.length, Go W k) : ∀ (ks : List Nat) (o2 : Option D), (∀ k ∈ ks, k < W.length) →
    ∃ u2, forD (g3Name 2) (re_b ca) (ks.map fun k => D.int ((k : Nat) : Int)) [some T, some (.lst (W.map D.str)), o2] S = .go .next [some T, some (.lst (W.map D.str)), u2] S
  | [], o2, _ => ⟨o2, rfl⟩
  | k :: ks, o2, hk => by
    have g := goes_ok (ca := ca) (h k (hk k (by simp))) S
    obtain ⟨u2, e⟩ := re_loop S T h ks (some (.int (k : Nat))) fun x hx => hk x (List.mem_cons_of_mem _ hx)
    refine ⟨u2, ?_⟩
    have q : re_b ca [some T, some (.lst (W.map D.str)), some (.int (k : Nat))] S = .go .next [some T, some (.lst (W.map D.str)), some (.int (k : Nat))] S := by
      unfold re_b
      generalize W.map D.str = WD at *
      simp -implicitDefEqProofs [g]
    rw [List.map_cons, forD_cons, g3Name_ev, for2_ev]
    have es : ([some T, some (.lst (W.map D.str)), o2] : DL.Loc).set 2 (some (.int (k : Nat))) = [some T, some (.lst (W.map D.str)), some (.int (k : Nat))] := rfl
    rw [es, q, for3_next]
    exact e
theorem small4_all : (List.range 401).all (fun L => Builtin.Range.small 0 (L : Int) 4) = true := by decide +kernel
theorem small4 {L : Nat} (h : L ≤ 400) : Builtin.Range.small 0 (L : Int) 4 = true := List.all_eq_true.mp small4_all L (List.mem_range.mpr (by omega))
def r0 : St := (0, 0, Str.ofString "a")
theorem rs_range (rs : List St) : ((List.range rs.length).map fun i => stD (rs.getD i r0)) = rs.map stD := by
  apply List.ext_getElem
  · simp
  · intro i h1 h2
    simp only [List.length_map] at h2
    simp [List.getD_eq_getElem?_getD, List.getElem?_eq_getElem h2]
theorem isi_str (x : Str) (S : Sto) : fIsi [.str x, .ty "str"] S = .ok (.bl true) S := by
  have h : tyD S (.str x) = some "str" := rfl
  have k : L2.kitB "str" "str" = some true := by decide +kernel
  show isi (.str x) (.ty "str") S = _
  simp only [isi, h, k]
theorem read_ok {rs : List St} (h : ∀ r ∈ rs, OkS r) (hl : rs.length ≤ 100) (S : Sto) : F_read ca [.str (wrAll rs)] S = .ok (.ref S.length) (S ++ [bkO ca (S.length + 1), rsO rs]) := by
  have tx := all_ok h
  have lt : (wrAll rs).length ≤ 5500 := by have := tx.len; omega
  have isi := isi_str (wrAll rs) S
  have q1 : re_1 [some (.str (wrAll rs)), none, none] S = .go .next [some (.str (wrAll rs)), none, none] S := by
    unfold re_1
    generalize wrAll rs = X at *
    simp -implicitDefEqProofs [isi]
  have wl : (wds rs).length ≤ 400 := by
    by_cases e : rs = []
    · rw [e]; simp [wds]
    · have := wds_len e
      omega
  have q2 : re_2 [some (.str (wrAll rs)), none, none] S = .go .next [some (.str (wrAll rs)), some (.lst ((wds rs).map D.str)), none] S := by
    by_cases e : rs = []
    · rw [e]
      have tr : truD (.str (wrAll [])) S = some false := rfl
      have w0 : (wds []).map D.str = [] := rfl
      rw [w0]
      unfold re_2
      generalize wrAll [] = X at *
      simp -implicitDefEqProofs [tr, mkLst_ev]
    · have sp := split_wr h e
      have tr : truD (.str (wrAll rs)) S = some true := by
        have : (wrAll rs).length ≠ 0 := by
          rw [wr_words, TL.len_tl, TL.tl_join, tl_sp]
          intro z
          cases rs with
          | nil => exact e rfl
          | cons r t =>
            obtain ⟨x, l, ew⟩ := wds_cons r t
            have fst := wds_get (rs := r :: t) (i := 0) (r := r) rfl
            rw [ew] at z fst
            have fx : x = numS r.1 := Option.some.inj fst.1
            have o := h r (by simp)
            have o1 := o.lo
            have o2 := o.le
            have o3 := o.hi
            obtain ⟨n, hn⟩ : ∃ n : Nat, r.1 = (n : Int) := ⟨r.1.toNat, by omega⟩
            have nl := num_len (n := n) (by omega)
            rw [← hn, ← fx, TL.len_tl] at nl
            cases l with
            | nil =>
              have z : (TL.tl x).length = 0 := z
              omega
            | cons y l =>
              have z : (TL.tl x ++ ([32] ++ TL.joinL [32] ((y :: l).map TL.tl))).length = 0 := z
              rw [List.length_append] at z
              omega
        show (if sizeOk (wrAll rs).length then some (((wrAll rs).length : Int) != 0) else none) = some true
        rw [if_pos (size_of (by omega))]
        simpa using this
      have ev := spB_ev (y := wrAll rs) (b := Str.ofString " ") (S := S) (by decide +kernel) (by omega) (by rw [show Str.ofString " " = spS from rfl, sp]; omega)
      rw [show Txt.split (wrAll rs) (Str.ofString " ") = wds rs from sp] at ev
      unfold re_2
      generalize (wds rs).map D.str = WD at *
      generalize wrAll rs = X at *
      simp -implicitDefEqProofs [tr, ev]
  have go : ∀ k < (wds rs).length, Go (wds rs) k := fun k hk => by
    by_cases e : rs = []
    · rw [e] at hk
      simp [wds] at hk
    · exact go_all h e hk
  obtain ⟨u2, lp⟩ := re_loop (ca := ca) S (.str (wrAll rs)) go (List.range (wds rs).length) none fun k hk => List.mem_range.mp hk
  have ln : fLen [.lst ((wds rs).map D.str)] S = .ok (.int (wds rs).length) S := by rw [fLen_lst, List.length_map]
  have er : rg2 0 ((wds rs).length : Int) S = .ok ((List.range (wds rs).length).map fun k => D.int ((k : Nat) : Int)) S := by
    rw [rg_nat _ S (by omega)]
    unfold rngD
    congr 2
    funext k
    simp
  have q3 : re_3 ca [some (.str (wrAll rs)), some (.lst ((wds rs).map D.str)), none] S = .go .next [some (.str (wrAll rs)), some (.lst ((wds rs).map D.str)), u2] S := by
    rw [← lp]
    unfold re_3
    generalize (List.range (wds rs).length).map (fun k => D.int ((k : Nat) : Int)) = RR at *
    generalize ((wds rs).length : Int) = WL at *
    generalize (wds rs).map D.str = WD at *
    generalize wrAll rs = X at *
    simp -implicitDefEqProofs [ln, er]
  have q4 : re_4 [some (.str (wrAll rs)), some (.lst ((wds rs).map D.str)), u2] S = .go .next [some (.str (wrAll rs)), some (.lst ((wds rs).map D.str)), u2] S := by
    by_cases e : rs = []
    · subst e
      have tr : truD (.lst ((wds []).map D.str)) S = some false := rfl
      unfold re_4
      generalize (wds []).map D.str = WD at *
      generalize wrAll [] = X at *
      simp -implicitDefEqProofs [tr]
    · have l2 := wds_len e
      have tr : truD (.lst ((wds rs).map D.str)) S = some true := by
        cases hw : wds rs with
        | nil =>
          rw [hw] at l2
          simp at l2
          omega
        | cons _ _ => rfl
      have mo : oMod (.int ((wds rs).length : Int)) (.int 4) S = .ok (.int 3) S := by
        have m3 : (wds rs).length % 4 = 3 := by omega
        rw [mod_nat, m3]
        rfl
      unfold re_4
      generalize ((wds rs).length : Int) = WL at *
      generalize (wds rs).map D.str = WD at *
      generalize wrAll rs = X at *
      simp -implicitDefEqProofs [tr, ln, mo]
  have rz : (Builtin.Range.rangeSize 0 ((wds rs).length : Int) 4).toNat = rs.length := by
    unfold Builtin.Range.rangeSize
    by_cases e : rs = []
    · rw [e]
      rfl
    · have l2 := wds_len e
      have pos : 0 < rs.length := List.length_pos_iff.mpr e
      rw [if_pos (by decide), if_pos (by omega)]
      omega
  have r3 : rg3 0 ((wds rs).length : Int) 4 S = .ok (rngC 0 4 rs.length) S := by
    unfold rg3
    have sm : Builtin.Range.small 0 ((wds rs).length : Int) 4 = true := by
      exact small4 wl
    rw [sm, rz, if_pos (by decide)]
  have cm := compD_all12 (fun i : Nat => D.int (0 + (i : Int) * 4)) (fun i : Nat => stD (rs.getD i r0)) (g3Name 2) re_e [some (.str (wrAll rs)), some (.lst ((wds rs).map D.str)), none] S (List.range rs.length) (fun i hi => by
    have hi := List.mem_range.mp hi
    refine ⟨_, rfl, ?_⟩
    have hr : rs[i]? = some rs[i] := List.getElem?_eq_getElem hi
    have gd : rs.getD i r0 = rs[i] := by simp [List.getD_eq_getElem?_getD, hr]
    obtain ⟨a, b, c, _⟩ := wds_get hr
    have o := h _ (List.getElem_mem hi)
    have o1 := o.lo
    have o2 := o.le
    have o3 := o.hi
    have w1 := word_at a S
    have w2 := word_at b S
    have w3 := word_at c S
    have e1 : ((4 * i : Nat) : Int) = 0 + (i : Int) * 4 := by omega
    have e2 : ((4 * i + 1 : Nat) : Int) = 0 + (i : Int) * 4 + 1 := by omega
    have e3 : ((4 * i + 2 : Nat) : Int) = 0 + (i : Int) * 4 + 2 := by omega
    rw [e1] at w1
    rw [e2] at w2
    rw [e3] at w3
    have i1 := int_of o1 (by omega) S
    have i2 := int_of (by omega : 0 ≤ rs[i].2.1) o3 S
    rw [gd]
    unfold re_e stD
    show (mMake mkTup _ : E3) [some (.str (wrAll rs)), some (.lst ((wds rs).map D.str)), some (.int (0 + (i : Int) * 4))] S = _
    have ad1 : ∀ z : Int, oCat false (.int z) (.int 1) S = .ok (.int (z + 1)) S := fun z => by simp
    have ad2 : ∀ z : Int, oCat false (.int z) (.int 2) S = .ok (.int (z + 2)) S := fun z => by simp
    generalize 0 + (i : Int) * 4 = K at *
    generalize (wds rs).map D.str = WD at *
    generalize wrAll rs = X at *
    generalize numS rs[i].1 = N1 at *
    generalize numS rs[i].2.1 = N2 at *
    clear lp go ln er q2 q3 q4 r3
    simp -implicitDefEqProofs only [mMake_ev, mCons_ev, mBin_ev, mVar_ev, mC_ev, mNil_ev, bin1_ev, bin2_ev, List.getElem?_cons_zero, List.getElem?_cons_succ, w1, w2, w3, i1, i2, ad1, ad2] <;> simp -implicitDefEqProofs [w1, w2, w3, i1, i2, mkTup_ev]) (by rw [List.length_range]; omega)
  rw [rs_range] at cm
  have cm : compD (g3Name 2) tTrue3 re_e (rngC 0 4 rs.length) [] [some (.str (wrAll rs)), some (.lst ((wds rs).map D.str)), none] S = .ok (rs.map stD) S := cm
  have ml : mkLst (rs.map stD) S = .ok (.lst (rs.map stD)) S := mkLst_ev (by rw [List.length_map]; omega)
  have nw := new_ok (ca := ca) (d := .lst (rs.map stD)) (rs := rs) S ⟨isi_ll _ _, ⟨none, rfl, trivial⟩, h, by omega⟩
  have nw : newRes S.length (F_Book_init_ ca [.ref S.length, .lst (rs.map stD)] (S ++ [.ins ca.Book []])) = .ok (.ref S.length) (S ++ [bkO ca (S.length + 1), rsO rs]) := by
    rw [withLen_ev 2 _ _ _ rfl] at nw
    exact nw
  have q5 : re_5 ca [some (.str (wrAll rs)), some (.lst ((wds rs).map D.str)), u2] S = .go (.ret (.ref S.length)) [some (.str (wrAll rs)), some (.lst ((wds rs).map D.str)), u2] (S ++ [bkO ca (S.length + 1), rsO rs]) := by
    have hwi : wipeD [some (.str (wrAll rs)), some (.lst ((wds rs).map D.str)), u2] [2] = [some (.str (wrAll rs)), some (.lst ((wds rs).map D.str)), none] := rfl
    clear lp go er q2 q3 q4
    unfold re_5
    generalize rngC 0 4 rs.length = RC at *
    generalize S ++ [bkO ca (S.length + 1), rsO rs] = S2 at *
    generalize rs.map stD = RS at *
    generalize ((wds rs).length : Int) = WL at *
    generalize (wds rs).map D.str = WD at *
    generalize wrAll rs = X at *
    simp -implicitDefEqProofs [ln, r3, hwi, cm, ml, nw]
  have e0 : ([.str (wrAll rs)].map some ++ List.replicate 2 none : DL.Loc) = [some (.str (wrAll rs)), none, none] := rfl
  unfold F_read
  rw [defF_ev, m_read_eq, e0, mSeq_ev, q1, seq1_next, mSeq_ev, q2, seq1_next, mSeq_ev, q3, seq1_next, mSeq_ev, q4, seq1_next, q5]
  rfl
end
end Lw
end

section
set_option linter.all false
set_option maxRecDepth 100000
set_option maxHeartbeats 4000000
/-! colours of any letters; each letter -/
namespace Lw
open PySem DL L2
theorem letter (d : Int) (h0 : 0 ≤ d) (h1 : d < 26) (S : Sto) : ∃ c : Nat, oIx (.str (Str.ofString "abcdefghijklmnopqrstuvwxyz")) (.int d) S = .ok (.str ⟨#[c]⟩) S ∧ 97 ≤ c ∧ c ≤ 122 := by
  have hz : (Str.ofString "abcdefghijklmnopqrstuvwxyz").cps.toList = List.range' 97 26 := by decide +kernel
  have hn : (Str.ofString "abcdefghijklmnopqrstuvwxyz").length ≤ sizeLine := by decide +kernel
  obtain ⟨n, rfl⟩ : ∃ n : Nat, d = (n : Int) := ⟨d.toNat, by omega⟩
  have ha : L2.atI (List.range' 97 26) (n : Int) = some (97 + n) := L2.atI_nat (by rw [List.getElem?_range' (by omega)]; simp)
  refine ⟨97 + n, ?_, by omega, by omega⟩
  show (if (Str.ofString "abcdefghijklmnopqrstuvwxyz").length ≤ sizeLine then (match L2.atI (Str.ofString "abcdefghijklmnopqrstuvwxyz").cps.toList (n : Int) with
    | some c => Rs.ok (D.str ⟨#[c]⟩) S
    | none => .bad) else .bad) = _
  rw [if_pos hn, hz, ha]
structure One (x : Str) : Prop where
  one : ∃ c, x = ⟨#[c]⟩ ∧ 97 ≤ c ∧ c ≤ 122
theorem join_cps : ∀ xs : List Str, (Str.join (Str.ofString "") xs).cps.toList = (xs.map fun x => x.cps.toList).flatten
  | [] => rfl
  | [x] => by simp [Str.join]
  | x :: y :: r => by
    have ih := join_cps (y :: r)
    have e : Str.join (Str.ofString "") (x :: y :: r) = x ++ Str.ofString "" ++ Str.join (Str.ofString "") (y :: r) := rfl
    have e2 : (x ++ Str.ofString "" ++ Str.join (Str.ofString "") (y :: r)).cps = x.cps ++ (Str.ofString "").cps ++ (Str.join (Str.ofString "") (y :: r)).cps := rfl
    have e3 : (Str.ofString "").cps = #[] := by decide +kernel
    rw [e, e2, e3, Array.append_empty, Array.toList_append, ih]
    simp
theorem join_one {xs : List Str} (h : ∀ x ∈ xs, One x) (h1 : 1 ≤ xs.length) (h8 : xs.length ≤ 8) : OkC (Str.join (Str.ofString "") xs) := by
  have e := join_cps xs
  have l : ∀ ys : List Str, (∀ x ∈ ys, One x) → (ys.map fun x => x.cps.toList).flatten.length = ys.length ∧ ∀ c ∈ (ys.map fun x => x.cps.toList).flatten, 97 ≤ c ∧ c ≤ 122 := by
    intro ys
    induction ys with
    | nil => intro _; exact ⟨rfl, fun c hc => by simp at hc⟩
    | cons y ys ih =>
      intro hy
      obtain ⟨c, rfl, c0, c1⟩ := (hy y (by simp)).one
      obtain ⟨i1, i2⟩ := ih fun x hx => hy x (List.mem_cons_of_mem _ hx)
      refine ⟨by simp at i1 ⊢; omega, fun k hk => ?_⟩
      simp only [List.map_cons, List.flatten_cons, List.mem_append] at hk
      rcases hk with hk | hk
      · have : k = c := by simpa using hk
        omega
      · exact i2 k hk
  obtain ⟨l1, l2⟩ := l xs h
  have hl : (Str.join (Str.ofString "") xs).length = xs.length := by
    show (Str.join (Str.ofString "") xs).cps.size = _
    rw [← Array.length_toList, e, l1]
  exact ⟨by omega, by omega, fun c hc => l2 c (e ▸ hc)⟩
section
variable {ca : CA}
theorem letters_ok (S : Sto) : F_l_letters ca [] S = .ok (.str (Str.ofString "abcdefghijklmnopqrstuvwxyz")) S := by
  unfold F_l_letters m_l_letters
  rw [defF_ev]
  exact fin_self
noncomputable def dy_e (ca : CA) : E3 := (mBin oIx (mMake (withLen 0 (F_l_letters ca)) mNil) (mMake (withLen 2 (F_l_draw ca)) (mCons (mVar 0) (mCons (mC (.int 26)) mNil))))
theorem dy_comp (U : Sto) (σ1 σ2 σ3 σ4 : Option D) : ∀ (ds : List D) (b : Nat) (p : Pen) (acc : List Str), b + ds.length < 2 ^ 31 → p.nth ≤ b → acc.length + ds.length < 100 → (∀ x ∈ acc, One x) →
    ∃ (p' : Pen) (xs : List Str), compD (g3Name 5) tTrue3 (dy_e ca) ds (acc.map D.str) [some (.ref 0), σ1, σ2, σ3, σ4, none] (penO p :: U) = .ok (xs.map D.str) (penO p' :: U) ∧ p'.nth ≤ b + ds.length ∧ xs.length = acc.length + ds.length ∧ ∀ x ∈ xs, One x
  | [], b, p, acc, _, hp, _, h => ⟨p, acc, rfl, hp, rfl, h⟩
  | d :: ds, b, p, acc, hb, hp, hl, h => by
    simp only [List.length_cons] at hb hl
    obtain ⟨v, p1, e1, v0, v1, n1⟩ := draw_ok (ca := ca) b p U 26 (by omega) hp (by decide) (by decide)
    obtain ⟨c, ec, c0, c1⟩ := letter v v0 v1 (penO p1 :: U)
    obtain ⟨p', xs, e2, q1, q2, q3⟩ := dy_comp U σ1 σ2 σ3 σ4 ds (b + 1) p1 (acc ++ [⟨#[c]⟩]) (by omega) n1 (by rw [List.length_append, List.length_singleton]; omega)
      (fun x hx => (List.mem_append.mp hx).elim (h x) fun k => by rw [List.mem_singleton.mp k]; exact ⟨c, rfl, c0, c1⟩)
    refine ⟨p', xs, ?_, by rw [List.length_cons]; omega, by rw [q2, List.length_append, List.length_singleton, List.length_cons]; omega, q3⟩
    have he : dy_e ca [some (.ref 0), σ1, σ2, σ3, σ4, some d] (penO p :: U) = .ok (.str ⟨#[c]⟩) (penO p1 :: U) := by
      have ls := letters_ok (ca := ca) (penO p :: U)
      unfold dy_e
      generalize Str.ofString "abcdefghijklmnopqrstuvwxyz" = AZ at *
      simp -implicitDefEqProofs [e1, ec, ls]
    rw [List.map_append] at e2
    rw [compD_cons, g3Name_ev, cd1_ev, tTrue3_ev, cd2_true]
    simp only [List.set_cons_succ, List.set_cons_zero]
    rw [he, cd3_ev _ _ _ _ _ _ _ _ (by rw [List.length_map]; omega)]
    exact e2
noncomputable def dy2b1 (ca : CA) : S3 := (mAsg (mBin (oCat false) (mC (.int 1)) (mMake (withLen 2 (F_l_draw ca)) (mCons (mVar 0) (mCons (mC (.int 8)) mNil)))) (g3Name 4))
noncomputable def dy2b2 (ca : CA) : S3 := (mExpr (mMethL fAppend (mVar 2) (mCons (mJoin (mC (.str (Str.ofString ""))) (mComp false (mRange1 (mCons (mVar 4) mNil)) (g3Name 5) tTrue3 (dy_e ca) [5])) mNil)))
noncomputable def dy2b (ca : CA) : S3 := (mSeq (dy2b1 ca) (dy2b2 ca))
theorem m_dyes_eq (ca : CA) : m_l_dyes ca = (mSeq (mAsg (mMake mkOpen mNil) (g3Name 2)) (mSeq (mFor (mRange1 (mCons (mVar 1) mNil)) (g3Name 3) (dy2b ca)) (mRet (mVar 2)))) := rfl
theorem dy_turn (T : Sto) (b : Nat) (p : Pen) (cs : List Str) (o1 o3 o4 : Option D) (hb : b + 9 < 2 ^ 31) (hp : p.nth ≤ b) (hl : cs.length < 100) :
    ∃ p' x u4, dy2b ca [some (.ref 0), o1, some (.ref (T.length + 1)), o3, o4, none] (penO p :: (T ++ [.lst (cs.map D.str)])) = .go .next [some (.ref 0), o1, some (.ref (T.length + 1)), o3, u4, none] (penO p' :: (T ++ [.lst ((cs ++ [x]).map D.str)])) ∧ p'.nth ≤ b + 9 ∧ OkC x := by
  obtain ⟨d, p1, e1, d0, d1, n1⟩ := draw_ok (ca := ca) b p (T ++ [.lst (cs.map D.str)]) 8 (by omega) hp (by decide) (by decide)
  obtain ⟨m, hm⟩ : ∃ m : Nat, 1 + d = (m : Int) := ⟨(1 + d).toNat, by omega⟩
  have er := rg_nat m (penO p1 :: (T ++ [.lst (cs.map D.str)])) (by omega)
  obtain ⟨p2, xs, e2, q1, q2, q3⟩ := dy_comp (ca := ca) (T ++ [.lst (cs.map D.str)]) o1 (some (.ref (T.length + 1))) o3 (some (.int m)) (rngD 0 m) (b + 1) p1 [] (by rw [rng_len]; omega) n1 (by rw [rng_len, List.length_nil]; omega) (fun _ h => nomatch h)
  rw [rng_len] at q1 q2
  rw [List.length_nil, Nat.zero_add] at q2
  have ok := join_one q3 (by omega) (by omega)
  refine ⟨p2, Str.join (Str.ofString "") xs, some (.int m), ?_, by omega, ok⟩
  have e2' : compD (g3Name 5) tTrue3 (dy_e ca) (rngD 0 m) [] [some (.ref 0), o1, some (.ref (T.length + 1)), o3, some (.int m), none] (penO p1 :: (T ++ [.lst (cs.map D.str)])) = .ok (xs.map D.str) (penO p2 :: (T ++ [.lst (cs.map D.str)])) := e2
  have hw : wipeD [some (.ref 0), o1, some (.ref (T.length + 1)), o3, some (.int m), none] [5] = [some (.ref 0), o1, some (.ref (T.length + 1)), o3, some (.int m), none] := rfl
  have l0 : (Str.ofString "").length = 0 := by decide +kernel
  have ls : ∀ ys : List Str, (∀ x ∈ ys, One x) → (ys.map (fun x : Str => x.length)).sum = ys.length := by
    intro ys
    induction ys with
    | nil => intro _; rfl
    | cons y ys ih =>
      intro hy
      obtain ⟨c, rfl, c0, c1⟩ := (hy y (by simp)).one
      have := ih fun x hx => hy x (List.mem_cons_of_mem _ hx)
      simp only [List.map_cons, List.sum_cons, List.length_cons, this]
      show 1 + ys.length = _
      omega
  have ml : mkLst (xs.map D.str) (penO p2 :: (T ++ [.lst (cs.map D.str)])) = .ok (.lst (xs.map D.str)) (penO p2 :: (T ++ [.lst (cs.map D.str)])) := mkLst_ev (by rw [List.length_map]; omega)
  have hj := joi2_ev (y := Str.ofString "") (xs := xs) (S := penO p2 :: (T ++ [.lst (cs.map D.str)])) (by rw [ls xs q3, l0]; omega)
  have ha : fAppend (.ref (T.length + 1)) [.str (Str.join (Str.ofString "") xs)] (penO p2 :: (T ++ [.lst (cs.map D.str)])) = .ok .non (penO p2 :: (T ++ [.lst ((cs ++ [Str.join (Str.ofString "") xs]).map D.str)])) := by
    rw [fAppend_ev (get_last _ _ _) (by rw [List.length_map]; omega), set_last, List.map_append]
    rfl
  have hl2 : isListIn (penO p1 :: (T ++ [.lst (cs.map D.str)])) (.ref (T.length + 1)) = true := isList_ref (get_last _ _ _)
  have s1 : dy2b1 ca [some (.ref 0), o1, some (.ref (T.length + 1)), o3, o4, none] (penO p :: (T ++ [.lst (cs.map D.str)])) = .go .next [some (.ref 0), o1, some (.ref (T.length + 1)), o3, some (.int m), none] (penO p1 :: (T ++ [.lst (cs.map D.str)])) := by
    clear e2 e2' ha hj ml er
    unfold dy2b1
    generalize T ++ [.lst (cs.map D.str)] = T1 at *
    simp -implicitDefEqProofs [e1, hm]
  unfold dy2b
  rw [mSeq_ev, s1, seq1_next]
  clear s1 e2 e1
  unfold dy2b2
  generalize Str.join (Str.ofString "") xs = JJ at *
  generalize (cs ++ [JJ]).map D.str = C2 at *
  generalize cs.map D.str = C1 at *
  generalize xs.map D.str = XS at *
  generalize rngD 0 m = RS at *
  simp -implicitDefEqProofs [er, hw, e2', ml, meth1_ev _ _ _ _ _ hl2, hj, ha]
theorem dy_loop (T : Sto) (o1 : Option D) : ∀ (ds : List D) (b : Nat) (p : Pen) (cs : List Str) (o3 o4 : Option D), b + 9 * ds.length < 2 ^ 31 → p.nth ≤ b → cs.length + ds.length < 100 → (∀ x ∈ cs, OkC x) →
    ∃ (p' : Pen) (cs' : List Str) (u3 u4 : Option D), forD (g3Name 3) (dy2b ca) ds [some (.ref 0), o1, some (.ref (T.length + 1)), o3, o4, none] (penO p :: (T ++ [.lst (cs.map D.str)])) = .go .next [some (.ref 0), o1, some (.ref (T.length + 1)), u3, u4, none] (penO p' :: (T ++ [.lst (cs'.map D.str)])) ∧ p'.nth ≤ b + 9 * ds.length ∧ cs'.length = cs.length + ds.length ∧ ∀ x ∈ cs', OkC x
  | [], b, p, cs, o3, o4, _, hp, _, h => ⟨p, cs, o3, o4, rfl, hp, rfl, h⟩
  | d :: ds, b, p, cs, o3, o4, hb, hp, hl, h => by
    simp only [List.length_cons] at hb hl
    obtain ⟨p1, x, u4, e, n1, ok⟩ := dy_turn (ca := ca) T b p cs o1 (some d) o4 (by omega) hp (by omega)
    obtain ⟨p', cs', s3, s4, e2, q1, q2, q3⟩ := dy_loop T o1 ds (b + 9) p1 (cs ++ [x]) (some d) u4 (by omega) n1 (by rw [List.length_append, List.length_singleton]; omega)
      (fun y hy => (List.mem_append.mp hy).elim (h y) fun k => by rw [List.mem_singleton.mp k]; exact ok)
    refine ⟨p', cs', s3, s4, ?_, by rw [List.length_cons]; omega, by rw [q2, List.length_append, List.length_singleton, List.length_cons]; omega, q3⟩
    rw [forD_cons, g3Name_ev, for2_ev]
    simp only [List.set_cons_succ, List.set_cons_zero]
    rw [e, for3_next]
    exact e2
theorem dyes_ok (T : Sto) (b : Nat) (p : Pen) (hb : b + 36 < 2 ^ 31) (hp : p.nth ≤ b) :
    ∃ (p' : Pen) (cs : List Str), F_l_dyes ca [.ref 0, .int 4] (penO p :: T) = .ok (.lst (cs.map D.str)) (penO p' :: T) ∧ p'.nth ≤ b + 36 ∧ cs.length = 4 ∧ ∀ x ∈ cs, OkC x := by
  have er : rg2 0 4 (penO p :: (T ++ [.lst []])) = .ok (rngD 0 4) (penO p :: (T ++ [.lst []])) := rfl
  obtain ⟨p', cs, u3, u4, e, q1, q2, q3⟩ := dy_loop (ca := ca) T (some (.int 4)) (rngD 0 4) b p [] none none (by rw [rng_len]; omega) hp (by rw [rng_len, List.length_nil]; omega) (fun _ h => nomatch h)
  rw [rng_len] at q1 q2
  have e' : forD (g3Name 3) (dy2b ca) (rngD 0 4) [some (.ref 0), some (.int 4), some (.ref (T.length + 1)), none, none, none] (penO p :: (T ++ [.lst []])) = .go .next [some (.ref 0), some (.int 4), some (.ref (T.length + 1)), u3, u4, none] (penO p' :: (T ++ [.lst (cs.map D.str)])) := e
  have hf := fin_list (o := penO p) (T := T) (ds := cs.map D.str) (closed_pen (T.length + 1) p') (closed_strs (T.length + 1) cs)
  refine ⟨p', cs, ?_, q1, q2, q3⟩
  unfold F_l_dyes
  rw [defF_ev, m_dyes_eq]
  generalize cs.map D.str = C1 at *
  generalize rngD 0 4 = RS at *
  simp -implicitDefEqProofs [mkOpen_ev, er, e', hf]
/-! ### each letter -/
noncomputable def er1b1 (ca : CA) : S3 := (mAsg (mBin oMulS (mBin oIx (mMake (withLen 0 (F_l_letters ca)) mNil) (mVar 0)) (mBin (oCat false) (mC (.int 1)) (mBin oMod (mVar 0) (mC (.int 8))))) (g3Name 1))
noncomputable def er1b2 (ca : CA) : S3 := (mIfS (fun σ S => asB (mBin oNe (mMake fRepr (mCons (mMeth ca.Book "strokes" (withLen 1 (F_Book_strokes ca)) (mMake (withLen 1 (F_read ca)) (mCons (mBin (oCat false) (mC (.str (Str.ofString "0 9 "))) (mVar 1)) mNil)) mNil) mNil)) (mMake fRepr (mCons (mMake mkTup (mCons (mMake mkTup (mCons (mC (.int 0)) (mCons (mC (.int 9)) (mCons (mVar 1) mNil)))) mNil)) mNil)) σ S)) (mRet (mC (.bl false))) mNext)
theorem m_each_eq (ca : CA) : m_l_each_right ca = (mSeq (mFor (mRange1 (mCons (mC (.int 26)) mNil)) (g3Name 0) (mSeq (er1b1 ca) (er1b2 ca))) (mRet (mC (.bl true)))) := rfl
theorem rep_ok {c n : Nat} (c0 : 97 ≤ c) (c1 : c ≤ 122) (n0 : 1 ≤ n) (n8 : n ≤ 8) : OkC (repS ⟨#[c]⟩ n) := by
  have e : ∀ (n : Nat) (b : Array Nat), ((List.replicate n #[c]).foldl (· ++ ·) b).toList = b.toList ++ List.replicate n c := by
    intro n
    induction n with
    | zero => intro b; simp
    | succ n ih =>
      intro b
      rw [List.replicate_succ, List.foldl_cons, ih, Array.toList_append, List.replicate_succ]
      simp
  have e1 : (repS ⟨#[c]⟩ n).cps.toList = List.replicate n c := by
    have := e n #[]
    simpa [repS] using this
  have l : (repS ⟨#[c]⟩ n).length = n := by
    show (repS ⟨#[c]⟩ n).cps.size = n
    rw [← Array.length_toList, e1, List.length_replicate]
  refine ⟨by omega, by omega, fun k hk => ?_⟩
  rw [e1] at hk
  have := List.eq_of_mem_replicate hk
  omega
theorem nine (x : Str) : Str.ofString "0 9 " ++ x = wrAll [(0, 9, x)] := by
  apply TL.ext_tl
  show TL.tl (Str.ofString "0 9 " ++ x) = TL.tl (numS 0 ++ Str.ofString " " ++ numS 9 ++ Str.ofString " " ++ x)
  simp only [TL.tl_append]
  have e : TL.tl (Str.ofString "0 9 ") = TL.tl (numS 0) ++ TL.tl (Str.ofString " ") ++ TL.tl (numS 9) ++ TL.tl (Str.ofString " ") := by decide +kernel
  rw [e]
theorem er_loop (S : Sto) : ∀ (ns : List Nat) (U : Sto) (o0 o1 : Option D), (∀ n ∈ ns, n < 26) → ∃ (U' : Sto) (u0 u1 : Option D), forD (g3Name 0) (mSeq (er1b1 ca) (er1b2 ca)) (ns.map fun k => D.int ((k : Nat) : Int)) [o0, o1] (S ++ U) = .go .next [u0, u1] (S ++ U')
  | [], U, o0, o1, _ => ⟨U, o0, o1, rfl⟩
  | n :: ns, U, o0, o1, h => by
    have hn := h n (by simp)
    obtain ⟨c, ec, c0, c1⟩ := letter (n : Int) (by omega) (by omega) (S ++ U)
    have ls := letters_ok (ca := ca) (S ++ U)
    have mo : oMod (.int (n : Int)) (.int 8) (S ++ U) = .ok (.int ((n % 8 : Nat) : Int)) (S ++ U) := by
      have : ((n % 8 : Nat) : Int) = (n : Int) % 8 := by omega
      rw [this]
      exact oMod_ev _ (by decide)
    have one : oCat false (.int 1) (.int ((n % 8 : Nat) : Int)) (S ++ U) = .ok (.int ((1 + n % 8 : Nat) : Int)) (S ++ U) := by
      have : ((1 + n % 8 : Nat) : Int) = 1 + ((n % 8 : Nat) : Int) := by omega
      rw [this]
      simp
    have mu := oMulS_ev (a := ⟨#[c]⟩) (n := 1 + n % 8) (S := S ++ U) (by omega) (by omega) (Nat.le_refl 1) (by show 1 ≤ 1000; decide)
    have ok := rep_ok (c := c) (n := 1 + n % 8) c0 c1 (by omega) (by omega)
    obtain ⟨x, hx⟩ : ∃ x, x = repS ⟨#[c]⟩ (1 + n % 8) := ⟨_, rfl⟩
    rw [← hx] at mu ok
    have q1 : er1b1 ca [some (.int (n : Int)), o1] (S ++ U) = .go .next [some (.int (n : Int)), some (.str x)] (S ++ U) := by
      unfold er1b1
      generalize Str.ofString "abcdefghijklmnopqrstuvwxyz" = AZ at *
      generalize S ++ U = T at *
      generalize ((n % 8 : Nat) : Int) = N8 at *
      generalize ((1 + n % 8 : Nat) : Int) = N9 at *
      rw [mAsg_ev, mBin_ev]
      have a1 : (mBin oIx (mMake (withLen 0 (F_l_letters ca)) mNil) (mVar 0)) [some (.int (n : Int)), o1] T = .ok (.str ⟨#[c]⟩) T := by
        simp -implicitDefEqProofs [ls, ec]
      have a2 : (mBin (oCat false) (mC (.int 1)) (mBin oMod (mVar 0) (mC (.int 8)))) [some (.int (n : Int)), o1] T = .ok (.int N9) T := by
        rw [mBin_ev, mC_ev, bin1_ev]
        have a3 : (mBin oMod (mVar 0) (mC (.int 8))) [some (.int (n : Int)), o1] T = .ok (.int N8) T := by
          rw [← mo]
          rfl
        rw [a3, bin2_ev]
        exact one
      rw [a1, bin1_ev, a2, bin2_ev, mu]
      rfl
    have os : ∀ r ∈ [((0 : Int), (9 : Int), x)], OkS r := fun r hr => by
      rw [List.mem_singleton.mp hr]
      exact ⟨Int.le_refl _, by show (0 : Int) ≤ 9; decide, by show (9 : Int) ≤ 1000000000; decide, ok⟩
    have rd := read_ok (ca := ca) os (by simp) (S ++ U)
    rw [← nine] at rd
    have B : Bk ca (S ++ U ++ [bkO ca ((S ++ U).length + 1), rsO [(0, 9, x)]]) (S ++ U).length ((S ++ U).length + 1) [(0, 9, x)] := bk_new os (by simp)
    have so := strokes_ok B
    have i1 : insAt ca.Book "strokes" (.ref (S ++ U).length) (S ++ U ++ [bkO ca ((S ++ U).length + 1), rsO [(0, 9, x)]]) = true := insAt_one B.hb (by decide +kernel)
    have so : F_Book_strokes ca [.ref (S ++ U).length] (S ++ U ++ [bkO ca ((S ++ U).length + 1), rsO [(0, 9, x)]]) = .ok (.tup [.tup [.int 0, .int 9, .str x]]) (S ++ U ++ [bkO ca ((S ++ U).length + 1), rsO [(0, 9, x)]]) := so
    have re : ∀ V : Sto, fRepr [.tup [.tup [.int 0, .int 9, .str x]]] V = .ok (.str (PyData.shown (.tuple ([((0 : Int), (9 : Int), x)].map stP)))) V := fun V => repr_sts os (by simp) V
    have ne : ∀ V : Sto, oNe (.str (PyData.shown (.tuple ([((0 : Int), (9 : Int), x)].map stP)))) (.str (PyData.shown (.tuple ([((0 : Int), (9 : Int), x)].map stP)))) V = .ok (.bl false) V := fun V => oNe_str (dat_tuple (dats_st os)).tx V
    have ct : oCat false (.str (Str.ofString "0 9 ")) (.str x) (S ++ U) = .ok (.str (Str.ofString "0 9 " ++ x)) (S ++ U) := cat_str (by
      have := ok.l8
      have l4 : (Str.ofString "0 9 ").length = 4 := by decide +kernel
      omega)
    have q2 : er1b2 ca [some (.int (n : Int)), some (.str x)] (S ++ U) = .go .next [some (.int (n : Int)), some (.str x)] (S ++ U ++ [bkO ca ((S ++ U).length + 1), rsO [(0, 9, x)]]) := by
      unfold er1b2
      generalize PyData.shown (.tuple ([((0 : Int), (9 : Int), x)].map stP)) = TX at *
      generalize Str.ofString "0 9 " ++ x = LN at *
      generalize S ++ U ++ [bkO ca ((S ++ U).length + 1), rsO [(0, 9, x)]] = T2 at *
      generalize (S ++ U).length = L at *
      generalize S ++ U = T at *
      simp -implicitDefEqProofs [ct, rd, met1_ev i1, so, re, mkTup_ev, ne]
    rw [List.append_assoc] at q2
    obtain ⟨U', u0, u1, e⟩ := er_loop S ns _ (some (.int (n : Int))) (some (.str x)) fun k hk => h k (List.mem_cons_of_mem _ hk)
    refine ⟨U', u0, u1, ?_⟩
    rw [List.map_cons, forD_cons, g3Name_ev, for2_ev]
    have es : ([o0, o1] : DL.Loc).set 0 (some (.int (n : Int))) = [some (.int (n : Int)), o1] := rfl
    rw [es, mSeq_ev, q1, seq1_next, q2, for3_next]
    exact e
theorem fin_bl (S U : Sto) (b : Bool) : fin S (.bl b) (S ++ U) = .ok (.bl b) S := by
  by_cases hu : U = []
  · subst hu
    rw [List.append_nil]
    exact fin_self
  · unfold fin
    have hk : keepOk S (S ++ U) := ⟨by simp, fun k hk => .inl (by rw [List.getElem?_append_left hk])⟩
    rw [if_neg (by simp [hu]), if_pos hk, if_pos (show closedD S.length (.bl b) = true from rfl)]
    simp
theorem each_ok (S : Sto) : F_l_each_right ca [] S = .ok (.bl true) S := by
  obtain ⟨U', u0, u1, e⟩ := er_loop (ca := ca) S (List.range 26) [] none none fun n hn => List.mem_range.mp hn
  rw [List.append_nil] at e
  have hr : rg2 0 26 S = .ok ((List.range 26).map fun k => D.int ((k : Nat) : Int)) S := rfl
  have hf := fin_bl S U' true
  unfold F_l_each_right
  rw [defF_ev, m_each_eq]
  generalize (List.range 26).map (fun k => D.int ((k : Nat) : Int)) = RR at *
  simp -implicitDefEqProofs [hr, e, hf]
end
end Lw
end

section
set_option linter.all false
set_option maxRecDepth 100000
set_option maxHeartbeats 4000000
/-! the law of writings read -/
namespace Lw
open PySem DL L2
section
variable {ca : CA}
noncomputable def la1 (ca : CA) : S3 := (mAsg (mMake (withLen 1 (F_l_pen ca)) (mCons (mVar 0) mNil)) (g3Name 1))
noncomputable def la2 (ca : CA) : S3 := (mIfS (tNot3 (fun σ S => asT ((mMake (withLen 0 (F_l_each_right ca)) mNil) σ S))) (mRet (mC (.bl false))) mNext)
noncomputable def lb1 (ca : CA) : S3 := (mPar 5 6 (mCons (mMake (withLen 2 (F_l_lot ca)) (mCons (mVar 1) (mCons (mC (.int 7)) mNil))) (mCons (mMake (withLen 2 (F_l_dyes ca)) (mCons (mVar 1) (mCons (mC (.int 4)) mNil))) mNil)))
noncomputable def lb2 (ca : CA) : S3 := (mAsg (mMake (withLen 4 (F_l_rows ca)) (mCons (mVar 1) (mCons (mVar 5) (mCons (mVar 6) (mCons (mIf3 (fun σ S => asB (mBin (oEqO ca.Book (F_Book_eq_ ca)) (mVar 2) (mC (.int 5)) σ S)) (mC (.int 59)) (mMake (withLen 2 (F_l_draw ca)) (mCons (mVar 1) (mCons (mC (.int 9)) mNil)))) mNil))))) (g3Name 3))
noncomputable def lb3 (ca : CA) : S3 := (mAsg (mMake (withLen 1 (F_l_writing ca)) (mCons (mVar 3) mNil)) (g3Name 4))
noncomputable def lb4 (ca : CA) : S3 := (mPar 7 8 (mCons (mMake (withLen 1 (F_read ca)) (mCons (mVar 4) mNil)) (mCons (mMake (withLen 1 (F_read ca)) (mCons (mVar 4) mNil)) mNil)))
noncomputable def lb5 (ca : CA) : S3 := (mIfS (tOr3 (fun σ S => asB (mBin (oOr (insAt ca.Book "__eq__") (oOwn2 ca.Book (F_Book_eq_ ca) true) oNe) (mMake fRepr (mCons (mMeth ca.Book "strokes" (withLen 1 (F_Book_strokes ca)) (mVar 7) mNil) mNil)) (mMake fRepr (mCons (mVar 3) mNil)) σ S)) (tOr3 (fun σ S => asB (mBin (oOr (insAt ca.Book "__eq__") (oOwn2 ca.Book (F_Book_eq_ ca) true) oNe) (mVar 7) (mNew ca.Book (fun ds => withLen 2 (F_Book_init_ ca) (ds ++ [])) (mCons (mVar 3) mNil)) σ S)) (fun σ S => asB (mBin (oOr (insAt ca.Book "__eq__") (oOwn2 ca.Book (F_Book_eq_ ca) true) oNe) (mMake (fOr (insAt ca.Book "__str__") (fOwnM ca.Book "__str__" (F_Book_str_ ca) okStr) fStrI) (mCons (mVar 7) mNil)) (mVar 4) σ S)))) (mRet (mC (.bl false))) mNext)
noncomputable def lb6 (ca : CA) : S3 := (mExpr (mMeth ca.Book "put" (withLen 3 (F_Book_put ca)) (mVar 7) (mCons (mC (.int 0)) (mCons (mMake mkTup (mCons (mC (.int 0)) (mCons (mC (.int 0)) (mCons (mC (.str (Str.ofString "a"))) mNil)))) mNil))))
noncomputable def lb7 (ca : CA) : S3 := (mIfS (tOr3 (fun σ S => asB (mBin (oOr (insAt ca.Book "__eq__") (oOwn2 ca.Book (F_Book_eq_ ca) true) oNe) (mMake fRepr (mCons (mMeth ca.Book "strokes" (withLen 1 (F_Book_strokes ca)) (mVar 8) mNil) mNil)) (mMake fRepr (mCons (mVar 3) mNil)) σ S)) (fun σ S => asB (mBin (oOr (insAt ca.Book "__eq__") (oOwn2 ca.Book (F_Book_eq_ ca) true) oNe) (mMake fRepr (mCons (mMeth ca.Book "strokes" (withLen 1 (F_Book_strokes ca)) (mVar 7) mNil) mNil)) (mMake fRepr (mCons (mBin (oCat false) (mMake mkTup (mCons (mMake mkTup (mCons (mC (.int 0)) (mCons (mC (.int 0)) (mCons (mC (.str (Str.ofString "a"))) mNil)))) mNil)) (mVar 3)) mNil)) σ S))) (mRet (mC (.bl false))) mNext)
noncomputable def lb (ca : CA) : S3 := (mSeq (lb1 ca) (mSeq (lb2 ca) (mSeq (lb3 ca) (mSeq (lb4 ca) (mSeq (lb5 ca) (mSeq (lb6 ca) (lb7 ca)))))))
noncomputable def la4a (ca : CA) : E3 := (mBin (oEqO ca.Book (F_Book_eq_ ca)) (mMeth ca.Book "strokes" (withLen 1 (F_Book_strokes ca)) (mMake (withLen 1 (F_read ca)) (mCons (mC (.str (Str.ofString ""))) mNil)) mNil) (mMake mkTup mNil))
noncomputable def la4b (ca : CA) : E3 := (mBin (oEqO ca.Book (F_Book_eq_ ca)) (mMeth ca.Book "strokes" (withLen 1 (F_Book_strokes ca)) (mMake (withLen 1 (F_read ca)) (mCons (mC (.str (Str.ofString "0 1000000000 zzzzzzzz"))) mNil)) mNil) (mMake mkTup (mCons (mMake mkTup (mCons (mC (.int 0)) (mCons (mBin oPow (mC (.int 10)) (mC (.int 9))) (mCons (mC (.str (Str.ofString "zzzzzzzz"))) mNil)))) mNil)))
theorem m_law_eq (ca : CA) : m_law ca = (mSeq (la1 ca) (mSeq (la2 ca) (mSeq (mFor (mRange1 (mCons (mC (.int 6)) mNil)) (g3Name 2) (lb ca)) (mRet (mAnd (la4a ca) (la4b ca)))))) := rfl
abbrev σV (s0 : D) (o2 o3 o4 o5 o6 o7 o8 : Option D) : DL.Loc := [some s0, some (.ref 0), o2, o3, o4, o5, o6, o7, o8]
theorem a_ok : OkS r0 := ⟨Int.le_refl _, Int.le_refl _, by show (0 : Int) ≤ 1000000000; decide, by
  have l : (Str.ofString "a").length = 1 := by decide +kernel
  have c : (Str.ofString "a").cps.toList = [97] := by decide +kernel
  refine ⟨by show 1 ≤ (Str.ofString "a").length; omega, by show (Str.ofString "a").length ≤ 8; omega, fun k hk => ?_⟩
  have hk : k ∈ (Str.ofString "a").cps.toList := hk
  rw [c] at hk
  have := List.mem_singleton.mp hk
  omega⟩
theorem bk_more {S : Sto} {b s : Nat} {rs : List St} (h : Bk ca S b s rs) (U : Sto) : Bk ca (S ++ U) b s rs := ⟨by
  rw [List.getElem?_append_left (List.getElem?_eq_some_iff.mp h.hb).1]
  exact h.hb, by
  rw [List.getElem?_append_left (List.getElem?_eq_some_iff.mp h.hs).1]
  exact h.hs, h.ok, h.ln⟩
theorem bk_set {S : Sto} {b s k : Nat} {rs : List St} {xs : List D} {o : Ob} (h : Bk ca S b s rs) (e : S[k]? = some (.lst xs)) (hk : k ≠ s) : Bk ca (S.set k o) b s rs := ⟨by
  have : k ≠ b := fun q => by
    have := h.hb
    rw [← q, e] at this
    cases this
  rw [List.getElem?_set_ne this]
  exact h.hb, by
  rw [List.getElem?_set_ne hk]
  exact h.hs, h.ok, h.ln⟩
theorem neS {x : Str} {n : Nat} (h : TxtOk x n) (S : Sto) : oOr (insAt ca.Book "__eq__") (oOwn2 ca.Book (F_Book_eq_ ca) true) oNe (.str x) (.str x) S = .ok (.bl false) S := by
  have : neO ca (.str x) (.str x) S = oNe (.str x) (.str x) S := neO_d rfl
  rw [show oOr (insAt ca.Book "__eq__") (oOwn2 ca.Book (F_Book_eq_ ca) true) oNe (.str x) (.str x) S = neO ca (.str x) (.str x) S from rfl, this]
  exact oNe_str h S
/-- what stands behind the drawing -/
theorem rest_ok (T : Sto) (p : Pen) {rs : List St} (h : ∀ r ∈ rs, OkS r) (hl : rs.length ≤ 60) (s0 : D) (o2 o4 o5 o6 o7 o8 : Option D) :
    ∃ (T' : Sto) (u4 u7 u8 : Option D), mSeq (lb3 ca) (mSeq (lb4 ca) (mSeq (lb5 ca) (mSeq (lb6 ca) (lb7 ca)))) (σV s0 o2 (some (.tup (rs.map stD))) o4 o5 o6 o7 o8) (penO p :: T) = .go .next (σV s0 o2 (some (.tup (rs.map stD))) u4 o5 o6 u7 u8) (penO p :: T') := by
  obtain ⟨S1, hS1⟩ : ∃ z : Sto, z = penO p :: T := ⟨_, rfl⟩
  have w := writing_ok (ca := ca) h (by omega) S1
  have tx := all_ok h
  obtain ⟨L, hL⟩ : ∃ z, z = S1.length := ⟨_, rfl⟩
  have rd1 := read_ok (ca := ca) h (by omega) S1
  rw [← hL] at rd1
  obtain ⟨S2, hS2⟩ : ∃ z : Sto, z = S1 ++ [bkO ca (L + 1), rsO rs] := ⟨_, rfl⟩
  rw [← hS2] at rd1
  have b1 : Bk ca S2 L (L + 1) rs := by rw [hS2, hL]; exact bk_new h (by omega)
  have l2 : S2.length = L + 2 := by rw [hS2, List.length_append, hL]; rfl
  have rd2 := read_ok (ca := ca) h (by omega) S2
  rw [l2] at rd2
  obtain ⟨S3, hS3⟩ : ∃ z : Sto, z = S2 ++ [bkO ca (L + 2 + 1), rsO rs] := ⟨_, rfl⟩
  rw [← hS3] at rd2
  have b2 : Bk ca S3 (L + 2) (L + 2 + 1) rs := by rw [hS3, ← l2]; exact bk_new h (by omega)
  have b13 : Bk ca S3 L (L + 1) rs := by rw [hS3]; exact bk_more b1 _
  have l3 : S3.length = L + 4 := by rw [hS3, List.length_append, l2]; rfl
  have nw := new_ok (ca := ca) (d := .tup (rs.map stD)) (rs := rs) S3 ⟨isi_tl _ _, ⟨none, rfl, trivial⟩, h, by omega⟩
  rw [withLen_ev 2 _ _ _ rfl, l3] at nw
  obtain ⟨S4, hS4⟩ : ∃ z : Sto, z = S3 ++ [bkO ca (L + 4 + 1), rsO rs] := ⟨_, rfl⟩
  rw [← hS4] at nw
  have nwS : newRes S3.length (F_Book_init_ ca [.ref S3.length, .tup (rs.map stD)] (S3 ++ [.ins ca.Book []])) = .ok (.ref (L + 4)) S4 := by rw [l3]; exact nw
  have b3 : Bk ca S4 (L + 4) (L + 4 + 1) rs := by rw [hS4, ← l3]; exact bk_new h (by omega)
  have b14 : Bk ca S4 L (L + 1) rs := by rw [hS4]; exact bk_more b13 _
  have b24 : Bk ca S4 (L + 2) (L + 2 + 1) rs := by rw [hS4]; exact bk_more b2 _
  have i1 : insAt ca.Book "strokes" (.ref L) S3 = true := insAt_one b13.hb (by decide +kernel)
  have so := strokes_ok b13
  have re : ∀ V : Sto, fRepr [.tup (rs.map stD)] V = .ok (.str (PyData.shown (.tuple (rs.map stP)))) V := fun V => repr_sts h (by omega) V
  have tr := (dat_tuple (dats_st h)).tx
  have ne1 : ∀ V : Sto, oOr (insAt ca.Book "__eq__") (oOwn2 ca.Book (F_Book_eq_ ca) true) oNe (.str (PyData.shown (.tuple (rs.map stP)))) (.str (PyData.shown (.tuple (rs.map stP)))) V = .ok (.bl false) V := fun V => neS tr V
  have ne2 : oOr (insAt ca.Book "__eq__") (oOwn2 ca.Book (F_Book_eq_ ca) true) oNe (.ref L) (.ref (L + 4)) S4 = .ok (.bl false) S4 := by
    have := neO_two b14 b3
    rw [show eqR rs rs = true from decide_eq_true rfl] at this
    exact this
  have ne3 : oOr (insAt ca.Book "__eq__") (oOwn2 ca.Book (F_Book_eq_ ca) true) oNe (.str (wrAll rs)) (.str (wrAll rs)) S4 = .ok (.bl false) S4 := neS tx S4
  have st := strOf_ok b14
  have pu := put_ok (n := 0) b14 a_ok (Nat.zero_le _)
  have er : rs.take 0 ++ [r0] ++ rs.drop 0 = r0 :: rs := by simp
  rw [er] at pu
  have pu : F_Book_put ca [.ref L, .int 0, .tup [.int 0, .int 0, .str (Str.ofString "a")]] S4 = .ok .non (S4.set (L + 1) (rsO (r0 :: rs))) := pu
  obtain ⟨S5, hS5⟩ : ∃ z : Sto, z = S4.set (L + 1) (rsO (r0 :: rs)) := ⟨_, rfl⟩
  rw [← hS5] at pu
  have h5 : ∀ r ∈ r0 :: rs, OkS r := fun r hr => (List.mem_cons.mp hr).elim (fun e => e ▸ a_ok) (h r)
  have b15 : Bk ca S5 L (L + 1) (r0 :: rs) := by rw [hS5]; exact b14.set h5 (by rw [List.length_cons]; omega)
  have b25 : Bk ca S5 (L + 2) (L + 2 + 1) rs := by rw [hS5]; exact bk_set b24 b14.hs (by omega)
  have i2 : insAt ca.Book "put" (.ref L) S4 = true := insAt_one b14.hb (by decide +kernel)
  have i3 : insAt ca.Book "strokes" (.ref (L + 2)) S5 = true := insAt_one b25.hb (by decide +kernel)
  have i4 : insAt ca.Book "strokes" (.ref L) S5 = true := insAt_one b15.hb (by decide +kernel)
  have so2 := strokes_ok b25
  have so3 := strokes_ok b15
  have re5 : ∀ V : Sto, fRepr [.tup ((r0 :: rs).map stD)] V = .ok (.str (PyData.shown (.tuple ((r0 :: rs).map stP)))) V := fun V => repr_sts h5 (by rw [List.length_cons]; omega) V
  have tr5 := (dat_tuple (dats_st h5)).tx
  have ne5 : ∀ V : Sto, oOr (insAt ca.Book "__eq__") (oOwn2 ca.Book (F_Book_eq_ ca) true) oNe (.str (PyData.shown (.tuple ((r0 :: rs).map stP)))) (.str (PyData.shown (.tuple ((r0 :: rs).map stP)))) V = .ok (.bl false) V := fun V => neS tr5 V
  have ct : oCat false (.tup [.tup [.int 0, .int 0, .str (Str.ofString "a")]]) (.tup (rs.map stD)) S5 = .ok (.tup ((r0 :: rs).map stD)) S5 := by
    have := cat_tup (op := false) (xs := [stD r0]) (ys := rs.map stD) (S := S5) (by rw [List.length_map]; simp; omega)
    exact this
  have head : ∃ T', S5 = penO p :: T' := by
    rw [hS5, hS4, hS3, hS2, hS1]
    exact ⟨_, rfl⟩
  obtain ⟨T', hT'⟩ := head
  refine ⟨T', some (.str (wrAll rs)), some (.ref L), some (.ref (L + 2)), ?_⟩
  rw [← hS1, ← hT']
  clear hT' hS1 hS2 hS3 hS4 hS5 hL b1 b2 b3 b13 b14 b24 b15 b25 l2 l3 er h5 tr tr5 tx h hl
  have q3 : lb3 ca (σV s0 o2 (some (.tup (rs.map stD))) o4 o5 o6 o7 o8) S1 = .go .next (σV s0 o2 (some (.tup (rs.map stD))) (some (.str (wrAll rs))) o5 o6 o7 o8) S1 := by
    unfold lb3 σV
    generalize wrAll rs = X at *
    generalize rs.map stD = RS at *
    simp -implicitDefEqProofs [w]
  have q4 : lb4 ca (σV s0 o2 (some (.tup (rs.map stD))) (some (.str (wrAll rs))) o5 o6 o7 o8) S1 = .go .next (σV s0 o2 (some (.tup (rs.map stD))) (some (.str (wrAll rs))) o5 o6 (some (.ref L)) (some (.ref (L + 2)))) S3 := by
    clear q3
    unfold lb4 σV
    generalize wrAll rs = X at *
    generalize rs.map stD = RS at *
    simp -implicitDefEqProofs [rd1, rd2]
  have q5 : lb5 ca (σV s0 o2 (some (.tup (rs.map stD))) (some (.str (wrAll rs))) o5 o6 (some (.ref L)) (some (.ref (L + 2)))) S3 = .go .next (σV s0 o2 (some (.tup (rs.map stD))) (some (.str (wrAll rs))) o5 o6 (some (.ref L)) (some (.ref (L + 2)))) S4 := by
    clear q3 q4
    unfold lb5 σV
    generalize oOr (insAt ca.Book "__eq__") (oOwn2 ca.Book (F_Book_eq_ ca) true) oNe = NEQ at *
    generalize fOr (insAt ca.Book "__str__") (fOwnM ca.Book "__str__" (F_Book_str_ ca) okStr) fStrI = STR at *
    generalize PyData.shown (.tuple (rs.map stP)) = TX at *
    generalize wrAll rs = X at *
    generalize rs.map stD = RS at *
    simp -implicitDefEqProofs [met1_ev i1, so, re, ne1, nwS, ne2, st, ne3]
  have q6 : lb6 ca (σV s0 o2 (some (.tup (rs.map stD))) (some (.str (wrAll rs))) o5 o6 (some (.ref L)) (some (.ref (L + 2)))) S4 = .go .next (σV s0 o2 (some (.tup (rs.map stD))) (some (.str (wrAll rs))) o5 o6 (some (.ref L)) (some (.ref (L + 2)))) S5 := by
    clear q3 q4 q5
    unfold lb6 σV
    generalize wrAll rs = X at *
    generalize rs.map stD = RS at *
    simp -implicitDefEqProofs [met1_ev i2, mkTup_ev, pu]
  have q7 : lb7 ca (σV s0 o2 (some (.tup (rs.map stD))) (some (.str (wrAll rs))) o5 o6 (some (.ref L)) (some (.ref (L + 2)))) S5 = .go .next (σV s0 o2 (some (.tup (rs.map stD))) (some (.str (wrAll rs))) o5 o6 (some (.ref L)) (some (.ref (L + 2)))) S5 := by
    clear q3 q4 q5 q6
    unfold lb7 σV
    generalize oOr (insAt ca.Book "__eq__") (oOwn2 ca.Book (F_Book_eq_ ca) true) oNe = NEQ at *
    generalize PyData.shown (.tuple (rs.map stP)) = TX at *
    generalize PyData.shown (.tuple ((r0 :: rs).map stP)) = TX5 at *
    generalize wrAll rs = X at *
    generalize (r0 :: rs).map stD = RS5 at *
    generalize rs.map stD = RS at *
    simp -implicitDefEqProofs [met1_ev i3, so2, re, ne1, met1_ev i4, so3, mkTup_ev, ct, re5, ne5]
  rw [mSeq_ev, q3, seq1_next, mSeq_ev, q4, seq1_next, mSeq_ev, q5, seq1_next, mSeq_ev, q6, seq1_next]
  exact q7
theorem lb_turn (T : Sto) (m : Nat) (p : Pen) (s0 : D) (d : Int) (o3 o4 o5 o6 o7 o8 : Option D) (hm : m + 300 < 2 ^ 31) (hp : p.nth ≤ m) :
    ∃ (p' : Pen) (T' : Sto) (u3 u4 u5 u6 u7 u8 : Option D), lb ca (σV s0 (some (.int d)) o3 o4 o5 o6 o7 o8) (penO p :: T) = .go .next (σV s0 (some (.int d)) u3 u4 u5 u6 u7 u8) (penO p' :: T') ∧ p'.nth ≤ m + 300 := by
  obtain ⟨p1, ys, e1, k1, y7, ly⟩ := lot_ok (ca := ca) T m 7 p (by omega) hp (by decide) (by decide)
  have e1 : F_l_lot ca [.ref 0, .int 7] (penO p :: T) = .ok (.lst (ys.map D.int)) (penO p1 :: T) := e1
  obtain ⟨p2, cs, e2, k2, c4, hc⟩ := dyes_ok (ca := ca) T _ p1 (by omega) k1
  have q1 : lb1 ca (σV s0 (some (.int d)) o3 o4 o5 o6 o7 o8) (penO p :: T) = .go .next (σV s0 (some (.int d)) o3 o4 (some (.lst (ys.map D.int))) (some (.lst (cs.map D.str))) o7 o8) (penO p2 :: T) := by
    unfold lb1 σV
    generalize ys.map D.int = YS at *
    generalize cs.map D.str = CS at *
    simp -implicitDefEqProofs [e1, e2]
  have eqi : oEqO ca.Book (F_Book_eq_ ca) (.int d) (.int 5) (penO p2 :: T) = .ok (.bl (d == 5)) (penO p2 :: T) := by
    have : eqO ca (.int d) (.int 5) (penO p2 :: T) = oEq (.int d) (.int 5) (penO p2 :: T) := eqO_d rfl rfl
    rw [show oEqO ca.Book (F_Book_eq_ ca) (.int d) (.int 5) (penO p2 :: T) = eqO ca (.int d) (.int 5) (penO p2 :: T) from rfl, this]
    simp
  have st2 : ∃ (p4 : Pen) (rs : List St), lb2 ca (σV s0 (some (.int d)) o3 o4 (some (.lst (ys.map D.int))) (some (.lst (cs.map D.str))) o7 o8) (penO p2 :: T) = .go .next (σV s0 (some (.int d)) (some (.tup (rs.map stD))) o4 (some (.lst (ys.map D.int))) (some (.lst (cs.map D.str))) o7 o8) (penO p4 :: T) ∧ p4.nth ≤ m + 300 ∧ rs.length ≤ 60 ∧ ∀ r ∈ rs, OkS r := by
    clear q1
    by_cases c : d = 5
    · obtain ⟨p4, rs, e4, k4, r1, r2⟩ := rows_ok (ca := ca) T _ 59 p2 ys cs ly hc (by omega) k2 (by omega) (by omega) (by omega) (by omega) (by omega)
      have e4 : F_l_rows ca [.ref 0, .lst (ys.map D.int), .lst (cs.map D.str), .int 59] (penO p2 :: T) = .ok (.tup (rs.map stD)) (penO p4 :: T) := e4
      refine ⟨p4, rs, ?_, by omega, by omega, r2⟩
      have b : (d == 5) = true := by simpa using c
      rw [b] at eqi
      unfold lb2 σV
      generalize oEqO ca.Book (F_Book_eq_ ca) = EQ at *
      generalize rs.map stD = RS at *
      generalize ys.map D.int = YS at *
      generalize cs.map D.str = CS at *
      simp -implicitDefEqProofs [eqi, e4]
    · obtain ⟨v, p3, e3, v0, v1, k3⟩ := draw_ok (ca := ca) _ p2 T 9 (by omega) k2 (by decide) (by decide)
      obtain ⟨v, rfl⟩ : ∃ j : Nat, v = (j : Int) := ⟨v.toNat, by omega⟩
      obtain ⟨p4, rs, e4, k4, r1, r2⟩ := rows_ok (ca := ca) T _ v p3 ys cs ly hc (by omega) k3 (by omega) (by omega) (by omega) (by omega) (by omega)
      refine ⟨p4, rs, ?_, by omega, by omega, r2⟩
      have b : (d == 5) = false := by simpa using c
      rw [b] at eqi
      unfold lb2 σV
      generalize oEqO ca.Book (F_Book_eq_ ca) = EQ at *
      generalize rs.map stD = RS at *
      generalize ys.map D.int = YS at *
      generalize cs.map D.str = CS at *
      simp -implicitDefEqProofs [eqi, e3, e4]
  obtain ⟨p4, rs, q2, k4, r1, r2⟩ := st2
  obtain ⟨T', u4, u7, u8, q3⟩ := rest_ok (ca := ca) T p4 r2 r1 s0 (some (.int d)) o4 (some (.lst (ys.map D.int))) (some (.lst (cs.map D.str))) o7 o8
  refine ⟨p4, T', some (.tup (rs.map stD)), u4, some (.lst (ys.map D.int)), some (.lst (cs.map D.str)), u7, u8, ?_, k4⟩
  unfold lb
  rw [mSeq_ev, q1, seq1_next, mSeq_ev, q2, seq1_next]
  exact q3
theorem lb_loop (s0 : D) : ∀ (ds : List Int) (T : Sto) (m : Nat) (p : Pen) (o2 o3 o4 o5 o6 o7 o8 : Option D), m + 300 * ds.length < 2 ^ 31 → p.nth ≤ m →
    ∃ (σ : DL.Loc) (p' : Pen) (T' : Sto), forD (g3Name 2) (lb ca) (ds.map D.int) (σV s0 o2 o3 o4 o5 o6 o7 o8) (penO p :: T) = .go .next σ (penO p' :: T')
  | [], T, m, p, o2, o3, o4, o5, o6, o7, o8, _, _ => ⟨_, p, T, rfl⟩
  | d :: ds, T, m, p, o2, o3, o4, o5, o6, o7, o8, hm, hp => by
    rw [List.length_cons] at hm
    obtain ⟨p1, T1, u3, u4, u5, u6, u7, u8, e, k⟩ := lb_turn (ca := ca) T m p s0 d o3 o4 o5 o6 o7 o8 (by omega) hp
    obtain ⟨σ, p', T', e2⟩ := lb_loop s0 ds T1 (m + 300) p1 (some (.int d)) u3 u4 u5 u6 u7 u8 (by omega) k
    refine ⟨σ, p', T', ?_⟩
    rw [List.map_cons, forD_cons, g3Name_ev, for2_ev]
    have es : (σV s0 o2 o3 o4 o5 o6 o7 o8).set 2 (some (.int d)) = (σV s0 (some (.int d)) o3 o4 o5 o6 o7 o8) := rfl
    rw [es, e, for3_next]
    exact e2
theorem pen_ok (ns : List Int) (hl : ns.length ≤ 63) : F_l_pen ca [.wl (ns.map D.int)] [] = .ok (.ref 0) [penO ⟨ns.take 60, 0, 0⟩] := by
  have e1 : slD false (.wl (ns.map D.int)) none (some 60) [] = .ok (.lst ((ns.take 60).map D.int)) [] := by
    show mkLst (cutG (ns.map D.int) none (some ((60 : Nat) : Int))) [] = _
    rw [cut_to, ← List.map_take]
    exact mkLst_ev (by simp; omega)
  have e2 : fList [.lst ((ns.take 60).map D.int)] [] = .ok (.lst ((ns.take 60).map D.int)) [] := mkLst_ev (by simp; omega)
  unfold F_l_pen m_l_pen
  rw [defF_ev]
  show _ = Rs.ok (D.ref 0) [Ob.lst [D.lst ((ns.take 60).map D.int), .int 0, .int 0]]
  generalize (ns.take 60).map D.int = NS at *
  simp -implicitDefEqProofs [e1, e2, mkOpen_ev]
def z8 : St := (0, 1000000000, Str.ofString "zzzzzzzz")
theorem z_ok : ∀ r ∈ [z8], OkS r := fun r hr => by
  rw [List.mem_singleton.mp hr]
  have l : (Str.ofString "zzzzzzzz").length = 8 := by decide +kernel
  have c : (Str.ofString "zzzzzzzz").cps.toList = List.replicate 8 122 := by decide +kernel
  refine ⟨Int.le_refl _, by show (0 : Int) ≤ 1000000000; decide, Int.le_refl _, by show 1 ≤ (Str.ofString "zzzzzzzz").length; omega, by show (Str.ofString "zzzzzzzz").length ≤ 8; omega, fun k hk => ?_⟩
  have hk : k ∈ (Str.ofString "zzzzzzzz").cps.toList := hk
  rw [c] at hk
  have := List.eq_of_mem_replicate hk
  omega
theorem z_wr : wrAll [z8] = Str.ofString "0 1000000000 zzzzzzzz" := by decide +kernel
theorem four_a (σ : DL.Loc) (S : Sto) : ∃ S', la4a ca σ S = .ok (.bl true) S' := by
  have h : ∀ r ∈ ([] : List St), OkS r := fun _ h => nomatch h
  have rd := read_ok (ca := ca) h (by simp) S
  have e0 : wrAll [] = Str.ofString "" := by decide +kernel
  rw [e0] at rd
  have B : Bk ca (S ++ [bkO ca (S.length + 1), rsO []]) S.length (S.length + 1) [] := bk_new h (by simp)
  have so := strokes_ok B
  have i1 : insAt ca.Book "strokes" (.ref S.length) (S ++ [bkO ca (S.length + 1), rsO []]) = true := insAt_one B.hb (by decide +kernel)
  have eq : ∀ V : Sto, oEqO ca.Book (F_Book_eq_ ca) (.tup (([] : List St).map stD)) (.tup []) V = .ok (.bl true) V := fun V => by
    have a : eqO ca (.tup (([] : List St).map stD)) (.tup (([] : List St).map stD)) V = oEq (.tup (([] : List St).map stD)) (.tup (([] : List St).map stD)) V := eqO_d rfl rfl
    have b := eq_tups (rs := []) (qs := []) h h V
    rw [← a] at b
    exact b
  refine ⟨S ++ [bkO ca (S.length + 1), rsO []], ?_⟩
  unfold la4a
  generalize oEqO ca.Book (F_Book_eq_ ca) = EQ at *
  generalize Str.ofString "" = X at *
  generalize ([] : List St).map stD = RS at *
  generalize S ++ [bkO ca (S.length + 1), rsO []] = S2 at *
  simp -implicitDefEqProofs [rd, met1_ev i1, so, mkTup_ev, eq]
theorem four_b (σ : DL.Loc) (S : Sto) : ∃ S', la4b ca σ S = .ok (.bl true) S' := by
  have rd := read_ok (ca := ca) z_ok (by simp) S
  rw [z_wr] at rd
  have B : Bk ca (S ++ [bkO ca (S.length + 1), rsO [z8]]) S.length (S.length + 1) [z8] := bk_new z_ok (by simp)
  have so := strokes_ok B
  have i1 : insAt ca.Book "strokes" (.ref S.length) (S ++ [bkO ca (S.length + 1), rsO [z8]]) = true := insAt_one B.hb (by decide +kernel)
  have p9 : ∀ S : Sto, oPow (.int 10) (.int 9) S = .ok (.int 1000000000) S := fun S => oPow_ev S (by decide) (by decide) (by decide)
  have eq : ∀ V : Sto, oEqO ca.Book (F_Book_eq_ ca) (.tup [.tup [.int 0, .int 1000000000, .str (Str.ofString "zzzzzzzz")]]) (.tup [.tup [.int 0, .int 1000000000, .str (Str.ofString "zzzzzzzz")]]) V = .ok (.bl true) V := fun V => by
    have a : eqO ca (.tup ([z8].map stD)) (.tup ([z8].map stD)) V = oEq (.tup ([z8].map stD)) (.tup ([z8].map stD)) V := eqO_d rfl rfl
    have b := eq_tups (rs := [z8]) (qs := [z8]) z_ok z_ok V
    rw [← a, show eqR [z8] [z8] = true from decide_eq_true rfl] at b
    exact b
  have so : F_Book_strokes ca [.ref S.length] (S ++ [bkO ca (S.length + 1), rsO [z8]]) = .ok (.tup [.tup [.int 0, .int 1000000000, .str (Str.ofString "zzzzzzzz")]]) (S ++ [bkO ca (S.length + 1), rsO [z8]]) := so
  refine ⟨S ++ [bkO ca (S.length + 1), rsO [z8]], ?_⟩
  unfold la4b
  generalize oEqO ca.Book (F_Book_eq_ ca) = EQ at *
  generalize Str.ofString "0 1000000000 zzzzzzzz" = X at *
  generalize Str.ofString "zzzzzzzz" = Z at *
  generalize S ++ [bkO ca (S.length + 1), rsO [z8]] = S2 at *
  simp -implicitDefEqProofs [rd, met1_ev i1, so, mkTup_ev, p9, eq]
theorem law_true (ca : CA) (ns : List Int) (hl : ns.length ≤ 63) : ∃ S', F_law ca [.wl (ns.map D.int)] [] = .ok (.bl true) S' := by
  obtain ⟨s0, hs0⟩ : ∃ z, z = D.wl (ns.map D.int) := ⟨_, rfl⟩
  obtain ⟨σ, p', T', e⟩ := lb_loop (ca := ca) s0 [0, 1, 2, 3, 4, 5] [] 0 ⟨ns.take 60, 0, 0⟩ none none none none none none none (by decide) (Nat.le_refl _)
  have hr : rg2 0 6 [penO ⟨ns.take 60, 0, 0⟩] = .ok (([0, 1, 2, 3, 4, 5] : List Int).map D.int) [penO ⟨ns.take 60, 0, 0⟩] := rfl
  have hp := pen_ok (ca := ca) ns hl
  have ea := each_ok (ca := ca) [penO ⟨ns.take 60, 0, 0⟩]
  obtain ⟨S6, f1⟩ := four_a (ca := ca) σ (penO p' :: T')
  obtain ⟨S7, f2⟩ := four_b (ca := ca) σ S6
  rw [← hs0] at hp
  have hf := fin_all (d := .bl true) S7 rfl
  refine ⟨[], ?_⟩
  unfold F_law
  rw [defF_ev, m_law_eq, ← hs0]
  unfold σV at e
  unfold la1 la2
  generalize la4a ca = A4 at *
  generalize la4b ca = B4 at *
  generalize ([0, 1, 2, 3, 4, 5] : List Int).map D.int = NS at *
  simp -implicitDefEqProofs [hp, ea, hr, e, f1, f2, hf]
end
end Lw
end

open PySem PySem.W PyProof.Rows
set_option maxHeartbeats 0 in
theorem PySem.Challenge.cw_pastlay_k12_writings_read_holds : PySem.Challenge.rw_pastlay_k12_writings_read.Holds := by
  w_on; o_law; k_head; (case hw => w_witness2)
  k_fill
  refine DL.walk3C (l := PySem.Challenge.rw_pastlay_k12_writings_read) (n := 63) (k := 10) (x := "script") (F := Lw.F_law) rfl (by decide) rfl ⟨⟨rfl, by decide, by decide⟩, rfl⟩ (fun w h Y => PySem.W.kIn_of Y) ?G (fun ca ns hl => Lw.law_true ca ns hl)
  case G =>
    intro w mg fa h KX G hmg
    refine' Lw.all_mk KX G hmg ?A_Book ?A_BadStroke ?A_NoSlot ?G1_Book ?G2_Book ?G3_Book ?G4_Book ?G5_Book ?G6_Book ?N_Book_0 ?J0_Book ?J1_Book ?J2_Book ?J3_Book ?J4_Book ?E0_Book ?E1_Book ?S0_Book ?S1_Book ?S2_Book ?S3_Book ?S4_Book ?S5_Book ?X1_BadStroke ?X2_BadStroke ?X3_BadStroke ?X4_BadStroke ?X1_NoSlot ?X2_NoSlot ?X3_NoSlot ?X4_NoSlot ?a_0 ?i_0 ?l_0 ?e_0 ?k_0 ?a_1 ?l_1 ?e_1 ?k_1 ?a_2 ?l_2 ?e_2 ?k_2 ?a_3 ?l_3 ?e_3 ?k_3 ?a_4 ?l_4 ?e_4 ?k_4 ?a_5 ?l_5 ?e_5 ?k_5 ?a_6 ?l_6 ?e_6 ?k_6 ?a_7 ?l_7 ?e_7 ?k_7 ?a_8 ?l_8 ?e_8 ?k_8 ?a_9 ?l_9 ?e_9 ?k_9 ?a_10 ?l_10 ?e_10 ?k_10 ?a_11 ?l_11 ?e_11 ?k_11 ?a_12 ?i_12 ?l_12 ?e_12 ?k_12 ?t_12 ?u_12 ?a_13 ?l_13 ?e_13 ?k_13 ?a_14 ?i_14 ?l_14 ?e_14 ?k_14 ?a_15 ?l_15 ?e_15 ?k_15 ?a_16 ?l_16 ?e_16 ?k_16 ?a_17 ?l_17 ?e_17 ?k_17 ?a_18 ?l_18 ?e_18 ?k_18 ?a_19 ?l_19 ?e_19 ?k_19 ?a_20 ?i_20 ?l_20 ?e_20 ?k_20 ?a_21 ?l_21 ?e_21 ?k_21 ?a_22 ?l_22 ?e_22 ?k_22 ?a_23 ?l_23 ?e_23 ?k_23 ?a_24 ?i_24 ?l_24 ?e_24 ?k_24 ?a_25 ?l_25 ?e_25 ?k_25 ?z_0 ?z_1 ?z_2 ?z_3 ?z_4 ?z_5 ?z_6 ?z_7 ?z_8 ?z_9 ?z_10 ?y_0
    (case A_Book => k_is); (case A_BadStroke => k_is); (case A_NoSlot => k_is); (case G1_Book => k_is); (case G2_Book => k_is); (case G3_Book => k_is); (case G4_Book => k_is); (case G5_Book => k_is); (case G6_Book => k_is); (case N_Book_0 => k_is); (case J0_Book => k_is); (case J1_Book => k_is); (case J2_Book => k_is); (case J3_Book => k_is); (case J4_Book => k_is); (case E0_Book => k_is); (case E1_Book => k_is); (case S0_Book => k_is); (case S1_Book => k_is); (case S2_Book => k_is); (case S3_Book => k_is); (case S4_Book => k_is); (case S5_Book => k_is); (case X1_BadStroke => k_exc); (case X2_BadStroke => k_is); (case X3_BadStroke => k_is); (case X4_BadStroke => k_is); (case X1_NoSlot => k_exc); (case X2_NoSlot => k_is); (case X3_NoSlot => k_is); (case X4_NoSlot => k_is); (case a_0 => k_is); (case i_0 => k_is); (case l_0 => k_is); (case e_0 => k_is); (case k_0 => k_is); (case a_1 => k_is); (case l_1 => k_is); (case e_1 => k_is); (case k_1 => k_is); (case a_2 => k_is); (case l_2 => k_is); (case e_2 => k_is); (case k_2 => k_is); (case a_3 => k_is); (case l_3 => k_is); (case e_3 => k_is); (case k_3 => k_is); (case a_4 => k_is); (case l_4 => k_is); (case e_4 => k_is); (case k_4 => k_is); (case a_5 => k_is); (case l_5 => k_is); (case e_5 => k_is); (case k_5 => k_is); (case a_6 => k_is); (case l_6 => k_is); (case e_6 => k_is); (case k_6 => k_is); (case a_7 => k_is); (case l_7 => k_is); (case e_7 => k_is); (case k_7 => k_is); (case a_8 => k_is); (case l_8 => k_is); (case e_8 => k_is); (case k_8 => k_is); (case a_9 => k_is); (case l_9 => k_is); (case e_9 => k_is); (case k_9 => k_is); (case a_10 => k_is); (case l_10 => k_is); (case e_10 => k_is); (case k_10 => k_is); (case a_11 => k_is); (case l_11 => k_is); (case e_11 => k_is); (case k_11 => k_is); (case a_12 => k_is); (case i_12 => k_is); (case l_12 => k_is); (case e_12 => k_is); (case k_12 => k_is); (case t_12 => k_is); (case u_12 => k_is); (case a_13 => k_is); (case l_13 => k_is); (case e_13 => k_is); (case k_13 => k_is); (case a_14 => k_is); (case i_14 => k_is); (case l_14 => k_is); (case e_14 => k_is); (case k_14 => k_is); (case a_15 => k_is); (case l_15 => k_is); (case e_15 => k_is); (case k_15 => k_is); (case a_16 => k_is); (case l_16 => k_is); (case e_16 => k_is); (case k_16 => k_is); (case a_17 => k_is); (case l_17 => k_is); (case e_17 => k_is); (case k_17 => k_is); (case a_18 => k_is); (case l_18 => k_is); (case e_18 => k_is); (case k_18 => k_is); (case a_19 => k_is); (case l_19 => k_is); (case e_19 => k_is); (case k_19 => k_is); (case a_20 => k_is); (case i_20 => k_is); (case l_20 => k_is); (case e_20 => k_is); (case k_20 => k_is); (case a_21 => k_is); (case l_21 => k_is); (case e_21 => k_is); (case k_21 => k_is); (case a_22 => k_is); (case l_22 => k_is); (case e_22 => k_is); (case k_22 => k_is); (case a_23 => k_is); (case l_23 => k_is); (case e_23 => k_is); (case k_23 => k_is); (case a_24 => k_is); (case i_24 => k_is); (case l_24 => k_is); (case e_24 => k_is); (case k_24 => k_is); (case a_25 => k_is); (case l_25 => k_is); (case e_25 => k_is); (case k_25 => k_is); (case z_0 => k_is); (case z_1 => k_is); (case z_2 => k_is); (case z_3 => k_is); (case z_4 => k_is); (case z_5 => k_is); (case z_6 => k_is); (case z_7 => k_is); (case z_8 => k_is); (case z_9 => k_is); (case z_10 => k_is); (case y_0 => k_is)
